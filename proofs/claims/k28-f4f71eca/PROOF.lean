import PyProof.Rows.All
import Wide.All
import OpenK.AllK
import Wide.FinOn
import Lean
import PyProof.EqAt
import PyProof.EqKinds
import PyProof.TupleCall
import PyProof.AttrMiss
import PyProof.IsiH_list
import PyProof.ZipIter
import PyProof.P3In
import PySem.Challenge.RW_everyrow_k28_whole_shortest_inputs
set_option genSizeOf false
set_option compiler.extract_closed false
set_option Elab.async false
set_option linter.all false
set_option maxRecDepth 100000
open PySem.W renaming Frag->zaa,nsIn->zaN,mg_none_of->zaR,findIn->zaS,kia_one->zba,emptyDict->zbf,instObj->zbr,fnOf->zbs,keepIn->zbv,mg_of->zbE,kla_obj->zbR,envX->zb0,codeIn->zb5,hasDictIn->zcb,tabIn->zcf,plainGet->zci,exmOne->zcu,callWith_K->zcx,methodObj->zcy,plainOver->zcz,takerIn->zcS,makesIn->zcT,cellsFrom_some->zcY,lookIn->zc5,kitOne->zc6,kla_fn->zc7,tabObj->zc8,excIn->zdc,pyHash_slot->zdg
open PySem.Str renaming ofString->zab
open List renaming getElem?_eq_getElem->zac,length_map->zad,length_append->zae,mem_cons->zag,length_cons->zah,getElem?_eq_some_iff->zak,getElem?_map->zal,map_cons->zam,getD_eq_getElem?_getD->zap,mem_cons_self->zaq,mem_singleton->zar,size_toArray->zas,mem_cons_of_mem->zat,getElem_mem->zau,append_nil->zav,map_append->zaw,length_singleton->zax,mem_append->zaA,length_nil->zaB,nodup_cons->zaE,mem_map->zaF,flatMap_cons->zaG,range->zaH,mem_of_getElem?->zaI,cons_append->zaJ,nil_append->zaK,mem_append_right->zaL,take_succ_eq_append_getElem->zaQ,set->zaT,take_length->zaU,length_eq_zero_iff->zaV,lookup_cons->zaX,append_assoc->za1,map_nil->za2,filter_append->za3,length->za5,not_mem_nil->za6,flatMap_append->za8,forIn_cons->za9,mem_flatMap->zbc,zipWith->zbd,pairwise_map->zbe,length_pos_iff->zbg,length_reverse->zbh,map_map->zbj,flatMap_nil->zbk,lookup->zbl,reverse_cons->zbm,length_range->zbt,getElem_map->zbu,take_of_length_le->zbw,range_succ->zbz,getElem?_eq_none->zbA,take_append_drop->zbB,getElem?_append_right->zbC,take_add_one->zbG,drop_eq_getElem_cons->zbH,pairwise_append->zbI,pairwise_iff_getElem->zbJ,mem_of_mem_take->zbK,forIn_nil->zbL,length_drop->zbN,find?_cons->zbQ,nodup_append->zbS,mem_append_left->zbT,length_take->zbU,ext_getElem->zbV,any_cons->zbW,getElem?_append_left->zbX,mem_range->zb3,nodup_nil->zb4,getElem?_cons_succ->zb6,getElem?_set_self->zcc,length_eq_one_iff->zcd,getElem?_set_ne->zcm,mem_iff_getElem->zco,dropLast_concat->zcp,filterMap_cons->zcq,replicate->zcr,getLast?_eq_getElem?->zcA,filter_cons->zcF,mem_nil_iff->zcG,getElem_append_left->zcH,isEmpty_iff->zcJ,getElem?_replicate->zcL,getLast?_singleton->zcM,of_mem_zip->zcO,length_set->zcP,head?_drop->zcQ,drop_eq_nil_of_le->zcV,zipWith_cons_cons->zcW,length_replicate->zcZ,drop_zero->zc0,length_filter_le->zc1,drop_drop->zc2,take_zero->zc4,drop_eq_nil_iff->zc9,getLast?_append->zda,take_succ_cons->zdd,cons->zdi
open Nat renaming le_refl->zaf,le_trans->zay,lt_of_lt_of_le->zaC,ne_of_lt->zaD,lt_irrefl->zaW,zero_le->zaZ,pow_le_pow_right->za4,zero_add->zbx,le_succ_of_le->zbF,ne_of_gt->zbM,lt_of_le_of_lt->zbP,one_le_two_pow->zbY,lt_succ_of_lt->zca,le_of_lt->zcl,min_eq_left->zcn,eq_zero_or_pos->zcv,lt_succ_self->zcB,pow_succ->zcE,mul_le_mul->zc3,mul_le_mul_left->zde
open Bool renaming false_ne_true->zai,false_eq_true->zaz,and_eq_true->zbb,not_true->zbD,eq_iff_iff->zbO,and_true->zdb
open PySem.F renaming plainAttrs_list->zaj,slot_list_append->zan,type_list_append->zao,args_tuple_add_2->zbZ,slot_list_extend->zb1,type_list_extend->zb2,entry_tuple_add->zb7,plainAttrs_dict->zb8,slot_tuple_add->zce,slot_list_pop->zcj,type_list_pop->zck,slot_dict_setdefault->zct,slot_dict_update->zcK,slot_dict_items->zcN
open Int renaming emod_lt_of_pos->zaM,emod_nonneg->zaP,toNat_natCast->za0,zero_add->zcI,toNat_of_nonneg->zdf
open Option renaming some->zaO,map_some->zbn,toList_some->zby,isSome_map->zb9,getD_none->zcg,getD_some->zch,none_or->zcs,isSome_iff_exists->zcC,map_eq_some_iff->zcU,none->zdj
open Array renaming getElem?_toList->zaY,length_toList->za7,getElem?_eq_getElem->zbi,forIn_toList->zcw,replicate->zcR,getElem?_eq_none->zcX,toList->zdh
open PyProof.Rows renaming callWith_type1->zbo,slot_tuple_getitem->zbp
open Or renaming inl->zbq,inr->zcD
open PySem renaming Addr->zdk,Value->zdl,World->zdm,wpAny_bind->zdn,wpAny_pure->zdo,wpAny_holding->zdp,starEach->zdq,mainGlobals->zdr,sizeLine->zds,FuncData->zdt,Shared->zdu,Around->zdv,Program->zdw
abbrev zzn:=@if_neg
abbrev zzp:=@if_pos
noncomputable abbrev zzb:=@absurd
noncomputable section
namespace L2
open PySem PySem.Spec PyProof.Rows
abbrev Key:=Sum Int Str
noncomputable def sQ:Key->zdl->Bool
 |.inl k,v=>Value.isInt k v
 |.inr x,v=>Value.isStrOf x v
noncomputable def M1 (w:zdm):Key->Int
 |.inl k=>hashInt k
 |.inr x=>hashStr w x
theorem df:∀ {k:Key} {v:zdl},sQ k v=true->(∃i t,k=Sum.inl i/\v=Value.int i t)\/(∃x t,k=Sum.inr x/\v=Value.str x t)
 |.inl i,v,h=>by
  obtain⟨t,e⟩:=Value.isInt_shape (k:=i) (v:=v) h;exact .inl ⟨i,t,rfl,e⟩
 |.inr x,v,h=>by
  obtain⟨t,e⟩:=Value.isStrOf_shape (x:=x) (v:=v) h;exact .inr ⟨x,t,rfl,e⟩
theorem zw(i:Int)(t:Tok):sQ (.inl i) (.int i t)=true:=by simp[sQ,Value.isInt]
theorem zx(x:Str)(t:Tok):sQ (.inr x) (.str x t)=true:=by simp[sQ,Value.isStrOf]
theorem w4(a b:Int):decide ((Sum.inl a:Key)=Sum.inl b)=(a==b):=by
 by_cases e:a=b
 ·subst e;simp
 ·have h:¬(Sum.inl a:Key)=Sum.inl b:=fun q=>e (Sum.inl.inj q);rw[decide_eq_false h];exact(beq_eq_false_iff_ne.mpr e).symm
theorem Ji(a b:Str):decide ((Sum.inr a:Key)=Sum.inr b)=decide (a=b):=by
 by_cases e:a=b
 ·subst e;simp
 ·have h:¬(Sum.inr a:Key)=Sum.inr b:=fun q=>e (Sum.inr.inj q);rw[decide_eq_false h,decide_eq_false e]
theorem DG(a:Int)(b:Str):decide ((Sum.inl a:Key)=Sum.inr b)=false:=decide_eq_false (fun q=>nomatch q)
theorem DH(a:Str)(b:Int):decide ((Sum.inr a:Key)=Sum.inl b)=false:=decide_eq_false (fun q=>nomatch q)
def bT (prog:zdw) (w:zdm):PySem.KeyKind prog w Key where
 is:=sQ
 hash:=M1 w
 inj:=fun v a b ha hb=>by
  rcases df ha with ⟨i,t,rfl,rfl⟩ |⟨x,t,rfl,rfl⟩
  ·rcases df hb with ⟨j,u,rfl,e⟩ |⟨y,u,rfl,e⟩
   ·injection e with e1 _;rw[e1]
   ·exact nomatch e
  ·rcases df hb with ⟨j,u,rfl,e⟩ |⟨y,u,rfl,e⟩
   ·exact nomatch e
   ·injection e with e1 _;rw[e1]
 byValue:=fun k v h=>by
  rcases df h with ⟨i,t,rfl,rfl⟩ |⟨x,t,rfl,rfl⟩<;>rfl
 pyHash:=fun hv h=>by
  rcases df hv with ⟨i,t,rfl,rfl⟩ |⟨x,t,rfl,rfl⟩
  ·exact wpAny_pyHash_int h
  ·exact wpAny_pyHash_str h
 eqBool:=fun hu hv h=>by
  rcases df hu with ⟨i,t,rfl,rfl⟩ |⟨x,t,rfl,rfl⟩
  ·rcases df hv with ⟨j,u,rfl,rfl⟩ |⟨y,u,rfl,rfl⟩
   ·rw[w4] at h;exact wpAny_eqBool_int h
   ·rw[DG] at h;exact SeqAt.EqAt.int_str i t y u _ _ _ _ h
  ·rcases df hv with ⟨j,u,rfl,rfl⟩ |⟨y,u,rfl,rfl⟩
   ·rw[DH] at h;exact SeqAt.EqAt.str_int x t j u _ _ _ _ h
   ·rw[Ji] at h;exact wpAny_eqBool_str h
 «strs»:=fun k x t v h=>by
  rcases df h with ⟨i,u,rfl,e⟩ |⟨y,u,rfl,e⟩
  ·exact nomatch e
  ·injection e with e1 _
   subst e1;cases v<;>rfl
theorem BV(prog:zdw)(w:zdm)(i:Int)(t:Tok):(bT prog w).is (.inl i) (.int i t)=true:=zw i t
theorem BW(prog:zdw)(w:zdm)(x:Str)(t:Tok):(bT prog w).is (.inr x) (.str x t)=true:=zx x t
inductive V where
 |cB |bl (b:Bool) |int (i:Int) |str (x:Str) |Fv (b:Array UInt8) |Qr (b:UInt64) |ref (a:zdk) |ty (n:String)
 deriving DecidableEq
def RelV:V->zdl->Prop
 |.cB,u=>u=Value.none
 |.bl b,u=>u=Value.bool b
 |.int i,u=>∃t,u=Value.int i t
 |.str x,u=>∃t,u=Value.str x t
 |.Fv b,u=>∃t,u=Value.bytes b t
 |.Qr b,u=>∃t,u=Value.float b t
 |.ref a,u=>u=Value.ref a
 |.ty n,u=>u=Value.type n
abbrev Vals:List V->List zdl->Prop:=Paired RelV
theorem Vals.length{xs:List V}{us:List zdl}(r:Vals xs us):xs.length=us.length:=Paired.length r
theorem Vals.get:∀ {xs:List V} {us:List zdl} {i:Nat} {x:V},Vals xs us->xs[i]?=some x->∃u,us[i]?=some u/\RelV x u
 |_,_,_,_,.nil,e=>by simp at e
 |_,_,0,_,.cons r _,e=>by simp at e;subst e;exact⟨_,rfl,r⟩
 |_,_,i+1,x,.cons _ t,e=>by
  obtain⟨u,h1,h2⟩:=Vals.get (i:=i) (x:=x) t (by simpa using e);exact⟨u,by simpa using h1,h2⟩
theorem Vals.set{x:V}{u:zdl}(r:RelV x u):∀ {xs:List V} {us:List zdl} (i:Nat),Vals xs us->Vals (xs.set i x) (us.set i u)
 |_,_,_,.nil=>.nil
 |_,_,0,.cons _ t=>.cons r t
 |_,_,i+1,.cons q t=>.cons q (Vals.set r i t)
theorem Vals.append:∀ {xs ys:List V} {us ws:List zdl},Vals xs us->Vals ys ws->Vals (xs++ys) (us++ws)
 |_,_,_,_,.nil,s=>s
 |_,_,_,_,.cons r t,s=>.cons r (Vals.append t s)
theorem Vals.take:∀ {xs:List V} {us:List zdl} (n:Nat),Vals xs us->Vals (xs.take n) (us.take n)
 |_,_,0,_=>.nil
 |_,_,_+1,.nil=>.nil
 |_,_,n+1,.cons r t=>.cons r (Vals.take n t)
theorem Vals.drop:∀ {xs:List V} {us:List zdl} (n:Nat),Vals xs us->Vals (xs.drop n) (us.drop n)
 |_,_,0,r=>r
 |_,_,_+1,.nil=>.nil
 |_,_,n+1,.cons _ t=>Vals.drop n t
def rA:Option V->Option zdl->Prop
 |some v,some u=>RelV v u
 |none,none=>True
 |_,_=>False
def KV {κ:Type}:List (κ×V)->List (κ×zdl)->Prop:=Paired fun (p:κ×V) (q:κ×zdl)=>p.1=q.1/\RelV p.2 q.2
noncomputable def kV:Key->V
 |.inl i=>.int i
 |.inr x=>.str x
inductive HO where
 |lst (xs:List V)
 |tup (xs:List V)
 |dK (ax:List (Key×V)) |dT (ax:List (List Key×V))
 |set (S:Int->Bool) (n:Nat)
 |ins (C dx:zdk) (fs:List (Str×V))
 |own (x:zdk)
 |xd (fs:List (Str×V))
 |met (f x:zdk)
 |XE (lo hi:Int)
 |Fw (o:Obj) (u:HO)
 |rE (ps:Array zdl)
 |ext (φ:Heap->Prop)
abbrev Hp:=zdk->Option HO
noncomputable def upd (H:Hp) (a:zdk) (o:HO):Hp:=fun b=>if b=a then some o else H b
theorem ae{H:Hp}{a:zdk}{o:HO}:upd H a o a=some o:=by unfold upd;rw[zzp rfl]
theorem aw{H:Hp}{a b:zdk}{o:HO}(h:b≠a):upd H a o b=H b:=by unfold upd;rw[zzn h]
theorem M3{H:Hp}{a:zdk}{o u:HO}:upd (upd H a o) a u=upd H a u:=by
 funext b;unfold upd;split<;>rfl
theorem bU{H:Hp}{a b:zdk}{o u:HO}(h:H a=some o)(h':H b=some u)(d:o≠u):a≠b:=by
 intro e;subst e;rw[h] at h';exact d (zaO.inj h')
theorem ai{H:Hp}{a b:zdk}{o:HO}(h:H a=some o)(h':H b=none):a≠b:=by
 intro e;subst e;rw[h] at h';cases h'
section
variable(P:zdw)(w:zdm)
def dg (H:Hp) (h:Heap) (a:zdk):HO->Prop
 |.lst xs=>xs.length<=zds/\∃(bC:List zdl) (n:Nat),Vals xs bC/\h.get? a=some {cls:=.type "list",data:=.seq bC.toArray n}
 |.tup xs=>xs.length<=zds/\∃bC:List zdl,Vals xs bC/\IsTup h a bC.toArray
 |.dK ax=>ax.length<=zds/\(a==sysModules)=false/\∃vs,KV ax vs/\h.DictOf (bT P w) a vs
 |.dT ax=>ax.length<=zds/\(a==sysModules)=false/\∃xs:List (List Key×zdk×zdl),
  Paired (fun (p:List Key×V) (q:List Key×zdk×zdl)=>p.1=q.1/\H q.2.1=some (.tup (p.1.map kV))/\RelV p.2 q.2.2) ax xs/\
  ∃o es ep,h.get? a=some o/\o.ExactDict/\o.data=.dict es ep/\es.toList=xs.map (entryOfKey (tupleKind (bT P w)))/\(xs.map (·.1)).Nodup
 |.set S n=>h.SetOf (intKind P w) a S n
 |.ins C dx fs=>H dx=some (.own a)/\fs.length<=1000/\dx≠a/\h.get? a=some (zbr C dx)/\
  ∃mA,h.Ns1 dx mA/\(∀f,rA (fs.lookup f) (mA f))/\PySem.Within mA (fs.map (·.1))
 |.own _=>∃o,h.get? a=some o
 |.xd fs=>∃mA,h.Ns1 a mA/\∀f,rA (fs.lookup f) (mA f)
 |.XE lo hi=>∃t u v,h.get? a=some {cls:=.type "range",data:=.fields #[.int lo t,.int hi u,.int 1 v]}
 |.Fw o u=>h.get? a=some o/\dg H h a u
 |.rE ps=>h.get? a=some {cls:=.none,data:=.fields ps}
 |.met f x=>h.get? a=some (zcy (.ref f) (.ref x))
 |.ext φ=>φ h/\(∃o,h.get? a=some o)/\∀h1 h2:Heap,φ h1->(∀o,h1.get? a=some o->h2.get? a=some o)->φ h2
def ou (H:Hp) (h:Heap):Prop:=∀a o,H a=some o->dg P w H h a o
end
section
variable{P:zdw}{w:zdm}{H H':Hp}{h h':Heap}{a:zdk}{o:HO}
theorem dg.lt(x:dg P w H h a o):a<h.objs.size:=by
 cases o with
 |lst xs=>obtain⟨_,_,_,_,e⟩:=x;exact Heap.lt_size e
 |tup xs=>obtain⟨_,_,_,p⟩:=x;exact p.lt
 |dK ax=>obtain⟨_,_,_,_,o,_,_,e,_⟩:=x;exact Heap.lt_size e
 |dT ax=>obtain⟨_,_,_,_,o,_,_,e,_⟩:=x;exact Heap.lt_size e
 |set S n=>obtain⟨o,_,_,_,e,_⟩:=x;exact Heap.lt_size e
 |ins C dx fs=>obtain⟨_,_,_,e,_⟩:=x;exact Heap.lt_size e
 |own y=>obtain⟨_,e⟩:=x;exact Heap.lt_size e
 |xd fs=>obtain⟨_,⟨_,_,_,e,_⟩,_⟩:=x;exact Heap.lt_size e
 |XE lo hi=>obtain⟨_,_,_,e⟩:=x;exact Heap.lt_size e
 |Fw ob u=>obtain⟨e,_⟩:=x;exact Heap.lt_size e
 |rE ps=>exact Heap.lt_size (show h.get? a=some _ from x)
 |met f y=>exact Heap.lt_size (show h.get? a=some _ from x)
 |ext φ=>obtain⟨_,⟨_,e⟩,_⟩:=x;exact Heap.lt_size e
theorem Paired.Av{α β:Type}{F G:α->β->Prop}:∀ {l₁:List α} {l₂:List β},Paired F l₁ l₂->(∀a b,F a b->G a b)->Paired G l₁ l₂
 |_,_,.nil,_=>.nil
 |_,_,.cons r t,f=>.cons (f _ _ r) (Paired.Av t f)
theorem dg.jI(x:dg P w H h a o)(k:∀b u,(b=a\/H b=some (.own a))->h.get? b=some u->h'.get? b=some u)
 (ho:∀b,H b=some (.own a)->H' b=some (.own a)) (ht:∀b xs,H b=some (.tup xs)->H' b=some (.tup xs)):dg P w H' h' a o:=by
 induction o with
 |lst xs=>obtain⟨z,bC,n,r,e⟩:=x;exact⟨z,bC,n,r,k _ _ (.inl rfl) e⟩
 |tup xs=>obtain⟨z,bC,r,ob,e,c⟩:=x;exact⟨z,bC,r,ob,k _ _ (.inl rfl) e,c⟩
 |dK ax=>obtain⟨z,y,vs,r,ob,es,ep,e,c⟩:=x;exact⟨z,y,vs,r,ob,es,ep,k _ _ (.inl rfl) e,c⟩
 |dT ax=>
  obtain⟨z,y,xs,r,ob,es,ep,e,c⟩:=x;exact⟨z,y,xs,Paired.Av r fun p q z=>⟨z.1,ht _ _ z.2.1,z.2.2⟩,ob,es,ep,k _ _ (.inl rfl) e,c⟩
 |set S n=>obtain⟨ob,es,ep,t,e,c⟩:=x;exact⟨ob,es,ep,t,k _ _ (.inl rfl) e,c⟩
 |ins C dx fs=>
  obtain⟨d,z,ne,e,mA,⟨od,es,ep,e2,c⟩,r⟩:=x;exact⟨ho _ d,z,ne,k _ _ (.inl rfl) e,mA,⟨od,es,ep,k _ _ (.inr d) e2,c⟩,r⟩
 |own y=>obtain⟨ob,e⟩:=x;exact⟨ob,k _ _ (.inl rfl) e⟩
 |xd fs=>obtain⟨mA,⟨od,es,ep,e,c⟩,r⟩:=x;exact⟨mA,⟨od,es,ep,k _ _ (.inl rfl) e,c⟩,r⟩
 |XE lo hi=>obtain⟨t,u,v,e⟩:=x;exact⟨t,u,v,k _ _ (.inl rfl) e⟩
 |Fw ob u ih=>obtain⟨e,q⟩:=x;exact⟨k _ _ (.inl rfl) e,ih q⟩
 |rE ps=>
  have e:h.get? a=some {cls:=.none,data:=.fields ps}:=x;show h'.get? a=some {cls:=.none,data:=.fields ps};exact k a _ (.inl rfl) e
 |met f y=>
  have e:h.get? a=some (zcy (.ref f) (.ref y)):=x;show h'.get? a=some (zcy (.ref f) (.ref y));exact k a _ (.inl rfl) e
 |ext φ=>obtain⟨p,⟨o,e⟩,st⟩:=x;exact⟨st _ _ p fun o q=>k _ _ (.inl rfl) q,⟨o,k _ _ (.inl rfl) e⟩,st⟩
theorem ou.lt(x:ou P w H h)(e:H a=some o):a<h.objs.size:=(x a o e).lt
theorem ou.fresh(x:ou P w H h)(e:h.objs.size<=a):H a=none:=by
 cases q:H a with
 |none=>rfl
 |some u=>exact zzb (zaC (x.lt q) e) (zaW _)
theorem ou.kept(x:ou P w H h)(k:∀b u,h.get? b=some u->h'.get? b=some u):ou P w H h':=fun a o e=>
 (x a o e).jI (fun b u _ q=>k b u q) (fun _ q=>q) fun _ _ q=>q
theorem ou.laid(x:ou P w H h)(k:∀b u,h.get? b=some u->h'.get? b=some u)(hp:h.objs.size<=a)(new:dg P w (upd H a o) h' a o):ou P w (upd H a o) h':=fun b u e=>by
 have hn:=x.fresh hp;by_cases hb:b=a
 ·subst hb;rw[ae] at e;cases e;exact new
 ·rw[aw hb] at e;exact(x b u e).jI (fun c v _ q=>k c v q) (fun c q=>by rw[aw (ai q hn)];exact q) fun c xs q=>by rw[aw (ai q hn)];exact q
end
def Rd (H:Hp) (a:zdk) (u:HO):Prop:=H a=some u\/∃o,H a=some (.Fw o u)
theorem Rd.ok{P:zdw}{w:zdm}{H:Hp}{h:Heap}{a:zdk}{u:HO}(r:Rd H a u)(x:ou P w H h):dg P w H h a u:=by
 rcases r with r |⟨o,r⟩
 ·exact x a u r
 ·obtain⟨_,q⟩:=x a _ r;exact q
def Tj:Option HO->Prop
 |some (.lst _)=>True
 |some (.dK _)=>True
 |some (.dT _)=>True
 |some (.set _ _)=>True
 |some (.ins _ _ _)=>True
 |some (.ext _)=>True
 |_=>False
section
variable{P:zdw}{w:zdm}{H:Hp}{h h':Heap}{x e:zdk}{o':HO}
theorem ou.write(ok:ou P w H h)(mu:Tj (H x))(he:e=x\/H e=some (.own x))(k:∀b u,b≠e->h.get? b=some u->h'.get? b=some u)(SI:∃u,h'.get? e=some u)
 (new:dg P w (upd H x o') h' x o'):ou P w (upd H x o') h':=fun b u q=>by
 have Tn:∀c y,H c=some (.own y)->c≠x:=fun c y r z=>by subst z;rw[r] at mu;exact mu
 have XF:∀c xs,H c=some (.tup xs)->c≠x:=fun c xs r z=>by subst z;rw[r] at mu;exact mu
 by_cases hb:b=x
 ·subst hb;rw[ae] at q;cases q;exact new
 ·rw[aw hb] at q;by_cases Qs:b=e
  ·have q':H b=some (.own x):=by
    rcases he with z |z
    ·exact zzb (Qs.trans z) hb
    ·rw[Qs];exact z
   rw[q] at q';cases q';obtain⟨v,hv⟩:=SI;exact⟨v,by rw[Qs];exact hv⟩
  ·refine(ok b u q).jI (fun c v hc r=>k c v ?_ r) (fun c r=>by rw[aw (Tn c b r)];exact r) fun c xs r=>by rw[aw (XF c xs r)];exact r
   rcases hc with rfl |hc
   ·exact Qs
   ·rintro rfl
    rcases he with z |z
    ·exact Tn c b hc z
    ·rw[hc] at z;cases z;exact hb rfl
end
structure Un(fs ex:List zdk)(H H':Hp)(h h':Heap):Prop where
 keep:∀b o,h.get? b=some o->H b=none->b ∉ fs->b ∉ ex->h'.get? b=some o
 slot:∀b o,h.get? b=some o->H b=none->b∈fs->b ∉ ex->∃sl,h'.get? b=some {o with slots:=sl}
 free:∀b o,h.get? b=some o->H b=none->b ∉ ex->H' b=none
 there:∀b o,h.get? b=some o->b ∉ ex->∃o',h'.get? b=some o'
 w5:∀b xs,H b=some (.tup xs)->H' b=some (.tup xs)
 v9:∀b o u,H b=some (.Fw o u)->H' b=some (.Fw o u)
 wb:∀b ps,H b=some (.rE ps)->∃more,H' b=some (.rE (ps++more))
section
variable{fs To ex ex':List zdk}{H H1 H2:Hp}{h h1 h2 h':Heap}{a x e:zdk}{o:HO}
theorem Un.any(u:Un fs ex H H1 h h1){b:zdk}{ob:Obj}(q:h.get? b=some ob)(n:H b=none)(hx:b ∉ ex):∃sl,h1.get? b=some {ob with slots:=sl}:=by
 by_cases hb:b∈fs
 ·exact u.slot b ob q n hb hx
 ·exact⟨ob.slots,u.keep b ob q n hb hx⟩
theorem Un.kept(k:∀b u,h.get? b=some u->h'.get? b=some u):Un fs ex H H h h':=
 ⟨fun b ob q _ _ _=>k b ob q,fun b ob q _ _ _=>⟨ob.slots,k b ob q⟩,fun _ _ _ n _=>n,fun b ob q _=>⟨ob,k b ob q⟩,fun _ _ q=>q,fun _ _ _ q=>q,fun _ ps q=>⟨#[],by rw[q];simp⟩⟩
theorem Un.refl:Un fs ex H H h h:=Un.kept fun _ _ q=>q
theorem Un.laid(k:∀b u,h.get? b=some u->h'.get? b=some u)(hp:h.objs.size<=a)(hn:H a=none):Un fs ex H (upd H a o) h h' where
 keep:=fun b u q _ _ _=>k b u q
 slot:=fun b u q _ _ _=>⟨u.slots,k b u q⟩
 free:=fun b u q n _=>by rw[aw (zaD (zaC (Heap.lt_size q) hp))];exact n
 there:=fun b u q _=>⟨u,k b u q⟩
 w5:=fun b xs q=>by rw[aw (ai q hn)];exact q
 v9:=fun b u xs q=>by rw[aw (ai q hn)];exact q
 wb:=fun b ps q=>⟨#[],by rw[aw (ai q hn),q];simp⟩
theorem Un.write(mu:Tj (H x))(he:e=x\/H e=some (.own x))(k:∀b u,b≠e->h.get? b=some u->h'.get? b=some u)(SI:∃u,h'.get? e=some u):Un fs ex H (upd H x o) h h':=by
 have hx:∀b,H b=none->b≠x:=fun b n z=>by subst z;rw[n] at mu;exact mu
 have hb:∀b,H b=none->b≠e:=fun b n z=>by
  subst z;rcases he with r |r
  ·exact hx b n r
  ·rw[n] at r;cases r
 have hm:∀b u,H b=some u->¬Tj (some u)->b≠x:=fun b u q nm z=>by subst z;rw[q] at mu;exact nm mu
 refine⟨fun b u q n _ _=>k b u (hb b n) q,fun b u q n _ _=>⟨u.slots,k b u (hb b n) q⟩,fun b u q n _=>by rw[aw (hx b n)];exact n,fun b u q _=>?_,
  fun b xs q=>by rw[aw (hm b _ q fun z=>z)];exact q,fun b u xs q=>by rw[aw (hm b _ q fun z=>z)];exact q,fun b ps q=>⟨#[],by rw[aw (hm b _ q fun z=>z),q];simp⟩⟩
 by_cases Qs:b=e
 ·subst Qs;exact SI
 ·exact⟨u,k b u Qs q⟩
end
noncomputable def Wl (h:Heap) (H:Hp):List zdk:=(zaH h.objs.size).filter fun a=>(H a).isSome
def Aw (h:Heap) (H:Hp):Heap:=PySem.W.hideAll h (Wl h H)
theorem G2(h:Heap)(H:Hp):(Aw h H).objs.size=h.objs.size:=PySem.W.hideAll_size _ _
theorem sR{h:Heap}{H:Hp}{b:zdk}{o:Obj}(e:h.get? b=some o)(n:H b=none):(Aw h H).get? b=some o:=
 PySem.W.hideAll_get _ e fun hm=>by
  have q:(H b).isSome=true:=(List.mem_filter.mp hm).2;rw[n] at q;simp at q
theorem M4{h:Heap}{H:Hp}{b:zdk}{o:Obj}(e:(Aw h H).get? b=some o):h.get? b=some o/\H b=none:=by
 have e':h.get? b=some o:=PySem.W.of_hideAll (Wl h H) e;refine⟨e',?_⟩;cases q:H b with
 |none=>rfl
 |some x=>
  have hm:b∈Wl h H:=List.mem_filter.mpr ⟨zb3.mpr (Heap.lt_size e'),by simp[q]⟩;have z:(Aw h H).get? b=none:=PySem.W.hideAll_none (Wl h H) hm;rw[z] at e;cases e
structure Mod(K:zaa)(mg:Str->Option zdl)(base:Heap):Prop where
 Tp:K.In base
 glob:base.Ns zdr mg
 blt:∃mb,base.Ns builtinsNs mb/\∀x:Str,x≠"__name__"->mb x=bootBuiltins x
 nolimit:base.NoLimit
structure Cx where
 prog:zdw
 w:zdm
 K:zaa
 mg:Str->Option zdl
 base:Heap
 A:zdv
 N:List Str
 s₀:zdu
 H₀:Hp
 env:Env
 outer:List Env
 stack:List Env
 ex:List zdk
 fn:Str->Bool
 calm:Bool
 pn:List (zdk×Obj)
 xe:zdl->zdu->Prop
noncomputable def dh (l:List Env):List zdk:=l.filterMap (·.frame)
abbrev Cx.fs (X:Cx):List zdk:=dh X.outer
def Tq (sc:Scope) (x:Str):Prop:=sc.names.lookup x=some .local\/sc.names.lookup x=some .cell\/sc.names.lookup x=some .free
def Loc (sc:Scope) (x:Str):Prop:=sc.names.lookup x=some .local\/sc.names.lookup x=some .cell
def Look (env:Env) (h:Heap) (m:Str->Option zdl) (x:Str) (u:zdl):Prop:=
 (env.kindOf x=some .local/\m x=some u)\/((env.kindOf x=some .cell\/env.kindOf x=some .free)/\∃c,env.cells.lookup x=some c/\h.IsCell c (some u))
structure Cx.Ok(X:Cx):Prop where
 mod:Mod X.K X.mg X.base
 kind:X.env.scope.kind=.function
 glob:X.env.globals=zdr
 blt:X.env.builtins=builtinsNs
 above:X.s₀.heap.objs.size<=X.env.locals
 inj:∀x y c,X.env.cells.lookup x=some c->X.env.cells.lookup y=some c->x=y
 has:∀x,(X.env.kindOf x=some .cell\/X.env.kindOf x=some .free)->∃c,X.env.cells.lookup x=some c
 M5:∀x c,X.fn x=true->X.env.cells.lookup x=some c->X.s₀.heap.objs.size<=c
 hd:X.calm=true->X.A.handled=none
 frames:X.A.frames=some X.stack
 Wm:X.stack=X.outer\/(X.stack=X.env::X.outer/\X.env.frame=some X.env.locals)
 exf:∀b∈X.ex,b≠X.env.locals/\∀x c,X.env.cells.lookup x=some c->c≠b
 bs:∀b o,X.base.get? b=some o->X.s₀.heap.get? b=some o/\X.H₀ b=none
 BX:X.base.objs.size<=X.s₀.heap.objs.size
 Jj:∀b o,X.base.get? b=some o->b ∉ X.ex
 M6:∀b∈X.ex,b ∉ X.fs
 qC:X.s₀.heap.FunFrames X.base X.outer
 MF:∀b∈X.fs,X.H₀ b=none
structure Inv(X:Cx)(pins:List (zdk×Obj))(σ:List (Option V))(H:Hp)(s:zdu):Prop where
 ok:X.Ok
 os:s.os=X.s₀.os
 bare:AllBare s.gens
 base:Un X.fs X.ex X.H₀ H X.s₀.heap s.heap
 loc:∃m,s.heap.Ns X.env.locals m/\∀(i:Nat) (x:Str) (v:V),X.N[i]?=some x->σ[i]?=some (some v)->Tq X.env.scope x->∃u,RelV v u/\Look X.env s.heap m x u
 cell:∀x c,X.env.cells.lookup x=some c->∃v,s.heap.IsCell c v
 free:H X.env.locals=none
 ox:∀x c,X.env.cells.lookup x=some c->H c=none
 pin:∀p∈X.pn++pins,s.heap.get? p.1=some p.2/\H p.1=none/\p.1≠X.env.locals/\p.1 ∉ X.fs/\∀v,p.2.data≠.cell v
 cM:ou X.prog X.w H s.heap
 len:σ.length=X.N.length
section
variable{X:Cx}{pins:List (zdk×Obj)}{σ:List (Option V)}{H H':Hp}{s:zdu}{h':Heap}
theorem Cx.Ok.XG(ok:X.Ok){b:zdk}{o:Obj}(e:X.base.get? b=some o):b ∉ X.fs:=fun hb=>by
 have:=(ok.qC.mem hb).1;rw[e] at this;cases this
theorem Inv.bs(I:Inv X pins σ H s):∀b o,X.base.get? b=some o->s.heap.get? b=some o/\H b=none:=fun b o e=>
 ⟨I.base.keep b o (I.ok.bs b o e).1 (I.ok.bs b o e).2 (I.ok.XG e) (I.ok.Jj b o e),I.base.free b o (I.ok.bs b o e).1 (I.ok.bs b o e).2 (I.ok.Jj b o e)⟩
theorem Inv.bk(I:Inv X pins σ H s):∀b o,X.base.get? b=some o->s.heap.get? b=some o:=fun b o e=>(I.bs b o e).1
theorem Inv.mod(I:Inv X pins σ H s):Mod X.K X.mg X.base:=I.ok.mod
theorem Inv.wG(I:Inv X pins σ H s):X.K.In s.heap:=I.ok.mod.Tp.keeps I.bk
theorem Inv.lt(I:Inv X pins σ H s):X.env.locals<s.heap.objs.size:=let ⟨_,hn,_⟩:=I.loc;hn.lt
theorem Inv.sz(I:Inv X pins σ H s):X.s₀.heap.objs.size<=s.heap.objs.size:=zay I.ok.above (zcl I.lt)
theorem Inv.XH(I:Inv X pins σ H s){a:zdk}(h:s.heap.objs.size<=a):a ∉ X.fs:=fun hb=>by
 obtain⟨_,o,ho,_⟩:=I.ok.qC.mem hb;exact zzb (zaC (Heap.lt_size ho) (zay I.sz h)) (zaW _)
theorem Inv.OV(I:Inv X pins σ H s):∀x c,X.env.cells.lookup x=some c->c≠X.env.locals:=fun x c e z=>by
 obtain⟨v,o,ho,hd⟩:=I.cell x c e;obtain⟨m,⟨o',es,ep,Qt,DI,_⟩,_⟩:=I.loc;rw[z,Qt] at ho;cases ho;rw[DI] at hd;cases hd
theorem Inv.qC(I:Inv X pins σ H s):s.heap.FunFrames X.base X.outer:=by
 have all:∀(l:List Env),(∀b∈dh l,b∈X.fs)->X.s₀.heap.FunFrames X.base l->s.heap.FunFrames X.base l:=by
  intro l
  induction l with
  |nil=>intro _ _;trivial
  |cons env r ih=>
   intro hs hl;obtain⟨hk,⟨L,o,hf,hn,ho,hd⟩,hr⟩:=hl;have hL:L∈X.fs:=hs L (by unfold dh;rw[zcq,hf];exact zaq);obtain⟨sl,e⟩:=I.base.slot L o ho (I.ok.MF L hL) hL fun z=>I.ok.M6 L z hL;exact⟨hk,⟨L,_,hf,hn,e,hd⟩,ih (fun b hb=>hs b (by unfold dh;rw[zcq,hf];exact zat _ hb)) hr⟩
 exact all X.outer (fun _ hb=>hb) I.ok.qC
theorem Inv.stack(I:Inv X pins σ H s):s.heap.FunFrames X.base X.stack:=by
 rcases I.ok.Wm with e |⟨e,hf⟩
 ·rw[e];exact I.qC
 ·rw[e];obtain⟨m,hn,_⟩:=I.loc;refine .cons (by rw[I.ok.kind];decide) hf hn ?_ I.qC;exact Heap.get?_none_of_le (zay I.ok.BX I.ok.above)
theorem Inv.w8(I:Inv X pins σ H s):∀b∈dh X.stack,b∈X.env.locals::X.fs:=fun b hb=>by
 rcases I.ok.Wm with e |⟨e,hf⟩
 ·rw[e] at hb;exact zat _ hb
 ·rw[e] at hb;unfold dh at hb;rw[zcq,hf] at hb;exact hb
theorem Inv.Ax(I:Inv X pins σ H s):∀b∈dh X.stack,H b=none:=fun b hb=>by
 rcases zag.mp (I.w8 b hb) with e |hb
 ·rw[e];exact I.free
 ·obtain⟨_,o,ho,_⟩:=I.ok.qC.mem hb;exact I.base.free b o ho (I.ok.MF b hb) fun z=>I.ok.M6 b z hb
theorem Inv.step{g':Array GenState}{t':Nat}{d':Drawn}{ch:List zdk}(I:Inv X pins σ H s)
 (MG:∀b∈ch,(b∈X.ex\/X.s₀.heap.objs.size<=b)/\b≠X.env.locals/\(∀x c,X.env.cells.lookup x=some c->c≠b)/\∀p∈X.pn++pins,p.1≠b)
 (keep:∀b o,b≠X.env.locals->b ∉ X.fs->b ∉ ch->s.heap.get? b=some o->H b=none->h'.get? b=some o)
 (slot:∀b o,b≠X.env.locals->b∈X.fs->b ∉ ch->s.heap.get? b=some o->H b=none->∃sl,h'.get? b=some {o with slots:=sl}) (free:∀b o,b ∉ ch->s.heap.get? b=some o->H b=none->H' b=none)
 (there:∀b o,b ∉ ch->s.heap.get? b=some o->∃o',h'.get? b=some o')
 (w5:∀b xs,H b=some (.tup xs)->H' b=some (.tup xs)) (v9:∀b o u,H b=some (.Fw o u)->H' b=some (.Fw o u)) (wb:∀b ps,H b=some (.rE ps)->∃more,H' b=some (.rE (ps++more)))
 (ns:∀m,s.heap.Ns X.env.locals m->h'.Ns X.env.locals m) (cM:ou X.prog X.w H' h') (hg:AllBare g') :
 Inv X pins σ H' {s with heap:=h',gens:=g',drawn:=d',toks:=t' }:=by
 have neL:∀b o,X.s₀.heap.get? b=some o->b≠X.env.locals:=fun b o e=>zaD (zaC (Heap.lt_size e) I.ok.above);have Wn:∀b o,X.s₀.heap.get? b=some o->b ∉ X.ex->b ∉ ch:=fun b o e hx hb=>by
  rcases(MG b hb).1 with z |z
  ·exact hx z
  ·exact zzb (zaC (Heap.lt_size e) z) (zaW _)
 have cellK:∀x c,X.env.cells.lookup x=some c->∀v,s.heap.IsCell c v->h'.IsCell c v:=fun x c e v ⟨o,ho,hd⟩=>by
  have Ts:c ∉ ch:=fun z=>(MG c z).2.2.1 x c e rfl;by_cases hc:c∈X.fs
  ·obtain⟨sl,q⟩:=slot c o (I.OV x c e) hc Ts ho (I.ox x c e);exact⟨_,q,hd⟩
  ·exact⟨o,keep c o (I.OV x c e) hc Ts ho (I.ox x c e),hd⟩
 refine⟨I.ok,I.os,hg,⟨fun b o e n hb hx=>?_,fun b o e n hb hx=>?_,fun b o e n hx=>?_,fun b o e hx=>?_,fun b xs e=>w5 b xs (I.base.w5 b xs e),fun b o xs e=>v9 b o xs (I.base.v9 b o xs e),fun b ps e=>?_⟩,?_,fun x c e=>?_,?_,fun x c e=>?_,fun p hp=>?_,cM,I.len⟩
 ·exact keep b o (neL b o e) hb (Wn b o e hx) (I.base.keep b o e n hb hx) (I.base.free b o e n hx)
 ·obtain⟨sl,e1⟩:=I.base.slot b o e n hb hx;obtain⟨sl',e2⟩:=slot b _ (neL b o e) hb (Wn b o e hx) e1 (I.base.free b o e n hx);exact⟨sl',e2⟩
 ·obtain⟨o',e1⟩:=I.base.there b o e hx;exact free b o' (Wn b o e hx) e1 (I.base.free b o e n hx)
 ·obtain⟨o',e1⟩:=I.base.there b o e hx;exact there b o' (Wn b o e hx) e1
 ·obtain⟨m1,e1⟩:=I.base.wb b ps e;obtain⟨m2,e2⟩:=wb b _ e1;exact⟨m1++m2,by rw[e2,Array.append_assoc]⟩
 ·obtain⟨m,hn,hl⟩:=I.loc;refine⟨m,ns m hn,fun i x v e1 e2 e3=>?_⟩;obtain⟨u,r,l⟩:=hl i x v e1 e2 e3;refine⟨u,r,?_⟩;rcases l with l |⟨k,c,e,z⟩
  ·exact .inl l
  ·exact .inr ⟨k,c,e,cellK x c e _ z⟩
 ·obtain⟨v,z⟩:=I.cell x c e;exact⟨v,cellK x c e v z⟩
 ·obtain⟨m,⟨o,_,_,ho,_⟩,_⟩:=I.loc;exact free _ o (fun z=>(MG _ z).2.1 rfl) ho I.free
 ·obtain⟨v,o,ho,hd⟩:=I.cell x c e;exact free c o (fun z=>(MG c z).2.2.1 x c e rfl) ho (I.ox x c e)
 ·obtain⟨e,n,ne,nf,d⟩:=I.pin p hp;have Ts:p.1 ∉ ch:=fun z=>(MG p.1 z).2.2.2 p hp rfl;exact⟨keep p.1 p.2 ne nf Ts e n,free p.1 p.2 Ts e n,ne,nf,d⟩
theorem Inv.un{t':Nat}(I:Inv X pins σ H s)(u:Un X.fs [] H H' s.heap h')(cM:ou X.prog X.w H' h'):Inv X pins σ H' {s with heap:=h',toks:=t' }:=by
 obtain⟨m,⟨o,es,ep,ho,r⟩,_⟩:=id I.loc;obtain⟨sl,hL⟩:=u.any ho I.free (by simp);exact I.step (g':=s.gens) (d':=s.drawn) (ch:=[]) (fun _ z=>nomatch z) (fun b o _ hb _ e n=>u.keep b o e n hb (by simp)) (fun b o _ hb _ e n=>u.slot b o e n hb (by simp)) (fun b o _ e n=>u.free b o e n (by simp)) (fun b o _ e=>u.there b o e (by simp)) u.w5 u.v9 u.wb (fun m' hm=>by
  obtain⟨o',XI,XJ,Qt,r'⟩:=hm;rw[ho] at Qt;cases Qt;exact⟨_,XI,XJ,hL,r'⟩) cM I.bare
theorem Inv.call{g':Array GenState}{t':Nat}{d':Drawn}{ch:List zdk}(I:Inv X pins σ H s)(u:Un (dh X.stack) ch H H' s.heap h')(cM:ou X.prog X.w H' h')(hg:AllBare g')
 (MG:∀b∈ch,(b∈X.ex\/X.s₀.heap.objs.size<=b)/\b≠X.env.locals/\(∀x c,X.env.cells.lookup x=some c->c≠b)/\∀p∈X.pn++pins,p.1≠b) :
 Inv X pins σ H' {s with heap:=h',gens:=g',drawn:=d',toks:=t' }:=by
 obtain⟨m,⟨o,es,ep,ho,r⟩,_⟩:=id I.loc;obtain⟨sl,hL⟩:=u.any ho I.free fun z=>(MG _ z).2.1 rfl;exact I.step (ch:=ch) MG (fun b o hL hb hc e n=>u.keep b o e n (fun z=>(zag.mp (I.w8 b z)).elim hL hb) hc) (fun b o _ _ hc e n=>u.any e n hc) (fun b o hc e n=>u.free b o e n hc) (fun b o hc e=>u.there b o e hc) u.w5 u.v9 u.wb (fun m' hm=>by
  obtain⟨o',XI,XJ,Qt,r'⟩:=hm;rw[ho] at Qt;cases Qt;exact⟨_,XI,XJ,hL,r'⟩) cM hg
theorem Inv.turned{t':Nat}{it:zdk}(I:Inv X pins σ H s)(k:∀b o,b≠it->s.heap.get? b=some o->h'.get? b=some o)(hn:H it=none)(hL:it≠X.env.locals)
 (h1:it∈X.ex\/X.s₀.heap.objs.size<=it) (h2:∀x c,X.env.cells.lookup x=some c->c≠it) (h3:∀p∈X.pn++pins,p.1≠it):Inv X pins σ H {s with heap:=h',toks:=t' }:=by
 have Tt:∀b u,H b=some u->b≠it:=fun b u e z=>by rw[z,hn] at e;cases e
 refine I.step (g':=s.gens) (d':=s.drawn) (ch:=[it]) (fun b hb=>?_) (fun b o _ _ hc e _=>k b o (fun z=>hc (by simp[z])) e) (fun b o _ _ hc e _=>⟨o.slots,k b o (fun z=>hc (by simp[z])) e⟩) (fun _ _ _ _ n=>n)
  (fun b o hc e=>⟨o,k b o (fun z=>hc (by simp[z])) e⟩) (fun _ _ e=>e) (fun _ _ _ e=>e) (fun b ps e=>⟨#[],by rw[e];simp⟩) (fun m hm=>?_) (fun b u e=>?_) I.bare
 ·have e:b=it:=by simpa using hb
  subst e;exact⟨h1,hL,h2,h3⟩
 ·obtain⟨o,es,ep,ho,r⟩:=hm;exact⟨o,es,ep,k _ o (Ne.symm hL) ho,r⟩
 ·refine(I.cM b u e).jI (fun c v hc q=>k c v ?_ q) (fun _ q=>q) fun _ _ q=>q;rcases hc with z |z
  ·rw[z];exact Tt b u e
  ·exact Tt c _ z
theorem Inv.tok(I:Inv X pins σ H s)(t:Nat):Inv X pins σ H {s with toks:=t}:=I.un (h':=s.heap) (t':=t) Un.refl I.cM
theorem Inv.kept{t':Nat}(I:Inv X pins σ H s)(k:∀b u,s.heap.get? b=some u->h'.get? b=some u):Inv X pins σ H {s with heap:=h',toks:=t' }:=I.un (Un.kept k) (I.cM.kept k)
theorem Inv.laid{a:zdk}{o:HO}{t':Nat}(I:Inv X pins σ H s)(k:∀b u,s.heap.get? b=some u->h'.get? b=some u)(hp:s.heap.objs.size<=a)(new:dg X.prog X.w (upd H a o) h' a o) :
 Inv X pins σ (upd H a o) {s with heap:=h',toks:=t' }:=I.un (Un.laid k hp (I.cM.fresh hp)) (I.cM.laid k hp new)
theorem Inv.write{x e:zdk}{o:HO}{t':Nat}(I:Inv X pins σ H s)(mu:Tj (H x))(he:e=x\/H e=some (.own x))(k:∀b u,b≠e->s.heap.get? b=some u->h'.get? b=some u)(SI:∃u,h'.get? e=some u)
 (new:dg X.prog X.w (upd H x o) h' x o):Inv X pins σ (upd H x o) {s with heap:=h',toks:=t' }:=I.un (Un.write mu he k SI) (I.cM.write mu he k SI new)
theorem Inv.Fx{Fy:List (zdk×Obj)}(I:Inv X pins σ H s)(h:∀p∈Fy,s.heap.get? p.1=some p.2/\H p.1=none/\p.1≠X.env.locals/\p.1 ∉ X.fs/\∀v,p.2.data≠.cell v):Inv X Fy σ H s:=
 ⟨I.ok,I.os,I.bare,I.base,I.loc,I.cell,I.free,I.ox,fun p hp=>(zaA.mp hp).elim (fun z=>I.pin p (zbT _ z)) (h p),I.cM,I.len⟩
theorem BY{N:List Str}(hN:N.Nodup){i j:Nat}{x:Str}(a:N[i]?=some x)(b:N[j]?=some x):i=j:=by
 obtain⟨h1,e1⟩:=zak.mp a;obtain⟨h2,e2⟩:=zak.mp b;exact(List.getElem_inj hN).mp (e1.trans e2.symm)
theorem zy{M:Model}{A:zdv}{E:zdl->zdu->Prop}{i:Nat}{x:Str}{v:V}{u:zdl}{Q:Unit->zdu->Prop}(I:Inv X pins σ H s)(hN:X.N.Nodup)(hi:X.N[i]?=some x)(hx:Loc X.env.scope x)(r:RelV v u)
 (h:∀s',Inv X pins (σ.set i (some v)) H s'->(∃a,Heap.SameBut a s.heap s'.heap/\(a=X.env.locals\/X.env.cells.lookup x=some a))->Q () s') (hf:X.fn x=true\/X.env.scope.names.lookup x=some .local:=by first |exact .inl rfl |exact .inr rfl |assumption):wpAny M A (storeName X.env x u) Q E s:=by
 obtain⟨m,hn,hl⟩:=id I.loc;have XM:(X.env.scope.kind==.class ||(X.env.scope.kind==.module&&X.env.locals != X.env.globals))=false:=by rw[I.ok.kind];rfl
 have Tu:i<σ.length:=by rw[I.len];exact(zak.mp hi).1
 have OV:=I.OV;have tracked:∀ {a:zdk} {h':Heap},(∃o,s.heap.get? a=some o/\H a=none)->Heap.SameBut a s.heap h'->ou X.prog X.w H h':=fun {a h'} ha hs b ob e=>by
  obtain⟨_,_,sS⟩:=ha;refine(I.cM b ob e).jI (fun c w' hc q=>(hs.2 c ?_).trans q) (fun _ q=>q) fun _ _ q=>q
  rintro rfl
  rcases hc with rfl |hc
  ·rw[sS] at e;cases e
  ·rw[sS] at hc;cases hc
 rcases hx with hk |hk
 ·refine wpAny_storeName_local hk hn (fun h' hn' hs=>?_) XM;obtain⟨oL,_,_,hoL,_⟩:=id hn;refine h _ ⟨I.ok,I.os,I.bare,⟨fun b o e n hb hx=>?_,fun b o e n hb hx=>?_,I.base.free,fun b o e hx=>?_,I.base.w5,I.base.v9,I.base.wb⟩,⟨_,hn',fun j y v' e1 e2 e3=>?_⟩,fun y c e=>?_,I.free,I.ox,fun p hp=>?_,tracked ⟨oL,hoL,I.free⟩ hs,by simpa using I.len⟩ ⟨_,hs,.inl rfl⟩
  ·exact(hs.2 b (zaD (zaC (Heap.lt_size e) I.ok.above))).trans (I.base.keep b o e n hb hx)
  ·obtain⟨sl,e1⟩:=I.base.slot b o e n hb hx;exact⟨sl,(hs.2 b (zaD (zaC (Heap.lt_size e) I.ok.above))).trans e1⟩
  ·obtain⟨o',e1⟩:=I.base.there b o e hx;exact⟨o',(hs.2 b (zaD (zaC (Heap.lt_size e) I.ok.above))).trans e1⟩
  ·by_cases hj:j=i
   ·subst hj;rw[hi] at e1;cases e1;rw[zcc Tu] at e2;cases e2;exact⟨u,r,.inl ⟨hk,by simp⟩⟩
   ·rw[zcm (Ne.symm hj)] at e2;obtain⟨u',r',q⟩:=hl j y v' e1 e2 e3;refine⟨u',r',?_⟩;rcases q with ⟨k,e⟩ |⟨k,c,e,z⟩
    ·refine .inl ⟨k,?_⟩;have:y≠x:=fun e=>hj (BY hN e1 (e▸hi));simp[this,e]
    ·exact .inr ⟨k,c,e,z.sameBut hs (OV y c e)⟩
  ·obtain⟨w',z⟩:=I.cell y c e;exact⟨w',z.sameBut hs (OV y c e)⟩
  ·obtain⟨e,n,ne,nf,d⟩:=I.pin p hp;exact⟨(hs.2 p.1 ne).trans e,n,ne,nf,d⟩
 ·have Qu:X.fn x=true:=by
   rcases hf with z |z
   ·exact z
   ·rw[z] at hk;cases hk
  obtain⟨c,hc⟩:=I.ok.has x (.inl hk);obtain⟨w',z⟩:=I.cell x c hc;refine wpAny_storeName_cell I.ok.kind hk hc z (fun h' Tv hs=>?_);obtain⟨oc,SJ,XN⟩:=id z;refine h {s with heap:=h' } ⟨I.ok,I.os,I.bare,⟨fun b o e n hb hx=>?_,fun b o e n hb hx=>?_,I.base.free,fun b o e hx=>?_,I.base.w5,I.base.v9,I.base.wb⟩,⟨m,hn.sameBut hs (Ne.symm (OV x c hc)),fun j y v' e1 e2 e3=>?_⟩,fun y c' e=>?_,I.free,I.ox,fun p hp=>?_,tracked ⟨oc,SJ,I.ox x c hc⟩ hs,by simpa using I.len⟩ ⟨c,hs,.inr hc⟩
  ·exact(hs.2 b (zaD (zaC (Heap.lt_size e) (I.ok.M5 x c Qu hc)))).trans (I.base.keep b o e n hb hx)
  ·obtain⟨sl,e1⟩:=I.base.slot b o e n hb hx;exact⟨sl,(hs.2 b (zaD (zaC (Heap.lt_size e) (I.ok.M5 x c Qu hc)))).trans e1⟩
  ·obtain⟨o',e1⟩:=I.base.there b o e hx;exact⟨o',(hs.2 b (zaD (zaC (Heap.lt_size e) (I.ok.M5 x c Qu hc)))).trans e1⟩
  ·by_cases hj:j=i
   ·subst hj;rw[hi] at e1;cases e1;rw[zcc Tu] at e2;cases e2;exact⟨u,r,.inr ⟨.inl hk,c,hc,Tv⟩⟩
   ·rw[zcm (Ne.symm hj)] at e2;obtain⟨u',r',q⟩:=hl j y v' e1 e2 e3;refine⟨u',r',?_⟩;rcases q with q |⟨k,c',e,z'⟩
    ·exact .inl q
    ·refine .inr ⟨k,c',e,z'.sameBut hs ?_⟩
     rintro rfl
     exact hj (BY hN e1 (I.ok.inj _ _ _ e hc▸hi))
  ·by_cases yH:c'=c
   ·subst yH;exact⟨_,Tv⟩
   ·obtain⟨w2,z2⟩:=I.cell y c' e;exact⟨w2,z2.sameBut hs yH⟩
  ·obtain⟨e,n,ne,nf,d⟩:=I.pin p hp;refine⟨(hs.2 p.1 ?_).trans e,n,ne,nf,d⟩;intro q;rw[q,SJ] at e;have q':oc=p.2:=zaO.inj e;exact d w' (by rw[<- q'];exact XN)
theorem BZ{M:Model}{A:zdv}{E:zdl->zdu->Prop}{i:Nat}{x:Str}{v:V}{u:zdl}{Q:Unit->zdu->Prop}(I:Inv X pins σ H s)(hN:X.N.Nodup)(hi:X.N[i]?=some x)(hx:Loc X.env.scope x)(r:RelV v u)
 (h:∀s',Inv X pins (σ.set i (some v)) H s'->Q () s') (hf:X.fn x=true\/X.env.scope.names.lookup x=some .local:=by first |exact .inl rfl |exact .inr rfl |assumption):wpAny M A (storeName X.env x u) Q E s:=
 zy I hN hi hx r (fun s' I' _=>h s' I') hf
theorem Inv.Tw{s':zdu}{ch:List zdk}(I:Inv X pins σ H s)(ho:s'.os=s.os)(u:Un (dh X.stack) ch H H' s.heap s'.heap)(cM:ou X.prog X.w H' s'.heap)(hg:AllBare s'.gens)
 (MG:∀b∈ch,(b∈X.ex\/X.s₀.heap.objs.size<=b)/\b≠X.env.locals/\(∀x c,X.env.cells.lookup x=some c->c≠b)/\∀p∈X.pn++pins,p.1≠b):Inv X pins σ H' s':=by
 obtain⟨h',g',d',t',o'⟩:=s';have e:o'=s.os:=ho;subst e;exact I.call (g':=g') (t':=t') (d':=d') u cM hg MG
end
abbrev XK:=zdl->Option zdk->Hp->Prop
abbrev St:=List (Option V)
abbrev VK:=V->Hp->Prop
abbrev TE:=St->Hp->VK->Prop
abbrev TT:=St->Hp->(Bool->Hp->Prop)->Prop
abbrev TA:=St->Hp->(List V->Hp->Prop)->Prop
structure Ends where
 nx:St->Hp->Prop
 rt:VK
 bk:St->Hp->Prop:=fun _ _=>False
 ct:St->Hp->Prop:=fun _ _=>False
abbrev TS:=Ends->St->Hp->Prop
def EP (X:Cx) (pins:List (zdk×Obj)) (σ:St) (Q:VK) (u:zdl) (s':zdu):Prop:=∃v H',Inv X pins σ H' s'/\RelV v u/\Q v H'
def TP (X:Cx) (pins:List (zdk×Obj)) (σ:St) (Q:Bool->Hp->Prop) (b:Bool) (s':zdu):Prop:=∃H',Inv X pins σ H' s'/\Q b H'
def AP (X:Cx) (pins:List (zdk×Obj)) (σ:St) (Q:List V->Hp->Prop) (us:List zdl) (s':zdu):Prop:=∃vs H',Inv X pins σ H' s'/\Vals vs us/\Q vs H'
def SP (X:Cx) (pins:List (zdk×Obj)) (D:Ends) (f:Flow) (s':zdu):Prop:=
 match f with
 |.next=>∃σ' H',Inv X pins σ' H' s'/\D.nx σ' H'
 |.brk=>∃σ' H',Inv X pins σ' H' s'/\D.bk σ' H'
 |.cont=>∃σ' H',Inv X pins σ' H' s'/\D.ct σ' H'
 |.ret u=>∃v σ' H',Inv X pins σ' H' s'/\RelV v u/\D.rt v H'
def PE (X:Cx) (e:Expr) (t:TE):Prop:=
 ∀(pins:List (zdk×Obj)) (s:zdu) (σ:St) (H:Hp) (Q:VK),Inv X pins σ H s->t σ H Q->wpAny (model X.prog X.w) X.A (eval e X.env) (EP X pins σ Q) X.xe s
def PT (X:Cx) (e:Expr) (t:TT):Prop:=
 ∀(pins:List (zdk×Obj)) (s:zdu) (σ:St) (H:Hp) (Q:Bool->Hp->Prop),Inv X pins σ H s->t σ H Q->wpAny (model X.prog X.w) X.A (isTrue e X.env (eval e X.env)) (TP X pins σ Q) X.xe s
def PW (X:Cx) (e:Expr) (t:TT):Prop:=
 ∀(whole:Sem zdl) (pins:List (zdk×Obj)) (s:zdu) (σ:St) (H:Hp) (Q:Bool->Hp->Prop),Inv X pins σ H s->t σ H Q->wpAny (model X.prog X.w) X.A (isTrue e X.env whole) (TP X pins σ Q) X.xe s
theorem PW.pt{X:Cx}{e:Expr}{t:TT}(h:PW X e t):PT X e t:=h _
def PA (X:Cx) (es:List Expr) (t:TA):Prop:=
 ∀(pos:Pos) (pins:List (zdk×Obj)) (s:zdu) (σ:St) (H:Hp) (Q:List V->Hp->Prop),Inv X pins σ H s->t σ H Q->wpAny (model X.prog X.w) X.A (spliced (backTo pos (zdq es X.env))) (AP X pins σ Q) X.xe s
def PS (X:Cx) (st:Stmt) (t:TS):Prop:=
 ∀(pins:List (zdk×Obj)) (s:zdu) (σ:St) (H:Hp) (D:Ends),Inv X pins σ H s->t D σ H->wpAny (model X.prog X.w) X.A (exec st X.env) (SP X pins D) X.xe s
def DJ (X:Cx) (st:List Stmt) (t:TS):Prop:=
 ∀(pins:List (zdk×Obj)) (s:zdu) (σ:St) (H:Hp) (D:Ends),Inv X pins σ H s->t D σ H->wpAny (model X.prog X.w) X.A (execs st X.env) (SP X pins D) X.xe s
theorem fc{α:Type}{t:Sem α}{Q Q':α->zdu->Prop}{M:Model}{A:zdv}{E:zdl->zdu->Prop}{s:zdu}(h:wpAny M A t Q E s)(hQ:∀a s,Q a s->Q' a s):wpAny M A t Q' E s:=wpAny_mono h hQ fun _ _ x=>x
section
variable{X:Cx}
def vAt (Q:V->Prop):Option (Option V)->Prop
 |some (some v)=>Q v
 |_=>False
theorem Qv{Q:V->Prop}:∀ {o:Option (Option V)},vAt Q o->∃v,o=some (some v)/\Q v
 |some (some v),h=>⟨v,rfl,h⟩
 |some none,h=>h.elim
 |none,h=>h.elim
def gk (i:Nat):TE:=fun σ H Q=>vAt (fun v=>Q v H) σ[i]?
def tC (v:V):TE:=fun _ H Q=>Q v H
theorem Qw{i:Nat}{x:Str}{pos:Pos}(hN:X.N[i]?=some x)(hv:Tq X.env.scope x)(hd:(x==("__debug__":Str))=false:=by decide)(DK:(x==("__classdict__":Str))=false:=by decide):PE X (.Name x pos) (gk i):=by
 intro pins s σ H Q I h;obtain⟨v,e,h⟩:=Qv h;obtain⟨m,hn,hl⟩:=I.loc;obtain⟨u,r,l⟩:=hl i x v hN e hv;have fin:EP X pins σ Q u s:=⟨v,H,I,r,h⟩
 rcases l with ⟨hk,hm⟩ |⟨hk,c,hc,vH⟩
 ·exact wpAny_Name (wpAny_loadName_local I.ok.kind hk hn hm fin) hd
 ·rcases hk with hk |hk
  ·exact wpAny_Name (wpAny_loadName_cell I.ok.kind hk hc vH fin) hd
  ·exact wpAny_Name (wpAny_loadName_free I.ok.kind hk hc vH fin DK) hd
theorem aj{i j pos}:PE X (.Constant (.int i) j pos) (tC (.int i)):=fun _ _ _ H _ I h=>wpAny_Constant_int ⟨.int i,H,I.tok _,⟨_,rfl⟩,h⟩
theorem sT{b j pos}:PE X (.Constant (.bool b) j pos) (tC (.bl b)):=fun _ _ _ H _ I h=>Constant_bool ⟨.bl b,H,I,rfl,h⟩
theorem eV{j pos}:PE X (.Constant .none j pos) (tC .cB):=fun _ _ _ H _ I h=>Constant_none ⟨.cB,H,I,rfl,h⟩
theorem aU{x j pos}:PE X (.Constant (.str x) j pos) (tC (.str x)):=fun _ _ _ H _ I h=>Calls.Constant_str ⟨.str x,H,I.tok _,⟨_,rfl⟩,h⟩
def Gl (X:Cx) (x:Str):Prop:=X.env.kindOf x=some .globalImplicit
theorem wH{E:zdl->zdu->Prop}{pins:List (zdk×Obj)}{s:zdu}{σ:St}{H:Hp}{x:Str}{u:zdl}{pos:Pos}{Q:zdl->zdu->Prop}(I:Inv X pins σ H s)(hg:Gl X x)(hm:X.mg x=some u)(h:Q u s)
 (hd:(x==("__debug__":Str))=false:=by decide):wpAny (model X.prog X.w) X.A (eval (.Name x pos) X.env) Q E s:=
 Calls.Name_function_global I.ok.kind hg (Calls.loadGlobal_global (by rw[I.ok.glob];exact I.mod.glob.keeps I.bk) hm h) hd
theorem rF{E:zdl->zdu->Prop}{pins:List (zdk×Obj)}{s:zdu}{σ:St}{H:Hp}{x:Str}{u:zdl}{pos:Pos}{Q:zdl->zdu->Prop}(I:Inv X pins σ H s)(hg:Gl X x)(hm:X.mg x=none)(hv:bootBuiltins x=some u)(h:Q u s)
 (hn:x≠"__name__":=by decide) (hd:(x==("__debug__":Str))=false:=by decide):wpAny (model X.prog X.w) X.A (eval (.Name x pos) X.env) Q E s:=by
 obtain⟨mb,h1,h2⟩:=I.mod.blt;exact Calls.Name_function_global I.ok.kind hg (Calls.loadGlobal_builtin (by rw[I.ok.glob];exact I.mod.glob.keeps I.bk) hm (by rw[I.ok.blt];exact h1.keeps I.bk) ((h2 x hn).trans hv) h) hd
theorem qc{x:Str}{v:V}{u:zdl}{pos:Pos}(hg:Gl X x)(hm:X.mg x=some u)(r:RelV v u)(hd:(x==("__debug__":Str))=false:=by decide):PE X (.Name x pos) (tC v):=
 fun _ _ _ H _ I h=>wH I hg hm ⟨v,H,I,r,h⟩ hd
theorem FA{x:Str}{v:V}{u:zdl}{pos:Pos}(hg:Gl X x)(hm:X.mg x=none)(hv:bootBuiltins x=some u)(r:RelV v u)(hn:x≠"__name__":=by decide)(hd:(x==("__debug__":Str))=false:=by decide):PE X (.Name x pos) (tC v):=
 fun _ _ _ H _ I h=>rF I hg hm hv ⟨v,H,I,r,h⟩ hn hd
variable{a b:Expr}{ta tb:TE}{pos:Pos}
def tB (t:TE):TT:=fun σ H Q=>t σ H fun x H1=>∃c,x=.bl c/\Q c H1
theorem rG{e:Expr}{t:TE}(h:PE X e t)(he:∀whole,isTrue e X.env whole=(do let v <- whole;standAt e.pos;holding [v] (truthy v)):=by intro _;rfl):PT X e (tB t):=by
 intro pins s σ H Q I hw;refine isTrue_plain (fc (h pins s σ H _ I hw) fun v s1 zqz=>?_) (he _);obtain⟨x,H1,I1,r1,q1⟩:=zqz;obtain⟨d,rfl,q⟩:=q1;cases r1;exact wpAny_truthy_bool ⟨H1,I1,q⟩
variable{tA Wo:TT}{rest:List Expr}
def Qx (t u:TT):TT:=fun σ H Q=>t σ H fun c H1=>if c=true then u σ H1 Q else Q false H1
def XO (t u:TT):TT:=fun σ H Q=>t σ H fun c H1=>if c=true then Q true H1 else u σ H1 Q
def Tz (t:TT):TT:=fun σ H Q=>t σ H fun c H1=>Q (!c) H1
theorem pw_and1(ha:PT X a tA):PW X (.BoolOp .And [a] pos) tA:=by
 intro wh pins s σ H Q I h;refine isTrue_and (fc (ha pins s σ H Q I h) fun c s1 e=>?_);cases c with
 |true=>exact isTrue_and_nil e
 |false=>exact e
theorem pw_or1(ha:PT X a tA):PW X (.BoolOp .Or [a] pos) tA:=by
 intro wh pins s σ H Q I h;refine isTrue_or (fc (ha pins s σ H Q I h) fun c s1 e=>?_);cases c with
 |false=>exact isTrue_or_nil e
 |true=>exact e
theorem pw_and(ha:PT X a tA)(hb:PW X (.BoolOp .And (b::rest) pos) Wo):PW X (.BoolOp .And (a::b::rest) pos) (Qx tA Wo):=by
 intro wh pins s σ H Q I h;refine isTrue_and (fc (ha pins s σ H _ I h) fun c s1 zqz=>?_);obtain⟨H1,I1,q1⟩:=zqz;cases c with
 |true=>exact hb wh pins s1 σ H1 Q I1 q1
 |false=>exact⟨H1,I1,q1⟩
theorem pw_or(ha:PT X a tA)(hb:PW X (.BoolOp .Or (b::rest) pos) Wo):PW X (.BoolOp .Or (a::b::rest) pos) (XO tA Wo):=by
 intro wh pins s σ H Q I h;refine isTrue_or (fc (ha pins s σ H _ I h) fun c s1 zqz=>?_);obtain⟨H1,I1,q1⟩:=zqz;cases c with
 |true=>exact⟨H1,I1,q1⟩
 |false=>exact hb wh pins s1 σ H1 Q I1 q1
theorem DL(ha:PT X a tA):PT X (.UnaryOp .Not a pos) (Tz tA):=by
 intro pins s σ H Q I h;exact isTrue_not (ha pins s σ H (fun c H1=>Q (!c) H1) I h)
def Jk (ta tb:TE):TE:=fun σ H Q=>ta σ H fun x H1=>∃c,x=.bl c/\if c=true then tb σ H1 Q else Q (.bl false) H1
def Qy (ta tb:TE):TE:=fun σ H Q=>ta σ H fun x H1=>∃c,x=.bl c/\if c=true then Q (.bl true) H1 else tb σ H1 Q
def OW (ta:TE):TE:=fun σ H Q=>ta σ H fun x H1=>∃c,x=.bl c/\Q (.bl (!c)) H1
theorem Ay{op}{t:TE}(h:PE X a t):PE X (.BoolOp op [a] pos) t:=fun pins s σ H Q I hw=>BoolOp_one (h pins s σ H Q I hw)
theorem DM(ha:PE X a ta)(hb:PE X (.BoolOp .And (b::rest) pos) tb):PE X (.BoolOp .And (a::b::rest) pos) (Jk ta tb):=by
 intro pins s σ H Q I h;refine BoolOp_and (fc (ha pins s σ H _ I h) fun v s1 zqz=>?_);obtain⟨x,H1,I1,r1,q1⟩:=zqz;obtain⟨c,rfl,q1⟩:=q1;cases r1;refine wpAny_truthy_bool ?_;cases c with
 |true=>exact hb pins s1 σ H1 Q I1 q1
 |false=>exact⟨.bl false,H1,I1,rfl,q1⟩
theorem TB(ha:PE X a ta)(hb:PE X (.BoolOp .Or (b::rest) pos) tb):PE X (.BoolOp .Or (a::b::rest) pos) (Qy ta tb):=by
 intro pins s σ H Q I h;refine BoolOp_or (fc (ha pins s σ H _ I h) fun v s1 zqz=>?_);obtain⟨x,H1,I1,r1,q1⟩:=zqz;obtain⟨c,rfl,q1⟩:=q1;cases r1;refine wpAny_truthy_bool ?_;cases c with
 |false=>exact hb pins s1 σ H1 Q I1 q1
 |true=>exact⟨.bl true,H1,I1,rfl,q1⟩
def tIf (t:TT) (ta tb:TE):TE:=fun σ H Q=>t σ H fun c H1=>if c=true then ta σ H1 Q else tb σ H1 Q
end
def i6 (K:zaa) (H:Hp) (a:zdk) (xs:List V):Prop:=
 Rd H a (.lst xs)\/
  ∃(o:Obj) (bC:Array zdl) (n:Nat),K.lookup a=some o/\o.cls=.type "list"/\o.dict=none/\o.data=.seq bC n/\bC.size<=zds/\Vals xs bC.toList
def bQ (K:zaa) (H:Hp) (a:zdk) (xs:List V):Prop:=
 Rd H a (.tup xs)\/
  ∃(o:Obj) (bC:Array zdl) (n:Nat),K.lookup a=some o/\o.cls=.type "tuple"/\o.data=.seq bC n/\bC.size<=zds/\Vals xs bC.toList
noncomputable def XQ:zdl->Option V
 |.none=>some .cB
 |.bool b=>some (.bl b)
 |.int i _=>some (.int i)
 |.str x _=>some (.str x)
 |.bytes b _=>some (.Fv b)
 |.float b _=>some (.Qr b)
 |.ref a=>some (.ref a)
 |.type n=>some (.ty n)
 |_=>none
theorem RelV.abs{x:V}{u:zdl}(r:RelV x u):XQ u=some x:=by
 cases x with
 |cB=>cases r;rfl
 |bl _=>cases r;rfl
 |int _=>obtain⟨t,rfl⟩:=r;rfl
 |str _=>obtain⟨t,rfl⟩:=r;rfl
 |Fv _=>obtain⟨t,rfl⟩:=r;rfl
 |Qr _=>obtain⟨t,rfl⟩:=r;rfl
 |ref _=>cases r;rfl
 |ty _=>cases r;rfl
theorem RelV.inj{x y:V}{u:zdl}(r:RelV x u)(q:RelV y u):x=y:=zaO.inj (r.abs.symm.trans q.abs)
theorem Vals.inj:∀ {xs ys:List V} {us:List zdl},Vals xs us->Vals ys us->xs=ys
 |_,_,_,.nil,.nil=>rfl
 |_,_,_,.cons r t,.cons r' t'=>by rw[r.inj r',Vals.inj t t']
section
variable{X:Cx}{pins:List (zdk×Obj)}{σ:St}{H:Hp}{s:zdu}{a:zdk}{xs ys:List V}
theorem i6.of{K:zaa}(h:H a=some (.lst xs)):i6 K H a xs:=.inl (.inl h)
theorem bQ.of{K:zaa}(h:H a=some (.tup xs)):bQ K H a xs:=.inl (.inl h)
theorem Inv.list(I:Inv X pins σ H s)(h:i6 X.K H a xs):∃bC:List zdl,Vals xs bC/\PlainL s.heap a bC.toArray/\xs.length<=zds:=by
 rcases h with h |⟨o,bC,n,hk,hc,hd,hs,hz,r⟩
 ·obtain⟨z,bC,n,r,e⟩:=h.ok I.cM;exact⟨bC,r,⟨_,n,e,rfl,rfl,rfl⟩,z⟩
 ·refine⟨bC.toList,r,⟨o,n,I.wG a o hk,hc,hd,by simpa using hs⟩,?_⟩;have e:=r.length;simp only[za7] at e;lia
theorem Inv.tuple(I:Inv X pins σ H s)(h:bQ X.K H a xs):∃bC:List zdl,Vals xs bC/\IsTup s.heap a bC.toArray/\xs.length<=zds:=by
 rcases h with h |⟨o,bC,n,hk,hc,hs,hz,r⟩
 ·obtain⟨z,bC,r,p⟩:=h.ok I.cM;exact⟨bC,r,p,z⟩
 ·refine⟨bC.toList,r,⟨o,I.wG a o hk,hc,n,by simpa using hs⟩,?_⟩;have e:=r.length;simp only[za7] at e;lia
theorem Inv.B0(I:Inv X pins σ H s)(h:i6 X.K H a xs)(h':i6 X.K H a ys):xs=ys:=by
 obtain⟨bC,r,⟨o,n,e,_,_,d⟩,_⟩:=I.list h;obtain⟨its',r',⟨o',n',e',_,_,d'⟩,_⟩:=I.list h';rw[e] at e';cases e';rw[d] at d'
 injection d' with d1 _
 have:bC=its':=by simpa using congrArg zdh d1
 subst this;exact r.inj r'
theorem Inv.G3(I:Inv X pins σ H s)(h:bQ X.K H a xs)(h':bQ X.K H a ys):xs=ys:=by
 obtain⟨bC,r,⟨o,e,_,n,d⟩,_⟩:=I.tuple h;obtain⟨its',r',⟨o',e',_,n',d'⟩,_⟩:=I.tuple h';rw[e] at e';cases e';rw[d] at d'
 injection d' with d1 _
 have:bC=its':=by simpa using congrArg zdh d1
 subst this;exact r.inj r'
end
noncomputable abbrev Cx.yN (X:Cx) (E:zdl->zdu->Prop):Cx:={X with xe:=E}
abbrev Cx.DN (X:Cx):Cx:=X.yN fun _ _=>False
theorem Cx.Ok.yN{X:Cx}(ok:X.Ok)(E:zdl->zdu->Prop):(X.yN E).Ok:=
 ⟨ok.mod,ok.kind,ok.glob,ok.blt,ok.above,ok.inj,ok.has,ok.M5,ok.hd,ok.frames,ok.Wm,ok.exf,ok.bs,ok.BX,ok.Jj,ok.M6,ok.qC,ok.MF⟩
theorem Cx.Ok.oO{X:Cx}{E:zdl->zdu->Prop}(ok:(X.yN E).Ok):X.Ok:=
 ⟨ok.mod,ok.kind,ok.glob,ok.blt,ok.above,ok.inj,ok.has,ok.M5,ok.hd,ok.frames,ok.Wm,ok.exf,ok.bs,ok.BX,ok.Jj,ok.M6,ok.qC,ok.MF⟩
section
variable{X:Cx}{pins:List (zdk×Obj)}{σ:St}{H:Hp}{s:zdu}{E:zdl->zdu->Prop}
theorem Inv.yN(I:Inv X pins σ H s)(E:zdl->zdu->Prop):Inv (X.yN E) pins σ H s:=⟨I.ok.yN E,I.os,I.bare,I.base,I.loc,I.cell,I.free,I.ox,I.pin,I.cM,I.len⟩
theorem Inv.oO(I:Inv (X.yN E) pins σ H s):Inv X pins σ H s:=⟨I.ok.oO,I.os,I.bare,I.base,I.loc,I.cell,I.free,I.ox,I.pin,I.cM,I.len⟩
theorem SP.oO{D:Ends}{f:Flow}{s':zdu}(h:SP (X.yN E) pins D f s'):SP X pins D f s':=by
 cases f with
 |next=>obtain⟨σ',H',I,q⟩:=h;exact⟨σ',H',I.oO,q⟩
 |brk=>obtain⟨σ',H',I,q⟩:=h;exact⟨σ',H',I.oO,q⟩
 |cont=>obtain⟨σ',H',I,q⟩:=h;exact⟨σ',H',I.oO,q⟩
 |ret u=>obtain⟨v,σ',H',I,r,q⟩:=h;exact⟨v,σ',H',I.oO,r,q⟩
theorem DJ.DN{st:List Stmt}{t:TS}(h:DJ X.DN st t):DJ X st t:=fun pins s σ H D I hw=>
 wpAny_mono (h pins s σ H D (I.yN _) hw) (fun _ _ q=>q.oO) fun _ _ z=>False.elim z
end
section
variable{X:Cx}{st:Stmt}{rest:List Stmt}{t u:TS}{e:Expr}{te:TE}{pos:Pos}
def Jl:TS:=fun D σ H=>D.nx σ H
def M7 (t u:TS):TS:=fun D σ H=>t {D with nx:=u D} σ H
theorem aV:DJ X [] Jl:=fun _ _ σ H _ I h=>wpAny_execs_nil ⟨σ,H,I,h⟩
theorem ah(h1:PS X st t)(h2:DJ X rest u):DJ X (st::rest) (M7 t u):=by
 intro pins s σ H D I h;refine wpAny_execs_cons (fc (h1 pins s σ H {D with nx:=u D} I h) fun f s1 q=>?_);cases f with
 |next=>
  obtain⟨σ',H',I',q⟩:=q;exact h2 pins s1 σ' H' D I' q
 |ret v=>exact q
 |brk=>exact q
 |cont=>exact q
theorem ak(h1:PS X st t):DJ X [st] t:=by
 intro pins s σ H D I h;refine wpAny_execs_cons (fc (h1 pins s σ H D I h) fun f s1 q=>?_);cases f with
 |next=>exact wpAny_execs_nil q
 |ret v=>exact q
 |brk=>exact q
 |cont=>exact q
def Jm:TS:=fun D σ H=>D.bk σ H
def OX:TS:=fun D σ H=>D.ct σ H
theorem Inv.quiet{pins:List (zdk×Obj)}{σ:St}{H:Hp}{s:zdu}(I:Inv X pins σ H s):interactive X.env=false:=by simp[interactive,I.ok.kind]
def Jn (te:TE):TS:=fun D σ H=>te σ H fun _ H1=>D.nx σ H1
theorem bK(he:PE X e te)(hs:swapsWith e none pos.line X.env=pure false:=by rfl):PS X (.Expr e pos) (Jn te):=by
 intro pins s σ H D I h;exact wpAny_Expr_any (fc (he pins s σ H _ I h) fun v s1 ⟨x,H1,I1,r1,q1⟩=>⟨σ,H1,I1,q1⟩) I.quiet hs
def Qz (te:TE):TS:=fun D σ H=>te σ H D.rt
theorem aO(he:PE X e te):PS X (.Return (some e) pos) (Qz te):=by
 intro pins s σ H D I h;exact wpAny_Return_some (fc (he pins s σ H _ I h) fun v s1 ⟨x,H1,I1,r1,q1⟩=>⟨x,σ,H1,I1,r1,q1⟩)
def OY:TS:=fun D _ H=>D.rt .cB H
def G4 (c:TT) (t u:TS):TS:=fun D σ H=>c σ H fun b H1=>if b=true then t D σ H1 else u D σ H1
theorem bh{c:Expr}{a b:List Stmt}{tc:TT}(hc:PT X c tc)(ha:DJ X a t)(hb:DJ X b u):PS X (.If c a b pos) (G4 tc t u):=by
 intro pins s σ H D I h;refine wpAny_If (fc (hc pins s σ H _ I h) fun d s1 zqz=>?_);obtain⟨H1,I1,q1⟩:=zqz;cases d with
 |true=>exact ha pins s1 σ H1 D I1 q1
 |false=>exact hb pins s1 σ H1 D I1 q1
def QA:TS:=fun _ _ _=>False
theorem Jo:PS X st QA:=fun _ _ _ _ _ _ h=>h.elim
end
abbrev TG:=V->St->Hp->(St->Hp->Prop)->Prop
abbrev M8:=List V->St->Hp->(St->Hp->Prop)->Prop
def PG (X:Cx) (target:Expr) (t:TG):Prop:=
 ∀(pins:List (zdk×Obj)) (s:zdu) (σ:St) (H:Hp) (v:V) (u:zdl) (Q:St->Hp->Prop),Inv X pins σ H s->RelV v u->t v σ H Q->
  wpAny (model X.prog X.w) X.A (assign target X.env u) (fun _ s'=>∃σ' H',Inv X pins σ' H' s'/\Q σ' H') X.xe s
def TC (X:Cx) (ts:List Expr) (t:M8):Prop:=
 ∀(pins:List (zdk×Obj)) (s:zdu) (σ:St) (H:Hp) (vs:List V) (us:List zdl) (Q:St->Hp->Prop),Inv X pins σ H s->Vals vs us->t vs σ H Q->
  wpAny (model X.prog X.w) X.A (assignInOrder ((assignEach ts X.env).map (·.2)) us) (fun _ s'=>∃σ' H',Inv X pins σ' H' s'/\Q σ' H') X.xe s
abbrev QB:=V->V->V->Hp->(Hp->Prop)->Prop
def TF (X:Cx) (t:QB):Prop:=
 ∀(pins:List (zdk×Obj)) (s:zdu) (σ:St) (H:Hp) (o i v:V) (ov iv u:zdl) (Q:Hp->Prop),Inv X pins σ H s->RelV o ov->RelV i iv->RelV v u->t o i v H Q->
  wpAny (model X.prog X.w) X.A (setItem ov iv u) (fun _ s'=>∃H',Inv X pins σ H' s'/\Q H') X.xe s
abbrev TIp:=V->V->Hp->VK->Prop
section
variable{X:Cx}{pos:Pos}
def eO (i:Nat):TG:=fun v σ H Q=>Q (σ.set i (some v)) H
theorem fY{i:Nat}{x:Str}(hN:X.N.Nodup)(hi:X.N[i]?=some x)(hx:Loc X.env.scope x)(hf:X.fn x=true\/X.env.scope.names.lookup x=some .local:=by first |exact .inl rfl |exact .inr rfl |assumption):PG X (.Name x pos) (eO i):=by
 intro pins s σ H v u Q I r h;exact wpAny_assign_Name (BZ I hN hi hx r (fun s' I'=>⟨_,H,I',h⟩) hf)
def QC:M8:=fun vs σ H Q=>vs=[]/\Q σ H
def Jp (t:TG) (u:M8):M8:=fun vs σ H Q=>∃v r,vs=v::r/\t v σ H fun σ' H'=>u r σ' H' Q
theorem iA:TC X [] QC:=by
 intro pins s σ H vs us Q I r h;obtain⟨e,h⟩:=h;subst e;cases r;exact assignInOrder_nil ⟨σ,H,I,h⟩
theorem bM{e:Expr}{es:List Expr}{t:TG}{u:M8}(h1:PG X e t)(h2:TC X es u)
 (hs:(assignEach (e::es) X.env).map (·.2)=assign e X.env::(assignEach es X.env).map (·.2):=by rfl):TC X (e::es) (Jp t u):=by
 intro pins s σ H vs us Q I r h;obtain⟨v,vr,e1,h⟩:=h;subst e1;cases r with
 |cons r rr=>
  rw[hs];refine assignInOrder_cons (fc (h1 pins s σ H _ _ _ I r h) fun _ s1 zqz=>?_);obtain⟨σ1,H1,I1,q1⟩:=zqz;exact h2 pins s1 σ1 H1 _ _ Q I1 rr q1
def QD (K:zaa) (n:Nat) (t:M8):TG:=fun v σ H Q=>∃a xs,v=.ref a/\bQ K H a xs/\xs.length=n/\t xs σ H Q
theorem rH{es:List Expr}{k:Nat}{t:M8}{n:Nat}(hc:X.calm=true)(h:TC X es t)
 (hn:(assignEach es X.env).length=n:=by rfl) (SK:(assignEach es X.env).findIdx? (·.1)=none:=by rfl):PG X (.Tuple es k pos) (QD X.K n t):=by
 intro pins s σ H v u Q I r hw;obtain⟨a,xs,e1,hq,hl,hw⟩:=hw;subst e1;cases r;obtain⟨bC,rv,ht,hz⟩:=I.tuple hq;refine assign_Tuple_tuple (I.ok.hd hc) ht (by simp[hn,<- hl,rv.length]) SK fun h' hx=>?_;have I1:Inv X pins σ H {s with heap:=h' }:=I.kept (t':=s.toks) fun b o e=>hx b o (zaD (Heap.lt_size e)) e;exact h pins _ σ H xs _ Q I1 (by simpa using rv) hw
def QE (to ti:TE) (t:QB):TG:=fun v σ H Q=>to σ H fun o H1=>ti σ H1 fun i H2=>t o i v H2 fun H3=>Q σ H3
theorem DO{o i:Expr}{to ti:TE}{t:QB}(ho:PE X o to)(hi:PE X i ti)(hs:TF X t)
 (ha:∀v,assign (.Subscript o i pos) X.env v=(do
  let ov <- holding [v] (eval o X.env)
  let iv <- holding [v,ov] (eval i X.env)
  standAt pos
  holding [v,ov,iv] (setItem ov iv v)
  release [v,ov,iv] []):=by intro _;rfl):PG X (.Subscript o i pos) (QE to ti t):=by
 intro pins s σ H v u Q I r h;rw[ha];refine zdn (zdp (fc (ho pins s σ H _ I h) fun ov s1 zqz=>?_));obtain⟨x,H1,I1,r1,q1⟩:=zqz;refine zdn (zdp (fc (hi pins s1 σ H1 _ I1 q1) fun iv s2 zqz=>?_));obtain⟨y,H2,I2,r2,q2⟩:=zqz;refine zdn (wpAny_standAt (zdn (zdp (fc (hs pins s2 σ H2 x y v ov iv u _ I2 r1 r2 r q2) fun _ s3 zqz=>?_))));obtain⟨H3,I3,q3⟩:=zqz;exact wpAny_release ⟨σ,H3,I3,q3⟩
def G5 (te:TE) (g:TG):TS:=fun D σ H=>te σ H fun x H1=>g x σ H1 D.nx
theorem rJ{tg e:Expr}{te:TE}{g:TG}(he:PE X e te)(hg:PG X tg g)(hs:swapsWithSole [tg] e pos.line X.env=pure false:=by rfl)(hw:swappedStores [tg] e X.env=pure none:=by rfl)
 (h1:(assignEach [tg] X.env).map (·.2)=[assign tg X.env]:=by rfl):PS X (.Assign [tg] e pos) (G5 te g):=by
 intro pins s σ H D I h;refine wpAny_Assign_stores (fc (he pins s σ H _ I h) fun v s1 zqz=>?_) hs hw;obtain⟨x,H1,I1,r1,q1⟩:=zqz;rw[h1];exact fc (hg pins s1 σ H1 x v _ I1 r1 q1) fun _ s2 q=>q
theorem DP{i:Nat}{x:Str}{e:Expr}{te:TE}{pos':Pos}(hN:X.N.Nodup)(hi:X.N[i]?=some x)(hx:Loc X.env.scope x)(he:PE X e te)(hs:swapsWith e (some (.Name x pos')) pos.line X.env=pure false:=by rfl)(hf:X.fn x=true\/X.env.scope.names.lookup x=some .local:=by first |exact .inl rfl |exact .inr rfl |assumption) :
 PS X (.Assign [.Name x pos'] e pos) (G5 te (eO i)):=by
 intro pins s σ H D I h;refine wpAny_Assign_Name (fc (he pins s σ H _ I h) fun v s1 zqz=>?_) hs;obtain⟨y,H1,I1,r1,q1⟩:=zqz;exact BZ I1 hN hi hx r1 (fun s2 I2=>⟨_,H1,I2,q1⟩) hf
def TH (i:Nat) (te:TE) (ti:TIp):TS:=fun D σ H=>∃x,σ[i]?=some (some x)/\te σ H fun y H1=>ti x y H1 fun z H2=>D.nx (σ.set i (some z)) H2
end
section
variable{X:Cx}{pos:Pos}
def DQ (c:TT) (tb:TS):TS:=fun D σ H=>∃W:Nat->St->Hp->Prop,(∃m,W m σ H)/\∀m σ H,W m σ H->
 c σ H fun b H1=>if b=true then ∃N:St->Hp->Prop,(∀σ' H',N σ' H'->∃m',m'<m/\W m' σ' H')/\tb {D with nx:=N,ct:=N,bk:=D.nx} σ H1 else D.nx σ H1
theorem mh{c:Expr}{body:List Stmt}{tc:TT}{tb:TS}(hp:PassesOwn (model X.prog X.w) X.A X.env X.xe)(hc:PT X c tc)(hb:DJ X body tb):PS X (.While c body [] pos) (DQ tc tb):=by
 intro pins s σ H D I h;obtain⟨W,⟨m0,w0⟩,turn⟩:=h;refine wpAny_While (codeAny_whileLoop (fun n s'=>∃σ' H',Inv X pins σ' H' s'/\W n σ' H') ?_ m0 ⟨σ,H,I,w0⟩)
 rintro n s1 ⟨σ1,H1,I1,w1⟩
 refine wpAny_passesOwn hp (fc (hc pins s1 σ1 H1 _ I1 (turn n σ1 H1 w1)) fun b s2 zqz=>?_);obtain⟨H2,I2,q2⟩:=zqz;cases b with
 |true=>
  obtain⟨N,hN,q2⟩:=q2;rw[zzp rfl];refine wpAny_passesOwn hp (fc (hb pins s2 σ1 H2 _ I2 q2) fun f s3 q3=>?_);cases f with
  |next=>
   obtain⟨σ3,H3,I3,n3⟩:=q3;obtain⟨m',hm,w3⟩:=hN σ3 H3 n3;exact⟨m',hm,σ3,H3,I3,w3⟩
  |cont=>
   obtain⟨σ3,H3,I3,n3⟩:=q3;obtain⟨m',hm,w3⟩:=hN σ3 H3 n3;exact⟨m',hm,σ3,H3,I3,w3⟩
  |brk=>exact q3
  |ret v=>exact q3
 |false=>
  rw[zzn zai];exact wpAny_execs_nil ⟨σ1,H2,I2,q2⟩
end
structure It where
 go:Nat->Hp->Prop
 zz:Nat->Hp->V->Hp->Prop
 stop:Nat->Hp->Prop
def sU (X:Cx) (pins:List (zdk×Obj)) (H:Hp) (b:zdk):Prop:=
 H b=none/\b≠X.env.locals/\b ∉ X.fs/\(b∈X.ex\/X.s₀.heap.objs.size<=b)/\(∀x c,X.env.cells.lookup x=some c->c≠b)/\∀p∈X.pn++pins,p.1≠b
theorem Inv.B1{X:Cx}{pins:List (zdk×Obj)}{σ:St}{H H':Hp}{s:zdu}{b:zdk}(I:Inv X pins σ H s)(hb:s.heap.objs.size<=b)(hn:H' b=none):sU X pins H' b:=by
 refine⟨hn,zbM (zaC I.lt hb),I.XH hb,.inr (zay I.sz hb),fun x c e z=>?_,fun p hp z=>?_⟩
 ·obtain⟨v,q⟩:=I.cell x c e;exact zzb (zaC q.lt (by rw[z];exact hb)) (zaW _)
 ·exact zzb (zaC (Heap.lt_size (I.pin p hp).1) (by rw[z];exact hb)) (zaW _)
structure Turn(P:zdw)(w:zdm)(K:zaa)(tg:Expr)(J:It)(fp:List zdk)(it:zdk)(tn:Nat->Heap->Prop):Prop where
 mem:it∈fp
 obj:∀i h,tn i h->∀b∈fp,∃o,h.get? b=some o/\∀v,o.data≠.cell v
 keep:∀i h h',tn i h->(∀b∈fp,∀o,h.get? b=some o->h'.get? b=some o)->tn i h'
 item:∀(X:Cx),X.prog=P->X.w=w->X.K=K->X.calm=true->∀(i:Nat) (pins:List (zdk×Obj)) (s:zdu) (σ:St) (H:Hp) (E:zdl->zdu->Prop),Inv X pins σ H s->(∀b∈fp,sU X pins H b)->tn i s.heap->J.go i H->
  wpAny (model P w) X.A (pyNext (.ref it)) (fun r s1=>∃u,r=some u/\
   wpAny (model P w) X.A (letOwnedTupleGo tg (.ref it) u) (fun _ s2=>∃x H',Inv X pins σ H' s2/\RelV x u/\J.zz i H x H'/\tn (i+1) s2.heap/\∀b∈fp,H' b=none) E s1) E s
 done:∀(X:Cx),X.prog=P->X.w=w->X.K=K->X.calm=true->∀(i:Nat) (pins:List (zdk×Obj)) (s:zdu) (σ:St) (H:Hp) (E:zdl->zdu->Prop),Inv X pins σ H s->(∀b∈fp,sU X pins H b)->tn i s.heap->J.stop i H->
  wpAny (model P w) X.A (pyNext (.ref it)) (fun r s1=>r=none/\Inv X pins σ H s1) E s
 self:∀(A:zdv) (i:Nat) (s:zdu) (Q:zdl->zdu->Prop) (E:zdl->zdu->Prop),tn i s.heap->Q (.ref it) s->wpAny (model P w) A (pyIter (.ref it)) Q E s
abbrev TI:=St->Hp->(It->Hp->Prop)->Prop
def PIE (X:Cx) (pins:List (zdk×Obj)) (σ:St) (tg:Expr) (R:It->Hp->Prop) (XR:zdl) (s2:zdu):Prop:=
 ∃(it:zdk) (fp:List zdk) (tn:Nat->Heap->Prop) (J:It) (H':Hp),XR=.ref it/\Inv X pins σ H' s2/\Turn X.prog X.w X.K tg J fp it tn/\tn 0 s2.heap/\(∀b∈fp,sU X pins H' b)/\R J H'
def PI (X:Cx) (tg iter:Expr) (wi:TI):Prop:=
 ∀(pins:List (zdk×Obj)) (s:zdu) (σ:St) (H:Hp) (R:It->Hp->Prop),Inv X pins σ H s->wi σ H R->
  wpAny (model X.prog X.w) X.A (eval iter X.env) (fun v s1=>wpAny (model X.prog X.w) X.A (pyIter v) (PIE X pins σ tg R) X.xe s1) X.xe s
theorem FC{M:Model}{A:zdv}{E:zdl->zdu->Prop}{s:zdu}{tg:Expr}{it:zdk}{u:zdl}{o:Obj}{n:String}{vs:Array zdl}{Q:Unit->zdu->Prop}(ho:s.heap.get? it=some o)(hc:o.cls=.type n)(hd:o.data=.fields vs)
 (hn:["enumerate", "zip", "dict_itemiterator", "dict_reverseitemiterator", "odict_iterator", "itertools.zip_longest", "itertools.pairwise"].contains n=false) (hQ:Q () s):wpAny M A (letOwnedTupleGo tg (.ref it) u) Q E s:=by
 unfold letOwnedTupleGo;cases tg<;>first
  |exact zdo hQ
  |(cases u<;>first
     |exact zdo hQ
     |(refine zdn (wpAny_load ho ?_)
       rw[hc,hd];show wpAny M A (if (["enumerate", "zip", "dict_itemiterator", "dict_reverseitemiterator", "odict_iterator", "itertools.zip_longest", "itertools.pairwise"].contains n&&vs[0]?==some (rawInt _))=true then _ else _) Q E s;rw[zzn (by intro h;rw[hn,Bool.false_and] at h;cases h)];exact zdo hQ))
noncomputable def IY (K:zaa) (a:zdk):It:=
 ⟨fun i H=>∃xs x,i6 K H a xs/\xs[i]?=some x,fun i H x H'=>H'=H/\∀xs,i6 K H a xs->xs[i]?=some x,fun i H=>∃xs,i6 K H a xs/\xs.length<=i⟩
noncomputable def OZ (K:zaa) (a:zdk):It:=
 ⟨fun i H=>∃xs x,bQ K H a xs/\xs[i]?=some x,fun i H x H'=>H'=H/\∀xs,bQ K H a xs->xs[i]?=some x,fun i H=>∃xs,bQ K H a xs/\xs.length<=i⟩
noncomputable def IZ (lo:Int) (n:Nat):It:=⟨fun i _=>i<n,fun i H x H'=>H'=H/\x=.int (lo+i),fun i _=>n<=i⟩
theorem G6{P:zdw}{w:zdm}{K:zaa}{tg:Expr}(a it:zdk):Turn P w K tg (IY K a) [it] it (fun i h=>h.IsListIter it a i) where
 mem:=by simp
 obj:=fun i h st b hb=>by
  have e:b=it:=by simpa using hb
  subst e;obtain⟨o,e,c,d⟩:=st;exact⟨o,e,fun v z=>by rw[d] at z;cases z⟩
 keep:=fun i h h' st k=>st.at fun o e=>k it (by simp) o e
 item:=by
  intro X hP hw hK hc i pins s σ H E I hf st hg;subst hP hw hK;obtain⟨xs,x,hq,hx⟩:=hg;obtain⟨bC,rv,p,hz⟩:=I.list hq;obtain⟨u,hu,ru⟩:=rv.get hx;obtain⟨f0,f1,f2,f3,f4,f5⟩:=hf it (by simp);refine wpAny_pyNext_list_item st p.isList (x:=u) (by simpa using hu) fun h' G7 sb=>?_;have I1:Inv X pins σ H {s with heap:=h' }:=I.turned (t':=s.toks) (fun b o hb e=>(sb.2 b hb).trans e) f0 f1 f3 f4 f5;obtain⟨o,e,c,d⟩:=id G7;exact⟨u,rfl,FC (s:={s with heap:=h' }) e c d (by decide) ⟨x,H,I1,ru,⟨rfl,fun ys hy=>by rw[I.B0 hy hq];exact hx⟩,G7,fun b hb=>(hf b hb).1⟩⟩
 done:=by
  intro X hP hw hK hc i pins s σ H E I hf st hg;subst hP hw hK;obtain⟨xs,hq,hx⟩:=hg;obtain⟨bC,rv,p,hz⟩:=I.list hq;obtain⟨f0,f1,f2,f3,f4,f5⟩:=hf it (by simp);have hl:=rv.length;exact wpAny_pyNext_list_end (I.ok.hd hc) st p.isList (by simp;lia) fun h' eb=>⟨rfl,I.turned (t':=s.toks) (fun b o hb e=>eb b o hb e) f0 f1 f3 f4 f5⟩
 self:=fun _ _ _ _ _ st h=>wpAny_pyIter_listiter st h
theorem DR{P:zdw}{w:zdm}{K:zaa}{tg:Expr}(a it:zdk):Turn P w K tg (OZ K a) [it] it (fun i h=>h.IsTupleIter it a i) where
 mem:=by simp
 obj:=fun i h st b hb=>by
  have e:b=it:=by simpa using hb
  subst e;obtain⟨o,e,c,d⟩:=st;exact⟨o,e,fun v z=>by rw[d] at z;cases z⟩
 keep:=fun i h h' st k=>st.at fun o e=>k it (by simp) o e
 item:=by
  intro X hP hw hK hc i pins s σ H E I hf st hg;subst hP hw hK;obtain⟨xs,x,hq,hx⟩:=hg;obtain⟨bC,rv,p,hz⟩:=I.tuple hq;obtain⟨u,hu,ru⟩:=rv.get hx;obtain⟨f0,f1,f2,f3,f4,f5⟩:=hf it (by simp);refine wpAny_pyNext_tuple_item st (show s.heap.IsTuple a bC.toArray from p) (x:=u) (by simpa using hu) fun h' G7 sb=>?_;have I1:Inv X pins σ H {s with heap:=h' }:=I.turned (t':=s.toks) (fun b o hb e=>(sb.2 b hb).trans e) f0 f1 f3 f4 f5;obtain⟨o,e,c,d⟩:=id G7;exact⟨u,rfl,FC (s:={s with heap:=h' }) e c d (by decide) ⟨x,H,I1,ru,⟨rfl,fun ys hy=>by rw[I.G3 hy hq];exact hx⟩,G7,fun b hb=>(hf b hb).1⟩⟩
 done:=by
  intro X hP hw hK hc i pins s σ H E I hf st hg;subst hP hw hK;obtain⟨xs,hq,hx⟩:=hg;obtain⟨bC,rv,p,hz⟩:=I.tuple hq;obtain⟨f0,f1,f2,f3,f4,f5⟩:=hf it (by simp);have hl:=rv.length;exact wpAny_pyNext_tuple_end (I.ok.hd hc) st (show s.heap.IsTuple a bC.toArray from p) (by simp;lia) fun h' eb=>⟨rfl,I.turned (t':=s.toks) (fun b o hb e=>eb b o hb e) f0 f1 f3 f4 f5⟩
 self:=fun _ _ _ _ _ st h=>wpAny_pyIter_tupleiter st h
theorem DT{P:zdw}{w:zdm}{K:zaa}{tg:Expr}(it:zdk)(lo:Int)(n:Nat):Turn P w K tg (IZ lo n) [it] it (fun i h=>IsRangeIter h it (lo+(i:Nat)*1) ((n:Int)-(i:Nat)) 1) where
 mem:=by simp
 obj:=fun i h st b hb=>by
  have e:b=it:=by simpa using hb
  subst e;exact⟨_,st,fun v z=>by
   have z':Data.fields _=Data.cell v:=z;cases z'⟩
 keep:=fun i h h' st k=>k it (by simp) _ st
 item:=by
  intro X hP hw hK hc i pins s σ H E I hf st hg;subst hP hw hK;obtain⟨f0,f1,f2,f3,f4,f5⟩:=hf it (by simp);have W:=Walks.range (prog:=X.prog) (w:=X.w) (I.ok.hd hc) it lo 1 n;refine W.item i s _ _ hg st fun v h' tk hv G7 kk=>?_;obtain⟨t,rfl⟩:=hv;have I1:Inv X pins σ H {s with heap:=h',toks:=tk}:=I.turned (fun b o hb e=>kk b o (by simpa using hb) e) f0 f1 f3 f4 f5;refine⟨_,rfl,FC (s:={s with heap:=h',toks:=tk}) (n:="range_iterator") G7 rfl rfl (by decide) ⟨.int (lo+i),H,I1,⟨t,?_⟩,⟨rfl,rfl⟩,G7,fun b hb=>(hf b hb).1⟩⟩;rw[Int.mul_one]
 done:=by
  intro X hP hw hK hc i pins s σ H E I hf st hg;subst hP hw hK;obtain⟨f0,f1,f2,f3,f4,f5⟩:=hf it (by simp);exact wpAny_pyNext_range_end (I.ok.hd hc) st (by have:n<=i:=hg;lia) fun h' eb=>⟨rfl,I.turned (t':=s.toks) (fun b o hb e=>eb b o hb e) f0 f1 f3 f4 f5⟩
 self:=fun _ _ _ _ _ st h=>wpAny_pyIter_rangeiter st h
section
variable{X:Cx}{tg:Expr}
def FD (K:zaa) (tl:TE):TI:=fun σ H R=>tl σ H fun x H1=>∃a,x=.ref a/\(∃xs,i6 K H1 a xs)/\R (IY K a) H1
def TJ (K:zaa) (tl:TE):TI:=fun σ H R=>tl σ H fun x H1=>∃a,x=.ref a/\(∃xs,bQ K H1 a xs)/\R (OZ K a) H1
theorem cH{l:Expr}{tl:TE}(hl:PE X l tl):PI X tg l (FD X.K tl):=by
 intro pins s σ H R I h;refine fc (hl pins s σ H _ I h) fun v s1 zqz=>?_;obtain⟨x,H1,I1,r1,q1⟩:=zqz;obtain⟨a,e,⟨xs,hq⟩,q⟩:=q1;subst e;cases r1;obtain⟨bC,rv,p,hz⟩:=I1.list hq;refine wpAny_pyIter_list p.isList ?_;refine⟨s1.heap.objs.size,[s1.heap.objs.size],_,_,H1,rfl,I1.kept (t':=s1.toks) fun b o e=>Heap.get?_push_of_some _ e,G6 a _,⟨_,Heap.get?_push_size _ rfl,rfl,rfl⟩,fun b hb=>?_,q⟩;have e:b=s1.heap.objs.size:=by simpa using hb
 subst e;exact I1.B1 (zaf _) (I1.cM.fresh (zaf _))
theorem QF{l:Expr}{tl:TE}(hl:PE X l tl):PI X tg l (TJ X.K tl):=by
 intro pins s σ H R I h;refine fc (hl pins s σ H _ I h) fun v s1 zqz=>?_;obtain⟨x,H1,I1,r1,q1⟩:=zqz;obtain⟨a,e,⟨xs,hq⟩,q⟩:=q1;subst e;cases r1;obtain⟨bC,rv,p,hz⟩:=I1.tuple hq;refine wpAny_pyIter_tuple (show s1.heap.IsTuple a bC.toArray from p) ?_;refine⟨s1.heap.objs.size,[s1.heap.objs.size],_,_,H1,rfl,I1.kept (t':=s1.toks) fun b o e=>Heap.get?_push_of_some _ e,DR a _,⟨_,Heap.get?_push_size _ rfl,rfl,rfl⟩,fun b hb=>?_,q⟩;have e:b=s1.heap.objs.size:=by simpa using hb
 subst e;exact I1.B1 (zaf _) (I1.cM.fresh (zaf _))
theorem Jq{pins:List (zdk×Obj)}{σ:St}{H:Hp}{s:zdu}{R:It->Hp->Prop}{E:zdl->zdu->Prop}{lo hi:Int}{t u v:Tok}{tk:Nat}(I:Inv X pins σ H s)(h1 : -(2 ^ 62)<=lo)(h2:lo<2 ^ 62)(h3 : -(2 ^ 62)<=hi)(h4:hi<2 ^ 62)
 (q:R (IZ lo (hi-lo).toNat) H):wpAny (model X.prog X.w) X.A (pyIter (.ref s.heap.objs.size)) (PIE X pins σ tg R) E {s with heap:=s.heap.push {cls:=.type "range",data:=.fields #[.int lo t,.int hi u,.int 1 v]},toks:=tk}:=by
 refine wpAny_pyIter_range (IsRange.new ..) (small_one h1 h2 h3 h4) ?_;have I1:Inv X pins σ H {s with heap:=s.heap.push {cls:=.type "range",data:=.fields #[.int lo t,.int hi u,.int 1 v]},toks:=tk}:=I.kept fun b o e=>Heap.get?_push_of_some _ e;refine⟨(s.heap.push {cls:=.type "range",data:=.fields #[.int lo t,.int hi u,.int 1 v]}).objs.size,[(s.heap.push {cls:=.type "range",data:=.fields #[.int lo t,.int hi u,.int 1 v]}).objs.size],_,_,H,rfl,
  I1.kept (t':=tk) fun b o e=>Heap.get?_push_of_some _ e,DT _ lo (hi-lo).toNat,?_,fun b hb=>?_,q⟩
 ·have e1:lo+((0:Nat):Int)*1=lo:=by simp
  have e2:(((hi-lo).toNat:Nat):Int)-((0:Nat):Int)=Builtin.Range.rangeSize lo hi 1:=by rw[rangeSize_one];split<;>lia
  show IsRangeIter _ _ (lo+((0:Nat):Int)*1) ((((hi-lo).toNat:Nat):Int)-((0:Nat):Int)) 1;rw[e1,e2];exact Heap.get?_push_size _ rfl
 ·have e:b=(s.heap.push {cls:=.type "range",data:=.fields #[.int lo t,.int hi u,.int 1 v]}).objs.size:=by simpa using hb
  subst e;exact I1.B1 (zaf _) (I1.cM.fresh (zaf _))
def FE (ta:TA):TI:=fun σ H R=>ta σ H fun vs H1=>∃j:Int,vs=[.int j]/\-(2 ^ 62)<=j/\j<2 ^ 62/\R (IZ 0 j.toNat) H1
def O0 (ta:TA):TI:=fun σ H R=>ta σ H fun vs H1=>∃i j:Int,vs=[.int i,.int j]/\(-(2 ^ 62)<=i/\i<2 ^ 62/\-(2 ^ 62)<=j/\j<2 ^ 62)/\R (IZ i (j-i).toNat) H1
theorem ik{a:Expr}{ta:TA}{p pos:Pos}(hg:Gl X "range")(hm:X.mg "range"=none)(ha:PA X [a] ta)(hs:zdq [a] X.env=[(false,eval a X.env)]:=by rfl):PI X tg (.Call (.Name "range" p) [a] [] pos) (FE ta):=by
 intro pins s σ H R I h;refine Call_ (rF I hg hm boot_range (zbo (fc (ha pos pins s σ H _ I h) fun us s1 zqz=>?_) hs rfl));obtain⟨vs,H1,I1,r1,q1⟩:=zqz;obtain⟨j,e,q1,q2,q⟩:=q1;subst e;cases r1 with
 |cons r rr=>
  cases rr;obtain⟨t,rfl⟩:=r;exact call_range_1 (Jq I1 (by lia) (by lia) q1 q2 (by simpa using q))
def G8 (wi:TI) (g:TG) (tb:TS):TS:=fun D σ H=>wi σ H fun J H1=>∃W:Nat->Nat->St->Hp->Prop,(∃m,W 0 m σ H1)/\∀i m σ H,W i m σ H->
 (J.stop i H/\D.nx σ H)\/(J.go i H/\∃N:St->Hp->Prop,(∀σ' H',N σ' H'->∃m',m'<m/\W (i+1) m' σ' H')/\∀x H',J.zz i H x H'->g x σ H' fun σ2 H2=>tb {D with nx:=N,ct:=N,bk:=D.nx} σ2 H2)
noncomputable def w9 (fp:List zdk) (h:Heap):List (zdk×Obj):=fp.filterMap fun b=>(h.get? b).map fun o=>(b,o)
theorem mW{fp:List zdk}{h:Heap}{b:zdk}{o:Obj}(hb:b∈fp)(e:h.get? b=some o):(b,o)∈w9 fp h:=List.mem_filterMap.mpr ⟨b,hb,by rw[e];rfl⟩
theorem G9{fp:List zdk}{h:Heap}{p:zdk×Obj}(hp:p∈w9 fp h):p.1∈fp/\h.get? p.1=some p.2:=by
 obtain⟨b,hb,e⟩:=List.mem_filterMap.mp hp;cases q:h.get? b with
 |none=>rw[q] at e;cases e
 |some o=>
  rw[q] at e;have e':(b,o)=p:=zaO.inj e;subst e';exact⟨hb,q⟩
theorem Inv.pinned{pins:List (zdk×Obj)}{σ:St}{H:Hp}{s:zdu}{fp:List zdk}(I:Inv X pins σ H s)(hf:∀b∈fp,sU X pins H b)(ho:∀b∈fp,∃o,s.heap.get? b=some o/\∀v,o.data≠.cell v):Inv X (pins++w9 fp s.heap) σ H s:=
 I.Fx fun p hp=>(zaA.mp hp).elim (fun z=>I.pin p (zaL _ z)) fun z=>by
  obtain⟨hb,e⟩:=G9 z;obtain⟨f0,f1,f2,_⟩:=hf p.1 hb;obtain⟨o,e',d⟩:=ho p.1 hb;rw[e] at e';cases e';exact⟨e,f0,f1,f2,d⟩
theorem Inv.sV{pins pl:List (zdk×Obj)}{σ:St}{H:Hp}{s:zdu}(I:Inv X (pins++pl) σ H s):Inv X pins σ H s:=I.Fx fun p hp=>I.pin p (zaL _ (zbT _ hp))
theorem du{iter:Expr}{body:List Stmt}{wi:TI}{g:TG}{tb:TS}{pos:Pos}(hp:PassesOwn (model X.prog X.w) X.A X.env X.xe)(hc:X.calm=true)(hi:PI X tg iter wi)(hg:PG X tg g)(hb:DJ X body tb)
 (hs:∀x,foldedSetIterable iter X.env x=pure x:=by intro _;rfl):PS X (.For tg iter body [] pos) (G8 wi g tb):=by
 intro pins s σ H D I h;refine wpAny_For (fc (hi pins s σ H _ I h) fun v s1 h1=>fc h1 fun XR s2 h2=>?_) hs;obtain⟨it,fp,tn,J,H2,e,I2,T,yI,f2,W,⟨m0,w0⟩,turn⟩:=h2;subst e;have stat:∀ {H':Hp},(∀b∈fp,H' b=none)->∀b∈fp,sU X pins H' b:=fun hn b hb=>⟨hn b hb,(f2 b hb).2⟩
 refine codeAny_forLoop_any (fun n s'=>∃i σ' H',Inv X pins σ' H' s'/\tn i s'.heap/\(∀b∈fp,H' b=none)/\W i n σ' H') ?_ m0 ⟨0,σ,H2,I2,yI,fun b hb=>(f2 b hb).1,w0⟩
 rintro n s3 ⟨i,σ3,H3,I3,O3,TK,w3⟩
 rcases turn i n σ3 H3 w3 with ⟨stop,qn⟩ |⟨go,N,hN,step⟩
 ·refine wpAny_passesOwn hp (fc (T.done X rfl rfl rfl hc i pins s3 σ3 H3 X.xe I3 (stat TK) O3 stop) fun r s4 zqz=>?_);obtain⟨hr,I4⟩:=zqz;subst hr;exact wpAny_execs_nil ⟨σ3,H3,I4,qn⟩
 ·refine wpAny_passesOwn hp (fc (T.item X rfl rfl rfl hc i pins s3 σ3 H3 X.xe I3 (stat TK) O3 go) fun r s4 zqz=>?_);obtain⟨u,hr,h4⟩:=zqz;subst hr;refine wpAny_passesOwn hp (fc h4 fun _ s5 zqz=>?_);obtain⟨x,H5,I5,r5,y5,Jr,XS⟩:=zqz;have XT:=I5.pinned (stat XS) (T.obj _ _ Jr);refine wpAny_passesOwn hp (fc (hg _ s5 σ3 H5 x u _ XT r5 (step x H5 y5)) fun _ s6 zqz=>?_);obtain⟨σ6,H6,I6,q6⟩:=zqz;refine wpAny_passesOwn hp (fc (hb _ s6 σ6 H6 _ I6 q6) fun f s7 q7=>?_);have again:∀ {σ7:St} {H7:Hp},Inv X (pins++w9 fp s5.heap) σ7 H7 s7->N σ7 H7->∃m,m<n/\∃i σ' H',Inv X pins σ' H' s7/\tn i s7.heap/\(∀b∈fp,H' b=none)/\W i m σ' H':=fun {σ7 H7} I7 n7=>by
   obtain⟨m',hm,w7⟩:=hN σ7 H7 n7;refine⟨m',hm,i+1,σ7,H7,I7.sV,T.keep _ _ _ Jr fun b hb o e=>(I7.pin (b,o) (zaL _ (zaL _ (mW hb e)))).1,fun b hb=>?_,w7⟩;obtain⟨o,e,d⟩:=T.obj _ _ Jr b hb;exact(I7.pin (b,o) (zaL _ (zaL _ (mW hb e)))).2.1
  cases f with
  |next=>obtain⟨σ7,H7,I7,n7⟩:=q7;exact again I7 n7
  |cont=>obtain⟨σ7,H7,I7,n7⟩:=q7;exact again I7 n7
  |brk=>obtain⟨σ7,H7,I7,q7⟩:=q7;exact⟨σ7,H7,I7.sV,q7⟩
  |ret v=>obtain⟨x7,σ7,H7,I7,r7,q7⟩:=q7;exact⟨x7,σ7,H7,I7.sV,r7,q7⟩
end
theorem fH{K:zaa}{a:zdk}{xs:List V}{g:TG}{tb:TS}{D:Ends}{σ:St}{H:Hp}(Pv:Nat->St->Hp->Prop)(h0:Pv 0 σ H)(hl:∀i σ H,i<=xs.length->Pv i σ H->i6 K H a xs)
 (hs:∀i x σ H,xs[i]?=some x->Pv i σ H->g x σ H fun σ2 H2=>tb {D with nx:=Pv (i+1),ct:=Pv (i+1),bk:=D.nx} σ2 H2) (hd:∀σ H,Pv xs.length σ H->D.nx σ H) :
 ∃W:Nat->Nat->St->Hp->Prop,(∃m,W 0 m σ H)/\∀i m σ H,W i m σ H->
  ((IY K a).stop i H/\D.nx σ H)\/((IY K a).go i H/\∃N:St->Hp->Prop,(∀σ' H',N σ' H'->∃m',m'<m/\W (i+1) m' σ' H')/\∀x H',(IY K a).zz i H x H'->g x σ H' fun σ2 H2=>tb {D with nx:=N,ct:=N,bk:=D.nx} σ2 H2):=by
 refine⟨fun i m σ H=>m=xs.length-i/\i<=xs.length/\Pv i σ H,⟨xs.length,by simp,zaZ _,h0⟩,?_⟩
 rintro i m σ H ⟨rfl,hi,p⟩
 have q:=hl i σ H hi p;by_cases oy:i<xs.length
 ·refine .inr ⟨⟨xs,xs[i],q,by simp[oy]⟩,Pv (i+1),fun σ' H' p'=>⟨xs.length-(i+1),by lia,rfl,oy,p'⟩,fun x H' y=>?_⟩;obtain⟨e,y⟩:=y;subst e;exact hs i x σ _ (y xs q) p
 ·have e:i=xs.length:=by lia
  subst e;exact .inl ⟨⟨xs,q,zaf _⟩,hd σ H p⟩
theorem M9{K:zaa}{a:zdk}{xs:List V}{g:TG}{tb:TS}{D:Ends}{σ:St}{H:Hp}(Pv:Nat->St->Hp->Prop)(h0:Pv 0 σ H)(hl:∀i σ H,i<=xs.length->Pv i σ H->bQ K H a xs)
 (hs:∀i x σ H,xs[i]?=some x->Pv i σ H->g x σ H fun σ2 H2=>tb {D with nx:=Pv (i+1),ct:=Pv (i+1),bk:=D.nx} σ2 H2) (hd:∀σ H,Pv xs.length σ H->D.nx σ H) :
 ∃W:Nat->Nat->St->Hp->Prop,(∃m,W 0 m σ H)/\∀i m σ H,W i m σ H->
  ((OZ K a).stop i H/\D.nx σ H)\/((OZ K a).go i H/\∃N:St->Hp->Prop,(∀σ' H',N σ' H'->∃m',m'<m/\W (i+1) m' σ' H')/\∀x H',(OZ K a).zz i H x H'->g x σ H' fun σ2 H2=>tb {D with nx:=N,ct:=N,bk:=D.nx} σ2 H2):=by
 refine⟨fun i m σ H=>m=xs.length-i/\i<=xs.length/\Pv i σ H,⟨xs.length,by simp,zaZ _,h0⟩,?_⟩
 rintro i m σ H ⟨rfl,hi,p⟩
 have q:=hl i σ H hi p;by_cases oy:i<xs.length
 ·refine .inr ⟨⟨xs,xs[i],q,by simp[oy]⟩,Pv (i+1),fun σ' H' p'=>⟨xs.length-(i+1),by lia,rfl,oy,p'⟩,fun x H' y=>?_⟩;obtain⟨e,y⟩:=y;subst e;exact hs i x σ _ (y xs q) p
 ·have e:i=xs.length:=by lia
  subst e;exact .inl ⟨⟨xs,q,zaf _⟩,hd σ H p⟩
theorem kh{lo:Int}{n:Nat}{g:TG}{tb:TS}{D:Ends}{σ:St}{H:Hp}(Pv:Nat->St->Hp->Prop)(h0:Pv 0 σ H)
 (hs:∀i σ H,i<n->Pv i σ H->g (.int (lo+i)) σ H fun σ2 H2=>tb {D with nx:=Pv (i+1),ct:=Pv (i+1),bk:=D.nx} σ2 H2) (hd:∀σ H,Pv n σ H->D.nx σ H) :
 ∃W:Nat->Nat->St->Hp->Prop,(∃m,W 0 m σ H)/\∀i m σ H,W i m σ H->
  ((IZ lo n).stop i H/\D.nx σ H)\/((IZ lo n).go i H/\∃N:St->Hp->Prop,(∀σ' H',N σ' H'->∃m',m'<m/\W (i+1) m' σ' H')/\∀x H',(IZ lo n).zz i H x H'->g x σ H' fun σ2 H2=>tb {D with nx:=N,ct:=N,bk:=D.nx} σ2 H2):=by
 refine⟨fun i m σ H=>m=n-i/\i<=n/\Pv i σ H,⟨n,by simp,zaZ _,h0⟩,?_⟩
 rintro i m σ H ⟨rfl,hi,p⟩
 by_cases oy:i<n
 ·refine .inr ⟨oy,Pv (i+1),fun σ' H' p'=>⟨n-(i+1),by lia,rfl,oy,p'⟩,fun x H' y=>?_⟩;obtain⟨e,y⟩:=y;subst e y;exact hs i σ _ oy p
 ·have e:i=n:=by lia
  subst e;exact .inl ⟨zaf _,hd σ H p⟩
abbrev R2:=V->V->Hp->VK->Prop
def rK (X:Cx) (f:zdl->zdl->Sem zdl) (r:R2):Prop:=
 ∀(pins:List (zdk×Obj)) (s:zdu) (σ:St) (H:Hp) (x y:V) (v u:zdl) (Q:VK),Inv X pins σ H s->RelV x v->RelV y u->r x y H Q->
  wpAny (model X.prog X.w) X.A (f v u) (EP X pins σ Q) X.xe s
def XU (X:Cx) (f:zdl->Sem zdl) (r:V->Hp->VK->Prop):Prop:=
 ∀(pins:List (zdk×Obj)) (s:zdu) (σ:St) (H:Hp) (x:V) (v:zdl) (Q:VK),Inv X pins σ H s->RelV x v->r x H Q->
  wpAny (model X.prog X.w) X.A (f v) (EP X pins σ Q) X.xe s
def mm (X:Cx) (f:zdl) (r:List V->Hp->VK->Prop):Prop:=
 ∀(pins:List (zdk×Obj)) (s:zdu) (σ:St) (H:Hp) (xs:List V) (us:List zdl) (Q:VK),Inv X pins σ H s->Vals xs us->r xs H Q->
  wpAny (model X.prog X.w) X.A (call f us) (EP X pins σ Q) X.xe s
def XW (X:Cx) (r:V->Hp->(Bool->Hp->Prop)->Prop):Prop:=
 ∀(pins:List (zdk×Obj)) (s:zdu) (σ:St) (H:Hp) (x:V) (v:zdl) (Q:Bool->Hp->Prop),Inv X pins σ H s->RelV x v->r x H Q->
  wpAny (model X.prog X.w) X.A (truthy v) (TP X pins σ Q) X.xe s
def TL (r:R2) (ta tb:TE):TE:=fun σ H Q=>ta σ H fun x H1=>tb σ H1 fun y H2=>r x y H2 Q
def XX (r:V->Hp->VK->Prop) (ta:TE):TE:=fun σ H Q=>ta σ H fun x H1=>r x H1 Q
def rI (C:Int->Int->Prop) (g:Int->Int->V):R2:=fun x y H Q=>∃i j,x=.int i/\y=.int j/\C i j/\Q (g i j) H
def O4 (g:Int->Int->V):R2:=fun x y H Q=>∃i j,x=.int i/\y=.int j/\Q (g i j) H
def rU (g:Int->V):V->Hp->VK->Prop:=fun x H Q=>∃i,x=.int i/\Q (g i) H
section
variable{X:Cx}{a b c:Expr}{ta tb tc:TE}{pos:Pos}
theorem QG(ha:PE X a ta)(hb:PE X b tb){pins:List (zdk×Obj)}{s:zdu}{σ:St}{H:Hp}{R:V->V->Hp->Prop}(I:Inv X pins σ H s)
 (h:ta σ H fun x H1=>tb σ H1 fun y H2=>R x y H2) {Q:zdl->zdu->Prop} {f:zdl->zdl->Sem zdl}
 (hf:∀v u s2 x y H2,Inv X pins σ H2 s2->RelV x v->RelV y u->R x y H2->wpAny (model X.prog X.w) X.A (f v u) Q X.xe s2) :
 wpAny (model X.prog X.w) X.A (eval a X.env) (fun v s₁=>wpAny (model X.prog X.w) X.A (eval b X.env) (fun u s₂=>wpAny (model X.prog X.w) X.A (f v u) Q X.xe s₂) X.xe s₁) X.xe s:=by
 refine fc (ha pins s σ H _ I h) fun v s1 zqz=>?_;obtain⟨x,H1,I1,r1,q1⟩:=zqz;refine fc (hb pins s1 σ H1 _ I1 q1) fun u s2 zqz=>?_;obtain⟨y,H2,I2,r2,q2⟩:=zqz;exact hf v u s2 x y H2 I2 r1 r2 q2
theorem bf{op:Operator}{r:R2}(ho:rK X (binaryOp op) r)(ha:PE X a ta)(hb:PE X b tb):PE X (.BinOp a op b pos) (TL r ta tb):=by
 intro pins s σ H Q I h;exact wpAny_BinOp (QG ha hb I h fun v u s2 x y H2 I2 rx ry q=>ho pins s2 σ H2 x y v u Q I2 rx ry q)
theorem vI{op:UnaryOp}{r:V->Hp->VK->Prop}(ho:XU X (unaryOp op) r)(ha:PE X a ta):PE X (.UnaryOp op a pos) (XX r ta):=by
 intro pins s σ H Q I h;exact UnaryOp_ (fc (ha pins s σ H _ I h) fun v s1 ⟨x,H1,I1,r1,q1⟩=>ho pins s1 σ H1 x v Q I1 r1 q1)
theorem TM{f:zdl->zdl->Sem zdl}{C:Int->Int->Prop}{g:Int->Int->Int}
 (rule:∀(i j:Int) (t u:Tok) (s:zdu) (Q:zdl->zdu->Prop) (E:zdl->zdu->Prop),C i j->Q (.int (g i j) s.toks) {s with toks:=s.toks+1}->wpAny (model X.prog X.w) X.A (f (.int i t) (.int j u)) Q E s) :
 rK X f (rI C fun i j=>.int (g i j)):=by
 intro pins s σ H x y v u Q I rx ry h;obtain⟨i,j,rfl,rfl,hc,q⟩:=h;obtain⟨t,rfl⟩:=rx;obtain⟨t',rfl⟩:=ry;exact rule i j t t' s _ _ hc ⟨.int (g i j),H,I.tok _,⟨_,rfl⟩,q⟩
theorem TN{f:zdl->zdl->Sem zdl}{g:Int->Int->Int}
 (rule:∀(i j:Int) (t u:Tok) (s:zdu) (Q:zdl->zdu->Prop) (E:zdl->zdu->Prop),Q (.int (g i j) s.toks) {s with toks:=s.toks+1}->wpAny (model X.prog X.w) X.A (f (.int i t) (.int j u)) Q E s) :
 rK X f (O4 fun i j=>.int (g i j)):=by
 intro pins s σ H x y v u Q I rx ry h;obtain⟨i,j,rfl,rfl,q⟩:=h;obtain⟨t,rfl⟩:=rx;obtain⟨t',rfl⟩:=ry;exact rule i j t t' s _ _ ⟨.int (g i j),H,I.tok _,⟨_,rfl⟩,q⟩
theorem QH{f:zdl->zdl->Sem zdl}{g:Int->Int->Bool}
 (rule:∀(i j:Int) (t u:Tok) (s:zdu) (Q:zdl->zdu->Prop) (E:zdl->zdu->Prop),Q (.bool (g i j)) s->wpAny (model X.prog X.w) X.A (f (.int i t) (.int j u)) Q E s) :
 rK X f (O4 fun i j=>.bl (g i j)):=by
 intro pins s σ H x y v u Q I rx ry h;obtain⟨i,j,rfl,rfl,q⟩:=h;obtain⟨t,rfl⟩:=rx;obtain⟨t',rfl⟩:=ry;exact rule i j t t' s _ _ ⟨.bl (g i j),H,I,rfl,q⟩
def TQ (i j:Int):Prop:=0<j/\j<1073741824
def TR (i j:Int):Prop:=0<=j/\j<=1000000/\i.natAbs<2 ^ 64
def Js (i j:Int):Prop:=(-(2 ^ 64)<i/\i<2 ^ 64)\/(-(2 ^ 64)<j/\j<2 ^ 64)
theorem Js.ok{i j:Int}(h:Js i j):IntMulOk i j:=by
 rcases h with ⟨h1,h2⟩ |⟨h1,h2⟩
 ·exact .of_left (intBits_le_64 h1 h2)
 ·exact .of_right (intBits_le_64 h1 h2)
theorem dP:rK X (binaryOp .Add) (O4 fun i j=>.int (i+j)):=TN fun _ _ _ _ _ _ _ q=>add_int q
theorem xb:rK X (binaryOp .Sub) (O4 fun i j=>.int (i-j)):=TN fun _ _ _ _ _ _ _ q=>sub_int q
theorem rL:rK X (binaryOp .Mult) (rI Js fun i j=>.int (i*j)):=TM fun _ _ _ _ _ _ _ hc q=>mul_int q hc.ok
theorem Az:rK X (binaryOp .FloorDiv) (rI TQ fun i j=>.int (i/j)):=TM fun i j _ _ _ _ _ hc q=>by
 have h1:(0:Int)<j:=hc.1;have h2:j<1073741824:=hc.2;exact floordiv_int (by lia) (by rw[Int.fdiv_eq_ediv_of_nonneg i (by lia)];exact q) (.inl (PyProof.noPylong_small (by lia)))
theorem cI:rK X (binaryOp .Mod) (rI (fun _ j=>0<j) fun i j=>.int (i%j)):=TM fun i j _ _ _ _ _ hc q=>by
 have h1:(0:Int)<j:=hc;exact mod_int' (by lia) (by rw[Int.fmod_eq_emod_of_nonneg i (by lia)];exact q)
theorem QI:rK X (binaryOp .Pow) (rI TR fun i j=>.int (i ^ j.toNat)):=TM fun _ _ _ _ _ _ _ hc q=>pow_int_small hc.1 hc.2.1 hc.2.2 q
theorem unI{f:zdl->Sem zdl}{g:Int->Int}
 (rule:∀(i:Int) (t:Tok) (s:zdu) (Q:zdl->zdu->Prop) (E:zdl->zdu->Prop),Q (.int (g i) s.toks) {s with toks:=s.toks+1}->wpAny (model X.prog X.w) X.A (f (.int i t)) Q E s) :
 XU X f (rU fun i=>.int (g i)):=by
 intro pins s σ H x v Q I rx h;obtain⟨i,rfl,q⟩:=h;obtain⟨t,rfl⟩:=rx;exact rule i t s _ _ ⟨.int (g i),H,I.tok _,⟨_,rfl⟩,q⟩
theorem oP:XU X (unaryOp .USub) (rU fun i=>.int (-i)):=unI fun _ _ _ _ _ q=>neg_int q
end
noncomputable def Ha:V->V->Bool
 |.cB,.cB=>true |.cB,.int _=>true |.int _,.cB=>true |.cB,.bl _=>true |.bl _,.cB=>true |.cB,.str _=>true |.str _,.cB=>true
 |.int _,.int _=>true |.bl _,.bl _=>true |.str _,.str _=>true |.Fv _,.Fv _=>true
 |.int _,.str _=>true |.str _,.int _=>true |.bl _,.str _=>true |.str _,.bl _=>true
 |_,_=>false
def rEq:R2:=fun x y H Q=>Ha x y=true/\Q (.bl (decide (x=y))) H
def rNe:R2:=fun x y H Q=>Ha x y=true/\Q (.bl (!decide (x=y))) H
theorem FF{i j:Int}:decide (V.int i=V.int j)=(i==j):=by
 rw[zbO];simp
theorem Jt{i j:Bool}:decide (V.bl i=V.bl j)=(i==j):=by
 rw[zbO];simp
theorem FG{i j:Str}:decide (V.str i=V.str j)=(i==j):=by
 rw[zbO];simp
theorem FI{i j:Array UInt8}:decide (V.Fv i=V.Fv j)=(i.toList==j.toList):=by
 rw[zbO];cases i;cases j;simp
section
variable{X:Cx}{a b c:Expr}{ta tb tc:TE}{pos:Pos}
theorem cb{pins:List (zdk×Obj)}{σ:St}{H:Hp}{s:zdu}{Q:VK}{k k':Bool}(I:Inv X pins σ H s)(q:Q (.bl k) H)(e:k=k'):EP X pins σ Q (.bool k') s:=by
 subst e;exact⟨.bl k,H,I,rfl,q⟩
theorem bN:rK X (compareOp .Eq) rEq:=by
 intro pins s σ H x y v u Q I rx ry h;obtain⟨hs,q⟩:=h;cases x with
 |cB=>
  cases rx;cases y with
  |cB=>cases ry;exact PySem.EqNone.eq_none_none (cb I q (by simp))
  |bl j=>cases ry;exact PySem.EqNone.eq_none_bool (cb I q (by simp))
  |int j=>obtain⟨t',rfl⟩:=ry;exact PySem.EqNone.eq_none_int (cb I q (by simp))
  |str j=>obtain⟨t',rfl⟩:=ry;exact PySem.EqNone.eq_none_str (cb I q (by simp))
  |_=>exact zzb (show false=true from hs) zai
 |bl i=>
  cases rx;cases y with
  |cB=>cases ry;exact PySem.EqNone.eq_bool_none (cb I q (by simp))
  |bl j=>cases ry;exact eq_bool (cb I q Jt)
  |str j=>obtain⟨t',rfl⟩:=ry;exact PySem.EqMixed.eq_bool_str (cb I q (by simp))
  |_=>exact zzb (show false=true from hs) zai
 |int i=>
  obtain⟨t,rfl⟩:=rx;cases y with
  |cB=>cases ry;exact PySem.EqNone.eq_int_none (cb I q (by simp))
  |int j=>obtain⟨t',rfl⟩:=ry;exact eq_int (cb I q FF)
  |str j=>obtain⟨t',rfl⟩:=ry;exact PySem.EqMixed.eq_int_str (cb I q (by simp))
  |_=>exact zzb (show false=true from hs) zai
 |str i=>
  obtain⟨t,rfl⟩:=rx;cases y with
  |cB=>cases ry;exact PySem.EqNone.eq_str_none (cb I q (by simp))
  |bl j=>cases ry;exact PySem.EqMixed.eq_str_bool (cb I q (by simp))
  |int j=>obtain⟨t',rfl⟩:=ry;exact PySem.EqMixed.eq_str_int (cb I q (by simp))
  |str j=>obtain⟨t',rfl⟩:=ry;exact eq_str (cb I q FG)
  |_=>exact zzb (show false=true from hs) zai
 |Fv i=>
  obtain⟨t,rfl⟩:=rx;cases y with
  |Fv j=>obtain⟨t',rfl⟩:=ry;exact PySem.W.eq_bytes (cb I q FI)
  |_=>exact zzb (show false=true from hs) zai
 |_=>cases y<;>exact zzb (show false=true from hs) zai
theorem Ju:rK X (compareOp .NotEq) rNe:=by
 intro pins s σ H x y v u Q I rx ry h;obtain⟨hs,q⟩:=h;cases x with
 |cB=>
  cases rx;cases y with
  |cB=>cases ry;exact PySem.EqNone.ne_none_none (cb I q (by simp))
  |bl j=>cases ry;exact PySem.EqNone.ne_none_bool (cb I q (by simp))
  |int j=>obtain⟨t',rfl⟩:=ry;exact PySem.EqNone.ne_none_int (cb I q (by simp))
  |str j=>obtain⟨t',rfl⟩:=ry;exact PySem.EqNone.ne_none_str (cb I q (by simp))
  |_=>exact zzb (show false=true from hs) zai
 |bl i=>
  cases rx;cases y with
  |cB=>cases ry;exact PySem.EqNone.ne_bool_none (cb I q (by simp))
  |bl j=>cases ry;exact ne_bool (cb I q (congrArg not Jt))
  |str j=>obtain⟨t',rfl⟩:=ry;exact PySem.EqMixed.ne_bool_str (cb I q (by simp))
  |_=>exact zzb (show false=true from hs) zai
 |int i=>
  obtain⟨t,rfl⟩:=rx;cases y with
  |cB=>cases ry;exact PySem.EqNone.ne_int_none (cb I q (by simp))
  |int j=>obtain⟨t',rfl⟩:=ry;exact ne_int (cb I q (congrArg not FF))
  |str j=>obtain⟨t',rfl⟩:=ry;exact PySem.EqMixed.ne_int_str (cb I q (by simp))
  |_=>exact zzb (show false=true from hs) zai
 |str i=>
  obtain⟨t,rfl⟩:=rx;cases y with
  |cB=>cases ry;exact PySem.EqNone.ne_str_none (cb I q (by simp))
  |bl j=>cases ry;exact PySem.EqMixed.ne_str_bool (cb I q (by simp))
  |int j=>obtain⟨t',rfl⟩:=ry;exact PySem.EqMixed.ne_str_int (cb I q (by simp))
  |str j=>obtain⟨t',rfl⟩:=ry;exact ne_str (cb I q (congrArg not FG))
  |_=>exact zzb (show false=true from hs) zai
 |Fv i=>
  obtain⟨t,rfl⟩:=rx;cases y with
  |Fv j=>obtain⟨t',rfl⟩:=ry;exact PySem.W.ne_bytes (cb I q (congrArg not FI))
  |_=>exact zzb (show false=true from hs) zai
 |_=>cases y<;>exact zzb (show false=true from hs) zai
theorem oQ:rK X (compareOp .Lt) (O4 fun i j=>.bl (decide (i<j))):=QH fun _ _ _ _ _ _ _ q=>lt_int q
theorem Jv:rK X (compareOp .Gt) (O4 fun i j=>.bl (decide (j<i))):=QH fun _ _ _ _ _ _ _ q=>gt_int q
theorem TU:rK X (compareOp .GtE) (O4 fun i j=>.bl (decide (j<=i))):=QH fun _ _ _ _ _ _ _ q=>ge_int q
theorem Jw:rK X (compareOp .Is) (fun x y H Q=>y=.cB/\Q (.bl (decide (x=.cB))) H):=by
 intro pins s σ H x y v u Q I rx ry h;obtain⟨rfl,q⟩:=h;cases ry;refine is_none_gen (cb I q ?_);cases x<;>first
  |(cases rx;rfl)
  |(obtain⟨t,rfl⟩:=rx;rfl)
theorem AA:rK X (compareOp .IsNot) (fun x y H Q=>y=.cB/\Q (.bl (!decide (x=.cB))) H):=by
 intro pins s σ H x y v u Q I rx ry h;obtain⟨rfl,q⟩:=h;cases ry;refine isnot_none_gen (cb I q ?_);cases x<;>first
  |(cases rx;rfl)
  |(obtain⟨t,rfl⟩:=rx;rfl)
theorem aR(b:Expr){op:CmpOp}(h:op≠.In:=by decide)(h2:op≠.NotIn:=by decide):behindInMarks op b=false:=by
 have e1:(op==CmpOp.In)=false:=by cases op<;>first |rfl |exact zzb rfl h
 have e2:(op==CmpOp.NotIn)=false:=by cases op<;>first |rfl |exact zzb rfl h2
 cases b<;>simp[behindInMarks,e1,e2]
theorem kW{op:CmpOp}{r:R2}(ho:rK X (compareOp op) r)(ha:PE X a ta)(hb:PE X b tb)(hm:behindInMarks op b=false):PE X (.Compare a [op] [b] pos) (TL r ta tb):=by
 intro pins s σ H Q I h;exact wpAny_Compare1 (QG ha hb I h fun v u s2 x y H2 I2 rx ry q=>ho pins s2 σ H2 x y v u Q I2 rx ry q) hm
def FJ (t:TE):TT:=fun σ H Q=>t σ H fun x H'=>∃k,x=.bl k/\Q k H'
theorem aD{op:CmpOp}{r:R2}(ho:rK X (compareOp op) r)(ha:PE X a ta)(hb:PE X b tb)(hm:behindInMarks op b=false):PT X (.Compare a [op] [b] pos) (FJ (TL r ta tb)):=by
 intro pins s σ H Q I h;refine wpAny_isTrue_Compare1 (fc (ha pins s σ H _ I h) fun v s1 zqz=>?_) hm;obtain⟨x,H1,I1,r1,q1⟩:=zqz;refine fc (hb pins s1 σ H1 _ I1 q1) fun u s2 zqz=>?_;obtain⟨y,H2,I2,r2,q2⟩:=zqz;refine fc (ho pins s2 σ H2 x y v u _ I2 r1 r2 q2) fun c s3 zqz=>?_;obtain⟨z,H3,I3,r3,k,e,q3⟩:=zqz;subst e;cases r3;exact wpAny_truthy_bool ⟨H3,I3,q3⟩
def Jx (r r':R2) (ta tb tc:TE):TE:=fun σ H Q=>ta σ H fun x H1=>tb σ H1 fun y H2=>r x y H2 fun z H3=>∃k,z=.bl k/\
 (if k=true then tc σ H3 fun w' H4=>r' y w' H4 Q else Q (.bl false) H3)
def TV (K:zaa) (x:V) (H:Hp) (k:Bool):Prop:=
 match x with
 |.cB=>k=false
 |.bl b=>k=b
 |.int i=>k=(i != 0)
 |.str y=>y.length<=zds/\k=((y.length:Int) != 0)
 |.Fv y=>y.size<=zds/\k=((y.size:Int) != 0)
 |.ref p=>(∃xs,i6 K H p xs/\k = !xs.isEmpty)\/(∃xs,bQ K H p xs/\k = !xs.isEmpty)\/∃ax,H p=some (.dK ax)/\k = !ax.isEmpty
 |_=>False
theorem DU{κ:Type}{ax:List (κ×V)}{vs:List (κ×zdl)}(r:KV ax vs):(!vs.isEmpty) = !ax.isEmpty:=by
 cases r<;>rfl
theorem xc{xs:List V}{bC:List zdl}(r:Vals xs bC):(!bC.toArray.isEmpty) = !xs.isEmpty:=by
 cases r<;>simp
theorem uM:(zds:Nat)<2 ^ 63:=by rw[sizeLine_eq];decide
theorem QJ:XW X (fun x H Q=>∃k,TV X.K x H k/\Q k H):=by
 intro pins s σ H x v Q I rx h;obtain⟨k,e,q⟩:=h;have hl:=uM;have hs:zds=16777216:=sizeLine_eq;cases x with
 |cB=>
  cases rx;have e':k=false:=e;subst e';exact truthy_none ⟨H,I,q⟩
 |bl b=>
  cases rx;have e':k=b:=e;subst e';exact wpAny_truthy_bool ⟨H,I,q⟩
 |int i=>
  obtain⟨t,rfl⟩:=rx;have e':k=(i != 0):=e;subst e';exact PySem.P.truthy_int ⟨H,I,q⟩
 |str y=>
  obtain⟨t,rfl⟩:=rx;obtain⟨hy,e'⟩:y.length<=zds/\k=((y.length:Int) != 0):=e;subst e';exact PySem.P.truthy_str (by lia) ⟨H,I.tok _,q⟩
 |Fv y=>
  obtain⟨t,rfl⟩:=rx;obtain⟨hy,e'⟩:y.size<=zds/\k=((y.size:Int) != 0):=e;subst e';exact PySem.W.truthy_bytes (by lia) ⟨H,I.tok _,q⟩
 |ref p=>
  cases rx;have e':(∃xs,i6 X.K H p xs/\k = !xs.isEmpty)\/(∃xs,bQ X.K H p xs/\k = !xs.isEmpty)\/∃ax,H p=some (.dK ax)/\k = !ax.isEmpty:=e;rcases e' with ⟨xs,hx,e'⟩ |⟨xs,hx,e'⟩ |⟨ax,hx,e'⟩
  ·subst e';obtain⟨bC,r,pl,hz⟩:=I.list hx;have hlen:=r.length;exact wpAny_truthy_list pl.isList (by simp only[zas];lia) ⟨H,I.tok _,by rw[xc r];exact q⟩
  ·subst e';obtain⟨bC,r,pl,hz⟩:=I.tuple hx;have hlen:=r.length;exact truthy_tuple pl (by simp only[zas];lia) ⟨H,I.tok _,by rw[xc r];exact q⟩
  ·subst e';obtain⟨hz,hS,vs,r,m⟩:ax.length<=zds/\(p==sysModules)=false/\∃vs,KV ax vs/\s.heap.DictOf (bT X.prog X.w) p vs:=I.cM p _ hx;have hlen:ax.length=vs.length:=Paired.length r;exact wpAny_truthy_dict hS m (by lia) ⟨H,I.tok _,by rw[DU r];exact q⟩
 |_=>exact(show False from e).elim
theorem B2(ha:PE X a ta)(he:∀whole,isTrue a X.env whole=(do let v <- whole;standAt a.pos;holding [v] (truthy v))) :
 PT X a (fun σ H Q=>ta σ H fun x H'=>∃k,TV X.K x H' k/\Q k H'):=by
 intro pins s σ H Q I h;exact isTrue_plain (fc (ha pins s σ H _ I h) fun v s1 ⟨x,H1,I1,r1,q1⟩=>QJ pins s1 σ H1 x v Q I1 r1 q1) (he _)
theorem vals1{x:V}{us:List zdl}(r:Vals [x] us):∃u,us=[u]/\RelV x u:=by
 cases r with
 |cons r1 r2=>cases r2;exact⟨_,rfl,r1⟩
theorem vals2{x y:V}{us:List zdl}(r:Vals [x,y] us):∃u w',us=[u,w']/\RelV x u/\RelV y w':=by
 cases r with
 |cons r1 r2=>
  cases r2 with
  |cons r3 r4=>cases r4;exact⟨_,_,rfl,r1,r3⟩
theorem Hb(hc:X.calm=true):mm X (.builtin "max") (fun xs H Q=>∃i j,xs=[.int i,.int j]/\Q (.int (if j>i then j else i)) H):=by
 intro pins s σ H xs us Q I r h;obtain⟨i,j,rfl,q⟩:=h;obtain⟨u,w',rfl,⟨t,rfl⟩,⟨t',rfl⟩⟩:=vals2 r;refine max_two_ints (I.ok.hd hc) fun h' tk k=>⟨_,H,I.kept k,?_,q⟩
 by_cases hj:j>i
 ·rw[zzp hj,zzp hj];exact⟨_,rfl⟩
 ·rw[zzn hj,zzn hj];exact⟨_,rfl⟩
theorem Hc(hc:X.calm=true):mm X (.builtin "min") (fun xs H Q=>∃i j,xs=[.int i,.int j]/\Q (.int (if j<i then j else i)) H):=by
 intro pins s σ H xs us Q I r h;obtain⟨i,j,rfl,q⟩:=h;obtain⟨u,w',rfl,⟨t,rfl⟩,⟨t',rfl⟩⟩:=vals2 r;refine min_two_ints (I.ok.hd hc) fun h' tk k=>⟨_,H,I.kept k,?_,q⟩
 by_cases hj:j<i
 ·rw[zzp hj,zzp hj];exact⟨_,rfl⟩
 ·rw[zzn hj,zzn hj];exact⟨_,rfl⟩
end
structure Hd(h:Heap)(x dx C:zdk)(mA:Str->Option zdl):Prop where
 obj:h.get? x=some (zbr C dx)
 ns:h.Ns1 dx mA
 ne:dx≠x
theorem He{h:Heap}{dx:zdk}{mA:Str->Option zdl}(n:h.Ns1 dx mA):∃od,h.get? dx=some od/\∀name,zc5 name od=some (mA name):=by
 obtain⟨o,es,ep,ho,hd,hk,_,hm⟩:=n;refine⟨o,ho,fun name=>?_⟩;have e:=hm name;unfold nsFind findBy at e;rw[<- Array.find?_toList] at e;unfold zc5;rw[hd];dsimp only;split
 ·rename_i y q;rw[q] at e;exact congrArg some e
 ·rename_i q;rw[q] at e;have a:es.toList.any (·.refKey)=false:=by
   rw[List.any_eq_false];intro y hy;obtain⟨z,t,DV⟩:=hk y (Array.mem_toList_iff.mp hy);simp[DictEntry.refKey,DV]
  have a':¬es.toList.any (·.refKey)=true:=by rw[a];exact zai
  rw[zzn a'];exact congrArg some e
theorem Hd.look{h:Heap}{x dx C:zdk}{mA:Str->Option zdl}(I:Hd h x dx C mA):∃od,PySem.W.InstAt h x (zbr C dx) C (some od)/\∀name,zc5 name od=some (mA name):=
 let ⟨od,ho,hl⟩:=He I.ns
 ⟨od,⟨I.obj,rfl,rfl,ho⟩,hl⟩
section
variable{prog:zdw}{w:zdm}{A:zdv}{E:zdl->zdu->Prop}{s:zdu}{K:zaa}{x dx C f:zdk}{mA:Str->Option zdl}{name:Str}{v:zdl}
theorem get_map{expr:Bool}{Q:zdl->zdu->Prop}(X:K.In s.heap)(I:Hd s.heap x dx C mA)(hg:zci K C name=true)(hh:zcb K C=true)
 (ha:zaS K (.ref C) name=some none) (hv:mA name=some v) (Dz:PySem.W.handedIn v=true) (h:Q v {s with toks:=s.toks+1}) :
 wpAny (model prog w) A (getAttr (.ref x) name expr) Q E s:=by
 obtain⟨od,J,hl⟩:=I.look;exact PySem.W.get_value X J (PySem.W.plainGet_of hg).1 (PySem.W.findObj_own hh ha rfl (by rw[hl,hv])) Dz h
theorem AB{ns:List Str}{Q:Unit->zdu->Prop}(X:K.In s.heap)(I:Hd s.heap x dx C mA)
 (hs:zaS K (.ref C) "__setattr__"=some (some (.builtin "object.__setattr__"))) (hp:zcz K C=true) (ht:zcS K C name=some none) (hh:zcb K C=true)
 (hw:PySem.Within mA ns) (hsz:ns.length<=zds)
 (h:∀h',Hd h' x dx C (fun y=>if y=name then some v else mA y)->Heap.SameBut dx s.heap h'->Q () {s with heap:=h',toks:=s.toks+2}) :
 wpAny (model prog w) A (setAttr (.ref x) name v) Q E s:=by
 obtain⟨od,J,hl⟩:=I.look;refine PySem.W.set_plain X J hs (PySem.W.osa_open (s:={s with toks:=s.toks+1}) (r:=none) X J hp ht fun b=>?_);obtain⟨cd,hc,DI⟩:=PySem.W.any_some hh;have hx:s.heap.get? x=some ⟨.ref C,some dx,.plain, #[]⟩:=I.obj;refine zdn (zdo (zdn (zdn (wpAny_loadPart hx (zdn (PySem.W.Looks.here (s:={s with toks:=s.toks+1}) (PySem.W.looks_clsIn X hc) ?_))))));rw[DI];refine zdo (a:=some dx) (zdn (zdo (zdn ?_)));refine wpAny_nsSet1 (s:={s with toks:=s.toks+1}) I.ns fun h' QK hs2=>?_;obtain⟨oD,esD,epD,hoD,hdD,hcD⟩:=QK.count (PySem.Within.cons name v hw);refine zdn (wpAny_lookBehind hoD (by rw[hdD];exact pastItsLine_dict (zay hcD (by rw[zah];lia))) ?_);exact zdo (h _ ⟨(hs2.2 _ (Ne.symm I.ne)).trans I.obj,QK,I.ne⟩ hs2)
theorem Jy{R:Result->zdu->Prop}{vs:List zdl}{kw:List (Str×zdl)}(X:K.In s.heap)(hm:zcT K C=true)
 (hi:zaS K (.ref C) "__init__"=some (some (.ref f))) (hf:PySem.W.typeIn K (.ref f)=some (.type "function"))
 (h:codeAny (model prog w) (A.under (.builtin "type.__call__" ⟨.ref C::vs,kw⟩)) (.call (.ref f) ⟨.ref (s.heap.objs.size+1)::vs,kw⟩) (PySem.W.InitBack (s.heap.objs.size+1) R)
  {s with heap:=(s.heap.push zbf).push (zbr C s.heap.objs.size)}) :
 codeAny (model prog w) A (.call (.ref C) ⟨vs,kw⟩) R s:=by
 obtain⟨hh,g,d,t,os⟩:=s;exact PySem.W.make_core (PySem.W.makes_of X hm) (PySem.W.looks_findIn X hi) (fun self=>PySem.W.bind_fn X self hf) (.inl rfl) h
end
noncomputable def kR (f:Str) (v:V):List (Str×V)->List (Str×V)
 |[]=>[(f,v)]
 |(g,x)::r=>if g=f then (g,v)::r else (g,x)::kR f v r
theorem vJ(f g:Str)(v:V):∀fs:List (Str×V),(kR f v fs).lookup g=if g=f then some v else fs.lookup g
 |[]=>by
  show zbl g [(f,v)]=_;by_cases h:g=f
  ·have hb:(g==f)=true:=beq_iff_eq.mpr h;simp only[zbl,hb,zzp h]
  ·have hb:(g==f)=false:=beq_eq_false_iff_ne.mpr h;simp only[zbl,hb,zzn h]
 |(k,x)::r=>by
  have ih:=vJ f g v r;rw[show kR f v ((k,x)::r)=(if k=f then (k,v)::r else (k,x)::kR f v r) from rfl];by_cases hk:k=f
  ·rw[zzp hk];by_cases h:g=k
   ·have hb:(g==k)=true:=beq_iff_eq.mpr h;simp only[zbl,hb,zzp (h.trans hk)]
   ·have hb:(g==k)=false:=beq_eq_false_iff_ne.mpr h;simp only[zbl,hb,zzn (fun e:g=f=>h (e.trans hk.symm))]
  ·rw[zzn hk];by_cases h:g=k
   ·have hb:(g==k)=true:=beq_iff_eq.mpr h;simp only[zbl,hb,zzn (fun e:g=f=>hk (h.symm.trans e))]
   ·have hb:(g==k)=false:=beq_eq_false_iff_ne.mpr h;simp only[zbl,hb];exact ih
theorem uN(f:Str)(v:V):∀fs:List (Str×V),f∈(kR f v fs).map (·.1)/\∀g,g∈fs.map (·.1)->g∈(kR f v fs).map (·.1)
 |[]=>⟨by simp[kR],fun g h=>by simp at h⟩
 |(k,x)::r=>by
  obtain⟨i1,i2⟩:=uN f v r;rw[show kR f v ((k,x)::r)=(if k=f then (k,v)::r else (k,x)::kR f v r) from rfl];by_cases hk:k=f
  ·rw[zzp hk];subst hk;exact⟨by simp,fun g h=>by simpa using h⟩
  ·rw[zzn hk];refine⟨?_,fun g h=>?_⟩
   ·rw[zam];exact zat _ i1
   ·rw[zam] at h ⊢;rcases zag.mp h with e |e
    ·exact zag.mpr (.inl e)
    ·exact zat _ (i2 g e)
theorem vK(f:Str)(v:V):∀fs:List (Str×V),(kR f v fs).length<=fs.length+1
 |[]=>by simp[kR]
 |(k,x)::r=>by
  have ih:=vK f v r;rw[show kR f v ((k,x)::r)=(if k=f then (k,v)::r else (k,x)::kR f v r) from rfl];by_cases hk:k=f
  ·rw[zzp hk,zah,zah];lia
  ·rw[zzn hk,zah,zah];lia
theorem rA.some_of{v:V}{o:Option zdl}(r:rA (some v) o):∃u,o=some u/\RelV v u:=by
 cases o with
 |none=>exact(show False from r).elim
 |some u=>exact⟨u,rfl,r⟩
theorem Hf{v:V}{u:zdl}(r:RelV v u):PySem.W.handedIn u=true:=by
 cases v with
 |cB=>cases (show u=Value.none from r);rfl
 |bl b=>cases (show u=Value.bool b from r);rfl
 |int i=>obtain⟨t,e⟩:=(show ∃t,u=Value.int i t from r);cases e;rfl
 |str x=>obtain⟨t,e⟩:=(show ∃t,u=Value.str x t from r);cases e;rfl
 |Fv b=>obtain⟨t,e⟩:=(show ∃t,u=Value.bytes b t from r);cases e;rfl
 |Qr b=>obtain⟨t,e⟩:=(show ∃t,u=Value.float b t from r);cases e;rfl
 |ref a=>cases (show u=Value.ref a from r);rfl
 |ty n=>cases (show u=Value.type n from r);rfl
section
variable{P:zdw}{w:zdm}{H H':Hp}{h h':Heap}{a C dx:zdk}{fs To:List (Str×V)}
theorem AD(cM:ou P w H h)(e:H a=some (.ins C dx fs)):∃mA,Hd h a dx C mA/\(∀f,rA (fs.lookup f) (mA f))/\PySem.Within mA (fs.map (·.1))/\fs.length<=1000/\H dx=some (.own a):=by
 obtain⟨d,z,ne,ob,mA,n,r,q⟩:=(show dg P w H h a (.ins C dx fs) from cM a _ e)
 exact⟨mA,⟨ob,n,ne⟩,r,q,z,d⟩
end
structure Na(K:zaa)(C:zdk):Prop where
 pg:zci K C Str.empty=true
 hd:zcb K C=true
 po:zcz K C=true
 sa:zaS K (.ref C) "__setattr__"=some (some (.builtin "object.__setattr__"))
theorem Na.get{K:zaa}{C:zdk}(c:Na K C)(f:Str):zci K C f=true:=c.pg
def jJ (K:zaa) (C:zdk) (f:Str):Prop:=zaS K (.ref C) f=some none
theorem jJ.TX{K:zaa}{C:zdk}{f:Str}(n:jJ K C f):zcS K C f=some none:=by
 unfold zcS;rw[show zaS K (.ref C) f=some none from n];rfl
section
variable{X:Cx}{pins:List (zdk×Obj)}{σ:St}{H:Hp}{s:zdu}{a C dx:zdk}{fs:List (Str×V)}{f:Str}{v:V}{A:zdv}{E:zdl->zdu->Prop}
theorem DW{b:Bool}{Q:zdl->zdu->Prop}(I:Inv X pins σ H s)(e:H a=some (.ins C dx fs))(c:Na X.K C)(n:jJ X.K C f)(l:fs.lookup f=some v)
 (h:∀u s',Inv X pins σ H s'->RelV v u->Q u s'):wpAny (model X.prog X.w) A (getAttr (.ref a) f b) Q E s:=by
 obtain⟨mA,O,r,_,_,_⟩:=AD I.cM e;obtain⟨u,hu,ru⟩:=rA.some_of (v:=v) (o:=mA f) (by rw[<- l];exact r f);exact get_map I.wG O (c.get f) c.hd n hu (Hf ru) (h u _ (I.tok _) ru)
theorem DX{y:V}{u:zdl}{Q:Unit->zdu->Prop}(I:Inv X pins σ H s)(e:H a=some (.ins C dx fs))(c:Na X.K C)(n:jJ X.K C f)(hl:fs.length<1000)(ry:RelV y u)
 (h:∀s',Inv X pins σ (upd H a (.ins C dx (kR f y fs))) s'->Q () s'):wpAny (model X.prog X.w) A (setAttr (.ref a) f u) Q E s:=by
 obtain⟨mA,O,r,wi,_,ho⟩:=AD I.cM e;have hz:(fs.map (·.1)).length<=zds:=by rw[zad,sizeLine_eq];lia
 refine AB I.wG O c.sa c.po n.TX c.hd wi hz fun h' O' sb=>h _ ?_;have hd:∃o,h'.get? dx=some o:=let ⟨o,_,_,e',_⟩:=O'.ns;⟨o,e'⟩;refine I.write (x:=a) (e:=dx) (by rw[e];exact True.intro) (.inr ho) (fun b q hb z=>(sb.2 b hb).trans z) hd ?_;refine⟨by rw[aw O.ne];exact ho,?_,O.ne,O'.obj,_,O'.ns,fun g=>?_,fun g hg=>?_⟩
 ·have:=vK f y fs;lia
 ·show rA ((kR f y fs).lookup g) (if g=f then some u else mA g);rw[vJ];by_cases q:g=f
  ·rw[zzp q,zzp q];exact ry
  ·rw[zzn q,zzn q];exact r g
 ·by_cases q:g=f
  ·rw[q];exact(uN f y fs).1
  ·refine(uN f y fs).2 g (wi g fun z=>hg ?_);show (if g=f then some u else mA g)=none;rw[zzn q];exact z
theorem Inv.made(I:Inv X pins σ H s):Inv X pins σ (upd (upd H s.heap.objs.size (.own (s.heap.objs.size+1))) (s.heap.objs.size+1) (.ins C s.heap.objs.size []))
 {s with heap:=(s.heap.push zbf).push (zbr C s.heap.objs.size)}:=by
 have e1:(s.heap.push zbf).get? s.heap.objs.size=some zbf:=Heap.get?_push_size s.heap rfl;have e2:((s.heap.push zbf).push (zbr C s.heap.objs.size)).get? (s.heap.objs.size+1)=some (zbr C s.heap.objs.size):=by
  have:=Heap.get?_push_size (s.heap.push zbf) (o:=zbr C s.heap.objs.size) rfl
  rwa [Heap.size_push] at this
 have e3:(s.heap.push zbf).Ns s.heap.objs.size (fun _=>none):=⟨zbf, #[],_,e1,rfl,(fun e he=>zzb he (by simp)),fun _=>rfl⟩
 have I1:=I.laid (a:=s.heap.objs.size) (o:=.own (s.heap.objs.size+1)) (h':=s.heap.push zbf) (t':=s.toks) (fun b u q=>Heap.get?_push_of_some _ q) (zaf _) ⟨_,e1⟩;refine I1.laid (a:=s.heap.objs.size+1) (o:=.ins C s.heap.objs.size []) (t':=s.toks) (fun b u q=>Heap.get?_push_of_some _ q) (Nat.le_of_eq (Heap.size_push _ _)) ?_;have ne:s.heap.objs.size≠s.heap.objs.size+1:=zaD (zcB _);refine⟨by rw[aw ne,ae],zaZ _,ne,e2,fun _=>none,(Heap.Ns1.of_empty e3).at fun o q=>Heap.get?_push_of_some _ q,fun _=>True.intro,fun y hy=>zzb rfl hy⟩
theorem Nb{prog:zdw}{w:zdm}{env:Env}{e:Expr}{f:Str}{pos:Pos}{s:zdu}{Q:zdl->zdu->Prop}(hb:attributeBase e f env (eval e env)=eval e env)
 (h:wpAny (model prog w) A (eval e env) (fun o s₁=>wpAny (model prog w) A (getAttr o f true) Q E s₁) E s):wpAny (model prog w) A (eval (.Attribute e f pos) env) Q E s:=
 Attribute_any_ h (by rw[arm_eval_Attribute,hb])
end
def QL (K:zaa) (ta:TE) (f:Str):TE:=fun σ H Q=>ta σ H fun x H1=>∃a C dx fs v,x=.ref a/\H1 a=some (.ins C dx fs)/\Na K C/\jJ K C f/\fs.lookup f=some v/\Q v H1
def B3 (K:zaa) (ta tv:TE) (f:Str):TS:=fun D σ H=>tv σ H fun y H1=>ta σ H1 fun x H2=>∃a C dx fs,x=.ref a/\H2 a=some (.ins C dx fs)/\Na K C/\jJ K C f/\fs.length<1000/\
 D.nx σ (upd H2 a (.ins C dx (kR f y fs)))
def FK (K:zaa) (ta tv:TE) (rd:V->V->Hp->VK->Prop) (f:Str):TS:=fun D σ H=>ta σ H fun x H1=>∃a C dx fs v,x=.ref a/\H1 a=some (.ins C dx fs)/\Na K C/\jJ K C f/\fs.lookup f=some v/\
 tv σ H1 fun y H2=>rd v y H2 fun z H3=>∃dx' To,H3 a=some (.ins C dx' To)/\To.length<1000/\D.nx σ (upd H3 a (.ins C dx' (kR f z To)))
section
variable{X:Cx}{o e value:Expr}{f:Str}{pos pos' XY:Pos}{ta tv:TE}
theorem ky(he:PE X e ta)(hb:attributeBase e f X.env (eval e X.env)=eval e X.env):PE X (.Attribute e f pos) (QL X.K ta f):=by
 intro pins s σ H Q I h;refine Nb hb (fc (he pins s σ H _ I h) fun u s1 zqz=>?_);obtain⟨x,H1,I1,rx,a,C,dx,fs,v,ex,ea,c,n,l,q⟩:=zqz;subst ex;obtain rfl:u=Value.ref a:=rx;exact DW I1 ea c n l fun u' s2 I2 ru=>⟨v,H1,I2,ru,q⟩
theorem xf(ha:PE X o ta)(hv:PE X value tv)(hs:swapsWith value (some (.Attribute o f pos')) pos.line X.env=pure false):PS X (.Assign [.Attribute o f pos'] value pos) (B3 X.K ta tv f):=by
 intro pins s σ H D I h;refine plainObj_wpAny_Assign_Attribute (fc (hv pins s σ H _ I h) fun u s1 zqz=>?_) hs;obtain⟨y,H1,I1,ry,q⟩:=zqz;refine fc (ha pins s1 σ H1 _ I1 q) fun ov s2 zqz=>?_;obtain⟨x,H2,I2,rx,a,C,dx,fs,ex,ea,c,n,l,q2⟩:=zqz;subst ex;obtain rfl:ov=Value.ref a:=rx;exact DX I2 ea c n l ry fun s3 I3=>⟨σ,_,I3,q2⟩
end
section
variable{X:Cx}{pins:List (zdk×Obj)}{σ:St}{H:Hp}{s:zdu}{A:zdv}{E:zdl->zdu->Prop}{Q:zdl->zdu->Prop}{c:zdl}{b:Bool}
inductive sW(K:zaa)(H:Hp):V->zdl->Prop where
 |cB:sW K H .cB (.type "NoneType")
 |bl (x:Bool):sW K H (.bl x) (.type "bool")
 |int (i:Int):sW K H (.int i) (.type "int")
 |str (x:Str):sW K H (.str x) (.type "str")
 |Qr (x:UInt64):sW K H (.Qr x) (.type "float")
 |lst {a:zdk} {xs:List V} (e:H a=some (.lst xs)):sW K H (.ref a) (.type "list")
 |Fw {a:zdk} {o:Obj} {xs:List V} (e:H a=some (.Fw o (.lst xs))):sW K H (.ref a) (.type "list")
 |tup {a:zdk} {xs:List V} (e:H a=some (.tup xs)):sW K H (.ref a) (.type "tuple")
 |dK {a:zdk} {ax:List (Key×V)} (e:H a=some (.dK ax)):sW K H (.ref a) (.type "dict")
 |dT {a:zdk} {ax:List (List Key×V)} (e:H a=some (.dT ax)):sW K H (.ref a) (.type "dict")
 |ins {a C dx:zdk} {fs:List (Str×V)} (e:H a=some (.ins C dx fs)) (cl:Na K C) (ha:zaS K (.ref C) "__class__"=some (some (.builtin "object.__class__")))
  (hn:PySem.W.specialIn K (.builtin "object.__class__") "__get__"=some (some (.builtin "getset_descriptor.__get__"))) (Wq:PySem.W.takesIn K (.builtin "object.__class__")=some true)
  (hm:PySem.W.mroIn K C (.type "object")=some true):sW K H (.ref a) (.ref C)
theorem Hg{x:V}{u t:zdl}(I:Inv X pins σ H s)(rx:RelV x u)(ty:sW X.K H x t)(e:zc6 X.K t c=some b)(h:∀tk,Q (.bool b) {s with toks:=tk}) :
 wpAny (model X.prog X.w) A (call (.builtin "isinstance") [u,c]) Q E s:=by
 cases ty with
 |cB=>cases (show u=Value.none from rx);exact zba PySem.W.kitx_none I.wG True.intro e (fun z=>nomatch z) h
 |bl y=>cases (show u=Value.bool y from rx);exact zba PySem.W.kitx_bool I.wG True.intro e (fun z=>nomatch z) h
 |int i=>obtain⟨t,q⟩:=(show ∃t,u=Value.int i t from rx);cases q;exact zba PySem.W.kitx_int I.wG True.intro e (fun z=>nomatch z) h
 |str y=>obtain⟨t,q⟩:=(show ∃t,u=Value.str y t from rx);cases q;exact zba PySem.W.kitx_str I.wG True.intro e (fun z=>nomatch z) h
 |Qr y=>obtain⟨t,q⟩:=(show ∃t,u=Value.float y t from rx);cases q;exact zba PySem.W.kitx_float I.wG True.intro e (fun z=>nomatch z) h
 |@lst a xs ea=>
  cases (show u=Value.ref a from rx);obtain⟨_,_,n,_,h1⟩:=(show dg X.prog X.w H s.heap a (.lst xs) from I.cM a _ ea)
  exact zba PySem.W.kitx_list I.wG ⟨_,h1,rfl⟩ e (fun z=>nomatch z) h
 |@Fw a ob xs ea=>
  cases (show u=Value.ref a from rx);obtain⟨_,_,_,n,_,h1⟩:=(show dg X.prog X.w H s.heap a (.Fw ob (.lst xs)) from I.cM a _ ea)
  exact zba PySem.W.kitx_list I.wG ⟨_,h1,rfl⟩ e (fun z=>nomatch z) h
 |@tup a xs ea=>
  cases (show u=Value.ref a from rx);obtain⟨_,_,_,p⟩:=(show dg X.prog X.w H s.heap a (.tup xs) from I.cM a _ ea)
  obtain⟨o,h1,h2,_⟩:=p;exact zba PySem.W.kitx_tuple I.wG ⟨o,h1,h2⟩ e (fun z=>nomatch z) h
 |@dK a ax ea=>
  cases (show u=Value.ref a from rx);obtain⟨_,_,vs,_,p⟩:=(show dg X.prog X.w H s.heap a (.dK ax) from I.cM a _ ea)
  obtain⟨o,es,ep,h1,h2,_⟩:=p;exact zba PySem.W.kitx_dict I.wG ⟨o,h1,h2.1⟩ e (fun z=>nomatch z) h
 |@dT a ax ea=>
  cases (show u=Value.ref a from rx);obtain⟨_,_,xs,_,o,es,ep,h1,h2,_⟩:=(show dg X.prog X.w H s.heap a (.dT ax) from I.cM a _ ea)
  exact zba PySem.W.kitx_dict I.wG ⟨o,h1,h2.1⟩ e (fun z=>nomatch z) h
 |@ins a C dx fs ea cl ha hn Wq hm=>
  cases (show u=Value.ref a from rx);obtain⟨mA,O,_⟩:=AD I.cM ea;obtain⟨od,J,_⟩:=O.look;exact zba (PySem.W.kitx_own (cl.get _) cl.hd ha hn Wq hm) I.wG J e (fun z=>nomatch z) h
end
structure ib(k:Nat)(A:zdv):Prop where
 hd:A.handled=none
 dp:A.depth+3*k+5<recursionLimit
 un:A.units+16*k+200<cLine
theorem ib.mono{j k:Nat}{A:zdv}(r:ib k A)(h:j<=k):ib j A:=⟨r.hd,by have:=r.dp;lia,by have:=r.un;lia⟩
theorem ib.deeper{k:Nat}{A:zdv}(r:ib (k+1) A)(env:Env):ib k (A.deeper env):=
 ⟨r.hd,by have:=r.dp;show A.depth+1+3*k+5<_;lia,by have:=r.un;show A.units+3+16*k+200<_;lia⟩
theorem DY{A:zdv}{C:zdk}{us:List zdl}{kw:List (Str×zdl)}:(A.under (.builtin "type.__call__" ⟨.ref C::us,kw⟩)).depth=A.depth+1:=by
 first |rfl |simp[Around.under,Code.weight,Code.isCreation,Code.isGuard,Code.isCaller,Code.frames,Code.isFrame,guardIds]
theorem DZ{A:zdv}{C:zdk}{us:List zdl}{kw:List (Str×zdl)}:(A.under (.builtin "type.__call__" ⟨.ref C::us,kw⟩)).units=A.units+1:=by
 first |rfl |simp[Around.under,Code.cUnits,Code.frames,Code.isFrame]
theorem ib.make{k:Nat}{A:zdv}(r:ib (k+1) A)(C:zdk)(us:List zdl)(kw:List (Str×zdl)):ib k (A.under (.builtin "type.__call__" ⟨.ref C::us,kw⟩)):=
 ⟨r.hd,by have:=r.dp;rw[DY];lia,by have:=r.un;rw[DZ];lia⟩
theorem ib.depth{k:Nat}{A:zdv}(r:ib k A):A.depth<recursionLimit:=by have:=r.dp;lia
theorem ib.units{k:Nat}{A:zdv}(r:ib k A):A.units+64<cLine:=by have:=r.un;lia
def Nc:TA:=fun _ H Q=>Q [] H
def xg (ta:TE) (tr:TA):TA:=fun σ H Q=>ta σ H fun x H1=>tr σ H1 fun xs H2=>Q (x::xs) H2
section
variable{X:Cx}{e:Expr}{es:List Expr}{te:TE}{t:TA}{pos:Pos}
theorem aa:PA X [] Nc:=fun _ _ _ _ H Q I h=>Calls.spliced_nil ⟨[],H,I,.nil,h⟩
theorem ag(ha:PE X e te)(hr:PA X es t)(hs:zdq (e::es) X.env=(false,eval e X.env)::zdq es X.env:=by rfl):PA X (e::es) (xg te t):=by
 intro pos pins s σ H Q I h;rw[hs];show wpAny _ _ (spliced ((false,eval e X.env)::backTo pos (zdq es X.env))) _ _ s;refine Calls.spliced_cons (fc (ha pins s σ H _ I h) fun u s1 zqz=>?_);obtain⟨x,H1,I1,r1,q1⟩:=zqz;exact fc (hr pos pins s1 σ H1 _ I1 q1) fun us s2 ⟨xs,H2,I2,r2,q2⟩=>⟨x::xs,H2,I2,.cons r1 r2,q2⟩
def TY (t:TA):TE:=fun σ H Q=>t σ H fun xs H1=>xs.length<=zds/\∀p,H1 p=none->Q (.ref p) (upd H1 p (.tup xs))
def TZ (t:TA):TE:=fun σ H Q=>t σ H fun xs H1=>xs.length<=zds/\∀p,H1 p=none->Q (.ref p) (upd H1 p (.lst xs))
theorem aS{x1}(h:PA X es t):PE X (.Tuple es x1 pos) (TY t):=by
 intro pins s σ H Q I hq;refine wpAny_Tuple_spliced (fc (h pos pins s σ H _ I hq) fun us s1 ⟨xs,H1,I1,r,z,q⟩=>⟨by rw[<- r.length];exact z,?_⟩);have hf:H1 s1.heap.objs.size=none:=I1.cM.fresh (zaf _);refine⟨.ref s1.heap.objs.size,upd H1 s1.heap.objs.size (.tup xs),I1.laid (t':=s1.toks) (fun b u e=>Heap.get?_push_of_some _ e) (zaf _) ?_,rfl,q _ hf⟩;exact⟨z,us,r,⟨_,Heap.get?_push_size _ rfl,rfl,_,rfl⟩⟩
theorem bu(h:PA X es t):PE X (.List es pos) (TZ t):=by
 intro pins s σ H Q I hq;refine wpAny_List_spliced (fc (h pos pins s σ H _ I hq) fun us s1 ⟨xs,H1,I1,r,z,q⟩=>⟨by rw[<- r.length];exact z,?_⟩);have hf:H1 s1.heap.objs.size=none:=I1.cM.fresh (zaf _);refine⟨.ref s1.heap.objs.size,upd H1 s1.heap.objs.size (.lst xs),I1.laid (t':=s1.toks) (fun b u e=>Heap.get?_push_of_some _ e) (zaf _) ?_,rfl,q _ hf⟩;exact⟨z,us,0,r,Heap.get?_push_size _ rfl⟩
end
abbrev Sp:=List V->Hp->VK->XK->Prop
abbrev BM:=List Env->Hp->zdu->XK->zdl->zdu->Prop
structure rM(P:zdw)(w:zdm)(K:zaa)(mg:Str->Option zdl)(base:Heap)(A:zdv)(outer:List Env)(s:zdu)(H:Hp):Prop where
 frames:A.frames=some outer
 mod:Mod K mg base
 bs:∀b o,base.get? b=some o->s.heap.get? b=some o/\H b=none
 BX:base.objs.size<=s.heap.objs.size
 qC:s.heap.FunFrames base outer
 MF:∀b∈dh outer,H b=none
 cM:ou P w H s.heap
 bare:AllBare s.gens
def CE (outer:List Env) (P:zdw) (w:zdm) (H:Hp) (s:zdu) (Q:VK) (u:zdl) (s':zdu):Prop:=
 ∃v H',s'.os=s.os/\AllBare s'.gens/\Un (dh outer) [] H H' s.heap s'.heap/\ou P w H' s'.heap/\RelV v u/\Q v H'
def CR (CX:BM) (outer:List Env) (P:zdw) (w:zdm) (H:Hp) (s:zdu) (Q:VK) (E:XK) (r:Result) (s':zdu):Prop:=
 match r with
 |.ok (.ret u)=>CE outer P w H s Q u s'
 |.ok _=>False
 |.error e=>CX outer H s E e s'
structure bJ(P:zdw)(w:zdm)(K:zaa)(mg:Str->Option zdl)(base:Heap)(CX:BM)(k:Nat)(f:zdk)(fd:zdt)(ps:List Str)(sp:Sp):Prop where
 len:∀vs H Q E,sp vs H Q E->vs.length=ps.length
 run:∀(A:zdv) (outer:List Env) (s:zdu) (H:Hp) (args:Args) (us:List zdl) (vs:List V) (Q:VK) (E:XK),ib k A->rM P w K mg base A outer s H->BindsTo s fd args (ps.zip us)->Vals vs us->sp vs H Q E->
  codeAny (model P w) A (.call (.ref f) args) (CR CX outer P w H s Q E) s
theorem rM.make{P:zdw}{w:zdm}{K:zaa}{mg:Str->Option zdl}{base:Heap}{A:zdv}{outer:List Env}{s:zdu}{H:Hp}(e:rM P w K mg base A outer s H)(C:zdk)(us:List zdl)(kw:List (Str×zdl)) :
 rM P w K mg base (A.under (.builtin "type.__call__" ⟨.ref C::us,kw⟩)) outer s H:=⟨by first |exact e.frames |(simpa[Around.under,Code.envs,Code.isFrame,pushEnvs] using e.frames),e.mod,e.bs,e.BX,e.qC,e.MF,e.cM,e.bare⟩
section
variable{X:Cx}{pins:List (zdk×Obj)}{σ:St}{H:Hp}{s s':zdu}
theorem Inv.Nd(I:Inv X pins σ H s):rM X.prog X.w X.K X.mg X.base X.A X.stack s H:=
 ⟨I.ok.frames,I.ok.mod,I.bs,zay I.ok.BX I.sz,I.stack,I.Ax,I.cM,I.bare⟩
theorem Inv.after{Q:VK}{u:zdl}(I:Inv X pins σ H s)(h:CE X.stack X.prog X.w H s Q u s'):EP X pins σ Q u s':=by
 obtain⟨v,H',os,bare,un,cM,r,q⟩:=h;obtain⟨hh,g,d,t,os'⟩:=s';obtain rfl:os'=s.os:=os;exact⟨v,H',I.call (h':=hh) (g':=g) (d':=d) (t':=t) (ch:=[]) un cM bare (fun b z=>zzb z (by simp)),r,q⟩
end
def B4 (sp:Sp) (zF:List V) (E:XK) (t:TA):TE:=fun σ H Q=>t σ H fun vs H1=>sp (vs++zF) H1 Q E
def O5 (C:zdk) (m:Str) (sp:Sp) (zF:List V) (E:XK) (ta:TE) (t:TA):TE:=fun σ H Q=>ta σ H fun x H1=>∃a dx fs,x=.ref a/\H1 a=some (.ins C dx fs)/\fs.lookup m=none/\
 t σ H1 fun vs H2=>sp (x::(vs++zF)) H2 Q E
def Jz (C:zdk) (sp:Sp) (zF:List V) (E:XK) (t:TA):TE:=fun σ H Q=>t σ H fun vs H1=>∀x dx,H1 x=none->H1 dx=none->dx≠x->
 sp (.ref x::(vs++zF)) (upd (upd H1 dx (.own x)) x (.ins C dx [])) (fun v H2=>v=.cB/\Q (.ref x) H2) E
def Binds (K:zaa) (fd:zdt) (ps:List Str) (ds:List zdl):Prop:=
 ∀(s:zdu) (us:List zdl),K.In s.heap->(us++ds).length=ps.length->BindsTo s fd ⟨us,[]⟩ (ps.zip (us++ds))
theorem Binds.all{K:zaa}{fd:zdt}{ps:List Str}(h:∀us:List zdl,us.length=ps.length->bindArgs fd ⟨us,[]⟩=pure (ps.zip us)):Binds K fd ps []:=fun s us _ hl=>by
 rw[zav] at hl ⊢;exact .of_eq (h us hl)
def Passes (CX:BM) (X:Cx) (E:XK):Prop:=∀(pins:List (zdk×Obj)) (σ:St) (H:Hp) (s:zdu) (e:zdl) (s':zdu),Inv X pins σ H s->CX X.stack H s E e s'->X.xe e s'
section
variable{X:Cx}{CX:BM}{k:Nat}{f C:zdk}{fd:zdt}{ps:List Str}{sp:Sp}{zF:List V}{ds:List zdl}{E:XK}{x m:Str}{p pos apos:Pos}{e o:Expr}{es:List Expr}{ta:TE}{t:TA}
theorem QM{pins:List (zdk×Obj)}{σ:St}{H:Hp}{s:zdu}{Q:VK}{us:List zdl}{vs:List V}(F:bJ X.prog X.w X.K X.mg X.base CX k f fd ps sp)(hr:ib k X.A)(hb:Binds X.K fd ps ds)(hd:Vals zF ds)(hx:Passes CX X E)
 (I:Inv X pins σ H s) (r:Vals vs us) (h:sp (vs++zF) H Q E):wpAny (model X.prog X.w) X.A (call (.ref f) us) (EP X pins σ Q) X.xe s:=by
 have r2:Vals (vs++zF) (us++ds):=r.append hd;have hl:(us++ds).length=ps.length:=by rw[<- r2.length];exact F.len _ _ _ _ h
 refine wpAny_call (codeAny_mono (F.run X.A X.stack s H ⟨us,[]⟩ (us++ds) (vs++zF) Q E hr I.Nd (hb s us I.wG hl) r2 h) fun r s' hq=>?_);cases r with
 |error e=>exact hx pins σ H s e s' I hq
 |ok fl=>
  cases fl with
  |ret u=>exact I.after hq
  |next=>exact False.elim hq
  |brk=>exact False.elim hq
  |cont=>exact False.elim hq
theorem FL(F:bJ X.prog X.w X.K X.mg X.base CX k f fd ps sp)(hr:ib k X.A)(hg:Gl X x)(hm:X.mg x=some (.ref f))(hk:zbv X.K (.ref f)=true)(hb:Binds X.K fd ps ds)(hd:Vals zF ds)(hx:Passes CX X E)
 (ha:PA X (e::es) t) (JA:(x==("__debug__":Str))=false:=by decide) (he:zdq (e::es) X.env=(false,eval e X.env)::zdq es X.env:=by rfl) (BN:(backTo pos (zdq es X.env)).any (·.1)=false:=by rfl) :
 PE X (.Call (.Name x p) (e::es) [] pos) (B4 sp zF E t):=by
 intro pins s σ H Q I h;refine wpAny_Call_Name_kw (wH I hg hm ?_ JA);refine zcx (h₀:=X.base) I.ok.mod.Tp hk (fc (ha pos pins s σ H _ I h) fun us s1 ⟨vs,H1,I1,r,q⟩=>⟨I1.wG,?_⟩) he BN;exact QM F hr hb hd hx I1 r q
structure Mk(K:zaa)(C f:zdk):Prop where
 makes:zcT K C=true
 init:zaS K (.ref C) "__init__"=some (some (.ref f))
 fn:PySem.W.isFn K (.ref f)=true
 kp:zbv K (.ref C)=true
theorem JB{pins:List (zdk×Obj)}{σ:St}{H:Hp}{s:zdu}{Q:VK}{us:List zdl}{vs:List V}(M:Mk X.K C f)(F:bJ X.prog X.w X.K X.mg X.base CX k f fd ps sp)(hr:ib (k+1) X.A)(hb:Binds X.K fd ps ds)(hd:Vals zF ds)
 (hx:Passes CX X E) (I:Inv X pins σ H s) (r:Vals vs us)
 (h:∀x dx,H x=none->H dx=none->dx≠x->sp (.ref x::(vs++zF)) (upd (upd H dx (.own x)) x (.ins C dx [])) (fun v H2=>v=.cB/\Q (.ref x) H2) E) :
 wpAny (model X.prog X.w) X.A (call (.ref C) us) (EP X pins σ Q) X.xe s:=by
 have hq:=h (s.heap.objs.size+1) s.heap.objs.size (I.cM.fresh (Nat.le_succ _)) (I.cM.fresh (zaf _)) (zaD (zcB _));have I2:=Inv.made (C:=C) I;have r2:Vals (V.ref (s.heap.objs.size+1)::(vs++zF)) (Value.ref (s.heap.objs.size+1)::(us++ds)):=.cons rfl (r.append hd);have hl:(Value.ref (s.heap.objs.size+1)::us++ds).length=ps.length:=by
  have e:=r2.length;rw[F.len _ _ _ _ hq] at e;exact e.symm
 refine wpAny_call (Jy (f:=f) I.wG M.makes M.init (beq_iff_eq.mp M.fn) (codeAny_mono (F.run _ X.stack _ _ ⟨Value.ref (s.heap.objs.size+1)::us,[]⟩ (Value.ref (s.heap.objs.size+1)::(us++ds)) _ _ E (hr.make C us [])
  (I2.Nd.make C us []) (hb _ (Value.ref (s.heap.objs.size+1)::us) I2.wG hl) r2 hq) fun r s' T1=>?_))
 cases r with
 |error e=>exact hx pins σ _ _ e s' I2 T1
 |ok fl=>
  cases fl with
  |ret u=>
   obtain⟨v,H',I3,rv,ev,q3⟩:=I2.after T1;subst ev;exact⟨rv,⟨V.ref (s.heap.objs.size+1),H',I3,rfl,q3⟩⟩
  |next=>exact False.elim T1
  |brk=>exact False.elim T1
  |cont=>exact False.elim T1
theorem Nf(M:Mk X.K C f)(F:bJ X.prog X.w X.K X.mg X.base CX k f fd ps sp)(hr:ib (k+1) X.A)(hg:Gl X x)(hm:X.mg x=some (.ref C))(hb:Binds X.K fd ps ds)(hd:Vals zF ds)(hx:Passes CX X E)
 (ha:PA X (e::es) t) (JA:(x==("__debug__":Str))=false:=by decide) (he:zdq (e::es) X.env=(false,eval e X.env)::zdq es X.env:=by rfl) (BN:(backTo pos (zdq es X.env)).any (·.1)=false:=by rfl) :
 PE X (.Call (.Name x p) (e::es) [] pos) (Jz C sp zF E t):=by
 intro pins s σ H Q I h;refine wpAny_Call_Name_kw (wH I hg hm ?_ JA);refine zcx (h₀:=X.base) I.ok.mod.Tp M.kp (fc (ha pos pins s σ H _ I h) fun us s1 ⟨vs,H1,I1,r,q⟩=>⟨I1.wG,?_⟩) he BN;exact JB M F hr hb hd hx I1 r q
end
structure a8(N P:List Str)(sc:Scope):Prop where
 kind:sc.kind=.function
 co:sc.isCoroutine=false
 gen:sc.isGenerator=false
 nd:N.Nodup
 pre:N.take P.length=P
 par:∀x∈P,sc.names.lookup x=some .local\/sc.names.lookup x=some .cell
 QN:∀y∈sc.names,y.2≠.free
theorem zG{kindOf:Str->Option NameKind}{x:Str}:∀ {binds:List (Str×zdl)} {m:Str->Option zdl},(∀v,(x,v) ∉ binds)->bindL kindOf binds m x=m x
 |[],_,_=>rfl
 |(n,v)::r,m,h=>by
  unfold bindL;rw[zG fun w hw=>h w (zat _ hw)];split
  ·have:x≠n:=by rintro rfl;exact h v zaq
   simp[this]
  ·rfl
theorem zH{kindOf:Str->Option NameKind}{x:Str}:∀ {binds:List (Str×zdl)} {m:Str->Option zdl},(∀v,(x,v) ∉ binds)->bindC kindOf binds m x=m x
 |[],_,_=>rfl
 |(n,v)::r,m,h=>by
  unfold bindC;rw[zH fun w hw=>h w (zat _ hw)];split
  ·rfl
  ·have:x≠n:=by rintro rfl;exact h v zaq
   simp[this]
theorem zI{kindOf:Str->Option NameKind}{x:Str}{v:zdl}:∀ {P:List Str} {vs:List zdl} {i:Nat} {m:Str->Option zdl},P.Nodup->P[i]?=some x->vs[i]?=some v->kindOf x=some .local->
 bindL kindOf (P.zip vs) m x=some v
 |[],_,_,_,_,h,_,_=>by simp at h
 |_::_,[],_,_,_,_,h,_=>by simp at h
 |p::P,w::vs,0,m,nd,h1,h2,hk=>by
  simp at h1 h2;subst h1;subst h2;show bindL kindOf ((p,w)::P.zip vs) m p=_;unfold bindL;rw[zG fun v hv=>(zaE.mp nd).1 (zcO hv).1,zzp hk];simp
 |p::P,w::vs,i+1,m,nd,h1,h2,hk=>by
  show bindL kindOf ((p,w)::P.zip vs) m x=_;unfold bindL;exact zI (i:=i) (zaE.mp nd).2 (by simpa using h1) (by simpa using h2) hk
theorem zJ{kindOf:Str->Option NameKind}{x:Str}{v:zdl}:∀ {P:List Str} {vs:List zdl} {i:Nat} {m:Str->Option zdl},P.Nodup->P[i]?=some x->vs[i]?=some v->kindOf x≠some .local->
 bindC kindOf (P.zip vs) m x=some v
 |[],_,_,_,_,h,_,_=>by simp at h
 |_::_,[],_,_,_,_,h,_=>by simp at h
 |p::P,w::vs,0,m,nd,h1,h2,hk=>by
  simp at h1 h2;subst h1;subst h2;show bindC kindOf ((p,w)::P.zip vs) m p=_;unfold bindC;rw[zH fun v hv=>(zaE.mp nd).1 (zcO hv).1,zzn hk];simp
 |p::P,w::vs,i+1,m,nd,h1,h2,hk=>by
  show bindC kindOf ((p,w)::P.zip vs) m x=_;unfold bindC;exact zJ (i:=i) (zaE.mp nd).2 (by simpa using h1) (by simpa using h2) hk
noncomputable def start (N:List Str) (vs:List V):St:=vs.map some++zcr (N.length-vs.length) none
noncomputable def mX (CX:BM) (P:zdw) (w:zdm) (K:zaa) (mg:Str->Option zdl) (base:Heap) (N:List Str) (qual:Str) (scope:Scope) (f:zdk) (cd:zdl) (A:zdv) (outer:List Env) (s:zdu) (H:Hp) (E:XK):Cx where
 prog:=P
 w:=w
 K:=K
 mg:=mg
 base:=base
 A:=A.deeper (envOfC qual scope s.heap.objs.size f cd)
 N:=N
 s₀:=s
 H₀:=H
 env:=envOfC qual scope s.heap.objs.size f cd
 outer:=outer
 stack:=envOfC qual scope s.heap.objs.size f cd::outer
 ex:=[]
 calm:=true
 fn:=fun _=>true
 pn:=[]
 xe:=fun e s'=>wpAny (model P w) (A.deeper (envOfC qual scope s.heap.objs.size f cd)) (leaving (envOfC qual scope s.heap.objs.size f cd) e) (fun _ Hh=>CX outer H s E e Hh) (fun e' Hh=>CX outer H s E e' Hh) s'
theorem B5{sc:Scope}{n:Nat}{x:Str}(h:sc.names.lookup x=some .cell):∃c,(cellsFrom n sc.names []).lookup x=some c:=by
 have q:=zcY sc.names n [] (.inl h);exact zcC.mp q
theorem Hi{CX:BM}{P:zdw}{w:zdm}{K:zaa}{mg:Str->Option zdl}{base:Heap}{N ps:List Str}{qual:Str}{scope:Scope}{f:zdk}{cd:zdl}{A:zdv}{outer:List Env}{s s1:zdu}{H:Hp}{E:XK}{us:List zdl}{vs:List V}
 (S:a8 N ps scope) (hd:A.handled=none) (e0:rM P w K mg base A outer s H) (hl:vs.length=ps.length) (r:Vals vs us)
 (x:InCallC s s.heap.objs.size (bindL (envOfC qual scope s.heap.objs.size f cd).kindOf (ps.zip us) fun _=>none) (cellsFrom (s.heap.objs.size+1) scope.names []) (bindC (envOfC qual scope s.heap.objs.size f cd).kindOf (ps.zip us) fun _=>none) s1) :
 Inv (mX CX P w K mg base N qual scope f cd A outer s H E) [] (start N vs) H s1:=by
 have BN:ps.length<=N.length:=by have:=congrArg za5 S.pre;rw[zbU] at this;lia
 obtain⟨h1,tk,rfl,hk⟩:=x.done;have QO:∀b:zdk,b ∉ (mX CX P w K mg base N qual scope f cd A outer s H E).ex:=fun b z=>zzb (show b∈([]:List zdk) from z) (by simp);refine⟨⟨e0.mod,S.kind,rfl,rfl,zaf _,fun y z c h1 h2=>?_,fun y hy=>?_,fun y c _ h=>?_,fun _=>hd,Around.frames_deeper e0.frames,.inr ⟨rfl,rfl⟩,fun b z=>zzb z (QO b),e0.bs,e0.BX,fun b _ _=>QO b,fun b z=>zzb z (QO b),e0.qC,e0.MF⟩,
  rfl,e0.bare,Un.kept hk,⟨_,x.toInCall.ns,fun i y v h1 h2 h3=>?_⟩,fun y c h=>⟨_,x.cell y c h⟩,e0.cM.fresh (zaf _),fun y c h=>?_,fun p hp=>zzb (show p∈([]:List (zdk×Obj)) from hp) (by simp),e0.cM.kept hk,?_⟩
 ·exact name_of_addr x.apart (PySem.mem_of_lookup h1) (PySem.mem_of_lookup h2)
 ·have hy:scope.names.lookup y=some .cell\/scope.names.lookup y=some .free:=hy;rcases hy with hy |hy
  ·exact B5 hy
  ·exact zzb rfl (S.QN _ (PySem.mem_of_lookup hy))
 ·exact zcl (x.above y c (PySem.mem_of_lookup h))
 ·have hi:i<vs.length:=by
   unfold start at h2;by_cases hi:i<vs.length
   ·exact hi
   ·rw[zbC (by simpa using hi)] at h2;rw[zcL] at h2;split at h2<;>cases h2
  have ha:vs[i]?=some v:=by
   unfold start at h2;rw[zbX (by simpa using hi),zal] at h2;cases e:vs[i]? with
   |none=>rw[e] at h2;cases h2
   |some a=>rw[e] at h2;cases h2;rfl
  obtain⟨u,hu,rv⟩:=r.get ha;have hp:ps[i]?=some y:=by
   rw[<- S.pre,List.getElem?_take_of_lt (by lia)];exact h1
  have ndP:ps.Nodup:=by rw[<- S.pre];exact S.nd.sublist (List.take_sublist _ _)
  refine⟨u,rv,?_⟩;rcases S.par y (zaI hp) with k |k
  ·exact .inl ⟨k,zI ndP hp hu k⟩
  ·obtain⟨c,e⟩:=B5 (n:=s.heap.objs.size+1) k;refine .inr ⟨.inl k,c,e,?_⟩;have q:=x.cell y c e;rw[zJ ndP hp hu (by show scope.names.lookup y≠_;rw[k];decide)] at q;exact q
 ·exact e0.cM.fresh (zcl (x.above y c (PySem.mem_of_lookup h)))
 ·unfold start;show _=N.length;rw[zae,zad,zcZ];lia
theorem O6{CX:BM}{P:zdw}{w:zdm}{K:zaa}{mg:Str->Option zdl}{base:Heap}{k:Nat}{f:zdk}{name qual:Str}{params:Arguments}{body:List Stmt}{scope:Scope}{dV kV doc pm eT ct oc:zdl}{an od:Option zdk}
 {FN:Array (Option zdl)} {N ps:List Str} {sp:Sp} (lk:K.lookup f=some ⟨oc,od,.func (zbs name qual params body scope dV kV doc pm an eT ct),FN⟩) (DK:zb5 K eT qual=true) (S:a8 N ps scope)
 (len:∀vs H Q E,sp vs H Q E->vs.length=ps.length)
 (sX:∀(A:zdv) (outer:List Env) (s:zdu) (H:Hp) (vs:List V) (Q:VK) (E:XK),ib k (A.deeper (envOfC qual scope s.heap.objs.size f eT))->sp vs H Q E->
  ∃t,DJ (mX CX P w K mg base N qual scope f eT A outer s H E) body t/\t {nx:=fun _ H'=>Q .cB H',rt:=Q} (start N vs) H) :
 bJ P w K mg base CX (k+1) f (zbs name qual params body scope dV kV doc pm an eT ct) ps sp:=by
 refine⟨len,fun A outer s H args us vs Q E hr e0 hb r MH=>?_⟩;have hl:=len _ _ _ _ MH;have KX:K.In s.heap:=e0.mod.Tp.keeps fun b o e=>(e0.bs b o e).1;have lim:s.heap.NoLimit:=e0.mod.nolimit.keeps fun b o e=>(e0.bs b o e).1;have T2:∀y∈ps.zip us,scope.names.lookup y.1=some .local\/(scope.names.lookup y.1=some .cell/\((cellsFrom (s.heap.objs.size+1) scope.names []).lookup y.1).isSome=true):=fun ⟨n,v⟩ hy=>by
  rcases S.par n (zcO hy).1 with q |q
  ·exact .inl q
  ·exact .inr ⟨q,zcY _ _ _ (.inl q)⟩
 refine codeAny_call_function hr.depth (KX _ _ lk) rfl S.co S.gen rfl (PySem.W.codeRec_of KX DK) (hb _ _ _ _ ?_);refine wpAny_newFunctionEnv_cells S.kind T2 fun env he s1 x=>?_;subst he;refine⟨lim.keeps x.toInCall.keep,codeAny_func ?_⟩;obtain⟨t,ht,hq⟩:=sX A outer s H vs Q E (hr.deeper _) MH;have I:Inv (mX CX P w K mg base N qual scope f eT A outer s H E) [] (start N vs) H s1:=Hi S hr.hd e0 hl r x;refine wpAny_mono (ht [] s1 (start N vs) H _ I hq) (fun fl s' hs=>?_) fun e s' hs=>hs;have fin:∀ {σ':St} {H':Hp} {v:V} {u:zdl},Inv (mX CX P w K mg base N qual scope f eT A outer s H E) [] σ' H' s'->RelV v u->Q v H'->CE outer P w H s Q u s':=
  fun {σ' H' v u} J rv q=>⟨v,H',J.os,J.bare,J.base,J.cM,rv,q⟩
 cases fl with
 |ret u=>
  obtain⟨v,σ',H',J,rv,q⟩:=hs;exact fin J rv q
 |next=>
  obtain⟨σ',H',J,q⟩:=hs;exact fin (v:=V.cB) (u:=Value.none) J rfl q
 |brk=>
  obtain⟨_,_,_,q⟩:=hs;exact False.elim q
 |cont=>
  obtain⟨_,_,_,q⟩:=hs;exact False.elim q
section
variable{X:Cx}{x:Str}{p pos:Pos}{e:Expr}{es:List Expr}{t:TA}{id T:String}{r:List V->Hp->VK->Prop}
def XZ (r:List V->Hp->VK->Prop) (t:TA):TE:=fun σ H Q=>t σ H fun vs H1=>r vs H1 Q
theorem bX(hc:mm X (.builtin id) r)(hg:Gl X x)(hm:X.mg x=none)(hv:bootBuiltins x=some (.builtin id))(ha:PA X (e::es) t)(hn:x≠"__name__":=by decide)(JA:(x==("__debug__":Str))=false:=by decide)
 (he:zdq (e::es) X.env=(false,eval e X.env)::zdq es X.env:=by rfl) (BN:(backTo pos (zdq es X.env)).any (·.1)=false:=by rfl):PE X (.Call (.Name x p) (e::es) [] pos) (XZ r t):=by
 intro pins s σ H Q I h;refine wpAny_Call_Name_kw (rF I hg hm hv ?_ hn JA);exact PyProof.Rows.callWith_builtin1 (fc (ha pos pins s σ H _ I h) fun us s1 ⟨vs,H1,I1,r1,q1⟩=>hc pins s1 σ H1 vs us Q I1 r1 q1) he BN
theorem fO(hc:mm X (.type T) r)(hg:Gl X x)(hm:X.mg x=none)(hv:bootBuiltins x=some (.type T))(ha:PA X (e::es) t)(hn:x≠"__name__":=by decide)(JA:(x==("__debug__":Str))=false:=by decide)
 (he:zdq (e::es) X.env=(false,eval e X.env)::zdq es X.env:=by rfl) (BN:(backTo pos (zdq es X.env)).any (·.1)=false:=by rfl):PE X (.Call (.Name x p) (e::es) [] pos) (XZ r t):=by
 intro pins s σ H Q I h;refine wpAny_Call_Name_kw (rF I hg hm hv ?_ hn JA);exact zbo (fc (ha pos pins s σ H _ I h) fun us s1 ⟨vs,H1,I1,r1,q1⟩=>hc pins s1 σ H1 vs us Q I1 r1 q1) he BN
end
end L2
namespace HT
open PySem PyProof.Rows
section
variable{prog:zdw}{w:zdm}{A:zdv}{E:zdl->zdu->Prop}{s:zdu}
theorem Ng{t b:zdk}{vs ws:List zdl}{Q:zdl->zdu->Prop}(ht:IsTup s.heap t vs.toArray)(hb:IsTup s.heap b ws.toArray)(hv:vs≠[])
 (h1:ws=[]->Q (.ref t) s) (h2:ws≠[]->Q (.ref s.heap.objs.size) {s with heap:=s.heap.push {cls:=.type "tuple",data:=.seq (vs++ws).toArray} })
 (hsz:vs.length+ws.length<=zds):wpAny (model prog w) A (binaryOp .Add (.ref t) (.ref b)) Q E s:=by
 obtain⟨⟨cls,dd,data,sl⟩,ho,hc,n,hd⟩:=id ht;obtain⟨⟨X0,SM,data2,SN⟩,QP,T3,n2,hd2⟩:=id hb;simp only at hc hd T3 hd2;subst hc hd T3 hd2;have e:vs.toArray++ws.toArray=(vs++ws).toArray:=by simp
 by_cases hw:ws=[]
 ·exact concat_meets ⟨_,ho,rfl⟩ ⟨_,QP,rfl⟩ noFill_tuple_add seq_tuple_add zce zb7 (zbZ _ _)
   (tuple_addW1 t b vs.toArray ws.toArray n n2 dd SM sl SN (by simpa using hv) (by simp[hw])) ⟨ho,QP,h1 hw⟩
 ·refine concat_meets ⟨_,ho,rfl⟩ ⟨_,QP,rfl⟩ noFill_tuple_add seq_tuple_add zce zb7 (zbZ _ _)
   (tuple_addW2 t b vs.toArray ws.toArray n n2 dd SM sl SN (by simpa using hv) (by simpa using hw) (by rw[zas,zas];exact hsz)) ⟨ho,QP,?_⟩
  rw[e];exact h2 hw
noncomputable def gQ (n d:Nat):Option Int->Nat
 |none=>d
 |some v=>if v<0 then (v+(n:Int)).toNat else min v.toNat n
theorem oR(n d:Nat):gQ n d none=d:=rfl
theorem qd(n d k:Nat):gQ n d (some (k:Int))=min k n:=by
 show (if (k:Int)<0 then ((k:Int)+(n:Int)).toNat else min (k:Int).toNat n)=min k n;rw[zzn (by lia),za0]
theorem JC(n d:Nat)(hd:d<=n)(o:Option Int):gQ n d o<=n:=by
 cases o with
 |none=>exact hd
 |some v=>
  show (if v<0 then (v+(n:Int)).toNat else min v.toNat n)<=n;by_cases hv:v<0
  ·rw[zzp hv];lia
  ·rw[zzn hv];exact Nat.min_le_right _ _
theorem FO(v:Int)(n d:Nat):(if v<0 then max (v+(n:Int)) 0 else min v (n:Int))=((gQ n d (some v):Nat):Int):=by
 show (if v<0 then max (v+(n:Int)) 0 else min v (n:Int))=(((if v<0 then (v+(n:Int)).toNat else min v.toNat n):Nat):Int);by_cases hv:v<0
 ·simp only[zzp hv];lia
 ·simp only[zzn hv];lia
theorem D0(lo hi:Option Int)(n:Nat):Builtin.Slice.sliceAdjust lo hi 1 (n:Int)=(((gQ n 0 lo:Nat):Int),((gQ n n hi:Nat):Int)):=by
 have h1:¬((1:Int)<0):=by lia
 unfold Builtin.Slice.sliceAdjust;simp only[h1,if_false];refine Prod.ext ?_ ?_
 ·cases lo with
  |none=>rfl
  |some v=>exact FO v n 0
 ·cases hi with
  |none=>rfl
  |some v=>exact FO v n n
theorem Ea(i j:Nat):Builtin.Slice.slicePlaces (i:Int) (j:Int) 1=j-i:=by
 unfold Builtin.Slice.slicePlaces;have h1:(1:Int)>0:=by lia
 simp only[h1,if_true,Int.ediv_one];split<;>lia
theorem xh{v:zdl}{o:Option Int}{Q:Option Int->zdu->Prop}(p:IsPart v o)(h:Q o s):wpAny (model prog w) A (Builtin.Slice.slicePartIndex v) Q E s:=by
 cases p with
 |none=>exact slicePart_none h
 |int i t=>exact slicePart_int h
theorem mn{sl:zdk}{vl vu:zdl}{lo hi:Option Int}{n:Nat}{Q:Int×Int×Nat->zdu->Prop}(hs:s.heap.IsSliceOf sl vl vu .none)(pl:IsPart vl lo)(pu:IsPart vu hi)
 (h:Q (((gQ n 0 lo:Nat):Int),1,gQ n n hi-gQ n 0 lo) s):wpAny (model prog w) A (Builtin.Slice.sliceApplied (.ref sl) (pure (n:Int))) Q E s:=by
 obtain⟨os,QQ,Wr,T4⟩:=id hs;unfold Builtin.Slice.sliceApplied Builtin.Slice.sliceFields;refine zdn (zdn (wpAny_field QQ T4 (x:=vl) rfl (zdn (wpAny_field QQ T4 (x:=vu) rfl (zdn (wpAny_field QQ T4 (x:=.none) rfl (zdo ?_)))))));refine zdn (slicePart_none ?_);show wpAny _ _ (if ((1:Int)==0)=true then _ else _) _ _ s;rw[zzn (by decide)];refine zdn (xh pl (zdn (xh pu (zdn (zdo ?_)))));show wpAny _ _ (match Builtin.Slice.sliceAdjust lo hi 1 (n:Int) with |(lo,hi)=>pure (lo,(1:Int),Builtin.Slice.slicePlaces lo hi 1)) _ _ s;rw[D0 lo hi n];show wpAny _ _ (pure (((gQ n 0 lo:Nat):Int),(1:Int),Builtin.Slice.slicePlaces ((gQ n 0 lo:Nat):Int) ((gQ n n hi:Nat):Int) 1)) _ _ s;rw[Ea];exact zdo h
theorem JD(xs:Array zdl)(i k:Nat):((zaH k).filterMap fun (m:Nat)=>xs[((i:Int)+(m:Int)*1).toNat]?).toArray=((xs.toList.drop i).take k).toArray:=by
 have e:(fun (m:Nat)=>xs[((i:Int)+(m:Int)*1).toNat]?)=fun m=>xs[i+m]?:=by
  funext m
  have:((i:Int)+(m:Int)*1).toNat=i+m:=by lia
  rw[this]
 rw[e];have:=pick_run xs i k;rw[List.filterMap_map] at this;have e2:((fun x=>xs[x]?) ∘ fun x=>i+x)=fun m=>xs[i+m]?:=rfl;rw[e2] at this;rw[this]
theorem sY{t sl:zdk}{items:Array zdl}{vl vu:zdl}{lo hi:Option Int}{Q:zdl->zdu->Prop}(ht:IsTup s.heap t items)(hs:s.heap.IsSliceOf sl vl vu .none)(pl:IsPart vl lo)(pu:IsPart vu hi)
 (hw:¬(gQ items.size 0 lo=0/\gQ items.size items.size hi=items.size))
 (h:Q (.ref s.heap.objs.size) {s with heap:=s.heap.push {cls:=.type "tuple",data:=.seq ((items.toList.drop (gQ items.size 0 lo)).take (gQ items.size items.size hi-gQ items.size 0 lo)).toArray} })
 (hsz:items.size<=zds):wpAny (model prog w) A (getItem (.ref t) (.ref sl)) Q E s:=by
 have FP:sizeOk (.seq ((items.toList.drop (gQ items.size 0 lo)).take (gQ items.size items.size hi-gQ items.size 0 lo)).toArray):=by
  show ((items.toList.drop (gQ items.size 0 lo)).take (gQ items.size items.size hi-gQ items.size 0 lo)).toArray.size<=zds;rw[zas,zbU,zbN,za7];lia
 have hj:gQ items.size items.size hi<=items.size:=JC _ _ (zaf _) hi;obtain⟨os,QQ,Wr,T4⟩:=id hs;have X1:s.TypeIs (.ref sl) "slice":=⟨os,QQ,Wr⟩
 unfold getItem
 try with_reducible refine zdp ?_
 first |refine zdn (zdo ?_) |skip
 refine zdn (wpAny_sequenceKey ht.typeIs (by decide) ?_);refine zdn (wpAny_callSpecial?_slot (name:=zab "__getitem__") ht.typeIs zbp
  (wpAny_call_entry zbp ht.typeIs entry_tuple_getitem ?_ (args_tuple_getitem _ _)))
 show wpAny _ _ (Builtin.Tuple.tupleItemsOf (.ref t) >>= _) _ _ s;refine zdn (tupleItemsOf_ ht ?_);refine zdn (wpAny_typeOf X1 ?_);rw[zzp (by decide)];refine zdn (mn hs pl pu ?_);have Nh:¬((((gQ items.size 0 lo:Nat):Int)==0&&(1:Int)==1&&(gQ items.size items.size hi-gQ items.size 0 lo)==items.size)=true):=by
  intro q;rw[zbb,zbb] at q;have q1:((gQ items.size 0 lo:Nat):Int)=0:=eq_of_beq q.1.1;have q2:gQ items.size items.size hi-gQ items.size 0 lo=items.size:=eq_of_beq q.2;exact hw ⟨by lia,by lia⟩
 show wpAny _ _ (if (((gQ items.size 0 lo:Nat):Int)==0&&(1:Int)==1&&(gQ items.size items.size hi-gQ items.size 0 lo)==items.size)=true then _ else _) _ _ s;rw[zzn Nh,JD]
 first
  |exact zdn (m:=Builtin.Tuple.tupleExact _) (wpAny_newObj_type (zdo ⟨_,rfl,zdo h⟩) FP)
  |exact zdn (m:=Builtin.Tuple.tupleExact _) (wpAny_newObj_type (zdn (zdo (zdo ⟨_,rfl,zdo h⟩))) FP)
  |exact zdn (zdn (m:=Builtin.Tuple.tupleExact _) (wpAny_newObj_type (zdo (zdo ⟨_,rfl,zdo h⟩)) FP))
  |exact zdn (zdn (m:=Builtin.Tuple.tupleExact _) (wpAny_newObj_type (zdo ⟨_,rfl,zdo h⟩) FP))
end
end HT
namespace L2
open PySem PySem.Spec PyProof.Rows
abbrev TO:=St->Hp->(Option Int->Hp->Prop)->Prop
def PO (X:Cx) (e:Option Expr) (t:TO):Prop:=
 ∀(pins:List (zdk×Obj)) (s:zdu) (σ:St) (H:Hp) (Q:Option Int->Hp->Prop),Inv X pins σ H s->t σ H Q->
  wpAny (model X.prog X.w) X.A (evalPart e X.env) (fun u s'=>∃o H',Inv X pins σ H' s'/\IsPart u o/\Q o H') X.xe s
def AE:TO:=fun _ H Q=>Q none H
def JE (t:TE):TO:=fun σ H Q=>t σ H fun x H1=>∃i,x=.int i/\Q (some i) H1
section
variable{X:Cx}{e:Expr}{te:TE}{lo hi:Option Expr}{tl th:TO}{pos p2:Pos}
theorem sZ:PO X none AE:=by
 intro pins s σ H Q I h;rw[evalPart_none];exact zdo ⟨none,H,I,.none,h⟩
theorem tj(h:PE X e te):PO X (some e) (JE te):=by
 intro pins s σ H Q I hw;rw[evalPart_some];refine fc (h pins s σ H _ I hw) fun u s1 zqz=>?_;obtain⟨x,H1,I1,r1,q1⟩:=zqz;obtain⟨i,rfl,q⟩:=q1;obtain⟨t,rfl⟩:=r1;exact⟨some i,H1,I1,.int i t,q⟩
def T5 (X:Cx) (r:V->Option Int->Option Int->Hp->VK->Prop):Prop:=
 ∀(pins:List (zdk×Obj)) (s:zdu) (σ:St) (H:Hp) (x:V) (v vl vu:zdl) (lo hi:Option Int) (sl:zdk) (Q:VK),Inv X pins σ H s->RelV x v->s.heap.IsSliceOf sl vl vu .none->IsPart vl lo->IsPart vu hi->r x lo hi H Q->
  ∃T id,typeLookup (.type T) "__getitem__"=pure (some (.builtin id))/\s.TypeIs v T/\wpAny (model X.prog X.w) X.A (getItem v (.ref sl)) (EP X pins σ Q) X.xe s
def Ws (r:V->Option Int->Option Int->Hp->VK->Prop) (te:TE) (tl th:TO):TE:=fun σ H Q=>te σ H fun x H1=>tl σ H1 fun l H2=>th σ H2 fun u H3=>r x l u H3 Q
theorem oS{r:V->Option Int->Option Int->Hp->VK->Prop}(hr:T5 X r)(he:PE X e te)(hl:PO X lo tl)(hu:PO X hi th):PE X (.Subscript e (.Slice lo hi none p2) pos) (Ws r te tl th):=by
 intro pins s σ H Q I h;refine Subscript_ (fc (he pins s σ H _ I h) fun v s1 zqz=>?_);obtain⟨x,H1,I1,r1,q1⟩:=zqz;refine wpAny_Slice (fc (hl pins s1 σ H1 _ I1 q1) fun vl s2 zqz=>?_);obtain⟨l,H2,I2,pl,q2⟩:=zqz;refine fc (hu pins s2 σ H2 _ I2 q2) fun vu s3 zqz=>?_;obtain⟨u,H3,I3,pu,q3⟩:=zqz;rw[evalPart_none];refine zdo ?_;have I4:Inv X pins σ H3 {s3 with heap:=s3.heap.push {cls:=.type "slice",data:=.fields #[vl,vu,.none]} }:=I3.kept (t':=s3.toks) fun b ob q=>Heap.get?_push_of_some _ q;obtain⟨T,id,hT,ht,hg⟩:=hr pins {s3 with heap:=s3.heap.push {cls:=.type "slice",data:=.fields #[vl,vu,.none]} } σ H3 x v vl vu l u s3.heap.objs.size Q I4 r1 (Heap.IsSliceOf.new ..) pl pu q3;show wpAny (model X.prog X.w) X.A (subscriptTail e (.Slice lo hi none p2) v (.ref s3.heap.objs.size)) (EP X pins σ Q) X.xe {s3 with heap:=s3.heap.push {cls:=.type "slice",data:=.fields #[vl,vu,.none]} };exact tail_any (ops:=[.ref s3.heap.objs.size,v]) ht hT hg (by with_unfolding_all rfl)
def jt (xs:List V) (lo hi:Option Int):List V:=(xs.drop (HT.gQ xs.length 0 lo)).take (HT.gQ xs.length xs.length hi-HT.gQ xs.length 0 lo)
theorem ff(xs:List V)(lo hi:Option Int):(jt xs lo hi).length<=xs.length:=by
 unfold jt;rw[zbU,zbN];lia
def X2 (K:zaa):V->Option Int->Option Int->Hp->VK->Prop:=fun x lo hi H Q=>∃a xs,x=.ref a/\bQ K H a xs/\
 ¬(HT.gQ xs.length 0 lo=0/\HT.gQ xs.length xs.length hi=xs.length)/\∀p,H p=none->Q (.ref p) (upd H p (.tup (jt xs lo hi)))
theorem JF:T5 X (X2 X.K):=by
 intro pins s σ H x v vl vu lo hi sl Q I rx hs pl pu h;obtain⟨a,xs,rfl,hx,hw,q⟩:=h;cases rx;obtain⟨bC,r,ht,hz⟩:=I.tuple hx;have hlen:bC.toArray.size=xs.length:=by rw[zas];exact r.length.symm
 refine⟨"tuple",_,zbp.lookup,ht.typeIs,?_⟩;refine HT.sY ht hs pl pu (by rw[hlen];exact hw) ?_ (by rw[hlen];exact hz);rw[hlen];refine⟨.ref s.heap.objs.size,_,I.laid (t':=s.toks) (o:=.tup (jt xs lo hi)) (fun b ob q=>Heap.get?_push_of_some _ q) (zaf _) ?_,rfl,q _ (I.cM.fresh (zaf _))⟩;exact⟨zay (ff xs lo hi) hz,_,(r.drop (HT.gQ xs.length 0 lo)).take (HT.gQ xs.length xs.length hi-HT.gQ xs.length 0 lo),IsTup.new _ _⟩
def O7 (K:zaa):R2:=fun x y H Q=>∃a b xs ys,x=.ref a/\y=.ref b/\bQ K H a xs/\bQ K H b ys/\xs≠[]/\xs.length+ys.length<=zds/\
 (ys=[]->Q (.ref a) H)/\(ys≠[]->∀p,H p=none->Q (.ref p) (upd H p (.tup (xs++ys))))
theorem Vals.br{xs:List V}{us:List zdl}(r:Vals xs us):us=[]↔xs=[]:=by
 cases r with
 |nil=>simp
 |cons _ _=>simp
theorem tm:rK X (binaryOp .Add) (O7 X.K):=by
 intro pins s σ H x y v u Q I rx ry h;obtain⟨a,b,xs,ys,rfl,rfl,ha,hb,hx,hz,q1,q2⟩:=h;cases rx;cases ry;obtain⟨bC,r1,p1,_⟩:=I.tuple ha;obtain⟨tq,r2,p2,_⟩:=I.tuple hb;refine HT.Ng p1 p2 (fun z=>hx (r1.br.mp z)) (fun z=>⟨.ref a,H,I,rfl,q1 (r2.br.mp z)⟩) (fun z=>?_) (by rw[<- r1.length,<- r2.length];exact hz);refine⟨.ref s.heap.objs.size,_,I.laid (t':=s.toks) (o:=.tup (xs++ys)) (fun b ob q=>Heap.get?_push_of_some _ q) (zaf _) ?_,rfl,q2 (fun w=>z (r2.br.mpr w)) _ (I.cM.fresh (zaf _))⟩;exact⟨by rw[zae];exact hz,_,r1.append r2,IsTup.new _ _⟩
end
noncomputable def JG (n:Nat) (i:Int):Option Nat:=if 0<=i then (if i<n then some i.toNat else none) else if -(n:Int)<=i then some (i+n).toNat else none
def tw {α:Type} (xs:List α) (i:Int):Option α:=(JG xs.length i).bind fun j=>xs[j]?
theorem FQ{n:Nat}{i:Int}{j:Nat}(h:JG n i=some j):seqIndex? i n=some j/\j<n/\-(n:Int)<=i/\i<n:=by
 unfold JG at h;by_cases h0:0<=i
 ·rw[zzp h0] at h;by_cases h1:i<n
  ·rw[zzp h1] at h;have e:i.toNat=j:=zaO.inj h;exact⟨by rw[seqIndex_of h0 h1,e],by lia,by lia,h1⟩
  ·rw[zzn h1] at h;cases h
 ·rw[zzn h0] at h;by_cases h1 : -(n:Int)<=i
  ·rw[zzp h1] at h;have e:(i+n).toNat=j:=zaO.inj h;exact⟨by rw[seqIndex_neg (by lia) h1,e],by lia,h1,by lia⟩
  ·rw[zzn h1] at h;cases h
theorem AF{α:Type}{xs:List α}{i:Int}{v:α}(h:tw xs i=some v):∃j,seqIndex? i xs.length=some j/\xs[j]?=some v/\j<xs.length/\-(xs.length:Int)<=i/\i<xs.length:=by
 unfold tw at h;cases e:JG xs.length i with
 |none=>rw[e] at h;cases h
 |some j=>
  rw[e] at h;obtain⟨h1,h2,h3,h4⟩:=FQ e;exact⟨j,h1,h,h2,h3,h4⟩
theorem au{α:Type}{xs:List α}{j:Nat}{v:α}(h:xs[j]?=some v):tw xs (j:Int)=some v:=by
 have hj:j<xs.length:=(zak.mp h).1;have e:JG xs.length (j:Int)=some j:=by
  unfold JG;rw[zzp (by lia),zzp (by lia)];simp
 unfold tw;rw[e];exact h
theorem ju{α:Type}(xs:List α)(v:α):tw (xs++[v]) (-1)=some v:=by
 have hl:(xs++[v]).length=xs.length+1:=by simp
 have e:JG (xs++[v]).length (-1)=some xs.length:=by
  unfold JG;rw[hl,zzn (by decide),zzp (by lia)]
  congr 1
  lia
 unfold tw;rw[e];show (xs++[v])[xs.length]?=some v;simp
def qe (b:Expr):Prop:=∀o i,subscripted b false o i=operate [o,i] (getItem o i)
def JH (X:Cx) (r:R2):Prop:=
 ∀(value slice:Expr) (pins:List (zdk×Obj)) (s:zdu) (σ:St) (H:Hp) (x y:V) (v u:zdl) (Q:VK),Inv X pins σ H s->RelV x v->RelV y u->r x y H Q->
  subscripted slice false v u=operate [v,u] (getItem v u)->wpAny (model X.prog X.w) X.A (subscriptTail value slice v u) (EP X pins σ Q) X.xe s
def MtR (X:Cx) (id:String) (r:V->List V->Hp->VK->Prop):Prop:=
 ∀(pins:List (zdk×Obj)) (s:zdu) (σ:St) (H:Hp) (x:V) (xs:List V) (v:zdl) (us:List zdl) (Q:VK),Inv X pins σ H s->RelV x v->Vals xs us->r x xs H Q->
  wpAny (model X.prog X.w) X.A (call (.builtin id) (v::us)) (EP X pins σ Q) X.xe s
section
variable{X:Cx}{a b:Expr}{ta tb:TE}{pos:Pos}
theorem JH.or{r r':R2}(h:JH X r)(h':JH X r'):JH X (fun x y H Q=>r x y H Q\/r' x y H Q):=by
 intro value slice pins s σ H x y v u Q I rx ry q hs;rcases q with q |q
 ·exact h value slice pins s σ H x y v u Q I rx ry q hs
 ·exact h' value slice pins s σ H x y v u Q I rx ry q hs
theorem aC{r:R2}(hr:JH X r)(ha:PE X a ta)(hb:PE X b tb)(hs:qe b):PE X (.Subscript a b pos) (TL r ta tb):=by
 intro pins s σ H Q I h;exact Subscript_ (QG ha hb I h fun v u s2 x y H2 I2 rx ry q=>hr a b pins s2 σ H2 x y v u Q I2 rx ry q (hs _ _))
def AG (K:zaa):R2:=fun x y H Q=>∃p xs i v,x=.ref p/\y=.int i/\i6 K H p xs/\tw xs i=some v/\Q v H
def Eb (K:zaa):R2:=fun x y H Q=>∃p xs i v,x=.ref p/\y=.int i/\bQ K H p xs/\tw xs i=some v/\Q v H
def T6:R2:=fun x y H Q=>∃z i c,x=.str z/\y=.int i/\z.length<=zds/\tw z.cps.toList i=some c/\Q (.str ⟨#[c]⟩) H
theorem a9:JH X (AG X.K):=by
 intro value slice pins s σ H x y v u Q I rx ry h hs;obtain⟨p,xs,i,z,rfl,rfl,hq,he,q⟩:=h;cases rx;obtain⟨t,rfl⟩:=ry;obtain⟨bC,r,pl,hz⟩:=I.list hq;obtain⟨j,h1,h2,h3,h4,h5⟩:=AF he;obtain⟨w,ew,Ec⟩:=r.get h2;have hl:=r.length;have hn:=uM;have fin:EP X pins σ Q w s:=⟨z,H,I,Ec,q⟩
 by_cases h0:0<=i
 ·have hj:i.toNat=j:=by
   rw[seqIndex_of h0 h5] at h1;exact zaO.inj h1
  exact item_listR pl.isList h0 (by lia) (by rw[hj];simpa using ew) fin hs
 ·have hj:(i+(bC.toArray.size:Int)).toNat=j:=by
   rw[seqIndex_neg (by lia) h4] at h1;rw[zas,<- hl];exact zaO.inj h1
  exact subscriptTail_builtinR (x:=w) pl.isList.typeIs slot_list_getitem.lookup
   (wpAny_getItem_list_neg (Q:=fun r s'=>r=w/\EP X pins σ Q r s') pl.isList (by lia) (by rw[zas]<;>lia) (by lia) (by rw[hj];simpa using ew) ⟨rfl,fin⟩) hs
theorem aM:JH X (Eb X.K):=by
 intro value slice pins s σ H x y v u Q I rx ry h hs;obtain⟨p,xs,i,z,rfl,rfl,hq,he,q⟩:=h;cases rx;obtain⟨t,rfl⟩:=ry;obtain⟨bC,r,pl,hz⟩:=I.tuple hq;obtain⟨j,h1,h2,h3,h4,h5⟩:=AF he;obtain⟨w,ew,Ec⟩:=r.get h2;have hl:=r.length;have hn:=uM;have fin:EP X pins σ Q w s:=⟨z,H,I,Ec,q⟩
 exact subscriptTail_builtinR (x:=w) pl.typeIs slot_tuple_getitem.lookup
  (getItem_tuple (j:=j) (Q:=fun r s'=>r=w/\EP X pins σ Q r s') pl (by lia) (by lia) (by rw[zas,<- hl];exact h1) (by simpa using ew) ⟨rfl,fin⟩) hs
theorem AH:JH X T6:=by
 intro value slice pins s σ H x y v u Q I rx ry h hs;obtain⟨z,i,c,rfl,rfl,hz,he,q⟩:=h;obtain⟨t,rfl⟩:=rx;obtain⟨t',rfl⟩:=ry;obtain⟨j,h1,h2,h3,h4,h5⟩:=AF he;have hl:z.cps.toList.length=z.length:=by simp[Str.length]
 rw[hl] at h1 h4 h5;have hn:=uM;exact tail_any (typeIs_str s z t) slot_str_getitem.lookup (getItem_str (c:=c) (by
  have e1:decide (i < -(2 ^ 63:Int))=false:=decide_eq_false (by lia);have e2:decide (i ≥ 2 ^ 63)=false:=decide_eq_false (by lia);rw[e1,e2,Bool.or_false]) (by rw[h1];simpa using h2) ⟨.str ⟨#[c]⟩,H,I.tok _,⟨_,rfl⟩,q⟩) hs
def rIx (K:zaa):R2:=fun x y H Q=>AG K x y H Q\/Eb K x y H Q\/T6 x y H Q
theorem AI:JH X (rIx X.K):=a9.or (aM.or AH)
theorem Ed(bC:List zdl)(n j:Nat)(u:zdl):Obj.mapSeq (·.setIfInBounds j u) {cls:=.type "list",data:=.seq bC.toArray n}={cls:=.type "list",data:=.seq (bC.set j u).toArray n}:=by
 simp[Obj.mapSeq]
theorem Inv.lst{pins:List (zdk×Obj)}{σ:St}{H:Hp}{s:zdu}{p:zdk}{xs:List V}(I:Inv X pins σ H s)(h:H p=some (.lst xs)) :
 ∃(bC:List zdl) (n:Nat),Vals xs bC/\s.heap.get? p=some {cls:=.type "list",data:=.seq bC.toArray n}/\xs.length<=zds:=by
 obtain⟨z,bC,n,r,e⟩:=I.cM p _ h;exact⟨bC,n,r,e,z⟩
theorem Inv.QR{pins:List (zdk×Obj)}{σ:St}{H:Hp}{s:zdu}{p:zdk}{xs ys:List V}{bC its':List zdl}{n n':Nat}{f:Obj->Obj}(I:Inv X pins σ H s)(h:H p=some (.lst xs))
 (ho:s.heap.get? p=some {cls:=.type "list",data:=.seq bC.toArray n}) (hf:f {cls:=.type "list",data:=.seq bC.toArray n}={cls:=.type "list",data:=.seq its'.toArray n' }) (r:Vals ys its') (hz:ys.length<=zds) (t:Nat) :
 Inv X pins σ (upd H p (.lst ys)) {s with heap:=s.heap.update p f,toks:=t}:=by
 have e:(s.heap.update p f).get? p=some {cls:=.type "list",data:=.seq its'.toArray n' }:=by
  rw[Heap.get?_update_self f ho (by rw[hf]<;>rfl),hf]
 refine I.write (x:=p) (e:=p) (by rw[h];trivial) (.inl rfl) (fun b u hb q=>(Heap.get?_update_other _ _ (Ne.symm hb)).trans q) ⟨_,e⟩ ?_;exact⟨hz,its',n',r,e⟩
def T7:V->V->V->Hp->(Hp->Prop)->Prop:=fun o i v H Q=>∃p xs k j,o=.ref p/\i=.int k/\H p=some (.lst xs)/\JG xs.length k=some j/\Q (upd H p (.lst (xs.set j v)))
theorem set_list:TF X T7:=by
 intro pins s σ H o i v ov iv u Q I ro ri rv h;obtain⟨p,xs,k,j,rfl,rfl,hp,hj,q⟩:=h;cases ro;obtain⟨t,rfl⟩:=ri;obtain⟨bC,n,r,ho,hz⟩:=I.lst hp;obtain⟨h1,h2,h3,h4⟩:=FQ hj;have hl:=r.length;have hn:=uM;have I':Inv X pins σ (upd H p (.lst (xs.set j v))) {s with heap:=s.heap.update p (Obj.mapSeq (·.setIfInBounds j u))}:=
  I.QR hp ho (Ed bC n j u) (r.set rv j) (by rw[zcP];exact hz) s.toks
 by_cases h0:0<=k
 ·have hk:k.toNat=j:=by
   rw[seqIndex_of h0 h4] at h1;exact zaO.inj h1
  exact PySem.W.ki_setAt ho h0 (by lia) (by rw[zas,<- hl];exact h4) (by rw[hk];exact⟨_,I',q⟩)
 ·have hk:(k+(bC.toArray.size:Int)).toNat=j:=by
   rw[seqIndex_neg (by lia) h3] at h1;rw[zas,<- hl];exact zaO.inj h1
  exact PySem.W.ki_setBack ho (by lia) (by rw[zas,<- hl];exact h3) (by lia) (by rw[hk];exact⟨_,I',q⟩)
theorem AJ(lo hi:Option Int)(n:Nat):(sliceBounds lo hi none n).1=((HT.gQ n 0 lo:Nat):Int)/\(sliceBounds lo hi none n).2.1=((HT.gQ n n hi:Nat):Int)/\(sliceBounds lo hi none n).2.2=1:=by
 refine⟨?_,?_,rfl⟩
 ·cases lo with
  |none=>simp[sliceBounds,HT.gQ]
  |some i=>
   simp only[sliceBounds,HT.gQ,zcg,show (1:Int)>0 by decide,if_true];by_cases h:i<0
   ·simp only[h,if_true]<;>lia
   ·simp only[h,if_false]<;>lia
 ·cases hi with
  |none=>simp[sliceBounds,HT.gQ]
  |some i=>
   simp only[sliceBounds,HT.gQ,zcg,show (1:Int)>0 by decide,if_true];by_cases h:i<0
   ·simp only[h,if_true]<;>lia
   ·simp only[h,if_false]<;>lia
theorem yO(bC:List zdl)(lo hi:Option Int):slicePick bC.toArray lo hi none=((bC.drop (HT.gQ bC.length 0 lo)).take (HT.gQ bC.length bC.length hi-HT.gQ bC.length 0 lo)).toArray:=by
 obtain⟨h1,h2,h3⟩:=AJ lo hi bC.toArray.size;unfold slicePick;rw[h1,h2,h3];simp only[sliceRange_one,pick_run,zas]<;>rfl
def X3 (K:zaa):V->Option Int->Option Int->Hp->VK->Prop:=fun x lo hi H Q=>∃a xs,x=.ref a/\i6 K H a xs/\∀p,H p=none->Q (.ref p) (upd H p (.lst (jt xs lo hi)))
theorem FR:T5 X (X3 X.K):=by
 intro pins s σ H x v vl vu lo hi sl Q I rx hs pl pu h;obtain⟨a,xs,rfl,hx,q⟩:=h;cases rx;obtain⟨bC,r,ht,hz⟩:=I.list hx;have hlen:=r.length;refine⟨"list",_,slot_list_getitem.lookup,ht.isList.typeIs,?_⟩;refine wpAny_getItem_list_slice ht.isList hs pl pu .none (by simp) ?_ (by rw[zas]<;>lia);rw[yO,<- hlen];refine⟨.ref s.heap.objs.size,_,I.laid (t':=s.toks) (o:=.lst (jt xs lo hi)) (fun b ob q=>Heap.get?_push_of_some _ q) (zaf _) ?_,rfl,q _ (I.cM.fresh (zaf _))⟩;exact⟨zay (ff xs lo hi) hz,_,0,(r.drop (HT.gQ xs.length 0 lo)).take (HT.gQ xs.length xs.length hi-HT.gQ xs.length 0 lo),Heap.get?_push_size _ rfl⟩
noncomputable def vL:V->Bool
 |.cB=>true
 |.bl _=>true
 |.int _=>true
 |.str _=>true
 |_=>false
noncomputable def O8:V->V->Bool
 |.cB,.cB=>true
 |.bl a,.bl b=>a==b
 |.bl a,.int b=>(if a then 1 else 0)==b
 |.int a,.bl b=>a==(if b then 1 else 0)
 |.int a,.int b=>a==b
 |.str a,.str b=>a==b
 |_,_=>false
theorem QS{A:zdv}{s:zdu}{y x:V}{u v:zdl}(ry:RelV y u)(rx:RelV x v)(fy:vL y=true)(fx:vL x=true):SeqAt.EqAt A s u v (O8 y x):=by
 cases y with
 |cB=>
  cases ry;cases x with
  |cB=>cases rx;exact SeqAt.EqAt.same _
  |bl b=>cases rx;exact SeqAt.EqAt.none_bool b
  |int b=>obtain⟨t,rfl⟩:=rx;exact SeqAt.EqAt.none_int b t
  |str b=>obtain⟨t,rfl⟩:=rx;exact SeqAt.EqAt.none_str b t
  |_=>exact zzb (show false=true from fx) zai
 |bl a=>
  cases ry;cases x with
  |cB=>cases rx;exact SeqAt.EqAt.bool_none a
  |bl b=>cases rx;exact SeqAt.EqAt.bool_bool a b
  |int b=>obtain⟨t,rfl⟩:=rx;exact SeqAt.EqAt.bool_int a b t
  |str b=>obtain⟨t,rfl⟩:=rx;exact SeqAt.EqAt.bool_str a b t
  |_=>exact zzb (show false=true from fx) zai
 |int a=>
  obtain⟨t',rfl⟩:=ry;cases x with
  |cB=>cases rx;exact SeqAt.EqAt.int_none a t'
  |bl b=>cases rx;exact SeqAt.EqAt.int_bool a t' b
  |int b=>obtain⟨t,rfl⟩:=rx;exact SeqAt.EqAt.int_int a t' b t
  |str b=>obtain⟨t,rfl⟩:=rx;exact SeqAt.EqAt.int_str a t' b t
  |_=>exact zzb (show false=true from fx) zai
 |str a=>
  obtain⟨t',rfl⟩:=ry;cases x with
  |cB=>cases rx;exact SeqAt.EqAt.str_none a t'
  |bl b=>cases rx;exact SeqAt.EqAt.str_bool a t' b
  |int b=>obtain⟨t,rfl⟩:=rx;exact SeqAt.EqAt.str_int a t' b t
  |str b=>obtain⟨t,rfl⟩:=rx;exact SeqAt.EqAt.str_str a t' b t
  |_=>exact zzb (show false=true from fx) zai
 |_=>exact zzb (show false=true from fy) zai
def Ee (x:V) (u:zdl):Bool:=match u with
 |.none=>O8 .cB x
 |.bool b=>O8 (.bl b) x
 |.int i _=>O8 (.int i) x
 |.str z _=>O8 (.str z) x
 |_=>false
theorem JI{x y:V}{u:zdl}(r:RelV y u)(f:vL y=true):Ee x u=O8 y x:=by
 cases y with
 |cB=>cases r;rfl
 |bl b=>cases r;rfl
 |int i=>obtain⟨t,rfl⟩:=r;rfl
 |str z=>obtain⟨t,rfl⟩:=r;rfl
 |_=>exact zzb (show false=true from f) zai
theorem tD{x:V}:∀ {xs:List V} {us:List zdl},Vals xs us->xs.all vL=true->us.any (Ee x)=xs.any fun y=>O8 y x
 |_,_,.nil,_=>rfl
 |y::xs,u::us,.cons r t,f=>by
  rw[List.all_cons,zbb] at f;rw[zbW,zbW,JI r f.1,tD t f.2]
theorem oT{A:zdv}{s:zdu}{x:V}{v:zdl}(rx:RelV x v)(fx:vL x=true):∀ {xs:List V} {us:List zdl},Vals xs us->xs.all vL=true->∀u∈us,SeqAt.EqAt A s u v (Ee x u)
 |_,_,.nil,_=>fun u hu=>by cases hu
 |y::xs,u::us,.cons r t,f=>fun u' hu=>by
  rw[List.all_cons,zbb] at f;rcases zag.mp hu with rfl |hu
  ·rw[JI r f.1];exact QS r rx f.1 fx
  ·exact oT rx fx t f.2 u' hu
def Ni (x:V) (xs:List V):Bool:=xs.any fun y=>O8 y x
def X4 (K:zaa) (neg:Bool):R2:=fun x y H Q=>∃p xs,y=.ref p/\(i6 K H p xs\/bQ K H p xs)/\vL x=true/\xs.all vL=true/\Q (.bl (if neg then !Ni x xs else Ni x xs)) H
theorem i9:rK X (compareOp .In) (X4 X.K false):=by
 intro pins s σ H x y v u Q I rx ry h;obtain⟨p,xs,rfl,hq,fx,fs,q⟩:=h;cases ry;rcases hq with hq |hq
 ·obtain⟨bC,r,pl,hz⟩:=I.list hq;refine SeqAt.in_listAt (Ee x) pl.isList (fun w hw=>oT rx fx r fs w (by simpa using hw)) ⟨.bl _,H,I,rfl,?_⟩;rw[show bC.toArray.any (Ee x)=bC.any (Ee x) by simp,tD r fs];exact q
 ·obtain⟨bC,r,pl,hz⟩:=I.tuple hq;refine SeqAt.in_tupleAt (Ee x) pl (fun w hw=>oT rx fx r fs w (by simpa using hw)) ⟨.bl _,H,I,rfl,?_⟩;rw[show bC.toArray.any (Ee x)=bC.any (Ee x) by simp,tD r fs];exact q
theorem tG:rK X (compareOp .NotIn) (X4 X.K true):=by
 intro pins s σ H x y v u Q I rx ry h;obtain⟨p,xs,rfl,hq,fx,fs,q⟩:=h;cases ry;rcases hq with hq |hq
 ·obtain⟨bC,r,pl,hz⟩:=I.list hq;refine SeqAt.notIn_listAt (Ee x) pl.isList (fun w hw=>oT rx fx r fs w (by simpa using hw)) ⟨.bl _,H,I,rfl,?_⟩;rw[show bC.toArray.any (Ee x)=bC.any (Ee x) by simp,tD r fs];exact q
 ·obtain⟨bC,r,pl,hz⟩:=I.tuple hq;refine SeqAt.notIn_tupleAt (Ee x) pl (fun w hw=>oT rx fx r fs w (by simpa using hw)) ⟨.bl _,H,I,rfl,?_⟩;rw[show bC.toArray.any (Ee x)=bC.any (Ee x) by simp,tD r fs];exact q
theorem bE:mm X (.builtin "len") (fun xs H Q=>∃p ys,xs=[.ref p]/\(i6 X.K H p ys\/bQ X.K H p ys)/\Q (.int ys.length) H):=by
 intro pins s σ H xs us Q I r h;obtain⟨p,ys,rfl,hq,q⟩:=h;obtain⟨u,rfl,rx⟩:=vals1 r;cases rx;have hn:=uM;rcases hq with hq |hq
 ·obtain⟨bC,r',pl,hz⟩:=I.list hq;have hlen:=r'.length;exact Calls.call_len_list pl.isList (by simp only[zas]<;>lia) ⟨.int ys.length,H,I.tok _,⟨s.toks+1,by rw[zas,hlen]⟩,q⟩
 ·obtain⟨bC,r',pl,hz⟩:=I.tuple hq;have hlen:=r'.length;exact len_tuple pl (by simp only[zas]<;>lia) ⟨.int ys.length,H,I.tok _,⟨s.toks+1,by rw[zas,hlen]⟩,q⟩
theorem tH:mm X (.type "list") (fun xs H Q=>∃p ys,xs=[.ref p]/\(i6 X.K H p ys\/bQ X.K H p ys)/\∀l,H l=none->Q (.ref l) (upd H l (.lst ys))):=by
 intro pins s σ H xs us Q I r h;obtain⟨p,ys,rfl,hq,q⟩:=h;obtain⟨u,rfl,rx⟩:=vals1 r;cases rx;have fin:∀(bC:List zdl),Vals ys bC->ys.length<=zds->∀(h':Heap) (c':Nat),(∀b o',s.heap.get? b=some o'->h'.get? b=some o')->
  h'.get? s.heap.objs.size=some {cls:=.type "list",dict:=none,data:=.seq bC.toArray c',slots:=#[]}->EP X pins σ Q (.ref s.heap.objs.size) {s with heap:=h' }:=fun bC r' hz h' c' kp e=>
  ⟨.ref s.heap.objs.size,_,I.laid (t':=s.toks) kp (zaf _) (show dg X.prog X.w _ h' _ (.lst ys) from ⟨hz,bC,c',r',e⟩),rfl,q _ (I.cM.fresh (zaf _))⟩
 rcases hq with hq |hq
 ·obtain⟨bC,r',pl,hz⟩:=I.list hq;have hlen:=r'.length;obtain⟨o,ho,hc,n,hd⟩:=pl.isList;exact call_list_seq p (.inl rfl) ho hc hd (fun h' c' kp e=>fin bC r' hz h' c' kp e) (by simp only[zas]<;>lia)
 ·obtain⟨bC,r',pl,hz⟩:=I.tuple hq;have hlen:=r'.length;obtain⟨o,ho,hc,n,hd⟩:=pl;exact call_list_seq p (.inr rfl) ho hc hd (fun h' c' kp e=>fin bC r' hz h' c' kp e) (by simp only[zas]<;>lia)
theorem lO:mm X (.type "tuple") (fun xs H Q=>∃p ys,xs=[.ref p]/\((i6 X.K H p ys/\∀l,H l=none->Q (.ref l) (upd H l (.tup ys)))\/(bQ X.K H p ys/\Q (.ref p) H))):=by
 intro pins s σ H xs us Q I r h;obtain⟨p,ys,rfl,h⟩:=h;obtain⟨u,rfl,rx⟩:=vals1 r;cases rx;rcases h with ⟨hq,q⟩ |⟨hq,q⟩
 ·obtain⟨bC,r',pl,hz⟩:=I.list hq;have hlen:=r'.length;refine call_tuple_list pl.isList (fun h' kp=>?_) (by simp only[zas]<;>lia);have I1:Inv X pins σ H {s with heap:=h' }:=I.kept (t':=s.toks) kp;have I2:Inv X pins σ (upd H h'.objs.size (.tup ys)) {s with heap:=h'.push {cls:=.type "tuple",data:=.seq bC.toArray} }:=
   I1.laid (t':=s.toks) (fun b o e=>Heap.get?_push_of_some _ e) (zaf _) (show dg X.prog X.w _ _ _ (.tup ys) from ⟨hz,bC,r',IsTup.new _ _⟩)
  exact⟨.ref h'.objs.size,_,I2,rfl,q _ (I1.cM.fresh (zaf _))⟩
 ·obtain⟨bC,r',pl,hz⟩:=I.tuple hq;exact call_tuple_same pl ⟨.ref p,H,I,rfl,q⟩
def Wt (K:zaa) (T:String) (x:V) (H:Hp):Prop:=match x with
 |.str _=>T = "str"
 |.int _=>T = "int"
 |.ref p=>(T = "list"/\∃xs,i6 K H p xs)\/(T = "tuple"/\∃o,K.lookup p=some o/\o.cls=.type "tuple"/\o.dict=none)\/
  (T = "dict"/\((∃ax,H p=some (.dK ax))\/∃ax,H p=some (.dT ax)))\/(T = "set"/\∃S n,H p=some (.set S n))
 |_=>False
theorem JJ{pins:List (zdk×Obj)}{σ:St}{H:Hp}{s:zdu}{T:String}{x:V}{v:zdl}(I:Inv X pins σ H s)(r:RelV x v)(ty:Wt X.K T x H) :
 s.TypeIs v T/\∀a,v=.ref a->∃ob,s.heap.get? a=some ob/\ob.dict=none:=by
 cases x with
 |str z=>
  obtain⟨t,rfl⟩:=r;cases (show T = "str" from ty);exact⟨typeIs_str s z t,fun _ e=>nomatch e⟩
 |int i=>
  obtain⟨t,rfl⟩:=r;cases (show T = "int" from ty);exact⟨typeIs_int s i t,fun _ e=>nomatch e⟩
 |ref p=>
  cases r;rcases ty with ⟨rfl,xs,hq⟩ |⟨rfl,o,hk,hc,hd⟩ |⟨rfl,hk⟩ |⟨rfl,S,n,hk⟩
  ·obtain⟨bC,_,pl,_⟩:=I.list hq;refine⟨pl.isList.typeIs,fun a e=>?_⟩;cases e;obtain⟨o,n,e,c,hd,_⟩:=pl;exact⟨o,e,hd⟩
  ·refine⟨⟨o,I.wG p o hk,hc⟩,fun a e=>?_⟩;cases e;exact⟨o,I.wG _ o hk,hd⟩
  ·have z:∃o,s.heap.get? p=some o/\o.ExactDict:=by
    rcases hk with ⟨ax,hk⟩ |⟨ax,hk⟩
    ·obtain⟨_,_,_,_,o,_,_,e,ex,_⟩:=I.cM p _ hk;exact⟨o,e,ex⟩
    ·obtain⟨_,_,_,_,o,_,_,e,ex,_⟩:=I.cM p _ hk;exact⟨o,e,ex⟩
   obtain⟨o,e,ex⟩:=z;refine⟨⟨o,e,ex.1⟩,fun a e2=>?_⟩;cases e2;exact⟨o,e,ex.2.1⟩
  ·obtain⟨o,_,_,_,e,ex,_⟩:=I.cM p _ hk;refine⟨⟨o,e,ex.1⟩,fun a e2=>?_⟩;cases e2;exact⟨o,e,ex.2.1⟩
 |_=>exact False.elim ty
def QT (K:zaa) (T:String) (r:V->List V->Hp->VK->Prop) (to:TE):TE:=fun σ H Q=>to σ H fun x H1=>Wt K T x H1/\r x [] H1 Q
def X5 (K:zaa) (T:String) (r:V->List V->Hp->VK->Prop) (to:TE) (t:TA):TE:=fun σ H Q=>to σ H fun x H1=>Wt K T x H1/\t σ H1 fun xs H2=>r x xs H2 Q
variable{o e:Expr}{es:List Expr}{to:TE}{t:TA}{name:Str}{apos mY:Pos}{T id:String}{r:V->List V->Hp->VK->Prop}
theorem Ef(pa:PlainAttrs T)(slot:Slot T name id)(X6:typeOf (.builtin id)=pure (.type "method_descriptor"))(hm:MtR X id r)(ho:PE X o to)
 (xi:attributeBase o name X.env (eval o X.env)=eval o X.env:=by rfl) (xj:(apos.endLine==mY.line)=true:=by rfl):PE X (.Call (.Attribute o name apos) [] [] mY) (QT X.K T r to):=by
 intro pins s σ H Q I h;refine wpAny_Call_method0_late xi xj (fc (ho pins s σ H _ I h) fun v s1 zqz=>?_);obtain⟨x,H1,I1,r1,ty,q1⟩:=zqz;obtain⟨h1,h2⟩:=JJ I1 r1 ty;exact⟨T,id,pa,slot,X6,h1,h2,Calls.callWith_builtin rfl (PySem.evalArgs_none (hm pins s1 σ H1 x [] v [] Q I1 r1 .nil q1))⟩
theorem dw(pa:PlainAttrs T)(slot:Slot T name id)(X6:typeOf (.builtin id)=pure (.type "method_descriptor"))(hm:MtR X id r)(ho:PE X o to)(ha:PA X (e::es) t)
 (xi:attributeBase o name X.env (eval o X.env)=eval o X.env:=by rfl)
 (QU:((backTo mY (zdq (e::es) X.env)).all (fun x=>!x.1)&&(backToKw mY (keywordEach [] X.env)).all (fun x=>x.1.isSome)
  && decide ((e::es).length+([]:List Keyword).length+(if ([]:List Keyword).isEmpty then 0 else 1)<30))=true:=by rfl)
 (xj:(apos.endLine==mY.line)=true:=by rfl) (hs:zdq (e::es) X.env=(false,eval e X.env)::zdq es X.env:=by rfl) (Eg:(backTo mY (zdq es X.env)).any (·.1)=false:=by rfl) :
 PE X (.Call (.Attribute o name apos) (e::es) [] mY) (X5 X.K T r to t):=by
 intro pins s σ H Q I h;refine wpAny_Call_method_late xi QU xj rfl (fc (ho pins s σ H _ I h) fun v s1 zqz=>?_);obtain⟨x,H1,I1,r1,ty,q1⟩:=zqz;obtain⟨h1,h2⟩:=JJ I1 r1 ty;refine⟨T,id,pa,slot,X6,h1,h2,?_⟩;have hA:=ha mY pins s1 σ H1 _ I1 q1;rw[hs] at hA ⊢;refine Calls.callWith_builtin (by show (false ||(backTo mY (zdq es X.env)).any (·.1))=false;rw[Eg]<;>rfl) (Calls.evalArgs_plain ?_);exact fc hA fun us s2 ⟨vs,H2,I2,r2,q2⟩=>hm pins s2 σ H2 x vs v us Q I2 r1 r2 q2
end
def T8 (X:Cx) (id:String) (r:V->List V->Hp->VK->Prop):Prop:=
 ∀(pins:List (zdk×Obj)) (s:zdu) (σ:St) (H:Hp) (x:V) (xs:List V) (v:zdl) (us:List zdl) (Q:VK),Inv X pins σ H s->RelV x v->Vals xs us->r x xs H Q->
  wpAny (model X.prog X.w) X.A (call (.builtin id) (v::us)) (EP X pins σ Q) X.xe s
theorem Vals.one:∀ {x:V} {us:List zdl},Vals [x] us->∃u,us=[u]/\RelV x u
 |_,_,.cons r .nil=>⟨_,rfl,r⟩
theorem Vals.zero:∀ {us:List zdl},Vals [] us->us=[]
 |_,.nil=>rfl
theorem Vals.dropLast{xs:List V}{us:List zdl}(h:Vals xs us):Vals xs.dropLast us.dropLast:=by
 induction h with
 |nil=>exact .nil
 |cons r t ih=>
  cases t with
  |nil=>exact .nil
  |cons q t'=>exact .cons r ih
theorem Eh{α:Type}(l:List α):l.eraseIdx (l.length-1)=l.dropLast:=by
 induction l with
 |nil=>rfl
 |cons a r ih=>
  cases r with
  |nil=>rfl
  |cons b r=>
   have e:(a::b::r).length-1=((b::r).length-1)+1:=by
    have h1:(a::b::r).length=r.length+2:=rfl;have h2:(b::r).length=r.length+1:=rfl;lia
   rw[e,List.eraseIdx_cons_succ,ih]
   all_goals rfl
section
variable{X:Cx}{pins:List (zdk×Obj)}{σ:St}{H:Hp}{s:zdu}{l b:zdk}{xs ys zs:List V}
theorem Inv.QV{bC its':List zdl}{n:Nat}{f:Array zdl->Array zdl}{t':Nat}(I:Inv X pins σ H s)(hH:H l=some (.lst xs))
 (e:s.heap.get? l=some {cls:=.type "list",data:=.seq bC.toArray n}) (hf:f bC.toArray=its'.toArray) (hv:Vals ys its') (hz:ys.length<=zds) :
 Inv X pins σ (upd H l (.lst ys)) {s with heap:=s.heap.update l (Obj.mapSeq f),toks:=t' }:=by
 have q:=PySem.IsL.update e f;rw[hf] at q;refine I.write (x:=l) (e:=l) (by rw[hH];exact trivial) (.inl rfl) (fun b' u hb hu=>(Heap.get?_update_other s.heap (Obj.mapSeq f) (Ne.symm hb)).trans hu) ⟨_,q⟩ ?_;exact⟨hz,its',_,hv,q⟩
theorem Inv.X7{bC:List zdl}{t':Nat}(I:Inv X pins σ H s)(hv:Vals ys bC)(hz:ys.length<=zds) :
 Inv X pins σ (upd H s.heap.objs.size (.lst ys)) {s with heap:=s.heap.push {cls:=.type "list",data:=.seq bC.toArray},toks:=t' }:=
 I.laid (fun _ _ q=>Heap.get?_push_of_some _ q) (zaf _) ⟨hz,bC,0,hv,Heap.get?_push_size _ rfl⟩
theorem Inv.fresh(I:Inv X pins σ H s):H s.heap.objs.size=none:=I.cM.fresh (zaf _)
theorem Inv.Ei(I:Inv X pins σ H s)(hH:H l=some (.lst xs)):xs.length<=zds/\∃(bC:List zdl) (n:Nat),Vals xs bC/\xs.length=bC.length/\s.heap.get? l=some {cls:=.type "list",data:=.seq bC.toArray n}:=by
 obtain⟨z,bC,n,r,e⟩:=I.cM l _ hH;exact⟨z,bC,n,r,r.length,e⟩
theorem JK{n:Nat}(h:n<=zds):Builtin.List.listTooLong n=false:=by
 unfold Builtin.List.listTooLong;exact decide_eq_false (by lia)
end
section
variable{X:Cx}
def AK:V->List V->Hp->VK->Prop:=fun x vs H Q=>∃l xs y,x=.ref l/\vs=[y]/\H l=some (.lst xs)/\xs.length<zds/\Q .cB (upd H l (.lst (xs++[y])))
theorem bD:T8 X "list.append" AK:=by
 intro pins s σ H x vs v us Q I rx rv h;obtain⟨l,xs,y,rfl,rfl,hH,hz,q⟩:=h;cases rx;obtain⟨u,rfl,ru⟩:=rv.one;obtain⟨z,bC,n,r,hl,e⟩:=I.Ei hH;refine call_meets F.slot_list_append ⟨_,e,rfl⟩ F.entry_list_append (F.args_list_append_2 _ _) (PySem.list_append l bC.toArray n u (by rw[zas];lia)) ⟨e,?_⟩;refine⟨.cB,_,I.QV (its':=bC++[u]) hH e (by simp) (r.append (.cons ru .nil)) ?_,rfl,q⟩;rw[zae,zax];lia
def Nj:V->List V->Hp->VK->Prop:=fun x vs H Q=>∃l b xs zs,x=.ref l/\vs=[.ref b]/\H l=some (.lst xs)/\H b=some (.lst zs)/\xs.length+zs.length<=zds/\Q .cB (upd H l (.lst (xs++zs)))
theorem uO:T8 X "list.extend" Nj:=by
 intro pins s σ H x vs v us Q I rx rv h;obtain⟨l,b,xs,zs,rfl,rfl,hH,hB,hz,q⟩:=h;cases rx;obtain⟨u,rfl,ru⟩:=rv.one;cases ru;obtain⟨z,bC,n,r,hl,e⟩:=I.Ei hH;obtain⟨z2,tq,n2,r2,Ej,e2⟩:=I.Ei hB;have hsz:bC.toArray.size+tq.toArray.size<=zds:=by rw[zas,zas];lia
 have T9:¬(!bC.toArray.isEmpty&&Builtin.List.listTooLong (bC.toArray.size+tq.toArray.size))=true:=by
  rw[JK hsz,Bool.and_false];exact zai
 refine call_meets F.slot_list_extend ⟨_,e,rfl⟩ F.entry_list_extend (F.args_list_extend_2 _ _)
  (AutoSeq1.list_extend_list_list_0 l bC.toArray n b tq.toArray n2 T9 (by rw[zas];lia) (by lia)) ⟨e,e2,?_⟩
 refine⟨.cB,_,I.QV (its':=bC++tq) hH e (by simp) (r.append r2) ?_,rfl,q⟩;rw[zae];lia
def X8:V->List V->Hp->VK->Prop:=fun x vs H Q=>∃l xs y,x=.ref l/\vs=[]/\H l=some (.lst xs)/\xs[xs.length-1]?=some y/\Q y (upd H l (.lst xs.dropLast))
theorem Ek:T8 X "list.pop" X8:=by
 intro pins s σ H x vs v us Q I rx rv h;obtain⟨l,xs,y,rfl,rfl,hH,hy,q⟩:=h;cases rx;have hus:=rv.zero;subst hus;obtain⟨z,bC,n,r,hl,e⟩:=I.Ei hH;obtain⟨u,hu,ru⟩:=r.get hy;have QW:bC.toArray[bC.toArray.size-1]?=some u:=by
  show bC.toArray[bC.length-1]?=some u;rw[<- zaY,<- hl];exact hu
 refine call_meets F.slot_list_pop ⟨_,e,rfl⟩ F.entry_list_pop (F.args_list_pop_1 _) (MeetsSeq.list_pop_last l bC.toArray n u QW (by rw[zas];lia)) ⟨e,?_⟩;refine⟨y,_,I.QV (its':=bC.dropLast) hH e ?_ r.dropLast ?_,ru,q⟩
 ·show bC.toArray.eraseIdxIfInBounds (bC.toArray.size-1)=bC.dropLast.toArray;rw[zas,List.eraseIdxIfInBounds_toArray,Eh]
 ·rw[List.length_dropLast];lia
def X9:R2:=fun x y H Q=>∃l b xs zs,x=.ref l/\y=.ref b/\H l=some (.lst xs)/\H b=some (.lst zs)/\xs.length+zs.length<=zds/\∀p,H p=none->Q (.ref p) (upd H p (.lst (xs++zs)))
theorem QX:rK X (binaryOp .Add) X9:=by
 intro pins s σ H x y v u Q I rx ry h;obtain⟨l,b,xs,zs,rfl,rfl,hH,hB,hz,q⟩:=h;cases rx;cases ry;obtain⟨z,bC,n,r,hl,e⟩:=I.Ei hH;obtain⟨z2,tq,n2,r2,Ej,e2⟩:=I.Ei hB;refine PySem.P.add_list e e2 ?_ (by rw[zas,zas];lia);have ea:bC.toArray++tq.toArray=(bC++tq).toArray:=by simp
 rw[ea];exact⟨.ref _,_,I.X7 (t':=s.toks) (r.append r2) (by rw[zae];lia),rfl,q _ I.fresh⟩
end
end L2
namespace Att
open PySem PySem.W PySem.Calls PyProof.Rows
theorem wc{P:Params}{h:Heap}:∀(ns:List Int) (vs:List zdl),WellAll P h vs (ns.map WData.int)->IntsAre vs ns:=by
 intro ns
 induction ns with
 |nil=>
  intro vs w;rw[za2] at w;cases w;exact .nil
 |cons n ns ih=>
  intro vs w;rw[zam] at w;cases w with
  |cons a b=>
   cases a;exact .cons _ _ (ih _ b)
theorem Hj{l:OpenLaw}{n:Nat}(hn:l.most=some n){P:Params}{h:Heap}{args:List WData}{vals:List zdl}
 (Nk:l.row.toRowW.claim.pre args=true) (Ya:WellAll P h vals args) :
 ∃a vs ns,vals=[Value.ref a]/\args=[WData.list (ns.map WData.int)]/\h.get? a=some {cls:=.type "list",data:=.seq vs.toArray}/\IntsAre vs ns/\ns.length<=n:=by
 have hsh:WShape.hasAll [] args [.list .int]=true:=(pre_splitW Nk).1;have hc:l.pre.holds [] {args:=args}=true:=(pre_splitW Nk).2;obtain⟨d,r,rfl,h1,h2⟩:=hasAllW_cons hsh;obtain rfl:=hasAllW_nil h2;obtain⟨xs,rfl,h3⟩:=hasW_list h1;obtain⟨ns,rfl⟩:=items_int h3;have hlen:ns.length<=n:=by
  unfold OpenLaw.pre at hc;have h4:(WTm.not (.lt (.lit (.int (n:Int))) (.len (.arg 0)))).holds [] {args:=[.list (ns.map .int)]}=true:=by
   have h4:=(holds_andW hc).1;rw[hn] at h4;exact h4
  have h5:=condW_of h4 (w_not (w_lt w_lit (w_len_list (w_arg rfl))));rw[zad] at h5;refine Nat.le_of_not_lt fun q=>?_;have q':(n:Int)<((ns.length:Nat):Int):=by lia
  first
   |(rw[decide_eq_true q'] at h5;exact zzb h5 (by decide))
   |(simp at h5;lia)
 cases Ya with
 |cons w1 w2=>
  cases w2;cases w1 with
  |list ho QY=>exact⟨_,_,ns,rfl,rfl,ho,wc ns _ QY,hlen⟩
theorem Hk(l:OpenLaw)(args:List WData):l.row.toRowW.claim.post args (.bool true) args=true:=
 postW_of (r:=l.row.toRowW) (X:=(true==true))
  (show WShape.has [] (.bool true) .bool=true by first |rfl |decide |simp[WShape.has,WShape.arms,WShape.armsAll])
  (show (WTm.eq .res (.lit (.bool true))).value [] {args:=args,res:=some (.bool true),after:=args}=some (.bool (true==true)) from w_eq_bool (w_res rfl) w_lit) rfl
theorem B6{l:OpenLaw}{n:Nat}{q:zdw}{loose:List Str}{XP:(Str->Option zdl)->Heap->Prop}{YP:zdm->Heap->Prop}{d:DefRec}
 (hn:l.most=some n) (Ua:d.params.defaults=[])
 (call:∀(w:zdm) (s₀ s₁:zdu) (mg mb:Str->Option zdl) (fa:zdk) (o:Obj) (pm cd doc:zdl) (a:zdk) (vs:List zdl) (ns:List Int),
  Ground q loose [] XP w s₀ mg mb s₁.heap->YP w s₁.heap->
  s₁.heap.get? fa=some o->o.data=.func (docDef d.name d.params d.body d.scope pm cd doc)->s₁.heap.CodeRec cd d.name->mg d.name=some (.ref fa)->
  s₁.heap.get? a=some {cls:=.type "list",data:=.seq vs.toArray}->IntsAre vs ns->ns.length<=n->s₁.gens = #[]->
  codeAny (model l.prog w) callerA (.call (.ref fa) ⟨[.ref a],[]⟩) (fun r s'=>r=.ok (.ret (.bool true))/\OldK s₁.heap s'.heap/\s'.os=s₁.os/\AllBare s'.gens) s₁) :
 WalkO q loose XP YP l.row.toRowW d [] (fun f vs=>PySem.call f vs):=by
 intro w s₀ s₁ mg mb G Y fa o pm cd doc dV kV ho hd DK hD Ub hg args vals as Nk acR hrd Ya hlo;obtain rfl:dV=.none:=Dflts.none hD Ua;obtain rfl:kV=.none:=Dflts.noKw hD;obtain⟨a,vs,ns,rfl,rfl,QZ,hints,hlen⟩:=Hj hn Nk Ya;refine enter_call (codeAny_mono (call w s₀ s₁ mg mb fa o pm cd doc a vs ns G Y ho (fd_plain hd) DK Ub QZ hints hlen hg) fun r s' hq=>?_);obtain⟨rfl,h2,h3,h4⟩:=hq;exact⟨.inl ⟨.bool true,.bool true,[],rfl,fun _=>rfl,.bool true,Hk l _,fun _=>⟨List.Pairwise.nil,fun _ hm=>(nomatch hm)⟩⟩,h2,h3,h4⟩
end Att
namespace L2
open PySem PySem.Spec PyProof.Rows
theorem zK:∀ {vs:List zdl} {ns:List Int},IntsAre vs ns->Vals (ns.map V.int) vs
 |_,_,.nil=>.nil
 |_,_,.cons n t h=>.cons ⟨t,rfl⟩ (zK h)
noncomputable def inClass (s:Stmt) (j:Nat):Stmt:=match s with
 |.ClassDef _ _ _ body _ _ _ _ _ _ _=>body.getD j (.Pass ⟨0,0,0,0⟩)
 |_=>.Pass ⟨0,0,0,0⟩
noncomputable def kX (s:Stmt):Arguments:=match s with
 |.FunctionDef _ a _ _ _ _ _ _ _ _=>a
 |_=>{posonlyargs:=[],args:=[],vararg:=none,kwonlyargs:=[],kw_defaults:=[],kwarg:=none,defaults:=[]}
noncomputable def hC (s:Stmt):List Stmt:=match s with
 |.FunctionDef _ _ b _ _ _ _ _ _ _=>b
 |_=>[]
noncomputable def aJ (s:Stmt):Scope:=match s with
 |.FunctionDef _ _ _ _ _ _ sc _ _ _=>sc
 |_=>{kind:=.function,names:=[],isGenerator:=false,isCoroutine:=false}
abbrev dy:BM:=fun _ _ _ _ _ _=>False
abbrev E0:XK:=fun _ _ _=>False
theorem JL{X:Cx}:Passes dy X E0:=fun _ _ _ _ _ _ _ h=>h.elim
structure I0(K:zaa)(x qual:Str)(st:Stmt)(f:zdk)(fd:zdt):Prop where
 ex:∃(oc:zdl) (od:Option zdk) (kV doc pm:zdl) (an:Option zdk) (eT ct:zdl) (FN:Array (Option zdl)),
  fd=zbs x qual (kX st) (hC st) (aJ st) .none kV doc pm an eT ct/\K.lookup f=some ⟨oc,od,.func fd,FN⟩/\zb5 K eT qual=true
 kp:zbv K (.ref f)=true
section
variable{P:zdw}{w:zdm}{K:zaa}{mg:Str->Option zdl}{base:Heap}
theorem I0.ok{x qual:Str}{st:Stmt}{f:zdk}{fd:zdt}{N ps:List Str}{k:Nat}{sp:Sp}(F:I0 K x qual st f fd)(S:a8 N ps (aJ st))(len:∀vs H Q E,sp vs H Q E->vs.length=ps.length)
 (sX:∀(eT:zdl) (A:zdv) (outer:List Env) (s:zdu) (H:Hp) (vs:List V) (Q:VK) (E:XK),ib k (A.deeper (envOfC qual (aJ st) s.heap.objs.size f eT))->sp vs H Q E->
  ∃t,DJ (mX dy P w K mg base N qual (aJ st) f eT A outer s H E).DN (hC st) t/\t {nx:=fun _ H'=>Q .cB H',rt:=Q} (start N vs) H):bJ P w K mg base dy (k+1) f fd ps sp:=by
 obtain⟨oc,od,kV,doc,pm,an,eT,ct,FN,rfl,lk,DK⟩:=F.ex;refine O6 lk DK S len fun A outer s H vs Q E hr MH=>?_;obtain⟨t,h,q⟩:=sX eT A outer s H vs Q E hr MH;exact⟨t,h.DN,q⟩
theorem I0.binds{x qual:Str}{st:Stmt}{f:zdk}{fd:zdt}{ps:List Str}(F:I0 K x qual st f fd)
 (h:∀(kV doc pm:zdl) (an:Option zdk) (eT ct:zdl) (us:List zdl),us.length=ps.length->bindArgs (zbs x qual (kX st) (hC st) (aJ st) .none kV doc pm an eT ct) ⟨us,[]⟩=pure (ps.zip us)):Binds K fd ps []:=by
 obtain⟨oc,od,kV,doc,pm,an,eT,ct,FN,rfl,lk,DK⟩:=F.ex;exact .all (h kV doc pm an eT ct)
theorem JM{x qual:Str}{st:Stmt}{f:zdk}{oc:zdl}{od an:Option zdk}{FN:Array (Option zdl)}{kV doc pm eT ct:zdl}(l:K.lookup f=some ⟨oc,od,.func (zbs x qual (kX st) (hC st) (aJ st) .none kV doc pm an eT ct),FN⟩)
 (c:zb5 K eT qual=true) (k:zbv K (.ref f)=true):I0 K x qual st f (zbs x qual (kX st) (hC st) (aJ st) .none kV doc pm an eT ct):=⟨⟨oc,od,kV,doc,pm,an,eT,ct,FN,rfl,l,c⟩,k⟩
end
theorem dS{A:zdv}{k:Nat}(hr:ib k A):A.units+1<cLine:=zbP (Nat.add_le_add_left (by decide:1<=64) _) hr.units
theorem Hl{n:Nat}(h:n<=1000):n<zds:=zbP h (by decide)
section
variable{X:Cx}
theorem pv(i:Nat){x:Str}{pos:Pos}(hN:X.N[i]?=some x:=by rfl)(hv:Tq X.env.scope x:=by first |exact zbq rfl |exact zcD (zbq rfl) |exact zcD (zcD rfl))(hd:(x==("__debug__":Str))=false:=by decide)
 (DK:(x==("__classdict__":Str))=false:=by decide):PE X (.Name x pos) (gk i):=Qw hN hv hd DK
end
theorem b7{c A B:Prop}[Decidable c](h1:c->A)(h2:¬c->B):if c then A else B:=by
 by_cases h:c
 ·rw[zzp h];exact h1 h
 ·rw[zzn h];exact h2 h
def aq (H H':Hp):Prop:=∀b o,H b=some o->H' b=some o
theorem aq.refl(H:Hp):aq H H:=fun _ _ h=>h
theorem aq.trans{H H1 H2:Hp}(a:aq H H1)(b:aq H1 H2):aq H H2:=fun c o h=>b c o (a c o h)
theorem aq.free{H H':Hp}(e:aq H H'){l:zdk}(h:H' l=zdj):H l=zdj:=by
 cases q:H l with
 |none=>rfl
 |some o=>
  rw[e l o q] at h;cases h
theorem aq.seq{K:zaa}{H H':Hp}{a:zdk}{xs:List V}(e:aq H H')(h:i6 K H a xs):i6 K H' a xs:=by
 rcases h with (h |⟨o,h⟩) |h
 ·exact .inl (.inl (e _ _ h))
 ·exact .inl (.inr ⟨o,e _ _ h⟩)
 ·exact .inr h
section
variable{κ:Type}[DecidableEq κ]
noncomputable def cf (ax:List (κ×V)) (k:κ):Option V:=(ax.find? fun kv=>decide (kv.1=k)).map (·.2)
noncomputable def putK (ax:List (κ×V)) (k:κ) (v:V):List (κ×V):=
 if (ax.any fun kv=>decide (kv.1=k))=true then ax.map (fun kv=>if kv.1=k then (kv.1,v) else kv) else ax++[(k,v)]
theorem cg{p:κ×V}{r:List (κ×V)}{k:κ}(e:p.1=k):cf (p::r) k=some p.2:=by simp[cf,zbQ,e]
theorem ck{p:κ×V}{r:List (κ×V)}{k:κ}(e:¬p.1=k):cf (p::r) k=cf r k:=by simp[cf,zbQ,e]
theorem kz(k:κ):∀ax:List (κ×V),(ax.any fun kv=>decide (kv.1=k))=(cf ax k).isSome
 |[]=>rfl
 |p::r=>by
  rw[zbW];by_cases e:p.1=k
  ·simp only[cg e,decide_eq_true e,Bool.true_or,Option.isSome_some]
  ·rw[ck e,decide_eq_false e,Bool.false_or];exact kz k r
theorem B7(k j:κ)(y:V):∀ax:List (κ×V),cf (ax.map fun kv=>if kv.1=k then (kv.1,y) else kv) j=(cf ax j).map fun x=>if j=k then y else x
 |[]=>rfl
 |p::r=>by
  have ih:=B7 k j y r;rw[zam];by_cases h:p.1=k
  ·rw[zzp h];by_cases e:p.1=j
   ·rw[cg (p:=(p.1,y)) e,cg e,zbn,zzp (e.symm.trans h)]
   ·rw[ck (p:=(p.1,y)) e,ck e,ih]
  ·rw[zzn h];by_cases e:p.1=j
   ·rw[cg (p:=p) e,cg e,zbn,zzn (fun z=>h (e.trans z))]
   ·rw[ck (p:=p) e,ck e,ih]
theorem zL(k j:κ)(y:V):∀ax:List (κ×V),cf ax k=none->cf (ax++[(k,y)]) j=if j=k then some y else cf ax j
 |[],_=>by
  by_cases e:k=j
  ·rw[zzp e.symm];exact cg (p:=(k,y)) e
  ·rw[zzn (fun z=>e z.symm)];exact ck (p:=(k,y)) e
 |p::r,hn=>by
  rw[zaJ];have hk:¬p.1=k:=fun z=>by rw[cg z] at hn;cases hn
  rw[ck hk] at hn;have ih:=zL k j y r hn;by_cases e:p.1=j
  ·rw[cg e,cg e,zzn (fun z=>hk (e.trans z))]
  ·rw[ck e,ck e,ih]
theorem oU(ax:List (κ×V))(k j:κ)(y:V):cf (putK ax k y) j=if j=k then some y else cf ax j:=by
 unfold putK;by_cases a:(ax.any fun kv=>decide (kv.1=k))=true
 ·rw[zzp a,B7];rw[kz] at a;by_cases e:j=k
  ·obtain⟨x,hx⟩:=zcC.mp a;rw[zzp e,e,hx,zbn,zzp rfl]
  ·rw[zzn e];cases cf ax j with
   |none=>rfl
   |some x=>rw[zbn,zzn e]
 ·rw[zzn a];refine zL k j y ax ?_;rw[kz] at a;cases q:cf ax k with
  |none=>rfl
  |some x=>rw[q] at a;exact(a rfl).elim
theorem ip(ax:List (κ×V))(k:κ)(v:V):(putK ax k v).length<=ax.length+1:=by
 unfold putK;split
 ·rw[zad];lia
 ·rw[zae,zah,zaB];lia
theorem rA.qf{o:Option V}{u:Option zdl}(r:rA o u):o.isSome=u.isSome:=by
 cases o with
 |none=>cases u with
  |none=>rfl
  |some _=>exact(show False from r).elim
 |some _=>cases u with
  |none=>exact(show False from r).elim
  |some _=>rfl
theorem KV.val{ax:List (κ×V)}{vs:List (κ×zdl)}(r:KV ax vs)(k:κ):rA (cf ax k) (valueAt vs k):=by
 unfold KV at r
 induction r with
 |nil=>exact True.intro
 |@cons p q ps qs h t ih=>
  obtain⟨h1,h2⟩:=h;by_cases e:p.1=k
  ·have e':q.1=k:=h1.symm.trans e;have b:valueAt (q::qs) k=some q.2:=by simp[valueAt,zbQ,e']
   rw[cg e,b];exact h2
  ·have e':¬q.1=k:=fun z=>e (h1.trans z);have b:valueAt (q::qs) k=valueAt qs k:=by simp[valueAt,zbQ,e']
   rw[ck e,b];exact ih
theorem KV.any{ax:List (κ×V)}{vs:List (κ×zdl)}(r:KV ax vs)(k:κ):(ax.any fun kv=>decide (kv.1=k))=vs.any fun kv=>decide (kv.1=k):=by
 unfold KV at r
 induction r with
 |nil=>rfl
 |cons h t ih=>rw[zbW,zbW,ih,h.1]
theorem KV.Q0{ax:List (κ×V)}{vs:List (κ×zdl)}(r:KV ax vs)(k:κ){y:V}{u:zdl}(ry:RelV y u) :
 KV (ax.map fun kv=>if kv.1=k then (kv.1,y) else kv) (vs.map fun kv=>if kv.1=k then (kv.1,u) else kv):=by
 unfold KV at r ⊢
 induction r with
 |nil=>exact .nil
 |@cons p q ps qs h t ih=>
  rw[zam,zam];refine .cons ?_ ih;obtain⟨h1,h2⟩:=h;by_cases e:p.1=k
  ·rw[zzp e,zzp (h1.symm.trans e)];exact⟨h1,ry⟩
  ·rw[zzn e,zzn (fun z=>e (h1.trans z))];exact⟨h1,h2⟩
theorem KV.put{ax:List (κ×V)}{vs:List (κ×zdl)}(r:KV ax vs)(k:κ){y:V}{u:zdl}(ry:RelV y u):KV (putK ax k y) (stored vs k u):=by
 unfold putK stored;rw[r.any k];by_cases e:(vs.any fun kv=>decide (kv.1=k))=true
 ·rw[zzp e,zzp e];exact r.Q0 k ry
 ·rw[zzn e,zzn e];exact Paired.snoc r ⟨rfl,ry⟩
theorem KV.length{ax:List (κ×V)}{vs:List (κ×zdl)}(r:KV ax vs):ax.length=vs.length:=Paired.length r
end
theorem xk{P:zdw}{w:zdm}{k:Key}{u:zdl}(r:RelV (kV k) u):(bT P w).is k u=true:=by
 cases k with
 |inl i=>obtain⟨t,e⟩:=(show ∃t,u=Value.int i t from r);subst e;exact BV P w i t
 |inr x=>obtain⟨t,e⟩:=(show ∃t,u=Value.str x t from r);subst e;exact BW P w x t
theorem uP{P:zdw}{w:zdm}:∀ {ks:List Key} {us:List zdl},Vals (ks.map kV) us->ItemsAre (bT P w) ks us
 |[],_,r=>by rw[za2] at r;cases r;exact .nil
 |k::ks,_,r=>by
  rw[zam] at r;cases r with
  |cons h t=>exact .cons (xk h) (uP t)
abbrev KT (H:Hp):List (List Key×V)->List (List Key×zdk×zdl)->Prop:=Paired fun p q=>p.1=q.1/\H q.2.1=some (.tup (p.1.map kV))/\RelV p.2 q.2.2
theorem KT.val{H:Hp}{ax:List (List Key×V)}{xs:List (List Key×zdk×zdl)}(r:KT H ax xs)(k:List Key):rA (cf ax k) ((atKey xs k).map (·.2)):=by
 induction r with
 |nil=>exact True.intro
 |@cons p q ps qs h t ih=>
  obtain⟨h1,_,h2⟩:=h;by_cases e:p.1=k
  ·have e':q.1=k:=h1.symm.trans e;have b:atKey (q::qs) k=some q.2:=by simp[atKey,zbQ,e']
   rw[cg e,b];exact h2
  ·have e':¬q.1=k:=fun z=>e (h1.trans z);have b:atKey (q::qs) k=atKey qs k:=by simp[atKey,zbQ,e']
   rw[ck e,b];exact ih
theorem KT.Q0{H:Hp}{ax:List (List Key×V)}{xs:List (List Key×zdk×zdl)}(r:KT H ax xs)(k:List Key){y:V}{u:zdl}(ry:RelV y u) :
 KT H (ax.map fun kv=>if kv.1=k then (kv.1,y) else kv) (xs.map (putAt k u)):=by
 induction r with
 |nil=>exact .nil
 |@cons p q ps qs h t ih=>
  rw[zam,zam];refine .cons ?_ ih;obtain⟨h1,h2,h3⟩:=h;unfold putAt;by_cases e:p.1=k
  ·rw[zzp e,zzp (h1.symm.trans e)];exact⟨h1,h2,ry⟩
  ·rw[zzn e,zzn (fun z=>e (h1.trans z))];exact⟨h1,h2,h3⟩
theorem KT.put{H:Hp}{ax:List (List Key×V)}{xs:List (List Key×zdk×zdl)}(r:KT H ax xs)(k:List Key){b:zdk}{y:V}{u:zdl}(hb:H b=some (.tup (k.map kV)))(ry:RelV y u) :
 KT H (putK ax k y) (storedH xs k b u):=by
 have e:(ax.any fun kv=>decide (kv.1=k))=(atKey xs k).isSome:=by
  rw[kz,(r.val k).qf,zb9]
 unfold putK storedH;rw[e];by_cases q:(atKey xs k).isSome=true
 ·rw[zzp q,zzp q];exact r.Q0 k ry
 ·rw[zzn q,zzn q];exact Paired.snoc r ⟨rfl,hb,ry⟩
theorem KT.keeps{H H':Hp}{ax:List (List Key×V)}{xs:List (List Key×zdk×zdl)}(r:KT H ax xs)(ht:∀b ys,H b=some (.tup ys)->H' b=some (.tup ys)):KT H' ax xs:=
 Paired.Av r fun _ _ z=>⟨z.1,ht _ _ z.2.1,z.2.2⟩
section
variable{P:zdw}{w:zdm}{H:Hp}{h:Heap}{a:zdk}
theorem O9{u:HO}(ok:ou P w H h)(e:Rd H a u):dg P w H h a u:=e.ok ok
theorem JN{ax:List (Key×V)}(ok:ou P w H h)(e:Rd H a (.dK ax)):ax.length<=zds/\(a==sysModules)=false/\∃vs,KV ax vs/\h.DictOf (bT P w) a vs:=
 show dg P w H h a (.dK ax) from O9 ok e
theorem FT{ax:List (Key×V)}(ok:ou P w H h)(e:H a=some (.dK ax)):ax.length<=zds/\(a==sysModules)=false/\∃vs,KV ax vs/\h.DictOf (bT P w) a vs:=JN ok (.inl e)
theorem El{ks:List Key}(ok:ou P w H h)(e:H a=some (.tup (ks.map kV))):(tupleKind (bT P w)).is h ks a:=by
 obtain⟨_,bC,r,o,h1,h2,n,h3⟩:=(show dg P w H h a (.tup (ks.map kV)) from ok a _ e)
 exact⟨o,bC.toArray,n,h1,h2,h3,by simpa using uP r⟩
theorem JO{ax:List (List Key×V)}(ok:ou P w H h)(e:Rd H a (.dT ax)):ax.length<=zds/\(a==sysModules)=false/\
 ∃xs,KT H ax xs/\h.DictOfH (tupleKind (bT P w)) a xs:=by
 obtain⟨z,y,xs,r,o,es,ep,h1,h2,h3,h4,h5⟩:=(show dg P w H h a (.dT ax) from O9 ok e)
 refine⟨z,y,xs,r,o,es,ep,h1,h2,h3,h4,fun x hx=>?_,h5⟩;have all:∀ {l:List (List Key×V)} {m:List (List Key×zdk×zdl)},KT H l m->∀x∈m,(tupleKind (bT P w)).is h x.1 x.2.1:=by
  intro l m q
  induction q with
  |nil=>intro x hx;exact nomatch hx
  |@cons p q ps qs hq t ih=>
   intro x hx;rcases zag.mp hx with e |hx
   ·subst e;exact El ok (by rw[<- hq.1];exact hq.2.1)
   ·exact ih x hx
 exact all r x hx
theorem Uc{ax:List (List Key×V)}(ok:ou P w H h)(e:H a=some (.dT ax)):ax.length<=zds/\(a==sysModules)=false/\
 ∃xs,KT H ax xs/\h.DictOfH (tupleKind (bT P w)) a xs:=JO ok (.inl e)
end
def qD (H:Hp) (a:zdk) (y:V) (r:Option V):Prop:=
 (∃ax k,Rd H a (.dK ax)/\y=kV k/\r=cf ax k)\/∃ax k b,Rd H a (.dT ax)/\y=.ref b/\H b=some (.tup (k.map kV))/\r=cf ax k
def Q1 (H:Hp) (a:zdk) (y v:V) (H':Hp):Prop:=
 (∃ax k,H a=some (.dK ax)/\y=kV k/\ax.length<zds/\H'=upd H a (.dK (putK ax k v)))\/
 ∃ax k b,H a=some (.dT ax)/\y=.ref b/\H b=some (.tup (k.map kV))/\ax.length<zds/\H'=upd H a (.dT (putK ax k v))
theorem qD.k{H:Hp}{a:zdk}{ax:List (Key×V)}{k:Key}(e:H a=some (.dK ax)):qD H a (kV k) (cf ax k):=.inl ⟨ax,k,.inl e,rfl,rfl⟩
section
variable{X:Cx}{pins:List (zdk×Obj)}{σ:St}{H:Hp}{s:zdu}{a:zdk}{y v:V}{u r:zdl}{o:Option V}{A:zdv}{E:zdl->zdu->Prop}
theorem Inv.big(I:Inv X pins σ H s):sysModules<s.heap.objs.size:=by
 have h:zdr<s.heap.objs.size:=(I.mod.glob.keeps I.bk).lt;exact Nat.lt_trans (by decide) h
theorem Hm{Q:zdl->zdu->Prop}(hu:A.units+1<cLine)(I:Inv X pins σ H s)(g:qD H a y (some v))(ry:RelV y u)(h:∀w' s',Inv X pins σ H s'->RelV v w'->Q w' s') :
 wpAny (model X.prog X.w) A (getItem (.ref a) u) Q E s:=by
 rcases g with ⟨ax,k,e,ey,l⟩ |⟨ax,k,b,e,ey,eb,l⟩
 ·subst ey;obtain⟨z,hd,vs,rel,dd⟩:=JN I.cM e;obtain⟨w',hw,Ec⟩:=rA.some_of (v:=v) (o:=valueAt vs k) (by rw[l];exact rel.val k);exact wpAny_getItem_of (xk ry) dd.mapOf hw (h w' _ (I.tok _) Ec)
 ·subst ey;cases (show u=Value.ref b from ry);obtain⟨z,hd,xs,rel,dd⟩:=JO I.cM e;obtain⟨w',hw,Ec⟩:=rA.some_of (v:=v) (o:=(atKey xs k).map (·.2)) (by rw[l];exact rel.val k);obtain⟨p,hp,yQ⟩:=zcU.mp hw;refine wpAny_getItem_heap (tupleKind_room_in1 hu) (El I.cM eb) dd hp ?_;rw[yQ];exact h w' _ (I.tok _) Ec
theorem kY{h':Heap}{t':Nat}{ob:HO}(I:Inv X pins σ H s)(mu:Tj (H a))(hs:Heap.SameBut a s.heap h')(he:∃q,h'.get? a=some q)(new:dg X.prog X.w (upd H a ob) h' a ob) :
 Inv X pins σ (upd H a ob) {s with heap:=h',toks:=t' }:=
 I.write (x:=a) (e:=a) mu (.inl rfl) (fun b q hb z=>(hs.2 b hb).trans z) he new
theorem xl{P:zdw}{w:zdm}{H':Hp}{h':Heap}{ax:List (Key×V)}{vs:List (Key×zdl)}(z:ax.length<=zds)(hd:(a==sysModules)=false)(rel:KV ax vs)(dd:h'.DictOf (bT P w) a vs) :
 dg P w H' h' a (.dK ax):=⟨z,hd,vs,rel,dd⟩
theorem Hn{H':Hp}{Q:Unit->zdu->Prop}(hu:A.units+1<cLine)(I:Inv X pins σ H s)(g:Q1 H a y v H')(ry:RelV y u)(rv:RelV v r)(h:∀s',Inv X pins σ H' s'->Q () s') :
 wpAny (model X.prog X.w) A (setItem (.ref a) u r) Q E s:=by
 rcases g with ⟨ax,k,e,ey,l,eH⟩ |⟨ax,k,b,e,ey,eb,l,eH⟩
 ·subst ey eH;obtain⟨z,hd,vs,rel,dd⟩:=FT I.cM e;have hz:vs.length<=zds:=by rw[<- rel.length];exact z
  have hl:(putK ax k v).length<=zds:=by have:=ip ax k v;lia
  refine wpAny_setItem_pairs (hsz:=hz) (xk ry) dd fun h' FU hs=>h _ ?_;have he:∃q,h'.get? a=some q:=let ⟨q,_,_,hq,_⟩:=FU;⟨q,hq⟩;exact kY I (by rw[e];exact True.intro) hs he (xl hl hd (rel.put k rv) FU)
 ·subst ey eH;cases (show u=Value.ref b from ry);obtain⟨z,hd,xs,rel,dd⟩:=Uc I.cM e;have hz:xs.length<=zds:=by rw[<- Paired.length rel];exact z
  have hl:(putK ax k v).length<=zds:=by have:=ip ax k v;lia
  refine wpAny_setItem_heap (hsz:=hz) (tupleKind_room_in1 hu) (El I.cM eb) dd fun h' FU hs=>h _ ?_;obtain⟨q,es,ep,hq,h2,h3,h4,_,h5⟩:=FU;refine kY I (by rw[e];exact True.intro) hs ⟨q,hq⟩ ⟨hl,hd,_,(rel.put k eb rv).keeps fun c ys ec=>?_,q,es,ep,hq,h2,h3,h4,h5⟩;rw[aw (bU ec e (fun z=>nomatch z))];exact ec
end
def Q2 (i:Expr):Prop:=∀ov iv,subscripted i false ov iv=operate [ov,iv] (getItem ov iv)
theorem FV{prog:zdw}{w:zdm}{A:zdv}{E:zdl->zdu->Prop}{s:zdu}{env:Env}{value slice:Expr}{pos:Pos}{T id:String}{Q:zdl->zdu->Prop}
 (hl:typeLookup (.type T) "__getitem__"=pure (some (.builtin id))) (hs:Q2 slice)
 (h:wpAny (model prog w) A (eval value env) (fun o s₁=>wpAny (model prog w) A (eval slice env) (fun i s₂=>s₂.TypeIs o T/\wpAny (model prog w) A (getItem o i) Q E s₂) E s₁) E s) :
 wpAny (model prog w) A (eval (.Subscript value slice pos) env) Q E s:=by
 refine Subscript_ (wpAny_mono h (fun o s₁ h₁=>wpAny_mono h₁ (fun i s₂ h₂=>?_) fun _ _ x=>x) fun _ _ x=>x);obtain⟨hT,h₂⟩:=h₂;unfold subscriptTail;refine zdn ?_;rw[getitemInPython_of_ne hT.not_modules];refine zdn (wpAny_specialOf hT hl ?_);have fin:wpAny (model prog w) A (subscripted slice false o i) (fun r s₃=>wpAny (model prog w) A (letTemporaryGo value o r >>= fun _=>pure r) Q E s₃) E s₂:=by
  rw[hs o i];exact wpAny_operating (wpAny_mono h₂ (fun r s₃ h₃=>zdn (wpAny_letTemporaryGo (zdo h₃))) fun _ _ x=>x)
 first
  |exact zdo (zdn fin)
  |exact zdn (zdo (zdn fin))
  |exact zdn fin
theorem B8{X:Cx}{pins:List (zdk×Obj)}{σ:St}{H:Hp}{s:zdu}{a:zdk}{y:V}{o:Option V}(I:Inv X pins σ H s)(g:qD H a y o):s.TypeIs (.ref a) "dict":=by
 rcases g with ⟨ax,k,e,_,_⟩ |⟨ax,k,b,e,_,_,_⟩
 ·obtain⟨_,_,vs,_,dd⟩:=JN I.cM e;exact dd.typeIs
 ·obtain⟨_,_,xs,_,dd⟩:=JO I.cM e;exact dd.typeIs
def Pa (td ty:TE):TE:=fun σ H Q=>td σ H fun x H1=>ty σ H1 fun y H2=>∃a v,x=.ref a/\qD H2 a y (some v)/\Q v H2
def Pb (td ty tv:TE):TS:=fun D σ H=>tv σ H fun v H1=>td σ H1 fun x H2=>ty σ H2 fun y H3=>∃a H4,x=.ref a/\Q1 H3 a y v H4/\D.nx σ H4
section
variable{X:Cx}{o i e value:Expr}{pos pos' XY:Pos}{td ty tv:TE}
theorem b9(hu:X.A.units+1<cLine)(ho:PE X o td)(hi:PE X i ty)(hs:Q2 i):PE X (.Subscript o i pos) (Pa td ty):=by
 intro pins s σ H Q I h;refine FV PySem.F.slot_dict_getitem.lookup hs (fc (ho pins s σ H _ I h) fun u s1 zqz=>?_);obtain⟨x,H1,I1,rx,q1⟩:=zqz;refine fc (hi pins s1 σ H1 _ I1 q1) fun iv s2 zqz=>?_;obtain⟨y,H2,I2,ry,a,v,ex,g,q2⟩:=zqz;subst ex;obtain rfl:u=Value.ref a:=rx;exact⟨B8 I2 g,Hm hu I2 g ry fun w' s3 I3 Ec=>⟨v,H2,I3,Ec,q2⟩⟩
theorem mZ(hu:X.A.units+1<cLine)(ho:PE X o td)(hi:PE X i ty)(hv:PE X value tv)(hs:swapsWith value (some (.Subscript o i pos')) pos.line X.env=pure false) :
 PS X (.Assign [.Subscript o i pos'] value pos) (Pb td ty tv):=by
 intro pins s σ H D I h;refine wpAny_Assign_Subscript (fc (hv pins s σ H _ I h) fun r s1 zqz=>?_) hs;obtain⟨v,H1,I1,rv,q1⟩:=zqz;refine fc (ho pins s1 σ H1 _ I1 q1) fun u s2 zqz=>?_;obtain⟨x,H2,I2,rx,q2⟩:=zqz;refine fc (hi pins s2 σ H2 _ I2 q2) fun iv s3 zqz=>?_;obtain⟨y,H3,I3,ry,a,H4,ex,g,q3⟩:=zqz;subst ex;obtain rfl:u=Value.ref a:=rx;exact Hn hu I3 g ry rv fun s4 I4=>⟨σ,H4,I4,q3⟩
end
theorem B9{P:zdw}{w:zdm}{H:Hp}(h:Heap)(hb:sysModules<h.objs.size):dg P w H (h.push {cls:=.type "dict",data:=.dict #[]}) h.objs.size (.dK []):=
 ⟨zaZ _,beq_eq_false_iff_ne.mpr (Ne.symm (zaD hb)),[],.nil,Heap.DictOf.new h⟩
def JP:TE:=fun _ H Q=>∀p,H p=none->Q (.ref p) (upd H p (.dK []))
section
variable{X:Cx}{pos:Pos}
theorem xn:PE X (.Dict [] [] pos) JP:=fun pins s σ H Q I h=>
 wpAny_Dict_empty ⟨.ref s.heap.objs.size,_,I.laid (a:=s.heap.objs.size) (o:=.dK []) (t':=s.toks) (fun _ _ q=>Heap.get?_push_of_some _ q) (zaf _) (B9 s.heap I.big),rfl,h _ (I.cM.fresh (zaf _))⟩
end
def AL:List (TE×TE)->St->Hp->(List (V×V)->Hp->Prop)->Prop
 |[],_,H,Q=>Q [] H
 |(tk,tv)::r,σ,H,Q=>tk σ H fun x H1=>tv σ H1 fun y H2=>AL r σ H2 fun ps H3=>Q ((x,y)::ps) H3
abbrev VV:List (V×V)->List (zdl×zdl)->Prop:=Paired fun p q=>RelV p.1 q.1/\RelV p.2 q.2
def Wu (X:Cx) (pos:Pos) (keys:List (Option Expr)) (values:List Expr) (Nl:List (TE×TE)):Prop:=
 ∀(pins:List (zdk×Obj)) (s:zdu) (σ:St) (H:Hp) (Q:List (V×V)->Hp->Prop),Inv X pins σ H s->AL Nl σ H Q->
  wpAny (model X.prog X.w) X.A (evalPairs (pairTrees keys values X.env pos)) (fun vs s'=>∃ps H',Inv X pins σ H' s'/\VV ps vs/\Q ps H') X.xe s
theorem Nm{X:Cx}{pos:Pos}:Wu X pos [] [] []:=fun pins s σ H Q I h=>pairTrees_nil_walk ⟨[],H,I,.nil,h⟩
theorem xo{X:Cx}{pos:Pos}{k v:Expr}{ks:List (Option Expr)}{vs:List Expr}{tk tv:TE}{Nl:List (TE×TE)}(hk:PE X k tk)(hv:PE X v tv)(hr:Wu X pos ks vs Nl) :
 Wu X pos (some k::ks) (v::vs) ((tk,tv)::Nl):=fun pins s σ H Q I h=>
 pairTrees_cons_walk (fc (hk pins s σ H _ I h) fun u s1 ⟨x,H1,I1,rx,q1⟩=>fc (hv pins s1 σ H1 _ I1 q1) fun w2 s2 ⟨y,H2,I2,ry,q2⟩=>
  fc (hr pins s2 σ H2 _ I2 q2) fun ws s3 ⟨ps,H3,I3,rel,q3⟩=>⟨(x,y)::ps,H3,I3,.cons ⟨rx,ry⟩ rel,q3⟩)
def iB (ax more:List (Key×V)):List (Key×V):=more.foldl (fun acc kv=>putK acc kv.1 kv.2) ax
theorem KV.merge:∀ {more:List (Key×V)} {rs:List (Key×zdl)} {ax:List (Key×V)} {vs:List (Key×zdl)},KV more rs->KV ax vs->KV (iB ax more) (merged vs rs):=by
 intro more rs ax vs r;unfold KV at r
 induction r generalizing ax vs with
 |nil=>intro q;exact q
 |@cons p q ps qs h t ih=>
  intro r0;have e:KV (putK ax p.1 p.2) (stored vs q.1 q.2):=by
   have:=r0.put p.1 h.2;rw[<- h.1];exact this
  exact ih e
theorem gV:∀(more ax:List (Key×V)),(iB ax more).length<=ax.length+more.length
 |[],ax=>by show ax.length<=ax.length+0;lia
 |p::r,ax=>by
  have h1:=gV r (putK ax p.1 p.2);have h2:=ip ax p.1 p.2;show (iB (putK ax p.1 p.2) r).length<=_;rw[zah];lia
theorem xp{P:zdw}{w:zdm}:∀ {ax:List (Key×V)} {ws:List (zdl×zdl)},VV (ax.map fun kv=>(kV kv.1,kv.2)) ws->∃rs,Carries (bT P w) ws rs/\KV ax rs
 |[],_,r=>by rw[za2] at r;cases r;exact⟨[],True.intro,.nil⟩
 |p::ax,_,r=>by
  rw[zam] at r;cases r with
  |@cons a b as bs h t=>
   obtain⟨rs,c,q⟩:=xp (P:=P) (w:=w) t;obtain⟨b1,b2⟩:=b;exact⟨(p.1,b2)::rs,⟨xk h.1,rfl,c⟩,.cons ⟨rfl,h.2⟩ q⟩
def Pc (Nl:List (TE×TE)):TE:=fun σ H Q=>∀p,H p=none->AL Nl σ (upd H p (.dK [])) fun ps H2=>H2 p=some (.dK [])/\∃ax:List (Key×V),ps=ax.map (fun kv=>(kV kv.1,kv.2))/\ax.length<=15/\Q (.ref p) (upd H2 p (.dK (iB [] ax)))
theorem Nn{X:Cx}{pos:Pos}{keys:List (Option Expr)}{values:List Expr}{Nl:List (TE×TE)}(h:Wu X pos keys values Nl)(QY:keys.all (·.isSome)=true)(hl:keys.length=values.length)(h0:keys≠[])
 (Yb:keys.length<=15):PE X (.Dict keys values pos) (Pc Nl):=by
 intro pins s σ H Q I q;have hn:=I.cM.fresh (zaf s.heap.objs.size);have I1:=I.laid (a:=s.heap.objs.size) (o:=.dK []) (h':=s.heap.push {cls:=.type "dict",data:=.dict #[]}) (t':=s.toks) (fun _ _ q=>Heap.get?_push_of_some _ q) (zaf _) (B9 s.heap I.big);refine wpAny_Dict_walk (knd:=bT X.prog X.w) QY hl h0 Yb (fc (h pins _ σ _ _ I1 (q _ hn)) fun ws s2 zqz=>?_);obtain⟨ps,H2,I2,rel,e,ax,ep,lk,q2⟩:=zqz;subst ep;obtain⟨rs,c,rk⟩:=xp (P:=X.prog) (w:=X.w) rel;obtain⟨z,hd,vs0,r0,dd⟩:=FT I2.cM e;cases r0;refine⟨rs,c,dd,fun h' FU hs=>⟨.ref s.heap.objs.size,_,?_,rfl,q2⟩⟩;have hz:(iB [] ax).length<=zds:=by
  have h1:=gV ax [];rw[zaB] at h1;rw[sizeLine_eq];lia
 have he:∃q,h'.get? s.heap.objs.size=some q:=let ⟨q,_,_,hq,_⟩:=FU;⟨q,hq⟩;exact kY I2 (by rw[e];exact True.intro) hs he (xl hz hd (rk.merge .nil) FU)
noncomputable def uQ (env:Env):List (Str×NameKind)->List (Str×zdk)->List (Str×zdk)
 |[],cs=>cs
 |(n,k)::r,cs=>uQ env r (if k==.free then (n,(env.cells.lookup n).getD 0)::cs else cs)
theorem we{scope:Scope}{env:Env}(h:∀p∈scope.names,p.2=.free->∃c,env.cells.lookup p.1=some c):closureFor scope env=pure (uQ env scope.names []):=by
 have all:∀(l:List (Str×NameKind)) (cs:List (Str×zdk)),(∀p∈l,p.2=.free->∃c,env.cells.lookup p.1=some c)->
  (forIn l cs fun (x:Str×NameKind) (r:List (Str×zdk))=>if (x.2==NameKind.free)=true then do let a <- cellOf env x.1;pure (ForInStep.yield ((x.1,a)::r)) else (pure (ForInStep.yield r):Sem _))=pure (uQ env l cs):=by
  intro l
  induction l with
  |nil=>intro cs _;rfl
  |cons p r ih=>
   intro cs hp;obtain⟨n,k⟩:=p;rw[za9];by_cases hk:k=.free
   ·subst hk;obtain⟨c,e⟩:=hp (n,.free) zaq rfl;have e1:cellOf env n=pure c:=by unfold cellOf;rw[e]
    simp only[beq_self_eq_true,if_true,e1,pure_bind];rw[ih _ fun p SO=>hp p (zat _ SO)];simp[uQ,e]
   ·have hb:(k==NameKind.free)=false:=by simpa using hk
    simp only[hb,zaz,if_false,pure_bind];rw[ih _ fun p SO=>hp p (zat _ SO)];simp[uQ,hb]
 simp only[closureFor];rw[all scope.names [] h];simp
theorem tI{env:Env}{x:Str}{c:zdk}:∀ {l:List (Str×NameKind)} {cs:List (Str×zdk)},(∀p∈l,p.2=.free->∃c,env.cells.lookup p.1=some c)->(∀x c,cs.lookup x=some c->env.cells.lookup x=some c)->
 (uQ env l cs).lookup x=some c->env.cells.lookup x=some c
 |[],_,_,h,e=>h x c e
 |(n,k)::r,cs,hp,h,e=>by
  unfold uQ at e;refine tI (fun p q=>hp p (zat _ q)) ?_ e;intro y d q;by_cases hk:k=.free
  ·subst hk;obtain⟨c',e'⟩:=hp (n,.free) zaq rfl;simp only[beq_self_eq_true,if_true] at q;rw[zaX] at q;cases hy:y==n with
   |true=>
    rw[hy] at q;have:y=n:=by simpa using hy
    subst this;simp only at e';rw[e'] at q ⊢;exact q
   |false=>rw[hy] at q;exact h y d q
  ·have hb:(k==NameKind.free)=false:=by simpa using hk
   simp only[hb,zaz,if_false] at q;exact h y d q
theorem xq{env:Env}{x:Str}:∀ {l:List (Str×NameKind)} {cs:List (Str×zdk)},((∃c,cs.lookup x=some c)\/(x,NameKind.free)∈l)->∃c,(uQ env l cs).lookup x=some c
 |[],_,h=>by
  rcases h with h |h
  ·exact h
  ·exact zzb h (by simp)
 |(n,k)::r,cs,h=>by
  unfold uQ
  apply xq
  rcases h with ⟨c,h⟩ |h
  ·left
   by_cases hk:k=.free
   ·subst hk;simp only[beq_self_eq_true,if_true];rw[zaX];cases hy:x==n with
    |true=>exact⟨_,rfl⟩
    |false=>exact⟨c,h⟩
   ·have hb:(k==NameKind.free)=false:=by simpa using hk
    simp only[hb,zaz,if_false];exact⟨c,h⟩
  ·rcases zag.mp h with e |h
   ·injection e with e1 e2
    subst e1;subst e2
    left
    simp only[beq_self_eq_true,if_true];rw[zaX];simp
   ·exact .inr h
theorem oV{scope:Scope}{env:Env}{x:Str}:(relabel scope env).names.lookup x=(scope.names.lookup x).map fun k=>if (k==NameKind.free&&env.scope.kind==.function&&env.kindOf x==some .cell)=true then .cell else k:=by
 unfold relabel;show zbl x (scope.names.map _)=_;generalize scope.names=l
 induction l with
 |nil=>rfl
 |cons p r ih=>
  obtain⟨n,k⟩:=p;rw[zam,zaX (as:=r)];show zbl x ((if (k==NameKind.free&&env.scope.kind==.function&&env.kindOf n==some .cell)=true then (n,NameKind.cell) else (n,k))::_)=_;cases hx:x==n with
  |true=>
   have e:x=n:=by simpa using hx
   subst e;by_cases hc:(k==NameKind.free&&env.scope.kind==.function&&env.kindOf x==some .cell)=true
   ·rw[zzp hc];simp only[zaX,beq_self_eq_true,zbn];rw[zzp hc]
   ·rw[zzn hc];simp only[zaX,beq_self_eq_true,zbn];rw[zzn hc]
  |false=>
   by_cases hc:(k==NameKind.free&&env.scope.kind==.function&&env.kindOf n==some .cell)=true
   ·rw[zzp hc];simp only[zaX,hx];exact ih
   ·rw[zzn hc];simp only[zaX,hx];exact ih
theorem mem_of_lookup{x:Str}{k:NameKind}:∀ {l:List (Str×NameKind)},l.lookup x=some k->(x,k)∈l
 |[],h=>by simp at h
 |(n,j)::r,h=>by
  rw[zaX] at h;cases hx:x==n with
  |true=>
   rw[hx] at h;have e:x=n:=by simpa using hx
   cases h;subst e;exact zaq
  |false=>rw[hx] at h;exact zat _ (mem_of_lookup h)
noncomputable def jV (sc out:Scope):Bool:=
 (sc.names.all fun p=>p.2 != .cell&&(p.2 != .free ||out.names.lookup p.1==some .cell ||out.names.lookup p.1==some .free)&&(p.2 != .local ||sc.names.lookup p.1==some .local))&&decide (sc.kind=.function)
noncomputable def wI (sc out:Scope) (N:List Str) (ix:List Nat):Bool:=
 ix.all fun i=>sc.names.lookup (N.getD i "")==some .free&&(out.names.lookup (N.getD i "")==some .cell ||out.names.lookup (N.getD i "")==some .free)
noncomputable def JQ (σ:St) (ix:List Nat):St:=ix.map fun i=>σ.getD i none
noncomputable abbrev FW (N:List Str) (ix:List Nat):List Str:=ix.map fun i=>N.getD i ""
def kA (X:Cx) (scope:Scope) (own:List Str) (ix:List Nat) (C:zdk) (s₀:zdu) (H₀:Hp) (ex:List zdk):Cx where
 prog:=X.prog
 w:=X.w
 K:=X.K
 mg:=X.mg
 base:=X.base
 A:=X.A
 N:=own++FW X.N ix
 s₀:=s₀
 H₀:=H₀
 env:=compEnvC scope (uQ X.env scope.names []) C X.env
 outer:=X.stack
 stack:=X.stack
 ex:=ex
 fn:=fun _=>false
 calm:=X.calm
 pn:=[]
 xe:=fun _ _=>False
section
variable{X:Cx}{pins:List (zdk×Obj)}{σ:St}{H:Hp}{s:zdu}
theorem oW{sc out:Scope}(h:jV sc out=true):∀p∈sc.names,p.2≠.cell/\(p.2=.free->out.names.lookup p.1=some .cell\/out.names.lookup p.1=some .free)/\(p.2=.local->sc.names.lookup p.1=some .local):=by
 intro p hp;unfold jV at h;rw[zbb] at h;have:=List.all_eq_true.mp h.1 p hp;simp only[zbb,Bool.or_eq_true,bne_iff_ne,beq_iff_eq,ne_eq] at this;obtain⟨⟨h1,h2⟩,h3⟩:=this;refine⟨h1,fun e=>?_,fun e=>?_⟩
 ·rcases h2 with (h2 |h2) |h2
  ·exact zzb e h2
  ·exact .inl h2
  ·exact .inr h2
 ·rcases h3 with h3 |h3
  ·exact zzb e h3
  ·exact h3
theorem m7{sc out:Scope}(h:jV sc out=true):sc.kind=.function:=by
 unfold jV at h;rw[zbb] at h;exact of_decide_eq_true h.2
theorem Np{scope:Scope}{own:List Str}{ix:List Nat}{ex:List zdk}(I:Inv X pins σ H s)(hf:jV scope X.env.scope=true)(hx:∀b∈ex,sU X pins H b/\b<s.heap.objs.size):(kA X scope own ix s.heap.objs.size s H ex).Ok:=by
 have fits:=(oW hf)
 have sS:∀p∈scope.names,p.2=.free->∃c,X.env.cells.lookup p.1=some c:=fun p hp e=>I.ok.has p.1 ((fits p hp).2.1 e);have sub:∀ {x:Str} {c:zdk},(uQ X.env scope.names []).lookup x=some c->X.env.cells.lookup x=some c:=fun {x c} e=>tI sS (fun x c e=>by simp at e) e;refine⟨I.ok.mod,(show scope.kind=.function from m7 hf),I.ok.glob,I.ok.blt,zaf _,fun x y c a b=>I.ok.inj x y c (sub a) (sub b),fun x hk=>?_,fun x c e=>(by cases e),I.ok.hd,I.ok.frames,.inl rfl,fun b hb=>⟨zaD (hx b hb).2,fun x c e=>(hx b hb).1.2.2.2.2.1 x c (sub e)⟩,I.bs,zay I.ok.BX I.sz,fun b o e hb=>?_,fun b hb hs=>?_,I.stack,I.Ax⟩
 ·refine xq (.inr ?_);have JR:(relabel scope X.env).names.lookup x=some .cell\/(relabel scope X.env).names.lookup x=some .free:=hk;rw[oV] at JR;cases q:scope.names.lookup x with
  |none=>rw[q] at JR;rcases JR with z |z<;>cases z
  |some k=>
   have hm:=mem_of_lookup q;by_cases Yc:k=.free
   ·subst Yc;exact hm
   ·rw[q] at JR;have hb:(k==NameKind.free)=false:=by simpa using Yc
    simp only[zbn,hb,Bool.false_and,zaz,if_false,zaO.injEq] at JR;rcases JR with z |z
    ·exact zzb z (fits _ hm).1
    ·exact zzb z Yc
 ·rcases(hx b hb).1.2.2.2.1 with z |z
  ·exact I.ok.Jj b o e z
  ·exact zzb (zaC (Heap.lt_size e) (zay I.ok.BX z)) (zaW _)
 ·rcases zag.mp (I.w8 b hs) with z |z
  ·exact(hx b hb).1.2.1 z
  ·exact(hx b hb).1.2.2.1 z
theorem JS{scope:Scope}{own:List Str}{ix:List Nat}{ex:List zdk}{h':Heap}{tk:Nat}(I:Inv X pins σ H s)(hf:jV scope X.env.scope=true)(hc:wI scope X.env.scope X.N ix=true)(hx:∀b∈ex,sU X pins H b/\b<s.heap.objs.size)
 (hn:h'.Ns s.heap.objs.size fun _=>none) (hk:∀b o,s.heap.get? b=some o->h'.get? b=some o):Inv (kA X scope own ix s.heap.objs.size s H ex) [] (zcr own.length none++JQ σ ix) H {s with heap:=h',toks:=tk}:=by
 have fits:=(oW hf)
 have sS:∀p∈scope.names,p.2=.free->∃c,X.env.cells.lookup p.1=some c:=fun p hp e=>I.ok.has p.1 ((fits p hp).2.1 e);have sub:∀ {x:Str} {c:zdk},(uQ X.env scope.names []).lookup x=some c->X.env.cells.lookup x=some c:=fun {x c} e=>tI sS (fun x c e=>by simp at e) e;refine⟨Np I hf hx,rfl,I.bare,Un.kept hk,⟨_,hn,fun i x v e1 e2 e3=>?_⟩,fun x c e=>?_,I.cM.fresh (zaf _),fun x c e=>I.ox x c (sub e),fun p hp=>zzb (show p∈([]:List (zdk×Obj))++[] from hp) (by simp),I.cM.kept hk,?_⟩
 ·have e1:(own++FW X.N ix)[i]?=some x:=e1;by_cases hi:i<own.length
  ·rw[zbX (by simpa using hi),zcL,zzp hi] at e2;cases e2
  ·have hi':own.length<=i:=Nat.le_of_not_lt hi;rw[zbC (by simpa using hi'),zcZ] at e2;rw[zbC hi'] at e1;unfold JQ at e2;unfold FW at e1;rw[zal] at e1 e2;cases q:ix[i-own.length]? with
   |none=>rw[q] at e2;cases e2
   |some j=>
    rw[q] at e1 e2;simp only[zbn,zaO.injEq] at e1 e2;have hj:j∈ix:=zaI q;have fit:=List.all_eq_true.mp hc j hj;simp only[zbb,Bool.or_eq_true,beq_iff_eq] at fit;rw[e1] at fit;have ej:σ[j]?=some (some v):=by
     rw[zap] at e2;cases r:σ[j]? with
     |none=>rw[r] at e2;cases e2
     |some z=>rw[r] at e2;simp only[zch] at e2;rw[e2]
    have hjl:j<X.N.length:=by rw[<- I.len];exact(zak.mp ej).1
    have en:X.N[j]?=some x:=by
     rw[zap] at e1;rw[zac hjl] at e1 ⊢;simp only[zch] at e1;rw[e1]
    obtain⟨m,hm,hl⟩:=I.loc;have hv:Tq X.env.scope x:=by
     rcases fit.2 with z |z
     ·exact .inr (.inl z)
     ·exact .inr (.inr z)
    obtain⟨u,r,l⟩:=hl j x v en ej hv;refine⟨u,r,.inr ⟨?_,?_⟩⟩
    ·show (relabel scope X.env).names.lookup x=some .cell\/(relabel scope X.env).names.lookup x=some .free;rw[oV,fit.1];simp only[zbn];split
     ·exact .inl rfl
     ·exact .inr rfl
    ·rcases l with ⟨k1,_⟩ |⟨_,c,ec,vH⟩
     ·have k1:X.env.scope.names.lookup x=some .local:=k1;rcases fit.2 with z |z<;>(rw[z] at k1;cases k1)
     ·obtain⟨c',e'⟩:∃c,(uQ X.env scope.names []).lookup x=some c:=xq (.inr (mem_of_lookup fit.1));have:=sub e';rw[ec] at this;cases this;exact⟨c,e',vH.keeps hk⟩
 ·obtain⟨v,z⟩:=I.cell x c (sub e);exact⟨v,z.keeps hk⟩
 ·show (zcr own.length none++JQ σ ix).length=(own++FW X.N ix).length;simp[JQ]
theorem comp_back{scope:Scope}{own:List Str}{ix:List Nat}{ex:List zdk}{τ:St}{H':Hp}{s':zdu}{Fy:List (zdk×Obj)}(I:Inv X pins σ H s)(hx:∀b∈ex,sU X pins H b/\b<s.heap.objs.size)
 (I':Inv (kA X scope own ix s.heap.objs.size s H ex) Fy τ H' s'):Inv X pins σ H' s'/\H' s.heap.objs.size=none/\s.heap.objs.size≠X.env.locals/\X.s₀.heap.objs.size<=s.heap.objs.size/\(∀x c,X.env.cells.lookup x=some c->c≠s.heap.objs.size)/\∀p∈X.pn++pins,p.1≠s.heap.objs.size:=by
 refine⟨I.Tw (ch:=ex) I'.os I'.base I'.cM I'.bare fun b hb=>?_,I'.free,zbM I.lt,I.sz,fun x c e z=>?_,fun p hp z=>?_⟩
 ·obtain⟨f0,f1,f2,f3,f4,f5⟩:=(hx b hb).1;exact⟨f3,f1,f4,f5⟩
 ·obtain⟨v,q⟩:=I.cell x c e;exact zzb q.lt (by rw[z];exact zaW _)
 ·exact zzb (Heap.lt_size (I.pin p hp).1) (by rw[z];exact zaW _)
end
def SQ (X:Cx) (ifs:List Expr) (t:TT):Prop:=
 ∀(pins:List (zdk×Obj)) (s:zdu) (σ:St) (H:Hp) (Q:Bool->Hp->Prop),Inv X pins σ H s->t σ H Q->
  wpAny (model X.prog X.w) X.A (forIn ifs true fun c r=>if r=true then do let ok <- isTrue c X.env (eval c X.env);pure (ForInStep.yield ok) else pure (ForInStep.yield r)) (TP X pins σ Q) X.xe s
def AM:TT:=fun _ H Q=>Q true H
theorem iC{X:Cx}:SQ X [] AM:=fun _ _ _ H _ I h=>wpAny_tests_nil ⟨H,I,h⟩
theorem FX{X:Cx}{c:Expr}{t:TT}(h:PT X c t):SQ X [c] t:=fun pins s σ H Q I q=>wpAny_tests_one (h pins s σ H Q I q)
def vM (J:It) (D:zdk) (g:TG) (tc:TT) (te:TE) (Q:VK) (τ:St) (H:Hp):Prop:=∃W:Nat->Nat->St->Hp->Prop,(∃m,W 0 m τ H)/\∀i m τ H,W i m τ H->
 (J.stop i H/\Q (.ref D) H)\/(J.go i H/\∃N:St->Hp->Prop,(∀τ' H',N τ' H'->∃m',m'<m/\W (i+1) m' τ' H')/\∀x H',J.zz i H x H'->g x τ H' fun τ2 H2=>tc τ2 H2 fun b H3=>if b=true then
  te τ2 H3 fun y H4=>∃ys,H4 D=some (.lst ys)/\ys.length<zds/\N τ2 (upd H4 D (.lst (ys++[y]))) else N τ2 H3)
def jS (wi:TI) (k:Nat) (ix:List Nat) (g:TG) (tc:TT) (te:TE):TE:=fun σ H Q=>wi σ H fun J H1=>∀D,H1 D=none->vM J D g tc te Q (zcr k none++JQ σ ix) (upd H1 D (.lst []))
section
variable{X:Cx}{tg iter elt:Expr}{ifs:List Expr}{scope:Scope}{pos:Pos}{own:List Str}{ix:List Nat}{wi:TI}{g:TG}{tc:TT}{te:TE}
theorem Ho{it D:zdk}{fp:List zdk}{tn:Nat->Heap->Prop}{J:It}{Q:VK}{R:Result->zdu->Prop}{s:zdu}{τ:St}{H:Hp}(vN:X.calm=true)(Nq:X.xe=fun _ _=>False)(hpn:X.pn=[])(T:Turn X.prog X.w X.K tg J fp it tn)
 (he:PE X elt te) (hg:PG X tg g) (ht:SQ X ifs tc) (I:Inv X [] τ H s) (hfp:∀b∈fp,sU X [] H b) (h0:tn 0 s.heap) (hW:vM J D g tc te Q τ H)
 (hR:∀τ' H' s',Inv X [] τ' H' s'->Q (.ref D) H'->R (.ok .next) s') :
 codeAny (model X.prog X.w) X.A (.compLoop (.ListComp elt [⟨tg,iter,ifs,0⟩] scope pos) 0 (.ref it) (.ref D) X.env) R s:=by
 obtain⟨W,⟨m0,w0⟩,turn⟩:=hW;have no:∀ {E:zdl->zdu->Prop} (e:zdl) (s':zdu),X.xe e s'->E e s':=fun e s' z=>by rw[Nq] at z;exact z.elim
 have stat:∀ {H':Hp},(∀b∈fp,H' b=none)->∀b∈fp,sU X [] H' b:=fun hn b hb=>⟨hn b hb,(hfp b hb).2⟩
 refine codeAny_loop rfl (fun n s'=>∃i τ' H',Inv X [] τ' H' s'/\tn i s'.heap/\(∀b∈fp,H' b=none)/\W i n τ' H') (fun n s3 hI=>?_) m0 ⟨0,τ,H,I,h0,fun b hb=>(hfp b hb).1,w0⟩;obtain⟨i,τ3,H3,I3,O3,TK,w3⟩:=hI;show wpAny _ X.A ((compTurn (.ListComp elt [⟨tg,iter,ifs,0⟩] scope pos) 0 (.ref it) (.ref D) X.env).onRaise (fun x=>do noteFrame x X.env;theTreesLotGoes x)) _ _ s3;refine wpAny_noted ?_;rw[compTurn_list];refine zdn (wpAny_standAt (zdn ?_));rcases turn i n τ3 H3 w3 with ⟨stop,q⟩ |⟨go,N,hN,step⟩
 ·refine wpAny_mono (T.done X rfl rfl rfl vN i [] s3 τ3 H3 X.xe I3 (stat TK) O3 stop) (fun r s4 zqz=>?_) no;obtain⟨hr,I4⟩:=zqz;subst hr;exact zdo (hR τ3 H3 s4 I4 q)
 ·refine wpAny_mono (T.item X rfl rfl rfl vN i [] s3 τ3 H3 X.xe I3 (stat TK) O3 go) (fun r s4 zqz=>?_) no;obtain⟨u,hr,h4⟩:=zqz;subst hr;refine zdn (wpAny_mono h4 (fun _ s5 zqz=>?_) no);obtain⟨x,H5,I5,r5,y5,Jr,XS⟩:=zqz;have XT:=I5.pinned (stat XS) (T.obj _ _ Jr);refine zdn (wpAny_mono (hg _ s5 τ3 H5 x u _ XT r5 (step x H5 y5)) (fun _ s6 zqz=>?_) no);obtain⟨τ6,H6,I6,q6⟩:=zqz;refine zdn (wpAny_mono (ht _ s6 τ6 H6 _ I6 q6) (fun b s7 zqz=>?_) no);obtain⟨H7,I7,q7⟩:=zqz;have again:∀ {τ7:St} {H7:Hp} {s7:zdu},Inv X ([]++w9 fp s5.heap) τ7 H7 s7->N τ7 H7->∃m,m<n/\∃i σ' H',Inv X [] σ' H' s7/\tn i s7.heap/\(∀b∈fp,H' b=none)/\W i m σ' H':=fun {τ7 H7 s7} I7 n7=>by
   obtain⟨m',hm,w7⟩:=hN τ7 H7 n7;refine⟨m',hm,i+1,τ7,H7,I7.sV,T.keep _ _ _ Jr fun b hb o e=>(I7.pin (b,o) (zaL _ (zaL _ (mW hb e)))).1,fun b hb=>?_,w7⟩;obtain⟨o,e,d⟩:=T.obj _ _ Jr b hb;exact(I7.pin (b,o) (zaL _ (zaL _ (mW hb e)))).2.1
  cases b with
  |false=>exact zdo ⟨rfl,again I7 q7⟩
  |true=>
   refine zdn (zdn (wpAny_mono (he _ s7 τ6 H7 _ I7 q7) (fun v s8 ⟨y,H8,I8,r8,ys,hD,hl,q8⟩=>zdn ?_) no));refine wpAny_mono (bD _ s8 τ6 H8 (.ref D) [y] (.ref D) [v] (fun _ H'=>N τ6 H') I8 rfl (.cons r8 .nil) ⟨D,ys,y,rfl,rfl,hD,hl,q8⟩) (fun _ s9 zqz=>?_) no;obtain⟨_,H9,I9,_,q9⟩:=zqz;exact zdo (zdo ⟨rfl,again I9 q9⟩)
theorem Ca{pins:List (zdk×Obj)}{s:zdu}{σ:St}{H:Hp}{Q:VK}{use:Option (zdl->Sem Unit)}{Q':zdl->zdu->Prop}(vN:X.calm=true)(hf:jV scope X.env.scope=true)(hc:wI scope X.env.scope X.N ix=true)
 (hi:PI X tg iter wi) (hg:∀C s₀ H₀ ex,PG (kA X scope own ix C s₀ H₀ ex) tg g) (ht:∀C s₀ H₀ ex,SQ (kA X scope own ix C s₀ H₀ ex) ifs tc) (he:∀C s₀ H₀ ex,PE (kA X scope own ix C s₀ H₀ ex) elt te)
 (I:Inv X pins σ H s) (h:jS wi own.length ix g tc te σ H Q)
 (hU:∀(D C:zdk) (H':Hp) (s':zdu) (m:Str->Option zdl),Inv X pins σ H' s'->Q (.ref D) H'->s'.heap.Ns C m->H' C=none->C≠X.env.locals->X.s₀.heap.objs.size<=C->(∀x c,X.env.cells.lookup x=some c->c≠C)->(∀p∈X.pn++pins,p.1≠C)->compPost (model X.prog X.w) X.A X.xe use Q' (.ref D) C (.ok .next) s')
 (hs:∀x,foldedSetIterable iter X.env x=pure x) :
 wpAny (model X.prog X.w) X.A (comprehension (.ListComp elt [⟨tg,iter,ifs,0⟩] scope pos) scope X.env (firstIterPos [⟨tg,iter,ifs,0⟩] pos) (newList []) false (eval iter X.env) use) Q' X.xe s:=by
 have fits:=(oW hf)
 have sS:∀p∈scope.names,p.2=.free->∃c,X.env.cells.lookup p.1=some c:=fun p hp e=>I.ok.has p.1 ((fits p hp).2.1 e);refine wpAny_comprehension_free (use:=use) rfl hs (we sS) (m7 hf) (fun x hx=>(fits x hx).2.2) ?_;refine fc (hi pins s σ H _ I h) fun v s1 h1=>fc h1 fun XR s2 h2=>?_;obtain⟨it,fp,tn,J,H2,e,I2,T,yI,f2,hW⟩:=h2;subst e;refine wpAny_newObj_type (hd:=by size_fits) ?_;have hD:H2 s2.heap.objs.size=none:=I2.cM.fresh (zaf _);have I3:Inv X pins σ (upd H2 s2.heap.objs.size (.lst [])) {s2 with heap:=s2.heap.push {cls:=.type "list",dict:=none,data:=.seq ([]:List zdl).toArray} }:=
  I2.laid (t':=s2.toks) (fun b u e=>Heap.get?_push_of_some _ e) (zaf _) ⟨zaZ _,[],0,.nil,Heap.get?_push_size _ rfl⟩
 have W3:=hW s2.heap.objs.size hD;have lt3:∀b∈fp,b<s2.heap.objs.size:=fun b hb=>let ⟨o,e,_⟩:=T.obj _ _ yI b hb;Heap.lt_size e;have Ud:∀b∈fp,sU X pins (upd H2 s2.heap.objs.size (.lst [])) b/\b<(s2.heap.push {cls:=.type "list",dict:=none,data:=.seq ([]:List zdl).toArray}).objs.size:=fun b hb=>
  ⟨⟨by rw[aw (zaD (lt3 b hb))];exact(f2 b hb).1,(f2 b hb).2⟩,by rw[Heap.size_push];exact zca (lt3 b hb)⟩
 have O3:tn 0 (s2.heap.push {cls:=.type "list",dict:=none,data:=.seq ([]:List zdl).toArray}):=T.keep _ _ _ yI fun b _ o e=>Heap.get?_push_of_some _ e;generalize hs3:({s2 with heap:=s2.heap.push {cls:=.type "list",dict:=none,data:=.seq ([]:List zdl).toArray} }:zdu)=s3 at I3;generalize hH3:upd H2 s2.heap.objs.size (.lst [])=H3 at I3 W3 Ud;have eh:s2.heap.push {cls:=.type "list",dict:=none,data:=.seq ([]:List zdl).toArray}=s3.heap:=by rw[<- hs3]
 rw[eh] at Ud O3;refine wpAny_newFunctionEnv (fun x hx=>(fits x hx).1) (by intro y hy;simp at hy) (fun h4 Pd Yd=>?_) (m7 hf);have kept:∀b o,s3.heap.get? b=some o->h4.get? b=some o:=fun b o e=>Yd.extBut b o (zaD (Heap.lt_size e)) (Heap.get?_push_of_some _ e);have I4:=JS (own:=own) (tk:=s3.toks+([]:List (Str×zdl)).length) I3 hf hc Ud Pd kept;have fp4:∀b∈fp,sU (kA X scope own ix s3.heap.objs.size s3 H3 fp) [] H3 b:=fun b hb=>by
  obtain⟨⟨f0,f1,f2',f3,f4,f5⟩,lt⟩:=Ud b hb;refine⟨f0,zaD lt,fun z=>?_,.inl hb,fun x c e=>f4 x c (tI sS (fun x c e=>by simp at e) e),fun p hp=>zzb (show p∈([]:List (zdk×Obj))++[] from hp) (by simp)⟩;rcases zag.mp (I3.w8 b z) with z |z
  ·exact f1 z
  ·exact f2' z
 have st4:tn 0 h4:=T.keep _ _ _ O3 fun b _ o e=>kept b o e;have loop:=Ho (X:=kA X scope own ix s3.heap.objs.size s3 H3 fp) (iter:=iter) (scope:=scope) (pos:=pos) (R:=compPost (model X.prog X.w) X.A X.xe use Q' (.ref s2.heap.objs.size) s3.heap.objs.size) vN rfl rfl T (he _ _ _ _) (hg _ _ _ _) (ht _ _ _ _) I4 fp4 st4 W3
  (fun τ' H' s' I' q=>by
   obtain⟨J1,J2,J3,J4,J5,J6⟩:=comp_back I3 Ud I';obtain⟨m,hm,_⟩:=I'.loc;exact hU _ _ H' s' m J1 q hm J2 J3 J4 J5 J6)
 exact codeAny_compStart_list loop (T.self X.A 0 _ _ _ st4 loop)
theorem hG(vN:X.calm=true)(hf:jV scope X.env.scope=true)(hc:wI scope X.env.scope X.N ix=true)
 (hi:PI X tg iter wi) (hg:∀C s₀ H₀ ex,PG (kA X scope own ix C s₀ H₀ ex) tg g) (ht:∀C s₀ H₀ ex,SQ (kA X scope own ix C s₀ H₀ ex) ifs tc) (he:∀C s₀ H₀ ex,PE (kA X scope own ix C s₀ H₀ ex) elt te)
 (hs:∀x,foldedSetIterable iter X.env x=pure x:=by intro _;rfl):PE X (.ListComp elt [⟨tg,iter,ifs,0⟩] scope pos) (jS wi own.length ix g tc te):=by
 intro pins s σ H Q I h;rw[eval_ListComp];refine Ca (use:=none) vN hf hc hi hg ht he I h (fun D C H' s' m I' q hm n1 n2 n3 n4 n5=>?_) hs;refine⟨m,hm,fun h' sb=>⟨.ref D,H',?_,rfl,q⟩⟩;exact I'.turned (t':=s'.toks) (it:=C) (fun b o hb e=>sb.extBut b o hb e) n1 (Ne.symm (Ne.symm n2)) (.inr n3) n4 n5
theorem Nr{i:Nat}{y:Str}{py Ue:Pos}(hN:X.N.Nodup)(hiy:X.N[i]?=some y)(hy:Loc X.env.scope y)(vN:X.calm=true)(hf:jV scope X.env.scope=true)(hc:wI scope X.env.scope X.N ix=true)
 (hi:PI X tg iter wi) (hg:∀C s₀ H₀ ex,PG (kA X scope own ix C s₀ H₀ ex) tg g) (ht:∀C s₀ H₀ ex,SQ (kA X scope own ix C s₀ H₀ ex) ifs tc) (he:∀C s₀ H₀ ex,PE (kA X scope own ix C s₀ H₀ ex) elt te)
 (hsw:swapsWith (.ListComp elt [⟨tg,iter,ifs,0⟩] scope pos) (some (.Name y py)) Ue.line X.env=pure true:=by rfl)
 (hs:∀x,foldedSetIterable iter X.env x=pure x:=by intro _;rfl) (Qu:X.fn y=true\/X.env.scope.names.lookup y=some .local:=by first |exact .inl rfl |exact .inr rfl |assumption) :
 PS X (.Assign [.Name y py] (.ListComp elt [⟨tg,iter,ifs,0⟩] scope pos) Ue) (G5 (jS wi own.length ix g tc te) (eO i)):=by
 intro pins s σ H D I h;rw[exec_Assign_Name_used _ _ _ _ hsw];refine zdn (wpAny_standAt (zdn ?_));show wpAny _ _ (do let _ <- comprehension (.ListComp elt [⟨tg,iter,ifs,0⟩] scope pos) scope X.env _ (newList []) false (eval iter X.env) (some (assign (.Name y py) X.env))) _ _ s;refine zdn (wpAny_mono (Ca (use:=some (assign (.Name y py) X.env)) (Q':=fun _ s'=>SP X pins D .next s') vN hf hc hi hg ht he I h (fun L C H' s' m I' q hm n1 n2 n3 n4 n5=>?_) hs) (fun _ s' hq=>zdo (zdo hq)) fun _ _ e=>e);show wpAny _ _ (assign (.Name y py) X.env (.ref L)) _ _ _;refine wpAny_assign_Name (zy I' hN hiy hy (v:=.ref L) rfl (fun s2 I2 zqz=>?_) Qu);obtain⟨a,sb,ha⟩:=zqz;have hCa:C≠a:=by
  rcases ha with rfl |ha
  ·exact n2
  ·exact fun z=>n4 y a ha z.symm
 refine⟨m,hm.sameBut sb hCa,fun h' sb'=>⟨_,H',?_,q⟩⟩;exact I2.turned (t':=s2.toks) (it:=C) (fun b o hb e=>sb'.extBut b o hb e) n1 n2 (.inr n3) n4 n5
end
inductive Dp where
 |cB |bl (b:Bool) |int (i:Int) |str (x:Str) |tup (l:List Dp) |lst (l:List Dp)
mutual
def Rep (K:zaa) (H:Hp):Dp->V->Prop
 |.cB,v=>v=.cB
 |.bl b,v=>v=.bl b
 |.int i,v=>v=.int i
 |.str x,v=>v=.str x
 |.tup l,v=>∃a xs,v=.ref a/\bQ K H a xs/\aN K H l xs
 |.lst l,v=>∃a xs,v=.ref a/\i6 K H a xs/\aN K H l xs
def aN (K:zaa) (H:Hp):List Dp->List V->Prop
 |[],vs=>vs=[]
 |d::ds,vs=>∃v r,vs=v::r/\Rep K H d v/\aN K H ds r
end
mutual
noncomputable def Dp.deep:Dp->Nat
 |.tup l=>Dp.JT l+1
 |.lst l=>Dp.JT l+1
 |_=>0
noncomputable def Dp.JT:List Dp->Nat
 |[]=>0
 |d::ds=>max d.deep (Dp.JT ds)
end
theorem aq.a7{K:zaa}{H H':Hp}{a:zdk}{xs:List V}(e:aq H H')(h:bQ K H a xs):bQ K H' a xs:=by
 rcases h with (h |⟨o,h⟩) |h
 ·exact .inl (.inl (e _ _ h))
 ·exact .inl (.inr ⟨o,e _ _ h⟩)
 ·exact .inr h
mutual
theorem Rep.mono{K:zaa}{H H':Hp}(e:aq H H'):∀ {d:Dp} {v:V},Rep K H d v->Rep K H' d v
 |.cB,_,h=>h
 |.bl _,_,h=>h
 |.int _,_,h=>h
 |.str _,_,h=>h
 |.tup l,_,h=>by
  unfold Rep at h ⊢;obtain⟨a,xs,e1,e2,e3⟩:=h;exact⟨a,xs,e1,e.a7 e2,aN.mono e e3⟩
 |.lst l,_,h=>by
  unfold Rep at h ⊢;obtain⟨a,xs,e1,e2,e3⟩:=h;exact⟨a,xs,e1,e.seq e2,aN.mono e e3⟩
theorem aN.mono{K:zaa}{H H':Hp}(e:aq H H'):∀ {ds:List Dp} {vs:List V},aN K H ds vs->aN K H' ds vs
 |[],_,h=>h
 |d::ds,_,h=>by
  unfold aN at h ⊢;obtain⟨v,r,e1,e2,e3⟩:=h;exact⟨v,r,e1,Rep.mono e e2,aN.mono e e3⟩
end
theorem aN.length{K:zaa}{H:Hp}:∀ {ds:List Dp} {vs:List V},aN K H ds vs->vs.length=ds.length
 |[],_,h=>by unfold aN at h;rw[h];rfl
 |d::ds,_,h=>by
  unfold aN at h;obtain⟨v,r,e1,_,e3⟩:=h;rw[e1,zah,zah,aN.length e3]
theorem aN.get{K:zaa}{H:Hp}:∀ {ds:List Dp} {vs:List V} {i:Nat} {d:Dp},aN K H ds vs->ds[i]?=some d->∃v,vs[i]?=some v/\Rep K H d v
 |[],_,_,_,_,e=>by simp at e
 |d::ds,_,0,_,h,e=>by
  unfold aN at h;obtain⟨v,r,e1,e2,e3⟩:=h;simp only[List.getElem?_cons_zero,zaO.injEq] at e;subst e;exact⟨v,by rw[e1];rfl,e2⟩
 |d::ds,_,i+1,d',h,e=>by
  unfold aN at h;obtain⟨v,r,e1,e2,e3⟩:=h;rw[zb6] at e;obtain⟨v',h1,h2⟩:=aN.get e3 e;exact⟨v',by rw[e1,zb6];exact h1,h2⟩
theorem aN.append{K:zaa}{H:Hp}:∀ {ds es:List Dp} {vs us:List V},aN K H ds vs->aN K H es us->aN K H (ds++es) (vs++us)
 |[],_,_,_,h,h'=>by unfold aN at h;rw[h];exact h'
 |d::ds,_,_,_,h,h'=>by
  unfold aN at h;obtain⟨v,r,e1,e2,e3⟩:=h;rw[e1];show aN K H (d::(ds++_)) (v::(r++_));unfold aN;exact⟨v,_,rfl,e2,aN.append e3 h'⟩
theorem aN.nil{K:zaa}{H:Hp}:aN K H [] []:=by unfold aN;rfl
theorem aN.cons{K:zaa}{H:Hp}{d:Dp}{ds:List Dp}{v:V}{vs:List V}(h:Rep K H d v)(h':aN K H ds vs):aN K H (d::ds) (v::vs):=by unfold aN;exact⟨v,vs,rfl,h,h'⟩
theorem Rep.bg{K:zaa}{H:Hp}{l:List Dp}{v:V}:Rep K H (.tup l) v↔∃a xs,v=.ref a/\bQ K H a xs/\aN K H l xs:=by unfold Rep;exact Iff.rfl
theorem Rep.bL{K:zaa}{H:Hp}{l:List Dp}{v:V}:Rep K H (.lst l) v↔∃a xs,v=.ref a/\i6 K H a xs/\aN K H l xs:=by unfold Rep;exact Iff.rfl
theorem Rep.bt{K:zaa}{H:Hp}{i:Int}{v:V}:Rep K H (.int i) v↔v=.int i:=by unfold Rep;exact Iff.rfl
theorem Rep.bA{K:zaa}{H:Hp}{x:Str}{v:V}:Rep K H (.str x) v↔v=.str x:=by unfold Rep;exact Iff.rfl
theorem Rep.lP{K:zaa}{H:Hp}{b:Bool}{v:V}:Rep K H (.bl b) v↔v=.bl b:=by unfold Rep;exact Iff.rfl
theorem Rep.qg{K:zaa}{H:Hp}{v:V}:Rep K H .cB v↔v=.cB:=by unfold Rep;exact Iff.rfl
theorem aN.br{K:zaa}{H:Hp}{vs:List V}:aN K H [] vs↔vs=[]:=by unfold aN;exact Iff.rfl
theorem aN.aI{K:zaa}{H:Hp}{d:Dp}{ds:List Dp}{vs:List V}:aN K H (d::ds) vs↔∃v r,vs=v::r/\Rep K H d v/\aN K H ds r:=by conv=>lhs;unfold aN
theorem aq.new{H:Hp}{p:zdk}(h:H p=none)(o:HO):aq H (upd H p o):=fun b u q=>by rw[aw (ai q h)];exact q
section
variable{X:Cx}
def Pe (K:zaa) (b:Bool):R2:=fun x y H Q=>∃d,Rep K H d x/\Rep K H d y/\d.deep<=150/\Q (.bl b) H
end
section
variable{X:Cx}
def Ug (i j:Int):Prop:=i.natAbs<2 ^ 4000/\j.natAbs<2 ^ 4000
theorem bits_le{i:Int}(h:i.natAbs<2 ^ 4000):Builtin.Int.intBits i<=2 ^ 20:=zay (intBits_le h) (by decide)
theorem FY:rK X (binaryOp .Mult) (rI Ug fun i j=>.int (i*j)):=TM fun _ _ _ _ _ _ _ hc q=>mul_int q (IntMulOk.of_bits (bits_le hc.1) (bits_le hc.2))
theorem Cb:mm X (.builtin "isinstance") (fun xs H Q=>∃x T t b,xs=[x,.ty T]/\sW X.K H x t/\zc6 X.K t (.type T)=some b/\Q (.bl b) H):=by
 intro pins s σ H xs us Q I r h;obtain⟨x,T,t,b,rfl,ty,e,q⟩:=h;obtain⟨u1,u2,rfl,r1,r2⟩:=vals2 r;cases (show u2=Value.type T from r2);exact Hg I r1 ty e fun tk=>⟨.bl b,H,I.tok tk,rfl,q⟩
end
structure b8(K:zaa)(mg:Str->Option zdl)(x:Str)(st:Stmt)(ps:List Str)(f:zdk)(fd:zdt):Prop where
 F:I0 K x x st f fd
 b:Binds K fd ps []
 m:mg x=some (.ref f)
end L2
namespace L2
open PySem PySem.Spec PyProof.Rows
theorem JU{g:Int->Int->V}{i j:Int}{H:Hp}{Q:VK}:O4 g (.int i) (.int j) H Q↔Q (g i j) H:=⟨fun ⟨_,_,e1,e2,q⟩=>by cases e1;cases e2;exact q,fun q=>⟨_,_,rfl,rfl,q⟩⟩
theorem Ye{C:Int->Int->Prop}{g:Int->Int->V}{i j:Int}{H:Hp}{Q:VK}:rI C g (.int i) (.int j) H Q↔C i j/\Q (g i j) H:=⟨fun ⟨_,_,e1,e2,c,q⟩=>by cases e1;cases e2;exact⟨c,q⟩,fun q=>⟨_,_,rfl,rfl,q⟩⟩
theorem JV{a:V}{r:St}{H:Hp}{Q:VK}:(gk 0 (some a::r) H Q)=(Q a H):=rfl
theorem JW{a:Option V}{r:St}{H:Hp}{Q:VK}:(gk 1 (a::r) H Q)=(gk 0 r H Q):=rfl
theorem JX{a:Option V}{r:St}{H:Hp}{Q:VK}:(gk 2 (a::r) H Q)=(gk 1 r H Q):=rfl
theorem JY{a:Option V}{r:St}{H:Hp}{Q:VK}:(gk 3 (a::r) H Q)=(gk 2 r H Q):=rfl
theorem JZ{a:Option V}{r:St}{H:Hp}{Q:VK}:(gk 4 (a::r) H Q)=(gk 3 r H Q):=rfl
theorem J0{a:Option V}{r:St}{H:Hp}{Q:VK}:(gk 5 (a::r) H Q)=(gk 4 r H Q):=rfl
theorem J7{a:Option V}{r:St}{H:Hp}{Q:VK}:(gk 6 (a::r) H Q)=(gk 5 r H Q):=rfl
theorem J8{a:Option V}{r:St}{H:Hp}{Q:VK}:(gk 7 (a::r) H Q)=(gk 6 r H Q):=rfl
theorem J9{a:Option V}{r:St}{H:Hp}{Q:VK}:(gk 8 (a::r) H Q)=(gk 7 r H Q):=rfl
theorem Ka{a:Option V}{r:St}{H:Hp}{Q:VK}:(gk 9 (a::r) H Q)=(gk 8 r H Q):=rfl
theorem Uh{v:V}{σ:St}{H:Hp}{Q:VK}:(tC v σ H Q)=(Q v H):=rfl
theorem Pf{r:R2}{ta tb:TE}{σ:St}{H:Hp}{Q:VK}:(TL r ta tb σ H Q)=(ta σ H fun x H1=>tb σ H1 fun y H2=>r x y H2 Q):=rfl
theorem Ui{b:Bool}{p:Bool->Prop}:(∃k,V.bl b=.bl k/\p k)↔p b:=⟨fun ⟨_,e,q⟩=>by cases e;exact q,fun q=>⟨_,rfl,q⟩⟩
theorem Q3{b:Int}{p:Int->Prop}:(∃k,V.int b=.int k/\p k)↔p b:=⟨fun ⟨_,e,q⟩=>by cases e;exact q,fun q=>⟨_,rfl,q⟩⟩
theorem Q4{b:zdk}{p:zdk->Prop}:(∃k,V.ref b=.ref k/\p k)↔p b:=⟨fun ⟨_,e,q⟩=>by cases e;exact q,fun q=>⟨_,rfl,q⟩⟩
theorem FZ{t:TE}{σ:St}{H:Hp}{Q:Bool->Hp->Prop}:(FJ t σ H Q)=(t σ H fun x H'=>∃k,x=.bl k/\Q k H'):=rfl
theorem Pg{x y:V}{H:Hp}{Q:VK}:(rEq x y H Q)=(Ha x y=true/\Q (.bl (decide (x=y))) H):=rfl
theorem Ph{x y:V}{H:Hp}{Q:VK}:(rNe x y H Q)=(Ha x y=true/\Q (.bl (!decide (x=y))) H):=rfl
theorem Q5{i j:Int}:(V.int i=V.int j)=(i=j):=by simp
theorem Q6{i j:Str}:(V.str i=V.str j)=(i=j):=by simp
theorem Nt{c:Prop}[Decidable c]{A B:Prop}:(if decide c=true then A else B)↔if c then A else B:=by simp
theorem Kb{c:Prop}[Decidable c]{A B:Prop}:(if (!decide c)=true then A else B)↔if c then B else A:=by by_cases h:c<;>simp[h]
theorem aG{K:zaa}{p:zdk}{i:Int}{H:Hp}{Q:VK}{xs:List V}{v:V}(h:bQ K H p xs)(hv:tw xs i=some v)(q:Q v H):Eb K (.ref p) (.int i) H Q:=⟨p,xs,i,v,rfl,rfl,h,hv,q⟩
theorem bz{K:zaa}{p:zdk}{i:Int}{H:Hp}{Q:VK}{xs:List V}{v:V}(h:i6 K H p xs)(hv:tw xs i=some v)(q:Q v H):AG K (.ref p) (.int i) H Q:=⟨p,xs,i,v,rfl,rfl,h,hv,q⟩
section
variable{P:zdw}{w:zdm}{K:zaa}{mg:Str->Option zdl}{base:Heap}
theorem I0.lQ{x qual:Str}{st:Stmt}{f:zdk}{fd:zdt}{N ps:List Str}{k:Nat}{sp:Sp}(F:I0 K x qual st f fd)(S:a8 N ps (aJ st))(len:∀vs H Q E,sp vs H Q E->vs.length=ps.length)
 (sX:∀(eT:zdl) (A:zdv) (outer:List Env) (s:zdu) (H:Hp) (vs:List V) (Q:VK) (E:XK),ib k (A.deeper (envOfC qual (aJ st) s.heap.objs.size f eT))->sp vs H Q E->
  ∃t σ,DJ (mX dy P w K mg base N qual (aJ st) f eT A outer s H E).DN (hC st) t/\L2.start N vs=σ/\t {nx:=fun _ H'=>Q .cB H',rt:=Q} σ H):bJ P w K mg base dy (k+1) f fd ps sp:=
 F.ok S len fun eT A outer s H vs Q E hr h=>let ⟨t,_,h1,h2,h3⟩:=sX eT A outer s H vs Q E hr h;⟨t,h1,by rw[h2];exact h3⟩
end
theorem Nu{α β:Type}{f:α->β}{xs:List α}{i:Int}(d:α)(h0:0<=i)(h1:i<xs.length):tw (xs.map f) i=some (f (xs.getD i.toNat d)):=by
 have e:i=((i.toNat:Nat):Int):=by lia
 have h2:i.toNat<xs.length:=by lia
 conv=>lhs;rw[e]
 refine au ?_;rw[zal,zap,zac h2];rfl
theorem F0{sp:Sp}{zF:List V}{E:XK}{t:TA}{σ:St}{H:Hp}{Q:VK}:(B4 sp zF E t σ H Q)=(t σ H fun vs H1=>sp (vs++zF) H1 Q E):=rfl
theorem F1{ta:TE}{tr:TA}{σ:St}{H:Hp}{Q:List V->Hp->Prop}:(xg ta tr σ H Q)=(ta σ H fun x H1=>tr σ H1 fun xs H2=>Q (x::xs) H2):=rfl
theorem Kc{σ:St}{H:Hp}{Q:List V->Hp->Prop}:(Nc σ H Q)=(Q [] H):=rfl
theorem Kd{t:TA}{σ:St}{H:Hp}{Q:VK}:(TY t σ H Q)=(t σ H fun xs H1=>xs.length<=zds/\∀p,H1 p=none->Q (.ref p) (upd H1 p (.tup xs))):=rfl
theorem Ke{t:TA}{σ:St}{H:Hp}{Q:VK}:(TZ t σ H Q)=(t σ H fun xs H1=>xs.length<=zds/\∀p,H1 p=none->Q (.ref p) (upd H1 p (.lst xs))):=rfl
theorem Nv{n:Nat}(h:n<=1000):n<=zds:=zcl (Hl h)
theorem Cc{K:zaa}{p:zdk}{i:Int}{H:Hp}{Q:VK}{xs:List V}{v:V}(hv:tw xs i=some v)(q:Q v (upd H p (.lst xs))):AG K (.ref p) (.int i) (upd H p (.lst xs)) Q:=⟨p,xs,i,v,rfl,rfl,.of ae,hv,q⟩
theorem Rep.new{K:zaa}{H:Hp}{p:zdk}{vs:List V}{ds:List Dp}(h:H p=none)(r:aN K H ds vs):Rep K (upd H p (.tup vs)) (.tup ds) (.ref p):=Rep.bg.mpr ⟨p,vs,rfl,.of ae,r.mono (aq.new h _)⟩
theorem Nw{i j:Int}:Ha (.int i) (.int j)=true:=rfl
theorem Nx{i j:Str}:Ha (.str i) (.str j)=true:=rfl
theorem Ny{n:Nat}(h:n<=1000):(n<=zds)=True:=eq_true (Nv h)
theorem Kf{i j:Int}:(TQ i j)=(0<j/\j<1073741824):=rfl
theorem Kg{CX:BM}{P:zdw}{w:zdm}{K:zaa}{mg:Str->Option zdl}{base:Heap}{N:List Str}{qual:Str}{scope:Scope}{f:zdk}{cd:zdl}{A:zdv}{outer:List Env}{s:zdu}{H:Hp}{E:XK}:(mX CX P w K mg base N qual scope f cd A outer s H E).K=K:=rfl
theorem F2{X:Cx}{scope:Scope}{own:List Str}{ix:List Nat}{C:zdk}{s₀:zdu}{H₀:Hp}{ex:List zdk}:(kA X scope own ix C s₀ H₀ ex).K=X.K:=rfl
theorem mulR{z b:Int}(h1 : -18446744073709551616<b)(h2:b<18446744073709551616):Js z b:=.inr ⟨h1,h2⟩
theorem mulL{z b:Int}(h1 : -18446744073709551616<z)(h2:z<18446744073709551616):Js z b:=.inl ⟨h1,h2⟩
theorem lS{a b:Expr}{op:Operator}{pos:Pos}:qe (.BinOp a op b pos):=fun _ _=>rfl
theorem kZ{x:Str}{pos:Pos}:qe (.Name x pos):=fun _ _=>rfl
theorem ao{c:Const}{k:Nat}{pos:Pos}:qe (.Constant c k pos):=fun _ _=>rfl
theorem Kh{a b:Expr}{pos:Pos}:qe (.Subscript a b pos):=fun _ _=>rfl
theorem vO{a:Expr}{op:UnaryOp}{pos:Pos}:qe (.UnaryOp op a pos):=fun _ _=>rfl
theorem ja{a b:Expr}{op:Operator}{pos:Pos}{es:List Expr}{env:Env}:zdq (.BinOp a op b pos::es) env=(false,eval (.BinOp a op b pos) env)::zdq es env:=rfl
theorem jW{x:Str}{pos:Pos}{es:List Expr}{env:Env}:zdq (.Name x pos::es) env=(false,eval (.Name x pos) env)::zdq es env:=rfl
theorem aP{c:Const}{k:Nat}{pos:Pos}{es:List Expr}{env:Env}:zdq (.Constant c k pos::es) env=(false,eval (.Constant c k pos) env)::zdq es env:=rfl
theorem aX{a b:Expr}{pos:Pos}{es:List Expr}{env:Env}:zdq (.Subscript a b pos::es) env=(false,eval (.Subscript a b pos) env)::zdq es env:=rfl
theorem bG{f:Expr}{as:List Expr}{ks:List Keyword}{pos:Pos}{es:List Expr}{env:Env}:zdq (.Call f as ks pos::es) env=(false,eval (.Call f as ks pos) env)::zdq es env:=rfl
theorem F3{a:Expr}{x:Str}{pos:Pos}{es:List Expr}{env:Env}:zdq (.Attribute a x pos::es) env=(false,eval (.Attribute a x pos) env)::zdq es env:=rfl
theorem jK{as:List Expr}{pos:Pos}{es:List Expr}{env:Env}:zdq (.List as pos::es) env=(false,eval (.List as pos) env)::zdq es env:=rfl
theorem bW{as:List Expr}{k}{pos:Pos}{es:List Expr}{env:Env}:zdq (.Tuple as k pos::es) env=(false,eval (.Tuple as k pos) env)::zdq es env:=rfl
theorem k0{a:Expr}{gs:List Comprehension}{sc:Scope}{pos:Pos}{es:List Expr}{env:Env}:zdq (.ListComp a gs sc pos::es) env=(false,eval (.ListComp a gs sc pos) env)::zdq es env:=rfl
noncomputable def Ki:Expr->Option V
 |.Constant (.int i) _ _=>some (.int i)
 |.Constant (.str x) _ _=>some (.str x)
 |.Constant (.bool b) _ _=>some (.bl b)
 |.Constant .none _ _=>some .cB
 |_=>none
def Kj (vs:List V):TA:=fun _ H Q=>Q vs H
theorem cO{X:Cx}:∀ {es:List Expr} {vs:List V},es.map Ki=vs.map some->PA X es (Kj vs)
 |[],[],_=>aa
 |[],_::_,h=>by cases h
 |_::_,[],h=>by cases h
 |e::es,v::vs,h=>by
  rw[zam,zam] at h
  injection h with h1 h2
  have ih:=cO (X:=X) h2;have one:∀ {e:Expr} {v:V},PE X e (tC v)->(zdq (e::es) X.env=(false,eval e X.env)::zdq es X.env)->PA X (e::es) (Kj (v::vs)):=fun he hs pos pins s σ H Q I q=>ag he ih hs pos pins s σ H Q I q;unfold Ki at h1;split at h1
  ·cases h1;exact one aj aP
  ·cases h1;exact one aU aP
  ·cases h1;exact one sT aP
  ·cases h1;exact one eV aP
  ·cases h1
theorem F4{vs:List V}{σ:St}{H:Hp}{Q:List V->Hp->Prop}:(Kj vs σ H Q)=(Q vs H):=rfl
theorem F5{td ty:TE}{σ:St}{H:Hp}{Q:VK}:(Pa td ty σ H Q)=(td σ H fun x H1=>ty σ H1 fun y H2=>∃a v,x=.ref a/\qD H2 a y (some v)/\Q v H2):=rfl
theorem Cd{σ:St}{H:Hp}{Q:VK}:(JP σ H Q)=(∀p,H p=none->Q (.ref p) (upd H p (.dK []))):=rfl
theorem F6{td ty tv:TE}{D:Ends}{σ:St}{H:Hp}:(Pb td ty tv D σ H)=(tv σ H fun v H1=>td σ H1 fun x H2=>ty σ H2 fun y H3=>∃a H4,x=.ref a/\Q1 H3 a y v H4/\D.nx σ H4):=rfl
theorem Pj{r:List V->Hp->VK->Prop}{t:TA}{σ:St}{H:Hp}{Q:VK}:(XZ r t σ H Q)=(t σ H fun vs H1=>r vs H1 Q):=rfl
theorem Uj{t:TE}{σ:St}{H:Hp}{Q:Bool->Hp->Prop}:(tB t σ H Q)=(t σ H fun x H1=>∃c,x=.bl c/\Q c H1):=rfl
theorem Kk{t:TT}{σ:St}{H:Hp}{Q:Bool->Hp->Prop}:(Tz t σ H Q)=(t σ H fun c H1=>Q (!c) H1):=rfl
theorem qD.s{H:Hp}{a:zdk}{ax:List (Key×V)}{x:Str}{v:V}(e:H a=some (.dK ax))(h:cf ax (Sum.inr x)=some v):qD H a (.str x) (some v):=by
 have:=qD.k (k:=Sum.inr x) e;rw[h] at this;exact this
end L2
namespace PM
abbrev W:=List Nat
inductive Tr where
 |num (n:Int) |box (x:W) |bin (o:W) (l r:Tr)
 deriving DecidableEq
end PM
namespace L2
open PySem PySem.Spec PyProof.Rows
structure Uk(K:zaa)(C:zdk):Prop where
 q:zdc K C [.type "ValueError",.type "Exception",.type "BaseException",.type "object"] "ValueError.__new__"=true
section
variable{X:Cx}{pins:List (zdk×Obj)}{σ:St}{H:Hp}{s:zdu}{x:zdk}
theorem Inv.told{o:HO}(I:Inv X pins σ H s)(n:H x=none)(h0:X.s₀.heap.objs.size<=x)(hL:x≠X.env.locals)(hc:∀y c,X.env.cells.lookup y=some c->c≠x)(hp:∀p∈X.pn++pins,p.1≠x)(ok:dg X.prog X.w (upd H x o) s.heap x o):Inv X pins σ (upd H x o) s:=by
 have nx:∀b u,X.s₀.heap.get? b=some u->b≠x:=fun b u e=>zaD (zaC (Heap.lt_size e) h0);refine⟨I.ok,I.os,I.bare,⟨I.base.keep,I.base.slot,fun b u e n' hx=>?_,I.base.there,fun b xs e=>?_,fun b ob u e=>?_,fun b ps e=>?_⟩,I.loc,I.cell,?_,fun y c e=>?_,fun p SO=>?_,fun b u e=>?_,I.len⟩
 ·rw[aw (nx b u e)];exact I.base.free b u e n' hx
 ·have:=I.base.w5 b xs e;rw[aw (ai this n)];exact this
 ·have:=I.base.v9 b ob u e;rw[aw (ai this n)];exact this
 ·obtain⟨m,e1⟩:=I.base.wb b ps e;exact⟨m,by rw[aw (ai e1 n)];exact e1⟩
 ·rw[aw (Ne.symm hL)];exact I.free
 ·rw[aw (hc y c e)];exact I.ox y c e
 ·obtain⟨a,b,c⟩:=I.pin p SO;exact⟨a,by rw[aw (hp p SO)];exact b,c⟩
 ·by_cases hb:b=x
  ·subst hb;rw[ae] at e;cases e;exact ok
  ·rw[aw hb] at e;exact(I.cM b u e).jI (fun _ _ _ q=>q) (fun c q=>by rw[aw (ai q n)];exact q) fun c xs q=>by rw[aw (ai q n)];exact q
end
noncomputable def Its (z:Str):It:=⟨fun i _=>i<z.cps.size,fun i H x H'=>H'=H/\∃c,z.cps[i]?=some c/\x=.str ⟨#[c]⟩,fun i _=>z.cps.size<=i⟩
section
variable{X:Cx}{tg:Expr}
def Ul (tl:TE):TI:=fun σ H R=>tl σ H fun x H1=>∃z,x=.str z/\R (Its z) H1
end
abbrev W:=PM.W
noncomputable def S (w:W):Str:=⟨w.toArray⟩
theorem mq{a b:W}:S a=S b↔a=b:=⟨fun h=>by have:=congrArg (fun z:Str=>z.cps.toList) h;simpa[S] using this,fun h=>by rw[h]⟩
noncomputable def oJ:PM.Tr->Dp
 |.num n=>.tup [.str "number",.int n]
 |.box x=>.tup [.str "box",.str (S x)]
 |.bin o l r=>.tup [.str (S o),oJ l,oJ r]
def aZ (p:zdk) (H H':Hp):Prop:=∀b o,b≠p->H b=some o->H' b=some o
theorem aZ.refl(p:zdk)(H:Hp):aZ p H H:=fun _ _ _ h=>h
theorem aZ.trans{p:zdk}{H H1 H2:Hp}(a:aZ p H H1)(b:aZ p H1 H2):aZ p H H2:=fun c o n h=>b c o n (a c o n h)
theorem aZ.of{p:zdk}{H H':Hp}(s:aq H H'):aZ p H H':=fun b o _ h=>s b o h
theorem aZ.put{p:zdk}{H H1:Hp}(a:aZ p H H1)(o:HO):aZ p H (upd H1 p o):=fun b u n h=>by rw[aw n];exact a b u n h
theorem aZ.new{p q:zdk}{H H1:Hp}(a:aZ p H H1)(h:H1 q=none)(o:HO):aZ p H (upd H1 q o):=fun b u n e=>by rw[aw (ai (a b u n e) h)];exact a b u n e
theorem aZ.same{p:zdk}{H H':Hp}(a:aZ p H H')(h:H p=none):aq H H':=fun b o e=>a b o (ai e h) e
mutual
noncomputable def Dp.py:Dp->PyData
 |.cB=>.none
 |.bl b=>.bool b
 |.int i=>.int i
 |.str x=>.str x
 |.tup l=>.tuple (Dp.uR l)
 |.lst l=>.list (Dp.uR l)
noncomputable def Dp.uR:List Dp->List PyData
 |[]=>[]
 |d::r=>d.py::Dp.uR r
end
section
variable{X:Cx}{pins:List (zdk×Obj)}{σ:St}{H:Hp}{s:zdu}
mutual
theorem oX(I:Inv X pins σ H s):∀ {d:Dp} {v:V} {u:zdl},Rep X.K H d v->RelV v u->∃as,Reads s.heap u d.py as
 |.cB,v,u,h,r=>by rw[Rep.qg] at h;subst h;cases (show u=Value.none from r);exact⟨_,.none⟩
 |.bl b,v,u,h,r=>by rw[Rep.lP] at h;subst h;cases (show u=Value.bool b from r);exact⟨_,.bool b⟩
 |.int i,v,u,h,r=>by rw[Rep.bt] at h;subst h;obtain⟨t,rfl⟩:=(show ∃t,u=Value.int i t from r);exact⟨_,.int i t⟩
 |.str x,v,u,h,r=>by rw[Rep.bA] at h;subst h;obtain⟨t,rfl⟩:=(show ∃t,u=Value.str x t from r);exact⟨_,.str x t⟩
 |.tup l,v,u,h,r=>by
  rw[Rep.bg] at h;obtain⟨p,xs,rfl,q,w⟩:=h;cases (show u=Value.ref p from r);obtain⟨bC,v1,t1,_⟩:=I.tuple q;obtain⟨as,ra⟩:=uT I w v1;obtain⟨o,h1,h2,n,h3⟩:=t1;unfold Dp.py;exact⟨as,.tuple h1 h2 h3 (by simpa using ra)⟩
 |.lst l,v,u,h,r=>by
  rw[Rep.bL] at h;obtain⟨p,xs,rfl,q,w⟩:=h;cases (show u=Value.ref p from r);obtain⟨bC,v1,t1,_⟩:=I.list q;obtain⟨as,ra⟩:=uT I w v1;obtain⟨o,h1,h2,n,h3⟩:=t1.isList;unfold Dp.py;exact⟨_,.list h1 h2 h3 (by simpa using ra)⟩
theorem uT(I:Inv X pins σ H s):∀ {ds:List Dp} {vs:List V} {us:List zdl},aN X.K H ds vs->Vals vs us->∃as,ReadsAll s.heap us (Dp.uR ds) as
 |[],_,_,h,r=>by rw[aN.br] at h;subst h;cases r;unfold Dp.uR;exact⟨_,.nil⟩
 |d::ds,_,_,h,r=>by
  rw[aN.aI] at h;obtain⟨v,vs,rfl,x,y⟩:=h;cases r with
  |cons r1 r2=>
   obtain⟨a,ra⟩:=oX I x r1;obtain⟨b,rb⟩:=uT I y r2;unfold Dp.uR;exact⟨_,.cons ra rb⟩
end
end
section
variable{X:Cx}
def Yf (K:zaa) (neg:Bool):R2:=fun x y H Q=>∃d e,Rep K H d x/\Rep K H e y/\SeqAt.shaped d.py=true/\SeqAt.shaped e.py=true/\Q (.bl (if neg then !PyData.eqv d.py e.py else PyData.eqv d.py e.py)) H
theorem Kl(hu:X.A.units+64<cLine):rK X (compareOp .NotEq) (Yf X.K true):=by
 intro pins s σ H x y v u Q I rx ry h;obtain⟨d,e,h1,h2,s1,s2,q⟩:=h;obtain⟨as,ra⟩:=oX I h1 rx;obtain⟨bs,rb⟩:=oX I h2 ry;exact ne_dataH ra rb s1 s2 hu ⟨.bl (!PyData.eqv d.py e.py),H,I,rfl,q⟩
end
mutual
theorem eqv_refl:∀d:Dp,PyData.eqv d.py d.py=true
 |.cB=>rfl
 |.bl b=>by simp[Dp.py,PyData.eqv]
 |.int i=>by simp[Dp.py,PyData.eqv]
 |.str x=>by simp[Dp.py,PyData.eqv]
 |.tup l=>by simp only[Dp.py,PyData.eqv];exact uU l
 |.lst l=>by simp only[Dp.py,PyData.eqv];exact uU l
theorem uU:∀l:List Dp,PyData.eqvAll (Dp.uR l) (Dp.uR l)=true
 |[]=>rfl
 |d::r=>by simp only[Dp.uR,PyData.eqvAll,eqv_refl d,uU r,zdb]
end
theorem av{t u:TS}{D:Ends}{σ:St}{H:Hp}(h:∀U:St->Hp->Prop,(∀σ' H',U σ' H'↔u D σ' H')->t {D with nx:=U} σ H):M7 t u D σ H:=h (u D) fun _ _=>Iff.rfl
theorem Nz{A:zdv}{k:Nat}(hr:ib k A):A.units+64<cLine:=hr.units
end L2
namespace L2
open PySem
theorem oY{ta:TA}{g:TG}{tb:TS}{D:Ends}{σ:St}{H:Hp} (h:∀U:Int->Hp->Prop,(∀j H1,(∃W:Nat->Nat->St->Hp->Prop,(∃m,W 0 m σ H1)/\∀i m σ H,W i m σ H->
 ((IZ 0 j.toNat).stop i H/\D.nx σ H)\/((IZ 0 j.toNat).go i H/\∃N:St->Hp->Prop,(∀σ' H',N σ' H'->∃m',m'<m/\W (i+1) m' σ' H')/\∀x H',(IZ 0 j.toNat).zz i H x H'->g x σ H' fun σ2 H2=>tb {D with nx:=N,ct:=N,bk:=D.nx} σ2 H2))->U j H1)->
 ta σ H fun vs H1=>∃j:Int,vs=[.int j]/\-(2 ^ 62)<=j/\j<2 ^ 62/\U j H1):G8 (FE ta) g tb D σ H:=h _ fun _ _ x=>x
theorem Um(ns:List Int)(h:ns.length<=63):jt (ns.map V.int) none (some 63)=ns.map V.int:=by
 unfold jt;rw[HT.oR,show (63:Int)=((63:Nat):Int) from rfl,HT.qd,zad,zc0,Nat.sub_zero];exact zbw (by rw[zad];lia)
open PyProof.Rows PySem.Spec
section
variable{X:Cx}{pins:List (zdk×Obj)}{σ:St}{H:Hp}{s:zdu}{h':Heap}
theorem Inv.qh{t':Nat}{fp:List zdk}(I:Inv X pins σ H s)(k:∀b o,b ∉ fp->s.heap.get? b=some o->h'.get? b=some o)(hf:∀b∈fp,sU X pins H b):Inv X pins σ H {s with heap:=h',toks:=t' }:=by
 have Tt:∀b u,H b=some u->b ∉ fp:=fun b u e z=>by rw[(hf b z).1] at e;cases e
 refine I.step (g':=s.gens) (d':=s.drawn) (ch:=fp) (fun b hb=>?_) (fun b o _ _ hc e _=>k b o hc e) (fun b o _ _ hc e _=>⟨o.slots,k b o hc e⟩) (fun _ _ _ _ n=>n)
  (fun b o hc e=>⟨o,k b o hc e⟩) (fun _ _ e=>e) (fun _ _ _ e=>e) (fun b ps e=>⟨#[],by rw[e];simp⟩) (fun m hm=>?_) (fun b u e=>?_) I.bare
 ·obtain⟨_,f1,_,f3,f4,f5⟩:=hf b hb;exact⟨f3,f1,f4,f5⟩
 ·obtain⟨o,es,ep,ho,r⟩:=hm;exact⟨o,es,ep,k _ o (fun z=>(hf _ z).2.1 rfl) ho,r⟩
 ·refine(I.cM b u e).jI (fun c v hc q=>k c v ?_ q) (fun _ q=>q) fun _ _ q=>q;rcases hc with z |z
  ·rw[z];exact Tt b u e
  ·exact Tt c _ z
end
def Pk (K:zaa) (a:zdk):It:=
 ⟨fun i H=>∃xs x,i6 K H a xs/\xs[i]?=some x,fun i H x H'=>∃p y,x=.ref p/\H p=none/\H'=upd H p (.tup [.int i,y])/\∀xs,i6 K H a xs->xs[i]?=some y,fun i H=>∃xs,i6 K H a xs/\xs.length<=i⟩
theorem Hq{P:zdw}{w:zdm}{K:zaa}{elts:List Expr}{x1}{pos:Pos}(a e it:zdk)(DA:e≠it) :
 Turn P w K (.Tuple elts x1 pos) (Pk K a) [e,it] e (fun i h=>(∃old,IsEnum h e it i old)/\h.IsListIter it a i) where
 mem:=by simp
 obj:=fun i h st b hb=>by
  obtain⟨⟨old,he⟩,o,eo,c,d⟩:=st;rcases zag.mp hb with rfl |hb
  ·exact⟨_,he,fun v z=>by cases (show Data.fields _=Data.cell v from z)⟩
  ·have z:b=it:=by simpa using hb
   subst z;exact⟨o,eo,fun v z=>by rw[d] at z;cases z⟩
 keep:=fun i h h' st k=>⟨st.1.elim fun old he=>⟨old,k e (by simp) _ he⟩,st.2.at fun o x=>k it (by simp) o x⟩
 item:=by
  intro X hP hw hK hc i pins s σ H E I hf st hg;subst hP hw hK;obtain⟨xs,x,hq,hx⟩:=hg;obtain⟨⟨old,he⟩,hit⟩:=st;obtain⟨bC,rv,p,hz⟩:=I.list hq;obtain⟨u,hu,ru⟩:=rv.get hx;refine wpAny_pyNext_enum_item he hit p.isList (x:=u) (by simpa using hu) DA fun h' ho Q7 hT hsz hk=>?_;refine⟨_,rfl,?_⟩;refine wpAny_letOwnedTupleGo_enum ho fun h2 SR sb=>?_;have Uo:e<s.heap.objs.size:=Heap.lt_size he;have F7:it<s.heap.objs.size:=by obtain⟨_,x,_⟩:=hit;exact Heap.lt_size x
  have I1:Inv X pins σ H {s with heap:=h2,toks:=s.toks+1}:=I.qh (t':=s.toks+1) (fun b o hb q=>(sb.2 b fun z=>hb (by simp[z])).trans (hk b o (fun z=>hb (by simp[z])) (fun z=>hb (by simp[z])) q)) hf;have fr:H s.heap.objs.size=none:=I.cM.fresh (zaf _);obtain⟨g0,g1,g2,g3,g4,g5⟩:=I.B1 (zaf _) fr;have NA:h2.get? s.heap.objs.size=some {cls:=.type "tuple",data:=.seq #[.int i s.toks,u]}:=(sb.2 _ (zbM Uo)).trans hT;have I2:=I1.told (o:=.tup [.int i,x]) fr I.sz g1 g4 g5 ⟨(show (2:Nat)<=zds by decide),[.int i s.toks,u],.cons ⟨_,rfl⟩ (.cons ru .nil),⟨_,NA,rfl,_,rfl⟩⟩;refine⟨.ref s.heap.objs.size,_,I2,rfl,⟨_,x,rfl,fr,rfl,fun ys hy=>by rw[I.B0 hy hq];exact hx⟩,⟨⟨_,by exact_mod_cast SR⟩,Q7.at fun o q=>(sb.2 it (Ne.symm DA)).trans q⟩,fun b hb=>?_⟩;rw[aw ?_]
  ·exact(hf b hb).1
  ·rcases zag.mp hb with rfl |hb
   ·exact zaD Uo
   ·have z:b=it:=by simpa using hb
    subst z;exact zaD F7
 done:=by
  intro X hP hw hK hc i pins s σ H E I hf st hg;subst hP hw hK;obtain⟨xs,hq,hx⟩:=hg;obtain⟨⟨old,he⟩,hit⟩:=st;obtain⟨bC,rv,p,hz⟩:=I.list hq;have hl:=rv.length;exact wpAny_pyNext_enum_end (I.ok.hd hc) he hit p.isList (by simp;lia) fun h' eb=>⟨rfl,I.qh (t':=s.toks) (fun b o hb q=>eb b o (fun z=>hb (by simp[z])) q) hf⟩
 self:=fun _ _ _ _ _ st h=>st.1.elim fun _ he=>wpAny_pyIter_enum he h
def Pl (K:zaa) (ta:TA):TI:=fun σ H R=>ta σ H fun vs H1=>∃a,vs=[.ref a]/\(∃xs,i6 K H1 a xs)/\R (Pk K a) H1
theorem F8{X:Cx}{elts:List Expr}{x1}{tp:Pos}{a:Expr}{ta:TA}{p pos:Pos}(hg:Gl X "enumerate")(hm:X.mg "enumerate"=none)(ha:PA X [a] ta)(hs:zdq [a] X.env=[(false,eval a X.env)]:=by rfl) :
 PI X (.Tuple elts x1 tp) (.Call (.Name "enumerate" p) [a] [] pos) (Pl X.K ta):=by
 intro pins s σ H R I h;refine Call_ (rF I hg hm PyProof.Rows.Boot.«enumerate» (zbo (fc (ha pos pins s σ H _ I h) fun us s1 zqz=>?_) hs rfl));obtain⟨vs,H1,I1,r1,q1⟩:=zqz;obtain⟨l,e,⟨xs,hq⟩,q⟩:=q1;subst e;cases r1 with
 |cons r rr=>
  cases rr;cases (show _=Value.ref l from r);obtain⟨bC,rv,p,hz⟩:=I1.list hq;refine call_enumerate_list p.isList fun h' he hit hsz hk=>?_;refine wpAny_pyIter_enum he ?_;have fr:∀b,s1.heap.objs.size<=b->H1 b=none:=fun b hb=>I1.cM.fresh hb;refine⟨s1.heap.objs.size+1,[s1.heap.objs.size+1,s1.heap.objs.size],_,_,H1,rfl,I1.kept (t':=s1.toks) hk,Hq l _ _ (Nat.succ_ne_self _),⟨⟨_,he⟩,hit⟩,fun b hb=>?_,q⟩;have Ww:s1.heap.objs.size<=b:=by
   rcases zag.mp hb with rfl |hb
   ·exact Nat.le_succ _
   ·have z:b=s1.heap.objs.size:=by simpa using hb
    rw[z];exact zaf _
  exact I1.B1 Ww (fr b Ww)
theorem Ce{K:zaa}{a:zdk}{xs:List V}{g:TG}{tb:TS}{D:Ends}{σ:St}{H:Hp}(Pv:Nat->St->Hp->Prop)(h0:Pv 0 σ H)(hl:∀i σ H,i<=xs.length->Pv i σ H->i6 K H a xs)
 (hs:∀i x σ H p,xs[i]?=some x->Pv i σ H->H p=none->g (.ref p) σ (upd H p (.tup [.int i,x])) fun σ2 H2=>tb {D with nx:=Pv (i+1),ct:=Pv (i+1),bk:=D.nx} σ2 H2) (hd:∀σ H,Pv xs.length σ H->D.nx σ H) :
 ∃W:Nat->Nat->St->Hp->Prop,(∃m,W 0 m σ H)/\∀i m σ H,W i m σ H->
  ((Pk K a).stop i H/\D.nx σ H)\/((Pk K a).go i H/\∃N:St->Hp->Prop,(∀σ' H',N σ' H'->∃m',m'<m/\W (i+1) m' σ' H')/\∀x H',(Pk K a).zz i H x H'->g x σ H' fun σ2 H2=>tb {D with nx:=N,ct:=N,bk:=D.nx} σ2 H2):=by
 refine⟨fun i m σ H=>m=xs.length-i/\i<=xs.length/\Pv i σ H,⟨xs.length,by simp,zaZ _,h0⟩,?_⟩
 rintro i m σ H ⟨rfl,hi,p⟩
 have q:=hl i σ H hi p;by_cases oy:i<xs.length
 ·refine .inr ⟨⟨xs,xs[i],q,by simp[oy]⟩,Pv (i+1),fun σ' H' p'=>⟨xs.length-(i+1),by lia,rfl,oy,p'⟩,fun x H' y=>?_⟩;obtain⟨pp,v,rfl,hn,rfl,y⟩:=y;exact hs i v σ H pp (y xs q) p hn
 ·have e:i=xs.length:=by lia
  subst e;exact .inl ⟨⟨xs,q,zaf _⟩,hd σ H p⟩
section
variable{prog:zdw}{w:zdm}{A:zdv}{E:zdl->zdu->Prop}{s:zdu}
theorem Cf{it l:zdk}{bC:Array zdl}(DA:l≠it):∀(n i:Nat) (s:zdu) (Q:List zdl->zdu->Prop),s.heap.IsListIter it l i->s.heap.IsList l bC->i+n<=bC.size->
 (∀h',h'.IsListIter it l (i+n)->Heap.SameBut it s.heap h'->Q ((bC.toList.drop i).take n) {s with heap:=h' })->wpAny (model prog w) A (draw (.ref it) n) Q E s
 |0,i,s,Q,a,_,_,q=>by
  show wpAny _ _ (pure []) Q E s;exact zdo (by simpa using q s.heap a (Heap.SameBut.refl ..))
 |n+1,i,s,Q,a,b,le,q=>by
  have lt:i<bC.size:=by lia
  show wpAny _ _ (pyNext (.ref it) >>= _) Q E s;refine zdn (wpAny_pyNext_list_item a b (x:=bC[i]) (by simp[lt]) fun h1 a1 s1=>?_);have b1:h1.IsList l bC:=by
   obtain⟨o,ho,r⟩:=b;exact⟨o,(s1.2 l DA).trans ho,r⟩
  refine zdn (zdp (Cf DA n (i+1) _ _ a1 b1 (by lia) fun h2 a2 s2=>zdo ?_));have e:bC.toList.drop i=bC[i]::bC.toList.drop (i+1):=by simp[zbH,lt]
  have z:=q h2 (by rw[show i+(n+1)=i+1+n by lia];exact a2) (s1.trans s2);rw[e,zdd] at z;exact z
theorem Em{l:zdk}{bC:Array zdl}{ts:List (Bool×(zdl->Sem Unit))}{Q:Unit->zdu->Prop}(hh:A.handled=none)(b:s.heap.IsList l bC)(hn:ts.length=bC.size)(SK:ts.findIdx? (·.1)=none)
 (h:∀h',Heap.ExtBut s.heap.objs.size s.heap h'->wpAny (model prog w) A (assignInOrder (ts.map (·.2)) bC.toList) Q E {s with heap:=h' }):wpAny (model prog w) A (unpack (.ref l) ts) Q E s:=by
 have lt:l≠s.heap.objs.size:=by obtain⟨o,ho,_⟩:=b;exact zaD (Heap.lt_size ho)
 unfold unpack;rw[hn,SK];refine zdn (zdp ?_);unfold unpackItems;refine zdn ?_;unfold notIterableAtAll;refine zdn (wpAny_specialOf b.typeIs slot_list_iter.lookup ?_);refine zdo ?_;simp only[zaz,if_false];refine zdn (zdp (wpAny_pyIter_list b ?_));have jI:∀ {h1 h2:Heap},Heap.ExtBut s.heap.objs.size h1 h2->h1.IsList l bC->h2.IsList l bC:=fun {h1 h2} e x=>by
  obtain⟨o,ho,r⟩:=x;exact⟨o,e l o lt ho,r⟩
 have b0:(s.heap.push {cls:=.type "list_iterator",data:=.fields #[.ref l,.int 0 0]}).IsList l bC:=by
  obtain⟨o,ho,r⟩:=b;exact⟨o,Heap.get?_push_of_some _ ho,r⟩
 refine zdn (zdp (Cf lt bC.size 0 _ _ ⟨_,Heap.get?_push_size _ rfl,rfl,rfl⟩ b0 (by lia) fun h1 a1 s1=>?_));have all:List.take bC.size (List.drop 0 bC.toList)=bC.toList:=by
  rw[zc0];exact zbw (by simp)
 rw[all,zzn (by simp)];have b1:h1.IsList l bC:=jI s1.extBut b0;refine zdn (zdp (wpAny_pyNext_list_end hh a1 b1 (by simp) fun h2 e2=>?_));simp only[Option.isSome_none,zaz,if_false];exact zdo (h h2 fun c o hc e=>e2 c o hc (s1.extBut c o hc (Heap.get?_push_of_some _ e)))
end
def Q8 (K:zaa) (n:Nat) (t:M8):TG:=fun v σ H Q=>∃a xs,v=.ref a/\i6 K H a xs/\xs.length=n/\t xs σ H Q
theorem AN{X:Cx}{es:List Expr}{k}{pos:Pos}{t:M8}{n:Nat}(hc:X.calm=true)(h:TC X es t)
 (hn:(assignEach es X.env).length=n:=by rfl) (SK:(assignEach es X.env).findIdx? (·.1)=none:=by rfl):PG X (.Tuple es k pos) (Q8 X.K n t):=by
 intro pins s σ H v u Q I r hw;obtain⟨a,xs,rfl,hq,hl,hw⟩:=hw;cases r;obtain⟨bC,rv,hp,_⟩:=I.list hq;rw[assign_Tuple];refine zdn (wpAny_standAt (Em (I.ok.hd hc) hp.isList (by simp[hn,<- hl,rv.length]) SK fun h' hx=>?_));have I1:Inv X pins σ H {s with heap:=h' }:=I.kept (t':=s.toks) fun b o e=>hx b o (zaD (Heap.lt_size e)) e;exact h pins _ σ H xs _ Q I1 (by simpa using rv) hw
open PySem.SeqAt
theorem ki{X:Cx}(hu:X.A.units+1<cLine):rK X (compareOp .NotEq) (fun x y H Q=>∃a b xs,x=.ref a/\y=.ref b/\i6 X.K H a xs/\i6 X.K H b []/\Q (.bl (!xs.isEmpty)) H):=by
 intro pins s σ H x y v u Q I rx ry h;obtain⟨a,b,xs,rfl,rfl,h1,h2,q⟩:=h;cases (show v=Value.ref a from rx);cases (show u=Value.ref b from ry);obtain⟨bC,v1,p1,_⟩:=I.list h1;obtain⟨its',v2,p2,_⟩:=I.list h2;cases v2;cases xs with
 |nil=>
  cases v1;exact(RcNeAt.lists (e:=fun _=>true) p1.isList p2.isList rfl (by lia) (fun j h1=>zzb h1 (by simp))) _ _ _ _ ⟨.bl false,H,I,rfl,q⟩
 |cons z zs=>
  cases v1;exact(RcNeAt.lists_lengths p1.isList p2.isList (by simp) (by lia)) _ _ _ _ ⟨.bl true,H,I,rfl,q⟩
noncomputable def cm (val:W->Int):PM.Tr->Int
 |.num n=>n
 |.box x=>val x
 |.bin o l r=>if o=[43] then cm val l+cm val r else if o=[45] then cm val l-cm val r else cm val l*cm val r
theorem fI{K:zaa}{tl:TE}{g:TG}{tb:TS}{D:Ends}{σ:St}{H:Hp} (h:∀U:zdk->Hp->Prop,(∀a H1,(∃W:Nat->Nat->St->Hp->Prop,(∃m,W 0 m σ H1)/\∀i m σ H,W i m σ H->
 ((IY K a).stop i H/\D.nx σ H)\/((IY K a).go i H/\∃N:St->Hp->Prop,(∀σ' H',N σ' H'->∃m',m'<m/\W (i+1) m' σ' H')/\∀x H',(IY K a).zz i H x H'->g x σ H' fun σ2 H2=>tb {D with nx:=N,ct:=N,bk:=D.nx} σ2 H2))->U a H1)->
 tl σ H fun x H1=>∃a,x=.ref a/\(∃xs,i6 K H1 a xs)/\U a H1):G8 (FD K tl) g tb D σ H:=h _ fun _ _ x=>x
theorem F9{a:Option V}{r:St}{H:Hp}{Q:VK}:(gk 10 (a::r) H Q)=(gk 9 r H Q):=rfl
theorem Ga{a:Option V}{r:St}{H:Hp}{Q:VK}:(gk 11 (a::r) H Q)=(gk 10 r H Q):=rfl
theorem Gb{a:Option V}{r:St}{H:Hp}{Q:VK}:(gk 12 (a::r) H Q)=(gk 11 r H Q):=rfl
end L2
namespace PG
open PM (W Tr)
structure gm where
 name:W
 size:Int
 first:Int
inductive bI where
 |ask (k:Int) (b:W)
 |put (k:Int) (b:W) (e:Tr)
 |say (k:Int) (e:Tr)
 |cu (k:Int) (sg:W) (l r:Tr)
 |stop (k:Int)
 |ifs (k:Int) (sg:W) (l r:Tr) (a b:List bI)
 |fh (k:Int) (sg:W) (l r:Tr) (a:List bI)
noncomputable def bI.row:bI->Int
 |.ask k _=>k |.put k _ _=>k |.say k _=>k |.cu k _ _ _=>k |.stop k=>k |.ifs k _ _ _ _ _=>k |.fh k _ _ _ _=>k
inductive Wd where
 |ask |put |say |cu |stop |ifs |fh |oN |fin
 deriving DecidableEq
noncomputable def bI.wd:bI->Wd
 |.ask _ _=>.ask |.put _ _ _=>.put |.say _ _=>.say |.cu _ _ _ _=>.cu |.stop _=>.stop |.ifs _ _ _ _ _ _=>.ifs |.fh _ _ _ _ _=>.fh
noncomputable def Cg:Nat->Int->Int
 |0,c=>c
 |n+1,c=>Cg n (c/1000003)
def next (sc:List Int) (p:Nat):Int:=
 let many:=max 1 sc.length
 let cell:=if sc=[] then 0 else sc.getD (p%many) 0
 if cell ≥ 10 ^ 18 then Cg (min 60 (p/many)) cell%1000003 else
  let a:=(cell%2147483629+51437*((p:Int)+1)*((p:Int)+3)+1409)%2147483629
  let b:=a*a%2147483587
  let c:=(b*69621+401*(p:Int)+7)%2147483579
  c*c%2147483563/16
noncomputable def pick {α:Type} (d:α) (l:List α) (n:Int):α:=l.getD n.toNat d
noncomputable def cC (sc:List Int) (bs:List gm):Nat->Nat->Tr×Nat
 |0,p=>
  let kind:=next sc p%7
  if bs≠[]/\kind<5 then (.box (pick ⟨[],0,0⟩ bs (next sc (p+1)%bs.length)).name,p+2) else (.num (next sc (p+1)%pick 1 [3,12,1000] (next sc (p+2)%3)),p+3)
 |d+1,p=>
  let kind:=next sc p%7
  if kind<3 then
   let one:=cC sc bs d (p+1)
   let two:=cC sc bs d one.2
   (.bin (pick [] [[43],[45],[42]] kind) one.1 two.1,two.2)
  else if bs≠[]/\kind<5 then (.box (pick ⟨[],0,0⟩ bs (next sc (p+1)%bs.length)).name,p+2) else (.num (next sc (p+1)%pick 1 [3,12,1000] (next sc (p+2)%3)),p+3)
noncomputable def dC:List W:=[[99],[98,98],[97,97,97],[98,111,120,101,115]]
noncomputable def bH (sc:List Int) (lT:Int):Nat->Nat->Nat->List gm×Nat
 |0,_,p=>([],p)
 |n+1,k,p=>
  let size:=2+next sc p%3
  let r:=bH sc lT n (k+1) (p+2)
  (⟨pick [] dC (((k:Int)-lT)%4),size,next sc (p+1)%size⟩::r.1,r.2)
noncomputable def BO:List W:=[[60],[61]]
def bR (sc:List Int) (bs:List gm) (k:Int) (p:Nat):bI×Nat:=
 let kind:=next sc p%10
 if bs≠[]/\kind<3 then (.ask k (pick ⟨[],0,0⟩ bs (next sc (p+1)%bs.length)).name,p+2)
 else if bs≠[]/\kind<6 then
  let e:=cC sc bs 2 (p+2)
  (.put k (pick ⟨[],0,0⟩ bs (next sc (p+1)%bs.length)).name e.1,e.2)
 else if kind=6 then
  let l:=cC sc bs 1 (p+2)
  let r:=cC sc bs 1 l.2
  (.cu k (pick [] BO (next sc (p+1)%2)) l.1 r.1,r.2)
 else if kind=7 then
  if next sc (p+1)%3=0 then (.stop k,p+2) else
   let e:=cC sc bs 2 (p+2)
   (.say k e.1,e.2)
 else
  let e:=cC sc bs 2 (p+1)
  (.say k e.1,e.2)
structure Frame where
 kind:Nat
 body:List bI
 k:Int:=0
 sg:W:=[]
 l:Tr:=.num 0
 r:Tr:=.num 0
 first:List bI:=[]
noncomputable def Frame.told (f:Frame):bI:=if f.kind=1 then .ifs f.k f.sg f.l f.r f.body [] else if f.kind=2 then .ifs f.k f.sg f.l f.r f.first f.body else .fh f.k f.sg f.l f.r f.body
def close:List Frame->List Frame
 |f::g::r=>{g with body:=g.body++[f.told]}::r
 |fs=>fs
abbrev Row:=Int×Wd
noncomputable def number (n:Nat) (rows:List Row) (mode:Int):Int:=
 if mode=2 then n+1+20*rows.length else if mode=3 then n+1+(rows.filter fun r=>r.2≠.oN/\r.2≠.fin).length else n+1+rows.length
structure Walk where
 p:Nat
 aY:List Frame
 rows:List Row
def turn (sc:List Int) (bs:List gm) (mode:Int) (w:Walk):Walk:=
 let k:=number bs.length w.rows mode
 let way:=next sc w.p%12
 if way<2/\w.aY.length>1 then ⟨w.p+1,close w.aY,w.rows++[(k,.fin)]⟩
 else match w.aY with
 |[]=>w
 |f::r=>
  if way=2/\f.kind=1 then ⟨w.p+1,{f with kind:=2,body:=[],first:=f.body}::r,w.rows++[(k,.oN)]⟩
  else if way<6/\w.aY.length<4 then
   let l:=cC sc bs 1 (w.p+2)
   let e:=cC sc bs 1 l.2
   let kd:=pick 1 [1,1,3] (way%3)
   ⟨e.2,{kind:=kd,body:=[],k:=k,sg:=pick [] BO (next sc (w.p+1)%2),l:=l.1,r:=e.1}::w.aY,w.rows++[(k,if kd=3 then .fh else .ifs)]⟩
  else
   let s:=bR sc bs k (w.p+1)
   ⟨s.2,{f with body:=f.body++[s.1]}::r,w.rows++[(k,s.1.wd)]⟩
noncomputable def turns (sc:List Int) (bs:List gm) (mode:Int):Nat->Walk->Walk
 |0,w=>w
 |n+1,w=>turns sc bs mode n (turn sc bs mode w)
noncomputable def ends (n:Nat) (mode:Int):Nat->Walk->Walk
 |0,w=>w
 |m+1,w=>if w.aY.length>1 then ends n mode m ⟨w.p,close w.aY,w.rows++[(number n w.rows mode,.fin)]⟩ else w
structure Prog where
 ay:List gm
 body:List bI
def cJ (sc:List Int) (many:Nat) (p:Nat):Prog×List Row:=
 let bs:=bH sc (next sc p%4) (next sc (p+1)%4).toNat 0 (p+2)
 let w:=ends bs.1.length (next sc bs.2%4) 4 (turns sc bs.1 (next sc bs.2%4) many ⟨bs.2+1,[{kind:=0,body:=[]}],[]⟩)
 (⟨bs.1,(w.aY.head?.map (·.body)).getD []⟩,w.rows)
end PG
namespace PG
open PM (W Tr)
mutual
noncomputable def dU:bI->List Row
 |.ifs k _ _ _ a b=>(k,.ifs)::(bV a++bV b)
 |.fh k _ _ _ a=>(k,.fh)::bV a
 |.ask k _=>[(k,.ask)]
 |.put k _ _=>[(k,.put)]
 |.say k _=>[(k,.say)]
 |.cu k _ _ _=>[(k,.cu)]
 |.stop k=>[(k,.stop)]
noncomputable def bV:List bI->List Row
 |[]=>[]
 |s::r=>dU s++bV r
end
theorem uV:∀a b:List bI,bV (a++b)=bV a++bV b
 |[],b=>by simp[bV]
 |s::r,b=>by
  show bV (s::(r++b))=_;rw[bV,bV,uV r b,za1]
def Frame.flat (f:Frame):List Row:=(if f.kind=0 then [] else [(f.k,if f.kind=3 then Wd.fh else .ifs)])++(if f.kind=2 then bV f.first else [])++bV f.body
noncomputable def c6:List Frame->List Row
 |[]=>[]
 |f::r=>c6 r++f.flat
noncomputable def plainRow (r:Row):Bool:=decide (r.2≠.oN/\r.2≠.fin)
def oZ:List Frame->Prop
 |[]=>False
 |[f]=>f.kind=0
 |f::g::r=>(f.kind=1\/f.kind=2\/f.kind=3)/\oZ (g::r)
theorem Hr{f:Frame}(h:f.kind=1\/f.kind=2\/f.kind=3):dU f.told=f.flat:=by
 rcases h with h |h |h<;>simp[Frame.told,Frame.flat,h,dU,bV]
theorem m9:∀ {l:List Frame},oZ l->c6 (close l)=c6 l
 |[],h=>h.elim
 |[f],_=>rfl
 |f::g::r,h=>by
  have e:=Hr h.1;show c6 r++Frame.flat _=c6 r++g.flat++f.flat;simp only[Frame.flat,uV,bV,e,zav];simp[Frame.flat]
theorem o4:∀ {l:List Frame},oZ l->oZ (close l)/\(close l).length=max 1 (l.length-1)
 |[],h=>h.elim
 |[f],h=>⟨h,rfl⟩
 |[f,g],h=>⟨h.2,rfl⟩
 |f::g::x::r,h=>⟨⟨h.2.1,h.2.2⟩,by simp[close]⟩
theorem Km(sc:List Int)(bs:List gm)(k:Int)(p:Nat):dU (bR sc bs k p).1=[(k,(bR sc bs k p).1.wd)]/\(bR sc bs k p).1.wd≠.oN/\(bR sc bs k p).1.wd≠.fin:=by
 unfold bR;simp only;split
 ·simp[dU,bI.wd]
 ·split
  ·simp[dU,bI.wd]
  ·split
   ·simp[dU,bI.wd]
   ·split
    ·split<;>simp[dU,bI.wd]
    ·simp[dU,bI.wd]
structure dE(w:Walk):Prop where
 aY:oZ w.aY
 flat:c6 w.aY=w.rows.filter plainRow
 most:w.aY.length<=4
theorem tJ(sc:List Int)(bs:List gm)(mode:Int){w:Walk}(h:dE w):dE (turn sc bs mode w):=by
 obtain⟨p,aY,rows⟩:=w;obtain⟨h1,h2,h3⟩:=h;simp only at h1 h2 h3;unfold turn;simp only;split
 ·obtain⟨a,b⟩:=o4 h1;refine⟨a,?_,?_⟩
  ·show c6 (close aY)=_;rw[m9 h1,h2,za3];simp[plainRow]
  ·show (close aY).length<=4;lia
 ·cases aY with
  |nil=>exact h1.elim
  |cons f r=>
   simp only;split
   ·rename_i hc;obtain⟨_,hk⟩:=hc;refine⟨?_,?_,h3⟩
    ·cases r with
     |nil=>rw[oZ] at h1;lia
     |cons g r=>exact⟨.inr (.inl rfl),h1.2⟩
    ·show c6 r++_=_;rw[za3,<- h2];simp[c6,Frame.flat,plainRow,bV,hk]
   ·split
    ·rename_i hc;have kk:∀n:Int,pick 1 [1,1,3] n=1\/pick 1 [1,1,3] n=3:=fun n=>by
      unfold pick;rcases n.toNat with _ |_ |_ |m<;>simp
     have Up:=kk (next sc p%12%3);generalize pick 1 [1,1,3] (next sc p%12%3)=kd at Up ⊢;refine⟨⟨?_,h1⟩,?_,?_⟩
     ·simp only;lia
     ·show c6 (f::r)++_=_;rw[za3,h2];rcases Up with rfl |rfl<;>simp[Frame.flat,plainRow,bV]
     ·simp only[zah] at hc ⊢;lia
    ·obtain⟨a,b,c⟩:=Km sc bs (number bs.length rows mode) (p+1);refine⟨?_,?_,h3⟩
     ·cases r with
      |nil=>exact h1
      |cons g r=>exact⟨h1.1,h1.2⟩
     ·show c6 r++_=_;rw[za3,<- h2];simp[c6,Frame.flat,uV,bV,a,plainRow,b,c]
theorem tK(sc:List Int)(bs:List gm)(mode:Int):∀(n:Nat) {w:Walk},dE w->dE (turns sc bs mode n w)
 |0,_,h=>h
 |n+1,_,h=>tK sc bs mode n (tJ sc bs mode h)
theorem AO(n:Nat)(mode:Int):∀(m:Nat) {w:Walk},dE w->w.aY.length<=m+1->dE (ends n mode m w)/\(ends n mode m w).aY.length=1
 |0,w,h,hl=>by
  have:w.aY≠[]:=fun e=>by have:=h.aY;rw[e] at this;exact this
  have:0<w.aY.length:=zbg.mpr this;exact⟨h,by show w.aY.length=1;lia⟩
 |m+1,w,h,hl=>by
  unfold ends;split
  ·obtain⟨a,b⟩:=o4 h.aY;refine AO n mode m ⟨a,?_,?_⟩ ?_
   ·show c6 (close w.aY)=_;rw[m9 h.aY,h.flat,za3];simp[plainRow]
   ·show (close w.aY).length<=4;have:=h.most;lia
   ·show (close w.aY).length<=_;lia
  ·have:w.aY≠[]:=fun e=>by have:=h.aY;rw[e] at this;exact this
   have:0<w.aY.length:=zbg.mpr this;exact⟨h,by lia⟩
theorem zM(sc:List Int)(many p:Nat):bV (cJ sc many p).1.body=(cJ sc many p).2.filter plainRow:=by
 unfold cJ;simp only;generalize bH sc (next sc p%4) (next sc (p+1)%4).toNat 0 (p+2)=bs;have h0:dE ⟨bs.2+1,[{kind:=0,body:=[]}],[]⟩:=⟨rfl,rfl,by simp⟩
 have h1:=tK sc bs.1 (next sc bs.2%4) many h0;obtain⟨h2,h3⟩:=AO bs.1.length (next sc bs.2%4) 4 h1 (by have:=h1.most;lia);generalize ends bs.1.length (next sc bs.2%4) 4 (turns sc bs.1 (next sc bs.2%4) many ⟨bs.2+1,[{kind:=0,body:=[]}],[]⟩)=w at h2 h3;obtain⟨pp,aY,rows⟩:=w;obtain⟨f,rfl⟩:∃f,aY=[f]:=zcd.mp h3;have hk:f.kind=0:=h2.aY;have:=h2.flat;simp[c6,Frame.flat,hk] at this;simpa using this
end PG
namespace PG
open PM (W Tr)
abbrev dM:=Int×Wd×List Int
def bj:List bI->Int->Int
 |[],x=>x
 |s::_,_=>s.row
mutual
noncomputable def dG:bI->Int->List dM
 |.ifs k _ _ _ a b,x=>(k,.ifs,[bj a x,bj b x])::(aQ a x++aQ b x)
 |.fh k _ _ _ a,x=>(k,.fh,[bj a k,x])::aQ a k
 |.ask k _,x=>[(k,.ask,[x])]
 |.put k _ _,x=>[(k,.put,[x])]
 |.say k _,x=>[(k,.say,[x])]
 |.cu k _ _ _,x=>[(k,.cu,[x])]
 |.stop k,_=>[(k,.stop,[0])]
noncomputable def aQ:List bI->Int->List dM
 |[],_=>[]
 |s::r,x=>dG s (bj r x)++aQ r x
end
mutual
theorem Hs:∀(s:bI) (x:Int),(dG s x).map (fun r=>(r.1,r.2.1))=dU s
 |.ifs k _ _ _ a b,x=>by simp[dG,dU,cY a x,cY b x]
 |.fh k _ _ _ a,x=>by simp[dG,dU,cY a k]
 |.ask k _,x=>rfl
 |.put k _ _,x=>rfl
 |.say k _,x=>rfl
 |.cu k _ _ _,x=>rfl
 |.stop k,_=>rfl
theorem cY:∀(b:List bI) (x:Int),(aQ b x).map (fun r=>(r.1,r.2.1))=bV b
 |[],_=>rfl
 |s::r,x=>by simp[aQ,bV,Hs s _,cY r x]
end
inductive Tg where
 |row (k:Int) |side (k:Int) (b:Bool) |cu (k:Int) |fin
 deriving DecidableEq
def SS (r:Row):List Tg:=(if plainRow r then [.row r.1] else [])++(if r.2=.ifs\/r.2=.fh then [.side r.1 true,.side r.1 false] else [])++(if r.2=.cu then [.cu r.1] else [])
def Kn (rows:List Row):List Tg:=rows.flatMap SS++[.fin]
theorem jL(sc:List Int)(bs:List gm):∀(d p:Nat),p<=(cC sc bs d p).2/\(cC sc bs d p).2+1<=p+4*2 ^ d
 |0,p=>by
  unfold cC;simp only;split<;>simp only<;>lia
 |d+1,p=>by
  have e:(2:Nat) ^ (d+1)=2*2 ^ d:=by rw[zcE];lia
  have one:1<=2 ^ d:=zbY;unfold cC;simp only;rw[e];split
  ·obtain⟨a1,a2⟩:=jL sc bs d (p+1);obtain⟨b1,b2⟩:=jL sc bs d (cC sc bs d (p+1)).2;simp only;lia
  ·split<;>simp only<;>lia
theorem En(sc:List Int)(bs:List gm)(k:Int)(p:Nat):p<=(bR sc bs k p).2/\(bR sc bs k p).2<=p+18:=by
 have e1:=fun q=>jL sc bs 1 q;have e2:=fun q=>jL sc bs 2 q;unfold bR;simp only;split
 ·simp only;lia
 ·split
  ·have:=e2 (p+2);simp only;lia
  ·split
   ·have h1:=e1 (p+2);have h2:=e1 (cC sc bs 1 (p+2)).2;simp only;lia
   ·split
    ·split
     ·simp only;lia
     ·have:=e2 (p+2);simp only;lia
    ·have:=e2 (p+1);simp only;lia
theorem Q9(sc:List Int)(bs:List gm)(mode:Int)(w:Walk):w.p<=(turn sc bs mode w).p/\(turn sc bs mode w).p<=w.p+20:=by
 have e1:=fun q=>jL sc bs 1 q;have e2:=fun k q=>En sc bs k q;obtain⟨p,aY,rows⟩:=w;unfold turn;simp only;split
 ·simp only;lia
 ·cases aY with
  |nil=>simp only;lia
  |cons f r=>
   simp only;split
   ·simp only;lia
   ·split
    ·have h1:=e1 (p+2);have h2:=e1 (cC sc bs 1 (p+2)).2;simp only;lia
    ·have:=e2 (number bs.length rows mode) (p+1);simp only;lia
theorem jM(sc:List Int)(p:Nat):0<=next sc p/\next sc p<2 ^ 28:=by
 unfold next;simp only;split
 ·have a:=zaP (Cg (min 60 (p/max 1 sc.length)) (if sc=[] then 0 else sc.getD (p%max 1 sc.length) 0)) (show (1000003:Int)≠0 by decide);have b:=zaM (Cg (min 60 (p/max 1 sc.length)) (if sc=[] then 0 else sc.getD (p%max 1 sc.length) 0)) (show (0:Int)<1000003 by decide);lia
 ·generalize (((((if sc=[] then 0 else sc.getD (p%max 1 sc.length) 0)%2147483629+51437*((p:Int)+1)*((p:Int)+3)+1409)%2147483629)*(((if sc=[] then 0 else sc.getD (p%max 1 sc.length) 0)%2147483629+51437*((p:Int)+1)*((p:Int)+3)+1409)%2147483629)%2147483587*69621+401*(p:Int)+7)%2147483579)=c;have a:=zaP (c*c) (show (2147483563:Int)≠0 by decide);have b:=zaM (c*c) (show (0:Int)<2147483563 by decide);lia
theorem o8(sc:List Int)(bs:List gm)(k:Int)(p:Nat):bR sc bs k p =
 if bs≠[]/\next sc p%10<3 then (.ask k (pick ⟨[],0,0⟩ bs (next sc (p+1)%bs.length)).name,p+2)
 else if bs≠[]/\next sc p%10<6 then (.put k (pick ⟨[],0,0⟩ bs (next sc (p+1)%bs.length)).name (cC sc bs 2 (p+2)).1,(cC sc bs 2 (p+2)).2)
 else if next sc p%10=6 then (.cu k (pick [] BO (next sc (p+1)%2)) (cC sc bs 1 (p+2)).1 (cC sc bs 1 (cC sc bs 1 (p+2)).2).1,(cC sc bs 1 (cC sc bs 1 (p+2)).2).2)
 else if next sc p%10=7 then (if next sc (p+1)%3=0 then (.stop k,p+2) else (.say k (cC sc bs 2 (p+2)).1,(cC sc bs 2 (p+2)).2))
 else (.say k (cC sc bs 2 (p+1)).1,(cC sc bs 2 (p+1)).2):=rfl
end PG
namespace PG
open PM (W Tr)
mutual
def eP:bI->List Row->Prop
 |.ifs k _ _ _ a b,rs=>(∃ra n,cG a ra/\b=[]/\rs=(k,.ifs)::(ra++[(n,.fin)]))\/(∃ra rb n m,cG a ra/\cG b rb/\rs=(k,.ifs)::(ra++(n,.oN)::(rb++[(m,.fin)])))
 |.fh k _ _ _ a,rs=>∃ra n,cG a ra/\rs=(k,.fh)::(ra++[(n,.fin)])
 |.ask k _,rs=>rs=[(k,.ask)]
 |.put k _ _,rs=>rs=[(k,.put)]
 |.say k _,rs=>rs=[(k,.say)]
 |.cu k _ _ _,rs=>rs=[(k,.cu)]
 |.stop k,rs=>rs=[(k,.stop)]
def cG:List bI->List Row->Prop
 |[],rs=>rs=[]
 |s::r,rs=>∃r1 r2,eP s r1/\cG r r2/\rs=r1++r2
end
theorem cG.app:∀ {a b:List bI} {ra rb:List Row},cG a ra->cG b rb->cG (a++b) (ra++rb)
 |[],b,ra,rb,h,h'=>by
  rw[cG] at h;subst h;exact h'
 |s::r,b,ra,rb,h,h'=>by
  rw[cG] at h;obtain⟨r1,r2,h1,h2,rfl⟩:=h;rw[zaJ,cG];exact⟨r1,r2++rb,h1,cG.app h2 h',by rw[za1]⟩
theorem cG.one{s:bI}{rs:List Row}(h:eP s rs):cG [s] rs:=by
 rw[cG];exact⟨rs,[],h,by rw[cG],by simp⟩
theorem cG.nil:cG [] []:=by rw[cG]
def mv (f:Frame) (rs:List Row):Prop:=
 (f.kind=0/\cG f.body rs)\/(f.kind=1/\∃rb,cG f.body rb/\rs=(f.k,.ifs)::rb)\/
 (f.kind=2/\∃rf rb n,cG f.first rf/\cG f.body rb/\rs=(f.k,.ifs)::(rf++(n,.oN)::rb))\/(f.kind=3/\∃rb,cG f.body rb/\rs=(f.k,.fh)::rb)
def bP:List Frame->List Row->Prop
 |[],rs=>rs=[]
 |f::r,rs=>∃r1 r2,bP r r1/\mv f r2/\rs=r1++r2
theorem Ht{f:Frame}{rs:List Row}(hk:f.kind=1\/f.kind=2\/f.kind=3)(h:mv f rs)(n:Int):eP f.told (rs++[(n,.fin)]):=by
 rcases h with ⟨h0,_⟩ |⟨h1,rb,t,rfl⟩ |⟨h2,rf,rb,m,t1,t2,rfl⟩ |⟨h3,rb,t,rfl⟩
 ·lia
 ·unfold Frame.told;rw[zzp h1,eP];exact .inl ⟨rb,n,t,rfl,rfl⟩
 ·unfold Frame.told;rw[zzn (by lia),zzp h2,eP];exact .inr ⟨rf,rb,m,n,t1,t2,by simp⟩
 ·unfold Frame.told;rw[zzn (by lia),zzn (by lia),eP];exact⟨rb,n,t,rfl⟩
theorem mv.more{f:Frame}{rs t:List Row}{b:List bI}(h:mv f rs)(ht:cG b t):mv {f with body:=f.body++b} (rs++t):=by
 rcases h with ⟨h0,x⟩ |⟨h1,rb,x,rfl⟩ |⟨h2,rf,rb,m,t1,x,rfl⟩ |⟨h3,rb,x,rfl⟩
 ·exact .inl ⟨h0,x.app ht⟩
 ·exact .inr (.inl ⟨h1,rb++t,x.app ht,rfl⟩)
 ·exact .inr (.inr (.inl ⟨h2,rf,rb++t,m,t1,x.app ht,by simp⟩))
 ·exact .inr (.inr (.inr ⟨h3,rb++t,x.app ht,rfl⟩))
theorem xr{l:List Frame}{rs:List Row}(hp:oZ l)(hl:1<l.length)(h:bP l rs)(n:Int):bP (close l) (rs++[(n,.fin)]):=by
 match l,hp,hl,h with
 |f::g::r,hp,_,h=>
  rw[bP] at h;obtain⟨r1,r2,h1,h2,rfl⟩:=h;rw[bP] at h1;obtain⟨r3,r4,h3,h4,rfl⟩:=h1;show bP ({g with body:=g.body++[f.told]}::r) _;rw[bP];exact⟨r3,r4++(r2++[(n,.fin)]),h3,h4.more (.one (Ht hp.1 h2 n)),by simp⟩
theorem plain_text(sc:List Int)(bs:List gm)(k:Int)(p:Nat):eP (bR sc bs k p).1 [(k,(bR sc bs k p).1.wd)]:=by
 unfold bR;simp only;split
 ·simp[eP,bI.wd]
 ·split
  ·simp[eP,bI.wd]
  ·split
   ·simp[eP,bI.wd]
   ·split
    ·split<;>simp[eP,bI.wd]
    ·simp[eP,bI.wd]
theorem Hu(sc:List Int)(bs:List gm)(mode:Int){w:Walk}(ok:dE w)(h:bP w.aY w.rows):bP (turn sc bs mode w).aY (turn sc bs mode w).rows:=by
 obtain⟨p,aY,rows⟩:=w;have h1:=ok.aY;simp only at h h1;unfold turn;simp only;split
 ·rename_i hc;exact xr h1 hc.2 h _
 ·cases aY with
  |nil=>exact h1.elim
  |cons f r=>
   simp only;split
   ·rename_i hc;rw[bP] at h;obtain⟨r1,r2,x1,x2,rfl⟩:=h;show bP ({f with kind:=2,body:=[],first:=f.body}::r) _;rw[bP];rcases x2 with ⟨z,_⟩ |⟨_,rb,t,rfl⟩ |⟨z,_⟩ |⟨z,_⟩
    ·lia
    ·exact⟨r1,_,x1,.inr (.inr (.inl ⟨rfl,rb,[],number bs.length (r1++(f.k,.ifs)::rb) mode,t,.nil,rfl⟩)),by simp⟩
    ·lia
    ·lia
   ·split
    ·have kk:∀n:Int,pick 1 [1,1,3] n=1\/pick 1 [1,1,3] n=3:=fun n=>by
      unfold pick;rcases n.toNat with _ |_ |_ |m<;>simp
     have Up:=kk (next sc p%12%3);generalize pick 1 [1,1,3] (next sc p%12%3)=kd at Up ⊢;show bP ({kind:=kd,body:=[],k:=number bs.length rows mode,sg:=_,l:=_,r:=_}::f::r) _;rw[bP];rcases Up with rfl |rfl
     ·exact⟨rows,_,h,.inr (.inl ⟨rfl,[],.nil,rfl⟩),rfl⟩
     ·exact⟨rows,_,h,.inr (.inr (.inr ⟨rfl,[],.nil,rfl⟩)),rfl⟩
    ·rw[bP] at h;obtain⟨r1,r2,x1,x2,rfl⟩:=h;show bP ({f with body:=f.body++[_]}::r) _;rw[bP];exact⟨r1,_,x1,x2.more (.one (plain_text sc bs _ (p+1))),by simp⟩
theorem xt(sc:List Int)(bs:List gm)(mode:Int):∀(n:Nat) {w:Walk},dE w->bP w.aY w.rows->bP (turns sc bs mode n w).aY (turns sc bs mode n w).rows
 |0,_,_,h=>h
 |n+1,_,ok,h=>xt sc bs mode n (tJ sc bs mode ok) (Hu sc bs mode ok h)
theorem zN(n:Nat)(mode:Int):∀(m:Nat) {w:Walk},dE w->bP w.aY w.rows->bP (ends n mode m w).aY (ends n mode m w).rows
 |0,_,_,h=>h
 |m+1,w,ok,h=>by
  unfold ends;split
  ·rename_i hl;obtain⟨a,b⟩:=o4 ok.aY;refine zN n mode m ⟨a,?_,?_⟩ (xr ok.aY hl h _)
   ·show c6 (close w.aY)=_;rw[m9 ok.aY,ok.flat,za3];simp[plainRow]
   ·show (close w.aY).length<=4;have:=ok.most;lia
  ·exact h
theorem Hv(sc:List Int)(many p:Nat):cG (cJ sc many p).1.body (cJ sc many p).2:=by
 unfold cJ;simp only;generalize bH sc (next sc p%4) (next sc (p+1)%4).toNat 0 (p+2)=bs;have h0:dE ⟨bs.2+1,[{kind:=0,body:=[]}],[]⟩:=⟨rfl,rfl,by simp⟩
 have t0:bP [{kind:=0,body:=[]}] []:=by
  rw[bP];exact⟨[],[],by rw[bP],.inl ⟨rfl,.nil⟩,rfl⟩
 have h1:=tK sc bs.1 (next sc bs.2%4) many h0;have t1:=xt sc bs.1 (next sc bs.2%4) many h0 t0;obtain⟨h2,h3⟩:=AO bs.1.length (next sc bs.2%4) 4 h1 (by have:=h1.most;lia);have t2:=zN bs.1.length (next sc bs.2%4) 4 h1 t1;generalize ends bs.1.length (next sc bs.2%4) 4 (turns sc bs.1 (next sc bs.2%4) many ⟨bs.2+1,[{kind:=0,body:=[]}],[]⟩)=w at h2 h3 t2;obtain⟨pp,aY,rows⟩:=w;obtain⟨f,rfl⟩:∃f,aY=[f]:=zcd.mp h3;have hk:f.kind=0:=h2.aY;simp only at t2;rw[bP] at t2;obtain⟨r1,r2,x1,x2,rfl⟩:=t2;rw[bP] at x1;subst x1;rcases x2 with ⟨_,t⟩ |⟨z,_⟩ |⟨z,_⟩ |⟨z,_⟩
 ·simpa using t
 ·lia
 ·lia
 ·lia
def o9 (n:Nat) (w:Walk):Prop:=(∀f∈w.aY,f.body.length<=n)/\w.rows.length<=n
theorem Ci(sc:List Int)(bs:List gm)(mode:Int){n:Nat}{w:Walk}(h:o9 n w):o9 (n+1) (turn sc bs mode w):=by
 obtain⟨p,aY,rows⟩:=w;obtain⟨h1,h2⟩:=h;simp only at h1 h2;have up:∀f∈aY,f.body.length<=n+1:=fun f hf=>zbF (h1 f hf);have cl:∀l:List Frame,(∀f∈l,f.body.length<=n)->∀f∈close l,f.body.length<=n+1:=by
  intro l hl f hf
  match l,hl,hf with
  |[],_,hf=>cases hf
  |[x],hl,hf=>exact zbF (hl f hf)
  |x::y::r,hl,hf=>
   rcases zag.mp hf with rfl |hf
   ·simp;have:=hl y (by simp);lia
   ·exact zbF (hl f (by simp[hf]))
 unfold turn;simp only;split
 ·exact⟨cl aY h1,by simp;lia⟩
 ·cases aY with
  |nil=>exact⟨up,by simp only;lia⟩
  |cons f r=>
   simp only;split
   ·refine⟨fun x hx=>?_,by simp;lia⟩;rcases zag.mp hx with rfl |hx
    ·simp
    ·exact up x (by simp[hx])
   ·split
    ·refine⟨fun x hx=>?_,by simp;lia⟩;rcases zag.mp hx with rfl |hx
     ·simp
     ·exact up x hx
    ·refine⟨fun x hx=>?_,by simp;lia⟩;rcases zag.mp hx with rfl |hx
     ·have:=h1 f (by simp);simp;lia
     ·exact up x (by simp[hx])
theorem xu(sc:List Int)(bs:List gm)(mode:Int):∀(n:Nat) (w:Walk),turns sc bs mode (n+1) w=turn sc bs mode (turns sc bs mode n w)
 |0,_=>rfl
 |n+1,w=>xu sc bs mode n (turn sc bs mode w)
theorem AQ(sc:List Int)(bs:List gm)(mode:Int)(p:Nat)(f:Frame)(r:List Frame)(rows:List Row):turn sc bs mode ⟨p,f::r,rows⟩ =
 if next sc p%12<2/\(f::r).length>1 then ⟨p+1,close (f::r),rows++[(number bs.length rows mode,.fin)]⟩
 else if next sc p%12=2/\f.kind=1 then ⟨p+1,{f with kind:=2,body:=[],first:=f.body}::r,rows++[(number bs.length rows mode,.oN)]⟩
 else if next sc p%12<6/\(f::r).length<4 then
  ⟨(cC sc bs 1 (cC sc bs 1 (p+2)).2).2,{kind:=pick 1 [1,1,3] (next sc p%12%3),body:=[],k:=number bs.length rows mode,sg:=pick [] BO (next sc (p+1)%2),l:=(cC sc bs 1 (p+2)).1,r:=(cC sc bs 1 (cC sc bs 1 (p+2)).2).1}::f::r,rows++[(number bs.length rows mode,if pick 1 [1,1,3] (next sc p%12%3)=3 then .fh else .ifs)]⟩
 else ⟨(bR sc bs (number bs.length rows mode) (p+1)).2,{f with body:=f.body++[(bR sc bs (number bs.length rows mode) (p+1)).1]}::r,rows++[(number bs.length rows mode,(bR sc bs (number bs.length rows mode) (p+1)).1.wd)]⟩:=rfl
theorem jX(sc:List Int)(lT:Int):∀(n k p:Nat),(bH sc lT n k p).1.length=n/\(bH sc lT n k p).2=p+2*n
 |0,_,p=>⟨rfl,rfl⟩
 |n+1,k,p=>by
  obtain⟨a,b⟩:=jX sc lT n (k+1) (p+2);unfold bH;simp only[zah];exact⟨by rw[a],by rw[b];lia⟩
theorem xv{w:Walk}(ok:dE w)(k:Int):dE ⟨w.p,close w.aY,w.rows++[(k,.fin)]⟩:=by
 obtain⟨a,b⟩:=o4 ok.aY;refine⟨a,?_,?_⟩
 ·show c6 (close w.aY)=_;rw[m9 ok.aY,ok.flat,za3];simp[plainRow]
 ·show (close w.aY).length<=4;have:=ok.most;lia
theorem zO{n:Nat}{w:Walk}(h:o9 n w)(k:Int):o9 (n+1) ⟨w.p,close w.aY,w.rows++[(k,.fin)]⟩:=by
 obtain⟨h1,h2⟩:=h;refine⟨?_,by simp;lia⟩;intro f hf;obtain⟨p,aY,rows⟩:=w;simp only at h1 hf
 match aY,h1,hf with
 |[],_,hf=>cases hf
 |[x],hl,hf=>exact zbF (hl f hf)
 |x::y::r,hl,hf=>
  rcases zag.mp hf with rfl |hf
  ·have:=hl y (by simp);simp;lia
  ·exact zbF (hl f (by simp[hf]))
mutual
noncomputable def qE:bI->Nat
 |.ifs _ _ _ _ a b=>max (gu a) (gu b)+1
 |.fh _ _ _ _ a=>gu a+1
 |_=>0
noncomputable def gu:List bI->Nat
 |[]=>0
 |s::r=>max (qE s) (gu r)
end
theorem xw:∀a b:List bI,gu (a++b)=max (gu a) (gu b)
 |[],b=>by simp[gu]
 |s::r,b=>by
  show gu (s::(r++b))=_;rw[gu,gu,xw r b,Nat.max_assoc]
theorem Cj(s:bI):gu [s]=qE s:=by rw[gu,gu];simp
def qI:List Frame->Prop
 |[]=>True
 |f::r=>gu f.body+r.length<=3/\(f.kind=2->gu f.first+r.length<=3)/\qI r
theorem Ko{f:Frame}{n:Nat}(h1:gu f.body+n<=3)(h2:f.kind=2->gu f.first+n<=3):qE f.told+n<=4:=by
 unfold Frame.told;split
 ·rw[qE,gu];simp;lia
 ·split
  ·rename_i h;rw[qE];have:=h2 h;lia
  ·rw[qE];lia
theorem zP:∀ {l:List Frame},qI l->qI (close l)
 |[],h=>h
 |[f],h=>h
 |f::g::r,h=>by
  obtain⟨h1,h2,h3,h4,h5⟩:=h;have:=Ko h1 h2;refine⟨?_,h4,h5⟩;rw[xw,Cj];simp only[zah] at this ⊢;lia
theorem Hw(sc:List Int)(bs:List gm)(k:Int)(p:Nat):qE (bR sc bs k p).1=0:=by
 rw[o8];split
 ·simp[qE]
 ·split
  ·simp[qE]
  ·split
   ·simp[qE]
   ·split
    ·split<;>simp[qE]
    ·simp[qE]
theorem Kq(sc:List Int)(bs:List gm)(mode:Int){w:Walk}(ok:dE w)(h:qI w.aY):qI (turn sc bs mode w).aY:=by
 obtain⟨p,aY,rows⟩:=w;simp only at h;cases aY with
 |nil=>exact ok.aY.elim
 |cons f r=>
  rw[AQ];split
  ·exact zP h
  ·obtain⟨h1,h2,h3⟩:=h;split
   ·exact⟨by rw[gu];lia,fun _=>h1,h3⟩
   ·split
    ·rename_i hc;refine⟨?_,fun z=>?_,h1,h2,h3⟩
     ·rw[gu];have:=hc.2;simp only[zah] at this ⊢;lia
     ·rw[gu];have:=hc.2;simp only[zah] at this ⊢;lia
    ·refine⟨?_,h2,h3⟩;rw[xw,Cj,Hw];lia
theorem zQ(sc:List Int)(bs:List gm)(mode:Int):∀(n:Nat) {w:Walk},dE w->qI w.aY->qI (turns sc bs mode n w).aY
 |0,_,_,h=>h
 |n+1,_,ok,h=>zQ sc bs mode n (tJ sc bs mode ok) (Kq sc bs mode ok h)
theorem Ck(n:Nat)(mode:Int):∀(m:Nat) {w:Walk},qI w.aY->qI (ends n mode m w).aY
 |0,_,h=>h
 |m+1,w,h=>by
  unfold ends;split
  ·exact Ck n mode m (zP h)
  ·exact h
theorem Kr(sc:List Int)(many p:Nat):gu (cJ sc many p).1.body<=3:=by
 unfold cJ;simp only;generalize bH sc (next sc p%4) (next sc (p+1)%4).toNat 0 (p+2)=bs;have h0:dE ⟨bs.2+1,[{kind:=0,body:=[]}],[]⟩:=⟨rfl,rfl,by simp⟩
 have d0:qI [{kind:=0,body:=[]}]:=⟨by simp[gu],(fun z=>zzb z (show ¬(0=2) by decide)),trivial⟩
 have d2:=Ck bs.1.length (next sc bs.2%4) 4 (zQ sc bs.1 (next sc bs.2%4) many h0 d0);generalize ends bs.1.length (next sc bs.2%4) 4 (turns sc bs.1 (next sc bs.2%4) many ⟨bs.2+1,[{kind:=0,body:=[]}],[]⟩)=w at d2;obtain⟨pp,aY,rows⟩:=w;cases aY with
 |nil=>simp[gu]
 |cons f r=>
  have:=d2.1;simp;lia
end PG
namespace PG
open PM (W Tr)
section
variable(nm:W->Prop)(ex:Tr->Prop)(sg:W->Prop)
mutual
def xx:bI->Prop
 |.ask _ b=>nm b
 |.put _ b e=>nm b/\ex e
 |.say _ e=>ex e
 |.cu _ s l r=>sg s/\ex l/\ex r
 |.stop _=>True
 |.ifs _ s l r a b=>sg s/\ex l/\ex r/\yR a/\yR b
 |.fh _ s l r a=>sg s/\ex l/\ex r/\yR a
def yR:List bI->Prop
 |[]=>True
 |s::r=>xx s/\yR r
end
def OkF (f:Frame):Prop:=yR nm ex sg f.body/\(f.kind≠0->sg f.sg/\ex f.l/\ex f.r)/\(f.kind=2->yR nm ex sg f.first)
def MI:List Frame->Prop
 |[]=>True
 |f::r=>OkF nm ex sg f/\MI r
end
section
variable{nm:W->Prop}{ex:Tr->Prop}{sg:W->Prop}
theorem AR:∀ {a b:List bI},yR nm ex sg a->yR nm ex sg b->yR nm ex sg (a++b)
 |[],b,_,h=>h
 |s::r,b,h1,h2=>by
  rw[yR] at h1;show yR nm ex sg (s::(r++b));rw[yR];exact⟨h1.1,AR h1.2 h2⟩
theorem nh:yR nm ex sg []:=by rw[yR];trivial
theorem Gd{s:bI}(h:xx nm ex sg s):yR nm ex sg [s]:=by rw[yR];exact⟨h,nh⟩
theorem Eo{f:Frame}(h:OkF nm ex sg f)(k:f.kind=1\/f.kind=2\/f.kind=3):xx nm ex sg f.told:=by
 obtain⟨h1,h2,h3⟩:=h;have h2:=h2 (by lia);unfold Frame.told;split
 ·rw[xx];exact⟨h2.1,h2.2.1,h2.2.2,h1,nh⟩
 ·split
  ·rename_i z;rw[xx];exact⟨h2.1,h2.2.1,h2.2.2,h3 z,h1⟩
  ·rw[xx];exact⟨h2.1,h2.2.1,h2.2.2,h1⟩
theorem vP:∀ {l:List Frame},oZ l->MI nm ex sg l->MI nm ex sg (close l)
 |[],_,h=>h
 |[f],_,h=>h
 |f::g::r,ok,h=>by
  obtain⟨h1,⟨h2,h3,h4⟩,h5⟩:=h;refine⟨⟨AR h2 (Gd (Eo h1 ?_)),h3,h4⟩,h5⟩;exact ok.1
section
variable{sc:List Int}{bs:List gm}(Pm:bs≠[]->∀q,nm (pick ⟨[],0,0⟩ bs (next sc q%bs.length)).name)(hex:∀d q,d<=2->ex (cC sc bs d q).1)(Ks:∀q,sg (pick [] BO (next sc q%2)))
include Pm hex Ks
theorem Cm(k:Int)(p:Nat):xx nm ex sg (bR sc bs k p).1:=by
 rw[o8];split
 ·rename_i h;rw[xx];exact Pm h.1 _
 ·split
  ·rename_i h;rw[xx];exact⟨Pm h.1 _,hex _ _ (by decide)⟩
  ·split
   ·rw[xx];exact⟨Ks _,hex _ _ (by decide),hex _ _ (by decide)⟩
   ·split
    ·split
     ·rw[xx];trivial
     ·rw[xx];exact hex _ _ (by decide)
    ·rw[xx];exact hex _ _ (by decide)
theorem Ep(mode:Int){w:Walk}(ok:dE w)(h:MI nm ex sg w.aY):MI nm ex sg (turn sc bs mode w).aY:=by
 obtain⟨p,aY,rows⟩:=w;simp only at h;cases aY with
 |nil=>exact ok.aY.elim
 |cons f r=>
  rw[AQ];split
  ·exact vP ok.aY h
  ·obtain⟨⟨h1,h2,h3⟩,h4⟩:=h;split
   ·rename_i z;exact⟨⟨nh,fun _=>h2 (by rw[z.2];decide),fun _=>h1⟩,h4⟩
   ·split
    ·exact⟨⟨nh,fun _=>⟨Ks _,hex _ _ (by decide),hex _ _ (by decide)⟩,fun _=>nh⟩,⟨h1,h2,h3⟩,h4⟩
    ·exact⟨⟨AR h1 (Gd (Cm Pm hex Ks _ _)),h2,h3⟩,h4⟩
theorem vQ(mode:Int):∀(n:Nat) {w:Walk},dE w->MI nm ex sg w.aY->MI nm ex sg (turns sc bs mode n w).aY
 |0,_,_,h=>h
 |n+1,_,ok,h=>vQ mode n (tJ sc bs mode ok) (Ep Pm hex Ks mode ok h)
end
theorem xy(n:Nat)(mode:Int):∀(m:Nat) {w:Walk},dE w->MI nm ex sg w.aY->MI nm ex sg (ends n mode m w).aY
 |0,_,_,h=>h
 |m+1,w,ok,h=>by
  unfold ends;split
  ·exact xy n mode m (xv ok _) (vP ok.aY h)
  ·exact h
end
def fk (sc:List Int) (p:Nat):List gm:=(bH sc (next sc p%4) (next sc (p+1)%4).toNat 0 (p+2)).1
theorem Er(sc:List Int)(many p:Nat):(cJ sc many p).1.ay=fk sc p:=rfl
theorem Es(sc:List Int)(many p:Nat){nm:W->Prop}{ex:Tr->Prop}{sg:W->Prop}(Pm:fk sc p≠[]->∀q,nm (pick ⟨[],0,0⟩ (fk sc p) (next sc q%(fk sc p).length)).name)(hex:∀d q,d<=2->ex (cC sc (fk sc p) d q).1)(Ks:∀q,sg (pick [] BO (next sc q%2))):yR nm ex sg (cJ sc many p).1.body:=by
 unfold fk at Pm hex;unfold cJ;simp only;generalize bH sc (next sc p%4) (next sc (p+1)%4).toNat 0 (p+2)=bs at *;have h0:dE ⟨bs.2+1,[{kind:=0,body:=[]}],[]⟩:=⟨rfl,rfl,by simp⟩
 have d0:MI nm ex sg [{kind:=0,body:=[]}]:=⟨⟨nh,fun z=>zzb rfl z,fun z=>zzb z (show ¬(0=2) by decide)⟩,trivial⟩
 have d2:=xy bs.1.length (next sc bs.2%4) 4 (tK sc bs.1 (next sc bs.2%4) many h0) (vQ Pm hex Ks (next sc bs.2%4) many h0 d0);generalize ends bs.1.length (next sc bs.2%4) 4 (turns sc bs.1 (next sc bs.2%4) many ⟨bs.2+1,[{kind:=0,body:=[]}],[]⟩)=w at d2;obtain⟨pp,aY,rows⟩:=w;cases aY with
 |nil=>exact nh
 |cons f r=>exact d2.1.1
noncomputable def qi:Tr->Nat
 |.bin _ l r=>max (qi l) (qi r)+1
 |_=>0
theorem xA(sc:List Int)(bs:List gm):∀(d p:Nat),qi (cC sc bs d p).1<=d
 |0,p=>by
  unfold cC;simp only;split<;>simp[qi]
 |d+1,p=>by
  unfold cC;simp only;split
  ·rw[qi];have:=xA sc bs d (p+1);have:=xA sc bs d (cC sc bs d (p+1)).2;lia
  ·split<;>simp[qi]
mutual
theorem Cn:∀(s:bI) (r:Row),r∈dU s->r.2≠.oN/\r.2≠.fin
 |.ifs k _ _ _ a b,r,h=>by
  rw[dU] at h;simp only[zag,zaA] at h;rcases h with rfl |h |h
  ·simp
  ·exact jv a r h
  ·exact jv b r h
 |.fh k _ _ _ a,r,h=>by
  rw[dU] at h;simp only[zag] at h;rcases h with rfl |h
  ·simp
  ·exact jv a r h
 |.ask k _,r,h=>by simp[dU] at h;subst h;simp
 |.put k _ _,r,h=>by simp[dU] at h;subst h;simp
 |.say k _,r,h=>by simp[dU] at h;subst h;simp
 |.cu k _ _ _,r,h=>by simp[dU] at h;subst h;simp
 |.stop k,r,h=>by simp[dU] at h;subst h;simp
theorem jv:∀(b:List bI) (r:Row),r∈bV b->r.2≠.oN/\r.2≠.fin
 |[],r,h=>by simp[bV] at h
 |s::t,r,h=>by
  rw[bV,zaA] at h;rcases h with h |h
  ·exact Cn s r h
  ·exact jv t r h
end
def Kt (r:dM):List Tg:=SS (r.1,r.2.1)
theorem NB(b:List bI)(x:Int):(aQ b x).flatMap Kt=(bV b).flatMap SS:=by
 rw[<- cY b x,List.flatMap_map];rfl
theorem Co(b:List bI)(x:Int)(r:dM)(h:r∈aQ b x):r.2.1≠.oN/\r.2.1≠.fin:=by
 have:=jv b (r.1,r.2.1) (by rw[<- cY b x];exact zaF.mpr ⟨r,h,rfl⟩);exact this
theorem Ge(r:Row):(SS r).length<=3:=by
 obtain⟨k,w⟩:=r;cases w<;>simp[SS,plainRow]
theorem zR(sc:List Int)(bs:List gm)(mode:Int):∀(n m:Nat) {w:Walk},o9 m w->o9 (m+n) (turns sc bs mode n w)
 |0,m,_,h=>h
 |n+1,m,_,h=>by
  have:=zR sc bs mode n (m+1) (Ci sc bs mode h);rw[show m+(n+1)=m+1+n by lia];exact this
theorem Cp(n:Nat)(mode:Int):∀(k m:Nat) {w:Walk},o9 m w->(ends n mode k w).rows.length<=m+k
 |0,m,w,h=>h.2
 |k+1,m,w,h=>by
  unfold ends;split
  ·have:=Cp n mode k (m+1) (zO h (number n w.rows mode));lia
  ·have:=h.2;lia
theorem Ku(sc:List Int)(many p:Nat):(cJ sc many p).2.length<=many+4:=by
 unfold cJ;simp only;generalize bH sc (next sc p%4) (next sc (p+1)%4).toNat 0 (p+2)=bs;have h0:o9 0 ⟨bs.2+1,[{kind:=0,body:=[]}],[]⟩:=⟨fun f hf=>by rw[zar.mp hf];exact zaf _,zaf _⟩
 have:=Cp bs.1.length (next sc bs.2%4) 4 _ (zR sc bs.1 (next sc bs.2%4) many 0 h0);lia
end PG
namespace PG
open PM (W Tr)
inductive Mt where
 |op (oN fin:Option Nat)
 |back (i:Nat)
 deriving DecidableEq
abbrev Mm:=Nat->Option Mt
noncomputable def Mm.set (m:Mm) (i:Nat) (x:Mt):Mm:=fun j=>if j=i then some x else m j
theorem Mm.set_same(m:Mm)(i:Nat)(x:Mt):(m.set i x) i=some x:=zzp rfl
theorem Mm.bO(m:Mm){i j:Nat}(x:Mt)(h:j≠i):(m.set i x) j=m j:=zzn h
noncomputable def qj (x:Option Mt) (p:Nat):Mt:=match x with
 |some (.op _ f)=>.op (some p) f
 |some y=>y
 |none=>.op (some p) none
noncomputable def tL (x:Option Mt) (p:Nat):Mt:=match x with
 |some (.op e _)=>.op e (some p)
 |some y=>y
 |none=>.op none (some p)
def tM (st:Mm×List Nat) (p:Nat):Wd->Mm×List Nat
 |.ifs=>(st.1.set p (.op none none),p::st.2)
 |.fh=>(st.1.set p (.op none none),p::st.2)
 |.oN=>match st.2 with
  |o::_=>((st.1.set o (qj (st.1 o) p)).set p (.back o),st.2)
  |[]=>st
 |.fin=>match st.2 with
  |o::r=>((st.1.set p (.back o)).set o (tL (st.1 o) p),r)
  |[]=>st
 |_=>st
noncomputable def foldM:Nat->List Row->Mm×List Nat->Mm×List Nat
 |_,[],st=>st
 |i,r::l,st=>foldM (i+1) l (tM st i r.2)
theorem jb:∀(a b:List Row) (i:Nat) (st:Mm×List Nat),foldM i (a++b) st=foldM (i+a.length) b (foldM i a st)
 |[],b,i,st=>rfl
 |r::a,b,i,st=>by
  rw[zaJ,foldM,foldM,jb a b (i+1),zah,show i+1+a.length=i+(a.length+1) by lia]
mutual
def dO (m:Mm):bI->Nat->List Row->Prop
 |.ifs k _ _ _ a b,i,rs=>(∃ra n,ic m a (i+1) ra/\b=[]/\rs=(k,.ifs)::(ra++[(n,.fin)])/\m i=some (.op none (some (i+1+ra.length)))/\m (i+1+ra.length)=some (.back i))\/
  (∃ra rb n x,ic m a (i+1) ra/\ic m b (i+2+ra.length) rb/\rs=(k,.ifs)::(ra++(n,.oN)::(rb++[(x,.fin)]))/\m i=some (.op (some (i+1+ra.length)) (some (i+2+ra.length+rb.length)))/\
   m (i+1+ra.length)=some (.back i)/\m (i+2+ra.length+rb.length)=some (.back i))
 |.fh k _ _ _ a,i,rs=>∃ra n,ic m a (i+1) ra/\rs=(k,.fh)::(ra++[(n,.fin)])/\m i=some (.op none (some (i+1+ra.length)))/\m (i+1+ra.length)=some (.back i)
 |.ask k _,_,rs=>rs=[(k,.ask)]
 |.put k _ _,_,rs=>rs=[(k,.put)]
 |.say k _,_,rs=>rs=[(k,.say)]
 |.cu k _ _ _,_,rs=>rs=[(k,.cu)]
 |.stop k,_,rs=>rs=[(k,.stop)]
def ic (m:Mm):List bI->Nat->List Row->Prop
 |[],_,rs=>rs=[]
 |s::r,i,rs=>∃r1 r2,dO m s i r1/\ic m r (i+r1.length) r2/\rs=r1++r2
end
mutual
theorem dO.jI{m m':Mm}:∀(s:bI) {i:Nat} {rs:List Row},dO m s i rs->(∀j,i<=j->j<i+rs.length->m' j=m j)->dO m' s i rs
 |.ifs k _ _ _ a b,i,rs,h,q=>by
  rw[dO] at h ⊢;rcases h with ⟨ra,n,h1,h2,rfl,h3,h4⟩ |⟨ra,rb,n,x,h1,h2,rfl,h3,h4,h5⟩
  ·simp only[zah,zae,zaB] at q;exact .inl ⟨ra,n,ic.jI a h1 (fun j a b=>q j (by lia) (by lia)),h2,rfl,by rw[q i (by lia) (by lia)];exact h3,by rw[q _ (by lia) (by lia)];exact h4⟩
  ·simp only[zah,zae,zaB] at q;exact .inr ⟨ra,rb,n,x,ic.jI a h1 (fun j a b=>q j (by lia) (by lia)),ic.jI b h2 (fun j a b=>q j (by lia) (by lia)),rfl,by rw[q i (by lia) (by lia)];exact h3,by rw[q _ (by lia) (by lia)];exact h4,by rw[q _ (by lia) (by lia)];exact h5⟩
 |.fh k _ _ _ a,i,rs,h,q=>by
  rw[dO] at h ⊢;obtain⟨ra,n,h1,rfl,h3,h4⟩:=h;simp only[zah,zae,zaB] at q;exact⟨ra,n,ic.jI a h1 (fun j a b=>q j (by lia) (by lia)),rfl,by rw[q i (by lia) (by lia)];exact h3,by rw[q _ (by lia) (by lia)];exact h4⟩
 |.ask k _,_,rs,h,_=>by rw[dO] at h ⊢;exact h
 |.put k _ _,_,rs,h,_=>by rw[dO] at h ⊢;exact h
 |.say k _,_,rs,h,_=>by rw[dO] at h ⊢;exact h
 |.cu k _ _ _,_,rs,h,_=>by rw[dO] at h ⊢;exact h
 |.stop k,_,rs,h,_=>by rw[dO] at h ⊢;exact h
theorem ic.jI{m m':Mm}:∀(b:List bI) {i:Nat} {rs:List Row},ic m b i rs->(∀j,i<=j->j<i+rs.length->m' j=m j)->ic m' b i rs
 |[],i,rs,h,_=>by rw[ic] at h ⊢;exact h
 |s::r,i,rs,h,q=>by
  rw[ic] at h ⊢;obtain⟨r1,r2,h1,h2,rfl⟩:=h;simp only[zae] at q;exact⟨r1,r2,dO.jI s h1 (fun j a b=>q j (by lia) (by lia)),ic.jI r h2 (fun j a b=>q j (by lia) (by lia)),rfl⟩
end
theorem fJ{op:List Nat}{i j:Nat}(h:∀o∈op,o<i)(hj:i<j):∀o∈i::op,o<j:=fun o hx=>by
 rcases zag.mp hx with rfl |hx
 ·exact hj
 ·have:=h o hx;lia
mutual
theorem Pn:∀(s:bI) (rs:List Row),eP s rs->∀(i:Nat) (m:Mm) (op:List Nat),(∀o∈op,o<i)->∃m1,foldM i rs (m,op)=(m1,op)/\dO m1 s i rs/\∀j,(j<i\/i+rs.length<=j)->m1 j=m j
 |.ifs k sg l r a b,rs,h,i,m,op,ho=>by
  rw[eP] at h;rcases h with ⟨ra,n,h1,rfl,rfl⟩ |⟨ra,rb,n,x,h1,h2,rfl⟩
  ·obtain⟨m1,e1,s1,k1⟩:=oA a ra h1 (i+1) (m.set i (.op none none)) (i::op) (fJ ho (by lia));have mi:m1 i=some (.op none none):=by rw[k1 i (by lia),Mm.set_same]
   refine⟨(m1.set (i+1+ra.length) (.back i)).set i (tL (m1 i) (i+1+ra.length)),?_,?_,?_⟩
   ·show foldM (i+1) (ra++[(n,.fin)]) (m.set i (.op none none),i::op)=_;rw[jb,e1];rfl
   ·rw[dO];refine .inl ⟨ra,n,ic.jI a s1 (fun j a b=>by rw[Mm.bO _ _ (by lia),Mm.bO _ _ (by lia)]),rfl,rfl,?_,?_⟩
    ·rw[Mm.set_same,mi];rfl
    ·rw[Mm.bO _ _ (by lia),Mm.set_same]
   ·intro j hj;simp only[zah,zae,zaB] at hj;rw[Mm.bO _ _ (by lia),Mm.bO _ _ (by lia),k1 j (by lia),Mm.bO _ _ (by lia)]
  ·obtain⟨m1,e1,s1,k1⟩:=oA a ra h1 (i+1) (m.set i (.op none none)) (i::op) (fJ ho (by lia));have mi:m1 i=some (.op none none):=by rw[k1 i (by lia),Mm.set_same]
   obtain⟨m2,e2,s2,k2⟩:=oA b rb h2 (i+2+ra.length) ((m1.set i (qj (m1 i) (i+1+ra.length))).set (i+1+ra.length) (.back i)) (i::op) (fJ ho (by lia));have Yg:m2 i=some (.op (some (i+1+ra.length)) none):=by rw[k2 i (by lia),Mm.bO _ _ (by lia),Mm.set_same,mi];rfl
   refine⟨(m2.set (i+2+ra.length+rb.length) (.back i)).set i (tL (m2 i) (i+2+ra.length+rb.length)),?_,?_,?_⟩
   ·show foldM (i+1) (ra++(n,.oN)::(rb++[(x,.fin)])) (m.set i (.op none none),i::op)=_;rw[jb,e1];show foldM (i+1+ra.length+1) (rb++[(x,.fin)]) ((m1.set i (qj (m1 i) (i+1+ra.length))).set (i+1+ra.length) (.back i),i::op)=_;rw[show i+1+ra.length+1=i+2+ra.length by lia,jb,e2];rfl
   ·rw[dO];refine .inr ⟨ra,rb,n,x,ic.jI a s1 (fun j a b=>?_),ic.jI b s2 (fun j a b=>?_),rfl,?_,?_,?_⟩
    ·rw[Mm.bO _ _ (by lia),Mm.bO _ _ (by lia),k2 j (by lia),Mm.bO _ _ (by lia),Mm.bO _ _ (by lia)]
    ·rw[Mm.bO _ _ (by lia),Mm.bO _ _ (by lia)]
    ·rw[Mm.set_same,Yg];rfl
    ·rw[Mm.bO _ _ (by lia),Mm.bO _ _ (by lia),k2 _ (by lia),Mm.set_same]
    ·rw[Mm.bO _ _ (by lia),Mm.set_same]
   ·intro j hj;simp only[zah,zae,zaB] at hj;rw[Mm.bO _ _ (by lia),Mm.bO _ _ (by lia),k2 j (by lia),Mm.bO _ _ (by lia),Mm.bO _ _ (by lia),k1 j (by lia),Mm.bO _ _ (by lia)]
 |.fh k sg l r a,rs,h,i,m,op,ho=>by
  rw[eP] at h;obtain⟨ra,n,h1,rfl⟩:=h;obtain⟨m1,e1,s1,k1⟩:=oA a ra h1 (i+1) (m.set i (.op none none)) (i::op) (fJ ho (by lia));have mi:m1 i=some (.op none none):=by rw[k1 i (by lia),Mm.set_same]
  refine⟨(m1.set (i+1+ra.length) (.back i)).set i (tL (m1 i) (i+1+ra.length)),?_,?_,?_⟩
  ·show foldM (i+1) (ra++[(n,.fin)]) (m.set i (.op none none),i::op)=_;rw[jb,e1];rfl
  ·rw[dO];refine⟨ra,n,ic.jI a s1 (fun j a b=>by rw[Mm.bO _ _ (by lia),Mm.bO _ _ (by lia)]),rfl,?_,?_⟩
   ·rw[Mm.set_same,mi];rfl
   ·rw[Mm.bO _ _ (by lia),Mm.set_same]
  ·intro j hj;simp only[zah,zae,zaB] at hj;rw[Mm.bO _ _ (by lia),Mm.bO _ _ (by lia),k1 j (by lia),Mm.bO _ _ (by lia)]
 |.ask k _,rs,h,i,m,op,_=>by rw[eP] at h;subst h;exact⟨m,rfl,by rw[dO],fun _ _=>rfl⟩
 |.put k _ _,rs,h,i,m,op,_=>by rw[eP] at h;subst h;exact⟨m,rfl,by rw[dO],fun _ _=>rfl⟩
 |.say k _,rs,h,i,m,op,_=>by rw[eP] at h;subst h;exact⟨m,rfl,by rw[dO],fun _ _=>rfl⟩
 |.cu k _ _ _,rs,h,i,m,op,_=>by rw[eP] at h;subst h;exact⟨m,rfl,by rw[dO],fun _ _=>rfl⟩
 |.stop k,rs,h,i,m,op,_=>by rw[eP] at h;subst h;exact⟨m,rfl,by rw[dO],fun _ _=>rfl⟩
theorem oA:∀(b:List bI) (rs:List Row),cG b rs->∀(i:Nat) (m:Mm) (op:List Nat),(∀o∈op,o<i)->∃m1,foldM i rs (m,op)=(m1,op)/\ic m1 b i rs/\∀j,(j<i\/i+rs.length<=j)->m1 j=m j
 |[],rs,h,i,m,op,_=>by rw[cG] at h;subst h;exact⟨m,rfl,by rw[ic],fun _ _=>rfl⟩
 |s::r,rs,h,i,m,op,ho=>by
  rw[cG] at h;obtain⟨r1,r2,h1,h2,rfl⟩:=h;obtain⟨m1,e1,s1,k1⟩:=Pn s r1 h1 i m op ho;obtain⟨m2,e2,s2,k2⟩:=oA r r2 h2 (i+r1.length) m1 op (fun o hx=>by have:=ho o hx;lia);refine⟨m2,?_,?_,?_⟩
  ·rw[jb,e1,e2]
  ·rw[ic];exact⟨r1,r2,dO.jI s s1 (fun j a b=>k2 j (by lia)),s2,rfl⟩
  ·intro j hj;rw[zae] at hj;rw[k2 j (by lia),k1 j (by lia)]
end
end PG
namespace PG
open PM (W Tr)
noncomputable def to (R:List Row) (m:Mm) (p:Nat):Int:=
 if h:p<R.length then
  match (R[p]).2 with
  |.oN=>match m p with
   |some (.back o)=>match m o with
    |some (.op _ (some e))=>if he:p<=e then to R m (e+1) else 0
    |_=>0
   |_=>0
  |.fin=>match m p with
   |some (.back o)=>match R[o]? with
    |some (k,.fh)=>k
    |_=>to R m (p+1)
   |_=>0
  |_=>(R[p]).1
 else 0
termination_by R.length-p
decreasing_by all_goals lia
theorem Et{R:List Row}{m:Mm}{p:Nat}(h:R.length<=p):to R m p=0:=by
 rw[to,dif_neg (by lia)]
theorem nj{R:List Row}{p:Nat}{r:Row}(h:R[p]?=some r):∃hp:p<R.length,R[p]=r:=zak.mp h
theorem Cq{R:List Row}{m:Mm}{p:Nat}{k:Int}{w:Wd}(h:R[p]?=some (k,w))(h1:w≠.oN)(h2:w≠.fin):to R m p=k:=by
 obtain⟨hp,e⟩:=nj h;rw[to,dif_pos hp,e];cases w<;>first |rfl |exact zzb rfl h1 |exact zzb rfl h2
theorem Kv{R:List Row}{m:Mm}{p o e:Nat}{k:Int}{x:Option Nat}(h:R[p]?=some (k,.oN))(h1:m p=some (.back o))(h2:m o=some (.op x (some e)))(h3:p<=e):to R m p=to R m (e+1):=by
 obtain⟨hp,q⟩:=nj h;rw[to,dif_pos hp,q];simp only[h1,h2];rw[dif_pos h3]
theorem Kw{R:List Row}{m:Mm}{p o:Nat}{k k':Int}(h:R[p]?=some (k,.fin))(h1:m p=some (.back o))(h2:R[o]?=some (k',.fh)):to R m p=k':=by
 obtain⟨hp,q⟩:=nj h;rw[to,dif_pos hp,q];simp only[h1,h2]
theorem Eu{R:List Row}{m:Mm}{p o:Nat}{k k':Int}(h:R[p]?=some (k,.fin))(h1:m p=some (.back o))(h2:R[o]?=some (k',.ifs)):to R m p=to R m (p+1):=by
 obtain⟨hp,q⟩:=nj h;rw[to,dif_pos hp,q];simp only[h1,h2]
def eG (R:List Row) (m:Mm) (p:Nat):List dM:=match R[p]? with
 |none=>[]
 |some (k,.stop)=>[(k,.stop,[0])]
 |some (_,.oN)=>[]
 |some (_,.fin)=>[]
 |some (k,.ifs)=>match m p with
  |some (.op x (some e))=>[(k,.ifs,[to R m (p+1),to R m (x.getD e+1)])]
  |_=>[]
 |some (k,.fh)=>match m p with
  |some (.op x (some e))=>[(k,.fh,[to R m (p+1),to R m (x.getD e+1)])]
  |_=>[]
 |some (k,w)=>[(k,w,[to R m (p+1)])]
noncomputable def bY (R:List Row) (m:Mm):Nat->Nat->List dM
 |_,0=>[]
 |i,n+1=>eG R m i++bY R m (i+1) n
theorem dH(R:List Row)(m:Mm):∀(a b i:Nat),bY R m i (a+b)=bY R m i a++bY R m (i+a) b
 |0,b,i=>by simp[bY]
 |a+1,b,i=>by
  rw[show a+1+b=(a+b)+1 by lia,bY,bY,dH R m a b (i+1),za1,show i+1+a=i+(a+1) by lia]
def At (R:List Row) (i:Nat) (rs:List Row):Prop:=∀j,j<rs.length->R[i+j]?=rs[j]?
theorem At.left{R:List Row}{i:Nat}{a b:List Row}(h:At R i (a++b)):At R i a:=fun j hj=>by
 rw[h j (by rw[zae];lia),zbX hj]
theorem At.right{R:List Row}{i:Nat}{a b:List Row}(h:At R i (a++b)):At R (i+a.length) b:=fun j hj=>by
 have:=h (a.length+j) (by rw[zae];lia);rw[zbC (by lia),show a.length+j-a.length=j by lia] at this;rw[show i+a.length+j=i+(a.length+j) by lia];exact this
theorem At.head{R:List Row}{i:Nat}{x:Row}{b:List Row}(h:At R i (x::b)):R[i]?=some x:=by
 have:=h 0 (by simp);simpa using this
theorem At.tail{R:List Row}{i:Nat}{x:Row}{b:List Row}(h:At R i (x::b)):At R (i+1) b:=At.right (a:=[x]) h
theorem Hz{m:Mm}:∀(s:bI) {i:Nat} {rs:List Row},dO m s i rs->∃t,rs=(s.row,s.wd)::t/\s.wd≠.oN/\s.wd≠.fin
 |.ifs k _ _ _ a b,i,rs,h=>by
  rw[dO] at h;rcases h with ⟨ra,n,_,_,rfl,_⟩ |⟨ra,rb,n,x,_,_,rfl,_⟩
  ·exact⟨_,rfl,by simp[bI.wd],by simp[bI.wd]⟩
  ·exact⟨_,rfl,by simp[bI.wd],by simp[bI.wd]⟩
 |.fh k _ _ _ a,i,rs,h=>by
  rw[dO] at h;obtain⟨ra,n,_,rfl,_⟩:=h;exact⟨_,rfl,by simp[bI.wd],by simp[bI.wd]⟩
 |.ask k _,_,rs,h=>by rw[dO] at h;exact⟨[],h,by simp[bI.wd],by simp[bI.wd]⟩
 |.put k _ _,_,rs,h=>by rw[dO] at h;exact⟨[],h,by simp[bI.wd],by simp[bI.wd]⟩
 |.say k _,_,rs,h=>by rw[dO] at h;exact⟨[],h,by simp[bI.wd],by simp[bI.wd]⟩
 |.cu k _ _ _,_,rs,h=>by rw[dO] at h;exact⟨[],h,by simp[bI.wd],by simp[bI.wd]⟩
 |.stop k,_,rs,h=>by rw[dO] at h;exact⟨[],h,by simp[bI.wd],by simp[bI.wd]⟩
theorem qk{R:List Row}{m:Mm}:∀(b:List bI) {i:Nat} {rs:List Row},ic m b i rs->At R i rs->to R m i=bj b (to R m (i+rs.length))
 |[],i,rs,h,_=>by rw[ic] at h;subst h;rfl
 |s::r,i,rs,h,ha=>by
  rw[ic] at h;obtain⟨r1,r2,h1,h2,rfl⟩:=h;obtain⟨t,rfl,n1,n2⟩:=Hz s h1;rw[Cq (At.head ha.left) n1 n2];rfl
mutual
theorem Ra{R:List Row}{m:Mm}:∀(s:bI) {i:Nat} {rs:List Row},dO m s i rs->At R i rs->bY R m i rs.length=dG s (to R m (i+rs.length))
 |.ifs k sg l r a b,i,rs,h,ha=>by
  rw[dO] at h;rcases h with ⟨ra,n,h1,rfl,rfl,h3,h4⟩ |⟨ra,rb,n,x,h1,h2,rfl,h3,h4,h5⟩
  ·have aH:=ha.head;have aA:=ha.tail.left;have aF:=ha.tail.right.head;have tF:to R m (i+1+ra.length)=to R m (i+1+ra.length+1):=Eu aF h4 aH;have tA:=qk a h1 aA;have e:((k,Wd.ifs)::(ra++[(n,Wd.fin)])).length=1+(ra.length+1):=by simp;lia
   rw[e,dH,dH,uW a h1 aA,dG,tF,show i+(1+(ra.length+1))=i+1+ra.length+1 by lia];have w1:bY R m i 1=[(k,.ifs,[bj a (to R m (i+1+ra.length+1)),to R m (i+1+ra.length+1)])]:=by
    simp only[bY,eG,aH,h3,zav,zcg];rw[tA,tF]
   have w2:bY R m (i+1+ra.length) 1=[]:=by simp only[bY,eG,aF,zav]
   rw[w1,w2];simp[aQ,bj]
  ·have aH:=ha.head;have aA:=ha.tail.left;have aE:=ha.tail.right.head;have aB:=ha.tail.right.tail.left;have aF:=ha.tail.right.tail.right.head;rw[show i+1+ra.length+1=i+2+ra.length by lia] at aB aF;have tF:to R m (i+2+ra.length+rb.length)=to R m (i+2+ra.length+rb.length+1):=Eu aF h5 aH;have tE:to R m (i+1+ra.length)=to R m (i+2+ra.length+rb.length+1):=Kv aE h4 h3 (by lia);have tA:=qk a h1 aA;have tB:=qk b h2 aB;have e:((k,Wd.ifs)::(ra++(n,Wd.oN)::(rb++[(x,Wd.fin)]))).length=1+(ra.length+(1+(rb.length+1))):=by simp;lia
   rw[e,dH,dH,dH,dH,uW a h1 aA,dG,show i+(1+(ra.length+(1+(rb.length+1))))=i+2+ra.length+rb.length+1 by lia,tE,show i+1+ra.length+1=i+2+ra.length by lia,uW b h2 aB,tF];have w1:bY R m i 1=[(k,.ifs,[bj a (to R m (i+2+ra.length+rb.length+1)),bj b (to R m (i+2+ra.length+rb.length+1))])]:=by
    simp only[bY,eG,aH,h3,zav,zch];rw[tA,tE,show i+1+ra.length+1=i+2+ra.length by lia,tB,tF]
   have w2:bY R m (i+1+ra.length) 1=[]:=by simp only[bY,eG,aE,zav]
   have w3:bY R m (i+2+ra.length+rb.length) 1=[]:=by simp only[bY,eG,aF,zav]
   rw[w1,w2,w3];simp
 |.fh k sg l r a,i,rs,h,ha=>by
  rw[dO] at h;obtain⟨ra,n,h1,rfl,h3,h4⟩:=h;have aH:=ha.head;have aA:=ha.tail.left;have aF:=ha.tail.right.head;have tF:to R m (i+1+ra.length)=k:=Kw aF h4 aH;have tA:=qk a h1 aA;have e:((k,Wd.fh)::(ra++[(n,Wd.fin)])).length=1+(ra.length+1):=by simp;lia
  rw[e,dH,dH,uW a h1 aA,dG,tF,show i+(1+(ra.length+1))=i+1+ra.length+1 by lia];have w1:bY R m i 1=[(k,.fh,[bj a k,to R m (i+1+ra.length+1)])]:=by
   simp only[bY,eG,aH,h3,zav,zcg];rw[tA,tF]
  have w2:bY R m (i+1+ra.length) 1=[]:=by simp only[bY,eG,aF,zav]
  rw[w1,w2];simp
 |.ask k _,i,rs,h,ha=>by rw[dO] at h;subst h;have:=ha.head;simp[bY,eG,this,dG]
 |.put k _ _,i,rs,h,ha=>by rw[dO] at h;subst h;have:=ha.head;simp[bY,eG,this,dG]
 |.say k _,i,rs,h,ha=>by rw[dO] at h;subst h;have:=ha.head;simp[bY,eG,this,dG]
 |.cu k _ _ _,i,rs,h,ha=>by rw[dO] at h;subst h;have:=ha.head;simp[bY,eG,this,dG]
 |.stop k,i,rs,h,ha=>by rw[dO] at h;subst h;have:=ha.head;simp[bY,eG,this,dG]
theorem uW{R:List Row}{m:Mm}:∀(b:List bI) {i:Nat} {rs:List Row},ic m b i rs->At R i rs->bY R m i rs.length=aQ b (to R m (i+rs.length))
 |[],i,rs,h,_=>by rw[ic] at h;subst h;rfl
 |s::r,i,rs,h,ha=>by
  rw[ic] at h;obtain⟨r1,r2,h1,h2,rfl⟩:=h;rw[zae,dH,Ra s h1 ha.left,uW r h2 ha.right,aQ,qk r h2 ha.right,show i+r1.length+r2.length=i+(r1.length+r2.length) by lia]
end
def oK (R:List Row):Mm:=(foldM 0 R (fun _=>none,[])).1
theorem HE{b:List bI}{R:List Row}(h:cG b R):bY R (oK R) 0 R.length=aQ b 0:=by
 obtain⟨m1,e,s,_⟩:=oA b R h 0 (fun _=>none) [] (by simp);have em:oK R=m1:=by unfold oK;rw[e]
 rw[em,uW b s (fun j _=>by rw[zbx]),zbx,Et (zaf _)]
end PG
namespace PG
open PM (W Tr)
def pd (n:Nat) (mode:Int) (rows:List Row):Prop:=(rows.filter plainRow).Pairwise (fun a b=>a.1<b.1)/\∀r∈rows.filter plainRow,0<r.1/\r.1<number n rows mode
theorem Ew(n:Nat)(rows:List Row)(mode:Int):0<number n rows mode:=by
 unfold number;split
 ·lia
 ·split<;>lia
theorem Cr(n:Nat)(rows:List Row)(mode:Int)(r:Row):number n rows mode<=number n (rows++[r]) mode/\(plainRow r=true->number n rows mode<number n (rows++[r]) mode):=by
 unfold number;simp only[zae,zax,za3];split
 ·exact⟨by lia,fun _=>by lia⟩
 ·split
  ·refine⟨by lia,fun h=>?_⟩;have:(List.filter (fun r:Row=>decide (r.2≠.oN/\r.2≠.fin)) [r]).length=1:=by
    unfold plainRow at h;rw[zcF,zzp h];rfl
   lia
  ·exact⟨by lia,fun _=>by lia⟩
theorem pd.more{n:Nat}{mode:Int}{rows:List Row}(h:pd n mode rows)(w:Wd):pd n mode (rows++[(number n rows mode,w)]):=by
 obtain⟨h1,h2⟩:=h;obtain⟨m1,m2⟩:=Cr n rows mode (number n rows mode,w);unfold pd;rw[za3];by_cases hp:plainRow (number n rows mode,w)=true
 ·rw[show [(number n rows mode,w)].filter plainRow=[(number n rows mode,w)] by rw[zcF,zzp hp];rfl];refine⟨zbI.mpr ⟨h1,List.pairwise_singleton _ _,fun a ha b hb=>?_⟩,fun r hr=>?_⟩
  ·rw[zar.mp hb];exact(h2 a ha).2
  ·rcases zaA.mp hr with hr |hr
   ·have:=h2 r hr;lia
   ·rw[zar.mp hr];exact⟨Ew _ _ _,m2 hp⟩
 ·rw[show [(number n rows mode,w)].filter plainRow=[] by rw[zcF,zzn hp];rfl,zav];refine⟨h1,fun r hr=>?_⟩;have:=h2 r hr;lia
theorem Kx(sc:List Int)(bs:List gm)(mode:Int){w:Walk}(h:pd bs.length mode w.rows):pd bs.length mode (turn sc bs mode w).rows:=by
 obtain⟨p,aY,rows⟩:=w;unfold turn;simp only at h ⊢;split
 ·exact h.more _
 ·cases aY with
  |nil=>exact h
  |cons f r=>
   simp only;split
   ·exact h.more _
   ·split
    ·exact h.more _
    ·exact h.more _
theorem zS(sc:List Int)(bs:List gm)(mode:Int):∀(n:Nat) {w:Walk},pd bs.length mode w.rows->pd bs.length mode (turns sc bs mode n w).rows
 |0,_,h=>h
 |n+1,_,h=>zS sc bs mode n (Kx sc bs mode h)
theorem Cs(n:Nat)(mode:Int):∀(m:Nat) {w:Walk},pd n mode w.rows->pd n mode (ends n mode m w).rows
 |0,_,h=>h
 |m+1,w,h=>by
  unfold ends;split
  ·exact Cs n mode m (h.more _)
  ·exact h
theorem zU(sc:List Int)(many p:Nat):(bV (cJ sc many p).1.body).Pairwise (fun a b=>a.1<b.1)/\∀r∈bV (cJ sc many p).1.body,0<r.1:=by
 rw[zM];have key:∃n mode,pd n mode (cJ sc many p).2:=by
  unfold cJ;simp only;generalize bH sc (next sc p%4) (next sc (p+1)%4).toNat 0 (p+2)=bs;refine⟨bs.1.length,next sc bs.2%4,Cs _ _ _ (zS _ _ _ _ ?_)⟩;exact⟨List.Pairwise.nil,fun r hr=>by cases hr⟩
 obtain⟨n,mode,h1,h2⟩:=key;exact⟨h1,fun r hr=>(h2 r hr).1⟩
mutual
noncomputable def nu:bI->List bI
 |.ifs k sg l r a b=>.ifs k sg l r a b::(az a++az b)
 |.fh k sg l r a=>.fh k sg l r a::az a
 |s=>[s]
noncomputable def az:List bI->List bI
 |[]=>[]
 |s::r=>nu s++az r
end
mutual
theorem HF:∀s:bI,(nu s).map (fun x=>(x.row,x.wd))=dU s
 |.ifs k sg l r a b=>by
  rw[nu,dU,zam,zaw,fQ a,fQ b];rfl
 |.fh k sg l r a=>by
  rw[nu,dU,zam,fQ a];rfl
 |.ask k _=>rfl
 |.put k _ _=>rfl
 |.say k _=>rfl
 |.cu k _ _ _=>rfl
 |.stop k=>rfl
theorem fQ:∀b:List bI,(az b).map (fun x=>(x.row,x.wd))=bV b
 |[]=>rfl
 |s::r=>by simp[az,bV,HF s,fQ r]
end
theorem Ky{b:List bI}(h:(bV b).Pairwise (fun a b=>a.1<b.1)):(az b).Pairwise (fun a b=>a.row<b.row):=by
 rw[<- fQ,zbe] at h;exact h
theorem tO(sc:List Int)(lT:Int):∀(n k p:Nat),k+n<=4->((bH sc lT n k p).1.map (·.name))=(zaH n).map (fun (i:Nat)=>pick [] dC (((k:Int)+i-lT)%4))
 |0,k,p,_=>rfl
 |n+1,k,p,h=>by
  rw[bH,List.range_succ_eq_map];simp only[zam,zbj];rw[tO sc lT n (k+1) (p+2) (by lia)]
  congr 1
  simp;intro i _;rw[show (k:Int)+1+(i:Int)=(k:Int)+((i:Int)+1) by lia]
theorem Ct(a b:Nat)(ha:a<4)(hb:b<4)(e:pick [] dC (a:Int)=pick [] dC (b:Int)):a=b:=by
 have key:∀(a b:Fin 4),pick [] dC ((a:Nat):Int)=pick [] dC ((b:Nat):Int)->a=b:=by decide
 exact congrArg Fin.val (key ⟨a,ha⟩ ⟨b,hb⟩ e)
theorem AS(sc:List Int)(p:Nat):((fk sc p).map (·.name)).Nodup/\(fk sc p).length<=4:=by
 unfold fk;have b:=jM sc (p+1);have l:=(jX sc (next sc p%4) (next sc (p+1)%4).toNat 0 (p+2)).1;rw[tO sc _ _ 0 _ (by lia),l];refine⟨?_,by lia⟩;have hn:(next sc (p+1)%4).toNat<=4:=by lia
 generalize (next sc (p+1)%4).toNat=n at *;generalize next sc p%4=lT at *;refine zbe.mpr (List.Pairwise.imp_of_mem ?_ (List.nodup_range (n:=n)));intro i j hi hj DA e;rw[zb3] at hi hj;have e1:((((0:Nat):Int)+i-lT)%4)=(((((0:Nat):Int)+i-lT)%4).toNat:Int):=by lia
 have e2:((((0:Nat):Int)+j-lT)%4)=(((((0:Nat):Int)+j-lT)%4).toNat:Int):=by lia
 rw[e1,e2] at e;have:=Ct _ _ (by lia) (by lia) e;lia
end PG
namespace PG
open PM (W Tr)
def cS:Nat->List Row->Mm×List Nat->Prop
 |_,[],_=>True
 |i,r::l,st=>(r.2=.oN\/r.2=.fin->∃o t e f,st.2=o::t/\st.1 o=some (.op e f))/\cS (i+1) l (tM st i r.2)
theorem kj:∀(a b:List Row) (i:Nat) (st:Mm×List Nat),cS i a st->cS (i+a.length) b (foldM i a st)->cS i (a++b) st
 |[],b,i,st,_,h=>h
 |r::a,b,i,st,h1,h2=>by
  rw[zaJ,cS];rw[cS] at h1;refine⟨h1.1,kj a b (i+1) _ h1.2 ?_⟩;rw[foldM,zah,show i+(a.length+1)=i+1+a.length by lia] at h2;exact h2
theorem Cu:∀(a:List Row) (i:Nat) (st:Mm×List Nat),cS i a st->∀j r,a[j]?=some r->(r.2=.oN\/r.2=.fin)->∃o t e f,(foldM i (a.take j) st).2=o::t/\(foldM i (a.take j) st).1 o=some (.op e f)
 |[],i,st,_,j,r,hj,_=>by simp at hj
 |x::a,i,st,h,0,r,hj,hr=>by
  rw[cS] at h;simp at hj;subst hj;exact h.1 hr
 |x::a,i,st,h,j+1,r,hj,hr=>by
  rw[cS] at h;rw[zdd,foldM];exact Cu a (i+1) _ h.2 j r (by simpa using hj) hr
mutual
theorem Uq:∀(s:bI) (rs:List Row),eP s rs->∀(i:Nat) (m:Mm) (op:List Nat),(∀o∈op,o<i)->cS i rs (m,op)
 |.ifs k sg l r a b,rs,h,i,m,op,ho=>by
  rw[eP] at h;rcases h with ⟨ra,n,h1,rfl,rfl⟩ |⟨ra,rb,n,x,h1,h2,rfl⟩
  ·obtain⟨m1,e1,s1,k1⟩:=oA a ra h1 (i+1) (m.set i (.op none none)) (i::op) (fJ ho (by lia));have mi:m1 i=some (.op none none):=by rw[k1 i (by lia),Mm.set_same]
   rw[cS];refine⟨fun z=>by simp at z,kj ra _ (i+1) _ (zV a ra h1 (i+1) _ _ (fJ ho (by lia))) ?_⟩;show cS _ _ (foldM (i+1) ra (m.set i (.op none none),i::op));rw[e1,cS,cS];exact⟨fun _=>⟨i,op,_,_,rfl,mi⟩,trivial⟩
  ·obtain⟨m1,e1,s1,k1⟩:=oA a ra h1 (i+1) (m.set i (.op none none)) (i::op) (fJ ho (by lia));have mi:m1 i=some (.op none none):=by rw[k1 i (by lia),Mm.set_same]
   obtain⟨m2,e2,s2,k2⟩:=oA b rb h2 (i+1+ra.length+1) ((m1.set i (qj (m1 i) (i+1+ra.length))).set (i+1+ra.length) (.back i)) (i::op) (fJ ho (by lia));have Yg:m2 i=some (.op (some (i+1+ra.length)) none):=by rw[k2 i (by lia),Mm.bO _ _ (by lia),Mm.set_same,mi];rfl
   rw[cS];refine⟨fun z=>by simp at z,kj ra _ (i+1) _ (zV a ra h1 (i+1) _ _ (fJ ho (by lia))) ?_⟩;show cS _ _ (foldM (i+1) ra (m.set i (.op none none),i::op));rw[e1,cS];refine⟨fun _=>⟨i,op,_,_,rfl,mi⟩,?_⟩;show cS _ (rb++[(x,.fin)]) ((m1.set i (qj (m1 i) (i+1+ra.length))).set (i+1+ra.length) (.back i),i::op);refine kj rb _ _ _ (zV b rb h2 _ _ _ (fJ ho (by lia))) ?_;rw[e2,cS,cS];exact⟨fun _=>⟨i,op,_,_,rfl,Yg⟩,trivial⟩
 |.fh k sg l r a,rs,h,i,m,op,ho=>by
  rw[eP] at h;obtain⟨ra,n,h1,rfl⟩:=h;obtain⟨m1,e1,s1,k1⟩:=oA a ra h1 (i+1) (m.set i (.op none none)) (i::op) (fJ ho (by lia));have mi:m1 i=some (.op none none):=by rw[k1 i (by lia),Mm.set_same]
  rw[cS];refine⟨fun z=>by simp at z,kj ra _ (i+1) _ (zV a ra h1 (i+1) _ _ (fJ ho (by lia))) ?_⟩;show cS _ _ (foldM (i+1) ra (m.set i (.op none none),i::op));rw[e1,cS,cS];exact⟨fun _=>⟨i,op,_,_,rfl,mi⟩,trivial⟩
 |.ask k _,rs,h,i,m,op,_=>by rw[eP] at h;subst h;rw[cS,cS];exact⟨fun z=>by simp at z,trivial⟩
 |.put k _ _,rs,h,i,m,op,_=>by rw[eP] at h;subst h;rw[cS,cS];exact⟨fun z=>by simp at z,trivial⟩
 |.say k _,rs,h,i,m,op,_=>by rw[eP] at h;subst h;rw[cS,cS];exact⟨fun z=>by simp at z,trivial⟩
 |.cu k _ _ _,rs,h,i,m,op,_=>by rw[eP] at h;subst h;rw[cS,cS];exact⟨fun z=>by simp at z,trivial⟩
 |.stop k,rs,h,i,m,op,_=>by rw[eP] at h;subst h;rw[cS,cS];exact⟨fun z=>by simp at z,trivial⟩
theorem zV:∀(b:List bI) (rs:List Row),cG b rs->∀(i:Nat) (m:Mm) (op:List Nat),(∀o∈op,o<i)->cS i rs (m,op)
 |[],rs,h,i,m,op,_=>by rw[cG] at h;subst h;rw[cS];trivial
 |s::r,rs,h,i,m,op,ho=>by
  rw[cG] at h;obtain⟨r1,r2,h1,h2,rfl⟩:=h;obtain⟨m1,e1,s1,k1⟩:=Pn s r1 h1 i m op ho;refine kj r1 r2 i _ (Uq s r1 h1 i m op ho) ?_;rw[e1];exact zV r r2 h2 _ _ _ (fun o hx=>by have:=ho o hx;lia)
end
def Yh (R:List Row) (m:Mm) (p:Nat):Prop:=∃x e,m p=some (.op x (some e))/\p<=e/\e<R.length/\∀y,x=some y->y<R.length
def xB (R:List Row) (m:Mm) (p:Nat):Prop:=∀k w,R[p]?=some (k,w)->
 (w=.oN->∃o x e,m p=some (.back o)/\m o=some (.op x (some e))/\p<=e/\e<R.length)/\
 (w=.fin->∃o k' w',m p=some (.back o)/\R[o]?=some (k',w')/\(w'=.ifs\/w'=.fh))/\
 (w=.ifs\/w=.fh->Yh R m p)
theorem jw{R:List Row}{m:Mm}{p:Nat}{k:Int}{w:Wd}(h:R[p]?=some (k,w))(h1:w≠.oN)(h2:w≠.fin)(h3:w≠.ifs)(h4:w≠.fh):xB R m p:=fun k' w' e=>by
 rw[h] at e;cases e;exact⟨fun z=>zzb z h1,fun z=>zzb z h2,fun z=>z.elim (fun z=>zzb z h3) (fun z=>zzb z h4)⟩
theorem rN{R:List Row}{m:Mm}{p e:Nat}{x:Option Nat}{k:Int}{w:Wd}(h:R[p]?=some (k,w))(hw:w=.ifs\/w=.fh)(hm:m p=some (.op x (some e)))(he:p<=e)(le:e<R.length)(lx:∀y,x=some y->y<R.length):xB R m p:=fun k' w' q=>by
 rw[h] at q;cases q;exact⟨fun z=>(by rcases hw with rfl |rfl<;>cases z),fun z=>(by rcases hw with rfl |rfl<;>cases z),fun _=>⟨x,e,hm,he,le,lx⟩⟩
theorem uX{R:List Row}{m:Mm}{p o:Nat}{k k':Int}{w':Wd}(h:R[p]?=some (k,.fin))(hm:m p=some (.back o))(ho:R[o]?=some (k',w'))(hw:w'=.ifs\/w'=.fh):xB R m p:=fun k2 w2 q=>by
 rw[h] at q;cases q;exact⟨fun z=>(by cases z),fun _=>⟨o,k',w',hm,ho,hw⟩,fun z=>(by rcases z with z |z<;>cases z)⟩
theorem HG{R:List Row}{m:Mm}{p o e:Nat}{x:Option Nat}{k:Int}(h:R[p]?=some (k,.oN))(hm:m p=some (.back o))(ho:m o=some (.op x (some e)))(h1:p<=e)(h2:e<R.length):xB R m p:=fun k2 w2 q=>by
 rw[h] at q;cases q;exact⟨fun _=>⟨o,x,e,hm,ho,h1,h2⟩,fun z=>(by cases z),fun z=>(by rcases z with z |z<;>cases z)⟩
mutual
theorem NC{R:List Row}{m:Mm}:∀(s:bI) {i:Nat} {rs:List Row},dO m s i rs->At R i rs->∀j,j<rs.length->xB R m (i+j)
 |.ifs k sg l r a b,i,rs,h,ha,j,hj=>by
  rw[dO] at h;rcases h with ⟨ra,n,h1,rfl,rfl,m1,m2⟩ |⟨ra,rb,n,x,h1,h2,rfl,m1,m2,m3⟩
  ·have r0:=ha.head;have Ur:=ha.tail.left;have r2:=ha.tail.right.head;have l2:=(nj r2).1;simp only[zah,zae,zaB] at hj;rcases zcv j with rfl |jp
   ·exact rN r0 (.inl rfl) m1 (by lia) l2 (fun _ z=>by cases z)
   ·by_cases hz:j<ra.length+1
    ·have:=ql a h1 Ur (j-1) (by lia);rw[show i+1+(j-1)=i+j by lia] at this;exact this
    ·rw[show i+j=i+1+ra.length by lia];exact uX r2 m2 r0 (.inl rfl)
  ·have r0:=ha.head;have Ur:=ha.tail.left;have r2:=ha.tail.right.head;have rb':=ha.tail.right.tail.left;have r3:=ha.tail.right.tail.right.head;rw[show i+1+ra.length+1+rb.length=i+2+ra.length+rb.length by lia] at r3;rw[show i+1+ra.length+1=i+2+ra.length by lia] at rb';have l2:=(nj r2).1;have l3:=(nj r3).1;simp only[zah,zae,zaB] at hj;rcases zcv j with rfl |jp
   ·exact rN r0 (.inl rfl) m1 (by lia) l3 (fun _ z=>by cases z;exact l2)
   ·by_cases hz:j<ra.length+1
    ·have:=ql a h1 Ur (j-1) (by lia);rw[show i+1+(j-1)=i+j by lia] at this;exact this
    ·by_cases hy:j=ra.length+1
     ·rw[show i+j=i+1+ra.length by lia];exact HG r2 m2 m1 (by lia) l3
     ·by_cases hx:j<ra.length+2+rb.length
      ·have:=ql b h2 rb' (j-2-ra.length) (by lia);rw[show i+2+ra.length+(j-2-ra.length)=i+j by lia] at this;exact this
      ·rw[show i+j=i+2+ra.length+rb.length by lia];exact uX r3 m3 r0 (.inl rfl)
 |.fh k sg l r a,i,rs,h,ha,j,hj=>by
  rw[dO] at h;obtain⟨ra,n,h1,rfl,m1,m2⟩:=h;have r0:=ha.head;have Ur:=ha.tail.left;have r2:=ha.tail.right.head;have l2:=(nj r2).1;simp only[zah,zae,zaB] at hj;rcases zcv j with rfl |jp
  ·exact rN r0 (.inr rfl) m1 (by lia) l2 (fun _ z=>by cases z)
  ·by_cases hz:j<ra.length+1
   ·have:=ql a h1 Ur (j-1) (by lia);rw[show i+1+(j-1)=i+j by lia] at this;exact this
   ·rw[show i+j=i+1+ra.length by lia];exact uX r2 m2 r0 (.inr rfl)
 |.ask k _,i,rs,h,ha,j,hj=>by rw[dO] at h;subst h;have:=ha.head;simp at hj;subst hj;exact jw this (by simp) (by simp) (by simp) (by simp)
 |.put k _ _,i,rs,h,ha,j,hj=>by rw[dO] at h;subst h;have:=ha.head;simp at hj;subst hj;exact jw this (by simp) (by simp) (by simp) (by simp)
 |.say k _,i,rs,h,ha,j,hj=>by rw[dO] at h;subst h;have:=ha.head;simp at hj;subst hj;exact jw this (by simp) (by simp) (by simp) (by simp)
 |.cu k _ _ _,i,rs,h,ha,j,hj=>by rw[dO] at h;subst h;have:=ha.head;simp at hj;subst hj;exact jw this (by simp) (by simp) (by simp) (by simp)
 |.stop k,i,rs,h,ha,j,hj=>by rw[dO] at h;subst h;have:=ha.head;simp at hj;subst hj;exact jw this (by simp) (by simp) (by simp) (by simp)
theorem ql{R:List Row}{m:Mm}:∀(b:List bI) {i:Nat} {rs:List Row},ic m b i rs->At R i rs->∀j,j<rs.length->xB R m (i+j)
 |[],i,rs,h,ha,j,hj=>by rw[ic] at h;subst h;simp at hj
 |s::r,i,rs,h,ha,j,hj=>by
  rw[ic] at h;obtain⟨r1,r2,h1,h2,rfl⟩:=h;rw[zae] at hj;by_cases hz:j<r1.length
  ·exact NC s h1 ha.left j hz
  ·have:=ql r h2 ha.right (j-r1.length) (by lia);rw[show i+r1.length+(j-r1.length)=i+j by lia] at this;exact this
end
theorem zW{b:List bI}{R:List Row}(h:cG b R)(p:Nat)(hp:p<R.length):xB R (oK R) p:=by
 obtain⟨m1,e,s,_⟩:=oA b R h 0 (fun _=>none) [] (by simp);have em:oK R=m1:=by unfold oK;rw[e]
 rw[em];have:=ql b s (R:=R) (fun j _=>by rw[zbx]) p hp;rw[zbx] at this;exact this
end PG
namespace PG
open PM (W Tr)
theorem tP{α:Type}(d:α){l:List α}{i:Int}(h0:0<=i)(h1:i<l.length):pick d l i∈l:=by
 unfold pick;have lt:i.toNat<l.length:=by lia
 rw[zap,zac lt];exact zau lt
section
variable{nm:W->Prop}{ex:Tr->Prop}{sg:W->Prop}
mutual
theorem ND:∀(s x:bI),xx nm ex sg s->x∈nu s->xx nm ex sg x
 |.ifs k s l r a b,x,h,m=>by
  rw[nu] at m;rcases zag.mp m with rfl |m
  ·exact h
  ·rw[xx] at h;rcases zaA.mp m with m |m
   ·exact je a x h.2.2.2.1 m
   ·exact je b x h.2.2.2.2 m
 |.fh k s l r a,x,h,m=>by
  rw[nu] at m;rcases zag.mp m with rfl |m
  ·exact h
  ·rw[xx] at h;exact je a x h.2.2.2 m
 |.ask k b,x,h,m=>by simp only[nu,zar] at m;subst m;exact h
 |.put k b e,x,h,m=>by simp only[nu,zar] at m;subst m;exact h
 |.say k e,x,h,m=>by simp only[nu,zar] at m;subst m;exact h
 |.cu k s l r,x,h,m=>by simp only[nu,zar] at m;subst m;exact h
 |.stop k,x,h,m=>by simp only[nu,zar] at m;subst m;exact h
theorem je:∀(b:List bI) (x:bI),yR nm ex sg b->x∈az b->xx nm ex sg x
 |[],x,_,m=>by simp[az] at m
 |s::r,x,h,m=>by
  rw[az] at m;rw[yR] at h;rcases zaA.mp m with m |m
  ·exact ND s x h.1 m
  ·exact je r x h.2 m
end
end
end PG
namespace PG
open PM (W Tr)
def jx (bs:List gm):Tr->Prop
 |.num n=>0<=n/\n<1000
 |.box x=>x∈bs.map (·.name)
 |.bin o l r=>o∈([[43],[45],[42]]:List W)/\jx bs l/\jx bs r
theorem xC{bs:List gm}(sc:List Int)(q:Nat)(h:bs≠[]):(pick ⟨[],0,0⟩ bs (next sc q%bs.length)).name∈bs.map (·.name):=by
 have hp:0<bs.length:=zbg.mpr h;exact zaF.mpr ⟨_,tP _ (zaP _ (by lia)) (zaM _ (by lia)),rfl⟩
theorem Gf(sc:List Int)(p q:Nat):0<=next sc p%pick 1 [3,12,1000] (next sc q%3)/\next sc p%pick 1 [3,12,1000] (next sc q%3)<1000:=by
 have m:=tP (1:Int) (l:=[3,12,1000]) (i:=next sc q%3) (zaP _ (by decide)) (zaM _ (by decide));generalize pick (1:Int) [3,12,1000] (next sc q%3)=z at m;have hz:0<z/\z<=1000:=by
  simp only[zag,zcG,or_false] at m;rcases m with rfl |rfl |rfl<;>decide
 have h1:=zaP (next sc p) (b:=z) (by lia);have h2:=zaM (next sc p) (b:=z) hz.1;lia
theorem xD(sc:List Int)(bs:List gm):∀(d p:Nat),jx bs (cC sc bs d p).1
 |0,p=>by
  unfold cC;simp only;split
  ·rename_i h;rw[jx];exact xC sc _ h.1
  ·rw[jx];exact Gf sc _ _
 |d+1,p=>by
  unfold cC;simp only;split
  ·rename_i h;rw[jx];have b:=jM sc p;refine⟨tP _ (zaP _ (by decide)) (by show next sc p%7<3;exact h),xD sc bs d _,xD sc bs d _⟩
  ·split
   ·rename_i h;rw[jx];exact xC sc _ h.1
   ·rw[jx];exact Gf sc _ _
theorem Kz(sc:List Int)(many p:Nat):yR (·∈(fk sc p).map (·.name)) (fun e=>jx (fk sc p) e/\qi e<=2) (·∈BO) (cJ sc many p).1.body:=
 Es sc many p (fun h q=>xC sc q h) (fun d q hd=>⟨xD sc _ d q,zay (xA _ _ _ _) hd⟩) (fun q=>tP _ (zaP _ (by decide)) (zaM _ (by decide)))
theorem zX(sc:List Int)(lT:Int):∀(n k p:Nat),∀x∈(bH sc lT n k p).1,2<=x.size/\x.size<=10/\0<=x.first/\x.first<x.size
 |0,k,p,x,h=>by simp[bH] at h
 |n+1,k,p,x,h=>by
  rw[bH] at h;simp only[zag] at h;rcases h with rfl |h
  ·simp only;have h3:=zaP (next sc (p+1)) (b:=2+next sc p%3) (by lia);have h4:=zaM (next sc (p+1)) (b:=2+next sc p%3) (by lia);lia
  ·exact zX sc lT n (k+1) (p+2) x h
theorem yS(sc:List Int)(p:Nat):∀x∈fk sc p,2<=x.size/\x.size<=10/\0<=x.first/\x.first<x.size:=zX sc _ _ _ _
theorem HH(sc:List Int)(p:Nat):(fk sc p).length<=3:=by
 unfold fk;have b:=jM sc (p+1);rw[(jX sc (next sc p%4) (next sc (p+1)%4).toNat 0 (p+2)).1];lia
end PG
namespace PG
theorem KA{R:List Row}{b:List bI}(h:cG b R):to R (oK R) 0=bj b 0:=by
 obtain⟨m1,e,s,_⟩:=oA b R h 0 (fun _=>none) [] (by simp);have em:oK R=m1:=by unfold oK;rw[e]
 rw[em,qk b s (fun j _=>by rw[zbx]),zbx,Et (zaf _)]
def nv (r:dM):Prop:=0<r.2.2.length/\(r.2.1=.ifs\/r.2.1=.fh->1<r.2.2.length)
mutual
theorem HI:∀(s:bI) (x:Int),∀r∈dG s x,nv r
 |.ifs k sg l r a b,x,y,h=>by
  rw[dG] at h;simp only[zag,zaA] at h;rcases h with rfl |h |h
  ·simp[nv]
  ·exact jc a x y h
  ·exact jc b x y h
 |.fh k sg l r a,x,y,h=>by
  rw[dG] at h;simp only[zag] at h;rcases h with rfl |h
  ·simp[nv]
  ·exact jc a k y h
 |.ask k _,x,y,h=>by simp[dG] at h;subst h;simp[nv]
 |.put k _ _,x,y,h=>by simp[dG] at h;subst h;simp[nv]
 |.say k _,x,y,h=>by simp[dG] at h;subst h;simp[nv]
 |.cu k _ _ _,x,y,h=>by simp[dG] at h;subst h;simp[nv]
 |.stop k,x,y,h=>by simp[dG] at h;subst h;simp[nv]
theorem jc:∀(b:List bI) (x:Int),∀r∈aQ b x,nv r
 |[],x,y,h=>by simp[aQ] at h
 |s::r,x,y,h=>by
  rw[aQ,zaA] at h;rcases h with h |h
  ·exact HI s _ y h
  ·exact jc r x y h
end
end PG
namespace PG
theorem pf:∀(b:List bI) (x:Int),bj b x=x\/∃t∈az b,t.row=bj b x
 |[],x=>.inl rfl
 |s::r,x=>.inr ⟨s,by rw[az];exact zbT _ (by cases s<;>simp[nu]),rfl⟩
mutual
theorem KC:∀(s:bI) (x:Int),∀r∈dG s x,∀w∈r.2.2,w=0\/w=x\/∃t∈nu s,t.row=w
 |.ifs k sg l r a b,x,y,h,w,hw=>by
  rw[dG] at h;simp only[zag,zaA] at h;rw[nu];rcases h with rfl |h |h
  ·simp only[zag,zcG,or_false] at hw;rcases hw with rfl |rfl
   ·rcases pf a x with e |⟨t,ht,e⟩
    ·exact .inr (.inl e)
    ·exact .inr (.inr ⟨t,by simp[ht],e⟩)
   ·rcases pf b x with e |⟨t,ht,e⟩
    ·exact .inr (.inl e)
    ·exact .inr (.inr ⟨t,by simp[ht],e⟩)
  ·rcases pj a x y h w hw with e |e |⟨t,ht,e⟩
   ·exact .inl e
   ·exact .inr (.inl e)
   ·exact .inr (.inr ⟨t,by simp[ht],e⟩)
  ·rcases pj b x y h w hw with e |e |⟨t,ht,e⟩
   ·exact .inl e
   ·exact .inr (.inl e)
   ·exact .inr (.inr ⟨t,by simp[ht],e⟩)
 |.fh k sg l r a,x,y,h,w,hw=>by
  rw[dG] at h;simp only[zag] at h;rw[nu];have self:w=k->∃t∈(bI.fh k sg l r a::az a),t.row=w:=fun e=>⟨_,zaq ..,e.symm⟩
  rcases h with rfl |h
  ·simp only[zag,zcG,or_false] at hw;rcases hw with rfl |rfl
   ·rcases pf a k with e |⟨t,ht,e⟩
    ·exact .inr (.inr (self e))
    ·exact .inr (.inr ⟨t,by simp[ht],e⟩)
   ·exact .inr (.inl rfl)
  ·rcases pj a k y h w hw with e |e |⟨t,ht,e⟩
   ·exact .inl e
   ·exact .inr (.inr (self e))
   ·exact .inr (.inr ⟨t,by simp[ht],e⟩)
 |.ask k _,x,y,h,w,hw=>by simp[dG] at h;subst h;simp at hw;exact .inr (.inl hw)
 |.put k _ _,x,y,h,w,hw=>by simp[dG] at h;subst h;simp at hw;exact .inr (.inl hw)
 |.say k _,x,y,h,w,hw=>by simp[dG] at h;subst h;simp at hw;exact .inr (.inl hw)
 |.cu k _ _ _,x,y,h,w,hw=>by simp[dG] at h;subst h;simp at hw;exact .inr (.inl hw)
 |.stop k,x,y,h,w,hw=>by simp[dG] at h;subst h;simp at hw;exact .inl hw
theorem pj:∀(b:List bI) (x:Int),∀r∈aQ b x,∀w∈r.2.2,w=0\/w=x\/∃t∈az b,t.row=w
 |[],x,y,h,_,_=>by simp[aQ] at h
 |s::r,x,y,h,w,hw=>by
  rw[aQ,zaA] at h;rw[az];rcases h with h |h
  ·rcases KC s _ y h w hw with e |e |⟨t,ht,e⟩
   ·exact .inl e
   ·rcases pf r x with e2 |⟨t,ht,e2⟩
    ·exact .inr (.inl (e.trans e2))
    ·exact .inr (.inr ⟨t,zaL _ ht,e2.trans e.symm⟩)
   ·exact .inr (.inr ⟨t,zbT _ ht,e⟩)
  ·rcases pj r x y h w hw with e |e |⟨t,ht,e⟩
   ·exact .inl e
   ·exact .inr (.inl e)
   ·exact .inr (.inr ⟨t,zaL _ ht,e⟩)
end
def KD (b:List bI) (row:Int):Nat:=(az b).findIdx (fun s=>s.row==row)
theorem Gg{b:List bI}(pw:(az b).Pairwise (fun a b=>a.row<b.row))(i:Nat)(hi:i<(az b).length):KD b (az b)[i].row=i:=by
 unfold KD;rw[List.findIdx_eq hi];refine⟨by simp,fun j hj=>?_⟩;have:=zbJ.mp pw j i (by lia) hi hj;simp only[beq_eq_false_iff_ne,ne_eq];lia
end PG
namespace L2
open PG
open PySem
noncomputable def fZ:Wd->Str
 |.ask=>"ask" |.put=>"put" |.say=>"say" |.cu=>"must" |.stop=>"stop" |.ifs=>"if" |.fh=>"while" |.oN=>"else" |.fin=>"end"
mutual
noncomputable def eI:bI->Dp
 |.ask k b=>.tup [.str "ask",.int k,.str (S b)]
 |.put k b e=>.tup [.str "put",.int k,.str (S b),oJ e]
 |.say k e=>.tup [.str "say",.int k,oJ e]
 |.cu k sg l r=>.tup [.str "must",.int k,.str (S sg),oJ l,oJ r]
 |.stop k=>.tup [.str "stop",.int k]
 |.ifs k sg l r a b=>.tup [.str "if",.int k,.str (S sg),oJ l,oJ r,.lst (HJ a),.lst (HJ b)]
 |.fh k sg l r a=>.tup [.str "while",.int k,.str (S sg),oJ l,oJ r,.lst (HJ a)]
noncomputable def HJ:List bI->List Dp
 |[]=>[]
 |s::r=>eI s::HJ r
end
theorem gw:∀l:List bI,HJ l=l.map eI
 |[]=>rfl
 |s::r=>by rw[HJ,gw r];rfl
def jy (b:gm):Dp:=.tup [.str (S b.name),.int b.size,.int b.first]
def kB (p:PG.Prog):Dp:=.tup [.lst (p.ay.map jy),.lst (p.body.map eI)]
def mw (r:PG.Row):Dp:=.lst [.int r.1,.str (fZ r.2)]
noncomputable def eS:Tg->Dp
 |.row k=>.tup [.str "row",.int k]
 |.side k b=>.tup [.str "side",.int k,.bl b]
 |.cu k=>.tup [.str "must",.int k]
 |.fin=>.tup [.str "end"]
def ba (O:zdk->Prop) (H H':Hp):Prop:=∀b o,¬O b->H b=some o->H' b=some o
def Fix (K:zaa) (O:zdk->Prop) (H:Hp) (d:Dp) (v:V):Prop:=∀H',ba O H H'->Rep K H' d v
def eJ (K:zaa) (O:zdk->Prop) (H:Hp) (ds:List Dp) (vs:List V):Prop:=∀H',ba O H H'->aN K H' ds vs
section
variable{K:zaa}{O O':zdk->Prop}{H H1 H2:Hp}{d:Dp}{ds:List Dp}{v:V}{vs:List V}{p:zdk}{o:HO}
theorem ba.refl:ba O H H:=fun _ _ _ e=>e
theorem ba.trans(a:ba O H H1)(b:ba O H1 H2):ba O H H2:=fun c u n e=>b c u n (a c u n e)
theorem ba.of(s:aq H H1):ba O H H1:=fun b u _ e=>s b u e
theorem ba.mono(a:ba O H H1)(i:∀b,O b->O' b):ba O' H H1:=fun b u n e=>a b u (fun z=>n (i b z)) e
theorem ba.one(a:aZ p H H1)(hp:O p):ba O H H1:=fun b u n e=>a b u (fun z=>n (by rw[z];exact hp)) e
theorem ba.put(a:ba O H H1)(hp:O p)(u:HO):ba O H (upd H1 p u):=fun b w n e=>by rw[aw (fun z=>n (by rw[z];exact hp))];exact a b w n e
theorem Fix.up(f:Fix K O H d v)(u:ba O H H1):Fix K O H1 d v:=fun H2 u2=>f H2 (u.trans u2)
theorem eJ.up(f:eJ K O H ds vs)(u:ba O H H1):eJ K O H1 ds vs:=fun H2 u2=>f H2 (u.trans u2)
theorem Fix.rep(f:Fix K O H d v):Rep K H d v:=f H .refl
theorem eJ.HK(f:eJ K O H ds vs):aN K H ds vs:=f H .refl
theorem Fix.sub(f:Fix K O H d v)(i:∀b,O' b->O b):Fix K O' H d v:=fun H2 u=>f H2 (u.mono i)
theorem eJ.sub(f:eJ K O H ds vs)(i:∀b,O' b->O b):eJ K O' H ds vs:=fun H2 u=>f H2 (u.mono i)
theorem Fix.apart(f:Fix K O H d v)(hp:H p=none):Fix K (fun b=>O b\/b=p) (upd H p o) d v:=fun H2 u=>f H2 fun b w n e=>by
 have np:b≠p:=ai e hp;exact u b w (fun z=>z.elim n np) (by rw[aw np];exact e)
theorem eJ.apart(f:eJ K O H ds vs)(hp:H p=none):eJ K (fun b=>O b\/b=p) (upd H p o) ds vs:=fun H2 u=>f H2 fun b w n e=>by
 have np:b≠p:=ai e hp;exact u b w (fun z=>z.elim n np) (by rw[aw np];exact e)
theorem eJ.nil:eJ K O H [] []:=fun _ _=>.nil
theorem eJ.cons(a:Fix K O H d v)(b:eJ K O H ds vs):eJ K O H (d::ds) (v::vs):=fun H2 u=>.cons (a H2 u) (b H2 u)
theorem eJ.snoc(b:eJ K O H ds vs)(a:Fix K O H d v):eJ K O H (ds++[d]) (vs++[v]):=fun H2 u=>(b H2 u).append (.cons (a H2 u) .nil)
theorem Fix.int{i:Int}:Fix K O H (.int i) (.int i):=fun _ _=>Rep.bt.mpr rfl
theorem Fix.str{x:Str}:Fix K O H (.str x) (.str x):=fun _ _=>Rep.bA.mpr rfl
theorem Fix.bl{x:Bool}:Fix K O H (.bl x) (.bl x):=fun _ _=>Rep.lP.mpr rfl
theorem Fix.tup(h:H p=some (.tup vs))(n:¬O p)(f:eJ K O H ds vs):Fix K O H (.tup ds) (.ref p):=fun H2 u=>Rep.bg.mpr ⟨p,vs,rfl,.of (u p _ n h),f H2 u⟩
theorem Fix.lst(h:H p=some (.lst vs))(n:¬O p)(f:eJ K O H ds vs):Fix K O H (.lst ds) (.ref p):=fun H2 u=>Rep.bL.mpr ⟨p,vs,rfl,.of (u p _ n h),f H2 u⟩
end
structure i3(K:zaa)(H:Hp)(D S:zdk)(sc:List Int)(p:Nat):Prop where
 bF:H D=some (.lst [.ref S,.int p])
 fX:H S=some (.lst (sc.map .int))
 ne:S≠D
 len:sc.length<=63
end L2
namespace L2
open PG
open PySem
section
variable(K:zaa)
def uY:Sp:=fun vs H Q _=>∃(D S:zdk) (sc:List Int) (p:Nat),vs=[.ref D]/\i3 K H D S sc p/\p<=1000000/\∀H',aZ D H H'->i3 K H' D S sc (p+1)->Q (.int (PG.next sc p)) H'
end
theorem i3.same{K:zaa}{H H':Hp}{D S:zdk}{sc:List Int}{p:Nat}(d:i3 K H D S sc p)(s:aq H H'):i3 K H' D S sc p:=⟨s _ _ d.bF,s _ _ d.fX,d.ne,d.len⟩
theorem Gh{a:Option V}{r:St}{H:Hp}{Q:VK}:(gk 13 (a::r) H Q)=(gk 12 r H Q):=rfl
theorem Gi{a:Option V}{r:St}{H:Hp}{Q:VK}:(gk 14 (a::r) H Q)=(gk 13 r H Q):=rfl
def jT (K:zaa) (O:zdk->Prop) (H:Hp) (B:zdk) (bs:List gm):Prop:=Fix K O H (.lst (bs.map jy)) (.ref B)/\bs.length<=10
def Own (K:zaa) (H0 H:Hp) (d:Dp) (v:V):Prop:=∀O:zdk->Prop,(∀b,O b->H0 b≠none)->Fix K O H d v
section
variable(K:zaa)
def xE (n:Nat):Sp:=fun vs H Q _=>∃(D S B:zdk) (sc:List Int) (p d:Nat) (bs:List gm),vs=[.ref D,.ref B,.int d]/\d<n/\i3 K H D S sc p/\p+4*2 ^ d<=100000/\jT K (·=D) H B bs/\
 ∀v H',aZ D H H'->i3 K H' D S sc (cC sc bs d p).2->Own K H H' (oJ (cC sc bs d p).1) v->Q v H'
def Ex:Sp:=fun vs H Q _=>∃(D S:zdk) (sc:List Int) (p:Nat),vs=[.ref D]/\i3 K H D S sc p/\p<=90000/\
 ∀B H',aZ D H H'->i3 K H' D S sc (bH sc (PG.next sc p%4) (PG.next sc (p+1)%4).toNat 0 (p+2)).2->H B=none->
  Own K H H' (.lst ((bH sc (PG.next sc p%4) (PG.next sc (p+1)%4).toNat 0 (p+2)).1.map jy)) (.ref B)->Q (.ref B) H'
def Ey:Sp:=fun vs H Q _=>∃(D S B:zdk) (sc:List Int) (p:Nat) (k:Int) (bs:List gm),vs=[.ref D,.ref B,.int k]/\i3 K H D S sc p/\p<=90000/\jT K (·=D) H B bs/\
 ∀v H',aZ D H H'->i3 K H' D S sc (bR sc bs k p).2->Own K H H' (eI (bR sc bs k p).1) v->Q v H'
end
section
variable{K:zaa}{O:zdk->Prop}{H0 H H1:Hp}{d:Dp}{v:V}{D B:zdk}{bs:List gm}
theorem Own.up(f:Own K H0 H d v)(u:aZ D H H1)(hD:H0 D≠none):Own K H0 H1 d v:=fun O hO=>by
 have:=f (fun b=>O b\/b=D) (fun b hb=>hb.elim (hO b) (fun e=>e▸hD));exact(this.up (ba.one u (.inr rfl))).sub fun b hb=>.inl hb
theorem Own.back{H00:Hp}(f:Own K H0 H d v)(h:∀b,H00 b≠none->H0 b≠none):Own K H00 H d v:=fun O hO=>f O fun b hb=>h b (hO b hb)
theorem jT.up(f:jT K (·=D) H B bs)(u:aZ D H H1):jT K (·=D) H1 B bs:=⟨f.1.up (ba.one u rfl),f.2⟩
theorem jT.same(f:jT K (·=D) H B bs)(s:aq H H1):jT K (·=D) H1 B bs:=⟨f.1.up (.of s),f.2⟩
theorem aZ.qF(u:aZ D H H1)(hD:H1 D≠none):∀b,H b≠none->H1 b≠none:=fun b hb=>by
 by_cases e:b=D
 ·rw[e];exact hD
 ·cases z:H b with
  |none=>exact zzb z hb
  |some o=>rw[u b o e z];simp
theorem jT.list(f:jT K O H B bs):∃xs,i6 K H B xs/\xs.length=bs.length/\∀(i:Nat) (b:gm),bs[i]?=some b->∃a ys,xs[i]?=some (.ref a)/\bQ K H a ys/\ys=[.str (S b.name),.int b.size,.int b.first]:=by
 have r:=f.1.rep;rw[Rep.bL] at r;obtain⟨a,xs,e,q,rs⟩:=r;cases e;refine⟨xs,q,by rw[rs.length,zad],fun i b hb=>?_⟩;obtain⟨v,hv,rv⟩:=rs.get (i:=i) (d:=jy b) (by rw[zal,hb];rfl);unfold jy at rv;rw[Rep.bg] at rv;obtain⟨a2,ys,rfl,q2,r2⟩:=rv;refine⟨a2,ys,hv,q2,?_⟩;rw[aN.aI] at r2;obtain⟨v1,t1,rfl,e1,r2⟩:=r2;rw[aN.aI] at r2;obtain⟨v2,t2,rfl,e2,r2⟩:=r2;rw[aN.aI] at r2;obtain⟨v3,t3,rfl,e3,r2⟩:=r2;rw[aN.br] at r2;subst r2;rw[Rep.bA] at e1;rw[Rep.bt] at e2 e3;subst e1 e2 e3;rfl
end
def my (K:zaa) (H0 H:Hp) (ds:List Dp) (vs:List V):Prop:=∀O:zdk->Prop,(∀b,O b->H0 b≠none)->eJ K O H ds vs
section
variable{K:zaa}{H0 H H1:Hp}{d:Dp}{v:V}{ds:List Dp}{vs:List V}{D p:zdk}
theorem my.nil:my K H0 H [] []:=fun _ _=>eJ.nil
theorem my.cons(a:Own K H0 H d v)(b:my K H0 H ds vs):my K H0 H (d::ds) (v::vs):=fun O h=>eJ.cons (a O h) (b O h)
theorem Own.int{i:Int}:Own K H0 H (.int i) (.int i):=fun _ _=>Fix.int
theorem Own.str{x:Str}:Own K H0 H (.str x) (.str x):=fun _ _=>Fix.str
theorem my.same(f:my K H0 H ds vs)(s:aq H H1):my K H0 H1 ds vs:=fun O hO=>(f O hO).up (.of s)
theorem jY(hp:H p=none)(qF:∀b,H0 b≠none->H b≠none)(f:my K H0 H ds vs):Own K H0 (upd H p (.tup vs)) (.tup ds) (.ref p):=fun O hO=>by
 have np:¬O p:=fun z=>qF p (hO p z) hp;exact Fix.tup ae np ((f.same (aq.new hp _)) O hO)
end
theorem jT.pick{K:zaa}{O:zdk->Prop}{H:Hp}{B:zdk}{bs:List gm}(f:jT K O H B bs){i:Int}(h0:0<=i)(h1:i<bs.length){Q:VK}(q:Q (.str (S (PG.pick ⟨[],0,0⟩ bs i).name)) H) :
 AG K (.ref B) (.int i) H (fun x H1=>Eb K x (.int 0) H1 Q):=by
 obtain⟨xs,hx,_,get⟩:=f.list;have lt:i.toNat<bs.length:=by lia
 have e:bs[i.toNat]?=some (PG.pick ⟨[],0,0⟩ bs i):=by
  unfold PG.pick;rw[zap,zac lt];rfl
 obtain⟨a,ys,hy,q2,rfl⟩:=get _ _ e;have ei:i=((i.toNat:Nat):Int):=by lia
 refine bz hx (v:=.ref a) (by rw[ei];exact au hy) (aG q2 (v:=.str (S (PG.pick ⟨[],0,0⟩ bs i).name)) (au (j:=0) rfl) q)
theorem my.up{K:zaa}{H0 H H1:Hp}{ds:List Dp}{vs:List V}{D:zdk}(f:my K H0 H ds vs)(u:aZ D H H1)(hD:H0 D≠none):my K H0 H1 ds vs:=fun O hO=>by
 have:=f (fun b=>O b\/b=D) (fun b hb=>hb.elim (hO b) (fun e=>e▸hD));exact(this.up (ba.one u (.inr rfl))).sub fun b hb=>.inl hb
theorem my.snoc{K:zaa}{H0 H:Hp}{d:Dp}{v:V}{ds:List Dp}{vs:List V}(b:my K H0 H ds vs)(a:Own K H0 H d v):my K H0 H (ds++[d]) (vs++[v]):=fun O h=>eJ.snoc (b O h) (a O h)
theorem Rb{K:zaa}{H0 H:Hp}{ds:List Dp}{vs xs ys:List V}{B:zdk}(h:H B=some (.lst xs))(f:my K H0 H ds vs)(hB:H0 B≠none):my K H0 (upd H B (.lst ys)) ds vs:=f.up ((aZ.refl B H).put _) hB
noncomputable def tQ:Nat->Str
 |0=>"all"
 |1=>"if"
 |2=>"else"
 |_=>"while"
structure fq(K:zaa)(Oo:zdk->Prop)(H:Hp)(f:PG.Frame)(a b:zdk)(hd fi:V)(xs:List V):Prop where
 fr:H a=some (.lst [.str (tQ f.kind),.ref b,hd,fi])
 bd:H b=some (.lst xs)
 ok:eJ K Oo H (f.body.map eI) xs
 HL:f.kind≠0->∃c ys,hd=.ref c/\H c=some (.tup ys)/\¬Oo c/\eJ K Oo H [.str (if f.kind=3 then "while" else "if"),.int f.k,.str (S f.sg),oJ f.l,oJ f.r] ys
 KG:f.kind=2->Fix K Oo H (.lst (f.first.map eI)) fi
 len:xs.length=f.body.length
abbrev xF:=PG.Frame×zdk×zdk
noncomputable def i4 (D P R:zdk) (dh:List xF):List zdk:=D::P::R::dh.flatMap fun x=>[x.2.1,x.2.2]
def O (D P R:zdk) (dh:List xF) (E:List zdk):zdk->Prop:=fun b=>b∈i4 D P R dh\/b∈E
structure mz(K:zaa)(H:Hp)(D S:zdk)(sc:List Int)(p:Nat)(B:zdk)(bs:List gm)(P R:zdk)(dh:List xF)(rows:List PG.Row)(E:List zdk):Prop where
 bF:i3 K H D S sc p
 box:Fix K (O D P R dh E) H (.lst (bs.map jy)) (.ref B)
 uZ:bs.length<=10
 aY:H P=some (.lst (dh.reverse.map fun x=>.ref x.2.1))
 frames:∀x∈dh,∃hd fi xs,fq K (O D P R dh E) H x.1 x.2.1 x.2.2 hd fi xs
 rows:∃yJ,H R=some (.lst yJ)/\eJ K (O D P R dh E) H (rows.map mw) yJ/\yJ.length=rows.length
 nd:(i4 D P R dh).Nodup
 nS:S ∉ i4 D P R dh
section
variable{K:zaa}{H H':Hp}{D S B P R:zdk}{sc:List Int}{p p':Nat}{bs:List gm}{dh:List xF}{rows:List PG.Row}{E E':List zdk}
theorem fq.up{Oo:zdk->Prop}{f:PG.Frame}{a b:zdk}{hd fi:V}{xs:List V}(x:fq K Oo H f a b hd fi xs)(u:ba Oo H H')(ha:H' a=H a)(hb:H' b=H b):fq K Oo H' f a b hd fi xs:=
 ⟨ha.trans x.fr,hb.trans x.bd,x.ok.up u,fun z=>let ⟨c,ys,e,h,n,g⟩:=x.HL z;⟨c,ys,e,u _ _ n h,n,g.up u⟩,fun z=>(x.KG z).up u,x.len⟩
theorem fq.sub{O1 O2:zdk->Prop}{f:PG.Frame}{a b:zdk}{hd fi:V}{xs:List V}(x:fq K O1 H f a b hd fi xs)(i:∀c,O2 c->O1 c):fq K O2 H f a b hd fi xs:=
 ⟨x.fr,x.bd,x.ok.sub i,fun z=>let ⟨c,ys,e,h,n,g⟩:=x.HL z;⟨c,ys,e,h,fun w=>n (i c w),g.sub i⟩,fun z=>(x.KG z).sub i,x.len⟩
theorem fq.apart{O1:zdk->Prop}{f:PG.Frame}{a b q:zdk}{hd fi:V}{xs:List V}{o:HO}(x:fq K O1 H f a b hd fi xs)(hq:H q=none):fq K (fun c=>O1 c\/c=q) (upd H q o) f a b hd fi xs:=
 ⟨by rw[aw (ai x.fr hq)];exact x.fr,by rw[aw (ai x.bd hq)];exact x.bd,x.ok.apart hq,fun z=>let ⟨c,ys,e,h,n,g⟩:=x.HL z;⟨c,ys,e,by rw[aw (ai h hq)];exact h,fun w=>w.elim n (ai h hq),g.apart hq⟩,fun z=>(x.KG z).apart hq,x.len⟩
theorem mz.ne(s:mz K H D S sc p B bs P R dh rows E):D≠P/\D≠R/\P≠R/\∀x∈dh,x.2.1≠D/\x.2.2≠D/\x.2.1≠P/\x.2.2≠P/\x.2.1≠R/\x.2.2≠R:=by
 have nd:=s.nd;unfold i4 at nd;rw[zaE,zaE,zaE] at nd;obtain⟨h1,h2,h3,h4⟩:=nd;simp only[zag,not_or] at h1 h2;refine⟨h1.1,h1.2.1,h2.1,fun x hx=>?_⟩;have m1:x.2.1∈dh.flatMap fun x=>[x.2.1,x.2.2]:=zbc.mpr ⟨x,hx,by simp⟩;have m2:x.2.2∈dh.flatMap fun x=>[x.2.1,x.2.2]:=zbc.mpr ⟨x,hx,by simp⟩;exact⟨fun e=>h1.2.2 (e▸m1),fun e=>h1.2.2 (e▸m2),fun e=>h2.2 (e▸m1),fun e=>h2.2 (e▸m2),fun e=>h3 (e▸m1),fun e=>h3 (e▸m2)⟩
theorem mz.qF(s:mz K H D S sc p B bs P R dh rows E):∀b,b∈i4 D P R dh->H b≠none:=fun b hb=>by
 unfold i4 at hb;simp only[zag,zbc] at hb;rcases hb with rfl |rfl |rfl |⟨x,hx,hb⟩
 ·rw[s.bF.bF];simp
 ·rw[s.aY];simp
 ·obtain⟨yJ,h,_⟩:=s.rows;rw[h];simp
 ·obtain⟨hd,fi,xs,fa⟩:=s.frames x hx;simp only[za6,or_false] at hb;rcases hb with rfl |rfl
  ·rw[fa.fr];simp
  ·rw[fa.bd];simp
theorem mz.fresh(s:mz K H D S sc p B bs P R dh rows E){q:zdk}(hq:H q=none):q ∉ i4 D P R dh:=fun z=>s.qF q z hq
theorem mz.draw(s:mz K H D S sc p B bs P R dh rows E)(u:aZ D H H')(dk:i3 K H' D S sc p'):mz K H' D S sc p' B bs P R dh rows E:=by
 obtain⟨n1,n2,n3,n4⟩:=s.ne;have uS:ba (O D P R dh E) H H':=ba.one u (.inl (by simp[i4]));refine⟨dk,s.box.up uS,s.uZ,u _ _ n1.symm s.aY,fun x hx=>?_,?_,s.nd,s.nS⟩
 ·obtain⟨hd,fi,xs,fa⟩:=s.frames x hx;obtain⟨m1,m2,_⟩:=n4 x hx;exact⟨hd,fi,xs,fa.up uS ((u _ _ m1 fa.fr).trans fa.fr.symm) ((u _ _ m2 fa.bd).trans fa.bd.symm)⟩
 ·obtain⟨yJ,h,f,l⟩:=s.rows;exact⟨yJ,u _ _ n2.symm h,f.up uS,l⟩
theorem mz.same(s:mz K H D S sc p B bs P R dh rows E)(e:aq H H'):mz K H' D S sc p B bs P R dh rows E:=s.draw (.of e) (s.bF.same e)
theorem mz.ay(s:mz K H D S sc p B bs P R dh rows E):jT K (·=D) H B bs:=⟨s.box.sub fun b hb=>.inl (by rw[show b=D from hb];simp[i4]),s.uZ⟩
theorem mz.less(s:mz K H D S sc p B bs P R dh rows E)(i:∀b,b∈E'->b∈E):mz K H D S sc p B bs P R dh rows E':=by
 have j:∀b,O D P R dh E' b->O D P R dh E b:=fun b hb=>hb.elim .inl fun z=>.inr (i b z);exact⟨s.bF,s.box.sub j,s.uZ,s.aY,fun x hx=>let ⟨hd,fi,xs,fa⟩:=s.frames x hx;⟨hd,fi,xs,fa.sub j⟩,let ⟨yJ,h,f,l⟩:=s.rows;⟨yJ,h,f.sub j,l⟩,s.nd,s.nS⟩
theorem mz.more(s:mz K H D S sc p B bs P R dh rows E){q:zdk}(hq:H q=none)(o:HO):mz K (upd H q o) D S sc p B bs P R dh rows (q::E):=by
 have j:∀b,O D P R dh (q::E) b->(O D P R dh E b\/b=q):=fun b hb=>by
  rcases hb with h |h
  ·exact .inl (.inl h)
  ·rcases zag.mp h with h |h
   ·exact .inr h
   ·exact .inl (.inr h)
 have sm:=aq.new hq o;exact⟨s.bF.same sm,(s.box.apart hq).sub j,s.uZ,sm _ _ s.aY,fun x hx=>let ⟨hd,fi,xs,fa⟩:=s.frames x hx;⟨hd,fi,xs,(fa.apart hq).sub j⟩,let ⟨yJ,h,f,l⟩:=s.rows;⟨yJ,sm _ _ h,(f.apart hq).sub j,l⟩,s.nd,s.nS⟩
theorem mz.row(s:mz K H D S sc p B bs P R dh rows E){yJ:List V}(hR:H R=some (.lst yJ)){k:Int}{w:Wd}{q:zdk}(hq:H q=some (.lst [.int k,.str (fZ w)]))(nq:¬O D P R dh E q):mz K (upd H R (.lst (yJ++[.ref q]))) D S sc p B bs P R dh (rows++[(k,w)]) E:=by
 obtain⟨n1,n2,n3,n4⟩:=s.ne;have mR:R∈i4 D P R dh:=by simp[i4]
 have uS:ba (O D P R dh E) H (upd H R (.lst (yJ++[.ref q]))):=ba.refl.put (.inl mR) _;have nSR:S≠R:=fun e=>s.nS (by rw[e];exact mR);refine⟨⟨by rw[aw n2];exact s.bF.bF,by rw[aw nSR];exact s.bF.fX,s.bF.ne,s.bF.len⟩,s.box.up uS,s.uZ,by rw[aw n3];exact s.aY,fun x hx=>?_,?_,s.nd,s.nS⟩
 ·obtain⟨hd,fi,xs,fa⟩:=s.frames x hx;obtain⟨_,_,_,_,m1,m2⟩:=n4 x hx;exact⟨hd,fi,xs,fa.up uS (aw m1) (aw m2)⟩
 ·obtain⟨ac3,h,f,l⟩:=s.rows;rw[hR] at h;cases h;refine⟨_,ae,?_,by simp[l]⟩;rw[zaw];exact(f.up uS).snoc (Fix.lst (by rw[aw (fun e=>nq (.inl (by rw[e];exact mR)))];exact hq) nq (.cons .int (.cons .str .nil)))
theorem mz.stm{f:PG.Frame}{a b:zdk}{r:List xF}(s:mz K H D S sc p B bs P R ((f,a,b)::r) rows E){xs:List V}(hb:H b=some (.lst xs)){st:bI}{v:V}(hv:Fix K (O D P R ((f,a,b)::r) E) H (eI st) v) :
 mz K (upd H b (.lst (xs++[v]))) D S sc p B bs P R (({f with body:=f.body++[st]},a,b)::r) rows E:=by
 obtain⟨n1,n2,n3,n4⟩:=s.ne;have mb:b∈i4 D P R ((f,a,b)::r):=by simp[i4]
 have uS:ba (O D P R ((f,a,b)::r) E) H (upd H b (.lst (xs++[v]))):=ba.refl.put (.inl mb) _;obtain⟨m1,m2,m3,m4,m5,m6⟩:=n4 _ (zaq ..);have Us:S≠b:=fun e=>s.nS (by rw[e];exact mb);have nd:=s.nd;have Po:a≠b/\∀x∈r,x.2.1≠b/\x.2.2≠b:=by
  unfold i4 at nd;rw[zaE,zaE,zaE,zaG] at nd;obtain⟨_,_,_,h4⟩:=nd;simp only[zaJ,zaK,zaE,zag,not_or] at h4;exact⟨h4.1.1,fun x hx=>⟨fun e=>h4.2.1 (zbc.mpr ⟨x,hx,by simp[e]⟩),fun e=>h4.2.1 (zbc.mpr ⟨x,hx,by simp[e]⟩)⟩⟩
 refine⟨⟨by rw[aw m2.symm];exact s.bF.bF,by rw[aw Us];exact s.bF.fX,s.bF.ne,s.bF.len⟩,s.box.up uS,s.uZ,by rw[aw m4.symm,s.aY,zbm,zbm,zaw,zaw];rfl,fun x hx=>?_,?_,s.nd,s.nS⟩
 ·rcases zag.mp hx with rfl |hx
  ·obtain⟨hd,fi,KI,fa⟩:=s.frames _ (zaq ..);have e:=fa.bd;rw[hb] at e;cases e;have fu:=(show fq K (O D P R ((f,a,b)::r) E) H f a b hd fi xs from fa)
   refine⟨hd,fi,_,⟨by rw[aw Po.1];exact fa.fr,ae,?_,fun z=>let ⟨c,ys,e,h,n,g⟩:=fu.HL z;⟨c,ys,e,uS _ _ n h,n,g.up uS⟩,fun z=>(fu.KG z).up uS,by simp[fu.len]⟩⟩;show eJ K _ _ ((f.body++[st]).map eI) _;rw[zaw];exact(fu.ok.up uS).snoc (hv.up uS)
  ·obtain⟨hd,fi,KI,fa⟩:=s.frames x (zat _ hx);exact⟨hd,fi,KI,fa.up uS (aw (Po.2 x hx).1) (aw (Po.2 x hx).2)⟩
 ·obtain⟨yJ,h,g,l⟩:=s.rows;exact⟨yJ,by rw[aw m6.symm];exact h,g.up uS,l⟩
theorem mz.pop{f:PG.Frame}{a b:zdk}{r:List xF}(s:mz K H D S sc p B bs P R ((f,a,b)::r) rows E) :
 mz K (upd H P (.lst (r.reverse.map fun x=>.ref x.2.1))) D S sc p B bs P R r rows (a::b::E)/\(∃hd fi xs,fq K (O D P R r (a::b::E)) (upd H P (.lst (r.reverse.map fun x=>.ref x.2.1))) f a b hd fi xs)/\a ∉ i4 D P R r/\b ∉ i4 D P R r/\a≠b:=by
 obtain⟨n1,n2,n3,n4⟩:=s.ne;have mP:P∈i4 D P R ((f,a,b)::r):=by simp[i4]
 have uS:ba (O D P R ((f,a,b)::r) E) H (upd H P (.lst (r.reverse.map fun x=>.ref x.2.1))):=ba.refl.put (.inl mP) _;have j:∀c,O D P R r (a::b::E) c->O D P R ((f,a,b)::r) E c:=fun c hc=>by
  simp only[O,i4,zag,zaG,zaJ,zaK] at hc ⊢;rcases hc with (h |h |h |h) |h |h |h
  ·exact .inl (.inl h)
  ·exact .inl (.inr (.inl h))
  ·exact .inl (.inr (.inr (.inl h)))
  ·exact .inl (.inr (.inr (.inr (.inr (.inr h)))))
  ·exact .inl (.inr (.inr (.inr (.inl h))))
  ·exact .inl (.inr (.inr (.inr (.inr (.inl h)))))
  ·exact .inr h
 have sub:∀c,c∈i4 D P R r->c∈i4 D P R ((f,a,b)::r):=fun c hc=>by
  simp only[i4,zag,zaG,zaJ,zaK] at hc ⊢;rcases hc with h |h |h |h
  ·exact .inl h
  ·exact .inr (.inl h)
  ·exact .inr (.inr (.inl h))
  ·exact .inr (.inr (.inr (.inr (.inr h))))
 have nd:=s.nd;unfold i4 at nd;rw[zaG] at nd;simp only[zaJ,zaK,zaE,zag,not_or] at nd;obtain⟨⟨d1,d2,d3,d4,d5⟩,⟨p1,p2,p3,p4⟩,⟨r1,r2,r3⟩,⟨a1,a2⟩,b1,fl⟩:=nd;have Yi:S≠P:=fun e=>s.nS (by rw[e];exact mP);obtain⟨m1,m2,m3,m4,m5,m6⟩:=n4 _ (zaq ..);refine⟨⟨⟨by rw[aw n1];exact s.bF.bF,by rw[aw Yi];exact s.bF.fX,s.bF.ne,s.bF.len⟩,(s.box.up uS).sub j,s.uZ,ae,fun x hx=>?_,?_,?_,fun z=>s.nS (sub _ z)⟩,?_,?_,?_,a1⟩
 ·obtain⟨hd,fi,KI,fa⟩:=s.frames x (zat _ hx);obtain⟨_,_,k3,k4,_,_⟩:=n4 x (zat _ hx);exact⟨hd,fi,KI,(fa.up uS (aw k3) (aw k4)).sub j⟩
 ·obtain⟨yJ,h,g,l⟩:=s.rows;exact⟨yJ,by rw[aw n3.symm];exact h,(g.up uS).sub j,l⟩
 ·unfold i4;simp only[zaE,zag,not_or];exact⟨⟨d1,d2,d5⟩,⟨p1,p4⟩,r3,fl⟩
 ·obtain⟨hd,fi,KI,fa⟩:=s.frames _ (zaq ..);exact⟨hd,fi,KI,(fa.up uS (aw m3) (aw m4)).sub j⟩
 ·unfold i4;simp only[zag,not_or];exact⟨m1,m3,m5,a2⟩
 ·unfold i4;simp only[zag,not_or];exact⟨m2,m4,m6,b1⟩
theorem mz.push(s:mz K H D S sc p B bs P R dh rows E){f:PG.Frame}{a b:zdk}{hd fi:V}{xs:List V}(fa:fq K (O D P R dh E) H f a b hd fi xs)(ha:a ∉ i4 D P R dh)(hb:b ∉ i4 D P R dh)(Rc:a≠b)(Yj:S≠a)(Us:S≠b)(ea:a∈E)(eb:b∈E) :
 mz K (upd H P (.lst ((dh.reverse.map fun x=>.ref x.2.1)++[.ref a]))) D S sc p B bs P R ((f,a,b)::dh) rows E:=by
 obtain⟨n1,n2,n3,n4⟩:=s.ne;have mP:P∈i4 D P R dh:=by simp[i4]
 have uS:ba (O D P R dh E) H (upd H P (.lst ((dh.reverse.map fun x=>.ref x.2.1)++[.ref a]))):=ba.refl.put (.inl mP) _;have j:∀c,O D P R ((f,a,b)::dh) E c->O D P R dh E c:=fun c hc=>by
  simp only[O,i4,zag,zaG,zaJ,zaK] at hc ⊢;rcases hc with (h |h |h |h |h |h) |h
  ·exact .inl (.inl h)
  ·exact .inl (.inr (.inl h))
  ·exact .inl (.inr (.inr (.inl h)))
  ·exact .inr (by rw[h];exact ea)
  ·exact .inr (by rw[h];exact eb)
  ·exact .inl (.inr (.inr (.inr h)))
  ·exact .inr h
 have Yi:S≠P:=fun e=>s.nS (by rw[e];exact mP);unfold i4 at ha hb;simp only[zag,not_or] at ha hb;have nd:=s.nd;unfold i4 at nd;simp only[zaE,zag,not_or] at nd;obtain⟨⟨d1,d2,d5⟩,⟨p1,p4⟩,r3,fl⟩:=nd;have nS:=s.nS;unfold i4 at nS;simp only[zag,not_or] at nS;refine⟨⟨by rw[aw n1];exact s.bF.bF,by rw[aw Yi];exact s.bF.fX,s.bF.ne,s.bF.len⟩,(s.box.up uS).sub j,s.uZ,by rw[ae,zbm,zaw];rfl,fun x hx=>?_,?_,?_,?_⟩
 ·rcases zag.mp hx with rfl |hx
  ·exact⟨hd,fi,xs,(fa.up uS (aw ha.2.1) (aw hb.2.1)).sub j⟩
  ·obtain⟨hd,fi,KI,fa⟩:=s.frames x hx;obtain⟨_,_,k3,k4,_,_⟩:=n4 x hx;exact⟨hd,fi,KI,(fa.up uS (aw k3) (aw k4)).sub j⟩
 ·obtain⟨yJ,h,g,l⟩:=s.rows;exact⟨yJ,by rw[aw n3.symm];exact h,(g.up uS).sub j,l⟩
 ·unfold i4;rw[zaG];simp only[zaJ,zaK,zaE,zag,not_or];exact⟨⟨d1,d2,fun e=>ha.1 e.symm,fun e=>hb.1 e.symm,d5⟩,⟨p1,fun e=>ha.2.1 e.symm,fun e=>hb.2.1 e.symm,p4⟩,⟨fun e=>ha.2.2.1 e.symm,fun e=>hb.2.2.1 e.symm,r3⟩,⟨Rc,ha.2.2.2⟩,hb.2.2.2,fl⟩
 ·unfold i4;rw[zaG];simp only[zaJ,zaK,zag,not_or];exact⟨nS.1,nS.2.1,nS.2.2.1,Yj,Us,nS.2.2.2⟩
end
theorem xG{K:zaa}{a D:zdk}{xs:List V}{tc:TT}{te:TE}{Q:VK}{r:St}{H:Hp}(p:Nat->Bool)(f:Nat->V)(hS:i6 K H a xs)(hl:xs.length<=16000000)(hD:H D=none)
 (test:∀i x,xs[i]?=some x->∀H2,aq H H2->∀R:Bool->Hp->Prop,(∀H3,aq H2 H3->R (p i) H3)->tc (some x::r) H2 R)
 (step:∀i x,xs[i]?=some x->p i=true->∀H2,aq H H2->∀R:VK,(∀H3,aq H2 H3->R (f i) H3)->te (some x::r) H2 R)
 (q:∀H2,aq H H2->H2 D=some (.lst (((zaH xs.length).filter p).map f))->Q (.ref D) H2):vM (IY K a) D (eO 0) tc te Q (none::r) (upd H D (.lst [])):=by
 refine⟨fun i m τ H2=>m=xs.length-i/\i<=xs.length/\(∃x,τ=x::r)/\aq H H2/\H2 D=some (.lst (((zaH i).filter p).map f)),⟨xs.length,by simp,zaZ _,⟨none,rfl⟩,aq.new hD _,by rw[ae];simp⟩,?_⟩
 rintro i m τ H2 ⟨rfl,hi,⟨x,rfl⟩,s2,h2⟩
 by_cases oy:i<xs.length
 ·refine .inr ⟨⟨xs,xs[i],s2.seq hS,by simp[oy]⟩,fun τ' H'=>(∃x,τ'=x::r)/\aq H H'/\H' D=some (.lst (((zaH (i+1)).filter p).map f)),fun τ' H' ⟨h1,h3,h4⟩=>⟨xs.length-(i+1),by lia,rfl,oy,h1,h3,h4⟩,fun y H' hy=>?_⟩;obtain⟨rfl,hy⟩:=hy;have ey:=hy _ (s2.seq hS);simp only[eO,zaT];refine test i y ey _ s2 _ fun H3 s3=>?_;have Yk:=s2.trans s3;have h3:=s3 _ _ h2;rw[zbz,za3,zaw];cases hp:p i with
  |false=>
   rw[zzn zai];exact⟨⟨_,rfl⟩,Yk,by rw[h3];simp[hp]⟩
  |true=>
   rw[zzp rfl];refine step i y ey hp _ Yk _ fun H4 s4=>⟨_,s4 _ _ h3,?_,⟨_,rfl⟩,?_,?_⟩
   ·have h1:(((zaH i).filter p).map f).length<=i:=by
     rw[zad];exact zay (zc1 _ _) (by rw[zbt];lia)
    have:zds=2 ^ 24:=rfl;lia
   ·intro b o e;rw[aw (ai e hD)];exact s4 _ _ (Yk _ _ e)
   ·rw[ae];simp[hp]
 ·have e:i=xs.length:=by lia
  subst e;exact .inl ⟨⟨xs,s2.seq hS,zaf _⟩,q H2 s2 h2⟩
theorem Cv{α:Type}(p:α->Bool)(d:α):∀l:List α,((zaH l.length).filter fun i=>p (l.getD i d)).length=(l.filter p).length:=by
 intro l;have e:l=(zaH l.length).map fun i=>l.getD i d:=by
  apply zbV
  ·simp
  ·intro i h1 h2;simp[h1]
 conv=>rhs;rw[e]
 rw[List.filter_map,zad];rfl
section
variable(K:zaa)
def KJ:Sp:=fun vs H Q _=>∃(B R:zdk) (bs:List gm) (rows:List PG.Row) (mode:Int),vs=[.ref B,.ref R,.int mode]/\Rep K H (.lst (bs.map jy)) (.ref B)/\Rep K H (.lst (rows.map mw)) (.ref R)/\bs.length<=10/\rows.length<=1000/\
 ∀H',aq H H'->Q (.int (PG.number bs.length rows mode)) H'
def NF:Sp:=fun vs H Q _=>∃(D S:zdk) (sc:List Int) (p:Nat) (B:zdk) (bs:List gm) (P R:zdk) (f g:PG.Frame) (a b a' b':zdk) (r:List xF) (rows:List PG.Row),vs=[.ref P]/\
 mz K H D S sc p B bs P R ((f,a,b)::(g,a',b')::r) rows []/\(f.kind=1\/f.kind=2\/f.kind=3)/\g.body.length<=1000/\r.length<=10/\
 ∀H',(∀c,H c≠none->H' c≠none)->(∀c o,c ∉ i4 D P R ((f,a,b)::(g,a',b')::r)->H c=some o->H' c=some o)->mz K H' D S sc p B bs P R (({g with body:=g.body++[f.told]},a',b')::r) rows []->Q .cB H'
end
theorem Cw{X:Cx}{K:zaa}(h:X.K=K):JH X (AG K):=h▸a9
theorem iD{X:Cx}{K:zaa}(h:X.K=K):JH X (Eb K):=h▸aM
theorem HM{X:Cx}{K:zaa}(h:X.K=K):rK X (compareOp .NotIn) (X4 K true):=h▸tG
def Kept (D:zdk) (H H':Hp):Prop:=aZ D H H'/\∀b,H b≠none->H' b≠none
theorem Kept.up{D:zdk}{H H1 H2:Hp}(k:Kept D H H1)(u:aZ D H1 H2)(hD:H2 D≠none):Kept D H H2:=⟨k.1.trans u,fun b hb=>u.qF hD b (k.2 b hb)⟩
theorem Kept.same{D:zdk}{H H1 H2:Hp}(k:Kept D H H1)(s:aq H1 H2):Kept D H H2:=⟨k.1.trans (.of s),fun b hb=>by
 have:=k.2 b hb;cases z:H1 b with
 |none=>exact zzb z this
 |some o=>rw[s _ _ z];simp⟩
theorem Kept.put{D q:zdk}{H H1:Hp}(k:Kept D H H1)(hq:H q=none)(o:HO):Kept D H (upd H1 q o):=⟨fun b u n e=>by rw[aw (ai e hq)];exact k.1 b u n e,fun b hb=>by
 by_cases z:b=q
 ·rw[z,ae];simp
 ·rw[aw z];exact k.2 b hb⟩
theorem AU{c:TT}{ta tb:TS}{D:Ends}{σ:St}{H:Hp}(h:∀U:St->Hp->Prop,(∀σ' H',tb D σ' H'->U σ' H')->G4 c ta (fun _ σ H=>U σ H) D σ H):G4 c ta tb D σ H:=h (tb D) fun _ _ x=>x
theorem KL{K:zaa}{H:Hp}:∀(s:bI) {v:V},Rep K H (eI s) v->∃a ys,v=.ref a/\bQ K H a (.str (fZ s.wd)::ys):=by
 intro s v h;have key:∃ds,eI s=.tup (.str (fZ s.wd)::ds):=by
  cases s<;>exact⟨_,by rw[eI];rfl⟩
 obtain⟨ds,e⟩:=key;rw[e,Rep.bg] at h;obtain⟨a,xs,rfl,q,r⟩:=h;rw[aN.aI] at r;obtain⟨v1,t1,rfl,e1,_⟩:=r;rw[Rep.bA] at e1;subst e1;exact⟨a,t1,rfl,q⟩
noncomputable def aK:bI->List (List bI)
 |.ifs _ _ _ _ a b=>[a,b]
 |.fh _ _ _ _ a=>[a]
 |_=>[]
noncomputable def iE (s:bI) (x:Int):Int:=match s with
 |.fh k _ _ _ _=>k
 |_=>x
def pz (s:bI) (x:Int):List Int:=match s with
 |.stop _=>[0]
 |.ifs _ _ _ _ a b=>[bj a x,bj b x]
 |.fh k _ _ _ a=>[bj a k,x]
 |_=>[x]
theorem KN(s:bI)(x:Int):dG s x=(s.row,s.wd,pz s x)::((aK s).flatMap fun b=>aQ b (iE s x)):=by
 cases s<;>simp[dG,bI.row,bI.wd,pz,aK,iE]
def eK (r:dM):Dp:=.tup [.int r.1,.str (fZ r.2.1),.tup (r.2.2.map .int)]
section
variable(K:zaa)
def tR:Sp:=fun vs H Q _=>∃(b:zdk) (body:List bI) (x:Int),vs=[.ref b,.int x]/\Rep K H (.lst (body.map eI)) (.ref b)/\body.length<=100000/\Q (.int (bj body x)) H
def Cy:Sp:=fun vs H Q _=>∃(v:V) (st:bI) (x:Int),vs=[v,.int x]/\Rep K H (eI st) v/\Q (.int (iE st x)) H
def xH:Sp:=fun vs H Q _=>∃(v:V) (st:bI) (H0:Hp),vs=[v]/\Rep K H0 (eI st) v/\aq H0 H/\∀l us H',aq H H'->H l=none->H' l=some (.lst us)->aN K H0 ((aK st).map fun b=>.lst (b.map eI)) us->Q (.ref l) H'
end
theorem iq{K:zaa}{H:Hp}:∀(s:bI) {v:V},Rep K H (eI s) v->∃a ys,v=.ref a/\bQ K H a (.str (fZ s.wd) :: .int s.row::ys):=by
 intro s v h;have key:∃ds,eI s=.tup (.str (fZ s.wd) :: .int s.row::ds):=by
  cases s<;>exact⟨_,by rw[eI];rfl⟩
 obtain⟨ds,e⟩:=key;rw[e,Rep.bg] at h;obtain⟨a,xs,rfl,q,r⟩:=h;rw[aN.aI] at r;obtain⟨v1,t1,rfl,e1,r⟩:=r;rw[aN.aI] at r;obtain⟨v2,t2,rfl,e2,_⟩:=r;rw[Rep.bA] at e1;rw[Rep.bt] at e2;subst e1 e2;exact⟨a,t2,rfl,q⟩
section
variable(K:zaa)
def KO (st:bI):Prop:=∀b∈aK st,b.length<=100000
def KP:Sp:=fun vs H Q _=>∃(v:V) (st:bI) (x:Int),vs=[v,.int x]/\Rep K H (eI st) v/\KO st/\∀u H',aq H H'->Rep K H' (.tup ((pz st x).map .int)) u->Q u H'
end
mutual
noncomputable def HN:Dp->Bool
 |.lst _=>false
 |.tup l=>pA l
 |_=>true
noncomputable def pA:List Dp->Bool
 |[]=>true
 |d::r=>HN d&&pA r
end
section
variable{K:zaa}{H H':Hp}{tl:zdk}{xs:List V}
mutual
theorem Cz(h:H tl=some (.lst xs))(u:ba (·=tl) H H'):∀(d:Dp) (v:V),HN d=true->Rep K H d v->Rep K H' d v
 |.cB,v,_,r=>by rw[Rep.qg] at r ⊢;exact r
 |.bl b,v,_,r=>by rw[Rep.lP] at r ⊢;exact r
 |.int b,v,_,r=>by rw[Rep.bt] at r ⊢;exact r
 |.str b,v,_,r=>by rw[Rep.bA] at r ⊢;exact r
 |.lst l,v,e,_=>by rw[HN] at e;cases e
 |.tup l,v,e,r=>by
  rw[HN] at e;rw[Rep.bg] at r ⊢;obtain⟨a,ys,rfl,q,rs⟩:=r;refine⟨a,ys,rfl,?_,vd h u l ys e rs⟩;rcases q with (q |⟨o,q⟩) |q
  ·exact .inl (.inl (u _ _ (bU q h (by intro z;cases z)) q))
  ·exact .inl (.inr ⟨o,u _ _ (bU q h (by intro z;cases z)) q⟩)
  ·exact .inr q
theorem vd(h:H tl=some (.lst xs))(u:ba (·=tl) H H'):∀(ds:List Dp) (vs:List V),pA ds=true->aN K H ds vs->aN K H' ds vs
 |[],vs,_,r=>by rw[aN.br] at r ⊢;exact r
 |d::ds,vs,e,r=>by
  rw[pA,zbb] at e;rw[aN.aI] at r ⊢;obtain⟨v,t,rfl,r1,r2⟩:=r;exact⟨v,t,rfl,Cz h u d v e.1 r1,vd h u ds t e.2 r2⟩
end
theorem Gj(h:H tl=some (.lst xs)){ds:List Dp}{vs:List V}(e:pA ds=true)(r:aN K H ds vs):eJ K (·=tl) H ds vs:=fun _ u=>vd h u ds vs e r
theorem Rf(h:H tl=some (.lst xs)){d:Dp}{v:V}(e:HN d=true)(r:Rep K H d v):Fix K (·=tl) H d v:=fun _ u=>Cz h u d v e r
end
theorem ve:∀l:List Int,pA (l.map .int)=true
 |[]=>by simp[pA]
 |i::r=>by rw[zam,pA,ve r];simp[HN]
theorem KQ(r:dM):HN (eK r)=true:=by simp[eK,HN,pA,ve]
theorem vf:∀l:List dM,pA (l.map eK)=true
 |[]=>by simp[pA]
 |r::l=>by rw[zam,pA,KQ,vf l];rfl
section
variable(K:zaa)
def wJ (n:Nat):Sp:=fun vs H Q _=>∃(b:zdk) (body:List bI) (x:Int),vs=[.ref b,.int x]/\Rep K H (.lst (body.map eI)) (.ref b)/\gu body<n/\(bV body).length<=1000/\
 ∀l us H',aq H H'->H l=none->H' l=some (.lst us)->aN K H' ((aQ body x).map eK) us->Q (.ref l) H'
end
mutual
theorem jZ:∀(s:bI) (b:List bI),b∈aK s->(bV b).length+1<=(dU s).length/\gu b+1<=qE s
 |.ifs k _ _ _ x y,b,h=>by
  simp only[aK,zag,za6,or_false] at h;rw[dU,qE];simp only[zah,zae];rcases h with rfl |rfl<;>lia
 |.fh k _ _ _ x,b,h=>by
  simp only[aK,zag,za6,or_false] at h;rw[dU,qE];simp only[zah];subst h;lia
 |.ask _ _,b,h=>by cases h
 |.put _ _ _,b,h=>by cases h
 |.say _ _,b,h=>by cases h
 |.cu _ _ _ _,b,h=>by cases h
 |.stop _,b,h=>by cases h
end
theorem qm:∀(l:List bI) (s:bI),s∈l->(dU s).length<=(bV l).length/\qE s<=gu l
 |[],s,h=>by cases h
 |a::r,s,h=>by
  rw[bV,gu,zae];rcases zag.mp h with rfl |h
  ·lia
  ·have:=qm r s h;lia
theorem HP(s:bI):1<=(dU s).length:=by cases s<;>simp[dU]
theorem kl:∀l:List bI,l.length<=(bV l).length
 |[]=>zaZ _
 |s::r=>by
  rw[bV,zae,zah];have:=HP s;have:=kl r;lia
section
variable(K:zaa)
def Ez:Sp:=fun vs H Q _=>∃(v:V) (pr:PG.Prog),vs=[v]/\Rep K H (kB pr) v/\gu pr.body<=3/\(bV pr.body).length<=1000/\
 ∀l us H',aq H H'->H l=none->H' l=some (.lst us)->aN K H' ((aQ pr.body 0).map eK) us->Q (.ref l) H'
def HQ:Sp:=fun vs H Q _=>∃(v:V) (pr:PG.Prog),vs=[v]/\Rep K H (kB pr) v/\gu pr.body<=3/\(bV pr.body).length<=1000/\
 ∀l us H',aq H H'->H l=none->H' l=some (.lst us)->aN K H' ((Kn (bV pr.body)).map eS) us->Q (.ref l) H'
end
end L2
namespace L2
open PG
open PySem
structure NG(K:zaa)(H H2:Hp)(tl:zdk)(H3:Hp)(us:List V)(pre:List Tg):Prop where
 s:aq H H3
 u:ba (·=tl) H2 H3
 y:H3 tl=some (.lst us)
 f:eJ K (·=tl) H3 (pre.map eS) us
 l:us.length=pre.length
section
variable{K:zaa}{H H2 H3 H4:Hp}{tl p:zdk}{us vs:List V}{pre:List Tg}{ds:List Dp}{g:Tg}
theorem NG.same(a:NG K H H2 tl H3 us pre)(s:aq H3 H4):NG K H H2 tl H4 us pre:=⟨a.s.trans s,a.u.trans (.of s),s _ _ a.y,a.f.up (.of s),a.l⟩
theorem NG.app(a:NG K H H2 tl H3 us pre)(ht:H tl=none)(hp:H3 p=none)(hg:eS g=.tup ds)(hv:∀Hx,eJ K (·=tl) Hx ds vs) :
 NG K H H2 tl (upd (upd H3 p (.tup vs)) tl (.lst (us++[.ref p]))) (us++[.ref p]) (pre++[g]):=by
 have b:=a.same (aq.new hp (.tup vs));have np:p≠tl:=(ai a.y hp).symm;have t:(upd H3 p (.tup vs)) p=some (.tup vs):=ae;generalize upd H3 p (.tup vs)=H5 at *;have uu:ba (·=tl) H5 (upd H5 tl (.lst (us++[.ref p]))):=ba.refl.put (O:=(·=tl)) rfl _;refine⟨fun z o e=>by rw[aw (ai e ht)];exact b.s z o e,b.u.trans uu,ae,?_,by simp[a.l]⟩;rw[zaw];refine(b.f.snoc (d:=eS g) (v:=.ref p) ?_).up uu;rw[hg];exact Fix.tup t np (hv _)
end
theorem NH{K:zaa}{O:zdk->Prop}{H2:Hp}{fl:List dM}{fv:List V}(g2:eJ K O H2 (fl.map eK) fv){i:Nat}{y:V}(hi:fv[i]?=some y)(li:i<fl.length) :
 ∃a,y=.ref a/\∀H',ba O H2 H'->∃t,bQ K H' a (.int fl[i].1 :: .str (fZ fl[i].2.1)::t):=by
 have key:∀H',ba O H2 H'->∃a t,y=.ref a/\bQ K H' a (.int fl[i].1 :: .str (fZ fl[i].2.1)::t):=fun H' u=>by
  obtain⟨v',Dz,rv⟩:=(g2 H' u).get (i:=i) (d:=eK fl[i]) (by rw[zal,zac li];rfl);rw[hi] at Dz;cases Dz;unfold eK at rv;rw[Rep.bg] at rv;obtain⟨a,xs,rfl,hx,rs⟩:=rv;rw[aN.aI] at rs;obtain⟨v1,t1,rfl,r1,rs⟩:=rs;rw[aN.aI] at rs;obtain⟨v2,t2,rfl,r2,rs⟩:=rs;rw[Rep.bt] at r1;rw[Rep.bA] at r2;subst r1 r2;exact⟨a,t2,rfl,hx⟩
 obtain⟨a,_,rfl,_⟩:=key H2 .refl;refine⟨a,rfl,fun H' u=>?_⟩;obtain⟨a',t,e,h⟩:=key H' u;cases e;exact⟨t,h⟩
theorem AV{K:zaa}{H:Hp}{rows:List PG.Row}{rv:List V}(rr:aN K H (rows.map mw) rv){i:Nat}{y:V}(hi:rv[i]?=some y)(li:i<rows.length):∃a,y=.ref a/\i6 K H a [.int rows[i].1,.str (fZ rows[i].2)]:=by
 obtain⟨v',Dz,rw_⟩:=rr.get (i:=i) (d:=mw rows[i]) (by rw[zal,zac li];rfl);rw[hi] at Dz;cases Dz;unfold mw at rw_;rw[Rep.bL] at rw_;obtain⟨a,ys,rfl,hy,ry⟩:=rw_;rw[aN.aI] at ry;obtain⟨v1,t1,rfl,e1,ry⟩:=ry;rw[aN.aI] at ry;obtain⟨v2,t2,rfl,e2,ry⟩:=ry;rw[aN.br] at ry;subst ry;rw[Rep.bA] at e2;rw[Rep.bt] at e1;subst e1 e2;exact⟨a,rfl,hy⟩
theorem wK:∀w:Wd,Ni (V.str (fZ w)) [V.str (zab "if"),V.str (zab "while")]=decide (w=.ifs\/w=.fh):=by
 intro w;cases w<;>decide +kernel
theorem Rg:∀w:Wd,Ni (V.str (fZ w)) [V.str (zab "else"),V.str (zab "end")]=decide (w=.oN\/w=.fin):=by
 intro w;cases w<;>decide +kernel
theorem pB:∀w:Wd,(V.str (fZ w)=V.str (zab "must"))↔w=.cu:=by
 intro w;cases w<;>decide +kernel
theorem EA:∀l:List Tg,PyData.canLayAll0 (Dp.uR (l.map eS))=true/\PyData.depthAll (Dp.uR (l.map eS))<=1
 |[]=>by simp[Dp.uR,PyData.canLayAll0,PyData.depthAll]
 |g::r=>by
  obtain⟨h1,h2⟩:=EA r;have k:(eS g).py.canLay0=true/\(eS g).py.depth<=1:=by
   cases g<;>simp only[eS,Dp.py,Dp.uR,PyData.canLay0,PyData.canLayAll0,PyData.depth,PyData.depthAll]<;>decide +kernel
  rw[zam,Dp.uR,PyData.canLayAll0,PyData.depthAll,h1,k.1];refine⟨rfl,?_⟩;have:=k.2;lia
noncomputable def xI:Option Nat->V
 |none=>.cB
 |some e=>.int e
noncomputable def Wx (A:Nat->zdk) (p:Nat):Option Mt->Option V
 |none=>none
 |some (.back q)=>some (.int q)
 |some (.op _ _)=>some (.ref (A p))
structure zY(H:Hp)(d:zdk)(m:Mm)(A:Nat->zdk)(Hx:Hp)(ax:List (Key×V)):Prop where
 s:aq H Hx
 dn:H d=none
 dd:Hx d=some (.dK ax)
 at_:∀p:Nat,cf ax (.inl (p:Int))=Wx A p (m p)
 ls:∀p e f,m p=some (.op e f)->Hx (A p)=some (.lst [xI e,xI f])/\H (A p)=none
 inj:∀p q e f e' f',m p=some (.op e f)->m q=some (.op e' f')->A p=A q->p=q
section
variable{H Hx H':Hp}{d b:zdk}{m:Mm}{A:Nat->zdk}{ax:List (Key×V)}{o:HO}
theorem zY.ne(t:zY H d m A Hx ax){p:Nat}{e f:Option Nat}(h:m p=some (.op e f)):A p≠d:=bU (t.ls p e f h).1 t.dd (by intro z;cases z)
theorem zY.same(t:zY H d m A Hx ax)(s:aq Hx H'):zY H d m A H' ax:=⟨t.s.trans s,t.dn,s _ _ t.dd,t.at_,fun p e f h=>⟨s _ _ (t.ls p e f h).1,(t.ls p e f h).2⟩,t.inj⟩
theorem zY.put(t:zY H d m A Hx ax)(hb:H b=none)(nd:b≠d)(nl:∀p e f,m p=some (.op e f)->A p≠b)(o:HO):zY H d m A (upd Hx b o) ax:=
 ⟨fun z u e=>by rw[aw (ai e hb)];exact t.s z u e,t.dn,by rw[aw nd.symm];exact t.dd,t.at_,fun p e f h=>⟨by rw[aw (nl p e f h)];exact(t.ls p e f h).1,(t.ls p e f h).2⟩,t.inj⟩
theorem tS{κ:Type}[DecidableEq κ](ax:List (κ×V))(k:κ)(v:V):(putK ax k v).length<=ax.length+1:=by
 unfold putK;split
 ·rw[zad];lia
 ·rw[zae];simp
theorem zY.back(t:zY H d m A Hx ax)(p q:Nat):zY H d (m.set p (.back q)) A (upd Hx d (.dK (putK ax (.inl (p:Int)) (.int q)))) (putK ax (.inl (p:Int)) (.int q)):=by
 have key:∀j e f,(m.set p (.back q)) j=some (.op e f)->j≠p/\m j=some (.op e f):=fun j e f h=>by
  by_cases z:j=p
  ·subst z;rw[Mm.set_same] at h;cases h
  ·rw[Mm.bO _ _ z] at h;exact⟨z,h⟩
 refine⟨fun z u e=>by rw[aw (ai e t.dn)];exact t.s z u e,t.dn,ae,fun j=>?_,fun j e f h=>?_,fun a b e f e' f' h1 h2 z=>t.inj a b e f e' f' (key a e f h1).2 (key b e' f' h2).2 z⟩
 ·rw[oU];by_cases z:j=p
  ·subst z;rw[zzp rfl,Mm.set_same];rfl
  ·rw[zzn (fun e=>z (by injection e with e;lia)),Mm.bO _ _ z,t.at_ j]
 ·have h:=(key j e f h).2;exact⟨by rw[aw (t.ne h)];exact(t.ls j e f h).1,(t.ls j e f h).2⟩
theorem zY.Ut(t:zY H d m A Hx ax)(p:Nat)(hb:Hx b=none):zY H d (m.set p (.op none none)) (fun j=>if j=p then b else A j) (upd (upd Hx b (.lst [.cB,.cB])) d (.dK (putK ax (.inl (p:Int)) (.ref b)))) (putK ax (.inl (p:Int)) (.ref b)):=by
 have nb:b≠d:=(ai t.dd hb).symm;have HR:H b=none:=by
  cases z:H b with
  |none=>rfl
  |some o=>rw[t.s _ _ z] at hb;cases hb
 have key:∀j e f,(m.set p (.op none none)) j=some (.op e f)->(j=p/\e=none/\f=none)\/(j≠p/\m j=some (.op e f)):=fun j e f h=>by
  by_cases z:j=p
  ·subst z;rw[Mm.set_same] at h;cases h;exact .inl ⟨rfl,rfl,rfl⟩
  ·rw[Mm.bO _ _ z] at h;exact .inr ⟨z,h⟩
 have old:∀j e f,m j=some (.op e f)->A j≠b:=fun j e f h=>ai (t.ls j e f h).1 hb;refine⟨fun z u e=>by rw[aw (ai e t.dn),aw (ai e HR)];exact t.s z u e,t.dn,ae,fun j=>?_,fun j e f h=>?_,fun a c e f e' f' h1 h2 z=>?_⟩
 ·rw[oU];by_cases z:j=p
  ·subst z;rw[zzp rfl,Mm.set_same];simp[Wx]
  ·rw[zzn (fun e=>z (by injection e with e;lia)),Mm.bO _ _ z,t.at_ j];unfold Wx;cases m j with
   |none=>rfl
   |some x=>cases x<;>simp[z]
 ·rcases key j e f h with ⟨rfl,rfl,rfl⟩ |⟨z,h⟩
  ·rw[zzp rfl];exact⟨by rw[aw nb,ae];rfl,HR⟩
  ·rw[zzn z];exact⟨by rw[aw (t.ne h),aw (old j e f h)];exact(t.ls j e f h).1,(t.ls j e f h).2⟩
 ·rcases key a e f h1 with ⟨rfl,_,_⟩ |⟨z1,g1⟩<;>rcases key c e' f' h2 with ⟨rfl,_,_⟩ |⟨z2,g2⟩
  ·rfl
  ·rw[zzp rfl,zzn z2] at z;exact zzb z.symm (old c _ _ g2)
  ·rw[zzn z1,zzp rfl] at z;exact zzb z (old a _ _ g1)
  ·rw[zzn z1,zzn z2] at z;exact t.inj a c e f e' f' g1 g2 z
theorem zY.list(t:zY H d m A Hx ax){p:Nat}{e f:Option Nat}(h:m p=some (.op e f))(e' f':Option Nat):zY H d (m.set p (.op e' f')) A (upd Hx (A p) (.lst [xI e',xI f'])) ax:=by
 have key:∀j x y,(m.set p (.op e' f')) j=some (.op x y)->(j=p/\x=e'/\y=f')\/(j≠p/\m j=some (.op x y)):=fun j x y h=>by
  by_cases z:j=p
  ·subst z;rw[Mm.set_same] at h;cases h;exact .inl ⟨rfl,rfl,rfl⟩
  ·rw[Mm.bO _ _ z] at h;exact .inr ⟨z,h⟩
 have op:∀j x y,(m.set p (.op e' f')) j=some (.op x y)->∃x y,m j=some (.op x y):=fun j x y hj=>by
  rcases key j x y hj with ⟨rfl,_,_⟩ |⟨_,h'⟩
  ·exact⟨_,_,h⟩
  ·exact⟨_,_,h'⟩
 refine⟨fun z u q=>by rw[aw (ai q (t.ls p e f h).2)];exact t.s z u q,t.dn,by rw[aw (t.ne h).symm];exact t.dd,fun j=>?_,fun j x y hj=>?_,fun a c x y x' y' h1 h2 z=>?_⟩
 ·rw[t.at_ j];by_cases z:j=p
  ·subst z;rw[Mm.set_same,h];rfl
  ·rw[Mm.bO _ _ z]
 ·rcases key j x y hj with ⟨rfl,rfl,rfl⟩ |⟨z,hj⟩
  ·exact⟨ae,(t.ls _ _ _ h).2⟩
  ·exact⟨by rw[aw (fun q=>z (t.inj j p _ _ _ _ hj h q))];exact(t.ls j x y hj).1,(t.ls j x y hj).2⟩
 ·obtain⟨_,_,h1⟩:=op a x y h1;obtain⟨_,_,h2⟩:=op c x' y' h2;exact t.inj a c _ _ _ _ h1 h2 z
end
section
variable(K:zaa)
def Uu (H Hx:Hp) (d:zdk) (R:List PG.Row):Prop:=∃A ax,zY H d (oK R) A Hx ax
def Rh:Sp:=fun vs H Q _=>∃(R:zdk) (rows:List PG.Row) (b:List bI),vs=[.ref R]/\Rep K H (.lst (rows.map mw)) (.ref R)/\rows.length<=1000/\cG b rows/\∀d H',Uu H H' d rows->Q (.ref d) H'
def Yl:Sp:=fun vs H Q _=>∃(R d:zdk) (rows:List PG.Row) (b:List bI) (H0:Hp) (p:Nat),vs=[.ref R,.ref d,.int p]/\Rep K H (.lst (rows.map mw)) (.ref R)/\rows.length<=1000/\cG b rows/\Uu H0 H d rows/\Q (.int (PG.to rows (oK rows) p)) H
def NI:Sp:=fun vs H Q _=>∃(R:zdk) (rows:List PG.Row) (b:List bI),vs=[.ref R]/\Rep K H (.lst (rows.map mw)) (.ref R)/\rows.length<=1000/\cG b rows/\
 ∀l us H',aq H H'->H l=none->H' l=some (.lst us)->aN K H' ((aQ b 0).map eK) us->Q (.ref l) H'
end
structure rO(K:zaa)(H:Hp)(tl:zdk)(H3:Hp)(us:List V)(ds:List Dp):Prop where
 s:aq H H3
 y:H3 tl=some (.lst us)
 f:eJ K (·=tl) H3 ds us
 l:us.length=ds.length
section
variable{K:zaa}{H H3 H4:Hp}{tl p p1 p2:zdk}{us vs:List V}{ds es:List Dp}{d:Dp}{v:V}
theorem rO.new(h:H tl=none):rO K H tl (upd H tl (.lst [])) [] []:=⟨aq.new h _,ae,.nil,rfl⟩
theorem rO.same(a:rO K H tl H3 us ds)(s:aq H3 H4):rO K H tl H4 us ds:=⟨a.s.trans s,s _ _ a.y,a.f.up (.of s),a.l⟩
theorem rO.push(a:rO K H tl H3 us ds)(ht:H tl=none)(fv:Fix K (·=tl) H3 d v):rO K H tl (upd H3 tl (.lst (us++[v]))) (us++[v]) (ds++[d]):=by
 have uu:ba (·=tl) H3 (upd H3 tl (.lst (us++[v]))):=ba.refl.put (O:=(·=tl)) rfl _;exact⟨fun z o e=>by rw[aw (ai e ht)];exact a.s z o e,ae,(a.f.snoc fv).up uu,by simp[a.l]⟩
theorem rO.row(a:rO K H tl H3 us ds)(ht:H tl=none){k:Int}{w:Wd}{ws:List Int}(h1:H3 p1=none)(h2:(upd H3 p1 (.tup (ws.map V.int))) p2=none) :
 (upd (upd H3 p1 (.tup (ws.map V.int))) p2 (.tup [.int k,.str (fZ w),.ref p1])) tl=some (.lst us)/\
 rO K H tl (upd (upd (upd H3 p1 (.tup (ws.map V.int))) p2 (.tup [.int k,.str (fZ w),.ref p1])) tl (.lst (us++[.ref p2]))) (us++[.ref p2]) (ds++[eK (k,w,ws)]):=by
 have s1:=aq.new h1 (.tup (ws.map V.int));have a1:=a.same s1;have t1:(upd H3 p1 (.tup (ws.map V.int))) p1=some (.tup (ws.map V.int)):=ae;have n1:p1≠tl:=(ai a.y h1).symm;generalize upd H3 p1 (.tup (ws.map V.int))=H5 at *;have s2:=aq.new h2 (.tup [.int k,.str (fZ w),.ref p1]);have a2:=a1.same s2;have t2:(upd H5 p2 (.tup [.int k,.str (fZ w),.ref p1])) p2=some (.tup [.int k,.str (fZ w),.ref p1]):=ae;have n2:p2≠tl:=(ai a1.y h2).symm;have t1:=s2 _ _ t1;generalize upd H5 p2 (.tup [.int k,.str (fZ w),.ref p1])=H6 at *;refine⟨a2.y,a2.push ht (Fix.tup t2 n2 (.cons .int (.cons .str (.cons (Fix.tup t1 n1 ?_) .nil))))⟩;have allI:∀l:List Int,eJ K (·=tl) H6 (l.map Dp.int) (l.map V.int):=fun l=>by
  induction l with
  |nil=>exact .nil
  |cons i r ih=>exact .cons .int ih
 exact allI ws
end
section
variable{X:Cx}
def NJ:V->List V->Hp->VK->Prop:=fun x vs H Q=>∃a b ax more,x=.ref a/\vs=[.ref b]/\a≠b/\H a=some (.dK ax)/\H b=some (.dK more)/\ax.length+more.length<=zds/\Q .cB (upd H a (.dK (iB ax more)))
theorem HS:T8 X "dict.update" NJ:=by
 intro pins s σ H x vs v us Q I rx rv h;obtain⟨a,b,ax,more,rfl,rfl,Gk,ha,hb,hz,q⟩:=h;cases rx;obtain⟨u,rfl,ru⟩:=rv.one;cases ru;obtain⟨z,hd,vs,rel,dd⟩:=FT I.cM ha;obtain⟨z2,hd2,vs2,Uv,SM⟩:=FT I.cM hb;refine call_meetsIn zcK dd.typeIs PySem.F.entry_dict_update (PySem.F.args_dict_update_2 _ _) (meets_dict_update (bT X.prog X.w) a b Gk hd2) ⟨vs,vs2,dd,SM,by rw[<- rel.length,<- Uv.length];exact hz,fun h' FU _ hs=>?_⟩;have he:∃q,h'.get? a=some q:=let ⟨q,_,_,hq,_⟩:=FU;⟨q,hq⟩;exact⟨.cB,_,kY (t':=s.toks) I (by rw[ha];exact True.intro) hs he (xl (zay (gV more ax) hz) hd (Uv.merge rel) FU),rfl,q⟩
end
theorem xJ{ax:List (Key×V)}{k:Key}{v:V}(h:k ∉ ax.map (·.1)):putK ax k v=ax++[(k,v)]:=by
 unfold putK;rw[zzn];intro z;rw[List.any_eq_true] at z;obtain⟨x,hx,e⟩:=z;exact h (zaF.mpr ⟨x,hx,of_decide_eq_true e⟩)
theorem ie:∀(more ax:List (Key×V)),((ax++more).map (·.1)).Nodup->iB ax more=ax++more
 |[],ax,_=>by simp[iB]
 |p::r,ax,h=>by
  have hp:p.1 ∉ ax.map (·.1):=fun z=>by
   rw[zaw,zbS] at h;exact h.2.2 _ z _ (by simp) rfl
  show iB (putK ax p.1 p.2) r=_;rw[xJ hp,ie r _ (by rw[za1];exact h),za1];rfl
def cT (ss:List bI) (vs:List V):List (Key×V):=zbd (fun s v=>(Sum.inl s.row,v)) ss vs
theorem ig:∀(ss:List bI) (vs:List V),vs.length=ss.length->(cT ss vs).map (·.1)=ss.map fun s=>(Sum.inl s.row:Key)
 |[],[],_=>rfl
 |[],_::_,h=>by simp at h
 |_::_,[],h=>by simp at h
 |s::ss,v::vs,h=>by
  show _::(cT ss vs).map (·.1)=_;rw[ig ss vs (by simpa using h)];rfl
theorem qo:∀(ss tt:List bI) (vs us:List V),vs.length=ss.length->cT (ss++tt) (vs++us)=cT ss vs++cT tt us
 |[],tt,[],us,_=>rfl
 |[],_,_::_,_,h=>by simp at h
 |_::_,_,[],_,h=>by simp at h
 |s::ss,tt,v::vs,us,h=>by
  show _::cT (ss++tt) (vs++us)=_::(cT ss vs++cT tt us);rw[qo ss tt vs us (by simpa using h)]
theorem rP{ss:List bI}(h:ss.Pairwise fun a b=>a.row<b.row):(ss.map fun s=>(Sum.inl s.row:Key)).Nodup:=by
 refine zbe.mpr (h.imp fun {a b} Gk e=>?_);have:=Sum.inl.inj e;lia
theorem pC:∀(ss:List bI) (vs:List V),vs.length=ss.length->ss.Pairwise (fun a b=>a.row<b.row)->∀i (hi:i<ss.length) v,vs[i]?=some v->cf (cT ss vs) (.inl ss[i].row)=some v
 |[],_,_,_,i,hi,_,_=>by simp at hi
 |_::_,[],h,_,_,_,_,_=>by simp at h
 |s::ss,v::vs,h,hp,0,hi,u,hu=>by
  simp at hu;subst hu;show cf ((_,v)::cT ss vs) _=_;exact cg rfl
 |s::ss,v::vs,h,hp,i+1,hi,u,hu=>by
  rw[List.pairwise_cons] at hp;have lt:=hp.1 (ss[i]'(by simpa using hi)) (zau _);show cf ((.inl s.row,v)::cT ss vs) (.inl (ss[i]'(by simpa using hi)).row)=_;rw[ck (fun e=>by have e:=Sum.inl.inj e;lia)];exact pC ss vs (by simpa using h) hp.2 i (by simpa using hi) u (by simpa using hu)
theorem Gm(s:bI):nu s=s::(aK s).flatMap az:=by
 cases s<;>simp[nu,aK]
section
variable(K:zaa)
def AW (n:Nat):Sp:=fun vs H Q _=>∃(b:zdk) (body:List bI) (H0:Hp),vs=[.ref b]/\aq H0 H/\Rep K H0 (.lst (body.map eI)) (.ref b)/\gu body<n/\(bV body).length<=1000/\(az body).Pairwise (fun a b=>a.row<b.row)/\
 ∀d us H',aq H H'->H d=none->us.length=(az body).length->H' d=some (.dK (cT (az body) us))->aN K H0 ((az body).map eI) us->Q (.ref d) H'
def qp (n:Nat):Sp:=fun vs H Q _=>∃(b:zdk) (body:List bI) (H0:Hp),vs=[.ref b]/\aq H0 H/\Rep K H0 (.lst (body.map eI)) (.ref b)/\gu body<n/\(bV body).length<=1000/\
 ∀l us H',aq H H'->H l=none->H' l=some (.lst us)->aN K H0 ((az body).map eI) us->Q (.ref l) H'
end
theorem NK{K:zaa}{H:Hp}:∀(s:bI) {v:V},Rep K H (eI s) v->∃a xs,v=.ref a/\bQ K H a xs/\2<=xs.length/\xs.length<=7/\xs[1]?=some (.int s.row)/\aN K H ((aK s).map fun b=>.lst (b.map eI)) (jt xs (some 5) none):=by
 intro s v h;have cut:∀xs:List V,jt xs (some 5) none=xs.drop 5:=fun xs=>by
  unfold jt;rw[HT.oR,show (5:Int)=((5:Nat):Int) from rfl,HT.qd];by_cases h:5<=xs.length
  ·rw[zcn h];exact zbw (by rw[zbN];lia)
  ·rw[Nat.min_eq_right (by lia),zcV (zaf _),zcV (by lia),List.take_nil]
 cases s with
 |ask k b=>
  simp only[eI,Rep.bg,aN.aI,aN.br,Rep.bA,Rep.bt] at h;obtain⟨a,xs,rfl,hS,_,_,rfl,rfl,_,_,rfl,rfl,_,_,rfl,rfl,rfl⟩:=h;exact⟨a,_,rfl,hS,by simp,by simp,rfl,by rw[cut];exact .nil⟩
 |put k b e=>
  simp only[eI,Rep.bg,aN.aI,aN.br,Rep.bA,Rep.bt] at h;obtain⟨a,xs,rfl,hS,_,_,rfl,rfl,_,_,rfl,rfl,_,_,rfl,_,_,_,rfl,_,rfl⟩:=h;exact⟨a,_,rfl,hS,by simp,by simp,rfl,by rw[cut];exact .nil⟩
 |say k e=>
  simp only[eI,Rep.bg,aN.aI,aN.br,Rep.bA,Rep.bt] at h;obtain⟨a,xs,rfl,hS,_,_,rfl,rfl,_,_,rfl,rfl,_,_,rfl,_,rfl⟩:=h;exact⟨a,_,rfl,hS,by simp,by simp,rfl,by rw[cut];exact .nil⟩
 |cu k sg l r=>
  simp only[eI,Rep.bg,aN.aI,aN.br,Rep.bA,Rep.bt] at h;obtain⟨a,xs,rfl,hS,_,_,rfl,rfl,_,_,rfl,rfl,_,_,rfl,_,_,_,rfl,_,_,_,rfl,_,rfl⟩:=h;exact⟨a,_,rfl,hS,by simp,by simp,rfl,by rw[cut];exact .nil⟩
 |stop k=>
  simp only[eI,Rep.bg,aN.aI,aN.br,Rep.bA,Rep.bt] at h;obtain⟨a,xs,rfl,hS,_,_,rfl,rfl,_,_,rfl,rfl,rfl⟩:=h;exact⟨a,_,rfl,hS,by simp,by simp,rfl,by rw[cut];exact .nil⟩
 |ifs k sg l r x y=>
  simp only[eI,Rep.bg,aN.aI,aN.br,Rep.bA,Rep.bt] at h;obtain⟨a,xs,rfl,hS,_,_,rfl,rfl,_,_,rfl,rfl,_,_,rfl,_,_,_,rfl,_,_,_,rfl,_,_,_,rfl,h5,_,_,rfl,h6,rfl⟩:=h;rw[gw] at h5 h6;exact⟨a,_,rfl,hS,by simp,by simp,rfl,by rw[cut];exact .cons h5 (.cons h6 .nil)⟩
 |fh k sg l r x=>
  simp only[eI,Rep.bg,aN.aI,aN.br,Rep.bA,Rep.bt] at h;obtain⟨a,xs,rfl,hS,_,_,rfl,rfl,_,_,rfl,rfl,_,_,rfl,_,_,_,rfl,_,_,_,rfl,_,_,_,rfl,h5,rfl⟩:=h;rw[gw] at h5;exact⟨a,_,rfl,hS,by simp,by simp,rfl,by rw[cut];exact .cons h5 .nil⟩
theorem KR{K:zaa}{tl:TE}{g:TG}{tb:TS}{D:Ends}{σ:St}{H:Hp} (h:∀U:zdk->Hp->Prop,(∀a H1,(∃W:Nat->Nat->St->Hp->Prop,(∃m,W 0 m σ H1)/\∀i m σ H,W i m σ H->
 ((OZ K a).stop i H/\D.nx σ H)\/((OZ K a).go i H/\∃N:St->Hp->Prop,(∀σ' H',N σ' H'->∃m',m'<m/\W (i+1) m' σ' H')/\∀x H',(OZ K a).zz i H x H'->g x σ H' fun σ2 H2=>tb {D with nx:=N,ct:=N,bk:=D.nx} σ2 H2))->U a H1)->
 tl σ H fun x H1=>∃a,x=.ref a/\(∃xs,bQ K H1 a xs)/\U a H1):G8 (TJ K tl) g tb D σ H:=h _ fun _ _ x=>x
theorem pE:∀a b:List bI,az (a++b)=az a++az b
 |[],b=>by simp[az]
 |s::r,b=>by
  show az (s::(r++b))=_;rw[az,az,pE r b,za1]
theorem CA(s:bI):az [s]=nu s:=by rw[az,az,zav]
theorem mB(b:List bI):(az b).length=(bV b).length:=by rw[<- fQ,zad]
end L2
namespace HT
open PG
open PySem PySem.Spec PyProof.Rows
section
variable{prog:zdw}{w:zdm}{A:zdv}{E:zdl->zdu->Prop}{s:zdu}
theorem qG{t sl:zdk}{items:Array zdl}{vl vu:zdl}{lo hi:Option Int}{Q:zdl->zdu->Prop}(ht:IsTup s.heap t items)(hs:s.heap.IsSliceOf sl vl vu .none)(pl:IsPart vl lo)(pu:IsPart vu hi)
 (hw:gQ items.size 0 lo=0/\gQ items.size items.size hi=items.size) (h:Q (.ref t) s):wpAny (model prog w) A (getItem (.ref t) (.ref sl)) Q E s:=by
 have hj:gQ items.size items.size hi<=items.size:=JC _ _ (zaf _) hi;obtain⟨os,QQ,Wr,T4⟩:=id hs;have X1:s.TypeIs (.ref sl) "slice":=⟨os,QQ,Wr⟩
 unfold getItem
 try with_reducible refine zdp ?_
 first |refine zdn (zdo ?_) |skip
 refine zdn (wpAny_sequenceKey ht.typeIs (by decide) ?_);refine zdn (wpAny_callSpecial?_slot (name:=zab "__getitem__") ht.typeIs zbp
  (wpAny_call_entry zbp ht.typeIs entry_tuple_getitem ?_ (args_tuple_getitem _ _)))
 show wpAny _ _ (Builtin.Tuple.tupleItemsOf (.ref t) >>= _) _ _ s;refine zdn (tupleItemsOf_ ht ?_);refine zdn (wpAny_typeOf X1 ?_);rw[zzp (by decide)];refine zdn (mn hs pl pu ?_);have Ym:((((gQ items.size 0 lo:Nat):Int)==0&&(1:Int)==1&&(gQ items.size items.size hi-gQ items.size 0 lo)==items.size)=true):=by
  rw[hw.1,hw.2];simp
 show wpAny _ _ (if (((gQ items.size 0 lo:Nat):Int)==0&&(1:Int)==1&&(gQ items.size items.size hi-gQ items.size 0 lo)==items.size)=true then _ else _) _ _ s;rw[zzp Ym];refine zdn (m:=Builtin.Tuple.tupleIsExact _) ?_;unfold Builtin.Tuple.tupleIsExact;refine zdn (wpAny_typeOf ht.typeIs (zdo ?_));rw[zzp (by simp)]
 first
  |exact zdn (wpAny_rule (zdo ⟨_,rfl,zdo h⟩))
  |exact zdn (zdo (zdo ⟨_,rfl,zdo h⟩))
end
end HT
namespace L2
open PG
open PySem PySem.Spec PyProof.Rows
def Uw (K:zaa):V->Option Int->Option Int->Hp->VK->Prop:=fun x lo hi H Q=>∃a xs,x=.ref a/\bQ K H a xs/\
 ((HT.gQ xs.length 0 lo=0/\HT.gQ xs.length xs.length hi=xs.length)->Q (.ref a) H)/\
 (¬(HT.gQ xs.length 0 lo=0/\HT.gQ xs.length xs.length hi=xs.length)->∀p,H p=none->Q (.ref p) (upd H p (.tup (jt xs lo hi))))
theorem NL{X:Cx}:T5 X (Uw X.K):=by
 intro pins s σ H x v vl vu lo hi sl Q I rx hs pl pu h;obtain⟨a,xs,rfl,hx,h1,h2⟩:=h;by_cases hw:HT.gQ xs.length 0 lo=0/\HT.gQ xs.length xs.length hi=xs.length
 ·cases rx;obtain⟨bC,r,ht,hz⟩:=I.tuple hx;have hlen:bC.toArray.size=xs.length:=by rw[zas];exact r.length.symm
  refine⟨"tuple",_,zbp.lookup,ht.typeIs,?_⟩;exact HT.qG ht hs pl pu (by rw[hlen];exact hw) ⟨.ref a,H,I,rfl,h1 hw⟩
 ·exact JF pins s σ H (.ref a) v vl vu lo hi sl Q I rx hs pl pu ⟨a,xs,rfl,hx,hw,h2 hw⟩
def tT {α β γ:Type} (R:α->β->γ->Prop):List α->List β->List γ->Prop
 |[],[],[]=>True
 |a::as,b::bs,c::cs=>R a b c/\tT R as bs cs
 |_,_,_=>False
section
variable{α β γ:Type}{R S:α->β->γ->Prop}
theorem tT.br{bs:List β}{cs:List γ}:tT R [] bs cs↔bs=[]/\cs=[]:=by
 cases bs<;>cases cs<;>simp[tT]
theorem tT.aI{a:α}{as:List α}{bs:List β}{cs:List γ}:tT R (a::as) bs cs↔∃b Wy c Wz,bs=b::Wy/\cs=c::Wz/\R a b c/\tT R as Wy Wz:=by
 constructor
 ·intro h;cases bs with
  |nil=>simp[tT] at h
  |cons b bs=>
   cases cs with
   |nil=>simp[tT] at h
   |cons c cs=>exact⟨b,bs,c,cs,rfl,rfl,h.1,h.2⟩
 ·rintro ⟨b,Wy,c,Wz,rfl,rfl,h1,h2⟩
  exact⟨h1,h2⟩
theorem tT.length:∀ {as:List α} {bs:List β} {cs:List γ},tT R as bs cs->bs.length=as.length/\cs.length=as.length
 |[],_,_,h=>by obtain⟨rfl,rfl⟩:=tT.br.mp h;exact⟨rfl,rfl⟩
 |a::as,_,_,h=>by
  obtain⟨b,Wy,c,Wz,rfl,rfl,_,h2⟩:=tT.aI.mp h;have:=tT.length h2;simp[this]
end
section
variable{K:zaa}{H H':Hp}{O:zdk->Prop}
theorem HU(hO:∀g,O g->∃ys,H g=some (.lst ys))(u:ba O H H'){a:zdk}{ys:List V}(q:bQ K H a ys):bQ K H' a ys:=by
 rcases q with (q |⟨o,q⟩) |q
 ·exact .inl (.inl (u _ _ (fun z=>by obtain⟨_,e⟩:=hO a z;rw[e] at q;cases q) q))
 ·exact .inl (.inr ⟨o,u _ _ (fun z=>by obtain⟨_,e⟩:=hO a z;rw[e] at q;cases q) q⟩)
 ·exact .inr q
mutual
theorem zZ(hO:∀g,O g->∃ys,H g=some (.lst ys))(u:ba O H H'):∀(d:Dp) (v:V),HN d=true->Rep K H d v->Rep K H' d v
 |.cB,v,_,r=>by rw[Rep.qg] at r ⊢;exact r
 |.bl b,v,_,r=>by rw[Rep.lP] at r ⊢;exact r
 |.int b,v,_,r=>by rw[Rep.bt] at r ⊢;exact r
 |.str b,v,_,r=>by rw[Rep.bA] at r ⊢;exact r
 |.lst l,v,e,_=>by rw[HN] at e;cases e
 |.tup l,v,e,r=>by
  rw[HN] at e;rw[Rep.bg] at r ⊢;obtain⟨a,ys,rfl,q,rs⟩:=r;exact⟨a,ys,rfl,HU hO u q,rQ hO u l ys e rs⟩
theorem rQ(hO:∀g,O g->∃ys,H g=some (.lst ys))(u:ba O H H'):∀(ds:List Dp) (vs:List V),pA ds=true->aN K H ds vs->aN K H' ds vs
 |[],vs,_,r=>by rw[aN.br] at r ⊢;exact r
 |d::ds,vs,e,r=>by
  rw[pA,zbb] at e;rw[aN.aI] at r ⊢;obtain⟨v,t,rfl,r1,r2⟩:=r;exact⟨v,t,rfl,zZ hO u d v e.1 r1,rQ hO u ds t e.2 r2⟩
end
end
theorem xK{K:zaa}{a D:zdk}{xs:List V}{te:TE}{Q:VK}{r:St}{H:Hp}(Pv:Nat->List V->Hp->Prop)(hS:i6 K H a xs)(hl:xs.length<=16000000)(hD:H D=none)(h0:Pv 0 [] (upd H D (.lst [])))
 (step:∀i x ys H2,xs[i]?=some x->aq H H2->H2 D=some (.lst ys)->ys.length=i->Pv i ys H2->∀R:VK,(∀v H3,aq H2 H3->Pv (i+1) (ys++[v]) (upd H3 D (.lst (ys++[v])))->R v H3)->te (some x::r) H2 R)
 (q:∀ys H2,aq H H2->H2 D=some (.lst ys)->Pv xs.length ys H2->Q (.ref D) H2):vM (IY K a) D (eO 0) AM te Q (none::r) (upd H D (.lst [])):=by
 refine⟨fun i m τ H2=>m=xs.length-i/\i<=xs.length/\(∃x,τ=x::r)/\aq H H2/\∃ys,H2 D=some (.lst ys)/\ys.length=i/\Pv i ys H2,⟨xs.length,by simp,zaZ _,⟨none,rfl⟩,aq.new hD _,[],ae,rfl,h0⟩,?_⟩
 rintro i m τ H2 ⟨rfl,hi,⟨x,rfl⟩,s2,ys,h2,ly,p2⟩
 by_cases oy:i<xs.length
 ·refine .inr ⟨⟨xs,xs[i],s2.seq hS,by simp[oy]⟩,fun τ' H'=>(∃x,τ'=x::r)/\aq H H'/\∃ys,H' D=some (.lst ys)/\ys.length=i+1/\Pv (i+1) ys H',fun τ' H' ⟨h1,h3,h4⟩=>⟨xs.length-(i+1),by lia,rfl,oy,h1,h3,h4⟩,fun y H' hy=>?_⟩;obtain⟨rfl,hy⟩:=hy;have ey:=hy _ (s2.seq hS);simp only[eO,zaT,AM];rw[zzp trivial];refine step i y ys _ ey s2 h2 ly p2 _ fun v H3 s3 p3=>⟨ys,s3 _ _ h2,?_,⟨_,rfl⟩,?_,ys++[v],ae,by simp[ly],p3⟩
  ·have:zds=2 ^ 24:=rfl;lia
  ·intro b o e;rw[aw (ai e hD)];exact s3 _ _ (s2 _ _ e)
 ·have e:i=xs.length:=by lia
  subst e;exact .inl ⟨⟨xs,s2.seq hS,zaf _⟩,q ys H2 s2 h2 p2⟩
end L2
namespace L2
open PG
open PySem
theorem Gn:∀l:List Int,PyData.canLayAll0 (Dp.uR (l.map Dp.int))=true/\PyData.depthAll (Dp.uR (l.map Dp.int))=0
 |[]=>by simp[Dp.uR,PyData.canLayAll0,PyData.depthAll]
 |i::r=>by
  obtain⟨h1,h2⟩:=Gn r;simp[Dp.uR,Dp.py,PyData.canLayAll0,PyData.depthAll,PyData.canLay0,PyData.depth,h1,h2]
theorem HV{X:Cx}{K:zaa}(e:X.K=K):mm X (.builtin "isinstance") (fun xs H Q=>∃x T t b,xs=[x,.ty T]/\sW K H x t/\zc6 K t (.type T)=some b/\Q (.bl b) H):=by
 subst e;exact Cb
theorem CB{K:zaa}{H:Hp}{fl:List dM}{fv:List V}(g2:aN K H (fl.map eK) fv){i:Nat}{y:V}(hi:fv[i]?=some y)(li:i<fl.length) :
 ∃a p,y=.ref a/\bQ K H a [.int fl[i].1,.str (fZ fl[i].2.1),.ref p]/\bQ K H p (fl[i].2.2.map V.int):=by
 obtain⟨v',Dz,rv⟩:=g2.get (i:=i) (d:=eK fl[i]) (by rw[zal,zac li];rfl);rw[hi] at Dz;cases Dz;unfold eK at rv;rw[Rep.bg] at rv;obtain⟨a,xs,rfl,hx,rs⟩:=rv;rw[aN.aI] at rs;obtain⟨v1,t1,rfl,r1,rs⟩:=rs;rw[aN.aI] at rs;obtain⟨v2,t2,rfl,r2,rs⟩:=rs;rw[aN.aI] at rs;obtain⟨v3,t3,rfl,r3,rs⟩:=rs;rw[aN.br] at rs;rw[Rep.bt] at r1;rw[Rep.bA] at r2;obtain⟨p,ys,rfl,hp,ry⟩:=Rep.bg.mp r3;subst r1 r2 rs;have key:∀ {l:List Int} {ys:List V},aN K H (l.map Dp.int) ys->ys=l.map V.int:=by
  intro l
  induction l with
  |nil=>intro ys h;rw[za2,aN.br] at h;exact h
  |cons i r ih=>
   intro ys h;rw[zam,aN.aI] at h;obtain⟨v,t,rfl,h1,h2⟩:=h;rw[Rep.bt] at h1;rw[h1,ih h2];rfl
 rw[key ry] at hp;exact⟨a,p,rfl,hx,hp⟩
end L2
namespace L3
open PG
open PySem PyProof.Rows
theorem NM:typeLookup (.type "list") "keys"=pure none:=by rw[typeLookup_type,builtinLookup_eq_fast];kernel_rfl
theorem NN:typeLookup (.type "list") "__getattr__"=pure none:=by rw[typeLookup_type,builtinLookup_eq_fast];kernel_rfl
section
variable{prog:zdw}{w:zdm}{A:zdv}{E:zdl->zdu->Prop}
theorem KU(a:zdk)(u:Tok){hp:Heap}{g:Array GenState}{d:Drawn}{tk:Nat}{os:OsState}{bC:Array zdl}{n:Nat}{sl:Array (Option zdl)}{Q:Fin->zdu->Prop}(hx:hp.get? a=some ⟨.type "list",none,.seq bC n,sl⟩)(hA:A.handled=none)
 (h:∀h' NO e,Heap.NewAttrErr hp h' e (.ref a) "keys"->E (.ref e) ⟨h',g,d,NO,os⟩) :
 wpAny (model prog w) A (Builtin.«object.__getattribute__» ⟨[.ref a,.str "keys" u],[]⟩) Q E ⟨hp,g,d,tk,os⟩:=by
 have hT:(⟨hp,g,d,tk,os⟩:zdu).TypeIs (.ref a) "list":=⟨_,hx,rfl⟩
 have f4:=NM;unfold Builtin.«object.__getattribute__»
 repeat (any_goals (first |assumption |wp_step))
 exact wpAny_raiseAttrError hA h (attrMsg_fits (by decide +kernel) (by size_fits))
theorem HW(a:zdk){s:zdu}{bC:Array zdl}{n:Nat}{sl:Array (Option zdl)}{Q:Option zdl->zdu->Prop}(hx:s.heap.get? a=some ⟨.type "list",none,.seq bC n,sl⟩)(hA:A.handled=none)
 (h:∀h' tk,(∀b ob,s.heap.get? b=some ob->h'.get? b=some ob)->Q none {s with heap:=h',toks:=tk}):wpAny (model prog w) A (getAttr? (.ref a) "keys") Q E s:=by
 obtain⟨hp,g,d,tk,os⟩:=s;have hT:∀NO,(⟨hp,g,d,NO,os⟩:zdu).TypeIs (.ref a) "list":=fun _=>⟨_,hx,rfl⟩
 have f1:=sub_AttributeError;have f2:=F.slot_list_getattribute.lookup;have f3:=F.slot_list_getattribute.bind (.ref a);have f5:=NN;unfold getAttr? getAttrBy? getAttrBy
 repeat (any_goals (first |assumption |exact hT _ |wp_step))
 all_goals
  refine codeAny_call_builtin F.slot_list_getattribute.plain F.entry_list_ga (F.slot_list_getattribute.check _ _ _ _ _ _ _ _ (show (⟨hp,g,d,tk+1,os⟩:zdu).TypeIs (.ref a) "list" from ⟨_,hx,rfl⟩) (F.args_list_getattribute_2 _ _) ?_)
 all_goals
  refine KU a tk hx hA fun h' NO e ne=>?_
 all_goals
  obtain⟨t',u',he⟩:=ne.there;show wpAny _ _ (getattributeRaised _ _ _ _ _ _ _) _ _ _;unfold getattributeRaised
  repeat (any_goals (first |assumption |wp_step))
 all_goals exact h _ _ ne.keeps
theorem ny:entryFor table "dict.update.loop"=some Builtin.«dict.update.loop»:=entryFor_of_tree (by kernel_rfl)
theorem gx:plainId "dict.update.loop"=true:=by decide +kernel
theorem CD{κ:Type}[DecidableEq κ](knd:KeyKind prog w κ)(d it l:zdk)(items:Array zdl)(res:zdl)(hA:A.handled=none)(DA:it≠d){R:Result->zdu->Prop}:∀(r:List (zdk×κ×zdl×zdl)) (i:Nat) (j:Int) (u:Tok) (ax:List (κ×zdl)) (s:zdu),
 items.toList.drop i=r.map (fun q=>Value.ref q.1)->(∀q∈r,s.heap.IsTuple q.1 #[q.2.2.1,q.2.2.2]/\knd.is q.2.1 q.2.2.1=true)->s.heap.IsListIter it l i->s.heap.IsList l items->s.heap.DictOf knd d ax->ax.length+r.length<=zds->
 (∀h' tk,h'.DictOf knd d (merged ax (r.map fun q=>(q.2.1,q.2.2.2)))->(∀b o,b≠d->b≠it->s.heap.get? b=some o->h'.get? b=some o)->R (.ok (.ret res)) {s with heap:=h',toks:=tk})->
 codeAny (model prog w) A (.builtin "dict.update.loop" ⟨[.ref d,.ref it,.int j u,res],[]⟩) R s
 |[],i,j,u,ax,s,hi,hp,hit,hl,hd,hz,hR=>by
  refine codeAny_builtin ny ?_;rw[Around.under_plainId gx _];show wpAny _ A.in1 (pyNext (.ref it) >>= _) _ _ s;refine zdn (wpAny_pyNext_list_end hA hit hl (by rw[<- zaY];rw[za2] at hi;exact zbA (zc9.mp hi)) fun h' ext=>?_);show wpAny _ _ (Builtin.Dict.addKeywords d [] >>= _) _ _ _;refine zdn (zdo (zdo (hR h' s.toks ?_ fun b o _ h2 e=>?_)))
  ·obtain⟨o,es,ep,ho,rest⟩:=hd;exact⟨o,es,ep,ext d o DA.symm ho,rest⟩
  ·exact ext b o h2 e
 |q::r,i,j,u,ax,s,hi,hp,hit,hl,hd,hz,hR=>by
  have hx:items[i]?=some (Value.ref q.1):=by
   rw[<- zaY,<- zcQ,hi];rfl
  refine codeAny_builtin ny ?_;rw[Around.under_plainId gx _];show wpAny _ A.in1 (pyNext (.ref it) >>= _) _ _ s;refine zdn (wpAny_pyNext_list_item hit hl hx fun h' Q7 sb=>?_);obtain⟨⟨oq,Yn,Yo,nq,hdq⟩,kq⟩:=hp q (zaq ..);have niq:q.1≠it:=fun z=>by
   obtain⟨oi,Ri,Ux,_⟩:=hit;rw[z,Ri] at Yn;cases Yn;rw[Ux] at Yo;exact zzb (Value.type.inj Yo) (by decide)
  have Uy:h'.get? q.1=some oq:=(sb.2 _ niq).trans Yn;have DI:h'.DictOf knd d ax:=by
   obtain⟨o,es,ep,ho,rest⟩:=hd;exact⟨o,es,ep,(sb.2 d DA.symm).trans ho,rest⟩
  show wpAny _ A.in1 (holding [Value.ref q.1] _ >>= _) _ _ _;refine zdn (zdp (zdn (wpAny_tryCatch ?_)));unfold Builtin.Dict.pairItems;refine zdn (wpAny_typeOf (T:="tuple") ⟨oq,Uy,Yo⟩ ?_);rw[zzp (by decide)];refine zdn (wpAny_seqItems (s:={s with heap:=h' }) Uy hdq (zdo ?_));show wpAny _ A.in1 (holding [q.2.2.1,q.2.2.2] (dictSet d q.2.2.1 q.2.2.2)) _ _ _;refine zdp (wpAny_dictSet_pairs (s:={s with heap:=h' }) kq DI (fun h2 hd2 Rj=>?_) (by simp only[zah] at hz;lia));refine zdo ⟨plainId_quiet gx _,?_⟩;refine CD knd d it l items res hA DA r (i+1) (j+1) _ _ _ ?_ (fun p WA=>?_) ?_ ?_ hd2 ?_ fun h3 tk MJ keep=>hR h3 tk MJ fun b o n1 n2 e=>keep b o n1 n2 ?_
  ·rw[<- zc2,hi];rfl
  ·obtain⟨⟨op,Uz,Yp,np,Yq⟩,kp⟩:=hp p (zat _ WA);refine⟨⟨op,?_,Yp,np,Yq⟩,kp⟩;have n1:p.1≠it:=fun z=>by
    obtain⟨oi,Ri,Ux,_⟩:=hit;rw[z,Ri] at Uz;cases Uz;rw[Ux] at Yp;exact zzb (Value.type.inj Yp) (by decide)
   have n2:p.1≠d:=fun z=>by
    obtain⟨od,_,_,Yr,_,NP,_⟩:=hd;rw[z,Yr] at Uz;cases Uz;rw[NP] at Yq;cases Yq
   exact(Rj.2 _ n2).trans ((sb.2 _ n1).trans Uz)
  ·obtain⟨oi,Ri,rest⟩:=Q7;exact⟨oi,(Rj.2 _ DA).trans Ri,rest⟩
  ·obtain⟨ol,MK,SU,nl,Ys⟩:=hl;have n1:l≠it:=fun z=>by
    obtain⟨oi,Ri,Ux,_⟩:=hit;rw[z,Ri] at MK;cases MK;rw[Ux] at SU;exact zzb (Value.type.inj SU) (by decide)
   have n2:l≠d:=fun z=>by
    obtain⟨od,_,_,Yr,_,NP,_⟩:=hd;rw[z,Yr] at MK;cases MK;rw[NP] at Ys;cases Ys
   exact⟨ol,(Rj.2 _ n2).trans ((sb.2 _ n1).trans MK),SU,nl,Ys⟩
  ·have:=stored_length_le ax q.2.1 q.2.2.2;simp only[zah] at hz;lia
  ·exact(Rj.2 _ n1).trans ((sb.2 _ n2).trans e)
theorem dict_list{κ:Type}[DecidableEq κ](knd:KeyKind prog w κ)(l:zdk){s:zdu}{items:Array zdl}{n:Nat}{sl:Array (Option zdl)}{Q:zdl->zdu->Prop}(hA:A.handled=none)(r:List (zdk×κ×zdl×zdl))(hx:s.heap.get? l=some ⟨.type "list",none,.seq items n,sl⟩)
 (hi:items.toList=r.map (fun q=>Value.ref q.1)) (hp:∀q∈r,s.heap.IsTuple q.1 #[q.2.2.1,q.2.2.2]/\knd.is q.2.1 q.2.2.1=true) (hz:r.length<=zds)
 (h:∀h' tk,h'.DictOf knd s.heap.objs.size (merged [] (r.map fun q=>(q.2.1,q.2.2.2)))->(∀b o,s.heap.get? b=some o->h'.get? b=some o)->Q (.ref s.heap.objs.size) {s with heap:=h',toks:=tk}) :
 wpAny (model prog w) A (call (.type "dict") [.ref l]) Q E s:=by
 refine callType_codes (Q₁:=fun obj s₁=>obj=.ref s.heap.objs.size/\s₁={s with heap:=s.heap.push {cls:=.type "dict",data:=.dict #[]} }) F.kt_called_dict (F.kt_typeCall_dict_1 _) F.entry_dict_init (kt_code_dict_new _ ⟨rfl,rfl⟩) ?_
 rintro obj s₁ ⟨rfl,rfl⟩
 have EB:(s.heap.push {cls:=.type "dict",data:=.dict #[]}).DictOf knd s.heap.objs.size []:=Heap.DictOf.new s.heap;have qJ:∀b o,s.heap.get? b=some o->(s.heap.push {cls:=.type "dict",data:=.dict #[]}).get? b=some o:=fun b o e=>Heap.get?_push_of_some _ e;refine⟨EB.typeIs,F.args_dict_init_2 _ _,?_⟩;unfold Builtin.«dict.__init__»;refine zdn ?_;unfold Builtin.Dict.selfAndRest;refine zdn (wpAny_notOrdered_dict EB.typeIs ?_);show wpAny _ _ (pure (s.heap.objs.size,[Value.ref l])) _ _ _;refine zdo ?_;show wpAny _ _ (Builtin.Dict.updateFrom "dict.__init__" s.heap.objs.size (.ref l) [] .none) _ _ _;unfold Builtin.Dict.updateFrom;refine zdn (wpAny_typeOf (T:="list") ⟨_,qJ _ _ hx,rfl⟩ ?_);rw[zzp (by decide)];refine zdn (HW (n:=n) (sl:=sl) l (qJ _ _ hx) hA fun h2 UA qK=>?_);rw[zzp (show (none:Option zdl).isNone=true from rfl)];refine zdn (wpAny_rule ?_);have Ej:h2.IsList l items:=⟨_,qK _ _ (qJ _ _ hx),rfl,n,rfl⟩
 have hd2:h2.DictOf knd s.heap.objs.size []:=by
  obtain⟨o,es,ep,ho,rest⟩:=EB;exact⟨o,es,ep,qK _ _ ho,rest⟩
 refine zdn (wpAny_pyIter_list (s:={s with heap:=h2,toks:=UA}) Ej ?_);have Gp:∀b o,h2.get? b=some o->(h2.push {cls:=.type "list_iterator",data:=.fields #[.ref l,.int 0 0]}).get? b=some o:=fun b o e=>Heap.get?_push_of_some _ e;have nd:h2.objs.size≠s.heap.objs.size:=by
  obtain⟨o,es,ep,ho,_⟩:=hd2;exact fun e=>zzb (Heap.lt_size ho) (by rw[e];exact zaW _)
 refine zdo ⟨plainId_quiet gx _,?_⟩;refine CD (A:=A.in1) knd s.heap.objs.size h2.objs.size l items .none hA nd r 0 0 _ [] _ (by simpa using hi) (fun q hq=>?_) ⟨_,Heap.get?_push_size _ rfl,rfl,rfl⟩ ?_ ?_ (by simpa using hz) fun h4 Yt Yu KW=>?_
 ·obtain⟨⟨o,ho,rest⟩,kq⟩:=hp q hq;exact⟨⟨o,Gp _ _ (qK _ _ (qJ _ _ ho)),rest⟩,kq⟩
 ·obtain⟨o,ho,rest⟩:=Ej;exact⟨o,Gp _ _ ho,rest⟩
 ·obtain⟨o,es,ep,ho,rest⟩:=hd2;exact⟨o,es,ep,Gp _ _ ho,rest⟩
 ·refine⟨rfl,h h4 Yt Yu fun b o e=>KW b o (fun z=>?_) (fun z=>?_) (Gp _ _ (qK _ _ (qJ _ _ e)))⟩
  ·rw[z] at e;exact zzb (Heap.lt_size e) (zaW _)
  ·have:=Heap.lt_size (qK _ _ (qJ _ _ e));rw[z] at this;exact zzb this (zaW _)
end
end L3
namespace L2
open PG
open PySem PyProof.Rows
theorem rR{X:Cx}(hc:X.calm=true):mm X (.type "dict") (fun xs H Q=>∃(a:zdk) (ps:List (zdk×Key×V)),xs=[.ref a]/\i6 X.K H a (ps.map fun q=>V.ref q.1)/\(∀q∈ps,bQ X.K H q.1 [kV q.2.1,q.2.2])/\ps.length<=zds/\
 ∀p,H p=none->Q (.ref p) (upd H p (.dK (iB [] (ps.map fun q=>(q.2.1,q.2.2)))))):=by
 intro pins s σ H xs us Q I r h;obtain⟨a,ps,rfl,ha,hp,hz,q⟩:=h;obtain⟨u,rfl,ru⟩:=vals1 r;cases (show u=Value.ref a from ru);obtain⟨bC,v1,t1,_⟩:=I.list ha;obtain⟨⟨cls,dct,dat,sl⟩,n,e1,hc1,WB,UB⟩:=t1;simp only at hc1 WB UB;subst hc1 WB UB;have mk:∀(l:List (zdk×Key×V)) (us:List zdl),Vals (l.map fun q=>V.ref q.1) us->(∀q∈l,bQ X.K H q.1 [kV q.2.1,q.2.2])->∃r:List (zdk×Key×zdl×zdl),us=r.map (fun q=>Value.ref q.1)/\r.length=l.length/\
  (∀q∈r,s.heap.IsTuple q.1 #[q.2.2.1,q.2.2.2]/\(bT X.prog X.w).is q.2.1 q.2.2.1=true)/\KV (l.map fun q=>(q.2.1,q.2.2)) (r.map fun q=>(q.2.1,q.2.2.2)):=by
  intro l
  induction l with
  |nil=>intro us v _;cases v;exact⟨[],rfl,rfl,fun _ z=>(by cases z),.nil⟩
  |cons x l ih=>
   intro us v hp;rw[zam] at v;cases v with
   |cons v1 v2=>
    obtain⟨r,e,lr,hr,kv⟩:=ih _ v2 (fun q hq=>hp q (zat _ hq));obtain⟨tq,w1,tu,_⟩:=I.tuple (hp x (zaq ..));obtain⟨ku,vu,rfl,rk,rv⟩:=vals2 w1;cases v1;obtain⟨o,ho,hco,no,hdo⟩:=tu;refine⟨(x.1,x.2.1,ku,vu)::r,by rw[e];rfl,by simp[lr],fun q hq=>?_,.cons ⟨rfl,rv⟩ kv⟩;rcases zag.mp hq with rfl |hq
    ·exact⟨⟨o,ho,hco,no,hdo⟩,xk rk⟩
    ·exact hr q hq
 obtain⟨r',er,lr,hr,kv⟩:=mk ps bC v1 hp;refine L3.dict_list (bT X.prog X.w) a (I.ok.hd hc) r' e1 (by simpa using er) hr (by lia) fun h' tk dd keep=>?_;have hn:=I.cM.fresh (zaf s.heap.objs.size);have hb:(s.heap.objs.size==sysModules)=false:=beq_eq_false_iff_ne.mpr (Ne.symm (zaD I.big));refine⟨.ref s.heap.objs.size,_,I.laid keep (zaf _) (xl ?_ hb (kv.merge .nil) dd),rfl,q _ hn⟩;have h1:=gV (ps.map fun q=>(q.2.1,q.2.2)) [];rw[zaB,zad] at h1;lia
end L2
namespace L3
open PG
open PySem PyProof.Rows
section
variable{prog:zdw}{w:zdm}{A:zdv}{E:zdl->zdu->Prop}{s:zdu}
theorem xM{j tp:zdk}{k:Nat}{bC:Array zdl}{v:zdl}{Q:zdl->zdu->Prop}(hj:s.heap.IsTupleIter j tp k)(ht:s.heap.IsTuple tp bC)(hv:bC[k]?=some v)
 (hQ:∀h',h'.IsTupleIter j tp (k+1)->Heap.SameBut j s.heap h'->Q v {s with heap:=h' }):wpAny (model prog w) A (Builtin.SmallTypes.nextOf (.ref j)) Q E s:=by
 obtain⟨oj,gj,cj,dj⟩:=id hj;obtain⟨ot,gt,_,nt,dt⟩:=ht;unfold Builtin.SmallTypes.nextOf;refine zdn (wpAny_callSpecial?_slot (name:=zab "__next__") hj.typeIs F.slot_tuple_iterator_next (wpAny_call_entry F.slot_tuple_iterator_next hj.typeIs F.entry_tuple_iterator_next ?_ (F.args_tuple_iterator_next_1 _)));show wpAny _ _ (field (.ref j) 0 >>= _) _ _ s;refine zdn (wpAny_field gj dj (x:=.ref tp) rfl ?_);show wpAny _ _ (if (Value.ref tp==Value.none)=true then _ else _) _ _ s;rw[zzn (show ¬((Value.ref tp==Value.none)=true) from zai)];show wpAny _ _ (field (.ref j) 1 >>= _) _ _ s;refine zdn (wpAny_field gj dj (x:=.int k 0) rfl ?_);show wpAny _ _ (seqItems? (.ref tp) >>= _) _ _ s;refine zdn (wpAny_seqItems gt dt ?_);simp only[za0,hv];refine zdn (wpAny_setField gj dj (by simp) (zdo ⟨v,rfl,zdo (hQ _ ?_ (Heap.SameBut.update ..))⟩));exact⟨_,Heap.get?_update_self _ gj (Obj.isFreed_of_fields (Obj.data_mapFields dj _)),(Obj.cls_mapFields ..).trans cj,by rw[Obj.data_mapFields dj];simp[rawInt]⟩
abbrev AX (h:Heap) (z ti to:zdk) (f g:zdl):Prop:=h.get? z=some {cls:=.type "zip",dict:=none,data:=.fields #[f,g,.bool false,.ref ti,.ref to],slots:=#[]}
theorem CF{z ti to T:zdk}{u:Tok}{o:Obj}{g:Bool}{R:Bool->zdu->Prop}(hz:AX s.heap z ti to (.int T u) (.bool g))(hT:s.heap.get? T=some o)
 (h:∀h₀,AX h₀ z ti to (.int T u) (.bool true)->Heap.SameBut z s.heap h₀->R false {s with heap:=h₀}):wpAny (model prog w) A (Builtin.SmallTypes.ownedTupleIsFree (.ref z)) R E s:=by
 unfold Builtin.SmallTypes.ownedTupleIsFree;refine zdn (wpAny_field hz rfl (x:=.int T u) rfl ?_);show wpAny _ _ (loadIfAlive (T:Int).toNat >>= _) _ _ _;refine zdn ?_;have alive:∀ {R:Option Obj->zdu->Prop},R (some o) s->wpAny (model prog w) A (loadIfAlive (T:Int).toNat) R E s:=fun h=>by
  rw[za0];intro Γ p hp;unfold loadIfAlive;rw[Sem.wp_loadIfAlive,hT];exact h
 refine alive ?_;rw[zzn (by simp)];refine zdn (wpAny_field hz rfl (x:=.bool g) rfl ?_);cases g with
 |false=>
  rw[zzp (by decide)];exact zdn (wpAny_setField_rec hz (by simp) fun h₀ Gq sb=>zdo (h h₀ Gq sb))
 |true=>
  rw[zzn (by decide)];exact zdo (h s.heap hz (Heap.SameBut.refl _ _))
theorem EC{z ti to j1 j2 l tp T:zdk}{xs ys:Array zdl}{i:Nat}{u:Tok}{o:Obj}{g:Bool}{x y:zdl}{Q:zdl->zdu->Prop}(hz:AX s.heap z ti to (.int T u) (.bool g))(hT:s.heap.get? T=some o)(hI:IsPair s.heap ti (.ref j1) (.ref j2))
 (h1:s.heap.IsListIter j1 l i) (h2:s.heap.IsTupleIter j2 tp i) (hl:s.heap.IsList l xs) (ht:s.heap.IsTuple tp ys) (DB:z≠j1) (NQ:z≠j2) (Pp:j1≠j2) (hx:xs[i]?=some x) (hy:ys[i]?=some y)
 (hQ:∀h',AX h' z ti to (.int T u) (.bool true)->h'.IsListIter j1 l (i+1)->h'.IsTupleIter j2 tp (i+1)->IsPair h' s.heap.objs.size x y->h'.objs.size=s.heap.objs.size+1->
  (∀c o,c≠z->c≠j1->c≠j2->s.heap.get? c=some o->h'.get? c=some o)->Q (.ref s.heap.objs.size) {s with heap:=h' }) :
 wpAny (model prog w) A (Builtin.«zip.__next__» ⟨[.ref z],[]⟩) (fun fin s'=>∃v,fin=.done (.ret v)/\Q v s') E s:=by
 have lz:l≠z:=fun e=>by
  obtain⟨q,gq,cq,_⟩:=hl;rw[e,hz] at gq;cases gq;exact zzb (Value.type.inj cq) (by decide)
 have lj1:l≠j1:=fun e=>by
  obtain⟨q,gq,cq,_⟩:=hl;obtain⟨r,gr,cr,_⟩:=h1;rw[e,gr] at gq;cases gq;rw[cr] at cq;exact zzb (Value.type.inj cq) (by decide)
 have tz:tp≠z:=fun e=>by
  obtain⟨q,gq,cq,_⟩:=ht;rw[e,hz] at gq;cases gq;exact zzb (Value.type.inj cq) (by decide)
 have Yv:tp≠j1:=fun e=>by
  obtain⟨q,gq,cq,_⟩:=ht;obtain⟨r,gr,cr,_⟩:=h1;rw[e,gr] at gq;cases gq;rw[cr] at cq;exact zzb (Value.type.inj cq) (by decide)
 show wpAny _ _ (field (.ref z) 2 >>= _) _ _ _;refine zdn (wpAny_field hz rfl (x:=.bool false) rfl ?_);show wpAny _ _ (field (.ref z) 3 >>= _) _ _ _;refine zdn (wpAny_field hz rfl (x:=.ref ti) rfl ?_);refine zdn (wpAny_seqItems hI rfl ?_);show wpAny _ _ (Builtin.SmallTypes.ownedTupleIsFree (.ref z) >>= _) _ _ _;refine zdn (CF hz hT fun h₀ Gq qL=>?_);dsimp only;rw[zzn zai];refine zdn ?_;simp only[List.forIn_toArray,za9,zbL];refine zdn (zdn (zdp ?_));show wpAny _ _ (Builtin.SmallTypes.nextOf (.ref j1) >>= _) _ _ _;refine zdn (wpAny_nextOf_list_item (s:={s with heap:=h₀}) (h1.extBut qL.extBut DB.symm) (hl.extBut qL.extBut lz) hx fun h₂ UC jz=>zdo ?_);refine zdo ?_;refine zdn (zdn (zdp ?_));show wpAny _ _ (Builtin.SmallTypes.nextOf (.ref j2) >>= _) _ _ _;have Yw:h₂.IsTupleIter j2 tp i:=by
  obtain⟨q,gq,rest⟩:=h2;exact⟨q,jz.extBut _ _ Pp.symm (qL.extBut _ _ NQ.symm gq),rest⟩
 have Yx:h₂.IsTuple tp ys:=(ht.extBut qL.extBut tz).extBut jz.extBut Yv;refine zdn (xM (s:={s with heap:=h₂}) Yw Yx hy fun h₃ UD lh=>zdo ?_);refine zdo (zdo ?_);show wpAny _ _ (newTuple [x,y] >>= _) _ _ _;have hsz:h₃.objs.size=s.heap.objs.size:=by rw[lh.1,jz.1,qL.1]
 refine zdn (wpAny_newTuple (s:={s with heap:=h₃}) ?_);refine zdo ⟨_,rfl,?_⟩;show Q (.ref h₃.objs.size) _;have hp:IsPair (h₃.push {cls:=.type "tuple",data:=.seq #[x,y]}) h₃.objs.size x y:=Heap.get?_push_size _ rfl;have UB:(h₃.push {cls:=.type "tuple",data:=.seq #[x,y]}).objs.size=h₃.objs.size+1:=Heap.size_push ..;rw[hsz] at hp UB ⊢;have up:∀c o,h₃.get? c=some o->(h₃.push {cls:=.type "tuple",data:=.seq #[x,y]}).get? c=some o:=fun c o e=>Heap.get?_push_of_some _ e;refine hQ _ (up _ _ (lh.extBut _ _ NQ (jz.extBut _ _ DB Gq))) ?_ ?_ hp UB fun c o c1 c2 c3 e=>up _ _ (lh.extBut _ _ c3 (jz.extBut _ _ c2 (qL.extBut _ _ c1 e)))
 ·obtain⟨q,gq,rest⟩:=UC;exact⟨q,up _ _ (lh.extBut _ _ Pp gq),rest⟩
 ·obtain⟨q,gq,rest⟩:=UD;exact⟨q,up _ _ gq,rest⟩
theorem HX{z ti to j1 j2 l T:zdk}{xs:Array zdl}{i:Nat}{u:Tok}{o:Obj}{g:Bool}{Q:Fin->zdu->Prop}(hA:A.handled=none)(hz:AX s.heap z ti to (.int T u) (.bool g))(hT:s.heap.get? T=some o)(hI:IsPair s.heap ti (.ref j1) (.ref j2))
 (h1:s.heap.IsListIter j1 l i) (hl:s.heap.IsList l xs) (DB:z≠j1) (hx:xs[i]?=none)
 (hE:∀h' e,(∀c o,c≠z->c≠j1->s.heap.get? c=some o->h'.get? c=some o)->(∃o,h'.get? e=some o/\o.cls=.type "StopIteration")->E (.ref e) {s with heap:=h' }) :
 wpAny (model prog w) A (Builtin.«zip.__next__» ⟨[.ref z],[]⟩) Q E s:=by
 have lz:l≠z:=fun e=>by
  obtain⟨q,gq,cq,_⟩:=hl;rw[e,hz] at gq;cases gq;exact zzb (Value.type.inj cq) (by decide)
 show wpAny _ _ (field (.ref z) 2 >>= _) _ _ _;refine zdn (wpAny_field hz rfl (x:=.bool false) rfl ?_);show wpAny _ _ (field (.ref z) 3 >>= _) _ _ _;refine zdn (wpAny_field hz rfl (x:=.ref ti) rfl ?_);refine zdn (wpAny_seqItems hI rfl ?_);show wpAny _ _ (Builtin.SmallTypes.ownedTupleIsFree (.ref z) >>= _) _ _ _;refine zdn (CF hz hT fun h₀ Gq qL=>?_);dsimp only;rw[zzn zai];refine zdn ?_;simp only[List.forIn_toArray,za9,zbL];refine zdn (zdn (zdp ?_));show wpAny _ _ (Builtin.SmallTypes.nextOf (.ref j1) >>= _) _ _ _;exact zdn (wpAny_nextOf_list_end (s:={s with heap:=h₀}) hA (h1.extBut qL.extBut DB.symm) (hl.extBut qL.extBut lz) hx fun h₂ e jz he=>hE h₂ e (fun c o c1 c2 q=>jz _ _ c2 (qL.extBut _ _ c1 q)) he)
theorem ED{z ti to j1 j2 l tp:zdk}{xs ys:Array zdl}{i:Nat}{a b x y:zdl}{Q:zdl->zdu->Prop}(hz:AX s.heap z ti to .none (.bool false))(hO:IsPair s.heap to a b)(hI:IsPair s.heap ti (.ref j1) (.ref j2))
 (h1:s.heap.IsListIter j1 l i) (h2:s.heap.IsTupleIter j2 tp i) (hl:s.heap.IsList l xs) (ht:s.heap.IsTuple tp ys) (DB:z≠j1) (NQ:z≠j2) (UE:z≠to) (KY:to≠j1) (KZ:to≠j2) (Pp:j1≠j2) (NR:tp≠to) (hx:xs[i]?=some x) (hy:ys[i]?=some y)
 (hQ:∀h',AX h' z ti to (rawInt s.heap.objs.size) (.bool false)->h'.IsListIter j1 l (i+1)->h'.IsTupleIter j2 tp (i+1)->IsPair h' s.heap.objs.size x y->h'.objs.size=s.heap.objs.size+1->
  (∀c o,c≠z->c≠to->c≠j1->c≠j2->s.heap.get? c=some o->h'.get? c=some o)->Q (.ref s.heap.objs.size) {s with heap:=h' }) :
 wpAny (model prog w) A (Builtin.«zip.__next__» ⟨[.ref z],[]⟩) (fun fin s'=>∃v,fin=.done (.ret v)/\Q v s') E s:=by
 have lz:l≠z:=fun e=>by
  obtain⟨q,gq,cq,_⟩:=hl;rw[e,hz] at gq;cases gq;exact zzb (Value.type.inj cq) (by decide)
 have tz:tp≠z:=fun e=>by
  obtain⟨q,gq,cq,_⟩:=ht;rw[e,hz] at gq;cases gq;exact zzb (Value.type.inj cq) (by decide)
 have Yv:tp≠j1:=fun e=>by
  obtain⟨q,gq,cq,_⟩:=ht;obtain⟨r,gr,cr,_⟩:=h1;rw[e,gr] at gq;cases gq;rw[cr] at cq;exact zzb (Value.type.inj cq) (by decide)
 show wpAny _ _ (field (.ref z) 2 >>= _) _ _ _;refine zdn (wpAny_field hz rfl (x:=.bool false) rfl ?_);show wpAny _ _ (field (.ref z) 3 >>= _) _ _ _;refine zdn (wpAny_field hz rfl (x:=.ref ti) rfl ?_);refine zdn (wpAny_seqItems hI rfl ?_);show wpAny _ _ (Builtin.SmallTypes.ownedTupleIsFree (.ref z) >>= _) _ _ _;refine zdn ?_;unfold Builtin.SmallTypes.ownedTupleIsFree;refine zdn (wpAny_field hz rfl (x:=.none) rfl (zdo ?_));simp only[if_true];refine zdn (wpAny_rule ?_);refine zdn (wpAny_field hz rfl (x:=.ref to) rfl ?_);refine zdn (wpAny_setField_rec hz (by simp) fun h₁ z₁ pF=>?_);replace z₁:AX h₁ z ti to .ellipsis (.bool false):=z₁;refine zdn ?_;simp only[List.zipIdx_cons,List.zipIdx_nil,za9,zbL];refine zdn (zdn (wpAny_onRaise ?_));show wpAny _ _ (Builtin.SmallTypes.nextOf (.ref j1) >>= _) _ _ _;refine zdn (wpAny_nextOf_list_item (h1.extBut pF.extBut DB.symm) (hl.extBut pF.extBut lz) hx fun h₂ k₂ jz=>zdo ?_);have o₂:IsPair h₂ to a b:=jz.extBut _ _ KY (pF.extBut _ _ UE.symm hO);refine zdn (wpAny_seqItems o₂ rfl ?_);refine zdn (wpAny_updateSeq_pair o₂ fun h₃ o₃ lh=>?_);replace o₃:IsPair h₃ to x b:=o₃;refine zdn (wpAny_letGo (zdo ?_));refine zdn (zdn (wpAny_onRaise ?_));show wpAny _ _ (Builtin.SmallTypes.nextOf (.ref j2) >>= _) _ _ _;have Yw:h₃.IsTupleIter j2 tp i:=by
  obtain⟨q,gq,rest⟩:=h2;exact⟨q,lh.extBut _ _ KZ.symm (jz.extBut _ _ Pp.symm (pF.extBut _ _ NQ.symm gq)),rest⟩
 have Yx:h₃.IsTuple tp ys:=((ht.extBut pF.extBut tz).extBut jz.extBut Yv).extBut lh.extBut NR;refine zdn (xM Yw Yx hy fun h₄ k₄ CG=>zdo ?_);have o₄:IsPair h₄ to x b:=CG.extBut _ _ KZ o₃;refine zdn (wpAny_seqItems o₄ rfl ?_);refine zdn (wpAny_updateSeq_pair o₄ fun h₅ o₅ CH=>?_);replace o₅:IsPair h₅ to x y:=o₅;refine zdn (wpAny_letGo (zdo (zdo ?_)));refine zdn (wpAny_seqItems o₅ rfl ?_);refine zdn (wpAny_newTuple ?_);have hsz:h₅.objs.size=s.heap.objs.size:=by rw[CH.1,CG.1,lh.1,jz.1,pF.1]
 have z₅:AX h₅ z ti to .ellipsis (.bool false):=CH.extBut _ _ UE (CG.extBut _ _ NQ (lh.extBut _ _ UE (jz.extBut _ _ DB z₁)));have kp:∀c o,c≠z->c≠to->c≠j1->c≠j2->s.heap.get? c=some o->h₅.get? c=some o:=fun c o c1 c2 c3 c4 e=>CH.extBut _ _ c2 (CG.extBut _ _ c4 (lh.extBut _ _ c2 (jz.extBut _ _ c3 (pF.extBut _ _ c1 e))));have zlt:z<h₅.objs.size:=Heap.lt_size z₅;show wpAny _ _ (Builtin.SmallTypes.ownedTupleHandOut (.ref z) (.ref h₅.objs.size) >>= _) _ _ _;refine zdn ?_;unfold Builtin.SmallTypes.ownedTupleHandOut;have z₆:AX (h₅.push {cls:=.type "tuple",data:=.seq #[x,y]}) z ti to .ellipsis (.bool false):=Heap.get?_push_of_some _ z₅;refine zdn (wpAny_setField_rec z₆ (by simp) fun h₇ z₇ K0=>?_);replace z₇:AX h₇ z ti to (rawInt h₅.objs.size) (.bool false):=z₇;refine wpAny_setField_rec z₇ (by simp) fun h₈ z₈ K1=>?_;replace z₈:AX h₈ z ti to (rawInt h₅.objs.size) (.bool false):=z₈;have up:∀c o,c≠z->h₅.get? c=some o->h₈.get? c=some o:=fun c o c1 e=>K1.extBut _ _ c1 (K0.extBut _ _ c1 (Heap.get?_push_of_some _ e));have t₈:IsPair h₈ h₅.objs.size x y:=K1.extBut _ _ (zbM zlt) (K0.extBut _ _ (zbM zlt) (Heap.get?_push_size _ rfl));have n₈:h₈.objs.size=h₅.objs.size+1:=by rw[K1.1,K0.1,Heap.size_push]
 rw[hsz] at z₈ t₈ n₈;refine zdo ⟨_,rfl,?_⟩;show Q (.ref h₅.objs.size) _;rw[hsz];refine hQ h₈ z₈ ?_ ?_ t₈ n₈ fun c o c1 c2 c3 c4 e=>up c o c1 (kp c o c1 c2 c3 c4 e)
 ·obtain⟨q,gq,rest⟩:=k₂;exact⟨q,up _ _ DB.symm (CH.extBut _ _ KY.symm (CG.extBut _ _ Pp (lh.extBut _ _ KY.symm gq))),rest⟩
 ·obtain⟨q,gq,rest⟩:=k₄;exact⟨q,up _ _ NQ.symm (CH.extBut _ _ KZ.symm gq),rest⟩
theorem HY{z ti to j1 j2 l:zdk}{xs:Array zdl}{i:Nat}{Q:Fin->zdu->Prop}(hA:A.handled=none)(hz:AX s.heap z ti to .none (.bool false))(hI:IsPair s.heap ti (.ref j1) (.ref j2))
 (h1:s.heap.IsListIter j1 l i) (hl:s.heap.IsList l xs) (DB:z≠j1) (hx:xs[i]?=none)
 (hE:∀h' e,(∀c o,c≠z->c≠j1->s.heap.get? c=some o->h'.get? c=some o)->(∃o,h'.get? e=some o/\o.cls=.type "StopIteration")->E (.ref e) {s with heap:=h' }) :
 wpAny (model prog w) A (Builtin.«zip.__next__» ⟨[.ref z],[]⟩) Q E s:=by
 have lz:l≠z:=fun e=>by
  obtain⟨q,gq,cq,_⟩:=hl;rw[e,hz] at gq;cases gq;exact zzb (Value.type.inj cq) (by decide)
 show wpAny _ _ (field (.ref z) 2 >>= _) _ _ _;refine zdn (wpAny_field hz rfl (x:=.bool false) rfl ?_);show wpAny _ _ (field (.ref z) 3 >>= _) _ _ _;refine zdn (wpAny_field hz rfl (x:=.ref ti) rfl ?_);refine zdn (wpAny_seqItems hI rfl ?_);show wpAny _ _ (Builtin.SmallTypes.ownedTupleIsFree (.ref z) >>= _) _ _ _;refine zdn ?_;unfold Builtin.SmallTypes.ownedTupleIsFree;refine zdn (wpAny_field hz rfl (x:=.none) rfl (zdo ?_));simp only[if_true];refine zdn (wpAny_rule ?_);refine zdn (wpAny_field hz rfl (x:=.ref to) rfl ?_);refine zdn (wpAny_setField_rec hz (by simp) fun h₁ z₁ pF=>?_);replace z₁:AX h₁ z ti to .ellipsis (.bool false):=z₁;refine zdn ?_;simp only[List.zipIdx_cons,List.zipIdx_nil,za9,zbL];refine zdn (zdn (wpAny_onRaise ?_));show wpAny _ _ (Builtin.SmallTypes.nextOf (.ref j1) >>= _) _ _ _;refine zdn (wpAny_nextOf_list_end hA (h1.extBut pF.extBut DB.symm) (hl.extBut pF.extBut lz) hx fun h₂ e jz he=>?_);obtain⟨oe,ge,ce⟩:=he;have z₂:AX h₂ z ti to .ellipsis (.bool false):=jz _ _ DB z₁;have ez:e≠z:=fun q=>by subst q;rw[z₂] at ge;cases ge;simp at ce
 exact wpAny_setField_rec z₂ (by simp) fun h₃ _ lh=>hE h₃ e (fun c o c1 c3 q=>lh.extBut _ _ c1 (jz _ _ c3 (pF.extBut _ _ c1 q))) ⟨oe,lh.extBut _ _ ez ge,ce⟩
structure SV(z ti to j1 j2 l tp:zdk):Prop where
 zti:z≠ti
 UE:z≠to
 DB:z≠j1
 NQ:z≠j2
 Yy:ti≠to
 Yz:ti≠j1
 YA:ti≠j2
 KY:to≠j1
 KZ:to≠j2
 Pp:j1≠j2
 YB:l≠to
 NR:tp≠to
structure ML(h:Heap)(z ti to j1 j2 l tp:zdk)(xs ys:Array zdl)(i:Nat):Prop where
 zip:(∃a b,AX h z ti to .none (.bool false)/\IsPair h to a b)\/∃(T:zdk) (u:Tok) (a b:zdl) (g:Bool),AX h z ti to (.int T u) (.bool g)/\IsPair h T a b
 ins:IsPair h ti (.ref j1) (.ref j2)
 NS:h.IsListIter j1 l i
 SW:h.IsTupleIter j2 tp i
 ls:h.IsList l xs
 tu:h.IsTuple tp ys
theorem nA{h:Heap}{a b:zdk}{o o':Obj}{c c':String}(e:h.get? a=some o)(e':h.get? b=some o')(hc:o.cls=.type c)(Tv:o'.cls=.type c')(n:c≠c'):a≠b:=fun q=>by
 rw[q,e'] at e;cases e;rw[hc] at Tv;exact n (Value.type.inj Tv)
theorem K2{z ti to j1 j2 l tp:zdk}{xs ys:Array zdl}{i:Nat}{x y:zdl}{Q:Option zdl->zdu->Prop}(ap:SV z ti to j1 j2 l tp)(st:ML s.heap z ti to j1 j2 l tp xs ys i)(hx:xs[i]?=some x)(hy:ys[i]?=some y)
 (hQ:∀h',ML h' z ti to j1 j2 l tp xs ys (i+1)->IsPair h' s.heap.objs.size x y->(∀c o,c≠z->c≠to->c≠j1->c≠j2->s.heap.get? c=some o->h'.get? c=some o)->Q (some (.ref s.heap.objs.size)) {s with heap:=h' }) :
 wpAny (model prog w) A (pyNext (.ref z)) Q E s:=by
 have zT:s.TypeIs (.ref z) "zip":=by
  rcases st.zip with ⟨a,b,hz,_⟩ |⟨T,u,a,b,g,hz,_⟩
  ·exact⟨_,hz,rfl⟩
  ·exact⟨_,hz,rfl⟩
 obtain⟨o1,g1,c1,_⟩:=st.NS;obtain⟨o2,g2,c2,_⟩:=st.SW;obtain⟨ol,gl,cl,_⟩:=st.ls;obtain⟨ot,gt,ct,_⟩:=st.tu;obtain⟨oz,gz,cz⟩:=zT;have lk:∀h',(∀c o,c≠z->c≠to->c≠j1->c≠j2->s.heap.get? c=some o->h'.get? c=some o)->IsPair h' ti (.ref j1) (.ref j2)/\h'.IsList l xs/\h'.IsTuple tp ys:=fun h' k=>by
  refine⟨k _ _ ap.zti.symm ap.Yy ap.Yz ap.YA st.ins,?_,?_⟩
  ·obtain⟨q,gq,rest⟩:=st.ls;exact⟨q,k _ _ (nA gl gz cl cz (by decide)) ap.YB (nA gl g1 cl c1 (by decide)) (nA gl g2 cl c2 (by decide)) gq,rest⟩
  ·obtain⟨q,gq,rest⟩:=st.tu;exact⟨q,k _ _ (nA gt gz ct cz (by decide)) ap.NR (nA gt g1 ct c1 (by decide)) (nA gt g2 ct c2 (by decide)) gq,rest⟩
 unfold pyNext;refine zdn (wpAny_attempt (wpAny_callSpecial?_slot (name:=zab "__next__") ⟨oz,gz,cz⟩ F.slot_zip_next (wpAny_call_entry F.slot_zip_next ⟨oz,gz,cz⟩ F.entry_zip_next ?_ (F.args_zip_next_1 _))));rcases st.zip with ⟨a,b,hz,hO⟩ |⟨T,u,a,b,g,hz,hT⟩
 ·refine ED hz hO st.ins st.NS st.SW st.ls st.tu ap.DB ap.NQ ap.UE ap.KY ap.KZ ap.Pp ap.NR hx hy fun h' q1 q2 q3 q4 q5 q6=>zdo ?_;obtain⟨k1,k2,k3⟩:=lk h' q6;exact hQ h' ⟨.inr ⟨_,_,x,y,false,q1,q4⟩,k1,q2,q3,k2,k3⟩ q4 q6
 ·refine EC hz hT st.ins st.NS st.SW st.ls st.tu ap.DB ap.NQ ap.Pp hx hy fun h' q1 q2 q3 q4 q5 q6=>zdo ?_;have q6':∀c o,c≠z->c≠to->c≠j1->c≠j2->s.heap.get? c=some o->h'.get? c=some o:=fun c o a1 _ a3 a4 e=>q6 c o a1 a3 a4 e;obtain⟨k1,k2,k3⟩:=lk h' q6';exact hQ h' ⟨.inr ⟨T,u,a,b,true,q1,q6 _ _ (nA hT gz rfl cz (by decide)) (nA hT g1 rfl c1 (by decide)) (nA hT g2 rfl c2 (by decide)) hT⟩,k1,q2,q3,k2,k3⟩ q4 q6'
theorem NT{z ti to j1 j2 l tp:zdk}{xs ys:Array zdl}{i:Nat}{Q:Option zdl->zdu->Prop}(hA:A.handled=none)(ap:SV z ti to j1 j2 l tp)(st:ML s.heap z ti to j1 j2 l tp xs ys i)(hx:xs[i]?=none)
 (hQ:∀h',(∀c o,c≠z->c≠j1->s.heap.get? c=some o->h'.get? c=some o)->Q none {s with heap:=h' }):wpAny (model prog w) A (pyNext (.ref z)) Q E s:=by
 have zT:s.TypeIs (.ref z) "zip":=by
  rcases st.zip with ⟨a,b,hz,_⟩ |⟨T,u,a,b,g,hz,_⟩
  ·exact⟨_,hz,rfl⟩
  ·exact⟨_,hz,rfl⟩
 unfold pyNext;refine zdn (wpAny_attempt (wpAny_callSpecial?_slot (name:=zab "__next__") zT F.slot_zip_next (wpAny_call_entry F.slot_zip_next zT F.entry_zip_next ?_ (F.args_zip_next_1 _))));rcases st.zip with ⟨a,b,hz,hO⟩ |⟨T,u,a,b,g,hz,hT⟩
 ·refine HY hA hz st.ins st.NS st.ls ap.DB hx fun h' e k he=>?_;obtain⟨oe,ge,ce⟩:=he;refine zdn (wpAny_isInstance (T:="StopIteration") (b:=true) ⟨oe,ge,ce⟩ isSubtype_stop ?_);exact zdo (hQ _ k)
 ·refine HX hA hz hT st.ins st.NS st.ls ap.DB hx fun h' e k he=>?_;obtain⟨oe,ge,ce⟩:=he;refine zdn (wpAny_isInstance (T:="StopIteration") (b:=true) ⟨oe,ge,ce⟩ isSubtype_stop ?_);exact zdo (hQ _ k)
theorem ML.but{h h':Heap}{z ti to j1 j2 l tp d:zdk}{xs ys:Array zdl}{i:Nat}(st:ML h z ti to j1 j2 l tp xs ys i)(sb:Heap.SameBut d h h')(dn:∀a o,h.get? a=some o->(∀es n,o.data≠.dict es n)->a≠d):ML h' z ti to j1 j2 l tp xs ys i:=by
 have k:∀a o,h.get? a=some o->(∀es n,o.data≠.dict es n)->h'.get? a=some o:=fun a o e n=>sb.extBut _ _ (dn a o e n) e;refine⟨?_,k _ _ st.ins (by intro es n q;cases q),?_,?_,?_,?_⟩
 ·rcases st.zip with ⟨a,b,hz,hO⟩ |⟨T,u,a,b,g,hz,hT⟩
  ·exact .inl ⟨a,b,k _ _ hz (by intro es n q;cases q),k _ _ hO (by intro es n q;cases q)⟩
  ·exact .inr ⟨T,u,a,b,g,k _ _ hz (by intro es n q;cases q),k _ _ hT (by intro es n q;cases q)⟩
 ·obtain⟨o,go,hc,hd⟩:=st.NS;exact⟨o,k _ _ go (by intro es n q;rw[hd] at q;cases q),hc,hd⟩
 ·obtain⟨o,go,hc,hd⟩:=st.SW;exact⟨o,k _ _ go (by intro es n q;rw[hd] at q;cases q),hc,hd⟩
 ·obtain⟨o,go,hc,n',hd⟩:=st.ls;exact⟨o,k _ _ go (by intro es n q;rw[hd] at q;cases q),hc,n',hd⟩
 ·obtain⟨o,go,hc,n',hd⟩:=st.tu;exact⟨o,k _ _ go (by intro es n q;rw[hd] at q;cases q),hc,n',hd⟩
theorem Gr{κ:Type}[DecidableEq κ](knd:KeyKind prog w κ)(d z ti to j1 j2 l tp:zdk)(xs ys:Array zdl)(res:zdl)(hA:A.handled=none)(ap:SV z ti to j1 j2 l tp)(dto:d≠to){R:Result->zdu->Prop}:∀(r:List (κ×zdl×zdl)) (i:Nat) (j:Int) (u:Tok) (ax:List (κ×zdl)) (s:zdu),
 xs.toList.drop i=r.map (·.2.1)->ys.toList.drop i=r.map (·.2.2)->(∀q∈r,knd.is q.1 q.2.1=true)->ML s.heap z ti to j1 j2 l tp xs ys i->s.heap.DictOf knd d ax->ax.length+r.length<=zds->
 (∀h' tk,h'.DictOf knd d (merged ax (r.map fun q=>(q.1,q.2.2)))->(∀b o,b≠d->b≠z->b≠to->b≠j1->b≠j2->s.heap.get? b=some o->h'.get? b=some o)->R (.ok (.ret res)) {s with heap:=h',toks:=tk})->
 codeAny (model prog w) A (.builtin "dict.update.loop" ⟨[.ref d,.ref z,.int j u,res],[]⟩) R s
 |[],i,j,u,ax,s,hi,hk,hp,st,hd,hz,hR=>by
  refine codeAny_builtin ny ?_;rw[Around.under_plainId gx _];show wpAny _ A.in1 (pyNext (.ref z) >>= _) _ _ s;have dn:∀a o,s.heap.get? a=some o->(∀es n,o.data≠.dict es n)->a≠d:=fun a o e n q=>by
   obtain⟨od,_,_,K3,_,NP,_⟩:=hd;rw[q,K3] at e;cases e;exact n _ _ NP
  refine zdn (NT hA ap st (by rw[<- zaY];rw[za2] at hi;exact zbA (zc9.mp hi)) fun h' kp=>?_);show wpAny _ _ (Builtin.Dict.addKeywords d [] >>= _) _ _ _;refine zdn (zdo (zdo (hR h' s.toks ?_ fun b o _ c1 _ c3 _ e=>kp b o c1 c3 e)));have dz:d≠z:=by
   rcases st.zip with ⟨a,b,gz,_⟩ |⟨T,u,a,b,g,gz,_⟩
   ·exact(dn _ _ gz (by intro es n q;cases q)).symm
   ·exact(dn _ _ gz (by intro es n q;cases q)).symm
  have dj:d≠j1:=by
   obtain⟨o,go,hc,DI⟩:=st.NS;exact(dn _ _ go (by intro es n q;rw[DI] at q;cases q)).symm
  obtain⟨o,es,ep,ho,rest⟩:=hd;exact⟨o,es,ep,kp d o dz dj ho,rest⟩
 |q::r,i,j,u,ax,s,hi,hk,hp,st,hd,hz,hR=>by
  have hx:xs[i]?=some q.2.1:=by
   rw[<- zaY,<- zcQ,hi];rfl
  have hy:ys[i]?=some q.2.2:=by
   rw[<- zaY,<- zcQ,hk];rfl
  have dn:∀a o,s.heap.get? a=some o->(∀es n,o.data≠.dict es n)->a≠d:=fun a o e n q=>by
   obtain⟨od,_,_,K3,_,NP,_⟩:=hd;rw[q,K3] at e;cases e;exact n _ _ NP
  have dz:d≠z:=by
   rcases st.zip with ⟨a,b,gz,_⟩ |⟨T,u,a,b,g,gz,_⟩
   ·exact(dn _ _ gz (by intro es n q;cases q)).symm
   ·exact(dn _ _ gz (by intro es n q;cases q)).symm
  have dj1:d≠j1:=by
   obtain⟨o,go,hc,DI⟩:=st.NS;exact(dn _ _ go (by intro es n q;rw[DI] at q;cases q)).symm
  have dj2:d≠j2:=by
   obtain⟨o,go,hc,DI⟩:=st.SW;exact(dn _ _ go (by intro es n q;rw[DI] at q;cases q)).symm
  refine codeAny_builtin ny ?_;rw[Around.under_plainId gx _];show wpAny _ A.in1 (pyNext (.ref z) >>= _) _ _ s;refine zdn (K2 ap st hx hy fun h' G7 pr kp=>?_);have DI:h'.DictOf knd d ax:=by
   obtain⟨o,es,ep,ho,rest⟩:=hd;exact⟨o,es,ep,kp d o dz dto dj1 dj2 ho,rest⟩
  show wpAny _ A.in1 (holding [Value.ref s.heap.objs.size] _ >>= _) _ _ _;refine zdn (zdp (zdn (wpAny_tryCatch ?_)));unfold Builtin.Dict.pairItems;refine zdn (wpAny_typeOf (T:="tuple") ⟨_,pr,rfl⟩ ?_);rw[zzp (by decide)];refine zdn (wpAny_seqItems (s:={s with heap:=h' }) pr rfl (zdo ?_));show wpAny _ A.in1 (holding [q.2.1,q.2.2] (dictSet d q.2.1 q.2.2)) _ _ _;refine zdp (wpAny_dictSet_pairs (s:={s with heap:=h' }) (hp q (zaq ..)) DI (fun h2 hd2 Rj=>?_) (by simp only[zah] at hz;lia));refine zdo ⟨plainId_quiet gx _,?_⟩;refine Gr knd d z ti to j1 j2 l tp xs ys res hA ap dto r (i+1) (j+1) _ _ _ ?_ ?_ (fun p WA=>hp p (zat _ WA)) (G7.but Rj fun a o e n w=>?_) hd2 ?_ fun h3 tk MJ keep=>hR h3 tk MJ fun b o n1 n2 n3 n4 n5 e=>keep b o n1 n2 n3 n4 n5 ?_
  ·rw[<- zc2,hi];rfl
  ·rw[<- zc2,hk];rfl
  ·obtain⟨od,_,_,K3,_,NP,_⟩:=DI;rw[w,K3] at e;cases e;exact n _ _ NP
  ·have:=stored_length_le ax q.1 q.2.2;simp only[zah] at hz;lia
  ·exact(Rj.2 _ n1).trans (kp b o n2 n3 n4 n5 e)
theorem K4:typeLookup (.type "zip") "keys"=pure none:=by rw[typeLookup_type,builtinLookup_eq_fast];kernel_rfl
theorem K5:typeLookup (.type "zip") "__getattr__"=pure none:=by rw[typeLookup_type,builtinLookup_eq_fast];kernel_rfl
theorem AY:entryFor table "zip.__getattribute__"=some Builtin.«object.__getattribute__»:=entryFor_alias (id':="object.__getattribute__") (by kernel_rfl) (by first |rfl |decide +kernel) (by decide +kernel) (by kernel_rfl)
theorem HZ(a:zdk)(u:Tok){hp:Heap}{g:Array GenState}{d:Drawn}{tk:Nat}{os:OsState}{vs:Array zdl}{Q:Fin->zdu->Prop}(hx:hp.get? a=some ⟨.type "zip",none,.fields vs, #[]⟩)(hA:A.handled=none)
 (h:∀h' NO e,Heap.NewAttrErr hp h' e (.ref a) "keys"->E (.ref e) ⟨h',g,d,NO,os⟩) :
 wpAny (model prog w) A (Builtin.«object.__getattribute__» ⟨[.ref a,.str "keys" u],[]⟩) Q E ⟨hp,g,d,tk,os⟩:=by
 have hT:(⟨hp,g,d,tk,os⟩:zdu).TypeIs (.ref a) "zip":=⟨_,hx,rfl⟩
 have f4:=K4;unfold Builtin.«object.__getattribute__»
 repeat (any_goals (first |assumption |wp_step))
 exact wpAny_raiseAttrError hA h (attrMsg_fits (by decide +kernel) (by size_fits))
theorem EE(a:zdk){s:zdu}{vs:Array zdl}{Q:Option zdl->zdu->Prop}(hx:s.heap.get? a=some ⟨.type "zip",none,.fields vs, #[]⟩)(hA:A.handled=none)
 (h:∀h' tk,(∀b ob,s.heap.get? b=some ob->h'.get? b=some ob)->Q none {s with heap:=h',toks:=tk}):wpAny (model prog w) A (getAttr? (.ref a) "keys") Q E s:=by
 obtain⟨hp,g,d,tk,os⟩:=s;have hT:∀NO,(⟨hp,g,d,NO,os⟩:zdu).TypeIs (.ref a) "zip":=fun _=>⟨_,hx,rfl⟩
 have f1:=sub_AttributeError;have f2:=F.slot_zip_getattribute.lookup;have f3:=F.slot_zip_getattribute.bind (.ref a);have f5:=K5;unfold getAttr? getAttrBy? getAttrBy
 repeat (any_goals (first |assumption |exact hT _ |wp_step))
 all_goals
  refine codeAny_call_builtin F.slot_zip_getattribute.plain AY (F.slot_zip_getattribute.check _ _ _ _ _ _ _ _ (show (⟨hp,g,d,tk+1,os⟩:zdu).TypeIs (.ref a) "zip" from ⟨_,hx,rfl⟩) (F.args_zip_getattribute_2 _ _) ?_)
 all_goals
  refine HZ a tk hx hA fun h' NO e ne=>?_
 all_goals
  obtain⟨t',u',he⟩:=ne.there;show wpAny _ _ (getattributeRaised _ _ _ _ _ _ _) _ _ _;unfold getattributeRaised
  repeat (any_goals (first |assumption |wp_step))
 all_goals exact h _ _ ne.keeps
end
noncomputable abbrev zA (h:Heap) (l:zdk):Heap:=h.push {cls:=.type "list_iterator",data:=.fields #[.ref l,.int 0 0]}
abbrev zB (h:Heap) (l tp:zdk):Heap:=(zA h l).push {cls:=.type "tuple_iterator",data:=.fields #[.ref tp,.int 0 0]}
abbrev zC (h:Heap) (l tp:zdk):Heap:=(zB h l tp).push {cls:=.type "tuple",data:=.seq #[.ref h.objs.size,.ref (zA h l).objs.size]}
abbrev zD (h:Heap) (l tp:zdk):Heap:=(zC h l tp).push {cls:=.type "tuple",data:=.seq #[.none,.none]}
abbrev zE (h:Heap) (l tp:zdk):Heap:=(zD h l tp).push {cls:=.type "zip",data:=.fields #[.none,.bool false,.bool false,.ref (zB h l tp).objs.size,.ref (zC h l tp).objs.size]}
theorem K6(l tp:zdk)(xs ys:Array zdl):Meets (Builtin.«zip.__new__» ⟨[.type "zip",.ref l,.ref tp],[]⟩) (fun _ R s=>s.heap.IsList l xs/\s.heap.IsTuple tp ys/\R (.ok (.ret (.ref (zD s.heap l tp).objs.size))) {s with heap:=zE s.heap l tp}):=
 .of_wp fun prog w A R s h=>by
  obtain⟨hp,g,d,tk,os⟩:=s;obtain⟨g1,g2,h⟩:=h;have adg:=sub_zip;have k1:Heap.IsList (Shared.heap ⟨hp,g,d,tk,os⟩) l xs:=g1;have k2:Heap.IsTuple (Shared.heap ⟨hp.push {cls:=.type "list_iterator",data:=.fields #[.ref l,.int 0 0]},g,d,tk,os⟩) tp ys:=by
   obtain⟨o,go,rest⟩:=g2;exact⟨o,Heap.get?_push_of_some _ go,rest⟩
  wp_walk using wpAny_pyIter_list k1,wpAny_pyIter_tuple k2
  exact⟨_,rfl,h⟩
section
variable{prog:zdw}{w:zdm}{A:zdv}{E:zdl->zdu->Prop}{s:zdu}
theorem NU(n l tp:Nat)(h1:l<n)(h2:tp<n):SV (n+4) (n+2) (n+3) n (n+1) l tp:=by
 constructor<;>(show (_:Nat)≠_;lia)
theorem EF{l tp:zdk}{xs ys:Array zdl}{Q:zdl->zdu->Prop}(hl:s.heap.IsList l xs)(ht:s.heap.IsTuple tp ys)
 (h:∀h',SV (s.heap.objs.size+4) (s.heap.objs.size+2) (s.heap.objs.size+3) s.heap.objs.size (s.heap.objs.size+1) l tp->ML h' (s.heap.objs.size+4) (s.heap.objs.size+2) (s.heap.objs.size+3) s.heap.objs.size (s.heap.objs.size+1) l tp xs ys 0->
  AX h' (s.heap.objs.size+4) (s.heap.objs.size+2) (s.heap.objs.size+3) .none (.bool false)->(∀c o,s.heap.get? c=some o->h'.get? c=some o)->Q (.ref (s.heap.objs.size+4)) {s with heap:=h' }) :
 wpAny (model prog w) A (call (.type "zip") [.ref l,.ref tp]) Q E s:=by
 refine callType_new F.called_zip (by decide) (F.typeCall_zip_2 _ _) (F.newCall_zip_2 _ _) (fun obj=>F.args_object_init_3 obj _ _) F.entry_zip_new (K6 l tp xs ys) ⟨hl,ht,?_⟩;have z1:(zA s.heap l).objs.size=s.heap.objs.size+1:=Heap.size_push ..;have z2:(zB s.heap l tp).objs.size=s.heap.objs.size+2:=by rw[Heap.size_push,z1]
 have z3:(zC s.heap l tp).objs.size=s.heap.objs.size+3:=by rw[Heap.size_push,z2]
 have z4:(zD s.heap l tp).objs.size=s.heap.objs.size+4:=by rw[Heap.size_push,z3]
 have g5:(zE s.heap l tp).get? (zD s.heap l tp).objs.size=some _:=Heap.get?_push_size _ rfl;have g4:(zE s.heap l tp).get? (zC s.heap l tp).objs.size=some _:=Heap.get?_push_of_some _ (Heap.get?_push_size _ rfl);have g3:(zE s.heap l tp).get? (zB s.heap l tp).objs.size=some _:=Heap.get?_push_of_some _ (Heap.get?_push_of_some _ (Heap.get?_push_size _ rfl));have g2:(zE s.heap l tp).get? (zA s.heap l).objs.size=some _:=Heap.get?_push_of_some _ (Heap.get?_push_of_some _ (Heap.get?_push_of_some _ (Heap.get?_push_size _ rfl)));have g1:(zE s.heap l tp).get? s.heap.objs.size=some _:=Heap.get?_push_of_some _ (Heap.get?_push_of_some _ (Heap.get?_push_of_some _ (Heap.get?_push_of_some _ (Heap.get?_push_size _ rfl))));have up:∀c o,s.heap.get? c=some o->(zE s.heap l tp).get? c=some o:=fun c o e=>Heap.get?_push_of_some _ (Heap.get?_push_of_some _ (Heap.get?_push_of_some _ (Heap.get?_push_of_some _ (Heap.get?_push_of_some _ e))));show _/\_;rw[z2,z3,z4] at g5;rw[z1,z2] at g3;rw[z3] at g4;rw[z1] at g2;rw[z4];obtain⟨ol,gl,rl⟩:=id hl;obtain⟨ot,gt,rt⟩:=id ht;have ll:=Heap.lt_size gl;have lt:=Heap.lt_size gt;refine⟨⟨_,g5,rfl⟩,h _ (NU _ _ _ ll lt) ⟨.inl ⟨_,_,g5,g4⟩,g3,⟨_,g1,rfl,rfl⟩,⟨_,g2,rfl,rfl⟩,⟨ol,up _ _ gl,rl⟩,⟨ot,up _ _ gt,rt⟩⟩ g5 up⟩
theorem K7{κ:Type}[DecidableEq κ](knd:KeyKind prog w κ)(z ti to j1 j2 l tp:zdk){xs ys:Array zdl}{Q:zdl->zdu->Prop}(hA:A.handled=none)(ap:SV z ti to j1 j2 l tp)(st:ML s.heap z ti to j1 j2 l tp xs ys 0)(gz:AX s.heap z ti to .none (.bool false))(r:List (κ×zdl×zdl))
 (hi:xs.toList=r.map (·.2.1)) (hk:ys.toList=r.map (·.2.2)) (hp:∀q∈r,knd.is q.1 q.2.1=true) (hz:r.length<=zds) (YB:to<s.heap.objs.size)
 (h:∀h' tk,h'.DictOf knd s.heap.objs.size (merged [] (r.map fun q=>(q.1,q.2.2)))->(∀b o,b≠z->b≠to->b≠j1->b≠j2->s.heap.get? b=some o->h'.get? b=some o)->Q (.ref s.heap.objs.size) {s with heap:=h',toks:=tk}) :
 wpAny (model prog w) A (call (.type "dict") [.ref z]) Q E s:=by
 refine callType_codes (Q₁:=fun obj s₁=>obj=.ref s.heap.objs.size/\s₁={s with heap:=s.heap.push {cls:=.type "dict",data:=.dict #[]} }) F.kt_called_dict (F.kt_typeCall_dict_1 _) F.entry_dict_init (kt_code_dict_new _ ⟨rfl,rfl⟩) ?_
 rintro obj s₁ ⟨rfl,rfl⟩
 have EB:(s.heap.push {cls:=.type "dict",data:=.dict #[]}).DictOf knd s.heap.objs.size []:=Heap.DictOf.new s.heap;have qJ:∀b o,s.heap.get? b=some o->(s.heap.push {cls:=.type "dict",data:=.dict #[]}).get? b=some o:=fun b o e=>Heap.get?_push_of_some _ e;refine⟨EB.typeIs,F.args_dict_init_2 _ _,?_⟩;unfold Builtin.«dict.__init__»;refine zdn ?_;unfold Builtin.Dict.selfAndRest;refine zdn (wpAny_notOrdered_dict EB.typeIs ?_);show wpAny _ _ (pure (s.heap.objs.size,[Value.ref z])) _ _ _;refine zdo ?_;show wpAny _ _ (Builtin.Dict.updateFrom "dict.__init__" s.heap.objs.size (.ref z) [] .none) _ _ _;unfold Builtin.Dict.updateFrom;refine zdn (wpAny_typeOf (T:="zip") ⟨_,qJ _ _ gz,rfl⟩ ?_);rw[zzp (by decide)];refine zdn (EE z (qJ _ _ gz) hA fun h2 UA qK=>?_);rw[zzp (show (none:Option zdl).isNone=true from rfl)];refine zdn (wpAny_rule ?_);have up:∀b o,s.heap.get? b=some o->h2.get? b=some o:=fun b o e=>qK _ _ (qJ _ _ e);have hd2:h2.DictOf knd s.heap.objs.size []:=by
  obtain⟨o,es,ep,ho,rest⟩:=EB;exact⟨o,es,ep,qK _ _ ho,rest⟩
 refine zdn (wpAny_pyIter_zip (s:={s with heap:=h2,toks:=UA}) (up _ _ gz) ?_);refine zdo ⟨plainId_quiet gx _,?_⟩;have yI:ML h2 z ti to j1 j2 l tp xs ys 0:=by
  refine⟨?_,up _ _ st.ins,?_,?_,?_,?_⟩
  ·rcases st.zip with ⟨a,b,e1,e2⟩ |⟨T,u,a,b,g,e1,e2⟩
   ·exact .inl ⟨a,b,up _ _ e1,up _ _ e2⟩
   ·exact .inr ⟨T,u,a,b,g,up _ _ e1,up _ _ e2⟩
  ·obtain⟨o,go,rest⟩:=st.NS;exact⟨o,up _ _ go,rest⟩
  ·obtain⟨o,go,rest⟩:=st.SW;exact⟨o,up _ _ go,rest⟩
  ·obtain⟨o,go,rest⟩:=st.ls;exact⟨o,up _ _ go,rest⟩
  ·obtain⟨o,go,rest⟩:=st.tu;exact⟨o,up _ _ go,rest⟩
 refine Gr (A:=A.in1) knd s.heap.objs.size z ti to j1 j2 l tp xs ys .none hA ap (zbM YB) r 0 0 _ [] _ (by simpa using hi) (by simpa using hk) hp yI hd2 (by simpa using hz) fun h4 Yt Yu KW=>?_;refine⟨rfl,h h4 Yt Yu fun b o n1 n2 n3 n4 e=>KW b o (fun w=>?_) n1 n2 n3 n4 (up _ _ e)⟩;rw[w] at e;exact zzb (Heap.lt_size e) (zaW _)
end
end L3
namespace L2
open PG
open PySem PyProof.Rows
theorem EG(c n k:Nat)(h:c<n):c≠n+k:=by lia
def WC (K:zaa) (t:TA):TE:=fun σ H Q=>t σ H fun xs H1=>∃(a b:zdk) (ks:List Key) (vs:List V),xs=[.ref a,.ref b]/\i6 K H1 a (ks.map kV)/\bQ K H1 b vs/\vs.length=ks.length/\∀p,H1 p=none->Q (.ref p) (upd H1 p (.dK (iB [] (ks.zip vs))))
theorem rT{X:Cx}(hc:X.calm=true){ea eb:Expr}{p1 p2 UG Ia:Pos}{t:TA}(hg1:Gl X "dict")(hm1:X.mg "dict"=none)(hg2:Gl X "zip")(hm2:X.mg "zip"=none)(ha:PA X [ea,eb] t)
 (he:zdq [ea,eb] X.env=(false,eval ea X.env)::zdq [eb] X.env:=by rfl) (BN:(backTo Ia (zdq [eb] X.env)).any (·.1)=false:=by rfl)
 (SR:zdq [.Call (.Name "zip" p2) [ea,eb] [] Ia] X.env=(false,eval (.Call (.Name "zip" p2) [ea,eb] [] Ia) X.env)::zdq [] X.env:=by rfl) :
 PE X (.Call (.Name "dict" p1) [.Call (.Name "zip" p2) [ea,eb] [] Ia] [] UG) (WC X.K t):=by
 intro pins s σ H Q I h;refine wpAny_Call_Name_kw (rF I hg1 hm1 PyProof.Rows.Boot.«dict» ?_ (by decide) (by decide));refine zbo ?_ SR rfl;rw[SR];show wpAny _ _ (spliced ((false,eval (.Call (.Name "zip" p2) [ea,eb] [] Ia) X.env)::backTo UG (zdq [] X.env))) _ _ s;refine Calls.spliced_cons ?_;refine wpAny_Call_Name_kw (rF I hg2 hm2 PyProof.Rows.Boot.«zip» ?_ (by decide) (by decide));refine zbo (fc (ha Ia pins s σ H _ I h) fun us s1 zqz=>?_) he BN;obtain⟨xs,H1,I1,r1,q1⟩:=zqz;obtain⟨a,b,ks,vs,rfl,ha1,Pq,lk,q⟩:=q1;obtain⟨u1,u2,rfl,ru1,ru2⟩:=vals2 r1;cases (show u1=Value.ref a from ru1);cases (show u2=Value.ref b from ru2);obtain⟨YC,v1,t1,z1⟩:=I1.list ha1;obtain⟨tq,v2,t2,z2⟩:=I1.tuple Pq;have mk:∀(ks:List Key) (vs:List V) (WD Gs:List zdl),Vals (ks.map kV) WD->Vals vs Gs->vs.length=ks.length->∃r:List (Key×zdl×zdl),WD=r.map (·.2.1)/\Gs=r.map (·.2.2)/\(∀q∈r,(bT X.prog X.w).is q.1 q.2.1=true)/\KV (ks.zip vs) (r.map fun q=>(q.1,q.2.2))/\r.length=ks.length:=by
  intro ks
  induction ks with
  |nil=>
   intro vs WD Gs w1 w2 l;have:vs=[]:=zaV.mp l;subst this;cases w1;cases w2;exact⟨[],rfl,rfl,fun _ z=>(by cases z),.nil,rfl⟩
  |cons k ks ih=>
   intro vs WD Gs w1 w2 l;cases vs with
   |nil=>simp at l
   |cons v vs=>
    rw[zam] at w1;cases w1 with
    |@cons _ ku _ kus w11 w12=>
     cases w2 with
     |@cons _ vu _ vus w21 w22=>
      obtain⟨r,e1,e2,h3,h4,h5⟩:=ih vs kus vus w12 w22 (by simpa using l);refine⟨(k,ku,vu)::r,by rw[e1];rfl,by rw[e2];rfl,fun q hq=>?_,.cons ⟨rfl,w21⟩ h4,by simp[h5]⟩;rcases zag.mp hq with rfl |hq
      ·exact xk w11
      ·exact h3 q hq
 obtain⟨r,e1,e2,kis,kv,lr⟩:=mk ks vs YC tq v1 v2 lk;rw[zad] at z1;refine L3.EF t1.isList (show s1.heap.IsTuple b tq.toArray from t2) fun h' ap st gz keep=>?_;refine Calls.spliced_nil ?_;have big:(s1.heap.objs.size+4:Nat)<h'.objs.size:=Heap.lt_size gz;have hle:s1.heap.objs.size<=h'.objs.size:=by lia
 refine L3.K7 (s:={s1 with heap:=h' }) (bT X.prog X.w) _ _ _ _ _ a b (I1.ok.hd hc) ap st gz r (by simpa using e1) (by simpa using e2) kis (by lia) (show (s1.heap.objs.size+3:Nat)<h'.objs.size by lia) fun h2 tk dd qK=>?_;have hn:=I1.cM.fresh hle;have hb:(h'.objs.size==sysModules)=false:=beq_eq_false_iff_ne.mpr (Ne.symm (zaD (zaC I1.big hle)));refine⟨.ref h'.objs.size,_,I1.laid (fun c o e=>qK c o ?_ ?_ ?_ ?_ (keep c o e)) hle (xl ?_ hb (kv.merge .nil) dd),rfl,q _ hn⟩
 ·have lc:(c:Nat)<s1.heap.objs.size:=Heap.lt_size e;exact EG _ _ _ lc
 ·have lc:(c:Nat)<s1.heap.objs.size:=Heap.lt_size e;exact EG _ _ _ lc
 ·have lc:(c:Nat)<s1.heap.objs.size:=Heap.lt_size e;exact zaD lc
 ·have lc:(c:Nat)<s1.heap.objs.size:=Heap.lt_size e;exact EG _ _ _ lc
 ·have h1:=gV (ks.zip vs) [];rw[zaB,List.length_zip] at h1;lia
section
variable{K:zaa}{H H':Hp}{p C dx:zdk}{fs:List (Str×V)}
mutual
theorem qr(h:H p=some (.ins C dx fs))(u:ba (·=p) H H'):∀(d:Dp) (v:V),Rep K H d v->Rep K H' d v
 |.cB,v,r=>by rw[Rep.qg] at r ⊢;exact r
 |.bl b,v,r=>by rw[Rep.lP] at r ⊢;exact r
 |.int b,v,r=>by rw[Rep.bt] at r ⊢;exact r
 |.str b,v,r=>by rw[Rep.bA] at r ⊢;exact r
 |.lst l,v,r=>by
  rw[Rep.bL] at r ⊢;obtain⟨a,ys,rfl,q,rs⟩:=r;refine⟨a,ys,rfl,?_,pG h u l ys rs⟩;rcases q with (q |⟨o,q⟩) |q
  ·exact .inl (.inl (u _ _ (bU q h (by intro z;cases z)) q))
  ·exact .inl (.inr ⟨o,u _ _ (bU q h (by intro z;cases z)) q⟩)
  ·exact .inr q
 |.tup l,v,r=>by
  rw[Rep.bg] at r ⊢;obtain⟨a,ys,rfl,q,rs⟩:=r;refine⟨a,ys,rfl,?_,pG h u l ys rs⟩;rcases q with (q |⟨o,q⟩) |q
  ·exact .inl (.inl (u _ _ (bU q h (by intro z;cases z)) q))
  ·exact .inl (.inr ⟨o,u _ _ (bU q h (by intro z;cases z)) q⟩)
  ·exact .inr q
theorem pG(h:H p=some (.ins C dx fs))(u:ba (·=p) H H'):∀(ds:List Dp) (vs:List V),aN K H ds vs->aN K H' ds vs
 |[],vs,r=>by rw[aN.br] at r ⊢;exact r
 |d::ds,vs,r=>by
  rw[aN.aI] at r ⊢;obtain⟨v,t,rfl,r1,r2⟩:=r;exact⟨v,t,rfl,qr h u d v r1,pG h u ds t r2⟩
end
end
theorem rV{K:zaa}{a D:zdk}{xs:List V}{te:TE}{Q:VK}{r:St}{H:Hp}(kf:Nat->Key×V)(hS:i6 K H a xs)(hl:xs.length<=16000000)(hD:H D=none)
 (step:∀i x H2,xs[i]?=some x->aq H H2->∀R:VK,(∀p,H2 p=none->R (.ref p) (upd H2 p (.tup [kV (kf i).1,(kf i).2])))->te (some x::r) H2 R)
 (q:∀(ps:List (zdk×Key×V)) H2,aq H H2->H2 D=some (.lst (ps.map fun q=>V.ref q.1))->(∀q∈ps,H2 q.1=some (.tup [kV q.2.1,q.2.2]))->ps.map (·.2)=(zaH xs.length).map kf->Q (.ref D) H2) :
 vM (IY K a) D (eO 0) AM te Q (none::r) (upd H D (.lst [])):=by
 refine xK (K:=K) (fun i ys H2=>∃ps:List (zdk×Key×V),ys=ps.map (fun q=>V.ref q.1)/\(∀q∈ps,H2 q.1=some (.tup [kV q.2.1,q.2.2]))/\ps.map (·.2)=(zaH i).map kf) hS hl hD ⟨[],rfl,fun _ z=>(by cases z),rfl⟩ ?_ ?_
 ·rintro i x ys H2 hx s2 Rk ly ⟨ps,rfl,NV,ep⟩ R hR
  refine step i x H2 hx s2 R fun p hp=>hR _ _ (aq.new hp _) ⟨ps++[(p,kf i)],by simp,fun q hq=>?_,by rw[zaw,ep,zbz,zaw];rfl⟩;have pD:D≠p:=ai Rk hp;rcases zaA.mp hq with hq |hq
  ·have e:=NV q hq;rw[aw (bU e Rk (by intro z;cases z))];exact aq.new hp _ _ _ e
  ·rw[zar.mp hq];show upd (upd H2 p _) D _ p=_;rw[aw pD.symm,ae]
 ·rintro ys H2 s2 Rk ⟨ps,rfl,NV,ep⟩
  exact q ps H2 s2 Rk NV ep
theorem km{K:zaa}{a D:zdk}{xs:List V}{te:TE}{Q:VK}{r:St}{H:Hp}(f:Nat->V)(hS:i6 K H a xs)(hl:xs.length<=16000000)(hD:H D=none)
 (step:∀i x H2,xs[i]?=some x->aq H H2->∀R:VK,R (f i) H2->te (some x::r) H2 R)
 (q:∀H2,aq H H2->H2 D=some (.lst ((zaH xs.length).map f))->Q (.ref D) H2):vM (IY K a) D (eO 0) AM te Q (none::r) (upd H D (.lst [])):=by
 refine xK (K:=K) (fun i ys H2=>ys=(zaH i).map f) hS hl hD rfl ?_ ?_
 ·rintro i x ys H2 hx s2 Rk ly rfl R hR
  exact step i x H2 hx s2 R (hR _ _ (aq.refl _) (by rw[zbz,zaw];rfl))
 ·rintro ys H2 s2 Rk rfl
  exact q H2 s2 Rk
structure wL(K:zaa)(C:zdk)(H:Hp)(p:zdk)(pr:PG.Prog):Prop where
 at_:∃(dx nl sd fa va st wy:zdk) (us ws:List V),H p=some (.ins C dx [("names",.ref nl),("sizes",.ref sd),("first",.ref fa),("statements",.ref st),("ways",.ref wy)])/\H dx=some (.own p)/\
  H nl=some (.lst (pr.ay.map fun b=>.str (S b.name)))/\H sd=some (.dK (pr.ay.map fun b=>(.inr (S b.name),.int b.size)))/\
  H fa=some (.tup [.int (bj pr.body 0),.ref va])/\H va=some (.tup (pr.ay.map fun b=>.int b.first))/\
  us.length=(az pr.body).length/\H st=some (.dK (cT (az pr.body) us))/\aN K H ((az pr.body).map eI) us/\
  ws.length=(aQ pr.body 0).length/\H wy=some (.dK (zbd (fun r v=>(Sum.inl r.1,v)) (aQ pr.body 0) ws))/\∀i (hi:i<(aQ pr.body 0).length),∃q,ws[i]?=some (.ref q)/\bQ K H q ((aQ pr.body 0)[i].2.2.map V.int)
section
variable(K:zaa)(C:zdk)
def NW:Sp:=fun vs H Q _=>∃(p dx:zdk) (v:V) (pr:PG.Prog),vs=[.ref p,v]/\H p=some (.ins C dx [])/\H dx=some (.own p)/\Rep K H (kB pr) v/\gu pr.body<=3/\(bV pr.body).length<=1000/\(az pr.body).Pairwise (fun a b=>a.row<b.row)/\(pr.ay.map (·.name)).Nodup/\pr.ay.length<=10/\
 ∀H',aZ p H H'->wL K C H' p pr->Q .cB H'
end
end L2
namespace L2
open PG
open PySem
def yT (ax:List (Key×V)) (x:W):Int:=match cf ax (.inr (S x)) with
 |some (.int i)=>i
 |_=>0
def Ja (ax:List (Key×V)):PM.Tr->Prop
 |.num n=>n.natAbs<=2 ^ 12
 |.box x=>∃i:Int,cf ax (.inr (S x))=some (.int i)/\i.natAbs<=2 ^ 12
 |.bin o l r=>(o=[43]\/o=[45]\/o=[42])/\Ja ax l/\Ja ax r
theorem EH{ax:List (Key×V)}{x:W}{i:Int}(h:cf ax (.inr (S x))=some (.int i)):yT ax x=i:=by
 unfold yT;rw[h]
theorem mC{ax:List (Key×V)}:∀ {t:PM.Tr},Ja ax t->(cm (yT ax) t).natAbs<=2 ^ (14*2 ^ qi t)
 |.num n,h=>by
  rw[Ja] at h;rw[cm];simp only[qi];exact zay h (za4 (by decide) (by decide))
 |.box x,h=>by
  rw[Ja] at h;obtain⟨i,e,hi⟩:=h;rw[cm,EH e];simp only[qi];exact zay hi (za4 (by decide) (by decide))
 |.bin o l r,h=>by
  rw[Ja] at h;have hl:=mC h.2.1;have hr:=mC h.2.2;have one:∀a b:Nat,1<=2 ^ max a b:=fun a b=>zbY;have ml:(cm (yT ax) l).natAbs<=2 ^ (14*2 ^ max (qi l) (qi r)):=zay hl (za4 (by decide) (zde _ (za4 (by decide) (Nat.le_max_left _ _))));have mr:(cm (yT ax) r).natAbs<=2 ^ (14*2 ^ max (qi l) (qi r)):=zay hr (za4 (by decide) (zde _ (za4 (by decide) (Nat.le_max_right _ _))));rw[qi,show 14*2 ^ (max (qi l) (qi r)+1)=14*2 ^ max (qi l) (qi r)+14*2 ^ max (qi l) (qi r) by rw[zcE];lia];have YD:14<=14*2 ^ max (qi l) (qi r):=Nat.le_mul_of_pos_right _ (one _ _);generalize 14*2 ^ max (qi l) (qi r)=k at *;have two:2<=2 ^ k:=zay (by decide:2<=2 ^ 1) (za4 (by decide) (by lia));rw[Nat.pow_add];have b2:2*2 ^ k<=2 ^ k*2 ^ k:=Nat.mul_le_mul_right _ two;have ab:=zay (Nat.add_le_add ml mr) (by rw[<- Nat.two_mul];exact b2);rw[cm];split
  ·exact zay (Int.natAbs_add_le _ _) ab
  ·split
   ·rw[Int.sub_eq_add_neg];refine zay (Int.natAbs_add_le _ _) ?_;rw[Int.natAbs_neg];exact ab
   ·rw[Int.natAbs_mul];exact zc3 ml mr
theorem AZ{a:Int}{d:Nat}(h:a.natAbs<=2 ^ (14*2 ^ d))(hd:d<=6):a.natAbs<2 ^ 4000:=by
 refine zbP h (Nat.pow_lt_pow_right (by decide) ?_);have:2 ^ d<=2 ^ 6:=za4 (by decide) hd;lia
section
variable(K:zaa)
def Pr (n:Nat):Sp:=fun vs H Q _=>∃(v:V) (d:zdk) (tr:PM.Tr) (ax:List (Key×V)),vs=[v,.ref d]/\Rep K H (oJ tr) v/\H d=some (.dK ax)/\Ja ax tr/\qi tr<n/\qi tr<=6/\∀H',aq H H'->Q (.int (cm (yT ax) tr)) H'
end
theorem wL.mono{K:zaa}{C p:zdk}{H H':Hp}{pr:PG.Prog}(c:wL K C H p pr)(s:aq H H'):wL K C H' p pr:=by
 obtain⟨dx,nl,sd,fa,va,st,wy,us,ws,h1,h2,h3,h4,h5,h6,h7,h8,h9,K8,MM,Pu⟩:=c.at_;exact⟨⟨dx,nl,sd,fa,va,st,wy,us,ws,s _ _ h1,s _ _ h2,s _ _ h3,s _ _ h4,s _ _ h5,s _ _ h6,h7,s _ _ h8,h9.mono s,K8,s _ _ MM,fun i hi=>let ⟨q,e,r⟩:=Pu i hi;⟨q,e,s.a7 r⟩⟩⟩
theorem jd{α β:Type}(g:α->β)(d:α)(l:List α):(zaH l.length).map (fun i=>g (l.getD i d))=l.map g:=by
 apply zbV
 ·simp
 ·intro i h1 h2;simp at h1 h2;simp[h2]
def cF (bs:List gm) (vs:List V):List (Key×V):=zbd (fun b v=>(Sum.inr (S b.name),v)) bs vs
theorem nC:∀(bs:List gm) (vs:List V),(bs.map fun b=>(Sum.inr (S b.name):Key)).zip vs=cF bs vs
 |[],vs=>by simp[cF]
 |b::bs,[]=>by simp[cF]
 |b::bs,v::vs=>by
  show _::(bs.map fun b=>(Sum.inr (S b.name):Key)).zip vs=_::cF bs vs;rw[nC bs vs]
theorem lq:∀(bs:List gm) (vs:List V),vs.length=bs.length->(cF bs vs).map (·.1)=bs.map fun b=>(Sum.inr (S b.name):Key)
 |[],[],_=>rfl
 |[],_::_,h=>by simp at h
 |_::_,[],h=>by simp at h
 |b::bs,v::vs,h=>by
  show _::(cF bs vs).map (·.1)=_;rw[lq bs vs (by simpa using h)];rfl
theorem names_nodup{bs:List gm}(nb:(bs.map (·.name)).Nodup):(bs.map fun b=>(Sum.inr (S b.name):Key)).Nodup:=by
 refine zbe.mpr ((zbe.mp nb).imp fun {a b} Gk e=>Gk ?_);exact mq.mp (Sum.inr.inj e)
theorem mD:∀(bs:List gm) (vs:List V),vs.length=bs.length->(bs.map (·.name)).Nodup->∀i (hi:i<bs.length) v,vs[i]?=some v->cf (cF bs vs) (.inr (S bs[i].name))=some v
 |[],_,_,_,i,hi,_,_=>by simp at hi
 |_::_,[],h,_,_,_,_,_=>by simp at h
 |b::bs,v::vs,h,nb,0,hi,u,hu=>by
  simp at hu;subst hu;show cf ((_,v)::cF bs vs) _=_;exact cg rfl
 |b::bs,v::vs,h,nb,i+1,hi,u,hu=>by
  rw[zam,zaE] at nb;have mem:(bs[i]'(by simpa using hi)).name∈bs.map (·.name):=zaF.mpr ⟨_,zau _,rfl⟩;show cf ((.inr (S b.name),v)::cF bs vs) (.inr (S (bs[i]'(by simpa using hi)).name))=_;rw[ck (fun e=>by have e:=mq.mp (Sum.inr.inj e);exact nb.1 (e▸mem))];exact mD bs vs (by simpa using h) nb.2 i (by simpa using hi) u (by simpa using hu)
section
variable(K:zaa)(C:zdk)
def Ib:Sp:=fun vs H Q _=>∃(p a:zdk) (pr:PG.Prog) (us:List V),vs=[.ref p,.ref a]/\wL K C H p pr/\bQ K H a us/\us.length=pr.ay.length/\(pr.ay.map (·.name)).Nodup/\pr.ay.length<=10/\
 ∀d H',aq H H'->H d=none->H' d=some (.dK (cF pr.ay us))->Q (.ref d) H'
def Ic:Sp:=fun vs H Q _=>∃(p d:zdk) (pr:PG.Prog) (ax:List (Key×V)) (us:List V),vs=[.ref p,.ref d]/\wL K C H p pr/\H d=some (.dK ax)/\us.length=pr.ay.length/\(∀i (hi:i<pr.ay.length),cf ax (.inr (S pr.ay[i].name))=us[i]?)/\pr.ay.length<=10/\
 ∀a H',aq H H'->bQ K H' a us->Q (.ref a) H'
def K9:Sp:=fun vs H Q _=>∃(p:zdk) (pr:PG.Prog) (row:Int),vs=[.ref p,.int row]/\wL K C H p pr/\(az pr.body).Pairwise (fun a b=>a.row<b.row)/\
 ((row=0/\Q (.str "end") H)\/(row≠0/\∃i,∃hi:i<(az pr.body).length,(az pr.body)[i].row=row/\Q (.str (fZ (az pr.body)[i].wd)) H))
end
noncomputable def pH:bI->Option (W×PM.Tr×PM.Tr)
 |.cu _ sg l r=>some (sg,l,r)
 |.ifs _ sg l r _ _=>some (sg,l,r)
 |.fh _ sg l r _=>some (sg,l,r)
 |_=>none
noncomputable def gU (sg:W) (a b:Int):Bool:=if sg=[60] then decide (a<b) else decide (a=b)
def wv (bs:List gm) (vals:List Int) (e:PM.Tr):Int:=cm (yT (cF bs (vals.map V.int))) e
abbrev DC (bs:List gm) (vals:List Int) (e:PM.Tr):Prop:=Ja (cF bs (vals.map V.int)) e/\qi e<=2
theorem rW{K:zaa}{H:Hp}{st:bI}{v:V}{sg:W}{l r:PM.Tr}(h:Rep K H (eI st) v)(c:pH st=some (sg,l,r)):∃a w0 vl vr ys,v=.ref a/\bQ K H a (w0 :: .int st.row :: .str (S sg)::vl::vr::ys)/\Rep K H (oJ l) vl/\Rep K H (oJ r) vr:=by
 have key:∃w ds,eI st=.tup (.str w :: .int st.row :: .str (S sg)::oJ l::oJ r::ds):=by
  cases st<;>simp only[pH,zaO.injEq,Prod.mk.injEq,reduceCtorEq] at c<;>obtain⟨rfl,rfl,rfl⟩:=c<;>exact⟨_,_,by rw[eI];rfl⟩
 obtain⟨w0,ds,e⟩:=key;rw[e,Rep.bg] at h;obtain⟨a,xs,rfl,q,rs⟩:=h;rw[aN.aI] at rs;obtain⟨v0,t0,rfl,_,rs⟩:=rs;rw[aN.aI] at rs;obtain⟨v1,t1,rfl,e1,rs⟩:=rs;rw[aN.aI] at rs;obtain⟨v2,t2,rfl,e2,rs⟩:=rs;rw[aN.aI] at rs;obtain⟨v3,t3,rfl,e3,rs⟩:=rs;rw[aN.aI] at rs;obtain⟨v4,t4,rfl,e4,rs⟩:=rs;rw[Rep.bt] at e1;rw[Rep.bA] at e2;subst e1 e2;exact⟨a,v0,v3,v4,t4,rfl,q,e3,e4⟩
def cD (K:zaa) (H:Hp) (sa:zdk) (row:Int) (vals:List Int):Prop:=∃va,bQ K H sa [.int row,.ref va]/\bQ K H va (vals.map V.int)
theorem cD.mono{K:zaa}{H H':Hp}{sa:zdk}{row:Int}{vals:List Int}(h:cD K H sa row vals)(s:aq H H'):cD K H' sa row vals:=let ⟨va,h1,h2⟩:=h;⟨va,s.a7 h1,s.a7 h2⟩
structure CI(pr:PG.Prog):Prop where
 pw:(az pr.body).Pairwise (fun a b=>a.row<b.row)
 nb:(pr.ay.map (·.name)).Nodup
 uZ:pr.ay.length<=10
 pos:∀s∈az pr.body,0<s.row
section
variable(K:zaa)(C:zdk)
def NX:Sp:=fun vs H Q _=>∃(p sa:zdk) (pr:PG.Prog) (vals:List Int) (i:Nat) (hi:i<(az pr.body).length) (sg:W) (l r:PM.Tr),vs=[.ref p,.ref sa]/\wL K C H p pr/\CI pr/\cD K H sa (az pr.body)[i].row vals/\vals.length=pr.ay.length/\pH (az pr.body)[i]=some (sg,l,r)/\DC pr.ay vals l/\DC pr.ay vals r/\
 ∀H',aq H H'->Q (.bl (gU sg (wv pr.ay vals l) (wv pr.ay vals r))) H'
end
theorem Aa:∀(fl:List dM) (vs:List V),vs.length=fl.length->fl.Pairwise (fun a b=>a.1<b.1)->∀i (hi:i<fl.length) v,vs[i]?=some v->cf (zbd (fun r v=>((Sum.inl r.1:Key),v)) fl vs) (.inl fl[i].1)=some v
 |[],_,_,_,i,hi,_,_=>by simp at hi
 |_::_,[],h,_,_,_,_,_=>by simp at h
 |s::ss,v::vs,h,hp,0,hi,u,hu=>by
  simp at hu;subst hu;rw[zcW];exact cg rfl
 |s::ss,v::vs,h,hp,i+1,hi,u,hu=>by
  rw[List.pairwise_cons] at hp;have lt:=hp.1 (ss[i]'(by simpa using hi)) (zau _);rw[zcW];show cf _ (Sum.inl (ss[i]'(by simpa using hi)).1:Key)=_;rw[ck (fun e=>by have e:=Sum.inl.inj e;lia)];exact Aa ss vs (by simpa using h) hp.2 i (by simpa using hi) u (by simpa using hu)
theorem gW(b:List bI)(i:Nat)(hi:i<(az b).length):∃hf:i<(aQ b 0).length,(aQ b 0)[i].1=(az b)[i].row/\(aQ b 0)[i].2.1=(az b)[i].wd:=by
 have e:((aQ b 0).map fun r=>(r.1,r.2.1))=(az b).map fun x=>(x.row,x.wd):=by rw[cY,fQ]
 have l:=congrArg za5 e;rw[zad,zad] at l;have hf:i<(aQ b 0).length:=by lia
 refine⟨hf,?_⟩;have h1:((aQ b 0).map fun r=>(r.1,r.2.1))[i]?=((az b).map fun x=>(x.row,x.wd))[i]?:=by rw[e]
 rw[zal,zal,zac hf,zac hi] at h1;have h1:=zaO.inj h1;exact⟨congrArg Prod.fst h1,congrArg Prod.snd h1⟩
theorem Ie{b:List bI}(pw:(az b).Pairwise fun a b=>a.row<b.row):(aQ b 0).Pairwise fun a b=>a.1<b.1:=by
 have e:((aQ b 0).map fun r=>(r.1,r.2.1))=(az b).map fun x=>(x.row,x.wd):=by rw[cY,fQ]
 have h:((az b).map fun x=>(x.row,x.wd)).Pairwise fun a b=>a.1<b.1:=zbe.mpr pw;rw[<- e,zbe] at h;exact h
theorem wL.way{K:zaa}{C p:zdk}{H:Hp}{pr:PG.Prog}(c:wL K C H p pr)(ok:CI pr)(i:Nat)(hi:i<(az pr.body).length)(hf:i<(aQ pr.body 0).length):∃dx fs wy q,H p=some (.ins C dx fs)/\fs.lookup (zab "ways")=some (V.ref wy)/\qD H wy (.int (az pr.body)[i].row) (some (.ref q))/\bQ K H q ((aQ pr.body 0)[i].2.2.map V.int):=by
 obtain⟨dx,nl,sd,fa,va,st,wy,us,ws,h1,h2,h3,h4,h5,h6,h7,h8,h9,K8,MM,Pu⟩:=c.at_;obtain⟨q,e,hq⟩:=Pu i hf;obtain⟨hf',e1,_⟩:=gW pr.body i hi;have g:=Aa _ _ K8 (Ie ok.pw) i hf _ e;rw[e1] at g;exact⟨dx,_,wy,q,h1,rfl,.inl ⟨_,.inl _,.inl MM,rfl,g.symm⟩,hq⟩
def qM (K:zaa) (H:Hp):Option (Int×List Int)->V->Prop
 |none,v=>v=.cB
 |some x,v=>∃a,v=.ref a/\cD K H a x.1 x.2
def iF (bs:List gm) (st:bI) (ws:List Int) (vals:List Int):Option (Int×List Int):=match pH st with
 |none=>none
 |some (sg,l,r)=>if gU sg (wv bs vals l) (wv bs vals r) then some (ws.getD 0 0,vals) else if st.wd=.cu then none else some (ws.getD 1 0,vals)
section
variable(K:zaa)(C:zdk)
def Ig:Sp:=fun vs H Q _=>∃(p sa:zdk) (pr:PG.Prog) (vals:List Int) (i:Nat) (hi:i<(az pr.body).length) (hf:i<(aQ pr.body 0).length) (sg:W) (l r:PM.Tr),vs=[.ref p,.ref sa]/\wL K C H p pr/\CI pr/\cD K H sa (az pr.body)[i].row vals/\vals.length=pr.ay.length/\pH (az pr.body)[i]=some (sg,l,r)/\DC pr.ay vals l/\DC pr.ay vals r/\
 0<(aQ pr.body 0)[i].2.2.length/\((az pr.body)[i].wd≠.cu->1<(aQ pr.body 0)[i].2.2.length)/\
 ∀v H',aq H H'->qM K H' (iF pr.ay (az pr.body)[i] (aQ pr.body 0)[i].2.2 vals) v->Q v H'
end
open PyProof.Rows
def NY:V->List V->Hp->VK->Prop:=fun x vs H Q=>∃(l:zdk) (ss:List Str) (y:Str) (j:Nat),x=.ref l/\vs=[.str y]/\H l=some (.lst (ss.map V.str))/\ss[j]?=some y/\(∀m,m<j->ss[m]?≠some y)/\Q (.int j) H
theorem Ih{X:Cx}:T8 X "list.index" NY:=by
 intro pins s σ H x vs v us Q I rx rv h;obtain⟨l,ss,y,j,rfl,rfl,hH,hj,Nh,q⟩:=h;cases rx;obtain⟨u,rfl,ru⟩:=rv.one;obtain⟨t,rfl⟩:=(show ∃t,u=Value.str y t from ru)
 obtain⟨z,bC,n,r,hl,e⟩:=I.Ei hH;rw[zad] at z hl;have line:zds=2 ^ 24:=rfl;have get:∀m (hm:m<bC.length),∃t',bC[m]=Value.str (ss[m]'(by lia)) t':=fun m hm=>by
  obtain⟨w',hw,Ec⟩:=r.get (i:=m) (show (ss.map V.str)[m]?=some (V.str (ss[m]'(by lia))) by rw[zal,zac (by lia)];rfl);rw[zac hm] at hw;cases hw;exact Ec
 have lj:j<ss.length:=(zak.mp hj).1;have ej:ss[j]=y:=(zak.mp hj).2
 let e0:zdl->Bool:=fun v=>match v with
  |.str a _=>a==y
  |_=>false
 refine call_meets F.slot_list_index ⟨_,e,rfl⟩ F.entry_list_index (F.args_list_index_2 _ _)
  (SeqAt.list_indexAt l bC.toArray n none #[] (.str y t) e0 j (by rw[zas];lia) (by lia) ?_ ?_) ⟨e,?_,?_⟩
 ·obtain⟨t',et⟩:=get j (by lia);show e0 bC[j]=true;rw[et,ej];simp[e0]
 ·intro m hm lt;have YE:m<bC.length:=by simpa using hm
  obtain⟨t',et⟩:=get m YE;show e0 bC[m]=false;rw[et];have:=Nh m lt;rw[zac (by lia)] at this;simp only[e0];exact beq_eq_false_iff_ne.mpr fun w=>this (by rw[w])
 ·intro v hv;rw[List.mem_toArray] at hv;obtain⟨m,hm,rfl⟩:=zco.mp hv;obtain⟨t',et⟩:=get m hm;rw[et];exact SeqAt.EqAt.str_str _ _ _ _
 ·exact⟨.int j,H,I.tok _,⟨_,rfl⟩,q⟩
noncomputable def c7 (bs:List gm) (x:W):Nat:=(bs.map (·.name)).idxOf x
def tU (bs:List gm) (vals:List Int) (x:W) (v:Int):List Int:=vals.set (c7 bs x) v
def eQ (bs:List gm) (x:W):Int:=((bs[c7 bs x]?).map (·.size)).getD 1
def lC (bs:List gm) (st:bI) (ws vals:List Int) (fig:Int):Option (Int×List Int)×Option Int:=match st with
 |.ask _ b=>(some (ws.getD 0 0,tU bs vals b (fig%eQ bs b)),none)
 |.put _ b e=>(some (ws.getD 0 0,tU bs vals b (wv bs vals e%eQ bs b)),none)
 |.say _ e=>(some (ws.getD 0 0,vals),some (wv bs vals e))
 |.stop _=>(some (ws.getD 0 0,vals),none)
 |st=>(iF bs st ws vals,none)
def Gu (bs:List gm) (vals:List Int):bI->Prop
 |.ask _ b=>b∈bs.map (·.name)
 |.put _ b e=>b∈bs.map (·.name)/\DC bs vals e
 |.say _ e=>DC bs vals e
 |.cu _ _ l r=>DC bs vals l/\DC bs vals r
 |.ifs _ _ l r _ _=>DC bs vals l/\DC bs vals r
 |.fh _ _ l r _=>DC bs vals l/\DC bs vals r
 |.stop _=>True
noncomputable def La:Option Int->V
 |none=>.cB
 |some n=>.int n
theorem kC{bs:List gm}{x:W}(h:x∈bs.map (·.name)):∃hi:c7 bs x<bs.length,bs[c7 bs x].name=x:=by
 have l:c7 bs x<(bs.map (·.name)).length:=List.idxOf_lt_length_iff.mpr h;have e:(bs.map (·.name))[c7 bs x]=x:=List.getElem_idxOf l;rw[zad] at l;rw[zbu] at e;exact⟨l,e⟩
theorem EI{bs:List gm}{vs:List V}(l:vs.length=bs.length)(nb:(bs.map (·.name)).Nodup){x:W}(h:x∈bs.map (·.name))(v:V)(i:Nat)(hi:i<bs.length) :
 cf (putK (cF bs vs) (.inr (S x)) v) (.inr (S bs[i].name))=(vs.set (c7 bs x) v)[i]?:=by
 obtain⟨hx,ex⟩:=kC h;rw[oU];by_cases e:i=c7 bs x
 ·subst e;rw[zzp (by rw[ex]),zcc (by lia)]
 ·have ne:bs[i].name≠x:=fun z=>e (by
   have p1:=zbJ.mp nb;rw[<- ex] at z;rcases Nat.lt_trichotomy i (c7 bs x) with lt |eq |gt
   ·exact zzb (by rw[zbu,zbu];exact z) (p1 i (c7 bs x) (by simpa using hi) (by simpa using hx) lt)
   ·exact eq
   ·exact zzb (by rw[zbu,zbu];exact z.symm) (p1 (c7 bs x) i (by simpa using hx) (by simpa using hi) gt))
  rw[zzn (fun z=>ne (mq.mp (Sum.inr.inj z))),zcm (fun z=>e z.symm)];have li:i<vs.length:=by lia
  rw[mD bs vs l nb i hi vs[i] (zac li),zac li]
theorem CJ{bs:List gm}(nb:(bs.map (·.name)).Nodup){x:W}(h:x∈bs.map (·.name)):cf (bs.map fun b=>((Sum.inr (S b.name):Key),V.int b.size)) (.inr (S x))=some (.int (eQ bs x)):=by
 obtain⟨hx,ex⟩:=kC h;have e:(bs.map fun b=>((Sum.inr (S b.name):Key),V.int b.size))=cF bs (bs.map fun b=>V.int b.size):=by
  unfold cF;rw[List.zipWith_map_right,List.zipWith_self]
 rw[e];have:=mD bs (bs.map fun b=>V.int b.size) (by simp) nb (c7 bs x) hx (.int bs[c7 bs x].size) (by rw[zal,zac hx];rfl);rw[ex] at this;rw[this];unfold eQ;rw[zac hx];rfl
section
variable(K:zaa)(C:zdk)
def Lb:Sp:=fun vs H Q _=>∃(p sa:zdk) (fv:V) (pr:PG.Prog) (vals:List Int) (fig:Int) (i:Nat) (hi:i<(az pr.body).length) (hf:i<(aQ pr.body 0).length),vs=[.ref p,.ref sa,fv]/\wL K C H p pr/\CI pr/\(∀b∈pr.ay,0<b.size)/\cD K H sa (az pr.body)[i].row vals/\vals.length=pr.ay.length/\
 ((az pr.body)[i].wd=.ask->fv=.int fig)/\Gu pr.ay vals (az pr.body)[i]/\0<(aQ pr.body 0)[i].2.2.length/\((az pr.body)[i].wd=.ifs\/(az pr.body)[i].wd=.fh->1<(aQ pr.body 0)[i].2.2.length)/\
 ∀q sv H',aq H H'->bQ K H' q [sv,La (lC pr.ay (az pr.body)[i] (aQ pr.body 0)[i].2.2 vals fig).2]->qM K H' (lC pr.ay (az pr.body)[i] (aQ pr.body 0)[i].2.2 vals fig).1 sv->Q (.ref q) H'
end
open PySem.Spec
def UH (K:zaa):R2:=fun x y H Q=>∃a b xs ys,x=.ref a/\y=.ref b/\bQ K H a xs/\bQ K H b ys/\xs.length+ys.length<=zds/\∀p H',aq H H'->bQ K H' p (xs++ys)->Q (.ref p) H'
theorem wM{X:Cx}:rK X (binaryOp .Add) (UH X.K):=by
 intro pins s σ H x y v u Q I rx ry h;by_cases hx:∃UI,(∃a b ys,x=.ref a/\y=.ref b/\bQ X.K H a UI/\bQ X.K H b ys/\UI.length+ys.length<=zds/\∀p H',aq H H'->bQ X.K H' p (UI++ys)->Q (.ref p) H')/\UI=[]
 ·obtain⟨xs,⟨a,b,ys,rfl,rfl,ha,hb,hz,q⟩,rfl⟩:=hx;cases rx;cases ry;obtain⟨bC,r1,p1,_⟩:=I.tuple ha;obtain⟨tq,r2,p2,_⟩:=I.tuple hb;obtain⟨⟨cls,dd,data,sl⟩,ho,hc,n,hd⟩:=id p1;obtain⟨⟨X0,SM,data2,SN⟩,QP,T3,n2,hd2⟩:=id p2;simp only at hc hd T3 hd2;subst hc hd T3 hd2;cases r1;exact concat_meets ⟨_,ho,rfl⟩ ⟨_,QP,rfl⟩ noFill_tuple_add seq_tuple_add zce zb7 (zbZ _ _)
   (tuple_addW0 a b _ tq.toArray n n2 dd SM sl SN rfl) ⟨ho,QP,⟨.ref b,H,I,rfl,q _ _ (aq.refl _) hb⟩⟩
 ·obtain⟨a,b,xs,ys,rfl,rfl,ha,hb,hz,q⟩:=h;refine tm pins s σ H _ _ v u Q I rx ry ⟨a,b,xs,ys,rfl,rfl,ha,hb,fun e=>hx ⟨xs,⟨a,b,ys,rfl,rfl,ha,hb,hz,q⟩,e⟩,hz,fun e=>q _ _ (aq.refl _) ?_,fun _ p hp=>q _ _ (aq.new hp _) (.of ae)⟩;rw[e,zav];exact ha
def UJ (K:zaa):V->Option Int->Option Int->Hp->VK->Prop:=fun x lo hi H Q=>∃a xs,x=.ref a/\bQ K H a xs/\∀p H',aq H H'->bQ K H' p (jt xs lo hi)->Q (.ref p) H'
theorem Gv{X:Cx}:T5 X (UJ X.K):=by
 intro pins s σ H x v vl vu lo hi sl Q I rx hs pl pu h;obtain⟨a,xs,rfl,hx,q⟩:=h;refine NL pins s σ H _ v vl vu lo hi sl Q I rx hs pl pu ⟨a,xs,rfl,hx,fun e=>q _ _ (aq.refl _) ?_,fun _ p hp=>q _ _ (aq.new hp _) (.of ae)⟩;have:jt xs lo hi=xs:=by
  unfold jt;rw[e.1,e.2];simp
 rw[this];exact hx
theorem Ab{K:zaa}{H:Hp}:∀l:List Int,aN K H (l.map Dp.int) (l.map V.int)
 |[]=>by rw[za2,za2,aN.br]
 |x::r=>by rw[zam,zam,aN.aI];exact⟨_,_,rfl,by rw[Rep.bt],Ab r⟩
def Rl:bI->Prop
 |.cu _ sg _ _=>sg∈BO
 |.ifs _ sg _ _ _ _=>sg∈BO
 |.fh _ sg _ _ _=>sg∈BO
 |_=>True
section
variable(K:zaa)
def EJ:Sp:=fun vs H Q _=>∃(B ta wa va:zdk) (fv:V) (bs:List gm) (st:bI) (ws vals:List Int) (fig:Int),vs=[.ref B,.ref ta,.ref wa,.ref va,fv]/\Rep K H (.lst (bs.map jy)) (.ref B)/\Rep K H (eI st) (.ref ta)/\bQ K H wa (ws.map V.int)/\bQ K H va (vals.map V.int)/\(bs.map (·.name)).Nodup/\bs.length<=10/\(∀b∈bs,0<b.size)/\vals.length=bs.length/\
 (st.wd=.ask->fv=.int fig)/\Gu bs vals st/\Rl st/\0<ws.length/\(st.wd=.ifs\/st.wd=.fh->1<ws.length)/\
 ∀q sv H',aq H H'->bQ K H' q [sv,La (lC bs st ws vals fig).2]->qM K H' (lC bs st ws vals fig).1 sv->Q (.ref q) H'
end
theorem Ii{H H':Hp}{b:zdk}(s:aq H H')(h:H' b=none):H b=none:=by
 cases z:H b with
 |none=>rfl
 |some o=>rw[s _ _ z] at h;cases h
noncomputable def oM (D:zdk) (H:Hp):Hp:=fun b=>if b=D then none else H b
theorem nE{D b:zdk}{H:Hp}(n:b≠D):oM D H b=H b:=zzn n
theorem wN{D b:zdk}{H:Hp}{o:HO}(h:oM D H b=some o):b≠D/\H b=some o:=by
 unfold oM at h;by_cases e:b=D
 ·rw[zzp e] at h;cases h
 ·rw[zzn e] at h;exact⟨e,h⟩
theorem qt{D:zdk}{H:Hp}:aq (oM D H) H:=fun b o h=>(wN h).2
theorem Ij{D:zdk}{H H':Hp}(u:aZ D H H'):aq (oM D H) H':=fun b o h=>u b o (wN h).1 (wN h).2
theorem bQ.vg{K:zaa}{H H':Hp}{D a:zdk}{xs ys:List V}(h:bQ K H a xs)(hD:H D=some (.lst ys))(u:aZ D H H'):bQ K H' a xs:=by
 rcases h with (q |⟨o,q⟩) |q
 ·exact .inl (.inl (u _ _ (bU q hD (by intro z;cases z)) q))
 ·exact .inl (.inr ⟨o,u _ _ (bU q hD (by intro z;cases z)) q⟩)
 ·exact .inr q
theorem A0{bs:List gm}{vals:List Int}(lv:vals.length=bs.length)(nb:(bs.map (·.name)).Nodup)(hv:∀v∈vals,v.natAbs<=2 ^ 12):∀e:PM.Tr,jx bs e->Ja (cF bs (vals.map V.int)) e
 |.num n,h=>by rw[jx] at h;rw[Ja];lia
 |.box x,h=>by
  rw[jx] at h;rw[Ja];obtain⟨hx,ex⟩:=kC h;have li:c7 bs x<vals.length:=by lia
  refine⟨vals[c7 bs x],?_,hv _ (zau li)⟩;have:=mD bs (vals.map V.int) (by simpa using lv) nb (c7 bs x) hx (.int vals[c7 bs x]) (by rw[zal,zac li];rfl);rw[ex] at this;exact this
 |.bin o l r,h=>by
  rw[jx] at h;rw[Ja];exact⟨by simpa using h.1,A0 lv nb hv l h.2.1,A0 lv nb hv r h.2.2⟩
theorem A1{bs:List gm}{vals:List Int}(lv:vals.length=bs.length)(nb:(bs.map (·.name)).Nodup)(hv:∀v∈vals,v.natAbs<=2 ^ 12){st:bI}(h:xx (·∈bs.map (·.name)) (fun e=>jx bs e/\qi e<=2) (·∈BO) st):Gu bs vals st/\Rl st:=by
 have k:∀e,(jx bs e/\qi e<=2)->DC bs vals e:=fun e h=>⟨A0 lv nb hv e h.1,h.2⟩
 cases st<;>rw[xx] at h
 ·exact⟨h,trivial⟩
 ·exact⟨⟨h.1,k _ h.2⟩,trivial⟩
 ·exact⟨k _ h,trivial⟩
 ·exact⟨⟨k _ h.2.1,k _ h.2.2⟩,h.1⟩
 ·exact⟨trivial,trivial⟩
 ·exact⟨⟨k _ h.2.1,k _ h.2.2.1⟩,h.1⟩
 ·exact⟨⟨k _ h.2.1,k _ h.2.2.1⟩,h.1⟩
section
variable(K:zaa)
def EK:Sp:=fun vs H Q _=>∃(D S:zdk) (sc:List Int) (p many:Nat),vs=[.ref D,.int many]/\i3 K H D S sc p/\p<=100/\many<=100/\
 ∀(l t1 B b R:zdk) H',aZ D H H'->(∃p',p'<=90000/\i3 K H' D S sc p')->H' l=some (.lst [.ref t1,.ref R])->H' t1=some (.tup [.ref B,.ref b])->l≠D->t1≠D->B≠D->b≠D->R≠D->
  Fix K (·=D) H' (.lst ((cJ sc many p).1.ay.map jy)) (.ref B)->Fix K (·=D) H' (.lst ((cJ sc many p).1.body.map eI)) (.ref b)->Fix K (·=D) H' (.lst ((cJ sc many p).2.map mw)) (.ref R)->Q (.ref l) H'
end
theorem A2{tc:TT}{tb:TS}{D:Ends}{σ:St}{H:Hp}(h:∀B:TS,(∀D σ H,tb D σ H->B D σ H)->DQ tc B D σ H):DQ tc tb D σ H:=h tb fun _ _ _ x=>x
def xN (b:List bI) (row:Int):bI:=((az b)[KD b row]?).getD (.stop 0)
def Rm (b:List bI) (row:Int):List Int:=(((aQ b 0)[KD b row]?).map (·.2.2)).getD []
def dq (b:List bI) (row:Int):Bool:=decide ((xN b row).wd=.ask)
def bZ (pr:PG.Prog) (row:Int) (vals:List Int) (f:Int):Option (Int×List Int)×Option Int:=lC pr.ay (xN pr.body row) (Rm pr.body row) vals f
theorem nF{b:List bI}(pw:(az b).Pairwise (fun a b=>a.row<b.row))(i:Nat)(hi:i<(az b).length):xN b (az b)[i].row=(az b)[i]:=by
 unfold xN;rw[Gg pw i hi,zac hi];rfl
theorem Gw{b:List bI}(pw:(az b).Pairwise (fun a b=>a.row<b.row))(i:Nat)(hi:i<(az b).length)(hf:i<(aQ b 0).length):Rm b (az b)[i].row=(aQ b 0)[i].2.2:=by
 unfold Rm;rw[Gg pw i hi,zac hf];rfl
structure CK(pr:PG.Prog)(row:Int)(vals:List Int):Prop where
 row:row=0\/∃i,∃hi:i<(az pr.body).length,(az pr.body)[i].row=row
 len:vals.length=pr.ay.length
 small:∀v∈vals,v.natAbs<=2 ^ 12
structure i5(pr:PG.Prog):Prop where
 ok:CI pr
 dep:gu pr.body<=3
 uZ:(bV pr.body).length<=1000
 own:yR (·∈pr.ay.map (·.name)) (fun e=>jx pr.ay e/\qi e<=2) (·∈BO) pr.body
 size:∀b∈pr.ay,2<=b.size/\b.size<=10/\0<=b.first/\b.first<b.size
theorem Gx{pr:PG.Prog}{w:Int}(h:w=0\/w=0\/∃t∈az pr.body,t.row=w):w=0\/∃i,∃hi:i<(az pr.body).length,(az pr.body)[i].row=w:=by
 rcases h with h |h |⟨t,ht,e⟩
 ·exact .inl h
 ·exact .inl h
 ·obtain⟨i,hi,e2⟩:=zco.mp ht;exact .inr ⟨i,hi,by rw[e2];exact e⟩
theorem i5.first{pr:PG.Prog}(d:i5 pr):CK pr (bj pr.body 0) (pr.ay.map (·.first)):=by
 refine⟨Gx (.inr ?_),by simp,fun v hv=>?_⟩
 ·rcases pf pr.body 0 with e |e
  ·exact .inl e
  ·exact .inr e
 ·obtain⟨b,hb,rfl⟩:=zaF.mp hv;have:=d.size b hb;lia
theorem CL{pr:PG.Prog}(d:i5 pr){x:W}(h:x∈pr.ay.map (·.name)):2<=eQ pr.ay x/\eQ pr.ay x<=10:=by
 obtain⟨hx,_⟩:=kC h;unfold eQ;rw[zac hx];have:=d.size _ (zau hx);exact⟨this.1,this.2.1⟩
theorem CK.step{pr:PG.Prog}(d:i5 pr){i:Nat}(hi:i<(az pr.body).length)(hf:i<(aQ pr.body 0).length){vals:List Int}{f:Int}(lv:vals.length=pr.ay.length)(sm:∀v∈vals,v.natAbs<=2 ^ 12){x:Int×List Int}{s:Option Int}
 (h:lC pr.ay (az pr.body)[i] (aQ pr.body 0)[i].2.2 vals f=(some x,s)):CK pr x.1 x.2:=by
 have Lc:=je pr.body _ d.own (zau hi);obtain⟨w0,w1⟩:=jc pr.body 0 _ (zau hf);have win:=pj pr.body 0 _ (zau hf);obtain⟨_,_,ew⟩:=gW pr.body i hi;rw[ew] at w1;generalize (aQ pr.body 0)[i].2.2=ws at *;generalize (az pr.body)[i]=st at *;have r0:∀j,j<ws.length->ws.getD j 0=0\/∃i,∃hi:i<(az pr.body).length,(az pr.body)[i].row=ws.getD j 0:=fun j hj=>by
  rw[zap,zac hj];exact Gx (win _ (zau hj))
 have set:∀(b:W) (z:Int),b∈pr.ay.map (·.name)->(tU pr.ay vals b (z%eQ pr.ay b)).length=pr.ay.length/\∀v∈tU pr.ay vals b (z%eQ pr.ay b),v.natAbs<=2 ^ 12:=fun b z hb=>by
  unfold tU;refine⟨by rw[zcP];exact lv,fun v hv=>?_⟩;rcases List.mem_or_eq_of_mem_set hv with hv |rfl
  ·exact sm v hv
  ·have:=CL d hb;have m1:=zaP z (b:=eQ pr.ay b) (by lia);have m2:=zaM z (b:=eQ pr.ay b) (by lia);lia
 have cs:iF pr.ay st ws vals=some x->(st.wd=.cu\/st.wd=.ifs\/st.wd=.fh)->CK pr x.1 x.2:=by
  intro e hw;unfold iF at e;split at e
  ·cases e
  ·split at e
   ·cases e;exact⟨r0 0 w0,lv,sm⟩
   ·split at e
    ·cases e
    ·rename_i nm;cases e;exact⟨r0 1 (w1 (hw.resolve_left nm)),lv,sm⟩
 have wg:∀(y:Int×List Int) (s':Option Int),(some y,s')=(some x,s)->CK pr y.1 y.2->CK pr x.1 x.2:=fun y s' e h=>by cases e;exact h
 cases st<;>rw[xx] at Lc
 ·exact wg _ _ h ⟨r0 0 w0,(set _ _ Lc).1,(set _ _ Lc).2⟩
 ·exact wg _ _ h ⟨r0 0 w0,(set _ _ Lc.1).1,(set _ _ Lc.1).2⟩
 ·exact wg _ _ h ⟨r0 0 w0,lv,sm⟩
 ·exact cs (congrArg Prod.fst h) (.inl rfl)
 ·exact wg _ _ h ⟨r0 0 w0,lv,sm⟩
 ·exact cs (congrArg Prod.fst h) (.inr (.inl rfl))
 ·exact cs (congrArg Prod.fst h) (.inr (.inr rfl))
theorem bQ.dk{K:zaa}{H H':Hp}{D a:zdk}{xs:List V}{ax:List (Key×V)}(h:bQ K H a xs)(hD:H D=some (.dK ax))(u:aZ D H H'):bQ K H' a xs:=by
 rcases h with (q |⟨o,q⟩) |q
 ·exact .inl (.inl (u _ _ (bU q hD (by intro z;cases z)) q))
 ·exact .inl (.inr ⟨o,u _ _ (bU q hD (by intro z;cases z)) q⟩)
 ·exact .inr q
theorem tV{K:zaa}{H:Hp}{r:zdk}{l:List Int}(h:i6 K H r (l.map V.int)):Rep K H (.lst (l.map Dp.int)) (.ref r):=Rep.bL.mpr ⟨r,_,rfl,h,Ab l⟩
theorem tW(l:List Int):SeqAt.shaped (Dp.lst (l.map Dp.int)).py=true:=by
 obtain⟨h1,h2⟩:=Gn l;unfold SeqAt.shaped;simp only[Dp.py,Dp.uR,PyData.canLay0,PyData.canLayAll0,PyData.depth,PyData.depthAll,h1,h2,zdb,Bool.true_and,decide_eq_true_iff];lia
section
variable{K:zaa}{H H1:Hp}{p:zdk}{vs:List V}{ds:List Dp}
theorem gT(e:upd H p (.tup vs)=H1)(hp:H p=none):aq H H1:=e▸aq.new hp _
theorem gL(e:upd H p (.lst vs)=H1)(hp:H p=none):aq H H1:=e▸aq.new hp _
theorem MN(e:upd H p (.tup vs)=H1)(hp:H p=none)(hr:aN K H ds vs):Rep K H1 (.tup ds) (.ref p):=e▸Rep.new hp hr
theorem NZ(e:upd H p (.lst vs)=H1):H1 p=some (.lst vs):=e▸ae
end
theorem rS{K:zaa}{H:Hp}{x:Str}:Rep K H (.str x) (.str x):=Rep.bA.mpr rfl
theorem Px{K:zaa}{H:Hp}{x:Int}:Rep K H (.int x) (.int x):=Rep.bt.mpr rfl
section
variable{prog:zdw}{w:zdm}
def vh (prog:zdw) (w:zdm) (h:Heap) (x:Key×List Key) (a:zdk):Prop:=∃(o:Obj) (n:Nat) (u:zdl) (b:zdk),h.get? a=some o/\o.cls=.type "tuple"/\o.data=.seq #[u,.ref b] n/\sQ x.1 u=true/\IsTupleKey (bT prog w) h x.2 b
theorem vh.ty{s:zdu}{x:Key×List Key}{a:zdk}(h:vh prog w s.heap x a):s.TypeIs (.ref a) "tuple":=let ⟨o,_,_,_,e,c,_⟩:=h;⟨o,e,c⟩
def Ld (w:zdm) (prog:zdw) (x:Key×List Key):Int:=reduceHash (Builtin.Tuple.tupleHashOf [M1 w x.1,tupleKeyHash (bT prog w) x.2])
theorem vh.one{h:Heap}{a:zdk}{x y:Key×List Key}(hx:vh prog w h x a)(hy:vh prog w h y a):x=y:=by
 obtain⟨o,n,u,b,e,_,d,i,t⟩:=hx;obtain⟨o',n',u',b',e',_,d',i',t'⟩:=hy;rw[e] at e';cases e';rw[d] at d'
 injection d' with d1 _
 have d1:=congrArg zdh d1;simp only[zdi.injEq,Value.ref.injEq,and_true] at d1;obtain⟨rfl,rfl⟩:=d1;exact Prod.ext ((bT prog w).inj _ _ _ i i') (t.inj t')
theorem vh.kp{h h':Heap}{x:Key×List Key}{a d:zdk}{o:Obj}{es ep}(hx:vh prog w h x a)(ho:h.get? d=some o)(hd:o.data=.dict es ep)(hs:Heap.SameBut d h h'):vh prog w h' x a:=by
 obtain⟨o',n,u,b,e,c,d',i,t⟩:=hx;have ne:a≠d:=fun z=>by
  rw[z,ho] at e;cases e;rw[hd] at d';cases d'
 exact⟨o',n,u,b,(hs.2 a ne).trans e,c,d',i,t.keeps ho hd hs⟩
variable{A:zdv}{E:zdl->zdu->Prop}{s:zdu}
theorem N0{x:Key×List Key}{a:zdk}{Q:Int->zdu->Prop}(hu:A.units+8<cLine)(hk:vh prog w s.heap x a)(h:Q (Ld w prog x) {s with toks:=s.toks+(x.2.length+3)}) :
 wpAny (model prog w) A (pyHash (.ref a)) Q E s:=by
 have ty:=hk.ty;obtain⟨o,n,u,b,e,c,d,i,t⟩:=hk;refine zdg (T:="tuple") ty F.slot_tuple_hash F.entry_tuple_hash (F.args_tuple_hash_1 _) (beq_builtin_none _) (.inr (by lia)) ((show wpAny _ _ (Builtin.Tuple.tupleItemsOf (.ref a) >>= _) _ _ s from ?_));refine zdn (wpAny_tupleItemsOf e d (zdn ?_));rw[<- zcw];show wpAny _ _ (forIn [u,Value.ref b] #[] _) _ _ s;rw[za9];refine zdn (zdn ((bT prog w).pyHash i (zdo ?_)));show wpAny _ _ (forIn [Value.ref b] _ _) _ _ _;rw[za9];refine zdn (zdn (wpAny_pyHash_tuple (ks:=x.2) (by show A.units+1<cLine;lia) (show IsTupleKey (bT prog w) _ x.2 b from t) (zdo ?_)));show wpAny _ _ (forIn ([]:List zdl) _ _) _ _ _;rw[zbL];refine zdo ?_;show wpAny _ _ (retInt (Builtin.Tuple.tupleHashOf [M1 w x.1,tupleKeyHash (bT prog w) x.2])) _ _ _;refine zdn (wpAny_mkInt (zdo ⟨_,_,rfl,?_⟩));rw[show s.toks+(x.2.length+3)=s.toks+1+(x.2.length+1)+1 by lia] at h;exact h
theorem UK{x y:Key×List Key}{a b:zdk}{Q:Bool->zdu->Prop}(hu:A.units+8<cLine)(hx:vh prog w s.heap x a)(hy:vh prog w s.heap y b)(h:Q (decide (x=y)) s):wpAny (model prog w) A (eqBool (.ref a) (.ref b)) Q E s:=by
 unfold eqBool
 try with_reducible refine zdp ?_
 show wpAny _ _ (if (Value.ref a==Value.ref b)=true then _ else _) Q E s;by_cases Gk:(Value.ref a==Value.ref b)=true
 ·rw[zzp Gk];have e:a=b:=by have:=eq_of_beq Gk;injection this
  subst e;cases hx.one hy;exact zdn (wpAny_rule (zdo (by simpa using h)))
 ·rw[zzn Gk];refine zdn (wpAny_richCompare_same_room (op:=.Eq) hx.ty hy.ty F.slot_tuple_eq (wpAny_call_entry F.slot_tuple_eq hx.ty F.entry_tuple_eq ?_ (F.args_tuple_eq_2 _ _)) (by lia));have hTb:=hy.ty;obtain⟨o1,n1,u1,b1,e1,c1,d1,i1,t1⟩:=hx;obtain⟨o2,n2,u2,b2,e2,c2,d2,i2,t2⟩:=hy;show wpAny _ _ (isInstance (.ref b) (.type "tuple") >>= _) _ _ s;refine zdn (wpAny_isInstance hTb isSubtype_tuple_tuple ?_);simp only[zbD,zaz,if_false];refine zdn (wpAny_tupleItemsOf e1 d1 (zdn (wpAny_tupleItemsOf e2 d2 (zdn ?_))));show wpAny _ _ (forIn [(u1,u2),(Value.ref b1,Value.ref b2)] _ _) _ _ s;have fin:∀c:Bool,c=decide (x=y)->∃v,(Fin.done (Flow.ret (Value.bool c)))=Fin.done (Flow.ret v)/\v≠Value.notImplemented/\wpAny (model prog w) A (truthOfDropped v) Q E s:=fun c hc=>⟨_,rfl,(fun z=>nomatch z),wpAny_truthy_bool (hc▸h)⟩
  rw[za9];refine zdn (zdn ((bT prog w).eqBool (a:=x.1) (b:=y.1) i1 i2 ?_));by_cases k1:x.1=y.1
  ·rw[decide_eq_true k1];simp only[zbD,zaz,if_false];refine zdo ?_;show wpAny _ _ (forIn [(Value.ref b1,Value.ref b2)] _ _) _ _ s;rw[za9];refine zdn (zdn (wpAny_eqBool_tuple (x:=x.2) (y:=y.2) (by show A.units+1<cLine;lia) t1 t2 ?_));by_cases k2:x.2=y.2
   ·rw[decide_eq_true k2];simp only[zbD,zaz,if_false];refine zdo ?_;show wpAny _ _ (forIn ([]:List (zdl×zdl)) _ _) _ _ s;rw[zbL];exact zdo (zdo (fin true (decide_eq_true (Prod.ext k1 k2)).symm))
   ·rw[decide_eq_false k2];simp only[Bool.not_false,if_true];exact zdn (zdo (zdo (zdo (zdo (fin false (decide_eq_false fun z=>k2 (congrArg Prod.snd z)).symm)))))
  ·rw[decide_eq_false k1];simp only[Bool.not_false,if_true];exact zdn (zdo (zdo (zdo (zdo (fin false (decide_eq_false fun z=>k1 (congrArg Prod.fst z)).symm)))))
theorem EL(m:Nat){l:List Key}{b:zdk}{Q:Bool->zdu->Prop}(hk:IsTupleKey (bT prog w) s.heap l b)(h:Q true s):wpAny (model prog w) A (eqIsQuiet (m+1) (.ref b)) Q E s:=by
 have ty:=hk.typeIs;obtain⟨o,bC,n,e,_,d,hi⟩:=hk;unfold eqIsQuiet;refine zdn (wpAny_specialOf ty F.slot_tuple_eq.lookup ((show wpAny _ _ (isInstance (.ref b) (.type "tuple") >>= _) _ _ s from ?_)));refine zdn (wpAny_isInstance ty isSubtype_tuple_tuple ?_);simp only[zbD,zaz,if_false];refine zdn (wpAny_seqItems e d (zdn ((show wpAny _ _ (forIn bC _ _) _ _ s from ?_))));rw[<- zcw];have all:=hi.byValue;generalize bC.toList=vs at all;refine wpAny_forIn_list _ (fun r (c:Option Bool×Unit) s'=>c.1=none/\s'=s/\∀v∈r,carriedByValue v=true) _ (fun v r c s' hv=>?_) (fun c s' hv=>?_) _ _ ⟨rfl,rfl,all⟩
 ·obtain⟨_,rfl,hv⟩:=hv;rw[eqIsQuiet_byValue _ (hv v (zaq ..))];refine zdn (zdo ?_);simp only[zbD,zaz,if_false];exact zdo ⟨rfl,rfl,fun z hz=>hv z (zat _ hz)⟩
 ·obtain⟨c1,c2⟩:=c;obtain⟨hc,rfl,_⟩:=hv;cases (show c1=none from hc);exact zdo h
theorem Le{x:Key×List Key}{a:zdk}{Q:Bool->zdu->Prop}(hk:vh prog w s.heap x a)(h:Q true s):wpAny (model prog w) A (eqIsQuiet 8 (.ref a)) Q E s:=by
 have ty:=hk.ty;obtain⟨o,n,u,b,e,c,d,i,t⟩:=hk;unfold eqIsQuiet;refine zdn (wpAny_specialOf ty F.slot_tuple_eq.lookup ((show wpAny _ _ (isInstance (.ref a) (.type "tuple") >>= _) _ _ s from ?_)));refine zdn (wpAny_isInstance ty isSubtype_tuple_tuple ?_);simp only[zbD,zaz,if_false];refine zdn (wpAny_seqItems e d (zdn ?_));have key:∀ {z:zdl} {k:Key} {m:Nat},sQ k z=true->eqIsQuiet m z=pure true:=fun {z k m} hz=>eqIsQuiet_byValue m ((bT prog w).byValue k z hz);show wpAny _ _ (forIn #[u,Value.ref b] _ _) _ _ s;rw[<- zcw];show wpAny _ _ (forIn [u,Value.ref b] _ _) _ _ s;rw[za9,key i];refine zdn (zdn (zdo ?_));simp only[zbD,zaz,if_false];refine zdo ?_;show wpAny _ _ (forIn [Value.ref b] _ _) _ _ s;rw[za9];refine zdn (zdn (EL 6 t ?_));simp only[zbD,zaz,if_false];refine zdo ?_;show wpAny _ _ (forIn ([]:List zdl) _ _) _ _ s;rw[zbL];exact zdo (zdo h)
end
def Rn (prog:zdw) (w:zdm):HeapKind prog w (Key×List Key) where
 is:=vh prog w
 hash:=Ld w prog
 draws:=fun x=>x.2.length+3
 room:=fun A=>A.units+8<cLine
 inj:=fun hx hy=>hx.one hy
 keeps:=fun hx ho hd hs=>hx.kp ho hd hs
 pyHash:=fun hu hk h=>N0 hu hk h
 eqBool:=fun hu hx hy h=>UK hu hx hy h
 quiet:=fun hk h=>Le hk h
noncomputable def tN (b:Bool):Int:=if b then 1 else 0
def N1 (k:Key) (v:zdl):Bool:=match v with
 |.bool b=>decide (k=.inl (tN b))
 |v=>sQ k v
theorem fC{k:Key}{v:zdl}(h:N1 k v=true):(∃i t,k=.inl i/\v=.int i t)\/(∃x t,k=.inr x/\v=.str x t)\/∃b,k=.inl (tN b)/\v=.bool b:=by
 unfold N1 at h;split at h
 ·rename_i b;exact .inr (.inr ⟨b,of_decide_eq_true h,rfl⟩)
 ·rcases df h with z |z
  ·exact .inl z
  ·exact .inr (.inl z)
theorem Lf{a b:Bool}:(tN a==tN b)=(a==b):=by cases a<;>cases b<;>rfl
def UL (prog:zdw) (w:zdm):PySem.KeyKind prog w Key where
 is:=N1
 hash:=M1 w
 inj:=fun v a b ha hb=>by
  rcases fC ha with ⟨i,t,rfl,rfl⟩ |⟨x,t,rfl,rfl⟩ |⟨c,rfl,rfl⟩<;>rcases fC hb with ⟨j,u,rfl,e⟩ |⟨y,u,rfl,e⟩ |⟨d,rfl,e⟩<;>cases e<;>rfl
 byValue:=fun k v h=>by
  rcases fC h with ⟨i,t,rfl,rfl⟩ |⟨x,t,rfl,rfl⟩ |⟨c,rfl,rfl⟩<;>rfl
 pyHash:=fun hv h=>by
  rcases fC hv with ⟨i,t,rfl,rfl⟩ |⟨x,t,rfl,rfl⟩ |⟨c,rfl,rfl⟩
  ·exact wpAny_pyHash_int h
  ·exact wpAny_pyHash_str h
  ·refine zdg (T:="bool") rfl F.slot_bool_hash entry_int_hash (args_int_hash _) (beq_builtin_none _) (.inl rfl) ?_;cases c
   ·exact(show wpAny _ _ (do ret (<- mkInt 0)) _ _ _ from zdn (wpAny_mkInt (zdo ⟨_,_,rfl,h⟩)))
   ·exact(show wpAny _ _ (do ret (<- mkInt 1)) _ _ _ from zdn (wpAny_mkInt (zdo ⟨_,_,rfl,h⟩)))
 eqBool:=fun hu hv h=>by
  rcases fC hu with ⟨i,t,rfl,rfl⟩ |⟨x,t,rfl,rfl⟩ |⟨c,rfl,rfl⟩
  ·rcases fC hv with ⟨j,u,rfl,rfl⟩ |⟨y,u,rfl,rfl⟩ |⟨d,rfl,rfl⟩
   ·rw[w4] at h;exact wpAny_eqBool_int h
   ·rw[DG] at h;exact SeqAt.EqAt.int_str i t y u _ _ _ _ h
   ·rw[w4] at h;exact SeqAt.EqAt.int_bool i t d _ _ _ _ h
  ·rcases fC hv with ⟨j,u,rfl,rfl⟩ |⟨y,u,rfl,rfl⟩ |⟨d,rfl,rfl⟩
   ·rw[DH] at h;exact SeqAt.EqAt.str_int x t j u _ _ _ _ h
   ·rw[Ji] at h;exact wpAny_eqBool_str h
   ·rw[DH] at h;exact SeqAt.EqAt.str_bool x t d _ _ _ _ h
  ·rcases fC hv with ⟨j,u,rfl,rfl⟩ |⟨y,u,rfl,rfl⟩ |⟨d,rfl,rfl⟩
   ·rw[w4] at h;exact SeqAt.EqAt.bool_int c j u _ _ _ _ h
   ·rw[DG] at h;exact SeqAt.EqAt.bool_str c y u _ _ _ _ h
   ·rw[w4,Lf] at h;exact SeqAt.EqAt.bool_bool c d _ _ _ _ h
 «strs»:=fun k x t v h=>by
  rcases fC h with ⟨i,u,rfl,e⟩ |⟨y,u,rfl,e⟩ |⟨d,rfl,e⟩
  ·cases e
  ·cases e;cases v<;>rfl
  ·cases e
structure KH(κ:Type)[DecidableEq κ] where
 knd:∀(P:zdw) (w:zdm),HeapKind P w κ
 on:zaa->Hp->κ->zdk->Prop
 up:∀ {K:zaa} {H H':Hp} {x:κ} {a:zdk},(∀b ys,bQ K H b ys->bQ K H' b ys)->on K H x a->on K H' x a
 of:∀ {X:Cx} {pins:List (zdk×Obj)} {σ:St} {H:Hp} {s:zdu} {x:κ} {a:zdk},Inv X pins σ H s->on X.K H x a->(knd X.prog X.w).is s.heap x a
 room:∀ {P:zdw} {w:zdm} {A:zdv},A.units+16<cLine->(knd P w).room A.in1
section
variable{κ:Type}[DecidableEq κ](J:KH κ)
def gS (P:zdw) (w:zdm) (a:zdk) (xs:List (κ×zdk×zdl)):Heap->Prop:=fun h=>∃o es ep,h.get? a=some o/\o.ExactDict/\o.data=.dict es ep/\es.toList=xs.map (entryOfKey (J.knd P w))
abbrev KS (K:zaa) (H:Hp):List (κ×V)->List (κ×zdk×zdl)->Prop:=Paired fun p q=>p.1=q.1/\J.on K H p.1 q.2.1/\RelV p.2 q.2.2
structure DS(P:zdw)(w:zdm)(K:zaa)(H:Hp)(a:zdk)(ax:List (κ×V)):Prop where
 len:ax.length<=zds
 sys:(a==sysModules)=false
 at_:∃xs,H a=some (.ext (gS J P w a xs))/\KS J K H ax xs/\(xs.map (·.1)).Nodup
variable{J}
section
variable{K:zaa}{H H':Hp}{ax:List (κ×V)}{xs:List (κ×zdk×zdl)}
theorem KS.val(r:KS J K H ax xs)(k:κ):rA (cf ax k) ((atKey xs k).map (·.2)):=by
 induction r with
 |nil=>exact True.intro
 |@cons p q ps qs h t ih=>
  by_cases e:p.1=k
  ·rw[cg e,show atKey (q::qs) k=some q.2 by simp[atKey,h.1.symm.trans e]];exact h.2.2
  ·have e':¬q.1=k:=fun z=>e (h.1.trans z);rw[ck e,show atKey (q::qs) k=atKey qs k by simp[atKey,e']];exact ih
theorem KS.put(r:KS J K H ax xs)(k:κ){b:zdk}{y:V}{u:zdl}(hb:J.on K H k b)(ry:RelV y u):KS J K H (putK ax k y) (storedH xs k b u):=by
 have e:(ax.any fun kv=>decide (kv.1=k))=(atKey xs k).isSome:=by rw[kz,(r.val k).qf,zb9]
 unfold putK storedH;rw[e];by_cases q:(atKey xs k).isSome=true
 ·rw[zzp q,zzp q];clear e q
  induction r with
  |nil=>exact .nil
  |@cons p q ps qs h t ih=>
   refine .cons ?_ ih;dsimp only;unfold putAt;by_cases e:p.1=k
   ·rw[zzp e];rw[zzp (h.1.symm.trans e)];exact⟨h.1,h.2.1,ry⟩
   ·rw[zzn e];rw[zzn fun z=>e (h.1.trans z)];exact h
 ·rw[zzn q,zzn q];exact Paired.snoc r ⟨rfl,hb,ry⟩
theorem KS.up(r:KS J K H ax xs)(t:∀b ys,bQ K H b ys->bQ K H' b ys):KS J K H' ax xs:=Paired.Av r fun _ _ z=>⟨z.1,J.up t z.2.1,z.2.2⟩
end
section
variable{X:Cx}{pins:List (zdk×Obj)}{σ:St}{H:Hp}{s:zdu}{a b:zdk}{v:V}{u r:zdl}{A:zdv}{E:zdl->zdu->Prop}{ax:List (κ×V)}{k:κ}
theorem vR(I:Inv X pins σ H s){xs:List (κ×zdk×zdl)}(e:H a=some (.ext (gS J X.prog X.w a xs)))(r:KS J X.K H ax xs)(nd:(xs.map (·.1)).Nodup):s.heap.DictOfH (J.knd X.prog X.w) a xs:=by
 obtain⟨⟨o,es,ep,h1,h2,h3,h4⟩, -⟩:=(show dg X.prog X.w H s.heap a (.ext (gS J X.prog X.w a xs)) from I.cM a _ e)
 refine⟨o,es,ep,h1,h2,h3,h4,?_,nd⟩;clear h4 nd e
 induction r with
 |nil=>intro x hx;cases hx
 |@cons p q ps qs hq t ih=>
  intro x hx;rcases zag.mp hx with rfl |hx
  ·exact J.of I (hq.1▸hq.2.1)
  ·exact ih x hx
theorem UM{Q:zdl->zdu->Prop}(hu:A.units+16<cLine)(I:Inv X pins σ H s)(d:DS J X.prog X.w X.K H a ax)(hk:J.on X.K H k b)(h:∀s',Inv X pins σ H s'->Q (.bool (cf ax k).isSome) s') :
 wpAny (model X.prog X.w) A (compareOp .In (.ref b) (.ref a)) Q E s:=by
 obtain⟨z,sy,xs,e,r,nd⟩:=d;refine wpAny_in_heap (knd:=J.knd X.prog X.w) (J.room hu) (J.of I hk) sy (vR I e r nd) ?_;have q:=(r.val k).qf;rw[zb9] at q;rw[<- q];exact h _ (I.tok _)
theorem Lg{Q:zdl->zdu->Prop}(hu:A.units+16<cLine)(I:Inv X pins σ H s)(d:DS J X.prog X.w X.K H a ax)(hk:J.on X.K H k b)(h:∀s',Inv X pins σ H s'->Q (.bool (!(cf ax k).isSome)) s') :
 wpAny (model X.prog X.w) A (compareOp .NotIn (.ref b) (.ref a)) Q E s:=by
 obtain⟨z,sy,xs,e,r,nd⟩:=d;refine PyProof.Rows.wpAny_notIn_heap (knd:=J.knd X.prog X.w) (J.room hu) (J.of I hk) sy (vR I e r nd) ?_;have q:=(r.val k).qf;rw[zb9] at q;rw[<- q];exact h _ (I.tok _)
theorem Ro{Q:zdl->zdu->Prop}(hu:A.units+16<cLine)(I:Inv X pins σ H s)(d:DS J X.prog X.w X.K H a ax)(hk:J.on X.K H k b)(l:cf ax k=some v)(h:∀w' s',Inv X pins σ H s'->RelV v w'->Q w' s') :
 wpAny (model X.prog X.w) A (getItem (.ref a) (.ref b)) Q E s:=by
 obtain⟨z,sy,xs,e,r,nd⟩:=d;obtain⟨w',hw,Ec⟩:=rA.some_of (v:=v) (o:=(atKey xs k).map (·.2)) (by rw[<- l];exact r.val k);obtain⟨p,hp,yQ⟩:=zcU.mp hw;refine wpAny_getItem_heap (knd:=J.knd X.prog X.w) (J.room hu) (J.of I hk) (vR I e r nd) hp ?_;rw[yQ];exact h w' _ (I.tok _) Ec
theorem bQ.ext{K:zaa}{H:Hp}{a c:zdk}{φ:Heap->Prop}{o:HO}{ys:List V}(h:bQ K H c ys)(e:H a=some (.ext φ)):bQ K (upd H a o) c ys:=by
 rcases h with (q |⟨o',q⟩) |q
 ·exact .inl (.inl (by rw[aw (bU q e (by intro z;cases z))];exact q))
 ·exact .inl (.inr ⟨o',by rw[aw (bU q e (by intro z;cases z))];exact q⟩)
 ·exact .inr q
theorem Rp{Q:Unit->zdu->Prop}(hu:A.units+16<cLine)(I:Inv X pins σ H s)(d:DS J X.prog X.w X.K H a ax)(hk:J.on X.K H k b)(l:ax.length<zds)(rv:RelV v r)
 (h:∀s' H',Inv X pins σ H' s'->DS J X.prog X.w X.K H' a (putK ax k v)->(∃φ,H'=upd H a (.ext φ))->Q () s') :
 wpAny (model X.prog X.w) A (setItem (.ref a) (.ref b) r) Q E s:=by
 obtain⟨z,sy,xs,e,rel,nd⟩:=d;have hz:xs.length<=zds:=by rw[<- Paired.length rel];exact z
 have hl:(putK ax k v).length<=zds:=by have:=ip ax k v;lia
 refine wpAny_setItem_heap (knd:=J.knd X.prog X.w) (hsz:=hz) (J.room hu) (J.of I hk) (vR I e rel nd) fun h' FU hs=>?_;obtain⟨q,es,ep,hq,h2,h3,h4,_,h5⟩:=FU;have ph:gS J X.prog X.w a (storedH xs k b r) h':=⟨q,es,ep,hq,h2,h3,h4⟩
 refine h _ (upd H a (.ext (gS J X.prog X.w a (storedH xs k b r)))) (kY I (by rw[e];exact True.intro) hs ⟨q,hq⟩ ⟨ph,⟨q,hq⟩,fun g1 g2 p1 kp=>?_⟩) ⟨hl,sy,_,ae,(rel.put k hk rv).up fun c ys ec=>ec.ext e,h5⟩ ⟨_,rfl⟩;obtain⟨o,es,ep,h1,h2,h3,h4⟩:=p1;exact⟨o,es,ep,kp o h1,h2,h3,h4⟩
end
theorem DS.Ik{P:zdw}{w:zdm}{K:zaa}{H H':Hp}{a:zdk}{ax:List (κ×V)}(d:DS J P w K H a ax)(e:∀o,H a=some o->H' a=some o)(t:∀b ys,bQ K H b ys->bQ K H' b ys):DS J P w K H' a ax:=⟨d.len,d.sys,let ⟨xs,h,r,nd⟩:=d.at_;⟨xs,e _ h,r.up t,nd⟩⟩
theorem DS.mono{P:zdw}{w:zdm}{K:zaa}{H H':Hp}{a:zdk}{ax:List (κ×V)}(d:DS J P w K H a ax)(s:aq H H'):DS J P w K H' a ax:=d.Ik (fun o h=>s _ _ h) fun b ys q=>s.a7 q
section
variable{X:Cx}{o i value:Expr}{pos pos':Pos}{td ty tv:TE}
def EM (J:KH κ) (P:zdw) (w:zdm):TE:=fun _ H Q=>∀p,H p=none->(p==sysModules)=false->Q (.ref p) (upd H p (.ext (gS J P w p [])))
theorem A3{P:zdw}{w:zdm}{K:zaa}{H:Hp}{p:zdk}(h:(p==sysModules)=false):DS J P w K (upd H p (.ext (gS J P w p []))) p []:=⟨zaZ _,h,[],ae,.nil,zb4⟩
theorem tX:PE X (.Dict [] [] pos) (EM J X.prog X.w):=fun pins s σ H Q I h=>by
 have big:=I.big;refine wpAny_Dict_empty ⟨.ref s.heap.objs.size,_,I.laid (a:=s.heap.objs.size) (o:=.ext (gS J X.prog X.w s.heap.objs.size [])) (t':=s.toks) (fun _ _ q=>Heap.get?_push_of_some _ q) (zaf _) ⟨⟨_, #[],0,Heap.get?_push_size _ rfl,⟨rfl,rfl,rfl⟩,rfl,rfl⟩,⟨_,Heap.get?_push_size _ rfl⟩,fun g1 g2 p1 kp=>?_⟩,rfl,h _ (I.cM.fresh (zaf _)) (beq_eq_false_iff_ne.mpr (Ne.symm (zaD big)))⟩;obtain⟨ob,es,ep,h1,h2,h3,h4⟩:=p1;exact⟨ob,es,ep,kp ob h1,h2,h3,h4⟩
theorem Rq(hu:X.A.units+16<cLine):rK X (compareOp .In) (fun x y H Q=>∃(a b:zdk) (ax:List (κ×V)) (k:κ),x=.ref b/\y=.ref a/\DS J X.prog X.w X.K H a ax/\J.on X.K H k b/\Q (.bl (cf ax k).isSome) H):=by
 intro pins s σ H x y v u Q I rx ry h;obtain⟨a,b,ax,k,rfl,rfl,d,hk,q⟩:=h;cases rx;cases ry;exact UM hu I d hk fun s' I'=>⟨.bl (cf ax k).isSome,H,I',rfl,q⟩
theorem vi(hu:X.A.units+16<cLine):rK X (compareOp .NotIn) (fun x y H Q=>∃(a b:zdk) (ax:List (κ×V)) (k:κ),x=.ref b/\y=.ref a/\DS J X.prog X.w X.K H a ax/\J.on X.K H k b/\Q (.bl (!(cf ax k).isSome)) H):=by
 intro pins s σ H x y v u Q I rx ry h;obtain⟨a,b,ax,k,rfl,rfl,d,hk,q⟩:=h;cases rx;cases ry;exact Lg hu I d hk fun s' I'=>⟨.bl (!(cf ax k).isSome),H,I',rfl,q⟩
def EN (J:KH κ) (P:zdw) (w:zdm) (K:zaa) (td ty tv:TE):TS:=fun D σ H=>tv σ H fun v H1=>td σ H1 fun x H2=>ty σ H2 fun y H3=>∃(a b:zdk) (ax:List (κ×V)) (k:κ),x=.ref a/\y=.ref b/\DS J P w K H3 a ax/\J.on K H3 k b/\ax.length<zds/\
 ∀H4,DS J P w K H4 a (putK ax k v)->(∃φ,H4=upd H3 a (.ext φ))->D.nx σ H4
theorem xO(hu:X.A.units+16<cLine)(ho:PE X o td)(hi:PE X i ty)(hv:PE X value tv)(hs:swapsWith value (some (.Subscript o i pos')) pos.line X.env=pure false):PS X (.Assign [.Subscript o i pos'] value pos) (EN J X.prog X.w X.K td ty tv):=by
 intro pins s σ H D I h;refine wpAny_Assign_Subscript (fc (hv pins s σ H _ I h) fun r s1 zqz=>?_) hs;obtain⟨v,H1,I1,rv,q1⟩:=zqz;refine fc (ho pins s1 σ H1 _ I1 q1) fun u s2 zqz=>?_;obtain⟨x,H2,I2,rx,q2⟩:=zqz;refine fc (hi pins s2 σ H2 _ I2 q2) fun iv s3 zqz=>?_;obtain⟨y,H3,I3,ry,a,b,ax,k,ex,ey,d,hk,l,q3⟩:=zqz;subst ex ey;cases rx;cases ry;exact Rp hu I3 d hk l rv fun s4 H4 I4 d4 e4=>⟨σ,H4,I4,q3 H4 d4 e4⟩
def EO (J:KH κ) (P:zdw) (w:zdm) (K:zaa) (td ty:TE):TE:=fun σ H Q=>td σ H fun x H1=>ty σ H1 fun y H2=>∃(a b:zdk) (ax:List (κ×V)) (k:κ) (v:V),x=.ref a/\y=.ref b/\DS J P w K H2 a ax/\J.on K H2 k b/\cf ax k=some v/\Q v H2
theorem CM(hu:X.A.units+16<cLine)(ho:PE X o td)(hi:PE X i ty)(hs:Q2 i):PE X (.Subscript o i pos) (EO J X.prog X.w X.K td ty):=by
 intro pins s σ H Q I h;refine FV PySem.F.slot_dict_getitem.lookup hs (fc (ho pins s σ H _ I h) fun u s1 zqz=>?_);obtain⟨x,H1,I1,rx,q1⟩:=zqz;refine fc (hi pins s1 σ H1 _ I1 q1) fun iv s2 zqz=>?_;obtain⟨y,H2,I2,ry,a,b,ax,k,v,ex,ey,d,hk,l,q2⟩:=zqz;subst ex ey;cases rx;cases ry;have dd:=d;obtain⟨z,sy,xs,e,r,nd⟩:=dd;exact⟨(vR I2 e r nd).typeIs,Ro hu I2 d hk l fun w' s3 I3 Ec=>⟨v,H2,I3,Ec,q2⟩⟩
end
end
abbrev kS:=Key×List Key
def SkH (K:zaa) (H:Hp) (x:kS) (a:zdk):Prop:=∃b,bQ K H a [kV x.1,.ref b]/\bQ K H b (x.2.map kV)
def jN:KH kS where
 knd:=Rn
 on:=SkH
 up:=fun t ⟨b,h1,h2⟩=>⟨b,t _ _ h1,t _ _ h2⟩
 of:=fun {X pins σ H s x a} I ⟨c,h1,h2⟩=>by
  obtain⟨i1,r1,⟨o1,e1,c1,n1,d1⟩,_⟩:=I.tuple h1;obtain⟨i2,r2,⟨o2,e2,c2,n2,d2⟩,_⟩:=I.tuple h2;obtain⟨u1,u2,rfl,q1,q2⟩:=vals2 r1;cases (show u2=Value.ref c from q2);exact⟨o1,n1,u1,c,e1,c1,d1,xk (P:=X.prog) (w:=X.w) q1,o2,i2.toArray,n2,e2,c2,d2,by simpa using uP r2⟩
 room:=fun {P w A} h=>by show A.units+1+8<cLine;lia
def WE (k:Key) (v:V):Prop:=v=kV k\/∃b,v=.bl b/\k=.inl (tN b)
theorem N2{k:Key}{v:V}{u:zdl}(h:WE k v)(r:RelV v u):N1 k u=true:=by
 rcases h with rfl |⟨b,rfl,rfl⟩
 ·cases k with
  |inl i=>obtain⟨t,rfl⟩:=(show ∃t,u=Value.int i t from r);exact zw i t
  |inr x=>obtain⟨t,rfl⟩:=(show ∃t,u=Value.str x t from r);exact zx x t
 ·cases (show u=Value.bool b from r);exact decide_eq_true rfl
theorem Lh{P:zdw}{w:zdm}:∀ {ks:List Key} {vs:List V} {us:List zdl},Paired WE ks vs->Vals vs us->ItemsAre (UL P w) ks us
 |_,_,_,.nil,r=>by cases r;exact .nil
 |_,_,_,.cons h t,r=>by
  cases r with
  |cons r1 r2=>exact .cons (N2 h r1) (Lh t r2)
def Il:KH (List Key) where
 knd:=fun P w=>tupleKind (UL P w)
 on:=fun K H x a=>∃vs,bQ K H a vs/\Paired WE x vs
 up:=fun t ⟨vs,h1,h2⟩=>⟨vs,t _ _ h1,h2⟩
 of:=fun {X pins σ H s x a} I ⟨vs,h1,h2⟩=>by
  obtain⟨i1,r1,⟨o1,e1,c1,n1,d1⟩,_⟩:=I.tuple h1;exact⟨o1,i1.toArray,n1,e1,c1,d1,by simpa using Lh h2 r1⟩
 room:=fun {P w A} h=>by show A.units+1<cLine;lia
def iu (h:Heap) (d:zdk) (es:Array DictEntry) (ep:Nat):Prop:=∃o,h.get? d=some o/\o.ExactDict/\o.data=.dict es ep
section
variable{prog:zdw}{w:zdm}{A:zdv}{E:zdl->zdu->Prop}{s:zdu}{d it:zdk}{es:Array DictEntry}{ep i:Nat}
theorem iu.ty(x:iu s.heap d es ep):s.TypeIs (.ref d) "dict":=let ⟨o,g,c,_⟩:=x;⟨o,g,c.1⟩
theorem iu.Ik{h h':Heap}(x:iu h d es ep)(e:∀o,h.get? d=some o->h'.get? d=some o):iu h' d es ep:=let ⟨o,g,r⟩:=x;⟨o,e _ g,r⟩
theorem iu.lt{h:Heap}(x:iu h d es ep):d<h.objs.size:=let ⟨_,g,_⟩:=x;Heap.lt_size g
theorem CN{Q:zdl->zdu->Prop}(hd:(d==sysModules)=false)(x:iu s.heap d es ep)
 (q:Q (.ref s.heap.objs.size) {s with heap:=s.heap.push {cls:=.type "dict_keyiterator",data:=.fields #[.ref d,.int 0 0,.int es.size 0,.int ep 0]} }):wpAny (model prog w) A (pyIter (.ref d)) Q E s:=by
 have YF:=x.ty;obtain⟨od,gd,cd,dd⟩:=x;refine wpAny_pyIter_slot YF F.slot_dict_iter (wpAny_call_entry F.slot_dict_iter YF F.entry_dict_iter ?_ (F.args_dict_iter_1 _));unfold Builtin.«dict.__iter__» Builtin.Dict.dictSlotNone;refine zdn (zdn (wpAny_notOrdered_dict YF ?_));show wpAny _ _ (pure (Value.ref d)) _ _ s;refine zdo ?_;show wpAny _ _ (Builtin.Dict.showsAll d >>= _) _ _ s;unfold Builtin.Dict.showsAll;rw[zzn (by rw[hd];exact zai)];refine zdn (zdo (zdn (wpAny_dictEntries gd dd (zdn (wpAny_dictEpoch gd dd ?_)))));refine zdn (wpAny_newObj_type (zdo ⟨_,rfl, "dict_keyiterator",_,⟨_,Heap.get?_push_size _ rfl,rfl⟩,F.slot_dict_keyiterator_next.lookup,?_⟩));simpa[rawInt] using q
theorem CO{Q:Option zdl->zdu->Prop}(x:s.heap.IsKeyIter it d i es.size ep)(y:iu s.heap d es ep)(li:i<es.size)
 (q:∀h',h'.IsKeyIter it d (i+1) es.size ep->Heap.SameBut it s.heap h'->Q (some es[i].key) {s with heap:=h' }):wpAny (model prog w) A (pyNext (.ref it)) Q E s:=by
 have MO:=x.typeIs;obtain⟨oi,gi,ci,di⟩:=id x;obtain⟨od,gd,_,dd⟩:=id y;have ow:Builtin.Dict_items.ownsTuple "dict_keyiterator"=false:=by decide
 unfold pyNext;refine zdn (wpAny_attempt (wpAny_callSpecial?_slot (name:=zab "__next__") MO F.slot_dict_keyiterator_next (wpAny_call_entry F.slot_dict_keyiterator_next MO F.entry_dict_keyiterator_next ?_ (F.args_dict_keyiterator_next_1 _))));refine zdn (zdo (zdn (zdn ?_)));refine zdn (wpAny_typeNameOfWhole_keyiter MO (zdo (zdn (wpAny_fieldsOf gi di ?_))));simp only[ow,zaz,if_false];show wpAny _ _ (if (Value.ref d==Value.none)=true then _ else _) _ _ s;rw[zzn (show ¬((Value.ref d==Value.none)=true) from zai)];refine zdn (zdo (zdn (wpAny_dictEntries gd dd ?_)));rw[zzn (by simp)];refine zdn (zdo (zdn (wpAny_dictEpoch gd dd ?_)));rw[zzn (by simp)];refine zdo ?_;simp only[show ¬((i:Int)<0) from by lia,if_false,za0,zbi li];refine zdn (zdn (wpAny_typeNameOfWhole_keyiter MO (zdo (zdn (wpAny_isOneOf_keyiter MO ?_)))));show wpAny _ _ (setField (.ref it) 1 (rawInt ((i:Int)+1)) >>= _) _ _ s;refine zdn (wpAny_setField gi di (by simp) ?_);have z:(s.heap.update it (Obj.mapFields (·.setIfInBounds 1 (rawInt ((i:Int)+1))))).IsKeyIter it d (i+1) es.size ep:=
  ⟨_,Heap.get?_update_self _ gi (Obj.isFreed_of_fields (Obj.data_mapFields di _)),(Obj.cls_mapFields ..).trans ci,by rw[Obj.data_mapFields di];simp[rawInt]⟩
 refine zdn (zdp (zdn (wpAny_isOneOf_keyiter (s:={s with heap:=s.heap.update it (Obj.mapFields (·.setIfInBounds 1 (rawInt ((i:Int)+1))))}) z.typeIs ?_)));show wpAny _ _ (pure es[i].key) _ _ _;exact zdo (zdo ⟨_,rfl,zdo (q _ z (Heap.SameBut.update ..))⟩)
theorem Gy{Q:Option zdl->zdu->Prop}(hA:A.handled=none)(x:s.heap.IsKeyIter it d i es.size ep)(y:iu s.heap d es ep)(li:es.size<=i)
 (q:∀h',Heap.ExtBut it s.heap h'->Q none {s with heap:=h' }):wpAny (model prog w) A (pyNext (.ref it)) Q E s:=by
 have MO:=x.typeIs;obtain⟨oi,gi,ci,di⟩:=id x;obtain⟨od,gd,_,dd⟩:=id y;have ow:Builtin.Dict_items.ownsTuple "dict_keyiterator"=false:=by decide
 unfold pyNext;refine zdn (wpAny_attempt (wpAny_callSpecial?_slot (name:=zab "__next__") MO F.slot_dict_keyiterator_next (wpAny_call_entry F.slot_dict_keyiterator_next MO F.entry_dict_keyiterator_next ?_ (F.args_dict_keyiterator_next_1 _))));refine zdn (zdo (zdn (zdn ?_)));refine zdn (wpAny_typeNameOfWhole_keyiter MO (zdo (zdn (wpAny_fieldsOf gi di ?_))));simp only[ow,zaz,if_false];show wpAny _ _ (if (Value.ref d==Value.none)=true then _ else _) _ _ s;rw[zzn (show ¬((Value.ref d==Value.none)=true) from zai)];refine zdn (zdo (zdn (wpAny_dictEntries gd dd ?_)));rw[zzn (by simp)];refine zdn (zdo (zdn (wpAny_dictEpoch gd dd ?_)));rw[zzn (by simp)];refine zdo ?_;simp only[show ¬((i:Int)<0) from by lia,if_false,za0,zcX li];refine zdn (zdn (wpAny_typeNameOfWhole_keyiter MO (zdo ?_)));show wpAny _ _ (setField (.ref it) 0 .none >>= _) _ _ s;refine zdn (wpAny_setField gi di (by simp) ?_);show wpAny _ _ (newExc (.type "StopIteration") [] >>= _) _ _ _;refine zdn ?_;simp only[newExc,newTuple];refine zdn (wpAny_newObj_type (zdn (m:=firstArgMember _ _) (wpAny_of_eq (a:=Value.none) (by first |rfl |(simp only[firstArgMember];rfl)) (wpAny_newObj_type ?_ (by size_fits)))) (by size_fits));simp only[raiseNew];refine zdn (wpAny_handled ?_);rw[show A.in1.handled=none from hA];refine zdn (zdo (wpAny_throw (zdn ?_)));refine wpAny_isInstance (T:="StopIteration") (b:=true) ⟨_,Heap.get?_push_size _ rfl,rfl⟩ isSubtype_stop ?_;exact zdo (q _ (((Heap.SameBut.update ..).extBut.push _).push _))
theorem Im(hA:A.handled=none)(I d:zdk)(n:d≠I)(es:Array DictEntry)(ep:Nat):Walks prog w A I [I,d] [I] es.size (fun i v=>∃e,es[i]?=some e/\v=e.key) (fun i h=>h.IsKeyIter I d i es.size ep/\iu h d es ep) where
 sub:=fun b hb=>zag.mpr (.inl (zar.mp hb))
 frame:=fun _ _ _ z k=>⟨z.1.at fun o e=>k I (by simp) o e,z.2.Ik fun o e=>k d (by simp) o e⟩
 item:=fun i s Q E hi z q=>CO z.1 z.2 hi fun h' a b=>q _ h' s.toks ⟨_,zbi hi,rfl⟩ ⟨a,z.2.Ik fun o e=>b.extBut d o n e⟩ fun c o nc e=>b.extBut c o (fun h=>nc (by simp[h])) e
 done:=fun s Q E z q=>Gy hA z.1 z.2 (zaf _) fun h' a=>q h' s.toks fun c o nc e=>a c o (fun h=>nc (by simp[h])) e
 self:=fun _ _ _ _ z q=>wpAny_pyIter_keyiter z.1 q
theorem N3(lo:(d==sysModules)=false):PySem.W.KdlSrc prog w "dict" d d es.size (fun i v=>∃e,es[i]?=some e/\v=e.key) (fun h=>iu h d es ep) where
 type:=fun _ m=>m.ty
 there:=fun _ m=>⟨m.lt,m.lt⟩
 keep:=fun _ _ m k=>m.Ik fun o e=>k d (.inl rfl) o e
 notList:=by decide
 notTuple:=by decide
 hint:=fun _ _ _ _ m q=>PySem.W.kdl_hint_dict m.ty q
 iter:=fun _ _ hA m=>⟨_,_,(fun _ _ q=>CN lo m q),Im hA _ d (zaD m.lt) es ep,⟨⟨_,Heap.get?_push_size _ rfl,rfl,rfl⟩,m.Ik fun o e=>Heap.get?_push_of_some _ e⟩⟩
end
section
variable{κ:Type}[DecidableEq κ]{J:KH κ}{X:Cx}
theorem xP(hc:X.calm=true):mm X (.type "list") (fun xs H Q=>∃(a:zdk) (ax:List (κ×V)),xs=[.ref a]/\DS J X.prog X.w X.K H a ax/\∀l us,H l=none->Paired (fun (p:κ×V) (v:V)=>∃b,v=.ref b/\J.on X.K H p.1 b) ax us->Q (.ref l) (upd H l (.lst us))):=by
 intro pins s σ H xs us Q I r h;obtain⟨a,ax,rfl,⟨z,sy,ks,e,rel,nd⟩,q⟩:=h;obtain⟨u,rfl,ru⟩:=vals1 r;cases (show u=Value.ref a from ru);obtain⟨o,es,ep,h1,h2,h3,h4,_,_⟩:=vR I e rel nd;have le:es.size=ax.length:=by rw[<- za7,h4,zad,Paired.length rel]
 have hA:X.A.handled=none:=I.ok.hd hc;refine PySem.W.kdl_call (N3 sy) hA (⟨o,h1,h2,h3⟩:iu s.heap a es ep) (by rw[le];exact z) fun h' tk acc c kp gl it=>?_;have key:∀(ax:List (κ×V)) (ks:List (κ×zdk×zdl)),KS J X.K H ax ks->Paired (fun (p:κ×V) (v:V)=>∃b,v=.ref b/\J.on X.K H p.1 b) ax (ks.map fun k=>V.ref k.2.1)/\Vals (ks.map fun k=>V.ref k.2.1) (ks.map fun k=>Value.ref k.2.1):=fun ax ks r=>by
  induction r with
  |nil=>exact⟨.nil,.nil⟩
  |cons x _ ih=>exact⟨.cons ⟨_,rfl,x.2.1⟩ ih.1,.cons rfl ih.2⟩
 obtain⟨k1,k2⟩:=key _ _ rel;have ea:acc.toList=ks.map fun k=>Value.ref k.2.1:=by
  have l1:acc.toList.length=ks.length:=by rw[za7,it.1,<- za7,h4,zad]
  refine List.ext_getElem? fun j=>?_;by_cases hj:j<ks.length
  ·have hj':j<acc.size:=by rw[<- za7,l1];exact hj
   obtain⟨e,he,hv⟩:=it.2 j acc[j] (zbi hj');rw[<- zaY,h4,zal,zac hj] at he;cases he;rw[zaY,zbi hj',hv,zal,zac hj];rfl
  ·rw[zbA (by lia),zbA (by rw[zad];lia)]
 refine⟨.ref s.heap.objs.size,_,I.laid (t':=tk) kp (zaf _) (show dg X.prog X.w _ h' _ (.lst (ks.map fun k=>V.ref k.2.1)) from ⟨?_,acc.toList,c,by rw[ea];exact k2,by simpa using gl⟩),rfl,q _ _ (I.cM.fresh (zaf _)) k1⟩;rw[zad,<- Paired.length rel];exact z
end
end L2
namespace PG
section
variable{β:Type}(ask:Int->Bool)(step:Int->List Int->Int->Option (Int×List Int)×Option Int)(tg:Int×List Int->List β)
abbrev cw:=Int×List Int
variable{ask step tg}
variable{s0 s s':cw×List Int}{ms ms':List β}{seen:List cw}
structure Seg(ask:Int->Bool)(step:Int->List Int->Int->Option (Int×List Int)×Option Int)(s:cw)(g:List cw):Prop where
 head:g[0]?=some s
 mid:∀i (h:i+1<g.length),g[i].1≠0/\ask g[i].1=false/\(step g[i].1 g[i].2 0).1=some g[i+1]
 last:∀x,g.getLast?=some x->x.1=0\/ask x.1=true\/(step x.1 x.2 0).1=none\/∃y∈g,(step x.1 x.2 0).1=some y
structure TI(ask:Int->Bool)(step:Int->List Int->Int->Option (Int×List Int)×Option Int)(s:cw)(g:List cw)(o:Option cw):Prop where
 nil:g=[]->o=some s
 head:g≠[]->g[0]?=some s
 mid:∀i (h:i+1<g.length),g[i].1≠0/\ask g[i].1=false/\(step g[i].1 g[i].2 0).1=some g[i+1]
 last:∀x,g.getLast?=some x->x.1≠0/\ask x.1=false/\(step x.1 x.2 0).1=o
section
variable{s x:cw}{g:List cw}{o:Option cw}
theorem TI.start:TI ask step s [] (some s):=⟨fun _=>rfl,fun h=>zzb rfl h,fun i h=>(by simp at h),fun x h=>(by simp at h)⟩
theorem TI.N4(h:TI ask step s g (some x)):(g++[x])[0]?=some s/\∀i (hi:i+1<(g++[x]).length),(g++[x])[i].1≠0/\ask (g++[x])[i].1=false/\(step (g++[x])[i].1 (g++[x])[i].2 0).1=some (g++[x])[i+1]:=by
 refine⟨?_,fun i hi=>?_⟩
 ·cases g with
  |nil=>exact h.nil rfl
  |cons a r=>exact h.head (by simp)
 ·simp only[zae,zax] at hi;have l1:i<g.length:=by lia
  rw[zcH l1];by_cases hl:i+1<g.length
  ·rw[zcH hl];exact h.mid i hl
  ·have ei:g.length-1=i:=by lia
   have hx:g.getLast?=some g[i]:=by rw[zcA,ei,zac l1]
   obtain⟨a,b,c⟩:=h.last _ hx;refine⟨a,b,?_⟩;rw[c,List.getElem_append_right (by lia)];simp
theorem TI.push(h:TI ask step s g (some x))(h0:x.1≠0)(ha:ask x.1=false):TI ask step s (g++[x]) (step x.1 x.2 0).1:=
 ⟨fun e=>(by simp at e),fun _=>h.N4.1,h.N4.2,fun y hy=>by simp only[zda,zcM,Option.some_or,zaO.injEq] at hy;subst hy;exact⟨h0,ha,rfl⟩⟩
theorem TI.stop(h:TI ask step s g (some x))(hx:x.1=0\/ask x.1=true):Seg ask step s (g++[x]):=
 ⟨h.N4.1,h.N4.2,fun y hy=>by
  simp only[zda,zcM,Option.some_or,zaO.injEq] at hy;subst hy;rcases hx with z |z
  ·exact .inl z
  ·exact .inr (.inl z)⟩
theorem TI.fin(h:TI ask step s g o)(ho:o=zdj\/∃x∈g,o=some x):Seg ask step s g:=by
 have ne:g≠[]:=fun e=>by
  have:=h.nil e;subst e;rcases ho with rfl |⟨x,hx,_⟩
  ·cases this
  ·cases hx
 refine⟨h.head ne,h.mid,fun y hy=>.inr (.inr ?_)⟩;obtain⟨_,_,c⟩:=h.last y hy;rcases ho with rfl |⟨x,hx,rfl⟩
 ·exact .inl c
 ·exact .inr ⟨x,hx,c⟩
end
end
theorem Ac{α:Type}[DecidableEq α]:∀(xs ys:List α),xs.Nodup->(∀x∈xs,x∈ys)->xs.length<=ys.length
 |[],ys,_,_=>zaZ _
 |x::r,ys,h,q=>by
  obtain⟨nx,nr⟩:=zaE.mp h;have hx:=q x (zaq ..);have:=Ac r (ys.erase x) nr fun y hy=>(List.mem_erase_of_ne (fun e:y=x=>nx (e▸hy))).mpr (q y (zat _ hy));have l:=List.length_erase_of_mem hx;have p:=List.length_pos_of_mem hx;simp only[zah];lia
noncomputable def vj:List Int->List (List Int)
 |[]=>[[]]
 |s::r=>(zaH s.toNat).flatMap fun (v:Nat)=>(vj r).map fun t=>((v:Int)::t)
def qN:List Int->List Int->Prop
 |[],[]=>True
 |s::r,v::t=>(0<=v/\v<s)/\qN r t
 |[],_::_=>False
 |_::_,[]=>False
theorem qN.mem:∀ {ss vs:List Int},qN ss vs->vs∈vj ss
 |[],[],_=>by simp[vj]
 |s::r,v::t,h=>by
  rw[qN] at h;simp only[vj,zbc,zb3,zaF];exact⟨v.toNat,by lia,t,h.2.mem,by rw[zdf h.1.1]⟩
 |[],v::t,h=>by rw[qN] at h;exact h.elim
 |s::r,[],h=>by rw[qN] at h;exact h.elim
theorem qN.set:∀ {ss vs:List Int} (i:Nat) (v:Int),qN ss vs->(∀s,ss[i]?=some s->0<=v/\v<s)->qN ss (vs.set i v)
 |[],[],i,v,h,_=>h
 |s::r,u::t,0,v,h,q=>by
  rw[qN] at h;rw[List.set_cons_zero,qN];exact⟨q s rfl,h.2⟩
 |s::r,u::t,i+1,v,h,q=>by
  rw[qN] at h;rw[List.set_cons_succ,qN];exact⟨h.1,h.2.set i v fun z hz=>q z (by simpa using hz)⟩
 |[],u::t,i,v,h,q=>by rw[qN] at h;exact h.elim
 |s::r,[],i,v,h,q=>by rw[qN] at h;exact h.elim
def univ (rows ss:List Int):List cw:=(0::rows).flatMap fun r=>(vj ss).map fun v=>(r,v)
theorem Li{rows ss:List Int}{s:cw}(h:s.1=0\/s.1∈rows)(q:qN ss s.2):s∈univ rows ss:=by
 simp only[univ,zbc,zaF,zag];exact⟨s.1,h,s.2,q.mem,rfl⟩
theorem Lj(rows ss:List Int):(univ rows ss).length=(rows.length+1)*(vj ss).length:=by
 have k:∀l:List Int,(l.flatMap fun r=>(vj ss).map fun v=>((r,v):cw)).length=l.length*(vj ss).length:=fun l=>by
  induction l with
  |nil=>simp
  |cons a r ih=>rw[zaG,zae,ih];simp[Nat.succ_mul,Nat.add_comm]
 rw[univ,k];simp
end PG
namespace L2
open PG
open PySem
def FH (K:zaa) (x:Str) (st:Stmt) (f:zdk):Prop:=zaN K zdr x=some (some (.ref f))/\∃fd,I0 K x x st f fd
theorem FH.of{K:zaa}{x:Str}{st:Stmt}{f:zdk}{oc:zdl}{od an:Option zdk}{FN:Array (Option zdl)}{kV doc pm eT ct:zdl}(a:zaN K zdr x=some (some (.ref f)))(l:K.lookup f=some ⟨oc,od,.func (zbs x x (kX st) (hC st) (aJ st) .none kV doc pm an eT ct),FN⟩)
 (c:zb5 K eT x=true) (k:zbv K (.ref f)=true):FH K x st f:=⟨a,_,JM l c k⟩
theorem Gz{α:Type}{P:List α->Prop}(h:∀a,P [a])(us:List α)(e:us.length=1):P us:=match us,e with |[a],_=>h a
theorem yU{α:Type}{P:List α->Prop}(h:∀a b,P [a,b])(us:List α)(e:us.length=2):P us:=match us,e with |[a,b],_=>h a b
theorem Rr{α:Type}{P:List α->Prop}(h:∀a b c,P [a,b,c])(us:List α)(e:us.length=3):P us:=match us,e with |[a,b,c],_=>h a b c
theorem bn4{α:Type}{P:List α->Prop}(h:∀a b c d,P [a,b,c,d])(us:List α)(e:us.length=4):P us:=match us,e with |[a,b,c,d],_=>h a b c d
theorem bn5{α:Type}{P:List α->Prop}(h:∀a b c d f,P [a,b,c,d,f])(us:List α)(e:us.length=5):P us:=match us,e with |[a,b,c,d,f],_=>h a b c d f
theorem lU{K:zaa}{mg:Str->Option zdl}{h:Heap}{x:Str}{st:Stmt}{f:zdk}{ps:List Str}(X:K.In h)(G:h.Ns zdr mg)(q:FH K x st f)
 (b:∀(kV doc pm:zdl) (an:Option zdk) (eT ct:zdl) (us:List zdl),us.length=ps.length->bindArgs (zbs x x (kX st) (hC st) (aJ st) .none kV doc pm an eT ct) ⟨us,[]⟩=pure (ps.zip us)):∃fd,b8 K mg x st ps f fd:=
 let ⟨a,fd,F⟩:=q
 ⟨fd,F,F.binds b,zbE X G a⟩
theorem MP{A:zdv}{k:Nat}(hr:ib k A):A.units+16<cLine:=by have:=Nz hr;lia
theorem Lk{CX:BM}{P:zdw}{w:zdm}{K:zaa}{mg:Str->Option zdl}{base:Heap}{N:List Str}{qual:Str}{scope:Scope}{f:zdk}{cd:zdl}{A:zdv}{outer:List Env}{s:zdu}{H:Hp}{E:XK}:(mX CX P w K mg base N qual scope f cd A outer s H E).prog=P:=rfl
theorem Ll{CX:BM}{P:zdw}{w:zdm}{K:zaa}{mg:Str->Option zdl}{base:Heap}{N:List Str}{qual:Str}{scope:Scope}{f:zdk}{cd:zdl}{A:zdv}{outer:List Env}{s:zdu}{H:Hp}{E:XK}:(mX CX P w K mg base N qual scope f cd A outer s H E).w=w:=rfl
theorem N6{tt:TT}{a b:TS}{D:Ends}{σ:St}{H:Hp}(h:∀U:St->Hp->Prop,(∀σ' H',U σ' H'↔a D σ' H')->tt σ H fun c H1=>if c=true then U σ H1 else b D σ H1):G4 tt a b D σ H:=h (a D) fun _ _=>Iff.rfl
def YG (K:zaa):R2:=fun x y H Q=>∃d es,Rep K H d x/\Rep K H (.lst es) y/\d.py.canLay0=true/\PyData.canLayAll0 (Dp.uR es)=true/\d.py.depth<=60/\Q (.bl ((Dp.uR es).any fun e=>PyData.eqv e d.py)) H
theorem Rt{X:Cx}(hu:X.A.units+64<cLine):rK X (compareOp .In) (YG X.K):=by
 intro pins s σ H x y v u Q I rx ry h;obtain⟨d,es,h1,h2,c1,c2,hd,q⟩:=h;obtain⟨as,ra⟩:=oX I h1 rx;obtain⟨bs,rb⟩:=oX I h2 ry;rw[show (Dp.lst es).py=PyData.list (Dp.uR es) from by rw[Dp.py]] at rb;exact SeqAt.in_list_reads rb ra c2 c1 (by have:=Nat.min_le_right (PyData.depthAll (Dp.uR es)) d.py.depth;lia) ⟨.bl _,H,I,rfl,q⟩
theorem N9{α:Type}{xs:List α}{v:α}(h:xs[xs.length-1]?=some v):tw xs (-1)=some v:=by
 rw[<- zcA] at h;obtain⟨ys,rfl⟩:=List.getLast?_eq_some_iff.mp h;exact ju _ _
def pI:Tg->List Key
 |.row k=>[.inr "row",.inl k]
 |.side k b=>[.inr "side",.inl k,.inl (tN b)]
 |.cu k=>[.inr "must",.inl k]
 |.fin=>[.inr "end"]
theorem Io{a b:Tg}(h:pI a=pI b):a=b:=by
 have s1:(zab "row":Str)≠zab "must":=by decide +kernel
 cases a<;>cases b<;>simp only[pI,zdi.injEq,Sum.inl.injEq,Sum.inr.injEq,and_true,reduceCtorEq,and_false] at h
 ·rw[h.2]
 ·exact zzb h.1 s1
 ·obtain⟨_,rfl,e⟩:=h;have e:=(beq_iff_eq (α:=Int)).mpr e;rw[Lf] at e;rw[beq_iff_eq.mp e]
 ·exact zzb h.1.symm s1
 ·rw[h.2]
 ·rfl
theorem Py{K:zaa}{H:Hp}{g:Tg}{v:V}(h:Rep K H (eS g) v):∃a,v=.ref a/\Il.on K H (pI g) a:=by
 have k:∀k:Key,WE k (kV k):=fun k=>.inl rfl;cases g with
 |row k=>
  simp only[eS,Rep.bg,aN.aI,aN.br,Rep.bA,Rep.bt] at h;obtain⟨a,ys,rfl,hS,_,_,rfl,rfl,_,_,rfl,rfl,rfl⟩:=h;exact⟨a,rfl,_,hS,.cons (.inl rfl) (.cons (.inl rfl) .nil)⟩
 |side k b=>
  simp only[eS,Rep.bg,aN.aI,aN.br,Rep.bA,Rep.bt,Rep.lP] at h;obtain⟨a,ys,rfl,hS,_,_,rfl,rfl,_,_,rfl,rfl,_,_,rfl,rfl,rfl⟩:=h;exact⟨a,rfl,_,hS,.cons (.inl rfl) (.cons (.inl rfl) (.cons (.inr ⟨b,rfl,rfl⟩) .nil))⟩
 |cu k=>
  simp only[eS,Rep.bg,aN.aI,aN.br,Rep.bA,Rep.bt] at h;obtain⟨a,ys,rfl,hS,_,_,rfl,rfl,_,_,rfl,rfl,rfl⟩:=h;exact⟨a,rfl,_,hS,.cons (.inl rfl) (.cons (.inl rfl) .nil)⟩
 |fin=>
  simp only[eS,Rep.bg,aN.aI,aN.br,Rep.bA] at h;obtain⟨a,ys,rfl,hS,_,_,rfl,rfl,rfl⟩:=h;exact⟨a,rfl,_,hS,.cons (.inl rfl) .nil⟩
noncomputable def nG (s:cw):kS:=(.inl s.1,s.2.map .inl)
theorem xQ{a b:cw}(h:nG a=nG b):a=b:=by
 obtain⟨a1,a2⟩:=a;obtain⟨b1,b2⟩:=b;simp only[nG,Prod.mk.injEq,Sum.inl.injEq] at h;obtain⟨rfl,h⟩:=h;have h:=(List.map_inj_right (fun x y (e:(Sum.inl x:Key)=.inl y)=>Sum.inl.inj e)).mp h;rw[h]
theorem Ae(l:List Int):(l.map (Sum.inl:Int->Key)).map kV=l.map V.int:=by rw[zbj];rfl
theorem Ag{K:zaa}{H:Hp}{a:zdk}{s:cw}(h:cD K H a s.1 s.2):jN.on K H (nG s) a:=let ⟨b,h1,h2⟩:=h;⟨b,h1,by rw[nG,Ae];exact h2⟩
theorem ER{K:zaa}{H:Hp}{a:zdk}{s:cw}(h:jN.on K H (nG s) a):cD K H a s.1 s.2:=let ⟨b,h1,h2⟩:=h;⟨b,h1,by rw[nG,Ae] at h2;exact h2⟩
def qO (l:List cw):List (kS×V):=l.map fun s=>(nG s,V.bl true)
theorem CP(l:List cw)(s:cw):(cf (qO l) (nG s)).isSome=decide (s∈l):=by
 induction l with
 |nil=>rfl
 |cons a r ih=>
  rw[qO,zam];by_cases e:a=s
  ·rw[cg (by rw[e]),e];simp
  ·rw[ck (fun z=>e (xQ z))];refine(show _=_ from ih).trans ?_;simp[Ne.symm e]
theorem Ip{l:List cw}{s:cw}(h:s ∉ l):putK (qO l) (nG s) (.bl true)=qO (l++[s]):=by
 unfold putK;rw[kz,CP,decide_eq_false h,zzn zai];simp[qO]
theorem Ru(a b:Tg):PyData.eqv (eS a).py (eS b).py=decide (a=b):=by
 have s1:(zab "row"==zab "must")=false:=by decide +kernel
 have s2:(zab "must"==zab "row")=false:=by decide +kernel
 have i1:∀x y:Int,(x==y)=decide (x=y):=fun x y=>rfl;have i2:∀x y:Bool,(x==y)=decide (x=y):=fun x y=>by cases x<;>cases y<;>rfl
 cases a<;>cases b<;>simp[eS,Dp.py,Dp.uR,PyData.eqv,PyData.eqvAll,s1,s2,i1,i2]
theorem Rv(l:List Tg)(t:Tg):((Dp.uR (l.map eS)).any fun e=>PyData.eqv e (eS t).py)=decide (t∈l):=by
 induction l with
 |nil=>rfl
 |cons a r ih=>
  rw[zam,Dp.uR,zbW,ih,Ru];by_cases e:a=t
  ·simp[e]
  ·simp[e,Ne.symm e]
theorem Lm(t:Tg):(eS t).py.canLay0=true/\(eS t).py.depth<=60:=by
 have:=EA [t];simp only[zam,za2,Dp.uR,PyData.canLayAll0,PyData.depthAll,zdb] at this;exact⟨this.1,by lia⟩
section
variable{κ:Type}[DecidableEq κ]{J:KH κ}{P:zdw}{w:zdm}{K:zaa}{H H':Hp}{a b p C dx:zdk}{ax:List (κ×V)}{φ:Heap->Prop}{fs:List (Str×V)}{xs:List V}
theorem DS.nH(d:DS J P w K H a ax):∃φ,H a=some (.ext φ):=let ⟨xs,h,_⟩:=d.at_;⟨_,h⟩
theorem bQ.lV(h:bQ K H a xs)(hb:H b=some (.ext φ))(u:aZ b H H'):bQ K H' a xs:=by
 rcases h with (q |⟨o',q⟩) |q
 ·exact .inl (.inl (u _ _ (bU q hb (by intro z;cases z)) q))
 ·exact .inl (.inr ⟨o',u _ _ (bU q hb (by intro z;cases z)) q⟩)
 ·exact .inr q
theorem DS.other(d:DS J P w K H a ax)(hb:H b=some (.ext φ))(n:a≠b)(u:aZ b H H'):DS J P w K H' a ax:=d.Ik (fun o h=>u _ _ n h) fun c ys q=>q.lV hb u
theorem cD.ext{row:Int}{vals:List Int}(h:cD K H a row vals)(hb:H b=some (.ext φ))(u:aZ b H H'):cD K H' a row vals:=let ⟨va,h1,h2⟩:=h;⟨va,h1.lV hb u,h2.lV hb u⟩
end
theorem wO{K:zaa}{H H':Hp}{l:zdk}{ys:List V}{d:Dp}{v:V}(hl:H l=some (.lst ys))(u:aZ l H H')(hn:HN d=true)(r:Rep K H d v):Rep K H' d v:=zZ (O:=(·=l)) (fun g e=>⟨ys,e▸hl⟩) (ba.one u rfl) d v hn r
theorem Ln{K:zaa}{H H':Hp}{l:zdk}{ys:List V}{ds:List Dp}{vs:List V}(hl:H l=some (.lst ys))(u:aZ l H H')(hn:pA ds=true)(r:aN K H ds vs):aN K H' ds vs:=rQ (O:=(·=l)) (fun g e=>⟨ys,e▸hl⟩) (ba.one u rfl) ds vs hn r
theorem GA:∀l:List Tg,pA (l.map eS)=true
 |[]=>rfl
 |g::r=>by
  rw[zam,pA,GA r];cases g<;>rfl
theorem Iq{D:zdk}{H H':Hp}(s:aq H H'):aq (oM D H) (oM D H'):=fun b o h=>by
 obtain⟨n,e⟩:=wN h;rw[nE n];exact s _ _ e
theorem bQ.oM{K:zaa}{D a:zdk}{H:Hp}{xs ys:List V}(h:bQ K H a xs)(hD:H D=some (.lst ys)):bQ K (oM D H) a xs:=by
 rcases h with (q |⟨o,q⟩) |q
 ·exact .inl (.inl (by rw[nE (bU q hD (by intro z;cases z))];exact q))
 ·exact .inl (.inr ⟨o,by rw[nE (bU q hD (by intro z;cases z))];exact q⟩)
 ·exact .inr q
theorem cD.oM{K:zaa}{D a:zdk}{H:Hp}{row:Int}{vals:List Int}{ys:List V}(h:cD K H a row vals)(hD:H D=some (.lst ys)):cD K (oM D H) a row vals:=let ⟨va,h1,h2⟩:=h;⟨va,h1.oM hD,h2.oM hD⟩
noncomputable def jO (pr:PG.Prog):List Int:=pr.ay.map (·.size)
def GB (pr:PG.Prog):List Int:=(az pr.body).map (·.row)
def bq (pr:PG.Prog):Nat:=(PG.univ (GB pr) (jO pr)).length
structure cU(pr:PG.Prog)(s:cw):Prop where
 ok:CK pr s.1 s.2
 inv:PG.qN (jO pr) s.2
theorem cU.mem{pr:PG.Prog}{s:cw}(h:cU pr s):s∈PG.univ (GB pr) (jO pr):=by
 refine Li ?_ h.inv;rcases h.ok.row with e |⟨i,hi,e⟩
 ·exact .inl e
 ·exact .inr (zaF.mpr ⟨_,zau hi,e⟩)
theorem iG{pr:PG.Prog}{l:List cw}(nd:l.Nodup)(h:∀s∈l,cU pr s):l.length<=bq pr:=Ac l _ nd fun s hs=>(h s hs).mem
theorem qN.first:∀ {bs:List gm},(∀b∈bs,2<=b.size/\b.size<=10/\0<=b.first/\b.first<b.size)->PG.qN (bs.map (·.size)) (bs.map (·.first))
 |[],_=>trivial
 |b::r,h=>by
  simp only[zam,PG.qN];have:=h b (zaq ..);exact⟨⟨by lia,by lia⟩,qN.first fun x hx=>h x (zat _ hx)⟩
theorem cU.first{pr:PG.Prog}(d:i5 pr):cU pr (bj pr.body 0,pr.ay.map (·.first)):=⟨d.first,qN.first d.size⟩
theorem qN.tU{pr:PG.Prog}(d:i5 pr){vals:List Int}(h:PG.qN (jO pr) vals){b:W}(hb:b∈pr.ay.map (·.name))(z:Int):PG.qN (jO pr) (tU pr.ay vals b (z%eQ pr.ay b)):=by
 refine h.set _ _ fun s hs=>?_;obtain⟨hx,_⟩:=kC hb;have e:eQ pr.ay b=s:=by
  unfold eQ;rw[jO,zal,zac hx] at hs;rw[zac hx];exact zaO.inj hs
 have:=CL d hb;rw[e] at this ⊢;exact⟨zaP z (by lia),zaM z (by lia)⟩
theorem qN.step{pr:PG.Prog}(d:i5 pr){st:bI}(ok:xx (·∈pr.ay.map (·.name)) (fun e=>jx pr.ay e/\qi e<=2) (·∈BO) st){ws vals:List Int}{f:Int}(h:PG.qN (jO pr) vals){x:cw}(e:(lC pr.ay st ws vals f).1=some x):PG.qN (jO pr) x.2:=by
 have cs:iF pr.ay st ws vals=some x->PG.qN (jO pr) x.2:=by
  intro e;unfold iF at e;split at e
  ·cases e
  ·split at e
   ·cases e;exact h
   ·split at e
    ·cases e
    ·cases e;exact h
 cases st<;>rw[xx] at ok
 ·cases e;exact qN.tU d h ok _
 ·cases e;exact qN.tU d h ok.1 _
 ·cases e;exact h
 ·exact cs e
 ·cases e;exact h
 ·exact cs e
 ·exact cs e
theorem CQ{pr:PG.Prog}(ok:CI pr){i:Nat}(hi:i<(az pr.body).length)(hf:i<(aQ pr.body 0).length)(vals:List Int)(f:Int):bZ pr (az pr.body)[i].row vals f=lC pr.ay (az pr.body)[i] (aQ pr.body 0)[i].2.2 vals f:=by
 unfold bZ;rw[nF ok.pw i hi,Gw ok.pw i hi hf]
theorem cU.next{pr:PG.Prog}(d:i5 pr){s x:cw}(h:cU pr s)(h0:s.1≠0){f:Int}(e:(bZ pr s.1 s.2 f).1=some x):cU pr x:=by
 obtain⟨row,vals⟩:=s;obtain⟨i,hi,rfl⟩:=h.ok.row.resolve_left h0;obtain⟨hf,_,_⟩:=gW pr.body i hi;rw[CQ d.ok hi hf] at e;refine⟨?_,qN.step d (je pr.body _ d.own (zau hi)) h.inv e⟩;rcases hs:lC pr.ay (az pr.body)[i] (aQ pr.body 0)[i].2.2 vals f with ⟨o,sd⟩
 rw[hs] at e;exact CK.step d hi hf h.ok.len h.ok.small (by rw[hs];exact congrArg (·,sd) e)
theorem xR{pr:PG.Prog}(row:Int)(vals:List Int)(f:Int)(h:dq pr.body row=true):(bZ pr row vals f).1≠none:=by
 unfold dq at h;unfold bZ;obtain⟨k,b,e⟩:∃k b,xN pr.body row=.ask k b:=by
  generalize xN pr.body row=st at h;cases st<;>first |exact⟨_,_,rfl⟩ |(have h:=of_decide_eq_true h;cases h)
 rw[e];intro z;cases z
theorem tY{pr:PG.Prog}(ok:CI pr):dq pr.body 0=false:=by
 unfold dq xN KD;have:(az pr.body).findIdx (fun s=>s.row==0)=(az pr.body).length:=List.findIdx_eq_length.mpr fun x hx=>by
  have:=ok.pos x hx;simp only[beq_eq_false_iff_ne,ne_eq];lia
 rw[this,zbA (zaf _)];rfl
def oB (pr:PG.Prog) (s:cw):List Tg:=if s.1=0 then [.fin] else match pH (xN pr.body s.1) with
 |none=>[.row s.1]
 |some (sg,l,r)=>if (xN pr.body s.1).wd=.cu then (if gU sg (wv pr.ay s.2 l) (wv pr.ay s.2 r) then [.row s.1] else [.row s.1,.cu s.1]) else [.row s.1,.side s.1 (gU sg (wv pr.ay s.2 l) (wv pr.ay s.2 r))]
theorem Oa(pr:PG.Prog)(s:cw):(oB pr s).length<=2:=by
 unfold oB;split
 ·simp
 ·split
  ·simp
  ·split
   ·split<;>simp
   ·simp
structure eW(K:zaa)(H:Hp)(md:zdk)(pr:PG.Prog):Prop where
 at_:∃(B d8 wy fa:zdk) (us:List V) (ax:List (Key×V)),i6 K H md [.ref B,.ref d8,.ref wy,.ref fa]/\Rep K H (.lst (pr.ay.map jy)) (.ref B)/\H d8=some (.dK (cT (az pr.body) us))/\us.length=(az pr.body).length/\aN K H ((az pr.body).map eI) us/\
  H wy=some (.dK ax)/\(∀i (hi:i<(aQ pr.body 0).length),∃y,cf ax (.inl (aQ pr.body 0)[i].1)=some (.ref y)/\bQ K H y ((aQ pr.body 0)[i].2.2.map V.int))/\cD K H fa (bj pr.body 0) (pr.ay.map (·.first))
theorem eW.mono{K:zaa}{H H':Hp}{md:zdk}{pr:PG.Prog}(m:eW K H md pr)(s:aq H H'):eW K H' md pr:=by
 obtain⟨B,d8,wy,fa,us,ax,h1,h2,h3,h4,h5,h6,h7,h8⟩:=m.at_;exact⟨⟨B,d8,wy,fa,us,ax,s.seq h1,h2.mono s,s _ _ h3,h4,h5.mono s,s _ _ h6,fun i hi=>let ⟨y,e,k⟩:=h7 i hi;⟨y,e,s.a7 k⟩,h8.mono s⟩⟩
theorem eW.row{K:zaa}{H:Hp}{md:zdk}{pr:PG.Prog}(m:eW K H md pr)(ok:CI pr){i:Nat}(hi:i<(az pr.body).length)(hf:i<(aQ pr.body 0).length) :
 ∃(B d8 wy fa ta y:zdk) (us ys:List V) (ax:List (Key×V)),i6 K H md [.ref B,.ref d8,.ref wy,.ref fa]/\Rep K H (.lst (pr.ay.map jy)) (.ref B)/\H d8=some (.dK (cT (az pr.body) us))/\cf (cT (az pr.body) us) (.inl (az pr.body)[i].row)=some (.ref ta)/\Rep K H (eI (az pr.body)[i]) (.ref ta)/\bQ K H ta (.str (fZ (az pr.body)[i].wd)::ys)/\
  H wy=some (.dK ax)/\cf ax (.inl (az pr.body)[i].row)=some (.ref y)/\bQ K H y ((aQ pr.body 0)[i].2.2.map V.int):=by
 obtain⟨B,d8,wy,fa,us,ax,h1,h2,h3,h4,h5,h6,h7,h8⟩:=m.at_;obtain⟨v,hv,rv⟩:=h5.get (i:=i) (d:=eI (az pr.body)[i]) (by rw[zal,zac hi];rfl);have g:=pC _ _ h4 ok.pw i hi v hv;obtain⟨ta,ys,rfl,Ob⟩:=iq _ rv;obtain⟨y,e,k⟩:=h7 i hf;obtain⟨_,e1,_⟩:=gW pr.body i hi;rw[e1] at e;exact⟨B,d8,wy,fa,ta,y,us,_,ax,h1,h2,h3,g,rv,Ob,h6,e,k⟩
section
variable(P:zdw)(w:zdm)(K:zaa)(CC:zdk)
def GC (H:Hp) (l:zdk) (us:List V) (ts:List Tg):Prop:=H l=some (.lst us)/\aN K H (ts.map eS) us
def Rw:Sp:=fun vs H Q _=>∃(ch sa:zdk) (pr:PG.Prog) (s:cw),vs=[.ref ch,.ref sa]/\wL K CC H ch pr/\i5 pr/\cD K H sa s.1 s.2/\cU pr s/\
 ∀l us H',aq H H'->H l=none->GC K H' l us (oB pr s)->Q (.ref l) H'
def Rx:Sp:=fun vs H Q _=>∃(pa R D:zdk) (ys:List V) (pr:PG.Prog) (rows:List PG.Row),vs=[.ref pa,.ref R]/\H D=some (.lst ys)/\i5 pr/\Rep K (oM D H) (kB pr) (.ref pa)/\Rep K H (.lst (rows.map mw)) (.ref R)/\rows.length<=1000/\cG pr.body rows/\
 ∀md H',aq H H'->eW K (oM D H') md pr->Q (.ref md) H'
def Lo:Sp:=fun vs H Q _=>∃(md sa:zdk) (fv:V) (pr:PG.Prog) (s:cw) (f:Int),vs=[.ref md,.ref sa,fv]/\eW K H md pr/\i5 pr/\cD K H sa s.1 s.2/\cU pr s/\s.1≠0/\(dq pr.body s.1=true->fv=.int f)/\
 ∀v H',aq H H'->qM K H' (bZ pr s.1 s.2 f).1 v->Q v H'
def Oc:Sp:=fun vs H Q _=>∃(md sa:zdk) (pr:PG.Prog) (s:cw),vs=[.ref md,.ref sa]/\eW K H md pr/\i5 pr/\cD K H sa s.1 s.2/\cU pr s/\Q (.bl (dq pr.body s.1)) H
def Ry:Sp:=fun vs H Q _=>∃(md sa:zdk) (pr:PG.Prog) (s:cw),vs=[.ref md,.ref sa]/\eW K H md pr/\i5 pr/\cD K H sa s.1 s.2/\cU pr s/\
 ∀l us H',aq H H'->H l=none->GC K H' l us (oB pr s)->Q (.ref l) H'
def iH (H:Hp) (g:List cw) (us:List V):Prop:=Paired (fun (s:cw) v=>∃a,v=.ref a/\cD K H a s.1 s.2) g us
end
theorem Lp{K:zaa}{H:Hp}:∀ {g:List cw} {us:List V},Paired (fun (p:kS×V) (v:V)=>∃b,v=.ref b/\jN.on K H p.1 b) (qO g) us->iH K H g us
 |[],_,h=>by cases h;exact .nil
 |s::r,_,h=>by
  cases h with
  |cons h1 h2=>
   obtain⟨b,e,o⟩:=h1;exact .cons ⟨b,e,ER o⟩ (Lp h2)
theorem iH.at{K:zaa}{H:Hp}{g:List cw}{us:List V}(h:iH K H g us):us.length=g.length/\∀(i:Nat) (s:cw),g[i]?=some s->∃a,us[i]?=some (V.ref a)/\cD K H a s.1 s.2:=by
 unfold iH at h
 induction h with
 |nil=>exact⟨rfl,fun i s h=>by simp at h⟩
 |@cons x y l1 l2 z t ih=>
  obtain⟨a,e,q⟩:=z;obtain⟨l,g⟩:=ih;refine⟨by simp[l],fun i s h=>?_⟩;cases i with
  |zero=>simp at h;subst h;exact⟨a,by simp[e],q⟩
  |succ i=>simp at h;obtain⟨b,hb,k⟩:=g i s h;exact⟨b,by simp[hb],k⟩
theorem iH.mono{K:zaa}{H H':Hp}{g:List cw}{us:List V}(h:iH K H g us)(s:aq H H'):iH K H' g us:=Paired.Av h fun _ _ ⟨a,e,q⟩=>⟨a,e,q.mono s⟩
open PyProof.Rows
theorem Lq{J:It}{D:zdk}{g:TG}{te:TE}{Q:VK}{τ0:St}{H:Hp}(G:St->Prop)(xs:List V)(Pv:Nat->List V->Hp->Prop)
 (go:∀i H2,aq H H2->i<xs.length->J.go i H2) (stop:∀H2,aq H H2->J.stop xs.length H2) (zz:∀i H2 x H3,aq H H2->i<xs.length->J.zz i H2 x H3->H3=H2/\xs[i]?=some x)
 (hl:xs.length<=16000000) (hD:H D=none) (g0:G τ0) (h0:Pv 0 [] (upd H D (.lst [])))
 (step:∀i x ys τ H2,xs[i]?=some x->G τ->aq H H2->H2 D=some (.lst ys)->ys.length=i->Pv i ys H2->∀R:St->VK,(∀τ' v H3,G τ'->aq H2 H3->Pv (i+1) (ys++[v]) (upd H3 D (.lst (ys++[v])))->R τ' v H3)->g x τ H2 fun τ' H'=>te τ' H' (R τ'))
 (q:∀ys H2,aq H H2->H2 D=some (.lst ys)->ys.length=xs.length->Pv xs.length ys H2->Q (.ref D) H2):vM J D g AM te Q τ0 (upd H D (.lst [])):=by
 refine⟨fun i m τ H2=>m=xs.length-i/\i<=xs.length/\G τ/\aq H H2/\∃ys,H2 D=some (.lst ys)/\ys.length=i/\Pv i ys H2,⟨xs.length,by simp,zaZ _,g0,aq.new hD _,[],ae,rfl,h0⟩,?_⟩
 rintro i m τ H2 ⟨rfl,hi,gt,s2,ys,h2,ly,p2⟩
 by_cases oy:i<xs.length
 ·refine .inr ⟨go i H2 s2 oy,fun τ' H'=>G τ'/\aq H H'/\∃ys,H' D=some (.lst ys)/\ys.length=i+1/\Pv (i+1) ys H',fun τ' H' ⟨h1,h3,h4⟩=>⟨xs.length-(i+1),by lia,rfl,oy,h1,h3,h4⟩,fun y H' hy=>?_⟩;obtain⟨rfl,ey⟩:=zz i H2 y H' s2 oy hy;simp only[AM,if_true];refine step i y ys τ _ ey gt s2 h2 ly p2 (fun τ' v H4=>_) fun τ' v H3 gt' s3 p3=>⟨ys,s3 _ _ h2,?_,gt',?_,ys++[v],ae,by simp[ly],p3⟩
  ·have:zds=2 ^ 24:=rfl;lia
  ·intro b o e;rw[aw (ai e hD)];exact s3 _ _ (s2 _ _ e)
 ·have e:i=xs.length:=by lia
  subst e;exact .inl ⟨stop H2 s2,q ys H2 s2 h2 ly p2⟩
theorem Lr{K:zaa}{ta:TA}{g:TG}{tb:TS}{D:Ends}{σ:St}{H:Hp} (h:∀U:zdk->Hp->Prop,(∀a H1,(∃W:Nat->Nat->St->Hp->Prop,(∃m,W 0 m σ H1)/\∀i m σ H,W i m σ H->
 ((Pk K a).stop i H/\D.nx σ H)\/((Pk K a).go i H/\∃N:St->Hp->Prop,(∀σ' H',N σ' H'->∃m',m'<m/\W (i+1) m' σ' H')/\∀x H',(Pk K a).zz i H x H'->g x σ H' fun σ2 H2=>tb {D with nx:=N,ct:=N,bk:=D.nx} σ2 H2))->U a H1)->
 ta σ H fun vs H1=>∃a,vs=[.ref a]/\(∃xs,i6 K H1 a xs)/\U a H1):G8 (Pl K ta) g tb D σ H:=h _ fun _ _ x=>x
section
variable{prog:zdw}{w:zdm}{A:zdv}{E:zdl->zdu->Prop}{s:zdu}{d:zdk}{es:Array DictEntry}{ep:Nat}
theorem Ls(hd:(d==sysModules)=false) :
 MeetsIn prog w (Builtin.«dict.__len__» ⟨[.ref d],[]⟩) (fun _ R s=>∃es ep,iu s.heap d es ep/\R (.ok (.ret (.int es.size s.toks))) {s with toks:=s.toks+1}):=by
 refine .of_wp fun A R s hh=>?_;obtain⟨es,ep,⟨o,g,_,YH⟩,h⟩:=hh;show wpAny _ _ (dictSize d >>= _) _ _ s;unfold dictSize;refine zdn (zdn (wpAny_dictEntries g YH (zdo ?_)));show wpAny _ _ (Builtin.Dict.pendingCount d >>= _) _ _ s;refine zdn (wpAny_pendingCount_other hd (wpAny_ret_mkInt ?_));rw[Nat.add_zero];exact h
theorem Od{Q:zdl->zdu->Prop}(hd:(d==sysModules)=false)(x:iu s.heap d es ep)(adC:(es.size:Int)<2 ^ 63)(h:Q (.int es.size (s.toks+1)) {s with toks:=s.toks+1+1}):wpAny (model prog w) A (call (.builtin "len") [.ref d]) Q E s:=by
 refine Calls.call_function_entry kind_len plain_len entry_len (args_len1 _) ?_;unfold Builtin.«len»;refine zdn (m:=oneArg "len" _) (zdo ?_);refine zdn (m:=callSpecial? (.ref d) (zab "__len__")) (wpAny_callSpecial?_slot (name:=zab "__len__") x.ty F.slot_dict_len
  (call_meetsIn F.slot_dict_len x.ty F.entry_dict_len (F.args_dict_len_1 _) (Ls hd) ⟨es,ep,x,?_⟩))
 show wpAny _ _ _ _ _ {s with toks:=s.toks+1};refine zdn (zdp (zdo (zdn (wpAny_letGo ?_))));show wpAny _ _ (if ((es.size:Nat):Int)<0 then _ else _) _ _ _;rw[zzn (by first|decide|omega)];show wpAny _ _ (if ((es.size:Nat):Int) ≥ 2 ^ 63 then _ else _) _ _ _;rw[zzn (by first|decide|omega)];exact zdn (wpAny_mkInt (zdo ⟨_,rfl,h⟩))
end
section
variable{κ:Type}[DecidableEq κ]{J:KH κ}{X:Cx}
theorem Ir:mm X (.builtin "len") (fun xs H Q=>∃(a:zdk) (ax:List (κ×V)),xs=[.ref a]/\DS J X.prog X.w X.K H a ax/\Q (.int ax.length) H):=by
 intro pins s σ H xs us Q I r h;obtain⟨a,ax,rfl,⟨z,sy,ks,e,rel,nd⟩,q⟩:=h;obtain⟨u,rfl,ru⟩:=vals1 r;cases (show u=Value.ref a from ru);obtain⟨o,es,ep,h1,h2,h3,h4,_,_⟩:=vR I e rel nd;have le:es.size=ax.length:=by rw[<- za7,h4,zad,Paired.length rel]
 have line:zds=2 ^ 24:=rfl;exact Od sy (⟨o,h1,h2,h3⟩:iu s.heap a es ep) (by rw[le];omega) ⟨.int ax.length,H,I.tok _,⟨_,by rw[le]⟩,q⟩
end
open PySem.Spec
noncomputable def CS (CX:BM) (P:zdw) (w:zdm) (K:zaa) (mg:Str->Option zdl) (base:Heap) (N:List Str) (qual:Str) (scope:Scope) (f:zdk) (cd:zdl) (cl:List (Str×zdk)) (A:zdv) (outer:List Env) (s:zdu) (H:Hp) (E:XK):Cx where
 prog:=P
 w:=w
 K:=K
 mg:=mg
 base:=base
 A:=A.deeper (zb0 qual scope s.heap.objs.size f cd cl)
 N:=N
 s₀:=s
 H₀:=H
 env:=zb0 qual scope s.heap.objs.size f cd cl
 outer:=outer
 stack:=zb0 qual scope s.heap.objs.size f cd cl::outer
 ex:=[]
 calm:=true
 fn:=fun _=>false
 pn:=[]
 xe:=fun e s'=>wpAny (model P w) (A.deeper (zb0 qual scope s.heap.objs.size f cd cl)) (leaving (zb0 qual scope s.heap.objs.size f cd cl) e) (fun _ Hh=>CX outer H s E e Hh) (fun e' Hh=>CX outer H s E e' Hh) s'
structure tZ(x y:Str)(sc:Scope):Prop where
 kind:sc.kind=.function
 co:sc.isCoroutine=false
 gen:sc.isGenerator=false
 px:sc.names.lookup x=some .local
 py:sc.names.lookup y=some .free
 only:∀z,(sc.names.lookup z=some .cell\/sc.names.lookup z=some .free)->z=y
 Rz:∀z∈sc.names,z.2≠.cell
theorem Oe{CX:BM}{P:zdw}{w:zdm}{K:zaa}{mg:Str->Option zdl}{base:Heap}{x y:Str}{qual:Str}{scope:Scope}{f cc:zdk}{cd:zdl}{A:zdv}{outer:List Env}{s:zdu}{H:Hp}{E:XK}{u uc:zdl}{v vc:V}{h1:Heap}{tk:Nat}
 (S:tZ x y scope) (hd:A.handled=none) (e0:rM P w K mg base A outer s H) (rv:RelV v u) (yH:H cc=none) (vH:s.heap.IsCell cc (some uc)) (rc:RelV vc uc)
 (Pd:h1.Ns s.heap.objs.size fun z=>zbl z [(x,u)].reverse) (hk:∀b o,s.heap.get? b=some o->h1.get? b=some o) :
 Inv (CS CX P w K mg base [x,y] qual scope f cd [(y,cc)] A outer s H E) [] [some v,some vc] H {s with heap:=h1,toks:=tk}:=by
 have QO:∀b:zdk,b ∉ (CS CX P w K mg base [x,y] qual scope f cd [(y,cc)] A outer s H E).ex:=fun b z=>zzb (show b∈([]:List zdk) from z) (by simp);have lk:∀z c,zbl z [(y,cc)]=some c->z=y/\c=cc:=fun z c e=>by
  rw[zaX] at e;cases hb:z==y with
  |true=>rw[hb] at e;cases e;exact⟨eq_of_beq hb,rfl⟩
  |false=>rw[hb] at e;cases e
 have lky:zbl y [(y,cc)]=some cc:=by rw[zaX,beq_self_eq_true]
 have Lu:h1.IsCell cc (some uc):=by obtain⟨o,ho,q⟩:=vH;exact⟨o,hk _ _ ho,q⟩
 refine⟨⟨e0.mod,S.kind,rfl,rfl,zaf _,fun a b c h1 h2=>?_,fun z hz=>?_,fun z c hf _=>?_,fun _=>hd,Around.frames_deeper e0.frames,.inr ⟨rfl,rfl⟩,fun b z=>zzb z (QO b),e0.bs,e0.BX,fun b _ _=>QO b,fun b z=>zzb z (QO b),e0.qC,e0.MF⟩,
  rfl,e0.bare,Un.kept hk,⟨_,Pd,fun i z v' h1 h2 h3=>?_⟩,fun z c h=>?_,e0.cM.fresh (zaf _),fun z c h=>?_,fun p hp=>zzb (show p∈([]:List (zdk×Obj)) from hp) (by simp),e0.cM.kept hk,rfl⟩
 ·exact(lk a c h1).1.trans (lk b c h2).1.symm
 ·have hz:scope.names.lookup z=some .cell\/scope.names.lookup z=some .free:=hz;rw[S.only z hz];exact⟨cc,lky⟩
 ·cases hf
 ·rcases i with _ |_ |i
  ·cases h1;cases h2;refine⟨u,rv,.inl ⟨S.px,?_⟩⟩;show zbl x [(x,u)].reverse=some u;rw[List.reverse_singleton,zaX,beq_self_eq_true]
  ·cases h1;cases h2;exact⟨uc,rc,.inr ⟨.inr S.py,cc,lky,Lu⟩⟩
  ·cases h1
 ·rw[(lk z c h).2];exact⟨_,Lu⟩
 ·rw[(lk z c h).2];exact yH
theorem Of{CX:BM}{P:zdw}{w:zdm}{K:zaa}{mg:Str->Option zdl}{base:Heap}{k:Nat}{x y:Str}{name qual:Str}{params:Arguments}{body:Expr}{scope:Scope}{fo cc c':zdk}{pm vS:zdl}{A:zdv}{outer:List Env}{s:zdu}{H:Hp}{E:XK}{Q:VK}{u uc:zdl}{v vc:V}
 (S:tZ x y scope) (hr:ib (k+1) A) (e0:rM P w K mg base A outer s H) (UN:s.heap.get? fo=some (zbR name qual params body scope [(y,cc)] pm c' vS)) (hcr:s.heap.CodeRec (.ref c') qual)
 (yH:H cc=none) (vH:s.heap.IsCell cc (some uc)) (rc:RelV vc uc) (rv:RelV v u) (xS:bindArgs (zc7 name qual params body scope [(y,cc)] pm (.ref c') vS) ⟨[u],[]⟩=pure [(x,u)])
 {t:TE} (ht:PE (CS CX P w K mg base [x,y] qual scope fo (.ref c') [(y,cc)] A outer s H E) body t) (hq:t [some v,some vc] H Q) :
 codeAny (model P w) A (.call (.ref fo) ⟨[u],[]⟩) (CR CX outer P w H s Q E) s:=by
 have lim:s.heap.NoLimit:=e0.mod.nolimit.keeps fun b o e=>(e0.bs b o e).1;refine PySem.W.kla_callFunE hr.depth UN rfl S.co S.gen rfl hcr ?_;rw[xS];refine zdo (wpAny_newFunctionEnv S.Rz (fun z hz=>?_) (fun h1 Pd Yd=>?_) S.kind)
 ·rw[zar.mp hz];exact S.px
 have hk:∀b o,s.heap.get? b=some o->h1.get? b=some o:=fun b o e=>Yd.extBut b o (zaD (Heap.lt_size e)) (Heap.get?_push_of_some _ e);refine⟨lim.keeps hk,?_⟩;show codeAny _ _ (.expr body (zb0 qual scope s.heap.objs.size fo (.ref c') [(y,cc)])) _ _;refine PySem.W.kla_codeExpr (wpAny_mono (ht [] _ _ _ Q (Oe S hr.hd e0 rv yH vH rc Pd hk) hq) (fun u' s' h=>?_) fun e s' z=>z);obtain⟨v',H',J,rv',q'⟩:=h;exact⟨v',H',J.os,J.bare,J.base,J.cM,rv',q'⟩
noncomputable def eX (a:zdk) (o:Obj):HO:=.ext fun h=>h.get? a=some o
noncomputable def wo (H:Hp) (a:zdk):Hp:=fun b=>if b=a then none else H b
theorem jf{H:Hp}{a:zdk}:wo H a a=none:=zzp rfl
theorem eY{H:Hp}{a b:zdk}(h:b≠a):wo H a b=H b:=zzn h
section
variable{P:zdw}{w:zdm}{H:Hp}{h:Heap}{a:zdk}{o:Obj}
theorem eX.get(x:ou P w H h)(e:H a=some (eX a o)):h.get? a=some o:=(x a _ e).1
theorem eX.ok{H':Hp}(e:h.get? a=some o):dg P w H' h a (eX a o):=⟨e,⟨o,e⟩,fun _ _ p k=>k _ p⟩
theorem ou.add(x:ou P w H h)(hn:H a=none)(e:h.get? a=some o):ou P w (upd H a (eX a o)) h:=fun b u q=>by
 by_cases hb:b=a
 ·subst hb;rw[ae] at q;cases q;exact eX.ok e
 ·rw[aw hb] at q;exact(x b u q).jI (fun c v _ r=>r) (fun c r=>by rw[aw (ai r hn)];exact r) fun c xs r=>by rw[aw (ai r hn)];exact r
theorem ou.wo(x:ou P w H h)(ha:H a=some (eX a o)):ou P w (wo H a) h:=fun b u q=>by
 by_cases hb:b=a
 ·subst hb;rw[jf] at q;cases q
 ·rw[eY hb] at q;refine(x b u q).jI (fun c v _ r=>r) (fun c r=>?_) fun c xs r=>?_
  ·rw[eY (bU r ha (by intro z;cases z))];exact r
  ·rw[eY (bU r ha (by intro z;cases z))];exact r
end
def Pz (y name qual:Str) (params:Arguments) (body:Expr) (scope:Scope) (H:Hp) (fo cc:zdk) (mE:Obj) (vc:V):Prop:=
 ∃(c':zdk) (pm vS uc:zdl) (oc:Obj) (vs:Array zdl) (tk:Nat),H fo=some (eX fo (zbR name qual params body scope [(y,cc)] pm c' vS))/\H c'=some (eX c' oc)/\oc.data=.fields vs/\vs[1]?=some (.str qual tk)/\
  H cc=some (eX cc mE)/\mE.data=.cell (some uc)/\RelV vc uc
def RA (y name qual:Str) (params:Arguments) (body:Expr) (scope:Scope) (tb tf:TE) (ta:TA):TE:=fun σ H Q=>tf σ H fun f H1=>ta σ H1 fun vs H2=>∃(a:V) (fo cc:zdk) (mE:Obj) (vc:V),vs=[a]/\f=.ref fo/\Pz y name qual params body scope H2 fo cc mE vc/\
 tb [some a,some vc] (wo H2 cc) fun v H3=>H3 cc=none->Q v (upd H3 cc (eX cc mE))
theorem rM.wo{P:zdw}{w:zdm}{K:zaa}{mg:Str->Option zdl}{base:Heap}{A:zdv}{outer:List Env}{s:zdu}{H:Hp}{a:zdk}{o:Obj}(e:rM P w K mg base A outer s H)(ha:H a=some (eX a o)):rM P w K mg base A outer s (L2.wo H a):=
 ⟨e.frames,e.mod,fun b o hb=>⟨(e.bs b o hb).1,by unfold L2.wo;rw[(e.bs b o hb).2];split<;>rfl⟩,e.BX,e.qC,fun b hb=>by unfold L2.wo;rw[e.MF b hb];split<;>rfl,e.cM.wo ha,e.bare⟩
theorem CE.back{outer:List Env}{P:zdw}{w:zdm}{H:Hp}{s s':zdu}{Q:VK}{u:zdl}{a:zdk}{o:Obj}(cM:ou P w H s.heap)(ha:H a=some (eX a o))(hf:a ∉ dh outer)(h:CE outer P w (wo H a) s (fun v H3=>H3 a=none->Q v (upd H3 a (eX a o))) u s'):CE outer P w H s Q u s':=by
 obtain⟨v,H3,os,bare,un,Og,rv,q⟩:=h;have g0:=eX.get cM ha;have n3:H3 a=none:=un.free a o g0 jf (by simp);have g1:=un.keep a o g0 jf hf (by simp);have nb:∀ {b:zdk},H b=none->b≠a:=fun {b} n z=>by rw[z,ha] at n;cases n
 refine⟨v,upd H3 a (eX a o),os,bare,⟨fun b ob e n hb hx=>un.keep b ob e (by rw[eY (nb n)];exact n) hb hx,fun b ob e n hb hx=>un.slot b ob e (by rw[eY (nb n)];exact n) hb hx,fun b ob e n hx=>?_,un.there,fun b xs e=>?_,fun b ob x e=>?_,fun b ps e=>?_⟩,Og.add n3 g1,rv,q n3⟩
 ·rw[aw (nb n)];exact un.free b ob e (by rw[eY (nb n)];exact n) hx
 ·have ne:=bU e ha (by intro z;cases z);rw[aw ne];exact un.w5 b xs (by rw[eY ne];exact e)
 ·have ne:=bU e ha (by intro z;cases z);rw[aw ne];exact un.v9 b ob x (by rw[eY ne];exact e)
 ·have ne:=bU e ha (by intro z;cases z);rw[aw ne];exact un.wb b ps (by rw[eY ne];exact e)
theorem ES{M:Model}{A:zdv}{E:zdl->zdu->Prop}{s:zdu}{env:Env}{pos:Pos}{f:zdl}{first:List zdl}{Q:zdl->zdu->Prop}{P:Heap->Prop}{e:Expr}{rest:List Expr}
 (hk:∀h,P h->∃k,(k=Keeper.frame\/k=Keeper.machine\/k=Keeper.boundFrame)/\PySem.W.Looks M h (keeperOf f) k) (h:wpAny M A (spliced (backTo pos (zdq (e::rest) env))) (fun vs s₁=>P s₁.heap/\wpAny M A (call f (first++vs)) Q E s₁) E s)
 (he:zdq (e::rest) env=(false,eval e env)::zdq rest env) (BN:(backTo pos (zdq rest env)).any (·.1)=false):wpAny M A (callWith pos f first (backTo pos (zdq (e::rest) env)) []) Q E s:=by
 rw[he] at h ⊢;exact PySem.W.callWith_of (by show ((false ||(backTo pos (zdq rest env)).any (·.1)) ||false)=false;rw[BN];rfl) hk (Calls.evalArgs_plain h)
theorem Lv{X:Cx}{x y z name qual:Str}{params:Arguments}{body e:Expr}{scope:Scope}{tb tf:TE}{ta:TA}{p pos:Pos}{k:Nat}{CX:BM}{E:XK}(hr:ib (k+1) X.A)(S:tZ x y scope)(hf:PE X (.Name z p) tf)(ha:PA X [e] ta)(Nq:∀pins σ (H:Hp) (s:zdu) e s' a o,Inv X pins σ H s->H a=some (eX a o)->CX X.stack (wo H a) s E e s'->X.xe e s')
 (xS:∀(u:zdl) (cc c':zdk) (pm vS:zdl),bindArgs (zc7 name qual params body scope [(y,cc)] pm (.ref c') vS) ⟨[u],[]⟩=pure [(x,u)])
 (hb:∀(fo cc c':zdk) (s:zdu) (H:Hp),PE (CS CX X.prog X.w X.K X.mg X.base [x,y] qual scope fo (.ref c') [(y,cc)] X.A X.stack s H E) body tb)
 (he:zdq [e] X.env=(false,eval e X.env)::zdq [] X.env:=by rfl) (BN:(backTo pos (zdq [] X.env)).any (·.1)=false:=by rfl) :
 PE X (.Call (.Name z p) [e] [] pos) (RA y name qual params body scope tb tf ta):=by
 intro pins s σ H Q I h;refine wpAny_Call_Name_kw (fc (hf pins s σ H _ I h) fun u0 s1 zqz=>?_);obtain⟨f,H1,I1,rf,h1⟩:=zqz;refine ES (P:=fun h=>∃fo cc c' pm vS,u0=.ref fo/\h.get? fo=some (zbR name qual params body scope [(y,cc)] pm c' vS)) (fun h ⟨fo,cc,c',pm,vS,eu,hg⟩=>?_) ?_ he BN
 ·subst eu;exact⟨.frame,.inl rfl,(PySem.W.Looks.ld (part:=none) hg).andThen .now⟩
 ·refine fc (ha pos pins s1 σ H1 _ I1 h1) fun us s2 zqz=>?_;obtain⟨vs,H2,I2,r,a,fo,cc,mE,vc,ev,ef,la,hq⟩:=zqz;subst ev ef;obtain⟨u,rfl,ru⟩:=r.one;obtain rfl:u0=Value.ref fo:=rf;obtain⟨c',pm,vS,uc,oc,ovs,tk,g1,g2,d2,q2,g3,d3,rc⟩:=la;have e1:=eX.get I2.cM g1;have e2:=eX.get I2.cM g2;have e3:=eX.get I2.cM g3;refine⟨⟨fo,cc,c',pm,vS,rfl,e1⟩,?_⟩;have YI:cc ∉ dh X.stack:=fun hb=>by rw[I2.Ax cc hb] at g3;cases g3
  refine wpAny_call (codeAny_mono (Of (CX:=CX) (E:=E) S hr (I2.Nd.wo g3) e1 ⟨c',oc,ovs,tk,rfl,e2,d2,q2⟩ jf ⟨mE,e3,d3⟩ rc ru (xS u cc c' pm vS) (hb fo cc c' s2 (wo H2 cc)) hq) fun r s' xT=>?_);cases r with
  |error e=>exact Nq pins σ H2 s2 e s' cc mE I2 g3 xT
  |ok fl=>
   cases fl with
   |ret u'=>exact I2.after (CE.back I2.cM g3 YI xT)
   |next=>exact False.elim xT
   |brk=>exact False.elim xT
   |cont=>exact False.elim xT
def TabOk (qual:Str) (lp:Pos) (H:Hp) (ps:Array zdl):Prop:=
 ps = #[]\/∃(c':zdk) (oc:Obj) (vs:Array zdl) (tk:Nat),ps = #[rawInt lp.line,rawInt lp.col,.ref c']/\H c'=some (eX c' oc)/\oc.data=.fields vs/\vs[1]?=some (.str qual tk)
structure jg(K:zaa)(mg:Str->Option zdl)(base:Heap)(c P:zdk):Prop where
 hd:PySem.W.CodeHd base c P
 bm:∃bm o,mg "__builtins__"=some (.ref bm)/\bm≠builtinsNs/\bm≠zdr/\base.get? bm=some o/\o.cls=.type "module"/\o.dict=some builtinsNs/\o.data=.plain
def YJ (cy:zdk->Prop) (P:zdk) (y qual:Str) (params:Arguments) (body:Expr) (scope:Scope) (lp:Pos):TE:=fun _ H Q=>∃ps,H P=some (.rE ps)/\TabOk qual lp H ps/\
 ∀(fo cc c':zdk) (pm vS:zdl) (oc:Obj) (vs DD:Array zdl) (tk:Nat) (H':Hp),cy cc->H fo=none->(∀b o,b≠P->H b=some o->H' b=some o)->(∀b,H' b≠none->H b≠none\/b=fo\/b=c')->
  H' fo=some (eX fo (zbR "<lambda>" qual params body scope [(y,cc)] pm c' vS))->H' c'=some (eX c' oc)->oc.data=.fields vs->vs[1]?=some (.str qual tk)->H' P=some (.rE DD)->TabOk qual lp H' DD->Q (.ref fo) H'
def gn (H:Hp) (P:zdk) (ps:Array zdl) (c':zdk) (oc:Obj) (fo:zdk) (ob:Obj):Hp:=upd (upd (upd H P (.rE ps)) c' (eX c' oc)) fo (eX fo ob)
section
variable{H:Hp}{P:zdk}{ps:Array zdl}{c':zdk}{oc:Obj}{fo:zdk}{ob:Obj}
theorem gn.keep(hF:H fo=none)(hc:H c'=some (eX c' oc)\/H c'=none){b:zdk}{o:HO}(n:b≠P)(e:H b=some o):gn H P ps c' oc fo ob b=some o:=by
 unfold gn;rw[aw (ai e hF)];by_cases z:b=c'
 ·subst z;rcases hc with q |q
  ·rw[ae,<- q,e]
  ·rw[q] at e;cases e
 ·rw[aw z,aw n,e]
theorem gn.back(hP:H P≠none){b:zdk}(n:gn H P ps c' oc fo ob b≠none):H b≠none\/b=fo\/b=c':=by
 by_cases z1:b=fo
 ·exact .inr (.inl z1)
 ·by_cases z2:b=c'
  ·exact .inr (.inr z2)
  ·by_cases z3:b=P
   ·rw[z3];exact .inl hP
   ·unfold gn at n;rw[aw z1,aw z2,aw z3] at n;exact .inl n
theorem gn.fo_:gn H P ps c' oc fo ob fo=some (eX fo ob):=ae
theorem gn.c_(n:c'≠fo):gn H P ps c' oc fo ob c'=some (eX c' oc):=by unfold gn;rw[aw n,ae]
theorem gn.P_(n1:P≠fo)(n2:P≠c'):gn H P ps c' oc fo ob P=some (.rE ps):=by unfold gn;rw[aw n1,aw n2,ae]
end
theorem Inv.lam{X:Cx}{pins:List (zdk×Obj)}{σ:St}{H:Hp}{s:zdu}{P fo c':zdk}{ps more:Array zdl}{h1:Heap}{oc ob:Obj}{tk:Nat}(I:Inv X pins σ H s)(hP:H P=some (.rE ps))(hx:Heap.ExtBut P s.heap h1)(gP:h1.get? P=some (zc8 (ps++more)))
 (UN:s.heap.objs.size<=fo) (hc:H c'=some (eX c' oc)\/s.heap.objs.size<=c') (nf:c'≠fo) (gc:h1.get? c'=some oc) (gf:h1.get? fo=some ob):Inv X pins σ (gn H P (ps++more) c' oc fo ob) {s with heap:=h1,toks:=tk}:=by
 have nP:∀ {b:zdk},H b=none->b≠P:=fun {b} n z=>by rw[z,hP] at n;cases n
 have hF:H fo=none:=I.cM.fresh UN;have cP:c'≠P:=fun z=>by
  rcases hc with e |e
  ·rw[z,hP] at e;cases e
  ·have:=I.cM.fresh e;rw[z,hP] at this;cases this
 have fP:fo≠P:=nP hF;have WG:∀ {b:zdk},b≠fo->b≠c'->b≠P->gn H P (ps++more) c' oc fo ob b=H b:=fun n1 n2 n3=>by
  unfold gn;rw[aw n1,aw n2,aw n3]
 have GD:∀ {b:zdk} {u:HO},H b=some u->(∀DD,u≠.rE DD)->gn H P (ps++more) c' oc fo ob b=some u:=fun {b u} e nt=>by
  have n1:b≠fo:=ai e hF;have n3:b≠P:=fun z=>by rw[z,hP] at e;cases e;exact nt _ rfl
  by_cases n2:b=c'
  ·subst n2;rcases hc with z |z
   ·rw[e] at z;cases z;unfold gn;rw[aw n1,ae]
   ·rw[I.cM.fresh z] at e;cases e
  ·rw[WG n1 n2 n3];exact e
 have UO:∀ {b:zdk} {o:Obj},s.heap.get? b=some o->H b=none->gn H P (ps++more) c' oc fo ob b=none:=fun {b o} e n=>by
  have lt:=Heap.lt_size e;have n1:b≠fo:=fun z=>by rw[z] at lt;exact zzb (zaC lt UN) (zaW _)
  have n2:b≠c':=fun z=>by
   rcases hc with q |q
   ·rw[z,q] at n;cases n
   ·rw[z] at lt;exact zzb (zaC lt q) (zaW _)
  rw[WG n1 n2 (nP n)];exact n
 refine I.call (g':=s.gens) (d':=s.drawn) (t':=tk) (ch:=[]) ⟨fun b o e n _ _=>hx b o (nP n) e,fun b o e n _ _=>⟨o.slots,hx b o (nP n) e⟩,fun b o e n _=>UO e n,fun b o e _=>?_,fun b xs e=>GD e (fun _ z=>by cases z),fun b o u e=>GD e (fun _ z=>by cases z),fun b DD e=>?_⟩ (fun b u q=>?_) I.bare (fun b z=>zzb z (by simp))
 ·by_cases z:b=P
  ·exact⟨_,by rw[z];exact gP⟩
  ·exact⟨o,hx b o z e⟩
 ·by_cases z:b=P
  ·subst z;rw[hP] at e;cases e;refine⟨more,?_⟩;unfold gn;rw[aw fP.symm,aw cP.symm,ae]
  ·refine⟨#[],?_⟩;have n1:b≠fo:=ai e hF;have n2:b≠c':=fun y=>by
    rcases hc with q |q
    ·rw[y,q] at e;cases e
    ·rw[y,I.cM.fresh q] at e;cases e
   rw[WG n1 n2 z,e];simp
 ·by_cases z1:b=fo
  ·subst z1;unfold gn at q;rw[ae] at q;cases q;exact eX.ok gf
  ·by_cases z2:b=c'
   ·subst z2;unfold gn at q;rw[aw z1,ae] at q;cases q;exact eX.ok gc
   ·by_cases z3:b=P
    ·subst z3;unfold gn at q;rw[aw z1,aw z2,ae] at q;cases q;exact gP
    ·rw[WG z1 z2 z3] at q;refine(I.cM b u q).jI (fun c v hcv r=>hx c v ?_ r) (fun c r=>GD r (fun _ z=>by cases z)) fun c xs r=>GD r (fun _ z=>by cases z);rcases hcv with rfl |r2
     ·exact z3
     ·intro z;rw[z,hP] at r2;cases r2
theorem RB{X:Cx}{c P:zdk}{y qual:Str}{params:Arguments}{body:Expr}{scope:Scope}{lp:Pos}(B:jg X.K X.mg X.base c P)(PB:X.env.code=.ref c)(hq:X.env.qual ++ "<lambda>"=qual)
 (hcy:∃cc,X.env.cells.lookup y=some cc/\closureFor scope X.env=pure [(y,cc)]) (YK:defaultsOf params X.env=([],[])) :
 PE X (.Lambda params body scope lp) (YJ (fun cc=>X.env.cells.lookup y=some cc) P y qual params body scope lp):=by
 intro pins s σ H Q I h;obtain⟨ps,hP,tok,q⟩:=h;obtain⟨cc,RC,SU⟩:=hcy;have gP:s.heap.get? P=some (zc8 ps):=I.cM P _ hP;have hgP:zdr≠P:=fun z=>by
  obtain⟨o,es,ep,e,_⟩:=I.mod.glob;have:=(I.bs _ _ e).2;rw[z,hP] at this;cases this
 have hb:s.heap.BuiltinsAt X.mg P:=by
  obtain⟨bm,o,e1,e2,e3,e4,r⟩:=B.bm;have nbP:bm≠P:=fun z=>by
   have:=(I.bs _ _ e4).2;rw[z,hP] at this;cases this
  exact⟨bm,o,e1,e2,e3,nbP,(I.bs _ _ e4).1,r⟩
 have C:PySem.W.CodeHd s.heap c P:=B.hd.keeps I.bk;have tri:TriplesOk ps.toList:=by
  rcases tok with rfl |⟨c',oc,vs,tk,rfl,_⟩
  ·trivial
  ·exact trivial
 have nP:∀ {b:zdk},H b=none->b≠P:=fun {b} n z=>by rw[z,hP] at n;cases n
 refine PySem.W.kla_eval YK ?_;rw[hq];rcases tok with rfl |⟨c',oc,vs,tk,rfl,hc,d1,d2⟩
 ·refine PySem.W.kla_makeFunction SU I.ok.glob (I.mod.glob.keeps I.bk) PB C gP tri rfl hgP hb fun c' vS h' tk hx YL oy Lw htb=>?_;obtain⟨c2,oc,vs,t2,e2,SJ,d1,d2⟩:=Lw;cases e2;have ge:s.heap.objs.size<=h'.objs.size:=zcl (zbP YL oy);have PC:H h'.objs.size=none:=I.cM.fresh ge;have nc:H c'=none:=I.cM.fresh YL;have RD:c'≠h'.objs.size:=zaD oy;have J:=I.lam (more:=#[rawInt lp.line,rawInt lp.col,.ref c']) (tk:=tk) hP (fun b o n e=>Heap.get?_push_of_some _ (hx b o n e)) (Heap.get?_push_of_some _ htb) ge (.inr YL) RD (Heap.get?_push_of_some _ SJ) (Heap.get?_push_size h' (o:=zbR "<lambda>" qual params body scope [(y,cc)] ((X.mg "__name__").getD .none) c' vS) rfl);exact⟨.ref h'.objs.size,_,J,rfl,q _ cc c' _ vS oc vs _ t2 _ RC PC (fun b o n e=>gn.keep PC (.inr nc) n e) (fun b n=>gn.back (by rw[hP];simp) n) gn.fo_ (gn.c_ RD) d1 d2 (gn.P_ (nP PC).symm (nP nc).symm) (.inr ⟨c',oc,vs,t2,by simp,gn.c_ RD,d1,d2⟩)⟩
 ·refine PySem.W.kla_makeFunctionHit (cv:=.ref c') SU I.ok.glob (I.mod.glob.keeps I.bk) PB C gP tri ?_ hb fun vS h' UA hk hsz=>?_
  ·exact codeAmong_snoc [] trivial rfl
  ·have PC:H h'.objs.size=none:=I.cM.fresh hsz;have RD:c'≠h'.objs.size:=ai hc PC;have cP:c'≠P:=fun z=>by rw[z,hP] at hc;cases hc
   have J:=I.lam (more:=#[]) (tk:=UA) hP (fun b o n e=>Heap.get?_push_of_some _ (hk b o e)) (by simpa using Heap.get?_push_of_some _ (hk _ _ gP)) hsz (.inl hc) RD (Heap.get?_push_of_some _ (hk _ _ (eX.get I.cM hc))) (Heap.get?_push_size h' (o:=zbR "<lambda>" qual params body scope [(y,cc)] ((X.mg "__name__").getD .none) c' vS) rfl);exact⟨.ref h'.objs.size,_,J,rfl,q _ cc c' _ vS oc vs _ tk _ RC PC (fun b o n e=>gn.keep PC (.inl hc) n e) (fun b n=>gn.back (by rw[hP];simp) n) gn.fo_ (gn.c_ RD) d1 d2 (gn.P_ (nP PC).symm cP.symm) (.inr ⟨c',oc,vs,tk,by simp,gn.c_ RD,d1,d2⟩)⟩
theorem rM.add{P:zdw}{w:zdm}{K:zaa}{mg:Str->Option zdl}{base:Heap}{A:zdv}{outer:List Env}{s:zdu}{H:Hp}{a:zdk}{o:Obj}(e:rM P w K mg base A outer s H)(ha:H a=none)(hb:base.get? a=none)(hf:a ∉ dh outer)(g:s.heap.get? a=some o):rM P w K mg base A outer s (upd H a (eX a o)):=
 ⟨e.frames,e.mod,fun b ob hB=>⟨(e.bs b ob hB).1,by rw[aw (fun z=>by rw[z,hb] at hB;cases hB)];exact(e.bs b ob hB).2⟩,e.BX,e.qC,fun b hB=>by rw[aw (fun z:b=a=>hf (by rw[<- z];exact hB))];exact e.MF b hB,e.cM.add ha g,e.bare⟩
theorem CE.out{outer:List Env}{P:zdw}{w:zdm}{H:Hp}{s s':zdu}{Q:VK}{u:zdl}{a:zdk}{o:Obj}(ha:H a=none)(g:s.heap.get? a=some o)(h:CE outer P w (upd H a (eX a o)) s (fun v H3=>H3 a=some (eX a o)/\Q v (wo H3 a)) u s'):CE outer P w H s Q u s':=by
 obtain⟨v,H3,os,bare,un,Og,rv,h3,q⟩:=h;have g3:=eX.get Og h3;refine⟨v,wo H3 a,os,bare,⟨fun b ob e n hb hx=>?_,fun b ob e n hb hx=>?_,fun b ob e n hx=>?_,un.there,fun b xs e=>?_,fun b ob x e=>?_,fun b ps e=>?_⟩,Og.wo h3,rv,q⟩
 ·by_cases z:b=a
  ·rw[z] at e ⊢;rw[g] at e;cases e;exact g3
  ·exact un.keep b ob e (by rw[aw z];exact n) hb hx
 ·by_cases z:b=a
  ·rw[z] at e ⊢;rw[g] at e;cases e;exact⟨o.slots,g3⟩
  ·exact un.slot b ob e (by rw[aw z];exact n) hb hx
 ·by_cases z:b=a
  ·rw[z];exact jf
  ·rw[eY z];exact un.free b ob e (by rw[aw z];exact n) hx
 ·have ne:b≠a:=ai e ha;rw[eY ne];exact un.w5 b xs (by rw[aw ne];exact e)
 ·have ne:b≠a:=ai e ha;rw[eY ne];exact un.v9 b ob x (by rw[aw ne];exact e)
 ·have ne:b≠a:=ai e ha;rw[eY ne];exact un.wb b ps (by rw[aw ne];exact e)
def Lx (cy:zdk->Prop) (i:Nat) (sp:Sp) (E:XK) (t:TA):TE:=fun σ H Q=>t σ H fun vs H1=>∃vc,σ[i]?=some (some vc)/\∀(cc:zdk) (mE:Obj) (uc:zdl),cy cc->H1 cc=none->mE.data=.cell (some uc)->RelV vc uc->
 sp vs (upd H1 cc (eX cc mE)) (fun v H2=>H2 cc=some (eX cc mE)/\Q v (wo H2 cc)) E
theorem Ly{X:Cx}{CX:BM}{k i:Nat}{f:zdk}{fd:zdt}{ps:List Str}{sp:Sp}{E:XK}{x y:Str}{p pos:Pos}{e:Expr}{es:List Expr}{t:TA}(F:bJ X.prog X.w X.K X.mg X.base CX k f fd ps sp)(hr:ib k X.A)(hg:Gl X x)(hm:X.mg x=some (.ref f))(hk:zbv X.K (.ref f)=true)(hb:Binds X.K fd ps [])
 (Nq:∀pins σ (H:Hp) (s:zdu) e s' a o,Inv X pins σ H s->H a=none->s.heap.get? a=some o->CX X.stack (upd H a (eX a o)) s E e s'->X.xe e s')
 (ha:PA X (e::es) t) (hN:X.N[i]?=some y) (hy:X.env.scope.names.lookup y=some .cell) (Qu:X.fn y=true) (JA:(x==("__debug__":Str))=false:=by decide) (he:zdq (e::es) X.env=(false,eval e X.env)::zdq es X.env:=by rfl) (BN:(backTo pos (zdq es X.env)).any (·.1)=false:=by rfl) :
 PE X (.Call (.Name x p) (e::es) [] pos) (Lx (fun cc=>X.env.cells.lookup y=some cc) i sp E t):=by
 intro pins s σ H Q I h;refine wpAny_Call_Name_kw (wH I hg hm ?_ JA);refine zcx (h₀:=X.base) I.ok.mod.Tp hk (fc (ha pos pins s σ H _ I h) fun us s1 ⟨vs,H1,I1,r,vc,hσ,q⟩=>⟨I1.wG,?_⟩) he BN;obtain⟨m,hn,hl⟩:=I1.loc;obtain⟨uc,rc,lk⟩:=hl i y vc hN hσ (.inr (.inl hy));rcases lk with ⟨JR,_⟩ |⟨_,cc,RC,mE,YM,dcc⟩
 ·have JR:X.env.scope.names.lookup y=some .local:=JR;rw[hy] at JR;cases JR
 have PD:=I1.ox y cc RC;have M5:=I1.ok.M5 y cc Qu RC;have bcc:X.base.get? cc=none:=Heap.get?_none_of_le (zay I1.ok.BX M5);have YI:cc ∉ dh X.stack:=fun hb=>by
  rcases zag.mp (I1.w8 cc hb) with z |z
  ·exact I1.OV y cc RC z
  ·obtain⟨_,o,ho,_⟩:=I1.ok.qC.mem z;exact zzb (zaC (Heap.lt_size ho) M5) (zaW _)
 have RE:=q cc mE uc RC PD dcc rc;have hl':(us++[]).length=ps.length:=by rw[zav,<- r.length];exact F.len _ _ _ _ RE
 have wQ:=hb s1 us I1.wG hl';rw[zav] at wQ;refine wpAny_call (codeAny_mono (F.run X.A X.stack s1 (upd H1 cc (eX cc mE)) ⟨us,[]⟩ us vs _ E hr (I1.Nd.add PD bcc YI YM) wQ r RE) fun r s' xT=>?_);cases r with
 |error e=>exact Nq pins σ H1 s1 e s' cc mE I1 PD YM xT
 |ok fl=>
  cases fl with
  |ret u'=>exact I1.after (CE.out PD YM xT)
  |next=>exact False.elim xT
  |brk=>exact False.elim xT
  |cont=>exact False.elim xT
theorem Iu{P:zdw}{w:zdm}{K:zaa}{mg mb:Str->Option zdl}{CX:BM}{k:Nat}{fa a c Pt:zdk}{fd:zdt}{x:Str}{sp:Sp}{s₁:zdu}{vs:List zdl}{ns:List Int}
 (KX:K.In s₁.heap) (Pd:s₁.heap.Ns zdr mg) (hb:s₁.heap.Ns builtinsNs mb) (YN:∀x:Str,x≠"__name__"->mb x=bootBuiltins x) (YO:s₁.heap.NoLimit) (hg:s₁.gens = #[])
 (ha:s₁.heap.get? a=some {cls:=.type "list",data:=.seq vs.toArray}) (hi:IntsAre vs ns) (hl:ns.length<=zds) (hr:ib k callerA) (hd:PySem.W.CodeHd s₁.heap c Pt) (BP:s₁.heap.get? Pt=some (zc8 #[])) (UP:K.lookup Pt=none)
 (YQ:∃bm o,mg "__builtins__"=some (.ref bm)/\bm≠builtinsNs/\bm≠zdr/\s₁.heap.get? bm=some o/\o.cls=.type "module"/\o.dict=some builtinsNs/\o.data=.plain)
 (F:∀base:Heap,K.In base->base.Ns zdr mg->jg K mg base c Pt->bJ P w K mg base CX k fa fd [x] sp) (xS:∀(s:zdu) (u:zdl),BindsTo s fd ⟨[u],[]⟩ [(x,u)])
 (MH:∀H:Hp,i6 K H a (ns.map V.int)->H Pt=some (.rE #[])->sp [.ref a] H (fun v _=>v=.bl true) fun _ _ _=>False)
 (YR:∀H e s',CX [] H s₁ (fun _ _ _=>False) e s'->False) :
 codeAny (model P w) callerA (.call (.ref fa) ⟨[.ref a],[]⟩) (fun r s'=>r=.ok (.ret (.bool true))/\OldK s₁.heap s'.heap/\s'.os=s₁.os/\AllBare s'.gens) s₁:=by
 have rv:=zK hi;have YS:=hi.length;have WH:a≠Pt:=fun z=>by rw[z,BP] at ha;cases ha
 obtain⟨H,YT,YU,WI,hS,hK⟩:∃H:Hp,H Pt=some (.rE #[])/\(H a=none\/H a=some (.Fw {cls:=.type "list",data:=.seq vs.toArray} (.lst (ns.map V.int))))/\(∀b,b≠Pt->b≠a->H b=none)/\i6 K H a (ns.map V.int)/\(H a≠none->K.lookup a=none):=by
  cases hk:K.lookup a with
  |some o=>
   have e:=KX a o hk;rw[ha] at e;cases e;exact⟨fun b=>if b=Pt then some (.rE #[]) else none,zzp rfl,.inl (zzn WH),fun b n _=>zzn n,.inr ⟨_,vs.toArray,_,hk,rfl,rfl,rfl,by rw[zas,YS];exact hl,by simpa using rv⟩,fun z=>zzb (zzn WH) z⟩
  |none=>exact⟨fun b=>if b=Pt then some (.rE #[]) else if b=a then some (.Fw {cls:=.type "list",data:=.seq vs.toArray} (.lst (ns.map V.int))) else none,zzp rfl,.inr ((zzn WH).trans (zzp rfl)),fun b n1 n2=>(zzn n1).trans (zzn n2),.inl (.inr ⟨_,(zzn WH).trans (zzp rfl)⟩),fun _=>rfl⟩
 have cM:ou P w H s₁.heap:=fun b u q=>by
  by_cases z:b=Pt
  ·subst z;rw[YT] at q;cases q;exact BP
  ·by_cases z2:b=a
   ·subst z2;rcases YU with e |e
    ·rw[e] at q;cases q
    ·rw[e] at q;cases q;exact⟨ha,by rw[zad];exact hl,vs,_,rv,ha⟩
   ·rw[WI b z z2] at q;cases q
 have free:∀ {b:zdk} {o:Obj},s₁.heap.get? b=some o->(∀xs n,o.data≠.seq xs n)->(∀fs,o.data≠.fields fs\/o.cls≠.none)->H b=none:=fun {b o} e n1 n2=>by
  refine WI b (fun z=>?_) (fun z=>?_)
  ·rw[z,BP] at e;cases e;exact(n2 #[]).elim (fun q=>q rfl) fun q=>q rfl
  ·rw[z,ha] at e;cases e;exact n1 _ _ rfl
 have WJ:∀ {b:zdk} {m:Str->Option zdl},s₁.heap.Ns b m->(Aw s₁.heap H).Ns b m:=fun {b m} ⟨o,es,ep,e,d,r⟩=>⟨o,es,ep,sR e (free e (fun _ _ z=>by rw[d] at z;cases z) fun _=>.inl fun z=>by rw[d] at z;cases z),d,r⟩
 have hKb:K.In (Aw s₁.heap H):=fun b o e=>sR (KX b o e) (by
  by_cases z:b=Pt
  ·rw[z,UP] at e;cases e
  ·by_cases z2:b=a
   ·rcases YU with q |q
    ·rw[z2];exact q
    ·rw[z2,hK (by rw[q];simp)] at e;cases e
   ·exact WI b z z2)
 have hM:Mod K mg (Aw s₁.heap H):=⟨hKb,WJ Pd,⟨mb,WJ hb,YN⟩,let ⟨mc,h1,h2⟩:=YO;⟨mc,WJ h1,h2⟩⟩
 have e0:rM P w K mg (Aw s₁.heap H) callerA [] s₁ H:=⟨rfl,hM,fun b o e=>M4 e,Nat.le_of_eq (G2 _ _),trivial,fun b hb=>zzb (show b∈([]:List zdk) from hb) (by simp),cM,.of_eq hg⟩
 have hL:jg K mg (Aw s₁.heap H) c Pt:=by
  refine⟨?_,?_⟩
  ·obtain⟨o,YV,file,tf,flags,tg,inF,text,tt,e1,r1,r2,r⟩:=hd;exact⟨o,YV,file,tf,flags,tg,inF,text,tt,sR e1 (free e1 (fun _ _ z=>by rw[r2] at z;cases z) fun _=>.inr fun z=>by rw[r1] at z;cases z),r1,r2,r⟩
  ·obtain⟨bm,o,e1,e2,e3,e4,r1,r2,r3⟩:=YQ;exact⟨bm,o,e1,e2,e3,sR e4 (free e4 (fun _ _ z=>by rw[r3] at z;cases z) fun _=>.inl fun z=>by rw[r3] at z;cases z),r1,r2,r3⟩
 refine codeAny_mono ((F _ hKb (WJ Pd) hL).run callerA [] s₁ H ⟨[.ref a],[]⟩ [.ref a] [.ref a] _ _ hr e0 (xS s₁ (.ref a)) (.cons rfl .nil) (MH H hS YT)) fun r s' h=>?_;cases r with
 |error e=>exact(YR H e s' h).elim
 |ok fl=>
  cases fl with
  |next=>exact False.elim h
  |brk=>exact False.elim h
  |cont=>exact False.elim h
  |ret u=>
   obtain⟨v,H',os,bare,un,UQ,r',q⟩:=h;have q':v=.bl true:=q;subst q';obtain rfl:u=Value.bool true:=r';refine⟨rfl,⟨fun b o e=>?_,fun b o e=>un.there b o e (by simp)⟩,os,bare⟩;by_cases z:b=Pt
   ·subst z;rw[BP] at e;cases e;obtain⟨more,em⟩:=un.wb b _ YT;have g':=UQ b _ em;obtain⟨oc,YV,file,tf,flags,tg,inF,text,tt,e1,r1,r2,r3,_⟩:=hd;exact .inr (.inl ⟨⟨c,oc,YV,e1,r1,r2,r3⟩,rfl, #[],more,rfl,g'⟩)
   ·refine .inl ?_;by_cases z2:b=a
    ·subst z2;rcases YU with n |n
     ·exact un.keep b o e n (by intro z;exact zzb (show b∈([]:List zdk) from z) (by simp)) (by simp)
     ·have z3:=un.v9 b _ _ n;obtain⟨e2,_⟩:=UQ b _ z3;rw[ha] at e;cases e;exact e2
    ·exact un.keep b o e (WI b z z2) (by intro z;exact zzb (show b∈([]:List zdk) from z) (by simp)) (by simp)
theorem Lz{l:PySem.W.OpenLaw}{n k:Nat}{q:zdw}{loose:List Str}{XP:(Str->Option zdl)->Heap->Prop}{YP:zdm->Heap->Prop}{d dF:DefRec}{K:Params->zaa}{CX:zdm->BM}{sp:zdm->Sp}{x fn:Str}{c Pt:zdk}
 (hn:l.most=some n) (QK:n<=zds) (Ua:d.params.defaults=[]) (hr:ib k callerA)
 (hY:∀(w:zdm) (h:Heap),YP w h->(K w.params).In h) (Lw:(recsOf q).find? (fun e=>e.name==fn)=some dF) (LA:∀w:zdm,zcf (K w.params) fn=some (c,Pt)) (UP:∀w:zdm,(K w.params).lookup Pt=none)
 (F:∀(w:zdm) (mg:Str->Option zdl) (fa:zdk) (h:Heap),(K w.params).In h->h.Ns zdr mg->mg d.name=some (.ref fa)->
  ∃fd:zdt,(∀(s:zdu) (u:zdl),BindsTo s fd ⟨[u],[]⟩ [(x,u)])/\
   ∀base:Heap,(K w.params).In base->base.Ns zdr mg->jg (K w.params) mg base c Pt->bJ l.prog w (K w.params) mg base (CX w) k fa fd [x] (sp w))
 (MH:∀(w:zdm) (H:Hp) (a:zdk) (ns:List Int),ns.length<=n->i6 (K w.params) H a (ns.map V.int)->H Pt=some (.rE #[])->sp w [.ref a] H (fun v _=>v=.bl true) fun _ _ _=>False)
 (YR:∀(w:zdm) (H:Hp) (s:zdu) (e:zdl) (s':zdu),CX w [] H s (fun _ _ _=>False) e s'->False) :
 PySem.W.WalkO q loose XP YP l.row.toRowW d [] (fun f vs=>PySem.call f vs):=by
 refine Att.B6 hn Ua fun w s₀ s₁ mg mb fa o pm cd doc a vs ns G Y ho hd DK Ub QZ hints hlen hg=>?_;have KX:=hY w _ Y;obtain⟨fd,hb,hF⟩:=F w mg fa _ KX G.T.g Ub;obtain⟨WB,hd2⟩:=PySem.W.tab_of G.T KX Lw (LA w);have YQ:∃bm o,mg "__builtins__"=some (.ref bm)/\bm≠builtinsNs/\bm≠zdr/\s₁.heap.get? bm=some o/\o.cls=.type "module"/\o.dict=some builtinsNs/\o.data=.plain:=by
  obtain⟨bm,ob,b1,b2,b3,b4,b5,b6⟩:=G.T.bmain;refine⟨bm,ob,b1,b2,fun z=>?_,b3,b4,b5,b6⟩;obtain⟨o,es,ep,e,hd,_⟩:=G.T.g;rw[z,e] at b3;cases b3;rw[hd] at b6;cases b6
 exact Iu KX G.T.g G.T.b G.T.builtins G.T.nolimit hg QZ hints (zay hlen QK) hr WB hd2 (UP w) YQ hF hb (fun H hS hP=>MH w H a ns hlen hS hP) fun H e s'=>YR w H s₁ e s'
def vk (K:zaa) (f c:zdk):Prop:=∀oc od fd FN,K.lookup f=some ⟨oc,od,.func fd,FN⟩->fd.code=.ref c
theorem LB{K:zaa}{x:Str}{f c P:zdk}(h:zcf K x=some (c,P))(hn:zaN K zdr x=some (some (.ref f))):vk K f c:=by
 intro oc od fd FN hl;unfold zcf at h;rw[hn] at h;simp only[hl] at h;split at h
 ·rename_i c2 hc;split at h
  ·split at h
   ·cases h;exact hc
   ·cases h
  ·cases h
 ·cases h
section
variable{P:zdw}{w:zdm}{K:zaa}{mg:Str->Option zdl}{base:Heap}
theorem I0.okC{x qual:Str}{st:Stmt}{f c:zdk}{fd:zdt}{N ps:List Str}{k:Nat}{sp:Sp}(F:I0 K x qual st f fd)(S:a8 N ps (aJ st))(hc:vk K f c)(len:∀vs H Q E,sp vs H Q E->vs.length=ps.length)
 (sX:∀(A:zdv) (outer:List Env) (s:zdu) (H:Hp) (vs:List V) (Q:VK) (E:XK),ib k (A.deeper (envOfC qual (aJ st) s.heap.objs.size f (.ref c)))->sp vs H Q E->
  ∃t σ,DJ (mX dy P w K mg base N qual (aJ st) f (.ref c) A outer s H E).DN (hC st) t/\start N vs=σ/\t {nx:=fun _ H'=>Q .cB H',rt:=Q} σ H):bJ P w K mg base dy (k+1) f fd ps sp:=by
 obtain⟨oc,od,kV,doc,pm,an,eT,ct,FN,rfl,lk,DK⟩:=F.ex;have e:eT=.ref c:=hc _ _ _ _ lk;subst e;refine O6 lk DK S len fun A outer s H vs Q E hr MH=>?_;obtain⟨t,σ,h,e,q⟩:=sX A outer s H vs Q E hr MH;subst e;exact⟨t,h.DN,q⟩
end
def iw (st:Stmt):Expr:=match hC st with
 |[.Return (some (.Call _ [_,l] _ _)) _]=>l
 |_=>.Constant .none 0 ⟨0,0,0,0⟩
noncomputable def ET:Expr->Arguments
 |.Lambda p _ _ _=>p
 |_=>{posonlyargs:=[],args:=[],vararg:=none,kwonlyargs:=[],kw_defaults:=[],kwarg:=none,defaults:=[]}
noncomputable def wR:Expr->Expr
 |.Lambda _ b _ _=>b
 |e=>e
noncomputable def mF:Expr->Scope
 |.Lambda _ _ s _=>s
 |_=>{kind:=.function,names:=[],isGenerator:=false,isCoroutine:=false}
noncomputable def rX:Expr->Pos
 |.Lambda _ _ _ p=>p
 |_=>⟨0,0,0,0⟩
def Iw (y qual:Str) (l:Expr) (H:Hp) (fo cc:zdk) (mE:Obj) (vc:V):Prop:=Pz y "<lambda>" qual (ET l) (wR l) (mF l) H fo cc mE vc
def cQ (pr:PG.Prog) (s:cw):List cw:=if s.1=0 then [] else if dq pr.body s.1=true then (zaH 10).map fun f=>((bZ pr s.1 s.2 (f:Nat)).1.getD s) else (bZ pr s.1 s.2 0).1.toList
theorem t9{pr:PG.Prog}(d:i5 pr){s:cw}(h:cU pr s):∀x∈cQ pr s,cU pr x:=by
 intro x hx;unfold cQ at hx;split at hx
 ·cases hx
 ·rename_i h0;split at hx
  ·rename_i ha;obtain⟨f,_,rfl⟩:=zaF.mp hx;cases e:(bZ pr s.1 s.2 (f:Nat)).1 with
   |none=>exact h
   |some y=>exact h.next d h0 e
  ·rw[Option.mem_toList] at hx;exact h.next d h0 hx
theorem cD.upL{K:zaa}{H H':Hp}{D a:zdk}{row:Int}{vals:List Int}{ys:List V}(h:cD K H a row vals)(hD:H D=some (.lst ys))(u:aZ D H H'):cD K H' a row vals:=let ⟨va,h1,h2⟩:=h;⟨va,h1.vg hD u,h2.vg hD u⟩
theorem nI{K:zaa}{H H':Hp}{g:List cw}{us:List V}(h:iH K H g us)(f:∀a row vals,cD K H a row vals->cD K H' a row vals):iH K H' g us:=Paired.Av h fun _ _ ⟨a,e,q⟩=>⟨a,e,f _ _ _ q⟩
theorem CT{K:zaa}{H:Hp}:∀ {g:List cw} {us:List V} {x:cw} {a:zdk},iH K H g us->cD K H a x.1 x.2->iH K H (g++[x]) (us++[.ref a])
 |[],_,_,_,h,q=>by cases h;exact .cons ⟨_,rfl,q⟩ .nil
 |_::_,_,_,_,h,q=>by
  cases h with
  |cons a b=>exact .cons a (CT b q)
section
variable(P:zdw)(w:zdm)(K:zaa)(CC:zdk)
def LC:Sp:=fun vs H Q _=>∃(ch sa:zdk) (pr:PG.Prog) (s:cw),vs=[.ref ch,.ref sa]/\wL K CC H ch pr/\i5 pr/\cD K H sa s.1 s.2/\cU pr s/\
 ∀l us H',aq H H'->H l=none->H' l=some (.lst us)->iH K H' (cQ pr s) us->Q (.ref l) H'
end
abbrev iz:=List (cw×List Int)
noncomputable def lW (led:cw->List cw):Nat->iz->cw->List Int->iz×Option (List cw)
 |0,f,_,_=>(f,none)
 |n+1,f,s,g=>if s∈f.map (·.1) then (f,none) else match led s with
  |[t]=>lW led n (f++[(s,g)]) t g
  |l=>(f++[(s,g)],some l)
def eR (K:zaa) (H:Hp) (f:iz) (ax:List (kS×V)):Prop:=Paired (fun (x:cw×List Int) (kv:kS×V)=>kv.1=nG x.1/\∃a,kv.2=.ref a/\bQ K H a (x.2.map V.int)) f ax
section
variable{K:zaa}{H H':Hp}
theorem eR.imp{f:iz}{ax:List (kS×V)}(h:eR K H f ax)(t:∀a xs,bQ K H a xs->bQ K H' a xs):eR K H' f ax:=Paired.Av h fun _ _ ⟨e,a,e2,q⟩=>⟨e,a,e2,t _ _ q⟩
theorem eR.WK:∀ {f:iz} {ax:List (kS×V)},eR K H f ax->∀s:cw,(cf ax (nG s)).isSome=decide (s∈f.map (·.1))
 |[],_,h,s=>by cases h;rfl
 |x::r,_,h,s=>by
  cases h with
  |@cons _ kv _ _ a b=>
   obtain⟨k,v⟩:=kv;obtain⟨e,_⟩:=a;simp only at e;subst e;by_cases z:x.1=s
   ·rw[cg (by rw[z]),zam,z];simp
   ·rw[ck (fun y=>z (xQ y)),eR.WK b s,zam];simp[Ne.symm z]
theorem eR.len{f:iz}{ax:List (kS×V)}(h:eR K H f ax):ax.length=f.length:=(Paired.length h).symm
theorem eR.put{f:iz}{ax:List (kS×V)}(h:eR K H f ax){s:cw}{g:List Int}{a:zdk}(n:s ∉ f.map (·.1))(q:bQ K H a (g.map V.int)):eR K H (f++[(s,g)]) (putK ax (nG s) (.ref a)):=by
 unfold putK;rw[kz,h.WK,decide_eq_false n,zzn zai];exact Paired.snoc h ⟨rfl,a,rfl,q⟩
end
section
variable(P:zdw)(w:zdm)(K:zaa)(CC:zdk)(l:Expr)(qual:Str)
def LD (H0 H:Hp) (us:List V) (gv:V):Option (List cw)->Prop
 |none=>us=[]
 |some WL=>∃ta la uL,us=[.ref ta]/\bQ K H ta [gv,.ref la]/\H0 la=none/\H la=some (.lst uL)/\iH K H WL uL
def RF:Sp:=fun vs H Q _=>∃(sa fo D ga cc ch:zdk) (mE:Obj) (pr:PG.Prog) (s:cw) (f:iz) (g:List Int) (ax:List (kS×V)),vs=[.ref sa,.ref fo,.ref ga,.ref D]/\wL K CC H ch pr/\i5 pr/\cD K H sa s.1 s.2/\cU pr s/\Iw "chart" qual l (wo H D) fo cc mE (.ref ch)/\
 bQ K H ga (g.map V.int)/\DS jN P w K H D ax/\eR K H f ax/\(f.map (·.1)).Nodup/\(∀x∈f,cU pr x.1)/\bq pr<2000/\
 ∀L us UR H',aZ D H H'->H L=none->H' L=some (.lst us)->DS jN P w K H' D UR->eR K H' (lW (cQ pr) (bq pr+1) f s g).1 UR->LD K H H' us (.ref ga) (lW (cQ pr) (bq pr+1) f s g).2->Q (.ref L) H'
end
theorem Iw.mono{y qual:Str}{l:Expr}{H H':Hp}{fo cc:zdk}{mE:Obj}{vc:V}(h:Iw y qual l H fo cc mE vc)(s:aq H H'):Iw y qual l H' fo cc mE vc:=by
 obtain⟨c',pm,vS,uc,oc,vs,tk,g1,g2,d2,q2,g3,d3,rc⟩:=h;exact⟨c',pm,vS,uc,oc,vs,tk,s _ _ g1,s _ _ g2,d2,q2,s _ _ g3,d3,rc⟩
theorem LF{H H':Hp}{D:zdk}(u:aZ D H H'):aq (wo H D) H':=fun b o e=>by
 by_cases z:b=D
 ·subst z;rw[jf] at e;cases e
 ·rw[eY z] at e;exact u b o z e
theorem pJ{H:Hp}{D:zdk}{o:HO}:wo (upd H D o) D=wo H D:=funext fun b=>by
 by_cases z:b=D
 ·subst z;rw[jf,jf]
 ·rw[eY z,eY z,aw z]
theorem wU{H H':Hp}{D:zdk}(s:aq H H')(n:H D=none):aq H (wo H' D):=fun b o e=>by
 rw[eY (ai e n)];exact s b o e
theorem Oh{H H':Hp}{D:zdk}(s:aq H H'):aq (wo H D) (wo H' D):=fun b o e=>by
 by_cases z:b=D
 ·subst z;rw[jf] at e;cases e
 ·rw[eY z] at e ⊢;exact s b o e
theorem vT{H:Hp}{D:zdk}:aq (wo H D) H:=LF (.refl _ _)
theorem RG{H H':Hp}{D b:zdk}(u:aZ D H H'):aZ D (wo H b) (wo H' b):=fun a o n e=>by
 by_cases z:a=b
 ·subst z;rw[jf] at e;cases e
 ·rw[eY z] at e ⊢;exact u a o n e
theorem wV{H:Hp}{a:zdk}:aZ a H (wo H a):=fun b o n e=>by rw[eY n];exact e
theorem Oi{H H3:Hp}{a:zdk}{o:Obj}(ha:H a=some (eX a o))(s:aq (wo H a) H3):aq H (upd H3 a (eX a o)):=fun b u e=>by
 by_cases z:b=a
 ·subst z;rw[ha] at e;cases e;exact ae
 ·rw[aw z];exact s b u (by rw[eY z];exact e)
section
variable{K:zaa}{H H':Hp}{p:zdk}{φ:Heap->Prop}
mutual
theorem qu(h:H p=some (.ext φ))(u:aZ p H H'):∀(d:Dp) (v:V),Rep K H d v->Rep K H' d v
 |.cB,v,r=>by rw[Rep.qg] at r ⊢;exact r
 |.bl b,v,r=>by rw[Rep.lP] at r ⊢;exact r
 |.int b,v,r=>by rw[Rep.bt] at r ⊢;exact r
 |.str b,v,r=>by rw[Rep.bA] at r ⊢;exact r
 |.lst l,v,r=>by
  rw[Rep.bL] at r ⊢;obtain⟨a,ys,rfl,q,rs⟩:=r;refine⟨a,ys,rfl,?_,mG h u l ys rs⟩;rcases q with (q |⟨o,q⟩) |q
  ·exact .inl (.inl (u _ _ (bU q h (by intro z;cases z)) q))
  ·exact .inl (.inr ⟨o,u _ _ (bU q h (by intro z;cases z)) q⟩)
  ·exact .inr q
 |.tup l,v,r=>by
  rw[Rep.bg] at r ⊢;obtain⟨a,ys,rfl,q,rs⟩:=r;exact⟨a,ys,rfl,q.lV h u,mG h u l ys rs⟩
theorem mG(h:H p=some (.ext φ))(u:aZ p H H'):∀(ds:List Dp) (vs:List V),aN K H ds vs->aN K H' ds vs
 |[],vs,r=>by rw[aN.br] at r ⊢;exact r
 |d::ds,vs,r=>by
  rw[aN.aI] at r ⊢;obtain⟨v,t,rfl,r1,r2⟩:=r;exact⟨v,t,rfl,qu h u d v r1,mG h u ds t r2⟩
end
theorem wL.ext{C ch:zdk}{pr:PG.Prog}(c:wL K C H ch pr)(h:H p=some (.ext φ))(u:aZ p H H'):wL K C H' ch pr:=by
 obtain⟨dx,nl,sd,fa,va,st,wy,us,ws,h1,h2,h3,h4,h5,h6,h7,h8,h9,K8,MM,Pu⟩:=c.at_;have k:∀ {b:zdk} {o:HO},H b=some o->(∀ψ,o≠.ext ψ)->H' b=some o:=fun {b o} e n=>u _ _ (bU e h (n φ)) e;exact⟨⟨dx,nl,sd,fa,va,st,wy,us,ws,k h1 (fun _ z=>by cases z),k h2 (fun _ z=>by cases z),k h3 (fun _ z=>by cases z),k h4 (fun _ z=>by cases z),k h5 (fun _ z=>by cases z),k h6 (fun _ z=>by cases z),h7,k h8 (fun _ z=>by cases z),mG h u _ _ h9,K8,k MM (fun _ z=>by cases z),fun i hi=>let ⟨q,e,r⟩:=Pu i hi;⟨q,e,r.lV h u⟩⟩⟩
end
end L2
namespace L2
open PG
open PySem PySem.Spec PyProof.Rows
noncomputable def oC (g:List Int):Option (List cw)->List (List Int×List cw)
 |none=>[]
 |some l=>[(g,l)]
noncomputable def c8 (led:cw->List cw) (n:Nat):iz->iz->iz×List (List Int×List cw)
 |f,[]=>(f,[])
 |f,(s,g)::r=>((c8 led n (lW led n f s g).1 r).1,oC g (lW led n f s g).2++(c8 led n (lW led n f s g).1 r).2)
noncomputable def cx (as:List (List Int×List cw)):iz:=as.flatMap fun a=>(zaH a.2.length).map fun i:Nat=>(a.2.getD i (0,[]),a.1++[((i:Nat):Int)])
noncomputable def ua (led:cw->List cw) (n:Nat):Nat->iz->List (List Int×List cw)->iz
 |0,f,_=>f
 |m+1,f,as=>if as=[] then f else ua led n m (c8 led n f (cx as)).1 (c8 led n f (cx as)).2
def cZ (pr:PG.Prog) (s:cw):iz:=ua (cQ pr) (bq pr+1) (bq pr+2) (lW (cQ pr) (bq pr+1) [] s []).1 (oC [] (lW (cQ pr) (bq pr+1) [] s []).2)
section
variable(P:zdw)(w:zdm)(K:zaa)(CC:zdk)(l:Expr)(qual:Str)
def CU:Sp:=fun vs H Q _=>∃(sa fo cc ch:zdk) (mE:Obj) (pr:PG.Prog) (s:cw),vs=[.ref sa,.ref fo]/\wL K CC H ch pr/\i5 pr/\cD K H sa s.1 s.2/\cU pr s/\Iw "chart" qual l H fo cc mE (.ref ch)/\bq pr<2000/\
 ∀D ax H',aq H H'->H D=none->DS jN P w K H' D ax->eR K H' (cZ pr s) ax->Q (.ref D) H'
def Iy (Pt:zdk) (lp:Pos):Sp:=fun vs H Q _=>∃(ch:zdk) (pr:PG.Prog) (ps:Array zdl),vs=[.ref ch]/\wL K CC H ch pr/\i5 pr/\bq pr<2000/\H Pt=some (.rE ps)/\TabOk qual lp H ps/\
 ∀D ax H' DD,aZ Pt H H'->H D=none->DS jN P w K H' D ax->eR K H' (cZ pr (bj pr.body 0,pr.ay.map (·.first))) ax->H' Pt=some (.rE DD)->TabOk qual lp H' DD->Q (.ref D) H'
end
section
variable{led:cw->List cw}{S:cw->Prop}
structure yV(S:cw->Prop)(f:iz):Prop where
 nd:(f.map (·.1)).Nodup
 CV:∀x∈f,S x.1
theorem yV.nil:yV S []:=⟨zb4,fun x h=>by cases h⟩
theorem yV.put{f:iz}{s:cw}{g:List Int}(h:yV S f)(n:s ∉ f.map (·.1))(hs:S s):yV S (f++[(s,g)]):=by
 refine⟨?_,fun x hx=>?_⟩
 ·rw[zaw];exact zbS.mpr ⟨h.nd,by simp,fun a ha b hb=>by rw[zam,za2,zar] at hb;rw[hb];exact fun y=>n (by rw[<- show a=s from y];exact ha)⟩
 ·rcases zaA.mp hx with hx |hx
  ·exact h.CV x hx
  ·rw[zar.mp hx];exact hs
structure vm(S:cw->Prop)(m:Nat)(as:List (List Int×List cw)):Prop where
 CV:∀a∈as,∀x∈a.2,S x
 len:∀a∈as,a.1.length<=m
theorem vm.nil{m:Nat}:vm S m []:=⟨fun a h=>(by cases h),fun a h=>(by cases h)⟩
theorem vm.app{m:Nat}{as bs:List (List Int×List cw)}(h:vm S m as)(h2:vm S m bs):vm S m (as++bs):=⟨fun a ha=>(zaA.mp ha).elim (h.CV a) (h2.CV a),fun a ha=>(zaA.mp ha).elim (h.len a) (h2.len a)⟩
theorem vn(li:∀s,S s->∀x∈led s,S x){m:Nat}:∀(n:Nat) (f:iz) (s:cw) (g:List Int),yV S f->S s->g.length<=m->yV S (lW led n f s g).1/\vm S m (oC g (lW led n f s g).2)/\f.length+(oC g (lW led n f s g).2).length<=(lW led n f s g).1.length
 |0,f,s,g,h,_,_=>⟨h,.nil,zaf _⟩
 |n+1,f,s,g,h,hs,hg=>by
  rw[lW];split
  ·exact⟨h,.nil,zaf _⟩
  ·rename_i hn;have h1:=h.put (g:=g) hn hs;split
   ·rename_i t e;have:=vn li n (f++[(s,g)]) t g h1 (li s hs t (by rw[e];exact zar.mpr rfl)) hg;refine⟨this.1,this.2.1,?_⟩;have:=this.2.2;rw[zae,zax] at this;lia
   ·refine⟨h1,⟨fun a ha x hx=>?_,fun a ha=>?_⟩,?_⟩
    ·rw[zar.mp ha] at hx;exact li s hs x hx
    ·rw[zar.mp ha];exact hg
    ·rw[zae];exact zaf _
theorem pK(li:∀s,S s->∀x∈led s,S x){m n:Nat}:∀(l:iz) (f:iz),yV S f->(∀x∈l,S x.1/\x.2.length<=m)->yV S (c8 led n f l).1/\vm S m (c8 led n f l).2/\f.length+(c8 led n f l).2.length<=(c8 led n f l).1.length
 |[],f,h,_=>⟨h,.nil,zaf _⟩
 |(s,g)::r,f,h,hl=>by
  obtain⟨a1,a2,a3⟩:=vn li n f s g h (hl _ (zaq ..)).1 (hl _ (zaq ..)).2;obtain⟨b1,b2,b3⟩:=pK li r _ a1 fun x hx=>hl x (zat _ hx);refine⟨b1,a2.app b2,?_⟩;show f.length+(oC g (lW led n f s g).2++(c8 led n (lW led n f s g).1 r).2).length<=_;rw[zae];show _<=(c8 led n (lW led n f s g).1 r).1.length;lia
theorem vo{n:Nat}:∀(l k:iz) (f:iz),c8 led n f (l++k)=((c8 led n (c8 led n f l).1 k).1,(c8 led n f l).2++(c8 led n (c8 led n f l).1 k).2)
 |[],k,f=>rfl
 |(s,g)::r,k,f=>by
  rw[zaJ,c8,vo r k];simp only[c8,za1]
theorem vp{n:Nat}{f:iz}{s:cw}{g:List Int}:c8 led n f [(s,g)]=((lW led n f s g).1,oC g (lW led n f s g).2):=by simp only[c8,zav]
theorem mH{m:Nat}{as:List (List Int×List cw)}(h:vm S m as):∀x∈cx as,S x.1/\x.2.length<=m+1:=by
 intro x hx;obtain⟨a,ha,hx⟩:=zbc.mp hx;obtain⟨i,hi,rfl⟩:=zaF.mp hx;have hi:=zb3.mp hi;refine⟨h.CV a ha _ ?_,?_⟩
 ·rw[zap,zac hi];exact zau hi
 ·have:=h.len a ha;rw[zae,zax];lia
noncomputable def lD (a:List Int×List cw) (j:Nat):iz:=(zaH j).map fun i:Nat=>(a.2.getD i (0,[]),a.1++[((i:Nat):Int)])
theorem CW{a:List Int×List cw}{as:List (List Int×List cw)}:cx (as++[a])=cx as++lD a a.2.length:=by
 unfold cx;rw[za8];simp only[zaG,zbk,zav];rfl
theorem A4{a:List Int×List cw}{j:Nat}:lD a (j+1)=lD a j++[(a.2.getD j (0,[]),a.1++[((j:Nat):Int)])]:=by
 unfold lD;rw[zbz,zaw];rfl
theorem EU{m j:Nat}{a:List Int×List cw}(h1:∀x∈a.2,S x)(h2:a.1.length<=m)(hj:j<=a.2.length):∀x∈lD a j,S x.1/\x.2.length<=m+1:=by
 intro x hx;obtain⟨i,hi,rfl⟩:=zaF.mp hx;have hi:=zb3.mp hi;refine⟨h1 _ ?_,?_⟩
 ·rw[zap,zac (by lia)];exact zau (by lia)
 ·rw[zae,zax];lia
theorem xU{n m:Nat}{f:iz}:ua led n m f []=f:=by
 cases m
 ·rfl
 ·rw[ua,zzp rfl]
end
section
variable(K:zaa)
def eL (H:Hp) (as:List (List Int×List cw)) (us:List V):Prop:=Paired (fun (a:List Int×List cw) (v:V)=>∃ta ga la uL,v=.ref ta/\bQ K H ta [.ref ga,.ref la]/\bQ K H ga (a.1.map V.int)/\H la=some (.lst uL)/\iH K H a.2 uL) as us
end
section
variable{K:zaa}{H H':Hp}
theorem eL.imp{as:List (List Int×List cw)}{us:List V}(h:eL K H as us)(t:∀a xs,bQ K H a xs->bQ K H' a xs)(l:∀a xs,H a=some (.lst xs)->H' a=some (.lst xs)):eL K H' as us:=
 Paired.Av h fun _ _ ⟨ta,ga,la,uL,e,q1,q2,q3,q4⟩=>⟨ta,ga,la,uL,e,t _ _ q1,t _ _ q2,l _ _ q3,nI q4 fun a row vals ⟨va,h1,h2⟩=>⟨va,t _ _ h1,t _ _ h2⟩⟩
theorem eL.mono{as:List (List Int×List cw)}{us:List V}(h:eL K H as us)(s:aq H H'):eL K H' as us:=h.imp (fun a xs q=>s.a7 q) fun a xs q=>s _ _ q
theorem eL.ext{as:List (List Int×List cw)}{us:List V}{D:zdk}{φ:Heap->Prop}(h:eL K H as us)(hD:H D=some (.ext φ))(u:aZ D H H'):eL K H' as us:=h.imp (fun a xs q=>q.lV hD u) fun a xs q=>u _ _ (bU q hD (by intro z;cases z)) q
theorem eL.of{H0:Hp}{us:List V}{ga b:zdk}{ys:List V}{g:List Int}{o:Option (List cw)}(h:LD K H0 H us (.ref ga) o)(q:bQ K H ga (g.map V.int))(n:H0 b≠none)(hb:H b=some (.lst ys)):eL K (wo H b) (oC g o) us:=by
 have u:aZ b H (wo H b):=wV;cases o with
 |none=>rw[show us=[] from h];exact .nil
 |some l=>
  obtain⟨ta,la,uL,rfl,q1,n1,q2,q3⟩:=h;refine .cons ⟨ta,ga,la,uL,rfl,q1.vg hb u,q.vg hb u,?_,nI q3 fun a row vals ⟨va,h1,h2⟩=>⟨va,h1.vg hb u,h2.vg hb u⟩⟩ .nil;rw[eY (fun z=>n (by rw[<- z];exact n1))];exact q2
theorem eL.of1{H0:Hp}{us:List V}{ga:zdk}{g:List Int}{o:Option (List cw)}(h:LD K H0 H us (.ref ga) o)(q:bQ K H ga (g.map V.int)):eL K H (oC g o) us:=by
 cases o with
 |none=>rw[show us=[] from h];exact .nil
 |some l=>
  obtain⟨ta,la,uL,rfl,q1,n1,q2,q3⟩:=h;exact .cons ⟨ta,ga,la,uL,rfl,q1,q,q2,q3⟩ .nil
theorem nJ{α β:Type}{R:α->β->Prop}:∀ {as:List α} {us:List β} {bs:List α} {vs:List β},Paired R as us->Paired R bs vs->Paired R (as++bs) (us++vs)
 |[],_,_,_,h,h2=>by cases h;exact h2
 |_::_,_,_,_,h,h2=>by
  cases h with
  |cons a b=>exact .cons a (nJ b h2)
theorem eZ{α β:Type}{R:α->β->Prop}:∀ {as:List α} {us:List β} {i:Nat} {v:β},Paired R as us->us[i]?=some v->∃a,as[i]?=some a/\R a v
 |[],_,_,_,h,e=>by cases h;simp at e
 |_::_,_,0,_,h,e=>by
  cases h with
  |cons a b=>cases e;exact⟨_,rfl,a⟩
 |_::_,_,i+1,_,h,e=>by
  cases h with
  |cons a b=>
   obtain⟨x,e1,e2⟩:=eZ (i:=i) b (by simpa using e);exact⟨x,by simpa using e1,e2⟩
end
def Kp (H H':Hp):Prop:=∀b o,H b=some o->(∀ps,o≠.rE ps)->H' b=some o
section
variable{K:zaa}{H H':Hp}
theorem Kp.of{Pt:zdk}{ps:Array zdl}(u:aZ Pt H H')(h:H Pt=some (.rE ps)):Kp H H':=fun b o e n=>u b o (bU e h (n ps)) e
theorem bQ.kp{a:zdk}{xs:List V}(h:bQ K H a xs)(k:Kp H H'):bQ K H' a xs:=by
 rcases h with (q |⟨o',q⟩) |q
 ·exact .inl (.inl (k _ _ q (by intro _ z;cases z)))
 ·exact .inl (.inr ⟨o',k _ _ q (by intro _ z;cases z)⟩)
 ·exact .inr q
theorem i6.kp{a:zdk}{xs:List V}(h:i6 K H a xs)(k:Kp H H'):i6 K H' a xs:=by
 rcases h with (q |⟨o',q⟩) |q
 ·exact .inl (.inl (k _ _ q (by intro _ z;cases z)))
 ·exact .inl (.inr ⟨o',k _ _ q (by intro _ z;cases z)⟩)
 ·exact .inr q
mutual
theorem vq(k:Kp H H'):∀(d:Dp) (v:V),Rep K H d v->Rep K H' d v
 |.cB,v,r=>by rw[Rep.qg] at r ⊢;exact r
 |.bl b,v,r=>by rw[Rep.lP] at r ⊢;exact r
 |.int b,v,r=>by rw[Rep.bt] at r ⊢;exact r
 |.str b,v,r=>by rw[Rep.bA] at r ⊢;exact r
 |.lst l,v,r=>by
  rw[Rep.bL] at r ⊢;obtain⟨a,ys,rfl,q,rs⟩:=r;exact⟨a,ys,rfl,i6.kp q k,ub k l ys rs⟩
 |.tup l,v,r=>by
  rw[Rep.bg] at r ⊢;obtain⟨a,ys,rfl,q,rs⟩:=r;exact⟨a,ys,rfl,bQ.kp q k,ub k l ys rs⟩
theorem ub(k:Kp H H'):∀(ds:List Dp) (vs:List V),aN K H ds vs->aN K H' ds vs
 |[],vs,r=>by rw[aN.br] at r ⊢;exact r
 |d::ds,vs,r=>by
  rw[aN.aI] at r ⊢;obtain⟨v,t,rfl,r1,r2⟩:=r;exact⟨v,t,rfl,vq k d v r1,ub k ds t r2⟩
end
theorem wL.kp{C ch:zdk}{pr:PG.Prog}(c:wL K C H ch pr)(k:Kp H H'):wL K C H' ch pr:=by
 obtain⟨dx,nl,sd,fa,va,st,wy,us,ws,h1,h2,h3,h4,h5,h6,h7,h8,h9,K8,MM,Pu⟩:=c.at_;exact⟨⟨dx,nl,sd,fa,va,st,wy,us,ws,k _ _ h1 (fun _ z=>by cases z),k _ _ h2 (fun _ z=>by cases z),k _ _ h3 (fun _ z=>by cases z),k _ _ h4 (fun _ z=>by cases z),k _ _ h5 (fun _ z=>by cases z),k _ _ h6 (fun _ z=>by cases z),h7,k _ _ h8 (fun _ z=>by cases z),ub k _ _ h9,K8,k _ _ MM (fun _ z=>by cases z),fun i hi=>let ⟨q,e,r⟩:=Pu i hi;⟨q,e,r.kp k⟩⟩⟩
theorem cD.kp{a:zdk}{row:Int}{vals:List Int}(h:cD K H a row vals)(k:Kp H H'):cD K H' a row vals:=let ⟨va,h1,h2⟩:=h;⟨va,h1.kp k,h2.kp k⟩
theorem TabOk.kp{qual:Str}{lp:Pos}{ps:Array zdl}(h:TabOk qual lp H ps)(k:Kp H H'):TabOk qual lp H' ps:=by
 rcases h with h |⟨c',oc,vs,tk,e,h1,h2,h3⟩
 ·exact .inl h
 ·exact .inr ⟨c',oc,vs,tk,e,k _ _ h1 (fun _ z=>by cases z),h2,h3⟩
theorem Kp.same(s:aq H H'):Kp H H':=fun b o e _=>s b o e
end
section
variable(ask:Int->Bool)(step:Int->List Int->Int->Option (Int×List Int)×Option Int)
noncomputable def fe:iz->List cw->List Int->iz×iz
 |f,[],_=>(f,[])
 |f,x::r,g=>if x∈f.map (·.1) then fe f r g else ((fe (f++[(x,g)]) r g).1,(if ask x.1=true then [(x,g)] else [])++(fe (f++[(x,g)]) r g).2)
noncomputable def nextJ (a:cw×List Int) (j:Nat):iz:=(zaH j).map fun i:Nat=>((step a.1.1 a.1.2 i).1.getD a.1,a.2++[((i:Nat):Int)])
def lE (as:iz):iz:=as.flatMap fun a=>nextJ step a 10
def Cl (f:iz) (Q:cw->Prop):Prop:=∀x∈f.map (·.1),x.1≠0->ask x.1=false->∀y,(step x.1 x.2 0).1=some y->y∈f.map (·.1)\/Q y
def WM:List cw->Prop
 |x::y::r=>(x.1≠0/\ask x.1=false/\(step x.1 x.2 0).1=some y)/\WM (y::r)
 |_=>True
end
section
variable{ask:Int->Bool}{step:Int->List Int->Int->Option (Int×List Int)×Option Int}
theorem LG:∀(g:List cw),(∀i (h:i+1<g.length),g[i].1≠0/\ask g[i].1=false/\(step g[i].1 g[i].2 0).1=some g[i+1])->WM ask step g
 |[],_=>trivial
 |[_],_=>trivial
 |x::y::r,h=>⟨h 0 (by simp),LG (y::r) fun i hi=>h (i+1) (by simp at hi ⊢;lia)⟩
theorem LH{f:iz}(c:Cl ask step f fun _=>False):∀(g:List cw) (s:cw),WM ask step (s::g)->s∈f.map (·.1)->∀x∈s::g,x∈f.map (·.1)
 |[],s,_,h,x,hx=>by rw[zar.mp hx];exact h
 |y::r,s,⟨⟨h0,ha,hs⟩,h2⟩,h,x,hx=>by
  rcases zag.mp hx with rfl |hx
  ·exact h
  ·exact LH c r y h2 ((c s h h0 ha y hs).resolve_right id) x hx
theorem GF{g:List Int}{f:iz}:∀(l:List cw),(∀x∈l,x∈f.map (·.1))->fe ask f l g=(f,[])
 |[],_=>rfl
 |x::r,h=>by
  rw[fe,zzp (h x (zaq ..))];exact GF r fun y hy=>h y (zat _ hy)
theorem xV{g:List Int}:∀(l k:List cw) (f:iz),fe ask f (l++k) g=((fe ask (fe ask f l g).1 k g).1,(fe ask f l g).2++(fe ask (fe ask f l g).1 k g).2)
 |[],k,f=>rfl
 |x::r,k,f=>by
  rw[zaJ,fe,fe];split
  ·exact xV r k f
  ·rw[xV r k,za1]
theorem wW{S:cw->Prop}{g:List Int}:∀(l:List cw) (f:iz),yV S f->(∀x∈l,S x)->yV S (fe ask f l g).1/\(∀a∈(fe ask f l g).2,S a.1/\ask a.1.1=true/\a.2=g)/\f.length+(fe ask f l g).2.length<=(fe ask f l g).1.length
 |[],f,h,_=>⟨h,fun a ha=>(by cases ha),zaf _⟩
 |x::r,f,h,hl=>by
  rw[fe];split
  ·exact wW r f h fun y hy=>hl y (zat _ hy)
  ·rename_i hx;obtain⟨a1,a2,a3⟩:=wW (g:=g) r (f++[(x,g)]) (h.put hx (hl x (zaq ..))) fun y hy=>hl y (zat _ hy);rw[zae,zax] at a3;refine⟨a1,fun a ha=>?_,?_⟩
   ·rcases zaA.mp ha with ha |ha
    ·split at ha
     ·rename_i hk;rw[zar.mp ha];exact⟨hl x (zaq ..),hk,rfl⟩
     ·cases ha
    ·exact a2 a ha
   ·show f.length+((if ask x.1=true then [(x,g)] else [])++_).length<=_;rw[zae];show _<=(fe ask (f++[(x,g)]) r g).1.length;split
    ·rw[zax];lia
    ·rw[zaB];lia
theorem Ah{a b:iz}:lE step (a++b)=lE step a++lE step b:=za8
theorem EW{a:cw×List Int}{j:Nat}:nextJ step a (j+1)=nextJ step a j++[((step a.1.1 a.1.2 (j:Nat)).1.getD a.1,a.2++[((j:Nat):Int)])]:=by
 unfold nextJ;rw[zbz,zaw];rfl
theorem vt:∀(a:iz),(lE step a).length=10*a.length
 |[]=>rfl
 |x::r=>by
  show ((nextJ step x 10)++lE step r).length=_;rw[zae,vt r,zah];unfold nextJ;rw[zad,zbt];lia
end
theorem EX{a b:List (List Int×List cw)}:cx (a++b)=cx a++cx b:=za8
theorem GG{pr:PG.Prog}(d:i5 pr){fig:List Int}:∀(r:List cw) (n:Nat) (f:iz) (s:cw),(s::r).length<=n->WM (dq pr.body) (bZ pr) (s::r)->
 (∀x,(s::r).getLast?=some x->x.1=0\/dq pr.body x.1=true\/(bZ pr x.1 x.2 0).1=none\/∃y,(y∈s::r\/y∈f.map (·.1))/\(bZ pr x.1 x.2 0).1=some y)->Cl (dq pr.body) (bZ pr) f (·=s)->
 (lW (cQ pr) n f s fig).1=(fe (dq pr.body) f (s::r) fig).1/\cx (oC fig (lW (cQ pr) n f s fig).2)=lE (bZ pr) (fe (dq pr.body) f (s::r) fig).2/\Cl (dq pr.body) (bZ pr) (fe (dq pr.body) f (s::r) fig).1 (fun _=>False)
 |r,0,f,s,hn,_,_,_=>by simp at hn
 |r,n+1,f,s,hn,hc,hl,cl=>by
  by_cases hs:s∈f.map (·.1)
  ·have cl0:Cl (dq pr.body) (bZ pr) f (fun _=>False):=fun x hx h0 ha y hy=>(cl x hx h0 ha y hy).elim .inl fun e=>.inl (e▸hs);rw[lW,zzp hs,GF _ (LH cl0 r s hc hs)];exact⟨rfl,rfl,cl0⟩
  have fin:∀y,y∈f.map (·.1)\/y=s↔y∈(f++[(s,fig)]).map (·.1):=fun y=>by simp
  have US:∀Q:cw->Prop,(s.1≠0->dq pr.body s.1=false->∀y,(bZ pr s.1 s.2 0).1=some y->y∈(f++[(s,fig)]).map (·.1)\/Q y)->Cl (dq pr.body) (bZ pr) (f++[(s,fig)]) Q:=fun Q hQ x hx h0 ha y hy=>by
   rcases(fin x).mpr hx with hx |rfl
   ·exact .inl ((fin y).mp (cl x hx h0 ha y hy))
   ·exact hQ h0 ha y hy
  match r,hn,hc,hl with
  |q::r,hn,⟨⟨h0,ha,hq⟩,hc⟩,hl=>
   have el:cQ pr s=[q]:=by unfold cQ;rw[zzn h0,zzn (by rw[ha];decide),hq];rfl
   rw[lW,zzn hs,el,fe,zzn hs,zzn (by rw[ha];decide),zaK];refine GG d r n (f++[(s,fig)]) q (by simp at hn ⊢;lia) hc (fun x hx=>?_) (US _ fun _ _ y hy=>.inr (by rw[hq] at hy;cases hy;rfl));rcases hl x (by rw[List.getLast?_cons_cons];exact hx) with z |z |z |⟨y,hy,z⟩
   ·exact .inl z
   ·exact .inr (.inl z)
   ·exact .inr (.inr (.inl z))
   ·refine .inr (.inr (.inr ⟨y,?_,z⟩));rcases hy with hy |hy
    ·rcases zag.mp hy with rfl |hy
     ·exact .inr ((fin _).mp (.inr rfl))
     ·exact .inl hy
    ·exact .inr ((fin _).mp (.inl hy))
  |[],hn,hc,hl=>
   have ea:fe (dq pr.body) f [s] fig=(f++[(s,fig)],if dq pr.body s.1=true then [(s,fig)] else []):=by rw[fe,zzn hs,fe,zav]
   rw[ea];by_cases h0:s.1=0
   ·have el:cQ pr s=[]:=by unfold cQ;rw[zzp h0]
    rw[lW,zzn hs,el,h0,tY d.ok];exact⟨rfl,rfl,US _ fun z=>zzb h0 z⟩
   cases ha:dq pr.body s.1 with
   |true=>
    have el:cQ pr s=(zaH 10).map fun f=>((bZ pr s.1 s.2 (f:Nat)).1.getD s):=by unfold cQ;rw[zzn h0,zzp ha]
    rw[lW,zzn hs];refine⟨?_,?_,US _ fun _ z=>by rw[ha] at z;cases z⟩
    ·rw[el];rfl
    ·rw[el];show cx [(fig,_)]=lE _ [(s,fig)];rfl
   |false=>
    have el:cQ pr s=(bZ pr s.1 s.2 0).1.toList:=by unfold cQ;rw[zzn h0,zzn (by rw[ha];decide)]
    rw[lW,zzn hs,el];cases e:(bZ pr s.1 s.2 0).1 with
    |none=>exact⟨rfl,rfl,US _ fun _ _ y hy=>by rw[e] at hy;cases hy⟩
    |some y=>
     have hy:y∈(f++[(s,fig)]).map (·.1):=by
      rcases hl s rfl with z |z |z |⟨y',hy,z⟩
      ·exact zzb z h0
      ·rw[ha] at z;cases z
      ·rw[e] at z;cases z
      ·rw[e] at z;cases z;rcases hy with hy |hy
       ·exact(fin _).mp (.inr (zar.mp hy))
       ·exact(fin _).mp (.inl hy)
     have eg:lW (cQ pr) n (f++[(s,fig)]) y fig=(f++[(s,fig)],none):=by
      cases n with
      |zero=>rfl
      |succ n=>rw[lW,zzp hy]
     simp only[zby,eg];exact⟨trivial,rfl,US _ fun _ _ y' QW=>by rw[e] at QW;cases QW;exact .inl hy⟩
theorem Oj{pr:PG.Prog}(d:i5 pr){fig:List Int}{n:Nat}{f:iz}{s:cw}{g:List cw}(sg:PG.Seg (dq pr.body) (bZ pr) s g)(hn:g.length<=n)(cl:Cl (dq pr.body) (bZ pr) f fun _=>False) :
 (lW (cQ pr) n f s fig).1=(fe (dq pr.body) f g fig).1/\cx (oC fig (lW (cQ pr) n f s fig).2)=lE (bZ pr) (fe (dq pr.body) f g fig).2/\Cl (dq pr.body) (bZ pr) (fe (dq pr.body) f g fig).1 (fun _=>False):=by
 have h:=sg.head;cases g with
 |nil=>cases h
 |cons x r=>
  cases h;exact GG d r n f s hn (LG _ sg.mid) (fun x hx=>by
   rcases sg.last x hx with z |z |z |⟨y,hy,z⟩
   ·exact .inl z
   ·exact .inr (.inl z)
   ·exact .inr (.inr (.inl z))
   ·exact .inr (.inr (.inr ⟨y,.inl hy,z⟩))) fun x hx h0 ha y hy=>.inl ((cl x hx h0 ha y hy).resolve_right id)
end L2
namespace L2
open PG
open PySem PySem.Spec PyProof.Rows
abbrev jA (pr:PG.Prog):cw:=(bj pr.body 0,pr.ay.map (·.first))
section
variable(P:zdw)(w:zdm)(K:zaa)(CC:zdk)
def LI:Sp:=fun vs H Q _=>∃(md:zdk) (pr:PG.Prog),vs=[.ref md]/\eW K H md pr/\i5 pr/\bq pr<2000/\
 ∀D ax H',aq H H'->H D=none->DS jN P w K H' D ax->eR K H' (cZ pr (jA pr)) ax->Q (.ref D) H'
def Ol:Sp:=fun vs H Q _=>∃(md sa:zdk) (pr:PG.Prog) (s:cw),vs=[.ref md,.ref sa]/\eW K H md pr/\i5 pr/\cD K H sa s.1 s.2/\cU pr s/\bq pr<=2000000/\
 ∀l us g H',aq H H'->H l=none->H' l=some (.lst us)->iH K H' g us->PG.Seg (dq pr.body) (bZ pr) s g->(∀x∈g,cU pr x)->g.length<=bq pr->Q (.ref l) H'
def vv (H:Hp) (lv:iz) (us:List V):Prop:=Paired (fun (x:cw×List Int) (v:V)=>∃ta ga sa,v=.ref ta/\bQ K H ta [.ref ga,.ref sa]/\bQ K H ga (x.2.map V.int)/\cD K H sa x.1.1 x.1.2) lv us
def A9 (Pt:zdk):Sp:=fun vs H Q _=>∃(a:zdk) (ns:List Int),vs=[.ref a]/\i6 K H a (ns.map V.int)/\ns.length<=63/\H Pt=some (.rE #[])/\∀H',Q (.bl true) H'
end
section
variable{K:zaa}{H H':Hp}
theorem vv.imp{lv:iz}{us:List V}(h:vv K H lv us)(t:∀a xs,bQ K H a xs->bQ K H' a xs):vv K H' lv us:=
 Paired.Av h fun _ _ ⟨ta,ga,sa,e,q1,q2,va,q3,q4⟩=>⟨ta,ga,sa,e,t _ _ q1,t _ _ q2,va,t _ _ q3,t _ _ q4⟩
end
end L2
namespace PG
theorem CY(sc:List Int)(lT:Int):∀(n k p:Nat),∀x∈(bH sc lT n k p).1,x.size<=4
 |0,k,p,x,h=>by simp[bH] at h
 |n+1,k,p,x,h=>by
  rw[bH] at h;simp only[zag] at h;rcases h with rfl |h
  ·simp only;lia
  ·exact CY sc lT n (k+1) (p+2) x h
theorem Ba(sc:List Int)(p:Nat):∀x∈fk sc p,x.size<=4:=CY sc _ _ _ _
theorem Ai:∀(ss:List Int),(∀s∈ss,s<=4)->(vj ss).length<=4 ^ ss.length
 |[],_=>by simp[vj]
 |s::r,h=>by
  have ih:=Ai r fun x hx=>h x (zat _ hx);have hs:=h s (zaq ..);have k:∀n:Nat,((zaH n).flatMap fun (v:Nat)=>(vj r).map fun t=>((v:Int)::t)).length=n*(vj r).length:=fun n=>by
   induction n with
   |zero=>simp
   |succ n ih=>rw[zbz,za8,zae,ih];simp[Nat.succ_mul]
  rw[vj,k,zah,zcE,Nat.mul_comm (4 ^ r.length)];exact zc3 (by lia) ih
end PG
namespace L2
open PG
open PySem PySem.Spec PyProof.Rows
theorem TabOk.up{H H':Hp}{qual:Str}{lp:Pos}{ps:Array zdl}(h:TabOk qual lp H ps)(k:∀b φ,H b=some (.ext φ)->H' b=some (.ext φ)):TabOk qual lp H' ps:=by
 rcases h with h |⟨c',oc,vs,tk,e,h1,h2,h3⟩
 ·exact .inl h
 ·exact .inr ⟨c',oc,vs,tk,e,k _ _ h1,h2,h3⟩
theorem GH{led:cw->List cw}{S:cw->Prop}(li:∀s,S s->∀x∈led s,S x){n:Nat}:∀(m k:Nat) (f:iz) (as:List (List Int×List cw)),yV S f->vm S k as->yV S (ua led n m f as)
 |0,_,f,as,h,_=>h
 |m+1,k,f,as,h,h2=>by
  rw[ua];split
  ·exact h
  ·have:=pK li (n:=n) (m:=k+1) (cx as) f h (mH h2);exact GH li m (k+1) _ _ this.1 this.2.1
theorem CZ{pr:PG.Prog}(d:i5 pr):yV (cU pr) (cZ pr (jA pr)):=by
 have li:∀s,cU pr s->∀x∈cQ pr s,cU pr x:=fun s h=>t9 d h;have:=vn li (m:=0) (bq pr+1) [] (jA pr) [] .nil (cU.first d) (zaf _);exact GH li _ 0 _ _ this.1 this.2.1
theorem LJ{pr:PG.Prog}{n:Nat}(h1:(bV pr.body).length<=n)(h2:∀b∈pr.ay,b.size<=4)(h3:pr.ay.length<=3):bq pr<=(n+1)*64:=by
 unfold bq;rw[Lj];have l1:(GB pr).length+1<=n+1:=by unfold GB;rw[zad,mB];lia
 have l2:=Ai (jO pr) fun s hs=>by
  obtain⟨b,hb,rfl⟩:=zaF.mp hs;exact h2 b hb
 have l3:4 ^ (jO pr).length<=4 ^ 3:=za4 (by decide) (by unfold jO;rw[zad];exact h3);exact zc3 l1 (zay l2 l3)
section
variable{prog:zdw}{w:zdm}{A:zdv}{E:zdl->zdu->Prop}{s:zdu}{d it:zdk}{es:Array DictEntry}{ep i:Nat}
theorem C0(d:zdk)(hd:(d==sysModules)=false) :
 MeetsIn prog w (Builtin.«dict.items» ⟨[.ref d],[]⟩) (fun _ R s=>(∃es ep,iu s.heap d es ep)/\R (.ok (.ret (.ref s.heap.objs.size))) {s with heap:=s.heap.push {cls:=.type "dict_items",data:=.fields #[.ref d]} }):=
 .of_wp fun A R s ⟨⟨es,ep,en⟩,h⟩=>by
  unfold Builtin.«dict.items»;refine zdn ?_;unfold Builtin.Dict.noArgs;refine zdn (wpAny_notOrdered_dict en.ty ?_);show wpAny _ _ (pure d) _ _ s;refine zdo ?_;show wpAny _ _ (Builtin.Dict.showsAll d >>= _) _ _ s;unfold Builtin.Dict.showsAll;rw[zzn (by rw[hd];exact zai)];refine zdn (zdo ?_);exact zdn (wpAny_newObj_type (zdo ⟨_,rfl,h⟩))
theorem Iz{v:zdk}{Q:zdl->zdu->Prop}(hv:s.heap.IsItemsView v d)(en:iu s.heap d es ep)
 (q:Q (.ref s.heap.objs.size) {s with heap:=s.heap.push {cls:=.type "dict_itemiterator",data:=.fields #[.none,.bool false,.ref d,.int 0 0,.int es.size 0,.int ep 0,.none,.none]} }) :
 wpAny (model prog w) A (pyIter (.ref v)) Q E s:=by
 obtain⟨ov,gv,cv,dv⟩:=id hv;obtain⟨o,ho,hc,dt⟩:=id en;refine wpAny_pyIter_slot hv.typeIs F.slot_dict_items_iter (wpAny_call_entry F.slot_dict_items_iter hv.typeIs F.entry_dict_items_iter ?_ (F.args_dict_items_iter_1 _));unfold Builtin.«dict_items.__iter__»;refine zdn (zdo (zdn ?_));unfold Builtin.Dict_items.dictOf;refine zdn (wpAny_field gv dv (x:=.ref d) rfl (zdo (zdn ?_)));unfold Builtin.Dict_items.newIterator;refine zdn (wpAny_dictEntries ho dt (zdn (wpAny_dictEpoch ho dt ?_)));have ow:Builtin.Dict_items.ownsTuple "dict_itemiterator"=true:=by decide
 simp only[ow,if_true];refine wpAny_newObj_type (zdo ⟨_,rfl, "dict_itemiterator",_,⟨_,Heap.get?_push_size _ rfl,rfl⟩,F.slot_dict_itemiterator_next.lookup,?_⟩)
  (by simp only[sizeOk,Builtin.Dict_items.ownedTupleFields,zas,zae,zah,zaB,sizeLine_eq];omega)
 simpa[rawInt,Builtin.Dict_items.ownedTupleFields] using q
theorem IA{ok ov:zdl}{Q:Option zdl->zdu->Prop}(st:IsItemIter s.heap it d i es.size ep ok ov)(en:iu s.heap d es ep)(li:i<es.size)
 (q:∀h',IsItemIterOut h' it d (i+1) es.size ep es[i].key es[i].val s.heap.objs.size->h'.get? s.heap.objs.size=some {cls:=.type "tuple",data:=.seq #[es[i].key,es[i].val]}->h'.objs.size=s.heap.objs.size+1->
  (∀b o,b≠it->s.heap.get? b=some o->h'.get? b=some o)->Q (some (.ref s.heap.objs.size)) {s with heap:=h' }) :
 wpAny (model prog w) A (pyNext (.ref it)) Q E s:=by
 obtain⟨hp,g,dr,tk,os⟩:=s;obtain⟨od,K3,cod,UT⟩:=id en;have hT:Shared.TypeIs ⟨hp,g,dr,tk,os⟩ (.ref it) "dict_itemiterator":=⟨_,st,rfl⟩
 unfold pyNext;refine zdn (wpAny_attempt (wpAny_callSpecial?_slot (name:=zab "__next__") hT F.slot_dict_itemiterator_next (wpAny_call_entry F.slot_dict_itemiterator_next hT F.entry_dict_itemiterator_next ?_ (F.args_dict_itemiterator_next_1 _))));refine zdn (zdo (zdn (zdn ?_)));refine zdn (wpAny_typeNameOfWhole_itemiter hT (zdo (zdn (wpAny_fieldsOf st rfl ?_))));have ow:Builtin.Dict_items.ownsTuple "dict_itemiterator"=true:=by decide
 simp only[ow,if_true];show wpAny _ _ (if (Value.ref d==Value.none)=true then _ else _) _ _ _;rw[zzn (show ¬((Value.ref d==Value.none)=true) from zai)];refine zdn (zdo (zdn (wpAny_dictEntries K3 UT ?_)));rw[zzn (by simp)];refine zdn (zdo (zdn (wpAny_dictEpoch K3 UT ?_)));rw[zzn (by simp)];refine zdo ?_;simp only[show ¬((i:Int)<0) from by first|decide|omega,if_false,za0,zbi li];refine zdn (zdn (wpAny_typeNameOfWhole_itemiter hT (zdo (zdn (wpAny_isOneOf_itemiter hT ?_)))));show wpAny _ _ (setField (.ref it) 3 (rawInt ((i:Int)+1)) >>= _) _ _ ⟨hp,g,dr,tk,os⟩;refine zdn (wpAny_setField_rec st (by simp) fun ga ea sa=>?_);replace sa:Heap.SameBut it hp ga:=sa;replace ea:IsItemIter ga it d (i+1) es.size ep ok ov:=by
  have e:((i+1:Nat):Int)=(i:Int)+1:=by first|decide|omega
  unfold IsItemIter;rw[e];simpa[rawInt] using ea
 have ta:Shared.TypeIs ⟨ga,g,dr,tk,os⟩ (.ref it) "dict_itemiterator":=⟨_,ea,rfl⟩
 refine zdn (zdp (zdn (wpAny_isOneOf_itemiter ta (zdn (wpAny_isOneOf_itemiter ta ?_)))));show wpAny _ _ (Builtin.Dict_items.pairFromOwner (.ref it) 6 es[i].key es[i].val) _ _ ⟨ga,g,dr,tk,os⟩;unfold Builtin.Dict_items.pairFromOwner;refine zdn (wpAny_newTuple ?_);have eb:IsItemIter (ga.push {cls:=.type "tuple",data:=.seq #[es[i].key,es[i].val]}) it d (i+1) es.size ep ok ov:=Heap.get?_push_of_some _ ea;generalize qb:ga.push {cls:=.type "tuple",data:=.seq #[es[i].key,es[i].val]}=gb at eb;have za:ga.objs.size=hp.objs.size:=sa.1;have lti:it<hp.objs.size:=Heap.lt_size st;have tb:gb.get? hp.objs.size=some {cls:=.type "tuple",data:=.seq #[es[i].key,es[i].val]}:=by rw[<- qb,<- za];exact Heap.get?_push_size _ rfl
 have zb:gb.objs.size=hp.objs.size+1:=by rw[<- qb,Heap.size_push,za]
 have kb:∀b o,b≠it->hp.get? b=some o->gb.get? b=some o:=fun b o hb e=>by rw[<- qb];exact Heap.get?_push_of_some _ (sa.extBut b o hb e)
 show wpAny _ _ (Builtin.Dict_items.ownedTupleIsFree (.ref it) >>= _) _ _ ⟨gb,g,dr,tk,os⟩;rw[za];clear qb ea sa ta za ga;refine zdn ?_;unfold Builtin.Dict_items.ownedTupleIsFree;refine zdn (wpAny_field eb rfl (x:=.none) rfl (zdo ?_));simp only[if_true];refine zdn (wpAny_field eb rfl (x:=ok) rfl (zdn (wpAny_field eb rfl (x:=ov) rfl ?_)));refine zdn (wpAny_setField_rec eb (by simp) fun gc ec sc=>?_);replace ec:IsItemIter gc it d (i+1) es.size ep es[i].key ov:=ec;refine zdn (wpAny_setField_rec ec (by simp) fun gd ed sd=>?_);replace ed:IsItemIter gd it d (i+1) es.size ep es[i].key es[i].val:=ed;refine zdn (wpAny_setField_rec ed (by simp) fun ge ee se=>?_);replace ee:IsItemIterOut ge it d (i+1) es.size ep es[i].key es[i].val hp.objs.size:=ee;refine zdn (wpAny_setField_rec ee (by simp) fun gf ef sf=>?_);replace ef:IsItemIterOut gf it d (i+1) es.size ep es[i].key es[i].val hp.objs.size:=ef;have all:∀b o,b≠it->gb.get? b=some o->gf.get? b=some o:=fun b o hb e=>sf.extBut b o hb (se.extBut b o hb (sd.extBut b o hb (sc.extBut b o hb e)));refine zdn (wpAny_letGo (zdo (zdo ⟨_,rfl,zdo (q gf ef (all _ _ (zbM lti) tb) ?_ fun b o hb e=>all b o hb (kb b o hb e))⟩)));show gf.objs.size=hp.objs.size+1;rw[sf.1,se.1,sd.1,sc.1];exact zb
theorem LK{ok ov:zdl}{Q:Option zdl->zdu->Prop}(hA:A.handled=none)(st:IsItemIter s.heap it d i es.size ep ok ov)(en:iu s.heap d es ep)(li:es.size<=i)
 (q:∀h',Heap.ExtBut it s.heap h'->Q none {s with heap:=h' }):wpAny (model prog w) A (pyNext (.ref it)) Q E s:=by
 obtain⟨od,K3,cod,UT⟩:=id en;have hT:s.TypeIs (.ref it) "dict_itemiterator":=⟨_,st,rfl⟩
 unfold pyNext;refine zdn (wpAny_attempt (wpAny_callSpecial?_slot (name:=zab "__next__") hT F.slot_dict_itemiterator_next (wpAny_call_entry F.slot_dict_itemiterator_next hT F.entry_dict_itemiterator_next ?_ (F.args_dict_itemiterator_next_1 _))));refine zdn (zdo (zdn (zdn ?_)));refine zdn (wpAny_typeNameOfWhole_itemiter hT (zdo (zdn (wpAny_fieldsOf st rfl ?_))));have ow:Builtin.Dict_items.ownsTuple "dict_itemiterator"=true:=by decide
 simp only[ow,if_true];show wpAny _ _ (if (Value.ref d==Value.none)=true then _ else _) _ _ s;rw[zzn (show ¬((Value.ref d==Value.none)=true) from zai)];refine zdn (zdo (zdn (wpAny_dictEntries K3 UT ?_)));rw[zzn (by simp)];refine zdn (zdo (zdn (wpAny_dictEpoch K3 UT ?_)));rw[zzn (by simp)];refine zdo ?_;simp only[show ¬((i:Int)<0) from by first|decide|omega,if_false,za0,zcX li];refine zdn (zdn (wpAny_typeNameOfWhole_itemiter hT (zdo ?_)));show wpAny _ _ (setField (.ref it) 2 .none >>= _) _ _ s;refine zdn (wpAny_setField st rfl (by simp) ?_);show wpAny _ _ (newExc (.type "StopIteration") [] >>= _) _ _ _;refine zdn ?_;simp only[newExc,newTuple];refine zdn (wpAny_newObj_type (zdn (m:=firstArgMember _ _) (wpAny_of_eq (a:=Value.none) (by first |rfl |(simp only[firstArgMember];rfl)) (wpAny_newObj_type ?_ (by size_fits)))) (by size_fits));simp only[raiseNew];refine zdn (wpAny_handled ?_);rw[show A.in1.handled=none from hA];refine zdn (zdo (wpAny_throw (zdn ?_)));refine wpAny_isInstance (T:="StopIteration") (b:=true) ⟨_,Heap.get?_push_size _ rfl,rfl⟩ isSubtype_stop ?_;exact zdo (q _ (((Heap.SameBut.update ..).extBut.push _).push _))
end
def EV (ps:List (zdk×V)) (es:Array DictEntry):Prop:=Paired (fun (p:zdk×V) (e:DictEntry)=>e.key=.ref p.1/\RelV p.2 e.val) ps es.toList
theorem EV.size{ps:List (zdk×V)}{es:Array DictEntry}(h:EV ps es):es.size=ps.length:=by rw[<- za7];exact(Paired.length h).symm
theorem EV.at{ps:List (zdk×V)}{es:Array DictEntry}(h:EV ps es){i:Nat}(hi:i<es.size):∃b v,ps[i]?=some (b,v)/\es[i].key=.ref b/\RelV v es[i].val:=by
 obtain⟨⟨b,v⟩,e,e2⟩:=eZ h (i:=i) (v:=es[i]) (by rw[zaY,zbi hi]);exact⟨b,v,e,e2.1,e2.2⟩
def SX (d:zdk) (o:Obj) (ps:List (zdk×V)):It:=
 ⟨fun i H=>H d=some (eX d o)/\i<ps.length,fun i H x H'=>H'=H/\∃b v,x=.ref b/\ps[i]?=some (b,v),fun i H=>H d=some (eX d o)/\ps.length<=i⟩
def Itm (d:zdk) (o:Obj) (ps:List (zdk×V)):It:=
 ⟨fun i H=>H d=some (eX d o)/\i<ps.length,fun i H x H'=>∃p b v,x=.ref p/\H p=none/\H'=upd H p (.tup [.ref b,v])/\ps[i]?=some (b,v),fun i H=>H d=some (eX d o)/\ps.length<=i⟩
theorem IB{P:zdw}{w:zdm}{K:zaa}{tg:Expr}{d it:zdk}{o:Obj}{ps:List (zdk×V)}{es:Array DictEntry}{ep:Nat}(hx:o.ExactDict)(hd:o.data=.dict es ep)(ev:EV ps es) :
 Turn P w K tg (SX d o ps) [it] it (fun i h=>h.IsKeyIter it d i es.size ep) where
 mem:=by simp
 obj:=fun i h st b hb=>by
  obtain⟨oi,eo,c,dd⟩:=st;have z:b=it:=by simpa using hb
  subst z;exact⟨oi,eo,fun v z=>by rw[dd] at z;cases z⟩
 keep:=fun i h h' st k=>st.at fun o x=>k it (by simp) o x
 item:=by
  intro X hP hw hK hc i pins s σ H E I hf st hg;subst hP hw hK;obtain⟨hH,hi⟩:=hg;rw[<- ev.size] at hi;obtain⟨f0,f1,f2,f3,f4,f5⟩:=hf it (by simp);obtain⟨b,v,e1,e2,_⟩:=ev.at hi;refine CO st ⟨o,eX.get I.cM hH,hx,hd⟩ hi fun h' G7 sb=>?_;obtain⟨oi,eo,c,dd⟩:=id G7;refine⟨_,rfl,FC (s:={s with heap:=h' }) (n:="dict_keyiterator") eo c dd (by decide) ⟨.ref b,H,I.turned (t':=s.toks) (fun b o hb e=>sb.extBut b o hb e) f0 f1 f3 f4 f5,e2,⟨rfl,b,v,rfl,e1⟩,G7,fun b hb=>(hf b hb).1⟩⟩
 done:=by
  intro X hP hw hK hc i pins s σ H E I hf st hg;subst hP hw hK;obtain⟨hH,hi⟩:=hg;rw[<- ev.size] at hi;obtain⟨f0,f1,f2,f3,f4,f5⟩:=hf it (by simp);exact Gy (I.ok.hd hc) st ⟨o,eX.get I.cM hH,hx,hd⟩ hi fun h' eb=>⟨rfl,I.turned (t':=s.toks) (fun b o hb e=>eb b o hb e) f0 f1 f3 f4 f5⟩
 self:=fun _ _ _ _ _ st h=>wpAny_pyIter_keyiter st h
theorem EY{P:zdw}{w:zdm}{K:zaa}{elts:List Expr}{x1}{pos:Pos}{d it:zdk}{o:Obj}{ps:List (zdk×V)}{es:Array DictEntry}{ep:Nat}(hx:o.ExactDict)(hd:o.data=.dict es ep)(ev:EV ps es) :
 Turn P w K (.Tuple elts x1 pos) (Itm d o ps) [it] it (fun i h=>∃ok ov,IsItemIter h it d i es.size ep ok ov) where
 mem:=by simp
 obj:=fun i h st b hb=>by
  obtain⟨ok,ov,he⟩:=st;have z:b=it:=by simpa using hb
  subst z;exact⟨_,he,fun v z=>by cases (show Data.fields _=Data.cell v from z)⟩
 keep:=fun i h h' st k=>let ⟨ok,ov,he⟩:=st;⟨ok,ov,k it (by simp) _ he⟩
 item:=by
  intro X hP hw hK hc i pins s σ H E I hf st hg;subst hP hw hK;obtain⟨hH,hi⟩:=hg;rw[<- ev.size] at hi;obtain⟨b,v,e1,e2,rv⟩:=ev.at hi;obtain⟨ok,ov,he⟩:=st;refine IA he ⟨o,eX.get I.cM hH,hx,hd⟩ hi fun h' ho hT hsz hk=>?_;refine⟨_,rfl,?_⟩;refine wpAny_letOwnedTupleGo_items ho fun h2 SR sb=>?_;have F7:it<s.heap.objs.size:=Heap.lt_size he;have I1:Inv X pins σ H {s with heap:=h2,toks:=s.toks}:=I.qh (t':=s.toks) (fun b o hb q=>(sb.2 b fun z=>hb (by simp[z])).trans (hk b o (fun z=>hb (by simp[z])) q)) hf;have fr:H s.heap.objs.size=none:=I.cM.fresh (zaf _);obtain⟨g0,g1,g2,g3,g4,g5⟩:=I.B1 (zaf _) fr;have NA:h2.get? s.heap.objs.size=some {cls:=.type "tuple",data:=.seq #[es[i].key,es[i].val]}:=(sb.2 _ (zbM F7)).trans hT;rw[e2] at NA;have I2:=I1.told (o:=.tup [.ref b,v]) fr I.sz g1 g4 g5 ⟨(show (2:Nat)<=zds by decide),[.ref b,es[i].val],.cons rfl (.cons rv .nil),⟨_,NA,rfl,_,rfl⟩⟩;refine⟨.ref s.heap.objs.size,_,I2,rfl,⟨_,b,v,rfl,fr,rfl,e1⟩,⟨_,_,SR⟩,fun c hb=>?_⟩;have z:c=it:=by simpa using hb
  subst z;rw[aw (zaD F7)];exact(hf c hb).1
 done:=by
  intro X hP hw hK hc i pins s σ H E I hf st hg;subst hP hw hK;obtain⟨hH,hi⟩:=hg;rw[<- ev.size] at hi;obtain⟨ok,ov,he⟩:=st;exact LK (I.ok.hd hc) he ⟨o,eX.get I.cM hH,hx,hd⟩ hi fun h' eb=>⟨rfl,I.qh (t':=s.toks) (fun b o hb q=>eb b o (fun z=>hb (by simp[z])) q) hf⟩
 self:=fun _ _ _ _ _ st h=>let ⟨_,_,he⟩:=st;PySem.W.kcp_self he h
section
variable{prog:zdw}{w:zdm}{κ:Type}[DecidableEq κ]{knd:HeapKind prog w κ}{A:zdv}{E:zdl->zdu->Prop}{s:zdu}
theorem Om{d a:zdk}{xs:List (κ×zdk×zdl)}{k:κ}{v:zdl}{Q:zdl->zdu->Prop}(hu:knd.room A)(DV:knd.is s.heap k a)(hm:s.heap.DictOfH knd d xs)(hsz:xs.length<=zds)
 (h1:∀p,atKey xs k=some p->Q p.2 {s with toks:=s.toks+knd.draws k})
 (h2:atKey xs k=none->∀h',h'.DictOfH knd d (storedH xs k a v)->Heap.SameBut d s.heap h'->Q v {s with heap:=h',toks:=s.toks+knd.draws k}) :
 wpAny (model prog w) A (dictSetDefault d (.ref a) v) Q E s:=by
 obtain⟨o,es,ep,ho,hc,hd,he,his,hn⟩:=hm;unfold dictSetDefault
 try with_reducible refine zdp ?_
 refine zdn (knd.pyHash hu DV (zdn (wpAny_dictFind_heap (s:={s with toks:=s.toks+knd.draws k}) hu DV ho hd he his hn ?_ ?_)))
 ·intro Nh;have YW:k ∉ xs.map (·.1):=not_mem_keys_of_get Nh;refine zdn (wpAny_rule (zdn (wpAny_updateDictKeys (hz:=by have e:=size_of_entries he;omega) (s:={s with toks:=s.toks+knd.draws k}) ho hd (zdo (h2 (atKey_none_of_get Nh) _ ⟨_,_,ep+1,Heap.get?_update_self _ ho (Obj.isFreed_of_dict (Obj.data_mapDictKeys hd _)),
   hc.mapDictKeys _,Obj.data_mapDictKeys hd _,?_,?_,?_⟩ (Heap.SameBut.update ..))))))
  ·rw[storedH_new (atKey_none_of_get Nh)];simp[he,entryOfKey]
  ·rw[storedH_new (atKey_none_of_get Nh)];intro x hx;rcases zaA.mp hx with hx |hx
   ·exact knd.keeps (his x hx) ho hd (Heap.SameBut.update ..)
   ·simp only[zar] at hx;subst hx;exact knd.keeps DV ho hd (Heap.SameBut.update ..)
  ·rw[storedH_new (atKey_none_of_get Nh),zaw,zbS];refine⟨hn,by simp,?_⟩;intro x hx y hy;simp only[zam,za2,zar] at hy;subst hy;exact fun e=>YW (e▸hx)
 ·intro j p hj;refine zdn (wpAny_dictEntries (s:={s with toks:=s.toks+knd.draws k}) ho hd ?_);rw[entry_at he j,hj];exact zdn (wpAny_rule (zdo (h1 p (atKey_of_get hn hj))))
theorem Bb{d a:zdk}{k:κ}{v:zdl}(hd:(d==sysModules)=false) :
 MeetsIn prog w (Builtin.«dict.setdefault» ⟨[.ref d,.ref a,v],[]⟩) (fun A R s=>∃xs,knd.room A.in1/\knd.is s.heap k a/\s.heap.DictOfH knd d xs/\xs.length<=zds/\
  (∀p,atKey xs k=some p->R (.ok (.ret p.2)) {s with toks:=s.toks+knd.draws k})/\
  (atKey xs k=none->∀h',h'.DictOfH knd d (storedH xs k a v)->Heap.SameBut d s.heap h'->R (.ok (.ret v)) {s with heap:=h',toks:=s.toks+knd.draws k})):=
 .of_wp fun A R s ⟨xs,hu,DV,hm,hz,h1,h2⟩=>by
  unfold Builtin.«dict.setdefault»;refine zdn ?_;unfold Builtin.Dict.keyAndDefault;refine zdn (wpAny_notOrdered_dict hm.typeIs ?_);show wpAny _ _ (pure (d,Value.ref a,some v)) _ _ s;refine zdo ?_;show wpAny _ _ (if (d==sysModules)=true then _ else (dictSetDefault d (.ref a) v >>= _)) _ _ s;rw[zzn (by rw[hd];exact zai)];exact zdn (Om hu DV hm hz (fun p hp=>zdo ⟨p.2,rfl,h1 p hp⟩) fun hn h' YE hs'=>zdo ⟨v,rfl,h2 hn h' YE hs'⟩)
end
section
variable{κ:Type}[DecidableEq κ](J:KH κ)
structure Fz(P:zdw)(w:zdm)(K:zaa)(H:Hp)(d:zdk)(ax:List (κ×V))(o:Obj):Prop where
 len:ax.length<=zds
 sys:(d==sysModules)=false
 at_:∃xs,(∀h:Heap,h.get? d=some o->gS J P w d xs h)/\KS J K H ax xs/\(xs.map (·.1)).Nodup
def Oq (K:zaa) (H:Hp) (ax:List (κ×V)) (ps:List (zdk×V)):Prop:=Paired (fun (kv:κ×V) (p:zdk×V)=>J.on K H kv.1 p.1/\p.2=kv.2) ax ps
def PF (P:zdw) (w:zdm) (K:zaa) (tl:TE):TI:=fun σ H R=>tl σ H fun x H1=>∃d ax,x=.ref d/\DS J P w K H1 d ax/\∀o ps,Fz J P w K H1 d ax o->Oq J K H1 ax ps->R (SX d o ps) (upd H1 d (eX d o))
def lF (p d:zdk):Heap->Prop:=fun h=>h.IsItemsView p d
def LL (P:zdw) (w:zdm) (K:zaa) (to:TE):TE:=fun σ H Q=>to σ H fun x H1=>∃d ax,x=.ref d/\DS J P w K H1 d ax/\∀p,H1 p=none->Q (.ref p) (upd H1 p (.ext (lF p d)))
def LM (P:zdw) (w:zdm) (K:zaa) (tl:TE):TI:=fun σ H R=>tl σ H fun x H1=>∃p d ax,x=.ref p/\H1 p=some (.ext (lF p d))/\DS J P w K H1 d ax/\∀o ps,Fz J P w K H1 d ax o->Oq J K H1 ax ps->R (Itm d o ps) (upd H1 d (eX d o))
def PH (P:zdw) (w:zdm) (K:zaa) (to:TE) (t:TA):TE:=fun σ H Q=>to σ H fun x H1=>∃a,x=.ref a/\(∃ax,DS J P w K H1 a ax)/\t σ H1 fun vs H2=>∃b ax k v,vs=[.ref b,v]/\DS J P w K H2 a ax/\J.on K H2 k b/\ax.length<zds/\
 (∀u,cf ax k=some u->Q u H2)/\(cf ax k=none->∀H3,DS J P w K H3 a (putK ax k v)->(∃φ,H3=upd H2 a (.ext φ))->Q v H3)
variable{J}
theorem Fz.UU{P:zdw}{w:zdm}{K:zaa}{H H':Hp}{d:zdk}{ax:List (κ×V)}{o:Obj}(f:Fz J P w K H d ax o)(hd:H' d=some (eX d o))(t:∀b ys,bQ K H b ys->bQ K H' b ys) :
 ∃φ,(∀h:Heap,h.get? d=some o->φ h)/\(∀g1 g2:Heap,φ g1->(∀o,g1.get? d=some o->g2.get? d=some o)->φ g2)/\DS J P w K (upd H' d (.ext φ)) d ax:=by
 obtain⟨xs,h1,h2,h3⟩:=f.at_;refine⟨_,h1,fun g1 g2 p1 kp=>?_,⟨f.len,f.sys,xs,ae,h2.up fun b ys q=>(t b ys q).ext hd,h3⟩⟩;obtain⟨ob,es,ep,e1,e2,e3,e4⟩:=p1;exact⟨ob,es,ep,kp ob e1,e2,e3,e4⟩
theorem PJ{P:zdw}{w:zdm}{K:zaa}{H:Hp}:∀ {ax:List (κ×V)} {xs:List (κ×zdk×zdl)},KS J K H ax xs->∃ps,Oq J K H ax ps/\Paired (fun (p:zdk×V) (e:DictEntry)=>e.key=.ref p.1/\RelV p.2 e.val) ps (xs.map (entryOfKey (J.knd P w)))
 |[],_,h=>by cases h;exact⟨[],.nil,.nil⟩
 |(k,v)::r,_,h=>by
  cases h with
  |cons a b=>
   obtain⟨ps,p1,p2⟩:=PJ (P:=P) (w:=w) b;exact⟨(_,v)::ps,.cons ⟨a.2.1,rfl⟩ p1,.cons ⟨rfl,a.2.2⟩ p2⟩
section
variable{X:Cx}{tg l e e1 e2:Expr}{es:List Expr}{tl te to:TE}{ta:TA}{pins:List (zdk×Obj)}{σ:St}{H:Hp}{s:zdu}{apos mY:Pos}
theorem freeze{d:zdk}{ax:List (κ×V)}(I:Inv X pins σ H s)(ds:DS J X.prog X.w X.K H d ax):∃o es ep ps,s.heap.get? d=some o/\o.ExactDict/\o.data=.dict es ep/\EV ps es/\Fz J X.prog X.w X.K H d ax o/\Oq J X.K H ax ps/\Inv X pins σ (upd H d (eX d o)) s:=by
 obtain⟨z,sy,xs,e,rel,nd⟩:=ds;obtain⟨⟨o,es,ep,h1,h2,h3,h4⟩, -⟩:=(show dg X.prog X.w H s.heap d (.ext (gS J X.prog X.w d xs)) from I.cM d _ e)
 obtain⟨ps,p1,p2⟩:=PJ (P:=X.prog) (w:=X.w) rel;refine⟨o,es,ep,ps,h1,h2,h3,?_,⟨z,sy,xs,fun h eh=>⟨o,es,ep,eh,h2,h3,h4⟩,rel,nd⟩,p1,kY (h':=s.heap) (t':=s.toks) I (by rw[e];exact True.intro) ⟨rfl,fun _ _=>rfl⟩ ⟨o,h1⟩ (eX.ok h1)⟩;unfold EV;rw[h4];exact p2
theorem LN(hl:PE X l tl):PI X tg l (PF J X.prog X.w X.K tl):=by
 intro pins s σ H R I h;refine fc (hl pins s σ H _ I h) fun v s1 zqz=>?_;obtain⟨x,H1,I1,r1,q1⟩:=zqz;obtain⟨d,ax,rfl,ds,q⟩:=q1;cases r1;obtain⟨o,es,ep,ps,h1,h2,h3,ev,fz,po,I2⟩:=freeze I1 ds;refine CN ds.sys ⟨o,h1,h2,h3⟩ ?_;have I3:=I2.kept (t':=s1.toks) (h':=s1.heap.push {cls:=.type "dict_keyiterator",data:=.fields #[.ref d,.int 0 0,.int es.size 0,.int ep 0]}) fun b o e=>Heap.get?_push_of_some _ e;refine⟨s1.heap.objs.size,[s1.heap.objs.size],_,SX d o ps,_,rfl,I3,IB h2 h3 ev,⟨_,Heap.get?_push_size _ rfl,rfl,rfl⟩,fun b hb=>?_,q o ps fz po⟩;have e:b=s1.heap.objs.size:=by simpa using hb
 subst e;exact I2.B1 (zaf _) (I2.cM.fresh (zaf _))
theorem LO(ho:PE X e to)(xi:attributeBase e "items" X.env (eval e X.env)=eval e X.env:=by rfl)(xj:(apos.endLine==mY.line)=true:=by rfl):PE X (.Call (.Attribute e "items" apos) [] [] mY) (LL J X.prog X.w X.K to):=by
 intro pins s σ H Q I h;refine wpAny_Call_method0_late xi xj (fc (ho pins s σ H _ I h) fun v s1 zqz=>?_);obtain⟨x,H1,I1,r1,q1⟩:=zqz;obtain⟨d,ax,rfl,ds,q⟩:=q1;cases r1;obtain⟨o,es,ep,ps,h1,h2,h3,ev,fz,po,I2⟩:=freeze I1 ds;refine⟨"dict", "dict.items",zb8,zcN,PySem.F.type_dict_items,⟨o,h1,h2.1⟩,fun a e2=>by cases e2;exact⟨o,h1,h2.2.1⟩,Calls.callWith_builtin rfl (PySem.evalArgs_none ?_)⟩;refine call_meetsIn zcN ⟨o,h1,h2.1⟩ PySem.F.entry_dict_items (PySem.F.args_dict_items_1 _) (C0 d ds.sys) ⟨⟨es,ep,o,h1,h2,h3⟩,?_⟩;refine⟨.ref s1.heap.objs.size,_,I1.laid (a:=s1.heap.objs.size) (o:=.ext (lF s1.heap.objs.size d)) (t':=s1.toks) (fun _ _ q=>Heap.get?_push_of_some _ q) (zaf _) ⟨⟨_,Heap.get?_push_size _ rfl,rfl,rfl⟩,⟨_,Heap.get?_push_size _ rfl⟩,fun g1 g2 p1 kp=>?_⟩,rfl,q _ (I1.cM.fresh (zaf _))⟩;obtain⟨ob,e1,e2⟩:=p1;exact⟨ob,kp ob e1,e2⟩
theorem IC{elts:List Expr}{x1}{tp:Pos}(hl:PE X l tl):PI X (.Tuple elts x1 tp) l (LM J X.prog X.w X.K tl):=by
 intro pins s σ H R I h;refine fc (hl pins s σ H _ I h) fun v s1 zqz=>?_;obtain⟨x,H1,I1,r1,q1⟩:=zqz;obtain⟨p,d,ax,rfl,hp,ds,q⟩:=q1;cases r1;obtain⟨o,es,ep,ps,h1,h2,h3,ev,fz,po,I2⟩:=freeze I1 ds;have hv:s1.heap.IsItemsView p d:=(I1.cM p _ hp).1;refine Iz hv ⟨o,h1,h2,h3⟩ ?_;have I3:=I2.kept (t':=s1.toks) (h':=s1.heap.push {cls:=.type "dict_itemiterator",data:=.fields #[.none,.bool false,.ref d,.int 0 0,.int es.size 0,.int ep 0,.none,.none]}) fun b o e=>Heap.get?_push_of_some _ e;refine⟨s1.heap.objs.size,[s1.heap.objs.size],_,Itm d o ps,_,rfl,I3,EY h2 h3 ev,⟨_,_,Heap.get?_push_size _ rfl⟩,fun b hb=>?_,q o ps fz po⟩;have e:b=s1.heap.objs.size:=by simpa using hb
 subst e;exact I2.B1 (zaf _) (I2.cM.fresh (zaf _))
theorem ID(hu:X.A.units+16<cLine)(ho:PE X e to)(ha:PA X [e1,e2] ta)
 (xi:attributeBase e "setdefault" X.env (eval e X.env)=eval e X.env:=by rfl)
 (QU:((backTo mY (zdq [e1,e2] X.env)).all (fun x=>!x.1)&&(backToKw mY (keywordEach [] X.env)).all (fun x=>x.1.isSome)
  && decide ([e1,e2].length+([]:List Keyword).length+(if ([]:List Keyword).isEmpty then 0 else 1)<30))=true:=by rfl)
 (xj:(apos.endLine==mY.line)=true:=by rfl) (hs:zdq [e1,e2] X.env=(false,eval e1 X.env)::zdq [e2] X.env:=by rfl) (Eg:(backTo mY (zdq [e2] X.env)).any (·.1)=false:=by rfl) :
 PE X (.Call (.Attribute e "setdefault" apos) [e1,e2] [] mY) (PH J X.prog X.w X.K to ta):=by
 intro pins s σ H Q I h;refine wpAny_Call_method_late xi QU xj rfl (fc (ho pins s σ H _ I h) fun v s1 zqz=>?_);obtain⟨x,H1,I1,r1,q1⟩:=zqz;obtain⟨d,rfl,⟨RH,WN⟩,q⟩:=q1;cases r1;obtain⟨o,es,ep,ps,h1,h2,h3,ev,fz,po,I2⟩:=freeze I1 WN;refine⟨"dict", "dict.setdefault",zb8,zct,PySem.F.type_dict_setdefault,⟨o,h1,h2.1⟩,fun a e2=>by cases e2;exact⟨o,h1,h2.2.1⟩,?_⟩;have hA:=ha mY pins s1 σ H1 _ I1 q;rw[hs] at hA ⊢;refine Calls.callWith_builtin (by show (false ||(backTo mY (zdq [e2] X.env)).any (·.1))=false;rw[Eg]<;>rfl) (Calls.evalArgs_plain ?_);refine fc hA fun us s2 zqz=>?_;obtain⟨vs,H2,I2,r2,q2⟩:=zqz;obtain⟨b,ax,k,v,rfl,ds,hk,lt,w1,w2⟩:=q2;obtain⟨u,rfl,rv⟩:∃u,us=[.ref b,u]/\RelV v u:=by
  cases r2 with
  |cons ra rb=>
   cases rb with
   |cons rv rn=>
    cases rn;cases ra;exact⟨_,rfl,rv⟩
 have dd:=ds;obtain⟨z,sy,xs,e,rel,nd⟩:=dd;have D2:=vR I2 e rel nd;have hz:xs.length<=zds:=by rw[<- Paired.length rel];exact z
 have rl:=rel.val k;refine call_meetsIn zct D2.typeIs PySem.F.entry_dict_setdefault (PySem.F.args_dict_setdefault_3 _ _ _) (Bb (knd:=J.knd X.prog X.w) (k:=k) sy) ⟨xs,J.room hu,J.of I2 hk,D2,hz,fun p hp=>?_,fun hn h' FU hs=>?_⟩
 ·rw[hp] at rl;cases hv:cf ax k with
  |none=>rw[hv] at rl;exact rl.elim
  |some y=>
   rw[hv] at rl;exact⟨y,H2,I2.tok _,rl,w1 y hv⟩
 ·have hv:cf ax k=none:=by
   rw[hn] at rl;cases hv:cf ax k with
   |none=>rfl
   |some y=>rw[hv] at rl;exact rl.elim
  obtain⟨q,es,ep,hq,g2,g3,g4,_,g5⟩:=FU;have ph:gS J X.prog X.w d (storedH xs k b u) h':=⟨q,es,ep,hq,g2,g3,g4⟩
  have hl:(putK ax k v).length<=zds:=by have:=ip ax k v;lia
  refine⟨v,upd H2 d (.ext (gS J X.prog X.w d (storedH xs k b u))),kY I2 (by rw[e];exact True.intro) hs ⟨q,hq⟩ ⟨ph,⟨q,hq⟩,fun g1 g2 p1 kp=>?_⟩,rv,w2 hv _ ⟨hl,sy,_,ae,(rel.put k hk rv).up fun c ys ec=>ec.ext e,g5⟩ ⟨_,rfl⟩⟩;obtain⟨ob,es,ep,h1,h2,h3,h4⟩:=p1;exact⟨ob,es,ep,kp ob h1,h2,h3,h4⟩
def GI (t:TE):TE:=fun σ H Q=>∃(d:zdk) (o:Obj) (φ:Heap->Prop),H d=some (eX d o)/\(∀h:Heap,h.get? d=some o->φ h)/\(∀g1 g2:Heap,φ g1->(∀o,g1.get? d=some o->g2.get? d=some o)->φ g2)/\t σ (upd H d (.ext φ)) Q
theorem GJ(hl:PE X l tl):PE X l (GI tl):=by
 intro pins s σ H Q I h;obtain⟨d,o,φ,hd,h1,h2,q⟩:=h;have g:=eX.get I.cM hd;exact hl pins s σ _ Q (kY (ob:=.ext φ) (h':=s.heap) (t':=s.toks) I (by rw[hd];exact True.intro) ⟨rfl,fun _ _=>rfl⟩ ⟨o,g⟩ ⟨h1 _ g,⟨o,g⟩,fun g1 g2 p1 kp=>h2 g1 g2 p1 kp⟩) q
end
end
theorem C1{wi:TI}{g:TG}{tb:TS}{D:Ends}{σ:St}{H:Hp} (h:∀U:It->Hp->Prop,(∀J H1,(∃W:Nat->Nat->St->Hp->Prop,(∃m,W 0 m σ H1)/\∀i m σ H,W i m σ H->
 (J.stop i H/\D.nx σ H)\/(J.go i H/\∃N:St->Hp->Prop,(∀σ' H',N σ' H'->∃m',m'<m/\W (i+1) m' σ' H')/\∀x H',J.zz i H x H'->g x σ H' fun σ2 H2=>tb {D with nx:=N,ct:=N,bk:=D.nx} σ2 H2))->U J H1)->wi σ H U):G8 wi g tb D σ H:=h _ fun _ _ x=>x
theorem Ot{d:zdk}{o:Obj}{ps:List (zdk×V)}{g:TG}{tb:TS}{D:Ends}{σ:St}{H:Hp}(Pv:Nat->St->Hp->Prop)(h0:Pv 0 σ H)(hl:∀i σ H,i<=ps.length->Pv i σ H->H d=some (eX d o))
 (hs:∀i b v σ H p,ps[i]?=some (b,v)->Pv i σ H->H p=none->g (.ref p) σ (upd H p (.tup [.ref b,v])) fun σ2 H2=>tb {D with nx:=Pv (i+1),ct:=Pv (i+1),bk:=D.nx} σ2 H2) (hd:∀σ H,Pv ps.length σ H->D.nx σ H) :
 ∃W:Nat->Nat->St->Hp->Prop,(∃m,W 0 m σ H)/\∀i m σ H,W i m σ H->
  ((Itm d o ps).stop i H/\D.nx σ H)\/((Itm d o ps).go i H/\∃N:St->Hp->Prop,(∀σ' H',N σ' H'->∃m',m'<m/\W (i+1) m' σ' H')/\∀x H',(Itm d o ps).zz i H x H'->g x σ H' fun σ2 H2=>tb {D with nx:=N,ct:=N,bk:=D.nx} σ2 H2):=by
 refine⟨fun i m σ H=>m=ps.length-i/\i<=ps.length/\Pv i σ H,⟨ps.length,by simp,zaZ _,h0⟩,?_⟩
 rintro i m σ H ⟨rfl,hi,p⟩
 have q:=hl i σ H hi p;by_cases oy:i<ps.length
 ·refine .inr ⟨⟨q,oy⟩,Pv (i+1),fun σ' H' p'=>⟨ps.length-(i+1),by lia,rfl,oy,p'⟩,fun x H' y=>?_⟩;obtain⟨pp,b,v,rfl,hn,rfl,e⟩:=y;exact hs i b v σ H pp e p hn
 ·have e:i=ps.length:=by lia
  subst e;exact .inl ⟨⟨q,zaf _⟩,hd σ H p⟩
theorem Ou{d:zdk}{o:Obj}{ps:List (zdk×V)}{g:TG}{tb:TS}{D:Ends}{σ:St}{H:Hp}(Pv:Nat->St->Hp->Prop)(h0:Pv 0 σ H)(hl:∀i σ H,i<=ps.length->Pv i σ H->H d=some (eX d o))
 (hs:∀i b v σ H,ps[i]?=some (b,v)->Pv i σ H->g (.ref b) σ H fun σ2 H2=>tb {D with nx:=Pv (i+1),ct:=Pv (i+1),bk:=D.nx} σ2 H2) (hd:∀σ H,Pv ps.length σ H->D.nx σ H) :
 ∃W:Nat->Nat->St->Hp->Prop,(∃m,W 0 m σ H)/\∀i m σ H,W i m σ H->
  ((SX d o ps).stop i H/\D.nx σ H)\/((SX d o ps).go i H/\∃N:St->Hp->Prop,(∀σ' H',N σ' H'->∃m',m'<m/\W (i+1) m' σ' H')/\∀x H',(SX d o ps).zz i H x H'->g x σ H' fun σ2 H2=>tb {D with nx:=N,ct:=N,bk:=D.nx} σ2 H2):=by
 refine⟨fun i m σ H=>m=ps.length-i/\i<=ps.length/\Pv i σ H,⟨ps.length,by simp,zaZ _,h0⟩,?_⟩
 rintro i m σ H ⟨rfl,hi,p⟩
 have q:=hl i σ H hi p;by_cases oy:i<ps.length
 ·refine .inr ⟨⟨q,oy⟩,Pv (i+1),fun σ' H' p'=>⟨ps.length-(i+1),by lia,rfl,oy,p'⟩,fun x H' y=>?_⟩;obtain⟨rfl,b,v,rfl,e⟩:=y;exact hs i b v σ H' e p
 ·have e:i=ps.length:=by lia
  subst e;exact .inl ⟨⟨q,zaf _⟩,hd σ H p⟩
noncomputable def jB (pr:PG.Prog):iz->Tg->Option (List Int)
 |[],_=>none
 |x::r,t=>if t∈oB pr x.1 then some x.2 else jB pr r t
theorem ud(pr:PG.Prog):∀(f g:iz) (t:Tg),jB pr (f++g) t=(jB pr f t).or (jB pr g t)
 |[],g,t=>rfl
 |x::r,g,t=>by
  rw[zaJ,jB,jB];split
  ·rfl
  ·exact ud pr r g t
section
variable(P:zdw)(w:zdm)(K:zaa)(CC:zdk)
def xW (H:Hp):Option (List Int)->Option V->Prop
 |none,r=>r=none
 |some g,r=>∃a,r=some (.ref a)/\bQ K H a (g.map V.int)
def oE (H:Hp) (M:Tg->Option (List Int)) (ax:List (List Key×V)):Prop:=∀t,xW K H (M t) (cf ax (pI t))
def RI (qual:Str) (Pt:zdk) (lp:Pos):Sp:=fun vs H Q _=>∃(ch:zdk) (pr:PG.Prog) (ps:Array zdl),vs=[.ref ch]/\wL K CC H ch pr/\i5 pr/\bq pr<2000/\H Pt=some (.rE ps)/\TabOk qual lp H ps/\
 ∀D ax H' DD,aZ Pt H H'->H D=none->DS Il P w K H' D ax->oE K H' (jB pr (cZ pr (jA pr))) ax->H' Pt=some (.rE DD)->TabOk qual lp H' DD->Q (.ref D) H'
def Ov (qual:Str) (Pt:zdk) (lp:Pos):Sp:=fun vs H Q _=>∃(v tv:V) (pr:PG.Prog) (t:Tg) (ps:Array zdl),vs=[v,tv]/\Rep K H (kB pr) v/\Rep K H (eS t) tv/\i5 pr/\bq pr<2000/\H Pt=some (.rE ps)/\TabOk qual lp H ps/\
 ∀H' DD,aZ Pt H H'->H' Pt=some (.rE DD)->TabOk qual lp H' DD->(jB pr (cZ pr (jA pr)) t=none->Q .cB H')/\∀g l,jB pr (cZ pr (jA pr)) t=some g->H l=none->H' l=some (.lst (g.map V.int))->Q (.ref l) H'
def LP:Sp:=fun vs H Q _=>∃(md F:zdk) (tv:V) (pr:PG.Prog) (t:Tg) (f:iz) (ax:List (kS×V)),vs=[.ref md,.ref F,tv]/\eW K H md pr/\i5 pr/\DS jN P w K H F ax/\eR K H f ax/\(f.map (·.1)).Nodup/\(∀x∈f,cU pr x.1)/\Rep K H (eS t) tv/\
 ∀H',aZ F H H'->DS jN P w K H' F ax->(jB pr f t=none->Q .cB H')/\∀g l,jB pr f t=some g->H l=none->H' l=some (.lst (g.map V.int))->Q (.ref l) H'
end
section
variable{K:zaa}{H H':Hp}
theorem xW.imp{o:Option (List Int)}{r:Option V}(h:xW K H o r)(t:∀a xs,bQ K H a xs->bQ K H' a xs):xW K H' o r:=by
 cases o with
 |none=>exact h
 |some y=>obtain⟨a,h1,h2⟩:=h;exact⟨a,h1,t _ _ h2⟩
theorem oE.imp{M:Tg->Option (List Int)}{ax:List (List Key×V)}(h:oE K H M ax)(t:∀a xs,bQ K H a xs->bQ K H' a xs):oE K H' M ax:=fun g=>(h g).imp t
theorem oE.congr{M N:Tg->Option (List Int)}{ax:List (List Key×V)}(h:oE K H M ax)(e:∀t,M t=N t):oE K H N ax:=by rw[<- show M=N from funext e];exact h
theorem oE.put{M:Tg->Option (List Int)}{ax:List (List Key×V)}{t:Tg}{g:List Int}{a:zdk}(h:oE K H M ax)(n:M t=none)(q:bQ K H a (g.map V.int)):oE K H (fun u=>(M u).or (if u=t then some g else none)) (putK ax (pI t) (.ref a)):=fun u=>by
 show xW K H ((M u).or (if u=t then some g else none)) _;rw[oU];by_cases e:u=t
 ·subst e;rw[n,zzp rfl,zzp rfl];exact⟨a,rfl,q⟩
 ·rw[zzn e,zzn (fun z=>e (Io z)),Option.or_none];exact h u
theorem eW.ext{md p:zdk}{pr:PG.Prog}{φ:Heap->Prop}(m:eW K H md pr)(h:H p=some (.ext φ))(u:aZ p H H'):eW K H' md pr:=by
 obtain⟨B,d8,wy,fa,us,ax,h1,h2,h3,h4,h5,h6,h7,h8⟩:=m.at_;refine⟨⟨B,d8,wy,fa,us,ax,?_,qu h u _ _ h2,u _ _ (bU h3 h (by intro z;cases z)) h3,h4,mG h u _ _ h5,u _ _ (bU h6 h (by intro z;cases z)) h6,fun i hi=>let ⟨y,e,k⟩:=h7 i hi;⟨y,e,k.lV h u⟩,h8.ext h u⟩⟩;rcases h1 with (q |⟨o,q⟩) |q
 ·exact .inl (.inl (u _ _ (bU q h (by intro z;cases z)) q))
 ·exact .inl (.inr ⟨o,u _ _ (bU q h (by intro z;cases z)) q⟩)
 ·exact .inr q
end
theorem RJ{κ:Type}[DecidableEq κ]{J:KH κ}{P:zdw}{w:zdm}{a:zdk}{oc:Obj}{vs:Array zdl}{xs:List (κ×zdk×zdl)}(hd:oc.data=.fields vs):eX a oc≠.ext (gS J P w a xs):=by
 intro h;have e:=HO.ext.inj h;have g:Heap.get? ⟨zcR (a+1) oc,{}⟩ a=some oc:=by
  obtain⟨c,d,dt,sl⟩:=oc;cases (show dt=_ from hd);unfold Heap.get?;rw[Array.getElem?_replicate,zzp (zcB a)]
 have f:=congrFun e ⟨zcR (a+1) oc,{}⟩;have k:gS J P w a xs ⟨zcR (a+1) oc,{}⟩:=by rw[<- f];exact g
 obtain⟨o,es,ep,h1,h2,h3,h4⟩:=k;rw[g] at h1;cases h1;rw[hd] at h3;cases h3
theorem TabOk.ds{κ:Type}[DecidableEq κ]{J:KH κ}{P:zdw}{w:zdm}{K:zaa}{H H':Hp}{qual:Str}{lp:Pos}{ps:Array zdl}{D:zdk}{ax:List (κ×V)}(h:TabOk qual lp H ps)(d:DS J P w K H D ax)(u:aZ D H H'):TabOk qual lp H' ps:=by
 rcases h with h |⟨c',oc,vs,tk,e,h1,h2,h3⟩
 ·exact .inl h
 ·refine .inr ⟨c',oc,vs,tk,e,u _ _ (fun z=>?_) h1,h2,h3⟩;obtain⟨xs,e1,_⟩:=d.at_;subst z;rw[e1] at h1;exact RJ h2 (zaO.inj h1).symm
theorem yW{X:Cx}{K:zaa}(e:X.K=K):mm X (.builtin "len") (fun xs H Q=>∃p ys,xs=[.ref p]/\(i6 K H p ys\/bQ K H p ys)/\Q (.int ys.length) H):=e▸bE
theorem EZ{K:zaa}{D Dk S:zdk}{n:Nat}{te:TE}{Q:VK}{r:St}{H:Hp}{sc:List Int}{p:Nat}(ok:V->Prop)(hl:n<=16000000)(hD:H D=none)(dk:i3 K H Dk S sc p)
 (step:∀(i:Nat) x H2,i<n->aZ Dk H H2->i3 K H2 Dk S sc (p+i)->∀R:VK,(∀v H3,ok v->aZ Dk H2 H3->i3 K H3 Dk S sc (p+i+1)->R v H3)->te (some x::r) H2 R)
 (q:∀(vs:List V) H2,vs.length=n->(∀m∈vs,ok m)->aZ Dk H H2->i3 K H2 Dk S sc (p+n)->H2 D=some (.lst vs)->Q (.ref D) H2) :
 vM (IZ 0 n) D (eO 0) AM te Q (none::r) (upd H D (.lst [])):=by
 have nD:D≠Dk:=fun z=>by rw[z,dk.bF] at hD;cases hD
 have nS:S≠D:=fun z=>by have:=dk.fX;rw[z,hD] at this;cases this
 have dkp:∀ {H2:Hp} {j:Nat} {o:HO},i3 K H2 Dk S sc j->i3 K (upd H2 D o) Dk S sc j:=fun d=>⟨by rw[aw nD.symm];exact d.bF,by rw[aw nS];exact d.fX,d.ne,d.len⟩
 have UW:∀ {H2:Hp} {o:HO},aZ Dk H H2->aZ Dk H (upd H2 D o):=fun u b w n e=>by rw[aw (ai e hD)];exact u b w n e
 refine⟨fun i m τ H2=>m=n-i/\i<=n/\(∃x,τ=x::r)/\aZ Dk H H2/\i3 K H2 Dk S sc (p+i)/\∃vs:List V,H2 D=some (.lst vs)/\vs.length=i/\∀m∈vs,ok m,⟨n,by simp,zaZ _,⟨none,rfl⟩,UW (.of (aq.refl _)),dkp dk,[],ae,rfl,fun m z=>by simp at z⟩,?_⟩
 rintro i m τ H2 ⟨rfl,hi,⟨x,rfl⟩,u2,d2,vs,h2,ly,p2⟩
 by_cases oy:i<n
 ·refine .inr ⟨oy,fun τ' H'=>(∃x,τ'=x::r)/\aZ Dk H H'/\i3 K H' Dk S sc (p+i+1)/\∃vs:List V,H' D=some (.lst vs)/\vs.length=i+1/\∀m∈vs,ok m,fun τ' H' ⟨h1,h3,h4,h5⟩=>⟨n-(i+1),by lia,rfl,oy,h1,h3,h4,h5⟩,fun y H' hy=>?_⟩;obtain⟨rfl,rfl⟩:=hy;simp only[eO,zaT,AM];rw[zzp trivial];refine step i _ _ oy u2 d2 _ fun v H3 hv u3 d3=>⟨vs,u3 _ _ nD h2,?_,⟨_,rfl⟩,UW (u2.trans u3),dkp d3,vs++[v],ae,by simp[ly],fun m hm=>?_⟩
  ·have:zds=2 ^ 24:=rfl;lia
  ·rcases zaA.mp hm with hm |hm
   ·exact p2 m hm
   ·rw[zar.mp hm];exact hv
 ·have e:i=n:=by lia
  subst e;exact .inl ⟨zaf _,q vs H2 ly p2 u2 d2 h2⟩
section
variable{K:zaa}{H H':Hp}
theorem eW.kp{md:zdk}{pr:PG.Prog}(m:eW K H md pr)(k:Kp H H'):eW K H' md pr:=by
 obtain⟨B,d8,wy,fa,us,ax,h1,h2,h3,h4,h5,h6,h7,h8⟩:=m.at_;exact⟨⟨B,d8,wy,fa,us,ax,h1.kp k,vq k _ _ h2,k _ _ h3 (fun _ z=>by cases z),h4,ub k _ _ h5,k _ _ h6 (fun _ z=>by cases z),fun i hi=>let ⟨y,e,q⟩:=h7 i hi;⟨y,e,q.kp k⟩,h8.kp k⟩⟩
theorem Kp.trans{H2:Hp}(a:Kp H H')(b:Kp H' H2):Kp H H2:=fun c o e n=>b c o (a c o e n) n
end
def Bc (m:Nat) (f:iz):Prop:=∀x∈f,x.2.length<=m
section
variable{led:cw->List cw}
theorem Be{m:Nat}:∀(n:Nat) (f:iz) (s:cw) (g:List Int),Bc m f->g.length<=m->Bc m (lW led n f s g).1
 |0,f,s,g,h,_=>h
 |n+1,f,s,g,h,hg=>by
  have h1:Bc m (f++[(s,g)]):=fun x hx=>by
   rcases zaA.mp hx with hx |hx
   ·exact h x hx
   ·rw[zar.mp hx];exact hg
  rw[lW];split
  ·exact h
  ·split
   ·exact Be n _ _ g h1 hg
   ·exact h1
theorem Aj{m n:Nat}:∀(l:iz) (f:iz),Bc m f->Bc m l->Bc m (c8 led n f l).1
 |[],f,h,_=>h
 |(s,g)::r,f,h,hl=>Aj r _ (Be n f s g h (hl _ (zaq ..))) fun x hx=>hl x (zat _ hx)
theorem C2{S:cw->Prop}(li:∀s,S s->∀x∈led s,S x){n:Nat}:∀(m k:Nat) (f:iz) (as:List (List Int×List cw)),yV S f->Bc k f->vm S k as->Bc (k+m) (ua led n m f as)
 |0,_,f,as,_,h,_=>h
 |m+1,k,f,as,h0,h,h2=>by
  rw[ua];split
  ·exact fun x hx=>zay (h x hx) (by lia)
  ·have g:=pK li (n:=n) (m:=k+1) (cx as) f h0 (mH h2);have:=C2 li (n:=n) m (k+1) _ _ g.1 (Aj (n:=n) (cx as) f (fun x hx=>zbF (h x hx)) fun x hx=>(mH h2 x hx).2) g.2.1;rw[show k+(m+1)=k+1+m by lia];exact this
end
theorem IE{pr:PG.Prog}(d:i5 pr):Bc (bq pr+2) (cZ pr (jA pr)):=by
 have li:∀s,cU pr s->∀x∈cQ pr s,cU pr x:=fun s h=>t9 d h;have g:=vn li (m:=0) (bq pr+1) [] (jA pr) [] .nil (cU.first d) (zaf _);have:=C2 li (n:=bq pr+1) (bq pr+2) 0 _ _ g.1 (Be (bq pr+1) [] (jA pr) [] (fun x hx=>by cases hx) (zaf _)) g.2.1;rw[zbx] at this;exact this
theorem C3(pr:PG.Prog):∀(f:iz) (t:Tg) {g:List Int},jB pr f t=some g->∃x∈f,x.2=g
 |[],t,g,h=>by cases h
 |x::r,t,g,h=>by
  rw[jB] at h;split at h
  ·cases h;exact⟨x,zaq ..,rfl⟩
  ·obtain⟨y,hy,e⟩:=C3 pr r t h;exact⟨y,zat _ hy,e⟩
theorem wX{α β γ:Type}(F:α->β->γ->Prop->Prop):∃X:α->β->γ->Prop,(∀a b c,(∀zq,F a b c zq->zq)->X a b c)/\∀a b c,X a b c->∀zq,F a b c zq->zq:=⟨fun a b c=>∀zq,F a b c zq->zq,fun _ _ _ h=>h,fun _ _ _ h=>h⟩
section
variable{X:Cx}{k n:Nat}{f:zdk}{fd:zdt}{ps:List Str}{sp:Sp}{x:Str}{st:Stmt}{e:Expr}{es:List Expr}{t:TA}{te:TE}{p pos pos':Pos}
theorem da(F:bJ X.prog X.w X.K X.mg X.base dy k f fd ps sp)(D:b8 X.K X.mg x st ps f fd)(hr:ib n X.A)(ha:PA X (e::es) t)(h:k<=n:=by first |decide |omega)(hg:Gl X x:=by rfl)(JA:(x==("__debug__":Str))=false:=by decide)
 (he:zdq (e::es) X.env=(false,eval e X.env)::zdq es X.env:=by rfl) (BN:(backTo pos (zdq es X.env)).any (·.1)=false:=by rfl):PE X (.Call (.Name x p) (e::es) [] pos) (B4 sp [] E0 t):=
 FL F (hr.mono h) hg D.m D.F.kp D.b .nil JL ha JA he BN
theorem c5(i:Nat)(hN:X.N.Nodup)(he:PE X e te)(hi:X.N[i]?=some x:=by rfl)(hx:Loc X.env.scope x:=by exact zbq rfl)(hs:swapsWith e (some (.Name x pos')) pos.line X.env=pure false:=by rfl)(hf:X.fn x=true\/X.env.scope.names.lookup x=some .local:=by first |exact .inl rfl |exact .inr rfl |assumption) :
 PS X (.Assign [.Name x pos'] e pos) (G5 te (eO i)):=DP hN hi hx he hs hf
theorem lX(i:Nat)(hN:X.N.Nodup)(hi:X.N[i]?=some x:=by rfl)(hx:Loc X.env.scope x:=by exact zbq rfl)(hf:X.fn x=true\/X.env.scope.names.lookup x=some .local:=by first |exact .inl rfl |exact .inr rfl |assumption):PG X (.Name x pos) (eO i):=fY hN hi hx hf
theorem bc(i:Nat)(hr:PA X es t)(hN:X.N[i]?=some x:=by rfl)(hv:Tq X.env.scope x:=by first |exact zbq rfl |exact zcD (zbq rfl) |exact zcD (zcD rfl))(hd:(x==("__debug__":Str))=false:=by decide)(DK:(x==("__classdict__":Str))=false:=by decide):PA X (.Name x pos::es) (xg (gk i) t):=ag (pv i hN hv hd DK) hr jW
end
end L2
section
set_option maxHeartbeats 4000000
namespace RK
open PG
open PySem L2
noncomputable def top (i:Nat):Stmt:=PySem.Challenge.pw_everyrow_k28_whole_shortest_inputs.main.body.getD i (.Pass ⟨0,0,0,0⟩)
abbrev E1:Stmt:=top 2
abbrev kD:Stmt:=top 3
abbrev pL:Stmt:=top 4
abbrev lY:Stmt:=top 5
abbrev vw:Stmt:=top 6
abbrev pM:Stmt:=top 7
abbrev jP:Stmt:=top 8
abbrev Bf:Stmt:=top 13
abbrev vx:Stmt:=top 16
abbrev rY:Stmt:=top 17
abbrev rZ:Stmt:=top 18
abbrev Bg:Stmt:=top 19
abbrev vy:Stmt:=top 22
abbrev ij:Stmt:=top 23
abbrev nK:Stmt:=top 24
abbrev vz:Stmt:=top 27
abbrev r9:Stmt:=top 28
abbrev nL:Stmt:=top 29
abbrev iI:Stmt:=top 30
abbrev aT:Stmt:=top 31
abbrev nM:Stmt:=top 32
abbrev iy:Stmt:=top 33
abbrev pN:Stmt:=top 35
abbrev xX:Stmt:=top 36
abbrev nN:Stmt:=top 37
abbrev nO:Stmt:=top 38
abbrev nQ:Stmt:=top 39
abbrev lZ:Stmt:=top 40
abbrev kE:Stmt:=top 41
abbrev pO:Stmt:=top 42
abbrev vA:Stmt:=top 43
abbrev pP:Stmt:=top 44
abbrev iJ:Stmt:=top 45
abbrev nT:Stmt:=top 46
abbrev kF:Stmt:=top 47
abbrev pQ:Stmt:=top 48
abbrev gy:Stmt:=top 49
abbrev l0:Stmt:=top 50
abbrev sj:Stmt:=top 51
abbrev jQ:Stmt:=top 52
abbrev nU:Stmt:=top 53
abbrev jR:Stmt:=top 54
abbrev LQ:Stmt:=top 55
abbrev dc:Stmt:=inClass (top 15) 0
theorem GK:a8 ["program"] ["program"] (aJ E1):=⟨rfl,rfl,rfl,by decide +kernel,rfl,by decide +kernel,by decide +kernel⟩
theorem oF:a8 ["body", "behind", "told", "place", "statement", "after", "inner"] ["body", "behind"] (aJ kD):=⟨rfl,rfl,rfl,by decide +kernel,rfl,by decide +kernel,by decide +kernel⟩
theorem ue:a8 ["body", "behind"] ["body", "behind"] (aJ pL):=⟨rfl,rfl,rfl,by decide +kernel,rfl,by decide +kernel,by decide +kernel⟩
theorem pR:a8 ["statement", "after"] ["statement", "after"] (aJ lY):=⟨rfl,rfl,rfl,by decide +kernel,rfl,by decide +kernel,by decide +kernel⟩
theorem xY:a8 ["statement", "after", "word"] ["statement", "after"] (aJ vw):=⟨rfl,rfl,rfl,by decide +kernel,rfl,by decide +kernel,by decide +kernel⟩
theorem uf:a8 ["statement"] ["statement"] (aJ pM):=⟨rfl,rfl,rfl,by decide +kernel,rfl,by decide +kernel,by decide +kernel⟩
theorem mI:a8 ["body", "found", "statement", "inner"] ["body"] (aJ jP):=⟨rfl,rfl,rfl,by decide +kernel,rfl,by decide +kernel,by decide +kernel⟩
theorem C4:a8 ["e", "values", "kind", "left", "right"] ["e", "values"] (aJ Bf):=⟨rfl,rfl,rfl,by decide +kernel,rfl,by decide +kernel,by decide +kernel⟩
theorem xZ:a8 ["chart", "row"] ["chart", "row"] (aJ vx):=⟨rfl,rfl,rfl,by decide +kernel,rfl,by decide +kernel,by decide +kernel⟩
theorem vU:a8 ["chart", "parts"] ["chart", "parts"] (aJ rY):=⟨rfl,rfl,rfl,by decide +kernel,rfl,by decide +kernel,by decide +kernel⟩
theorem vV:a8 ["chart", "named"] ["chart", "named"] (aJ rZ):=⟨rfl,rfl,rfl,by decide +kernel,rfl,by decide +kernel,by decide +kernel⟩
theorem C5:a8 ["chart", "standing", "statement", "values", "left", "right"] ["chart", "standing"] (aJ Bg):=⟨rfl,rfl,rfl,by decide +kernel,rfl,by decide +kernel,by decide +kernel⟩
theorem x5:a8 ["chart", "standing", "figure", "row", "statement", "word", "values", "said"] ["chart", "standing", "figure"] (aJ vy):=⟨rfl,rfl,rfl,by decide +kernel,rfl,by decide +kernel,by decide +kernel⟩
theorem jU:a8 ["chart", "standing", "row"] ["chart", "standing"] (aJ ij):=⟨rfl,rfl,rfl,by decide +kernel,rfl,by decide +kernel,by decide +kernel⟩
theorem qP:a8 ["chart", "standing", "word", "behind"] ["chart", "standing"] (aJ nK):=⟨rfl,rfl,rfl,by decide +kernel,rfl,by decide +kernel,by decide +kernel⟩
theorem x6:a8 ["program", "told", "entry", "row"] ["program"] (aJ vz):=⟨rfl,rfl,rfl,by decide +kernel,rfl,by decide +kernel,by decide +kernel⟩
theorem vW:a8 ["program", "target", "found"] ["program", "target"] (aJ r9):=⟨rfl,rfl,rfl,by decide +kernel,rfl,by decide +kernel,by decide +kernel⟩
theorem qQ:a8 ["chart", "standing", "row", "word"] ["chart", "standing"] (aJ nL):=⟨rfl,rfl,rfl,by decide +kernel,rfl,by decide +kernel,by decide +kernel⟩
theorem kG:a8 ["chart", "met", "standing", "figures", "target"] ["chart"] (aJ iI):=⟨rfl,rfl,rfl,by decide +kernel,rfl,by decide +kernel,by decide +kernel⟩
theorem oG:a8 ["chart"] ["chart"] (aJ aT):=⟨rfl,rfl,rfl,by decide +kernel,rfl,by decide +kernel,by decide +kernel⟩
theorem qR:a8 ["first", "led_from", "found", "asking", "behind", "figures", "led", "figure", "place"] ["first", "led_from"] (aJ nM):=⟨rfl,rfl,rfl,by decide +kernel,rfl,by decide +kernel,by decide +kernel⟩
theorem x8:a8 ["place", "led_from", "figures", "found", "led"] ["place", "led_from", "figures", "found"] (aJ iy):=⟨rfl,rfl,rfl,by decide +kernel,rfl,by decide +kernel,by decide +kernel⟩
theorem uh:a8 ["deck", "at", "many", "cell", "j", "number"] ["deck"] (aJ pN):=⟨rfl,rfl,rfl,by decide +kernel,rfl,by decide +kernel,by decide +kernel⟩
theorem Ak:a8 ["deck", "boxes", "deep", "kind", "one"] ["deck", "boxes", "deep"] (aJ xX):=⟨rfl,rfl,rfl,by decide +kernel,rfl,by decide +kernel,by decide +kernel⟩
theorem qS:a8 ["deck", "found", "spin", "k", "size"] ["deck"] (aJ nN):=⟨rfl,rfl,rfl,by decide +kernel,rfl,by decide +kernel,by decide +kernel⟩
theorem qT:a8 ["deck", "boxes", "k", "kind", "sign"] ["deck", "boxes", "k"] (aJ nO):=⟨rfl,rfl,rfl,by decide +kernel,rfl,by decide +kernel,by decide +kernel⟩
theorem qU:a8 ["pile", "kind", "body", "head", "first", "told"] ["pile"] (aJ nQ):=⟨rfl,rfl,rfl,by decide +kernel,rfl,by decide +kernel,by decide +kernel⟩
theorem pS:a8 ["boxes", "rows", "mode"] ["boxes", "rows", "mode"] (aJ lZ):=⟨rfl,rfl,rfl,by decide +kernel,rfl,by decide +kernel,by decide +kernel⟩
theorem oH:a8 ["deck", "many", "boxes", "pile", "rows", "mode", "turn", "k", "way", "kind", "body", "head", "first", "word", "condition"] ["deck", "many"] (aJ kE):=⟨rfl,rfl,rfl,by decide +kernel,rfl,by decide +kernel,by decide +kernel⟩
theorem ui:a8 ["rows", "matches", "opened", "at", "word"] ["rows"] (aJ pO):=⟨rfl,rfl,rfl,by decide +kernel,rfl,by decide +kernel,by decide +kernel⟩
theorem x9:a8 ["rows", "matches", "at", "word"] ["rows", "matches", "at"] (aJ vA):=⟨rfl,rfl,rfl,by decide +kernel,rfl,by decide +kernel,by decide +kernel⟩
theorem uj:a8 ["rows", "matches", "found", "at", "row", "word", "near", "other"] ["rows"] (aJ pP):=⟨rfl,rfl,rfl,by decide +kernel,rfl,by decide +kernel,by decide +kernel⟩
theorem kH:a8 ["body", "found", "one", "part"] ["body"] (aJ iJ):=⟨rfl,rfl,rfl,by decide +kernel,rfl,by decide +kernel,by decide +kernel⟩
theorem qV:a8 ["e", "values", "one", "other"] ["e", "values"] (aJ nT):=⟨rfl,rfl,rfl,by decide +kernel,rfl,by decide +kernel,by decide +kernel⟩
theorem oI:a8 ["boxes", "statement", "ways", "values", "figure", "names", "known", "word", "number", "at", "one", "other"] ["boxes", "statement", "ways", "values", "figure"] (aJ kF):=⟨rfl,rfl,rfl,by decide +kernel,rfl,by decide +kernel,by decide +kernel⟩
theorem uk:a8 ["program", "rows", "ways", "row", "word", "some", "first"] ["program", "rows"] (aJ pQ):=⟨rfl,rfl,rfl,by decide +kernel,rfl,by decide +kernel,by decide +kernel⟩
theorem i7:a8 ["made", "standing", "figure", "row"] ["made", "standing", "figure"] (aJ gy):=⟨rfl,rfl,rfl,by decide +kernel,rfl,by decide +kernel,by decide +kernel⟩
theorem pT:a8 ["made", "standing"] ["made", "standing"] (aJ l0):=⟨rfl,rfl,rfl,by decide +kernel,rfl,by decide +kernel,by decide +kernel⟩
theorem vX:a8 ["made", "standing", "row", "found", "one", "known", "left", "right", "held"] ["made", "standing"] (aJ sj):=⟨rfl,rfl,rfl,by decide +kernel,rfl,by decide +kernel,by decide +kernel⟩
theorem mJ:a8 ["made", "standing", "found"] ["made", "standing"] (aJ jQ):=⟨rfl,rfl,rfl,by decide +kernel,rfl,by decide +kernel,by decide +kernel⟩
theorem qW:a8 ["made", "found", "level", "asks", "figures", "standing", "one", "figure"] ["made"] (aJ nU):=⟨rfl,rfl,rfl,by decide +kernel,rfl,by decide +kernel,by decide +kernel⟩
theorem mK:a8 ["made", "found", "target", "standing"] ["made", "found", "target"] (aJ jR):=⟨rfl,rfl,rfl,by decide +kernel,rfl,by decide +kernel,by decide +kernel⟩
theorem LR:a8 ["script", "deck", "program", "rows", "made", "found", "some", "asked", "target", "due", "told"] ["script"] (aJ LQ):=⟨rfl,rfl,rfl,by decide +kernel,rfl,by decide +kernel,by decide +kernel⟩
theorem qX:a8 ["self", "program", "boxes", "body"] ["self", "program"] (aJ dc):=⟨rfl,rfl,rfl,by decide +kernel,rfl,by decide +kernel,by decide +kernel⟩
set_option genInjectivity false in
structure Ad where
 sk:zdk
 qv:zdt
 dI:zdk
 dR:zdt
 dW:zdk
 dX:zdt
 fS:zdk
 gA:zdt
 kn:zdk
 kI:zdt
 gB:zdk
 gJ:zdt
 cA:zdk
 cE:zdt
 nV:zdk
 mL:zdt
 mM:zdk
 nW:zdt
 kJ:zdk
 lG:zdt
 kK:zdk
 lH:zdt
 um:zdk
 uo:zdt
 mN:zdk
 nX:zdt
 dJ:zdk
 eU:zdt
 iK:zdk
 jh:zdt
 mO:zdk
 nY:zdt
 kL:zdk
 lI:zdt
 iL:zdk
 ji:zdt
 dY:zdk
 fD:zdt
 bS:zdk
 hJ:zdt
 iM:zdk
 jk:zdt
 fT:zdk
 nZ:zdt
 dZ:zdk
 eA:zdt
 kM:zdk
 ko:zdt
 iN:zdk
 jm:zdt
 iO:zdk
 jn:zdt
 iP:zdk
 jo:zdt
 gX:zdk
 iQ:zdt
 gC:zdk
 hV:zdt
 jC:zdk
 j0:zdt
 mQ:zdk
 n9:zdt
 jD:zdk
 j3:zdt
 cK:zdk
 cR:zdt
 fE:zdk
 fU:zdt
 gD:zdk
 hX:zdt
 jE:zdk
 j4:zdt
 cW:zdk
 dN:zdt
 gY:zdk
 iR:zdt
 kN:zdk
 lJ:zdt
 fK:zdk
 gK:zdt
 iS:zdk
 jq:zdt
 fL:zdk
 gM:zdt
 GL:zdk
 vB:zdt
 de:zdk
 l5:zdt
 aW:zdk
 eM:zdk
 fV:zdk
set_option genInjectivity false in
structure Tx(K:zaa)(mg:Str->Option zdl)(t:Ad):Prop where
 yc:b8 K mg "flow" E1 ["program"] t.sk t.qv
 gE:b8 K mg "flow_of_body" kD ["body", "behind"] t.dI t.dR
 fj:b8 K mg "first_row" pL ["body", "behind"] t.dW t.dX
 jr:b8 K mg "behind_body" lY ["statement", "after"] t.fS t.gA
 qw:b8 K mg "ways_of" vw ["statement", "after"] t.kn t.kI
 jF:b8 K mg "bodies_in" pM ["statement"] t.gB t.gJ
 fM:b8 K mg "statements_in" jP ["body"] t.cA t.cE
 j5:b8 K mg "worth" Bf ["e", "values"] t.nV t.mL
 kr:b8 K mg "word_at" vx ["chart", "row"] t.mM t.nW
 kO:b8 K mg "by_names" rY ["chart", "parts"] t.kJ t.lG
 oa:b8 K mg "in_order" rZ ["chart", "named"] t.kK t.lH
 qx:b8 K mg "holds" Bg ["chart", "standing"] t.um t.uo
 mS:b8 K mg "step_by" vy ["chart", "standing", "figure"] t.mN t.nX
 fG:b8 K mg "behind_condition" ij ["chart", "standing"] t.dJ t.eU
 gN:b8 K mg "all_led_to" nK ["chart", "standing"] t.iK t.jh
 qy:b8 K mg "targets" vz ["program"] t.mO t.nY
 kP:b8 K mg "shortest" r9 ["program", "target"] t.kL t.lI
 j6:b8 K mg "targets_at" nL ["chart", "standing"] t.iL t.ji
 gg:b8 K mg "shortest_inputs" iI ["chart"] t.dY t.fD
 iT:b8 K mg "first_inputs" aT ["chart"] t.bS t.hJ
 gO:b8 K mg "found_from" nM ["first", "led_from"] t.iM t.jk
 mT:b8 K mg "gone_on" iy ["place", "led_from", "figures", "found"] t.fT t.nZ
 bB:b8 K mg "_law_next" pN ["deck"] t.dZ t.eA
 gF:b8 K mg "_law_e" xX ["deck", "boxes", "deep"] t.kM t.ko
 j7:b8 K mg "_law_boxes" nN ["deck"] t.iN t.jm
 j8:b8 K mg "_law_plain" nO ["deck", "boxes", "k"] t.iO t.jn
 iU:b8 K mg "_law_close" nQ ["pile"] t.iP t.jo
 gZ:b8 K mg "_law_number" lZ ["boxes", "rows", "mode"] t.gX t.iQ
 iV:b8 K mg "_law_program" kE ["deck", "many"] t.gC t.hV
 jG:b8 K mg "_law_ends" pO ["rows"] t.jC t.j0
 kx:b8 K mg "_law_to" vA ["rows", "matches", "at"] t.mQ t.n9
 lK:b8 K mg "_law_ways" pP ["rows"] t.jD t.j3
 eB:b8 K mg "_law_statements" iJ ["body"] t.cK t.cR
 cL:b8 K mg "_law_worth" nT ["e", "values"] t.fE t.fU
 iW:b8 K mg "_law_stepped" kF ["boxes", "statement", "ways", "values", "figure"] t.gD t.hX
 lL:b8 K mg "_law_made" pQ ["program", "rows"] t.jE t.j4
 cX:b8 K mg "_law_next_standing" gy ["made", "standing", "figure"] t.cW t.dN
 g7:b8 K mg "_law_is_ask" l0 ["made", "standing"] t.gY t.iR
 og:b8 K mg "_law_met" sj ["made", "standing"] t.kN t.lJ
 hZ:b8 K mg "_law_till_ask" jQ ["made", "standing"] t.fK t.gK
 j9:b8 K mg "_law_found" nU ["made"] t.iS t.jq
 ia:b8 K mg "_law_shortest" jR ["made", "found", "target"] t.fL t.gM
 GN:b8 K mg "law" LQ ["script"] t.GL t.vB
 ka:I0 K "__init__" "Chart.__init__" dc t.de t.l5
 Bh:Binds K t.l5 ["self", "program"] []
 c9:Na K t.aW
 LS:mg "Chart"=some (.ref t.aW)
 yd:Mk K t.aW t.de
 gG:jJ K t.aW "names"
 gH:jJ K t.aW "sizes"
 iX:jJ K t.aW "first"
 cN:jJ K t.aW "statements"
 fW:jJ K t.aW "ways"
 ye:Uk K t.eM
 vY:zcu K (.ref t.eM) (.ref t.eM)=some true
 PK:mg "RowError"=some (.ref t.eM)
 Al:Uk K t.fV
 yf:zcu K (.ref t.fV) (.ref t.fV)=some true
 RL:mg "TooMany"=some (.ref t.fV)
 Bi:∃u,mg "END"=some u/\RelV (.int 0) u
 wj:∃u,mg "FIGURE_COUNT"=some u/\RelV (.int 10) u
 yh:∃u,mg "MOST_PLACES"=some u/\RelV (.int 2000) u
 g8:mg "len"=none
 js:mg "range"=none
 E2:mg "bool"=none
 pU:mg "dict"=none
 sr:mg "list"=none
 uq:mg "tuple"=none
 LU:mg "max"=none
 LV:mg "min"=none
 kc:mg "isinstance"=none
 lM:mg "enumerate"=none
 C6:mg "zip"=none
 ur:mg "ValueError"=none
end RK
end
section
set_option maxHeartbeats 4000000
namespace RK
open PG
open PySem L2
local macro_rules | `(tactic|walk_at "r")=>`(tactic|((try dsimp only[Jx,Jz,Jk,Qy,OW,tIf,Qx,Jn,TH,X5,QT,Ws,JE,AE,O5,QL,B3,FK,FJ,XX,rU,Ul,FD,FE,O0,OY,Jm,OX,QD,Jp,QC,QE,Pe,M7,G4,FZ,Pf,JV,JW,JX,JY,JZ,J0,J7,J8,J9,Ka,F9,Ga,Gb,Gh,Gi,Q8,Uh,Qz,Jl,G5,eO,Pg,Ph,zaT,F0,F1,Kc,F4,F5,Cd,EM,EN,EO,F6,Pj,Uj,Kk,Kd,Ke,XO,zaK,zaJ,zah,zaB,Kf,Kg,Lk,Ll,F2]);(try simp only[Jx,Jz,Jk,Qy,OW,tIf,Qx,Jn,TH,X5,QT,Ws,JE,AE,O5,QL,B3,FK,FJ,XX,rU,Ul,FD,FE,O0,OY,Jm,OX,Q3,Q4,QD,Jp,QC,QE,Pe,M7,G4,FZ,Pf,JV,JW,JX,JY,JZ,J0,J7,J8,J9,Ka,F9,Ga,Gb,Gh,Gi,Q8,Uh,Qz,Jl,G5,eO,JU,Ye,Pg,Ph,Ui,Nt,Kb,Q5,Q6,zaT,F0,F1,Kc,F4,F5,Cd,EM,EN,EO,F6,Pj,Uj,Kk,Kd,Ke,XO,zav,zaK,zaJ,Nw,Nx,true_and,and_true,zah,zaB,Ny,Kf,Kg,Lk,Ll,F2,Int.reduceLT,Int.reduceLE,Nat.reduceLeDiff,Nat.reduceAdd,and_self])))
local macro_rules|`(tactic|ac_nf)=>`(tactic|walk_at "r")
section
variable{P:zdw}{w:zdm}{K:zaa}{mg:Str->Option zdl}{base:Heap}{t:Ad}
theorem C7{ss:List bI}{vs:List V}(l:vs.length=ss.length):(zaH ss.length).map (fun i=>((Sum.inl (ss.getD i (.stop 0)).row:Key),vs.getD i .cB))=cT ss vs:=by
 apply zbV
 ·simp[cT,l]
 ·intro i h1 h2;simp at h1;simp[cT,h1,l]
theorem Bj{fl:List dM}{vs:List V}(l:vs.length=fl.length):(zaH fl.length).map (fun i=>((Sum.inl (fl.getD i (0,.stop,[])).1:Key),vs.getD i .cB))=zbd (fun r v=>(Sum.inl r.1,v)) fl vs:=by
 apply zbV
 ·simp[l]
 ·intro i h1 h2;simp at h1;simp[h1,l]
theorem C8{fl:List dM}{vs:List V}(l:vs.length=fl.length):(zbd (fun r v=>((Sum.inl r.1:Key),v)) fl vs).map (·.1)=fl.map fun r=>(Sum.inl r.1:Key):=by
 apply zbV
 ·simp[l]
 ·intro i h1 h2;simp
theorem GO{K:zaa}{H:Hp}:∀ {fl:List dM} {us:List V},aN K H (fl.map eK) us->∃ws:List V,ws.length=fl.length/\∀i (hi:i<fl.length),∃a q,us[i]?=some (.ref a)/\ws[i]?=some (.ref q)/\bQ K H a [.int fl[i].1,.str (fZ fl[i].2.1),.ref q]/\bQ K H q (fl[i].2.2.map V.int)
 |[],us,_=>⟨[],rfl,fun i hi=>by simp at hi⟩
 |r::fl,us,h=>by
  have h0:=h;rw[zam,aN.aI] at h;obtain⟨v,tl,rfl,h1,h2⟩:=h;obtain⟨ws,l,hw⟩:=GO h2;obtain⟨a,q,e,s1,s2⟩:=CB h0 (i:=0) (y:=v) rfl (by simp);refine⟨.ref q::ws,by simp[l],fun i hi=>?_⟩;cases i with
  |zero=>exact⟨a,q,by rw[e];rfl,rfl,s1,s2⟩
  |succ i=>
   obtain⟨a',q',e1,e2,e3,e4⟩:=hw i (by simpa using hi);exact⟨a',q',by simpa using e1,by simpa using e2,by simpa using e3,by simpa using e4⟩
theorem E3{b:List bI}(pw:(az b).Pairwise fun a b=>a.row<b.row):((aQ b 0).map fun r=>(Sum.inl r.1:Key)).Nodup:=by
 have e:(aQ b 0).map (fun r=>(Sum.inl r.1:Key))=(az b).map fun s=>(Sum.inl s.row:Key):=by
  have h:((aQ b 0).map fun r=>(r.1,r.2.1))=(az b).map fun x=>(x.row,x.wd):=by rw[cY,fQ]
  have h2:=congrArg (List.map fun r:Int×Wd=>(Sum.inl r.1:Key)) h;rw[zbj,zbj] at h2;exact h2
 rw[e];exact rP pw
theorem mU{K:zaa}{H:Hp}{B:zdk}{bs:List gm}(r:Rep K H (.lst (bs.map jy)) (.ref B)):∃xs,i6 K H B xs/\xs.length=bs.length/\∀i x,xs[i]?=some x->∃a,x=.ref a/\bQ K H a [.str (S (bs.getD i ⟨[],0,0⟩).name),.int (bs.getD i ⟨[],0,0⟩).size,.int (bs.getD i ⟨[],0,0⟩).first]:=by
 rw[Rep.bL] at r;obtain⟨_,xs,e,q,rs⟩:=r;cases e;have lx:xs.length=bs.length:=by rw[rs.length,zad]
 refine⟨xs,q,lx,fun i x hx=>?_⟩;have li:i<bs.length:=by have:=(zak.mp hx).1;lia
 obtain⟨v,hv,rv⟩:=rs.get (i:=i) (d:=jy bs[i]) (by rw[zal,zac li];rfl);rw[hx] at hv;cases hv;have eg:bs.getD i ⟨[],0,0⟩=bs[i]:=by rw[zap,zac li];rfl
 rw[eg];simp only[jy,Rep.bg,aN.aI,aN.br,Rep.bA,Rep.bt] at rv;obtain⟨a,ys,rfl,hS,_,_,rfl,rfl,_,_,rfl,rfl,_,_,rfl,rfl,rfl⟩:=rv;exact⟨a,rfl,hS⟩
theorem su{ax:List (Key×V)}(h:(ax.map (·.1)).Nodup):iB [] ax=ax:=by
 have:=ie ax [] (by simpa using h);simpa using this
theorem yX(T:Tx K mg t)(eC:bJ P w K mg base dy 1 t.dW t.dX ["body", "behind"] (tR K))(fN:bJ P w K mg base dy 6 t.cA t.cE ["body"] (qp K 4))(yi:bJ P w K mg base dy 7 t.sk t.qv ["program"] (Ez K)) :
 bJ P w K mg base dy 8 t.de t.l5 ["self", "program"] (NW K t.aW):=by
 refine T.ka.lQ qX (fun vs H Q E h=>?_) (fun eT A outer s H vs Q E hr h=>?_)
 ·obtain⟨_,_,_,_,rfl,_⟩:=h;rfl
 obtain⟨p,dx,v,pr,rfl,hp,WO,rp,hd,hf,pw,nb,lb,q⟩:=h;have nd:=qX.nd;obtain⟨LW,yj,yk⟩:=T.Bi;refine⟨_,[some (.ref p),some v,none,none],(ah (c5 2 nd (aC aM (pv 1) aj ao))
 (ah (c5 3 nd (aC aM (pv 1) aj ao))
 (ah (xf (pv 0) (hG (own:=["box"]) (ix:=[]) rfl (by rfl) (by rfl) (cH (pv 2)) (fun _ _ _ _=>(fY (i:=0) (by show List.Nodup (["box"]:List Str);decide +kernel) rfl (zbq rfl))) (fun _ _ _ _=>iC) (fun _ _ _ _=>(aC (iD (K:=K) rfl) (pv 0) aj ao))) rfl)
 (ah (xf (pv 0) (fO (rR rfl) rfl T.pU PyProof.Rows.Boot.«dict» (ag (hG (own:=["box"]) (ix:=[]) rfl (by rfl) (by rfl) (cH (pv 2)) (fun _ _ _ _=>(fY (i:=0) (by show List.Nodup (["box"]:List Str);decide +kernel) rfl (zbq rfl))) (fun _ _ _ _=>iC) (fun _ _ _ _=>(aS (ag (aC (iD (K:=K) rfl) (pv 0) aj ao) (ag (aC (iD (K:=K) rfl) (pv 0) aj ao) aa aX) aX)))) aa k0)) rfl)
 (ah (xf (pv 0) (aS (ag (da eC T.fj hr (bc 3 (ag (qc rfl yj yk) aa jW))) (ag (fO lO rfl T.uq PyProof.Rows.Boot.«tuple» (ag (hG (own:=["box"]) (ix:=[]) rfl (by rfl) (by rfl) (cH (pv 2)) (fun _ _ _ _=>(fY (i:=0) (by show List.Nodup (["box"]:List Str);decide +kernel) rfl (zbq rfl))) (fun _ _ _ _=>iC) (fun _ _ _ _=>(aC (iD (K:=K) rfl) (pv 0) aj ao))) aa k0)) aa bG) bG)) rfl)
 (ah (xf (pv 0) (fO (rR rfl) rfl T.pU PyProof.Rows.Boot.«dict» (ag (hG (own:=["statement"]) (ix:=[]) rfl (by rfl) (by rfl) (cH (da fN T.fM hr (bc 3 aa))) (fun _ _ _ _=>(fY (i:=0) (by show List.Nodup (["statement"]:List Str);decide +kernel) rfl (zbq rfl))) (fun _ _ _ _=>iC) (fun _ _ _ _=>(aS (ag (aC (iD (K:=K) rfl) (pv 0) aj ao) (bc 0 aa) aX)))) aa k0)) rfl)
 (ak (xf (pv 0) (fO (rR rfl) rfl T.pU PyProof.Rows.Boot.«dict» (ag (hG (own:=["told"]) (ix:=[]) rfl (by rfl) (by rfl) (cH (da yi T.yc hr (bc 1 aa))) (fun _ _ _ _=>(fY (i:=0) (by show List.Nodup (["told"]:List Str);decide +kernel) rfl (zbq rfl))) (fun _ _ _ _=>iC) (fun _ _ _ _=>(aS (ag (aC (iD (K:=K) rfl) (pv 0) aj ao) (ag (aC (iD (K:=K) rfl) (pv 0) aj ao) aa aX) aX)))) aa k0)) rfl)))))))),rfl,?_⟩
 have line:zds=2 ^ 24:=rfl;have YX:=rp;unfold kB at YX;rw[Rep.bg] at YX;obtain⟨pa,pxs,rfl,PL,E4⟩:=YX;rw[aN.aI] at E4;obtain⟨v1,t1,rfl,Ow,E4⟩:=E4;rw[aN.aI] at E4;obtain⟨v2,t2,rfl,SY,E4⟩:=E4;obtain⟨bb,_,rfl,_⟩:=Rep.bL.mp SY;obtain⟨bx,_,rfl,_⟩:=Rep.bL.mp Ow;refine av fun U1 eE=>?_;ac_nf;refine aG PL (v:=.ref bx) (au (j:=0) rfl) ((eE _ _).mpr (av fun U2 gh=>?_));clear eE;ac_nf;refine aG PL (v:=.ref bb) (au (j:=1) rfl) ((gh _ _).mpr (av fun U3 iY=>?_));clear gh;ac_nf;simp only[B3,jS];ac_nf;obtain⟨xs1,hx1,lx1,g1⟩:=mU Ow;refine⟨⟨_,hx1⟩,fun D1 S0=>km (K:=K) (r:=[]) (fun i=>.str (S (pr.ay.getD i ⟨[],0,0⟩).name)) hx1 (by lia) S0 (fun i x H2 hx s2 R hR=>?_) (fun H2 s2 h2=>⟨p,_,dx,[],rfl,s2 _ _ hp,T.c9,T.gG,by decide,(iY _ _).mpr (av fun U4 ke=>?_)⟩)⟩
 ·obtain⟨a,rfl,ha⟩:=g1 i x hx;ac_nf;exact aG (s2.a7 ha) (v:=.str (S (pr.ay.getD i ⟨[],0,0⟩).name)) (au (j:=0) rfl) hR
 clear iY;rw[lx1,jd (fun b:gm=>V.str (S b.name))] at h2;have yQ:=s2 _ _ hp;have n1:D1≠p:=(ai hp S0).symm;have u3:ba (·=p) H (upd H2 p (.ins t.aW dx [("names",.ref D1)])):=(ba.of s2).trans (ba.refl.put (O:=(·=p)) rfl _);have DE:(upd H2 p (.ins t.aW dx [("names",.ref D1)])) p=some (.ins t.aW dx [("names",.ref D1)]):=ae;have d1:(upd H2 p (.ins t.aW dx [("names",.ref D1)])) D1=some (.lst (pr.ay.map fun b=>.str (S b.name))):=by rw[aw n1];exact h2
 rw[show kR (zab "names") (V.ref D1) []=[(zab "names",V.ref D1)] from rfl];generalize upd H2 p (.ins t.aW dx [("names",.ref D1)])=H3 at *;ac_nf;simp only[B3,jS];ac_nf;have pr3:=qr hp u3 _ _ Ow;obtain⟨xs3,WQ,lx3,g3⟩:=mU pr3;refine⟨⟨_,WQ⟩,fun D2 MQ=>rV (K:=K) (r:=[]) (fun i=>(.inr (S (pr.ay.getD i ⟨[],0,0⟩).name),.int (pr.ay.getD i ⟨[],0,0⟩).size)) WQ (by lia) MQ (fun i x H2 hx s2 R hR=>?_) (fun ps H4 s4 h4 NV ep=>⟨D2,ps,rfl,.of h4,fun q hq=>.of (NV q hq),?_,fun D3 Jb=>⟨p,_,dx,_,rfl,aq.new Jb _ _ _ (s4 _ _ DE),T.c9,T.gH,by simp,(ke _ _).mpr (av fun U5 uv=>?_)⟩⟩)⟩
 ·obtain⟨a,rfl,ha⟩:=g3 i x hx;ac_nf;exact aG (s2.a7 ha) (v:=.str (S (pr.ay.getD i ⟨[],0,0⟩).name)) (au (j:=0) rfl) (aG (s2.a7 ha) (v:=.int (pr.ay.getD i ⟨[],0,0⟩).size) (au (j:=1) rfl) hR)
 ·have:=congrArg za5 ep;simp only[zad,zbt] at this;lia
 clear ke;have ek:ps.map (fun q=>(q.2.1,q.2.2))=pr.ay.map fun b=>(Sum.inr (S b.name),V.int b.size):=by
  rw[show (fun q:zdk×Key×V=>(q.2.1,q.2.2))=(·.2) from rfl,ep,lx3,jd (fun b:gm=>((Sum.inr (S b.name):Key),V.int b.size))]
 have nk:((pr.ay.map fun b=>((Sum.inr (S b.name):Key),V.int b.size)).map (·.1)).Nodup:=by
  rw[zbj];refine zbe.mpr ((zbe.mp nb).imp fun {a b} Gk e=>Gk ?_);exact mq.mp (Sum.inr.inj e)
 rw[ek,su nk,show kR (zab "sizes") (V.ref D3) [(zab "names",V.ref D1)]=[(zab "names",V.ref D1),(zab "sizes",V.ref D3)] from rfl];have UX:=s4.trans (aq.new Jb (.dK (pr.ay.map fun b=>(Sum.inr (S b.name),V.int b.size))));have d3:(upd H4 D3 (.dK (pr.ay.map fun b=>(Sum.inr (S b.name),V.int b.size)))) D3=some (.dK (pr.ay.map fun b=>(Sum.inr (S b.name),V.int b.size))):=ae;generalize upd H4 D3 (.dK (pr.ay.map fun b=>(Sum.inr (S b.name),V.int b.size)))=H5 at *;have n3:D3≠p:=bU d3 (UX _ _ DE) (by intro z;cases z);have u6:ba (·=p) H3 (upd H5 p (.ins t.aW dx [(zab "names",V.ref D1),(zab "sizes",V.ref D3)])):=(ba.of UX).trans (ba.refl.put (O:=(·=p)) rfl _);have i0:(upd H5 p (.ins t.aW dx [(zab "names",V.ref D1),(zab "sizes",V.ref D3)])) p=some (.ins t.aW dx [(zab "names",V.ref D1),(zab "sizes",V.ref D3)]):=ae;have d3:(upd H5 p (.ins t.aW dx [(zab "names",V.ref D1),(zab "sizes",V.ref D3)])) D3=some (.dK (pr.ay.map fun b=>(Sum.inr (S b.name),V.int b.size))):=by rw[aw n3];exact d3
 generalize upd H5 p (.ins t.aW dx [(zab "names",V.ref D1),(zab "sizes",V.ref D3)])=H6 at *;have d1:=u6 _ _ n1 d1;have u6:=u3.trans u6;have pr6:=qr hp u6 _ _ Ow;have pb6:=qr hp u6 _ _ SY;ac_nf;simp only[B3,jS];ac_nf;have lbd:=kl pr.body;obtain⟨xs6,hx6,lx6,g6⟩:=mU pr6;refine⟨bb,pr.body,0,rfl,pb6,by lia,⟨_,hx6⟩,fun D4 hD4=>km (K:=K) (r:=[]) (fun i=>.int (pr.ay.getD i ⟨[],0,0⟩).first) hx6 (by lia) hD4 (fun i x H2 hx s2 R hR=>?_) (fun H7 s7 h7=>⟨D4,_,rfl,.inl ⟨.of h7,fun D5 hD5 D6 S1=>⟨p,_,dx,_,rfl,aq.new S1 _ _ _ (aq.new hD5 _ _ _ (s7 _ _ i0)),T.c9,T.iX,by simp,(uv _ _).mpr (av fun U6 yK=>?_)⟩⟩⟩)⟩
 ·obtain⟨a,rfl,ha⟩:=g6 i x hx;ac_nf;exact aG (s2.a7 ha) (v:=.int (pr.ay.getD i ⟨[],0,0⟩).first) (au (j:=2) rfl) hR
 clear uv;rw[show kR (zab "first") (V.ref D6) [(zab "names",V.ref D1),(zab "sizes",V.ref D3)]=[(zab "names",V.ref D1),(zab "sizes",V.ref D3),(zab "first",V.ref D6)] from rfl];rw[lx6,jd (fun b:gm=>V.int b.first)] at S1 ⊢;have s8:=s7.trans ((aq.new hD5 (.tup (pr.ay.map fun b=>V.int b.first))).trans (aq.new S1 (.tup [V.int (bj pr.body 0),V.ref D5])));have d5:(upd (upd H7 D5 (.tup (pr.ay.map fun b=>V.int b.first))) D6 (.tup [V.int (bj pr.body 0),V.ref D5])) D5=some (.tup (pr.ay.map fun b=>V.int b.first)):=aq.new S1 _ _ _ ae;have d6:(upd (upd H7 D5 (.tup (pr.ay.map fun b=>V.int b.first))) D6 (.tup [V.int (bj pr.body 0),V.ref D5])) D6=some (.tup [V.int (bj pr.body 0),V.ref D5]):=ae;generalize upd (upd H7 D5 (.tup (pr.ay.map fun b=>V.int b.first))) D6 (.tup [V.int (bj pr.body 0),V.ref D5])=H8 at *;have Jc:=s8 _ _ i0;have n5:D5≠p:=bU d5 Jc (by intro z;cases z);have n6:D6≠p:=bU d6 Jc (by intro z;cases z);have u9:ba (·=p) H6 (upd H8 p (.ins t.aW dx [(zab "names",V.ref D1),(zab "sizes",V.ref D3),(zab "first",V.ref D6)])):=(ba.of s8).trans (ba.refl.put (O:=(·=p)) rfl _);have YY:(upd H8 p (.ins t.aW dx [(zab "names",V.ref D1),(zab "sizes",V.ref D3),(zab "first",V.ref D6)])) p=some (.ins t.aW dx [(zab "names",V.ref D1),(zab "sizes",V.ref D3),(zab "first",V.ref D6)]):=ae;have d5:(upd H8 p (.ins t.aW dx [(zab "names",V.ref D1),(zab "sizes",V.ref D3),(zab "first",V.ref D6)])) D5=some (.tup (pr.ay.map fun b=>V.int b.first)):=by rw[aw n5];exact d5
 have d6:(upd H8 p (.ins t.aW dx [(zab "names",V.ref D1),(zab "sizes",V.ref D3),(zab "first",V.ref D6)])) D6=some (.tup [V.int (bj pr.body 0),V.ref D5]):=by rw[aw n6];exact d6
 generalize upd H8 p (.ins t.aW dx [(zab "names",V.ref D1),(zab "sizes",V.ref D3),(zab "first",V.ref D6)])=H9 at *;have d1:=u9 _ _ n1 d1;have d3:=u9 _ _ n3 d3;have u9:=u6.trans u9;have pb9:=qr hp u9 _ _ SY;ac_nf;simp only[B3,jS];ac_nf;refine⟨bb,pr.body,H9,rfl,aq.refl _,pb9,by lia,hf,fun WR us vC sP YZ WS S2=>?_⟩;have sl:=mB pr.body;have uL:us.length=(az pr.body).length:=by rw[S2.length,zad]
 refine⟨WR,rfl,⟨_,.of WS⟩,fun D7 hD7=>rV (K:=K) (r:=[]) (fun i=>(.inl ((az pr.body).getD i (.stop 0)).row,us.getD i .cB)) (.of WS) (by lia) hD7 (fun i x H2 hx s2 R hR=>?_) (fun ps LX RM MM NV ep=>⟨D7,ps,rfl,.of MM,fun q hq=>.of (NV q hq),?_,fun D8 hD8=>⟨p,_,dx,_,rfl,aq.new hD8 _ _ _ (RM _ _ (sP _ _ YY)),T.c9,T.cN,by simp,(yK _ _).mpr ?_⟩⟩)⟩
 ·have li:i<(az pr.body).length:=by have:=(zak.mp hx).1;lia
  obtain⟨v',Dz,rv⟩:=S2.get (i:=i) (d:=eI (az pr.body)[i]) (by rw[zal,zac li];rfl);rw[hx] at Dz;cases Dz;have e1:(az pr.body).getD i (.stop 0)=(az pr.body)[i]:=by rw[zap,zac li];rfl
  have e2:us.getD i .cB=x:=by rw[zap,hx];rfl
  rw[e1,e2] at hR;obtain⟨sa,ys,rfl,hs⟩:=iq _ rv;ac_nf;exact aG ((sP.trans s2).a7 hs) (v:=.int (az pr.body)[i].row) (au (j:=1) rfl) hR
 ·have:=congrArg za5 ep;simp only[zad,zbt] at this;lia
 clear yK;have ek:ps.map (fun q=>(q.2.1,q.2.2))=cT (az pr.body) us:=by
  rw[show (fun q:zdk×Key×V=>(q.2.1,q.2.2))=(·.2) from rfl,ep,uL,C7 uL]
 have nk:((cT (az pr.body) us).map (·.1)).Nodup:=by
  rw[ig _ _ uL];exact rP pw
 rw[ek,su nk,show kR (zab "statements") (V.ref D8) [(zab "names",V.ref D1),(zab "sizes",V.ref D3),(zab "first",V.ref D6)]=[(zab "names",V.ref D1),(zab "sizes",V.ref D3),(zab "first",V.ref D6),(zab "statements",V.ref D8)] from rfl];have S3:=(sP.trans RM).trans (aq.new hD8 (.dK (cT (az pr.body) us)));have d8:(upd LX D8 (.dK (cT (az pr.body) us))) D8=some (.dK (cT (az pr.body) us)):=ae;generalize upd LX D8 (.dK (cT (az pr.body) us))=Ox at *;have Y0:=S3 _ _ YY;have n8:D8≠p:=bU d8 Y0 (by intro z;cases z);have DF:ba (·=p) H9 (upd Ox p (.ins t.aW dx [(zab "names",V.ref D1),(zab "sizes",V.ref D3),(zab "first",V.ref D6),(zab "statements",V.ref D8)])):=(ba.of S3).trans (ba.refl.put (O:=(·=p)) rfl _);have RN:(upd Ox p (.ins t.aW dx [(zab "names",V.ref D1),(zab "sizes",V.ref D3),(zab "first",V.ref D6),(zab "statements",V.ref D8)])) p=some (.ins t.aW dx [(zab "names",V.ref D1),(zab "sizes",V.ref D3),(zab "first",V.ref D6),(zab "statements",V.ref D8)]):=ae;have d8:(upd Ox p (.ins t.aW dx [(zab "names",V.ref D1),(zab "sizes",V.ref D3),(zab "first",V.ref D6),(zab "statements",V.ref D8)])) D8=some (.dK (cT (az pr.body) us)):=by rw[aw n8];exact d8
 generalize upd Ox p (.ins t.aW dx [(zab "names",V.ref D1),(zab "sizes",V.ref D3),(zab "first",V.ref D6),(zab "statements",V.ref D8)])=WT at *;have d1:=DF _ _ n1 d1;have d3:=DF _ _ n3 d3;have d5:=DF _ _ n5 d5;have d6:=DF _ _ n6 d6;have r13:=pG YY DF _ _ S2;have DF:=u9.trans DF;have Y1:=qr hp DF _ _ rp;ac_nf;simp only[B3,jS];ac_nf;refine⟨_,pr,rfl,Y1,hd,hf,fun l14 fv Y2 RO ad7 PN r14=>?_⟩;obtain⟨ws,Y3,hws⟩:=GO r14;have Y4:fv.length=(aQ pr.body 0).length:=by rw[r14.length,zad]
 have lfl:(aQ pr.body 0).length=(az pr.body).length:=by
  have h1:=congrArg za5 (cY pr.body 0);rw[zad] at h1;lia
 refine⟨l14,rfl,⟨_,.of PN⟩,fun D9 WU=>rV (K:=K) (r:=[]) (fun i=>(.inl ((aQ pr.body 0).getD i (0,.stop,[])).1,ws.getD i .cB)) (.of PN) (by lia) WU (fun i x H2 hx s2 R hR=>?_) (fun ps PQ Oy Yb NV ep=>⟨D9,ps,rfl,.of Yb,fun q hq=>.of (NV q hq),?_,fun RP RQ=>⟨p,_,dx,_,rfl,aq.new RQ _ _ _ (Oy _ _ (RO _ _ RN)),T.c9,T.fW,by simp,?_⟩⟩)⟩
 ·have li:i<(aQ pr.body 0).length:=by have:=(zak.mp hx).1;lia
  obtain⟨a,qq,e1,e2,q1,q2⟩:=hws i li;rw[hx] at e1;cases e1;have g1:(aQ pr.body 0).getD i (0,.stop,[])=(aQ pr.body 0)[i]:=by rw[zap,zac li];rfl
  have g2:ws.getD i .cB=V.ref qq:=by rw[zap,e2];rfl
  rw[g1,g2] at hR;ac_nf;exact aG (s2.a7 q1) (v:=.int (aQ pr.body 0)[i].1) (au (j:=0) rfl) (aG (s2.a7 q1) (v:=.ref qq) (au (j:=2) rfl) hR)
 ·have:=congrArg za5 ep;simp only[zad,zbt] at this;lia
 have ek:ps.map (fun q=>(q.2.1,q.2.2))=zbd (fun r v=>(Sum.inl r.1,v)) (aQ pr.body 0) ws:=by
  rw[show (fun q:zdk×Key×V=>(q.2.1,q.2.2))=(·.2) from rfl,ep,Y4,Bj Y3]
 have nk:((zbd (fun r v=>((Sum.inl r.1:Key),v)) (aQ pr.body 0) ws).map (·.1)).Nodup:=by
  rw[C8 Y3];exact E3 pw
 rw[ek,su nk,show kR (zab "ways") (V.ref RP) [(zab "names",V.ref D1),(zab "sizes",V.ref D3),(zab "first",V.ref D6),(zab "statements",V.ref D8)]=[(zab "names",V.ref D1),(zab "sizes",V.ref D3),(zab "first",V.ref D6),(zab "statements",V.ref D8),(zab "ways",V.ref RP)] from rfl];have Oz:=(RO.trans Oy).trans (aq.new RQ (.dK (zbd (fun r v=>(Sum.inl r.1,v)) (aQ pr.body 0) ws)));have UY:=Oy.trans (aq.new RQ (.dK (zbd (fun r v=>(Sum.inl r.1,v)) (aQ pr.body 0) ws)));have S4:(upd PQ RP (.dK (zbd (fun r v=>(Sum.inl r.1,v)) (aQ pr.body 0) ws))) RP=some (.dK (zbd (fun r v=>(Sum.inl r.1,v)) (aQ pr.body 0) ws)):=ae;generalize upd PQ RP (.dK (zbd (fun r v=>(Sum.inl r.1,v)) (aQ pr.body 0) ws))=UZ at *;have RR:=Oz _ _ RN;have n10:RP≠p:=bU S4 RR (by intro z;cases z);have put:∀fs,ba (·=p) UZ (upd UZ p (.ins t.aW dx fs)):=fun fs=>ba.refl.put (O:=(·=p)) rfl _;have uE:=fun fs=>(ba.of Oz).trans (put fs);have uA:=fun fs=>DF.trans (uE fs);refine q _ (fun b o n e=>uA _ b o n e) ⟨⟨dx,D1,D3,D6,D5,D8,RP,us,ws,ae,uA _ _ _ (bU WO hp (by intro z;cases z)) WO,uE _ _ _ n1 d1,uE _ _ _ n3 d3,uE _ _ _ n6 d6,uE _ _ _ n5 d5,uL,uE _ _ _ n8 d8,pG RN (uE _) _ _ r13,Y3,put _ _ _ n10 S4,fun i hi=>?_⟩⟩;obtain⟨a,qq,e1,e2,q1,q2⟩:=hws i hi;refine⟨qq,e2,?_⟩;have q2:=UY.a7 q2;rcases q2 with (q2 |⟨o,q2⟩) |q2
 ·exact .inl (.inl (put _ _ _ (bU q2 RR (by intro z;cases z)) q2))
 ·exact .inl (.inr ⟨o,put _ _ _ (bU q2 RR (by intro z;cases z)) q2⟩)
 ·exact .inr q2
theorem OA{o:W}(ho:o=[43]\/o=[45]\/o=[42])(a b c:Int):cf (iB [] [((Sum.inr (zab "+"):Key),V.int a),(Sum.inr (zab "-"),V.int b),(Sum.inr (zab "*"),V.int c)]) (Sum.inr (S o))=some (V.int (if o=[43] then a else if o=[45] then b else c)):=by
 have nk:([(Sum.inr (zab "+"):Key),Sum.inr (zab "-"),Sum.inr (zab "*")]).Nodup:=by decide +kernel
 rw[ie _ [] (by simpa using nk),zaK];have e1:(Sum.inr (zab "+"):Key)=Sum.inr (S [43]):=by decide +kernel
 have e2:(Sum.inr (zab "-"):Key)=Sum.inr (S [45]):=by decide +kernel
 have e3:(Sum.inr (zab "*"):Key)=Sum.inr (S [42]):=by decide +kernel
 have ne:∀x y:W,x≠y->¬(Sum.inr (S x):Key)=Sum.inr (S y):=fun x y n z=>n (mq.mp (Sum.inr.inj z));rw[e1,e2,e3];rcases ho with rfl |rfl |rfl
 ·rw[zzp rfl,cg rfl]
 ·rw[zzn (by decide),zzp rfl,ck (ne _ _ (by decide)),cg rfl]
 ·rw[zzn (by decide),zzn (by decide),ck (ne _ _ (by decide)),ck (ne _ _ (by decide)),cg rfl]
theorem LY(T:Tx K mg t){n:Nat}(lN:bJ P w K mg base dy n t.nV t.mL ["e", "values"] (Pr K n)) :
 bJ P w K mg base dy (n+1) t.nV t.mL ["e", "values"] (Pr K (n+1)):=by
 refine T.j5.F.lQ C4 (fun vs H Q E h=>?_) (fun eT A outer s H vs Q E hr h=>?_)
 ·obtain⟨_,_,_,_,rfl,_⟩:=h;rfl
 obtain⟨v,d,tr,kv,rfl,hv,hd,ok,ht,h6,q⟩:=h;have nd:=C4.nd;have hu:=dS hr;refine⟨_,[some v,some (.ref d),none,none,none],(ah (c5 2 nd (aC aM (pv 0) aj ao))
 (ah (bh (aD bN (pv 2) aU (aR _))
 (ak (aO (aC aM (pv 0) aj ao)))
 aV)
 (ah (bh (aD bN (pv 2) aU (aR _))
 (ak (aO (b9 hu (pv 1) (aC aM (pv 0) aj ao) (fun _ _=>rfl))))
 aV)
 (ah (c5 3 nd (da lN T.j5 hr (ag (aC aM (pv 0) aj ao) (bc 1 aa) aX)))
 (ah (c5 4 nd (da lN T.j5 hr (ag (aC aM (pv 0) aj ao) (bc 1 aa) aX)))
 (ah (bh (aD bN (pv 2) aU (aR _))
 (ak (aO (bf dP (pv 3) (pv 4))))
 aV)
 (ah (bh (aD bN (pv 2) aU (aR _))
 (ak (aO (bf xb (pv 3) (pv 4))))
 aV)
 (ak (aO (bf FY (pv 3) (pv 4))))))))))),rfl,?_⟩
 have n1:¬("box":Str) = "number":=by decide +kernel
 cases tr with
 |num m=>
  unfold oJ at hv;simp only[Rep.bg,aN.aI,aN.br,Rep.bA,Rep.bt] at hv;obtain⟨a,xs,rfl,hS,_,_,rfl,rfl,_,_,rfl,rfl,rfl⟩:=hv;ac_nf;refine aG hS rfl ?_;ac_nf;rw[zzp trivial];exact aG hS rfl (q _ (aq.refl _))
 |box x=>
  unfold oJ at hv;simp only[Rep.bg,aN.aI,aN.br,Rep.bA,Rep.bt] at hv;obtain⟨a,xs,rfl,hS,_,_,rfl,rfl,_,_,rfl,rfl,rfl⟩:=hv;ac_nf;refine aG hS rfl ?_;ac_nf;rw[zzn n1,zzp trivial];obtain⟨i,e,_⟩:=ok;have q:=q _ (aq.refl _);rw[cm,EH e] at q;exact aG hS rfl ⟨d,.int i,rfl,qD.s hd e,q⟩
 |bin o l r=>
  unfold oJ at hv;simp only[Rep.bg,aN.aI,aN.br,Rep.bA,Rep.bt] at hv;obtain⟨a,xs,rfl,hS,_,_,rfl,rfl,vl,_,rfl,hl,vr,_,rfl,Y5,rfl⟩:=hv;obtain⟨ho,ol,or'⟩:=ok;have n2:¬S o = "number":=by rcases ho with rfl |rfl |rfl<;>decide +kernel
  have n3:¬S o = "box":=by rcases ho with rfl |rfl |rfl<;>decide +kernel
  have e1:(S o = "+")↔o=[43]:=by rw[show ("+":Str)=S [43] from rfl,mq]
  have e2:(S o = "-")↔o=[45]:=by rw[show ("-":Str)=S [45] from rfl,mq]
  ac_nf;refine aG hS rfl ?_;ac_nf;rw[zzn n2,zzn n3];have wl:=mC ol;have wr:=mC or';rw[qi] at ht h6;refine aG hS rfl ⟨vl,d,l,kv,rfl,hl,hd,ol,by lia,by lia,fun H1 s1=>?_⟩;refine aG (s1.a7 hS) rfl ⟨vr,d,r,kv,rfl,Y5.mono s1,s1 _ _ hd,or',by lia,by lia,fun H2 s2=>?_⟩;ac_nf;have q:=q _ (s1.trans s2);rw[cm] at q;refine b7 (fun c=>?_) (fun c=>?_)
  ·rw[zzp (e1.mp c)] at q;exact q
  rw[zzn (fun z=>c (e1.mpr z))] at q;refine b7 (fun c=>?_) (fun c=>?_)
  ·rw[zzp (e2.mp c)] at q;exact q
  rw[zzn (fun z=>c (e2.mpr z))] at q;exact⟨⟨AZ wl (by lia),AZ wr (by lia)⟩,q⟩
theorem vD(T:Tx K mg t):∀n,bJ P w K mg base dy n t.nV t.mL ["e", "values"] (Pr K n)
 |0=>by
  have no:∀vs H Q E,¬Pr K 0 vs H Q E:=fun vs H Q E h=>by obtain⟨_,_,_,_,_,_,_,_,h,_⟩:=h;lia
  exact⟨fun vs H Q E h=>zzb h (no vs H Q E),fun A outer s H args us vs Q E _ _ _ _ h=>zzb h (no vs H Q E)⟩
 |n+1=>LY T (vD T n)
theorem IF(T:Tx K mg t){n:Nat}(cV:bJ P w K mg base dy n t.fE t.fU ["e", "values"] (Pr K n)) :
 bJ P w K mg base dy (n+1) t.fE t.fU ["e", "values"] (Pr K (n+1)):=by
 refine T.cL.F.lQ qV (fun vs H Q E h=>?_) (fun eT A outer s H vs Q E hr h=>?_)
 ·obtain⟨_,_,_,_,rfl,_⟩:=h;rfl
 obtain⟨v,d,tr,kv,rfl,hv,hd,ok,ht,h6,q⟩:=h;have nd:=qV.nd;have hu:=dS hr;refine⟨_,[some v,some (.ref d),none,none],(ah (bh (aD bN (aC aM (pv 0) aj ao) aU (aR _))
 (ak (aO (aC aM (pv 0) aj ao)))
 aV)
 (ah (bh (aD bN (aC aM (pv 0) aj ao) aU (aR _))
 (ak (aO (b9 hu (pv 1) (aC aM (pv 0) aj ao) (fun _ _=>rfl))))
 aV)
 (ah (c5 2 nd (da cV T.cL hr (ag (aC aM (pv 0) aj ao) (bc 1 aa) aX)))
 (ah (c5 3 nd (da cV T.cL hr (ag (aC aM (pv 0) aj ao) (bc 1 aa) aX)))
 (ak (aO (b9 hu (Nn (xo aU (bf dP (pv 2) (pv 3)) (xo aU (bf xb (pv 2) (pv 3)) (xo aU (bf FY (pv 2) (pv 3)) Nm))) rfl rfl (by simp) (by decide)) (aC aM (pv 0) aj ao) (fun _ _=>rfl)))))))),rfl,?_⟩
 have n1:¬("box":Str) = "number":=by decide +kernel
 cases tr with
 |num m=>
  unfold oJ at hv;simp only[Rep.bg,aN.aI,aN.br,Rep.bA,Rep.bt] at hv;obtain⟨a,xs,rfl,hS,_,_,rfl,rfl,_,_,rfl,rfl,rfl⟩:=hv;ac_nf;refine aG hS rfl ⟨rfl,?_⟩;rw[zzp rfl];exact aG hS rfl (q _ (aq.refl _))
 |box x=>
  unfold oJ at hv;simp only[Rep.bg,aN.aI,aN.br,Rep.bA,Rep.bt] at hv;obtain⟨a,xs,rfl,hS,_,_,rfl,rfl,_,_,rfl,rfl,rfl⟩:=hv;ac_nf;refine aG hS rfl ⟨rfl,?_⟩;rw[zzn (fun z=>n1 (V.str.inj z))];refine aG hS rfl ⟨rfl,?_⟩;rw[zzp rfl];obtain⟨i,e,_⟩:=ok;have q:=q _ (aq.refl _);rw[cm,EH e] at q;exact aG hS rfl ⟨d,.int i,rfl,qD.s hd e,q⟩
 |bin o l r=>
  unfold oJ at hv;simp only[Rep.bg,aN.aI,aN.br,Rep.bA,Rep.bt] at hv;obtain⟨a,xs,rfl,hS,_,_,rfl,rfl,vl,_,rfl,hl,vr,_,rfl,Y5,rfl⟩:=hv;obtain⟨ho,ol,or'⟩:=ok;have n2:¬S o = "number":=by rcases ho with rfl |rfl |rfl<;>decide +kernel
  have n3:¬S o = "box":=by rcases ho with rfl |rfl |rfl<;>decide +kernel
  ac_nf;refine aG hS rfl ⟨rfl,?_⟩;rw[zzn (fun z=>n2 (V.str.inj z))];refine aG hS rfl ⟨rfl,?_⟩;rw[zzn (fun z=>n3 (V.str.inj z))];have wl:=mC ol;have wr:=mC or';rw[qi] at ht h6;refine aG hS rfl ⟨vl,d,l,kv,rfl,hl,hd,ol,by lia,by lia,fun H1 s1=>?_⟩;refine aG (s1.a7 hS) rfl ⟨vr,d,r,kv,rfl,Y5.mono s1,s1 _ _ hd,or',by lia,by lia,fun H2 s2=>?_⟩;simp only[Pc,AL];ac_nf;intro p hp;refine⟨⟨AZ wl (by lia),AZ wr (by lia)⟩,ae,[(.inr (zab "+"),.int (cm (yT kv) l+cm (yT kv) r)),(.inr (zab "-"),.int (cm (yT kv) l-cm (yT kv) r)),(.inr (zab "*"),.int (cm (yT kv) l*cm (yT kv) r))],rfl,by simp,?_⟩;have s3:=aq.new hp (.dK []);have sE:aq H2 (upd (upd H2 p (.dK [])) p (.dK (iB [] [(.inr (zab "+"),.int (cm (yT kv) l+cm (yT kv) r)),(.inr (zab "-"),.int (cm (yT kv) l-cm (yT kv) r)),(.inr (zab "*"),.int (cm (yT kv) l*cm (yT kv) r))]))):=by
   rw[M3];exact aq.new hp _
  refine aG (((s1.trans s2).trans sE).a7 hS) (v:=.str (S o)) (au (j:=0) rfl) ⟨p,.int (cm (yT kv) (.bin o l r)),rfl,qD.s ae ?_,q _ ((s1.trans s2).trans sE)⟩;rw[cm];exact OA ho _ _ _
theorem sF(T:Tx K mg t):∀n,bJ P w K mg base dy n t.fE t.fU ["e", "values"] (Pr K n)
 |0=>by
  have no:∀vs H Q E,¬Pr K 0 vs H Q E:=fun vs H Q E h=>by obtain⟨_,_,_,_,_,_,_,_,h,_⟩:=h;lia
  exact⟨fun vs H Q E h=>zzb h (no vs H Q E),fun A outer s H args us vs Q E _ _ _ _ h=>zzb h (no vs H Q E)⟩
 |n+1=>IF T (sF T n)
theorem vZ(T:Tx K mg t):bJ P w K mg base dy 1 t.kJ t.lG ["chart", "parts"] (Ib K t.aW):=by
 refine T.kO.F.lQ vU (fun vs H Q E h=>?_) (fun eT A outer s H vs Q E hr h=>?_)
 ·obtain⟨_,_,_,_,rfl,_⟩:=h;rfl
 obtain⟨p,a,pr,us,rfl,co,ha,lu,nb,lb,q⟩:=h;have nd:=vU.nd;refine⟨_,[some (.ref p),some (.ref a)],(ak (aO (rT rfl rfl T.pU rfl T.C6 (ag (ky (pv 0) rfl) (bc 1 aa) F3)))),rfl,?_⟩;obtain⟨dx,nl,sd,fa,va,st,wy,uu,ws,h1,h2,h3,_⟩:=co.at_;ac_nf;simp only[WC];ac_nf;refine⟨p,_,dx,_,.ref nl,rfl,h1,T.c9,T.gG,rfl,?_⟩;refine⟨nl,a,pr.ay.map fun b=>.inr (S b.name),us,rfl,?_,ha,by rw[zad];exact lu,fun d hd=>?_⟩
 ·rw[zbj];exact .of h3
 ·rw[nC,ie _ [] (by rw[zaK,lq _ _ lu];exact names_nodup nb),zaK];exact q d _ (aq.new hd _) hd ae
theorem C9(T:Tx K mg t):bJ P w K mg base dy 1 t.kK t.lH ["chart", "named"] (Ic K t.aW):=by
 refine T.oa.F.lQ vV (fun vs H Q E h=>?_) (fun eT A outer s H vs Q E hr h=>?_)
 ·obtain⟨_,_,_,_,_,rfl,_⟩:=h;rfl
 obtain⟨p,d,pr,ax,us,rfl,co,hd,lu,hv,lb,q⟩:=h;have nd:=vV.nd;have hu:=dS hr;refine⟨_,[some (.ref p),some (.ref d)],(ak (aO (fO lO rfl T.uq PyProof.Rows.Boot.«tuple» (ag (hG (own:=["name"]) (ix:=[1]) rfl (by rfl) (by rfl) (cH (ky (pv 0) rfl)) (fun _ _ _ _=>(fY (i:=0) (by show List.Nodup (["name", "named"]:List Str);decide +kernel) rfl (zbq rfl))) (fun _ _ _ _=>iC) (fun _ _ _ _=>(b9 hu (pv 1) (pv 0) (fun _ _=>rfl)))) aa k0)))),rfl,?_⟩;obtain⟨dx,nl,sd,fa,va,st,wy,uu,ws,h1,h2,h3,_⟩:=co.at_;ac_nf;simp only[jS];ac_nf;have ln:(pr.ay.map fun b=>V.str (S b.name)).length=pr.ay.length:=zad ..;refine⟨p,_,dx,_,.ref nl,rfl,h1,T.c9,T.gG,rfl,nl,rfl,⟨_,.of h3⟩,fun D hD=>?_⟩;refine km (K:=K) (r:=[some (V.ref d)]) (fun i=>us.getD i .cB) (.of h3) (by rw[ln];lia) hD (fun i x H2 hx s2 R hR=>?_) (fun H2 s2 h2=>⟨D,_,rfl,.inl ⟨.of h2,fun l hl=>?_⟩⟩)
 ·have li:i<pr.ay.length:=by have:=(zak.mp hx).1;rw[ln] at this;exact this
  rw[zal,zac li] at hx;cases hx;have g:=hv i li;have li2:i<us.length:=by lia
  rw[zac li2] at g;have e:us.getD i .cB=us[i]:=by rw[zap,zac li2];rfl
  rw[e] at hR;ac_nf;exact⟨d,us[i],rfl,qD.s (s2 _ _ hd) g,hR⟩
 ·have e:(zaH (pr.ay.map fun b=>V.str (S b.name)).length).map (fun i=>us.getD i .cB)=us:=by
   rw[ln,<- lu];have:=jd (fun v:V=>v) V.cB us;rw[List.map_id'] at this;exact this
  rw[e];exact q l _ (s2.trans (aq.new hl _)) (.of ae)
theorem sG(T:Tx K mg t):bJ P w K mg base dy 1 t.mM t.nW ["chart", "row"] (K9 K t.aW):=by
 refine T.kr.F.lQ xZ (fun vs H Q E h=>?_) (fun eT A outer s H vs Q E hr h=>?_)
 ·obtain⟨_,_,_,rfl,_⟩:=h;rfl
 obtain⟨p,pr,row,rfl,co,pw,q⟩:=h;have nd:=xZ.nd;have hu:=dS hr;obtain⟨LW,yj,yk⟩:=T.Bi;refine⟨_,[some (.ref p),some (.int row)],(ah (bh (aD bN (pv 1) (qc rfl yj yk) (aR _))
 (ak (aO aU))
 aV)
 (ak (aO (aC aM (b9 hu (ky (pv 0) rfl) (pv 1) (fun _ _=>rfl)) aj ao)))),rfl,?_⟩
 obtain⟨dx,nl,sd,fa,va,st,wy,uu,ws,h1,h2,h3,h4,h5,h6,h7,h8,h9,_⟩:=co.at_;ac_nf;rcases q with ⟨rfl,q⟩ |⟨n0,i,hi,er,q⟩
 ·exact(zzp rfl).mpr q
 ·refine(zzn n0).mpr ⟨p,_,dx,_,.ref st,rfl,h1,T.c9,T.cN,rfl,?_⟩;have li:i<uu.length:=by lia
  obtain⟨v,hv,rv⟩:=h9.get (i:=i) (d:=eI (az pr.body)[i]) (by rw[zal,zac hi];rfl);have g:=pC _ _ h7 pw i hi v hv;obtain⟨sa,ys,rfl,hs⟩:=iq _ rv;rw[er] at g;exact⟨st,.ref sa,rfl,.inl ⟨_,.inl row,.inl h8,rfl,g.symm⟩,aG hs (v:=.str (fZ (az pr.body)[i].wd)) (au (j:=0) rfl) q⟩
theorem Dc(T:Tx K mg t):bJ P w K mg base dy 4 t.um t.uo ["chart", "standing"] (NX K t.aW):=by
 have sH:=@vZ P w _ _ base _ T;have lN:=@vD P w _ _ base _ T 3;refine T.qx.F.lQ C5 (fun vs H Q E h=>?_) (fun eT A outer s H vs Q E hr h=>?_)
 ·obtain⟨_,_,_,_,_,_,_,_,_,rfl,_⟩:=h;rfl
 obtain⟨p,sa,pr,vals,i,hi,sg,l,r,rfl,co,ok,⟨va,OB,E5⟩,lv,cp,tl,tr,q⟩:=h;have nd:=C5.nd;have hu:=dS hr;refine⟨_,[some (.ref p),some (.ref sa),none,none,none,none],(ah (c5 2 nd (b9 hu (ky (pv 0) rfl) (aC aM (pv 1) aj ao) (fun _ _=>rfl)))
 (ah (c5 3 nd (da sH T.kO hr (bc 0 (ag (aC aM (pv 1) aj ao) aa aX))))
 (ah (c5 4 nd (da lN T.j5 hr (ag (aC aM (pv 2) aj ao) (bc 3 aa) aX)))
 (ah (c5 5 nd (da lN T.j5 hr (ag (aC aM (pv 2) aj ao) (bc 3 aa) aX)))
 (ah (bh (aD bN (aC aM (pv 2) aj ao) aU (aR _))
 (ak (aO (kW oQ (pv 4) (pv 5) (aR _))))
 aV)
 (ak (aO (kW bN (pv 4) (pv 5) (aR _))))))))),rfl,?_⟩
 obtain⟨dx,nl,sd,fa,wa,st,wy,uu,ws,h1,h2,h3,h4,h5,h6,h7,h8,h9,_⟩:=co.at_;have li:i<uu.length:=by lia
 obtain⟨v,hv,rv⟩:=h9.get (i:=i) (d:=eI (az pr.body)[i]) (by rw[zal,zac hi];rfl);have g:=pC _ _ h7 ok.pw i hi v hv;obtain⟨ta,w0,vl,vr,ys,rfl,hs,rl,rr⟩:=rW rv cp;generalize (az pr.body)[i]=sm at *;have e1:(V.str (S sg)=V.str (zab "<"))↔sg=[60]:=by rw[show (zab "<":Str)=S [60] from rfl,V.str.injEq,mq]
 refine av fun U1 eE=>?_;ac_nf;refine⟨p,_,dx,_,.ref st,rfl,h1,T.c9,T.cN,rfl,?_⟩;refine aG OB (v:=.int sm.row) (au (j:=0) rfl) ⟨st,.ref ta,rfl,.inl ⟨_,.inl sm.row,.inl h8,rfl,g.symm⟩,(eE _ _).mpr (av fun U2 gh=>?_)⟩;clear eE;ac_nf;refine aG OB (v:=.ref va) (au (j:=1) rfl) ⟨p,va,pr,vals.map V.int,rfl,co,E5,by rw[zad];exact lv,ok.nb,ok.uZ,fun d H2 s2 hd2 y2=>(gh _ _).mpr (av fun U3 iY=>?_)⟩;clear gh;ac_nf;refine aG (s2.a7 hs) (v:=vl) (au (j:=3) rfl) ⟨vl,d,l,_,rfl,rl.mono s2,y2,tl.1,by have:=tl.2;lia,by have:=tl.2;lia,fun H3 s3=>(iY _ _).mpr (av fun U4 ke=>?_)⟩;clear iY;ac_nf;refine aG ((s2.trans s3).a7 hs) (v:=vr) (au (j:=4) rfl) ⟨vr,d,r,_,rfl,rr.mono (s2.trans s3),s3 _ _ y2,tr.1,by have:=tr.2;lia,by have:=tr.2;lia,fun H4 s4=>(ke _ _).mpr ?_⟩;clear ke;have q:=q _ ((s2.trans s3).trans s4);unfold gU at q;ac_nf;refine aG (((s2.trans s3).trans s4).a7 hs) (v:=.str (S sg)) (au (j:=2) rfl) ⟨rfl,b7 (fun e=>?_) (fun e=>?_)⟩
 ·rw[zzp (e1.mp e)] at q;exact q
 ·rw[zzn (fun z=>e (e1.mpr z))] at q;exact q
theorem qH(T:Tx K mg t):bJ P w K mg base dy 5 t.dJ t.eU ["chart", "standing"] (Ig K t.aW):=by
 have wY:=@Dc P w _ _ base _ T;have mV:=@sG P w _ _ base _ T;refine T.fG.F.lQ jU (fun vs H Q E h=>?_) (fun eT A outer s H vs Q E hr h=>?_)
 ·obtain⟨_,_,_,_,_,_,_,_,_,_,rfl,_⟩:=h;rfl
 obtain⟨p,sa,pr,vals,i,hi,hf,sg,l,r,rfl,co,ok,sI,lv,cp,tl,tr,w0,w1,q⟩:=h;have nd:=jU.nd;have hu:=dS hr;refine⟨_,[some (.ref p),some (.ref sa),none],(ah (c5 2 nd (aC aM (pv 1) aj ao))
 (ah (bh (rG (da wY T.qx hr (bc 0 (bc 1 aa))))
 (ak (aO (aS (ag (aC aM (b9 hu (ky (pv 0) rfl) (pv 2) (fun _ _=>rfl)) aj ao) (ag (aC aM (pv 1) aj ao) aa aX) aX))))
 aV)
 (ah (bh (aD bN (da mV T.kr hr (bc 0 (bc 2 aa))) aU (aR _))
 (ak (aO eV))
 aV)
 (ak (aO (aS (ag (aC aM (b9 hu (ky (pv 0) rfl) (pv 2) (fun _ _=>rfl)) aj ao) (ag (aC aM (pv 1) aj ao) aa aX) aX))))))),rfl,?_⟩
 obtain⟨va,OB,E5⟩:=id sI;have aea:=ok.pos _ (zau hi);refine av fun U1 eE=>?_;ac_nf;refine aG OB (v:=.int (az pr.body)[i].row) (au (j:=0) rfl) ((eE _ _).mpr ?_);clear eE;ac_nf;refine⟨p,sa,pr,vals,i,hi,sg,l,r,rfl,co,ok,sI,lv,cp,tl,tr,fun H2 s2=>?_⟩;obtain⟨dx,fs,wy,wq,g1,g2,g3,g4⟩:=(co.mono s2).way ok i hi hf;have qq:∀(j:Nat) (x:Int),(aQ pr.body 0)[i].2.2[j]?=some x->tw ((aQ pr.body 0)[i].2.2.map V.int) (j:Int)=some (V.int x):=fun j x e=>au (by rw[zal,e];rfl);have back:∀(x:Int) (H3:Hp),aq H2 H3->∀pp,H3 pp=none->qM K (upd H3 pp (.tup [V.int x,V.ref va])) (some (x,vals)) (.ref pp):=fun x H3 s3 pp Bk=>⟨pp,rfl,va,.of ae,((s2.trans s3).trans (aq.new Bk _)).a7 E5⟩
 unfold iF at q;rw[cp] at q;simp only at q;refine⟨_,rfl,b7 (fun e=>?_) (fun e=>?_)⟩
 ·rw[zzp e] at q;have e0:(aQ pr.body 0)[i].2.2[0]?=some ((aQ pr.body 0)[i].2.2.getD 0 0):=by rw[zap,zac w0];rfl
  refine⟨p,_,dx,fs,.ref wy,rfl,g1,T.c9,T.fW,g2,wy,.ref wq,rfl,g3,aG g4 (v:=.int ((aQ pr.body 0)[i].2.2.getD 0 0)) (qq 0 _ e0) (aG (s2.a7 OB) (v:=.ref va) (au (j:=1) rfl) fun pp Bk=>?_)⟩;exact q _ _ (s2.trans (aq.new Bk _)) (back _ _ (aq.refl _) pp Bk)
 ·rw[zzn e] at q;refine⟨p,pr,_,rfl,co.mono s2,ok.pw,.inr ⟨by lia,i,hi,rfl,rfl,b7 (fun e2=>?_) (fun e2=>?_)⟩⟩
  ·have ew:(az pr.body)[i].wd=.cu:=(pB _).mp e2;rw[zzp ew] at q;exact q _ _ s2 rfl
  ·have ew:(az pr.body)[i].wd≠.cu:=fun z=>e2 ((pB _).mpr z);rw[zzn ew] at q;have w1:=w1 ew;have e1:(aQ pr.body 0)[i].2.2[1]?=some ((aQ pr.body 0)[i].2.2.getD 1 0):=by rw[zap,zac w1];rfl
   refine⟨p,_,dx,fs,.ref wy,rfl,g1,T.c9,T.fW,g2,wy,.ref wq,rfl,g3,aG g4 (v:=.int ((aQ pr.body 0)[i].2.2.getD 1 0)) (qq 1 _ e1) (aG (s2.a7 OB) (v:=.ref va) (au (j:=1) rfl) fun pp Bk=>?_)⟩;exact q _ _ (s2.trans (aq.new Bk _)) (back _ _ (aq.refl _) pp Bk)
theorem GP:∀w:Wd,Ni (V.str (fZ w)) [V.str (zab "must"),V.str (zab "if"),V.str (zab "while")]=decide (w=.cu\/w=.ifs\/w=.fh):=by
 intro w;cases w<;>decide +kernel
theorem E6:∀w:Wd,(fZ w=zab "ask")↔w=.ask:=by
 intro w;cases w<;>decide +kernel
theorem OC:∀w:Wd,(fZ w=zab "put")↔w=.put:=by
 intro w;cases w<;>decide +kernel
theorem OD:∀w:Wd,(fZ w=zab "say")↔w=.say:=by
 intro w;cases w<;>decide +kernel
theorem qM.mono{H H':Hp}{o:Option (Int×List Int)}{v:V}(h:qM K H o v)(s:aq H H'):qM K H' o v:=by
 cases o with
 |none=>exact h
 |some x=>obtain⟨a,e,sa⟩:=h;exact⟨a,e,sa.mono s⟩
theorem cond_of{bs:List gm}{vals:List Int}{st:bI}(h:st.wd=.cu\/st.wd=.ifs\/st.wd=.fh)(po:Gu bs vals st):∃sg l r,pH st=some (sg,l,r)/\DC bs vals l/\DC bs vals r/\∀ws fig,lC bs st ws vals fig=(iF bs st ws vals,none):=by
 cases st<;>simp only[bI.wd,reduceCtorEq,or_self,or_false,false_or] at h<;>exact⟨_,_,_,rfl,po.1,po.2,fun _ _=>rfl⟩
theorem LZ{st:bI}(h:st.wd=.ask):∃k b,st=.ask k b:=by
 cases st<;>first |exact⟨_,_,rfl⟩ |cases h
theorem L1{st:bI}(h:st.wd=.put):∃k b e,st=.put k b e:=by
 cases st<;>first |exact⟨_,_,_,rfl⟩ |cases h
theorem L4{st:bI}(h:st.wd=.say):∃k e,st=.say k e:=by
 cases st<;>first |exact⟨_,_,rfl⟩ |cases h
theorem OE{st:bI}(h0:¬(st.wd=.cu\/st.wd=.ifs\/st.wd=.fh))(h1:st.wd≠.ask)(h2:st.wd≠.put)(h3:st.wd≠.say):∃k,st=.stop k:=by
 cases st<;>simp only[bI.wd,reduceCtorEq,or_self,or_false,false_or,not_true,not_false_iff,ne_eq] at h0 h1 h2 h3<;>exact⟨_,rfl⟩
theorem Am{H:Hp}{k:Int}{b:W}{v:V}(h:Rep K H (eI (.ask k b)) v):∃a,v=.ref a/\bQ K H a [.str "ask",.int k,.str (S b)]:=by
 simp only[eI,Rep.bg,aN.aI,aN.br,Rep.bA,Rep.bt] at h;obtain⟨a,ys,rfl,hS,_,_,rfl,rfl,_,_,rfl,rfl,_,_,rfl,rfl,rfl⟩:=h;exact⟨a,rfl,hS⟩
theorem An{H:Hp}{k:Int}{b:W}{e:PM.Tr}{v:V}(h:Rep K H (eI (.put k b e)) v):∃a u,v=.ref a/\bQ K H a [.str "put",.int k,.str (S b),u]/\Rep K H (oJ e) u:=by
 simp only[eI,Rep.bg,aN.aI,aN.br,Rep.bA,Rep.bt] at h;obtain⟨a,ys,rfl,hS,_,_,rfl,rfl,_,_,rfl,rfl,_,_,rfl,rfl,u,_,rfl,ru,rfl⟩:=h;exact⟨a,u,rfl,hS,ru⟩
theorem Ao{H:Hp}{k:Int}{e:PM.Tr}{v:V}(h:Rep K H (eI (.say k e)) v):∃a u,v=.ref a/\bQ K H a [.str "say",.int k,u]/\Rep K H (oJ e) u:=by
 simp only[eI,Rep.bg,aN.aI,aN.br,Rep.bA,Rep.bt] at h;obtain⟨a,ys,rfl,hS,_,_,rfl,rfl,_,_,rfl,rfl,u,_,rfl,ru,rfl⟩:=h;exact⟨a,u,rfl,hS,ru⟩
theorem AB(vals:List Int)(j:Nat)(x:Int):(vals.map V.int).set j (.int x)=(vals.set j x).map V.int:=by
 rw[List.map_set]
theorem qz{bs:List gm}(bp:∀b∈bs,0<b.size)(x:W):0<eQ bs x:=by
 unfold eQ;cases e:bs[c7 bs x]? with
 |none=>decide
 |some b=>exact bp b (zaI e)
theorem E7(T:Tx K mg t):bJ P w K mg base dy 6 t.mN t.nX ["chart", "standing", "figure"] (Lb K t.aW):=by
 have sJ:=@qH P w _ _ base _ T;have sH:=@vZ P w _ _ base _ T;have E8:=@C9 P w _ _ base _ T;have lN:=@vD P w _ _ base _ T 3;refine T.mS.F.lQ x5 (fun vs H Q E h=>?_) (fun eT A outer s H vs Q E hr h=>?_)
 ·obtain⟨_,_,_,_,_,_,_,_,_,rfl,_⟩:=h;rfl
 obtain⟨p,sa,fv,pr,vals,fig,i,hi,hf,rfl,co,ok,bp,sI,lv,U0,po,w0,w1,q⟩:=h;have nd:=x5.nd;have hu:=dS hr;refine⟨_,[some (.ref p),some (.ref sa),some fv,none,none,none,none,none],(ah (c5 3 nd (aC aM (pv 1) aj ao))
 (ah (c5 4 nd (b9 hu (ky (pv 0) rfl) (pv 3) (fun _ _=>rfl)))
 (ah (c5 5 nd (aC aM (pv 4) aj ao))
 (ah (bh (aD i9 (pv 5) (aS (cO (vs:=[.str "must",.str "if",.str "while"]) (by kernel_rfl))) rfl)
 (ak (aO (aS (ag (da sJ T.fG hr (bc 0 (bc 1 aa))) (ag eV aa aP) bG))))
 aV)
 (ah (c5 6 nd (da sH T.kO hr (bc 0 (ag (aC aM (pv 1) aj ao) aa aX))))
 (ah (c5 7 nd eV)
 (ah (bh (aD bN (pv 5) aU (aR _))
 (ak (mZ hu (pv 6) (aC aM (pv 4) aj ao) (bf cI (pv 2) (b9 hu (ky (pv 0) rfl) (aC aM (pv 4) aj ao) (fun _ _=>rfl))) rfl))
 (ak (bh (aD bN (pv 5) aU (aR _))
 (ak (mZ hu (pv 6) (aC aM (pv 4) aj ao) (bf cI (da lN T.j5 hr (ag (aC aM (pv 4) aj ao) (bc 6 aa) aX)) (b9 hu (ky (pv 0) rfl) (aC aM (pv 4) aj ao) (fun _ _=>rfl))) rfl))
 (ak (bh (aD bN (pv 5) aU (aR _))
 (ak (c5 7 nd (da lN T.j5 hr (ag (aC aM (pv 4) aj ao) (bc 6 aa) aX))))
 aV)))))
 (ak (aO (aS (ag (aS (ag (aC aM (b9 hu (ky (pv 0) rfl) (pv 3) (fun _ _=>rfl)) aj ao) (ag (da E8 T.oa hr (bc 0 (bc 6 aa))) aa bG) aX)) (bc 7 aa) bW))))))))))),rfl,?_⟩
 obtain⟨va,OB,E5⟩:=id sI;obtain⟨dx,nl,sd,fa,va',st,wy,uu,ws,h1,h2,h3,h4,h5,h6,h7,h8,h9,_⟩:=co.at_;have li:i<uu.length:=by lia
 obtain⟨v,hv,rv⟩:=h9.get (i:=i) (d:=eI (az pr.body)[i]) (by rw[zal,zac hi];rfl);have g:=pC _ _ h7 ok.pw i hi v hv;have sel:∃ta ds,v=.ref ta/\bQ K H ta (.str (fZ (az pr.body)[i].wd)::ds):=by
  generalize (az pr.body)[i]=sm at rv;cases sm<;>(rw[eI,Rep.bg] at rv;obtain⟨ta,ys,rfl,hs,rs⟩:=rv;rw[aN.aI] at rs;obtain⟨v0,t0,rfl,e0,rs⟩:=rs;rw[Rep.bA] at e0;subst e0;exact⟨ta,_,rfl,hs⟩)
 obtain⟨ta,ds,rfl,hs⟩:=sel;refine av fun U1 eE=>?_;ac_nf;refine aG OB (v:=.int (az pr.body)[i].row) (au (j:=0) rfl) ((eE _ _).mpr (av fun U2 gh=>?_));clear eE;ac_nf;refine⟨p,_,dx,_,.ref st,rfl,h1,T.c9,T.cN,rfl,⟨st,.ref ta,rfl,.inl ⟨_,.inl _,.inl h8,rfl,g.symm⟩,(gh _ _).mpr (av fun U3 iY=>?_)⟩⟩;clear gh;ac_nf;refine aG hs (v:=.str (fZ (az pr.body)[i].wd)) (au (j:=0) rfl) ((iY _ _).mpr ?_);clear iY;refine av fun U4 ke=>?_;ac_nf;intro z hz;have sz:=aq.new hz (HO.tup [V.str (zab "must"),V.str (zab "if"),V.str (zab "while")]);refine⟨z,_,rfl,.inr (.of ae),rfl,rfl,_,rfl,b7 (fun e=>?_) (fun e=>?_)⟩
 ·have e:=e;simp only[zaz,if_false,GP,decide_eq_true_eq] at e;obtain⟨sg,l,r,cp,tl,tr,es⟩:=cond_of e po;rw[es] at q;refine⟨p,sa,pr,vals,i,hi,hf,sg,l,r,rfl,co.mono sz,ok,sI.mono sz,lv,cp,tl,tr,w0,fun nm=>w1 (by rcases e with e |e |e;exact zzb e nm;exact .inl e;exact .inr e),fun v H2 s2 os pp Bk=>?_⟩;exact q pp v _ ((sz.trans s2).trans (aq.new Bk _)) (.of ae) (qM.mono os (aq.new Bk _))
 have e0:=e;simp only[zaz,if_false,GP,decide_eq_true_eq] at e0;refine(ke _ _).mpr (av fun U5 uv=>?_);clear ke e;ac_nf;refine aG (sz.a7 OB) (v:=.ref va) (au (j:=1) rfl) ⟨p,va,pr,vals.map V.int,rfl,co.mono sz,sz.a7 E5,by rw[zad];exact lv,ok.nb,ok.uZ,fun d H2 s2' hd2 y2=>(uv _ _).mpr (av fun U6 yK=>?_)⟩;clear uv;have s2:=sz.trans s2';have hd:=sz.free hd2;ac_nf;refine(yK _ _).mpr (av fun U7 GQ=>?_);clear yK;have fin:∀(H5:Hp) (ax:List (Key×V)) (us:List Int) (sd:Option Int),aq H H5->H5 d=some (.dK ax)->us.length=pr.ay.length->(∀i (hi:i<pr.ay.length),cf ax (.inr (S pr.ay[i].name))=(us.map V.int)[i]?)->
  lC pr.ay (az pr.body)[i] (aQ pr.body 0)[i].2.2 vals fig=(some ((aQ pr.body 0)[i].2.2.getD 0 0,us),sd)->
  U7 [some (.ref p),some (.ref sa),some fv,some (.int (az pr.body)[i].row),some (.ref ta),some (.str (fZ (az pr.body)[i].wd)),some (.ref d),some (La sd)] H5:=by
  intro H5 ax us sd' s5 hd5 lu look es;rw[es] at q;refine(GQ _ _).mpr ?_;clear GQ;ac_nf;obtain⟨dx,fs,wy,wq,g1,g2,g3,g4⟩:=(co.mono s5).way ok i hi hf;have e0:(aQ pr.body 0)[i].2.2[0]?=some ((aQ pr.body 0)[i].2.2.getD 0 0):=by rw[zap,zac w0];rfl
  have qq:tw ((aQ pr.body 0)[i].2.2.map V.int) ((0:Nat):Int)=some (V.int ((aQ pr.body 0)[i].2.2.getD 0 0)):=au (by rw[zal,e0];rfl);refine⟨p,_,dx,fs,.ref wy,rfl,g1,T.c9,T.fW,g2,wy,.ref wq,rfl,g3,aG g4 (v:=.int ((aQ pr.body 0)[i].2.2.getD 0 0)) qq ?_⟩;refine⟨p,d,pr,ax,us.map V.int,rfl,co.mono s5,hd5,by rw[zad];exact lu,look,ok.uZ,fun a H6 s6 sq p1 E9 p2 yQ=>?_⟩;exact q p2 _ _ (((s5.trans s6).trans (aq.new E9 _)).trans (aq.new yQ _)) (.of ae) ⟨p1,rfl,a,(aq.new yQ _).a7 (.of ae),((aq.new E9 _).trans (aq.new yQ _)).a7 sq⟩
 have Va:(cF pr.ay (vals.map V.int)).length<zds:=by
  have line:zds=2 ^ 24:=rfl;have:=ok.uZ;unfold cF;rw[List.length_zipWith];lia
 have keep:∀i (hi:i<pr.ay.length),cf (cF pr.ay (vals.map V.int)) (.inr (S pr.ay[i].name))=(vals.map V.int)[i]?:=fun i hi=>by
  have li:i<(vals.map V.int).length:=by rw[zad];lia
  rw[mD pr.ay (vals.map V.int) (by rw[zad];exact lv) ok.nb i hi _ (zac li),zac li]
 have put:∀(b:W),b∈pr.ay.map (·.name)->∀(x:Int),(tU pr.ay vals b x).length=pr.ay.length/\∀i (hi:i<pr.ay.length),cf (putK (cF pr.ay (vals.map V.int)) (.inr (S b)) (.int x)) (.inr (S pr.ay[i].name))=((tU pr.ay vals b x).map V.int)[i]?:=fun b hb x=>by
  refine⟨by unfold tU;rw[zcP];exact lv,fun i hi=>?_⟩;rw[EI (by rw[zad];exact lv) ok.nb hb,AB];rfl
 have Vb:∀H3 o,aq H H3->aq H (upd H3 d o):=fun H3 o s3=>((aZ.of s3:aZ d H H3).put o).same hd;ac_nf;refine b7 (fun e=>?_) (fun e=>?_)
 ·obtain⟨k,b,MR⟩:=LZ ((E6 _).mp e);have rv:=rv;rw[MR] at rv po;obtain⟨_,ee,hT⟩:=Am rv;cases ee;have Y6:=U0 ((E6 _).mp e);subst Y6;obtain⟨l1,l2⟩:=put b po (fig%eQ pr.ay b);refine⟨p,_,dx,_,.ref sd,rfl,s2 _ _ h1,T.c9,T.gH,rfl,aG (s2.a7 hT) (v:=.str (S b)) (au (j:=2) rfl) ⟨sd,.int (eQ pr.ay b),rfl,.inl ⟨_,.inr (S b),.inl (s2 _ _ h4),rfl,(CJ ok.nb po).symm⟩,?_⟩⟩;refine⟨_,_,rfl,rfl,qz bp b,aG (s2.a7 hT) (v:=.str (S b)) (au (j:=2) rfl) ⟨d,_,rfl,.inl ⟨_,.inr (S b),y2,rfl,Va,rfl⟩,?_⟩⟩;exact fin _ _ _ none (Vb _ _ s2) ae l1 l2 (by rw[MR];rfl)
 refine b7 (fun e2=>?_) (fun e2=>?_)
 ·obtain⟨k,b,tr,MR⟩:=L1 ((OC _).mp e2);have rv:=rv;rw[MR] at rv po;obtain⟨_,u,ee,hT,ru⟩:=An rv;cases ee;obtain⟨l1,l2⟩:=put b po.1 (wv pr.ay vals tr%eQ pr.ay b);refine aG (s2.a7 hT) (v:=u) (au (j:=3) rfl) ⟨u,d,tr,_,rfl,ru.mono s2,y2,po.2.1,by have:=po.2.2;lia,by have:=po.2.2;lia,fun H3 Vc=>?_⟩;have s3:=s2.trans Vc;refine⟨p,_,dx,_,.ref sd,rfl,s3 _ _ h1,T.c9,T.gH,rfl,aG (s3.a7 hT) (v:=.str (S b)) (au (j:=2) rfl) ⟨sd,.int (eQ pr.ay b),rfl,.inl ⟨_,.inr (S b),.inl (s3 _ _ h4),rfl,(CJ ok.nb po.1).symm⟩,?_⟩⟩;refine⟨_,_,rfl,rfl,qz bp b,aG (s3.a7 hT) (v:=.str (S b)) (au (j:=2) rfl) ⟨d,_,rfl,.inl ⟨_,.inr (S b),Vc _ _ y2,rfl,Va,rfl⟩,?_⟩⟩;exact fin _ _ _ none (Vb _ _ s3) ae l1 l2 (by rw[MR];rfl)
 refine b7 (fun e3=>?_) (fun e3=>?_)
 ·obtain⟨k,tr,MR⟩:=L4 ((OD _).mp e3);have rv:=rv;rw[MR] at rv po;obtain⟨_,u,ee,hT,ru⟩:=Ao rv;cases ee;refine aG (s2.a7 hT) (v:=u) (au (j:=2) rfl) ⟨u,d,tr,_,rfl,ru.mono s2,y2,po.1,by have:=po.2;lia,by have:=po.2;lia,fun H3 Vc=>?_⟩;exact fin _ _ _ (some _) (s2.trans Vc) (Vc _ _ y2) lv keep (by rw[MR];rfl)
 obtain⟨k,MR⟩:=OE e0 (fun z=>e ((E6 _).mpr z)) (fun z=>e2 ((OC _).mpr z)) (fun z=>e3 ((OD _).mpr z));exact fin _ _ _ none s2 y2 lv keep (by rw[MR];rfl)
theorem IG:∀sm:bI,¬fZ sm.wd=zab "end":=fun sm=>by cases sm<;>(simp only[bI.wd];decide +kernel)
theorem yY(T:Tx K mg t):bJ P w K mg base dy 7 t.iK t.jh ["chart", "standing"] (LC K t.aW):=by
 have mV:=@sG P w _ _ base _ T;have Ap:=@E7 P w _ _ base _ T;refine T.gN.F.lQ qP (fun vs H Q E h=>?_) (fun eT A outer s H vs Q E hr h=>?_)
 ·obtain⟨_,_,_,_,rfl,_⟩:=h;rfl
 obtain⟨ch,sa,pr,st,rfl,co,dr,sI,si,q⟩:=h;have nd:=qP.nd;obtain⟨L5,ym,yn⟩:=T.wj;refine⟨_,[some (.ref ch),some (.ref sa),none,none],(ah (c5 2 nd (da mV T.kr hr (bc 0 (ag (aC aM (pv 1) aj ao) aa aX))))
 (ah (bh (aD bN (pv 2) aU (aR _))
 (ak (aO (bu aa)))
 aV)
 (ah (bh (aD bN (pv 2) aU (aR _))
 (ak (aO (hG (own:=["figure"]) (ix:=[0,1]) rfl (by rfl) (by rfl) (ik rfl T.js (ag (qc rfl ym yn) aa jW)) (fun _ _ _ _=>(fY (i:=0) (by show List.Nodup (["figure", "chart", "standing"]:List Str);decide +kernel) rfl (zbq rfl))) (fun _ _ _ _=>iC) (fun _ _ _ _=>(aC (iD (K:=K) rfl) (da Ap T.mS hr (bc 1 (bc 2 (bc 0 aa)))) aj ao)))))
 aV)
 (ah (c5 3 nd (aC aM (da Ap T.mS hr (bc 0 (bc 1 (ag eV aa aP)))) aj ao))
 (ah (bh (aD Jw (pv 3) eV (aR _))
 (ak (aO (bu aa)))
 aV)
 (ak (aO (bu (bc 3 aa))))))))),rfl,?_⟩
 obtain⟨row,vals⟩:=st;obtain⟨va,wg,yI⟩:=id sI;refine av fun U1 eE=>?_;ac_nf;refine aG wg (v:=.int row) (au (j:=0) rfl) ?_;rcases si.ok.row with h0 |⟨i,hi,er⟩
 ·replace h0:row=0:=h0;subst h0;refine⟨ch,pr,0,rfl,co,dr.ok.pw,.inl ⟨rfl,(eE _ _).mpr ?_⟩⟩;refine av fun U2 gh=>?_;ac_nf;exact(zzp trivial).mpr fun L hL=>q L _ _ (aq.new hL _) hL ae .nil
 replace er:(az pr.body)[i].row=row:=er;subst er;have Y7:(az pr.body)[i].row≠0:=by have:=dr.ok.pos _ (zau hi);lia
 obtain⟨hf,ek,ew⟩:=gW pr.body i hi;obtain⟨w0,w1⟩:=jc pr.body 0 _ (zau hf);rw[ew] at w1;obtain⟨po,so⟩:=A1 si.ok.len dr.ok.nb si.ok.small (je pr.body _ dr.own (zau hi));have bp:∀b∈pr.ay,0<b.size:=fun b hb=>by have:=dr.size b hb;lia
 have ea:dq pr.body (az pr.body)[i].row=decide ((az pr.body)[i].wd=.ask):=by unfold dq;rw[nF dr.ok.pw i hi]
 have es:∀f,bZ pr (az pr.body)[i].row vals f=lC pr.ay (az pr.body)[i] (aQ pr.body 0)[i].2.2 vals f:=fun f=>by unfold bZ;rw[nF dr.ok.pw i hi,Gw dr.ok.pw i hi hf]
 unfold cQ at q;simp only[zzn Y7,ea,decide_eq_true_eq] at q;refine⟨ch,pr,_,rfl,co,dr.ok.pw,.inr ⟨Y7,i,hi,rfl,(eE _ _).mpr (av fun U2 gh=>?_)⟩⟩;clear eE;ac_nf;refine(zzn (IG _)).mpr ((gh _ _).mpr (av fun U3 iY=>?_));clear gh;ac_nf;refine b7 (fun e=>?_) (fun e=>(iY _ _).mpr ?_)
 ·have e:=(E6 _).mp e;simp only[e,if_true] at q;simp only[jS];ac_nf;refine⟨10,rfl,by decide,by decide,fun D hD=>?_⟩;refine Lq (J:=IZ 0 10) (fun τ=>∃x,τ=[x,some (.ref ch),some (.ref sa)]) ((zaH 10).map fun f=>V.int (f:Nat)) (fun j ys H2=>aq H H2/\iH K H2 ((zaH j).map fun f=>((bZ pr (az pr.body)[i].row vals (f:Nat)).1.getD ((az pr.body)[i].row,vals))) ys) ?_ ?_ ?_ (by simp) hD ⟨none,rfl⟩ ⟨aq.new hD _,.nil⟩ ?_ ?_
  ·intro j H2 _ hj;show j<10;simpa using hj
  ·intro H2 _;show 10<=_;simp
  ·intro j H2 x H3 _ hj hy;have lj:j<10:=by simpa using hj
   obtain⟨rfl,rfl⟩:=hy;exact⟨rfl,by simp[lj]⟩
  ·rintro j x ys τ H2 hx ⟨x0,rfl⟩ s2 yD ly ⟨_,sy⟩ R hR
   have lj:j<10:=by have:=(zak.mp hx).1;simpa using this
   have hx:x=.int (j:Nat):=by simpa[lj] using hx.symm
   subst hx;ac_nf;refine⟨ch,sa,_,pr,vals,(j:Nat),i,hi,hf,rfl,co.mono s2,dr.ok,bp,sI.mono s2,si.ok.len,fun _=>rfl,po,w0,w1,fun q1 sv H3 s3 k1 o1=>?_⟩;rw[<- es] at k1 o1;have hn:=xR (pr:=pr) (az pr.body)[i].row vals (j:Nat) (by rw[ea];exact decide_eq_true e);refine aG k1 (v:=sv) (au (j:=0) rfl) (hR _ _ _ ⟨_,rfl⟩ s3 ⟨?_,?_⟩)
   ·exact(((aZ.of (s2.trans s3)).put _).same hD)
   ·rw[zbz,zaw];cases ho:(bZ pr (az pr.body)[i].row vals (j:Nat)).1 with
    |none=>exact zzb ho hn
    |some y=>
     rw[ho] at o1;obtain⟨ya,rfl,Y8⟩:=o1;have yD3:=s3 _ _ yD;have z:=CT (x:=y) (nI sy fun _ _ _ h=>h.mono s3) Y8;simp only[zam,za2,ho,zch];exact nI z fun _ _ _ h=>h.upL yD3 ((aZ.refl D H3).put _)
  ·rintro ys H2 s2 yD ly ⟨_,sy⟩
   rw[zad,zbt] at sy;exact q D ys H2 s2 hD yD sy
 ·have e:(az pr.body)[i].wd≠.ask:=fun z=>e ((E6 _).mpr z);simp only[zzn e] at q;ac_nf;refine⟨ch,sa,.cB,pr,vals,0,i,hi,hf,rfl,co,dr.ok,bp,sI,si.ok.len,fun z=>zzb z e,po,w0,w1,fun q1 sv H2 s2 k1 o1=>?_⟩;rw[<- es] at k1 o1;refine aG k1 (v:=sv) (au (j:=0) rfl) ?_;cases ho:(bZ pr (az pr.body)[i].row vals 0).1 with
  |none=>
   rw[ho] at o1 q;exact(zzp o1).mpr fun p hp=>q p _ _ (s2.trans (aq.new hp _)) (s2.free hp) ae .nil
  |some x=>
   rw[ho] at o1 q;obtain⟨xa,rfl,xs⟩:=o1;exact(zzn (by intro z;cases z)).mpr fun p hp=>q p _ _ (s2.trans (aq.new hp _)) (s2.free hp) ae (.cons ⟨xa,rfl,xs.mono (aq.new hp _)⟩ .nil)
theorem Y9:tZ "standing" "chart" (mF (iw aT)):=⟨rfl,rfl,rfl,rfl,rfl,fun z h=>by
 have key:∀p∈(mF (iw aT)).names,(p.2=.cell\/p.2=.free)->p.1 = "chart":=by decide +kernel
 rcases h with h |h
 ·exact key _ (PySem.mem_of_lookup h) (.inl rfl)
 ·exact key _ (PySem.mem_of_lookup h) (.inr rfl),by decide +kernel⟩
theorem Fb(T:Tx K mg t):bJ P w K mg base dy 9 t.fT t.nZ ["place", "led_from", "figures", "found"] (RF P w K t.aW (iw aT) "first_inputs.<locals>.<lambda>"):=by
 have Bl:=@yY P w _ _ base _ T;refine T.mT.F.lQ x8 (fun vs H Q E h=>?_) (fun eT A outer s H vs Q E hr h=>?_)
 ·obtain⟨_,_,_,_,_,_,_,_,_,_,_,_,rfl,_⟩:=h;rfl
 obtain⟨Vd,fo,D,ga,cc,ch,mE,pr,s0,f0,g,RH,rfl,co,dr,RS,Za,lam,hga,WN,Zb,nd0,fi0,qY,q⟩:=h;have nd:=x8.nd;have hu:=dS hr;obtain⟨MS,yZ,y0⟩:=T.yh;have xS:∀(u:zdl) (cc c':zdk) (pm vS:zdl),bindArgs (zc7 "<lambda>" "first_inputs.<locals>.<lambda>" (ET (iw aT)) (wR (iw aT)) (mF (iw aT)) [("chart",cc)] pm (.ref c') vS) ⟨[u],[]⟩=(pure [(("standing":Str),u)]:Sem (List (Str×zdl))):=fun _ _ _ _ _=>rfl;have sX:∀(fo cc c':zdk) (s':zdu) (H':Hp),PE (CS dy P w K mg base ["standing", "chart"] "first_inputs.<locals>.<lambda>" (mF (iw aT)) fo (.ref c') [("chart",cc)] (mX dy P w K mg base ["place", "led_from", "figures", "found", "led"] "gone_on" (aJ iy) t.fT eT A outer s H E).DN.A (mX dy P w K mg base ["place", "led_from", "figures", "found", "led"] "gone_on" (aJ iy) t.fT eT A outer s H E).DN.stack s' H' E0) (wR (iw aT)) (B4 (LC K t.aW) [] E0 (xg (gk 1) (xg (gk 0) Nc))):=by
  intro fo cc c' s' H';exact FL Bl (hr.deeper _) rfl T.gN.m T.gN.F.kp T.gN.b .nil JL (ag (pv 1) (ag (pv 0) aa jW) jW)
 have Nq:∀pins σ (H':Hp) (s':zdu) e Hh a o,Inv (mX dy P w K mg base ["place", "led_from", "figures", "found", "led"] "gone_on" (aJ iy) t.fT eT A outer s H E).DN pins σ H' s'->H' a=some (eX a o)->dy (mX dy P w K mg base ["place", "led_from", "figures", "found", "led"] "gone_on" (aJ iy) t.fT eT A outer s H E).DN.stack (wo H' a) s' E0 e Hh->(mX dy P w K mg base ["place", "led_from", "figures", "found", "led"] "gone_on" (aJ iy) t.fT eT A outer s H E).DN.xe e Hh:=fun _ _ _ _ _ _ _ _ _ _ h=>h.elim;refine⟨_,[some (.ref Vd),some (.ref fo),some (.ref ga),some (.ref D),none],(ah (mh PassesOwn.never (aD (vi (J:=jN) (MP hr)) (pv 0) (pv 3) rfl)
 (ah (bh (aD bN (bX (Ir (J:=jN)) rfl T.g8 PyProof.Rows.Boot.«len» (bc 3 aa)) (qc rfl yZ y0) (aR _))
 (ak Jo)
 aV)
 (ah (xO (J:=jN) (MP hr) (pv 3) (pv 0) (pv 2) rfl)
 (ah (c5 4 nd (Lv (CX:=dy) (E:=E0) (x:="standing") (y:="chart") (name:="<lambda>") (qual:="first_inputs.<locals>.<lambda>") (params:=ET (iw aT)) (body:=wR (iw aT)) (scope:=mF (iw aT)) (tb:=B4 (LC K t.aW) [] E0 (xg (gk 1) (xg (gk 0) Nc))) (k:=7) (hr.mono (by first|decide|omega)) Y9 (pv 1) (bc 0 aa) Nq xS sX))
 (ah (bh (aD Ju (bX bE rfl T.g8 PyProof.Rows.Boot.«len» (bc 4 aa)) aj (aR _))
 (ak (aO (bu (ag (aS (bc 2 (bc 4 aa))) aa bW))))
 aV)
 (ak (c5 0 nd (aC a9 (pv 4) aj ao))))))))
 (ak (aO (bu aa)))),rfl,?_⟩
 have line:zds=2 ^ 24:=rfl;refine av fun U2 gh=>?_;refine A2 fun Bd L6=>?_;ac_nf;obtain⟨φ0,eD0⟩:=WN.nH;obtain⟨Iv,L7,Fc⟩:=wX fun (m:Nat) (σ:St) (Hx:Hp) zq=>∀(sa:zdk) (s':cw) (f:iz) (ax:List (kS×V)) (z:Option V) (k:Nat),σ=[some (.ref sa),some (.ref fo),some (.ref ga),some (.ref D),z]->aZ D H Hx->DS jN P w K Hx D ax->eR K Hx f ax->cD K Hx sa s'.1 s'.2->cU pr s'->(f.map (·.1)).Nodup->(∀x∈f,cU pr x.1)->lW (cQ pr) (bq pr+1) f0 s0 g=lW (cQ pr) (bq pr+1-k) f s' g->k<=f.length->m=bq pr-f.length->zq;refine⟨Iv,⟨_,(L7 _ _ _ fun _ zk=>zk Vd s0 f0 RH none 0 rfl (.refl _ _) WN Zb RS Za nd0 fi0 rfl (zaZ _) rfl)⟩,?_⟩;intro m σ Hx hv;refine Fc _ _ _ hv _ fun sa s' f ax z k kT ux ds fa sI si Po fi eg hk kU=>?_;subst kT;subst kU;clear hv;have aeg:f.length<=bq pr:=by
  have:=iG Po (fun x hx=>by obtain⟨y,hy,rfl⟩:=zaF.mp hx;exact fi y hy)
  rwa [zad] at this
 obtain⟨n,en⟩:∃n,bq pr+1-k=n+1:=⟨bq pr-k,by lia⟩
 rw[en] at eg;ac_nf;refine⟨D,sa,ax,nG s',rfl,rfl,ds,Ag sI,?_⟩;rw[fa.WK s'];by_cases hx:s'∈f.map (·.1)
 ·refine(zzn (by rw[decide_eq_true hx];decide)).mpr ((gh _ _).mpr ?_);ac_nf;intro L hL;have e2:lW (cQ pr) (n+1) f s' g=(f,none):=by rw[lW,zzp hx]
  rw[eg,e2] at q;obtain⟨φx,S5⟩:=ds.nH;have nLD:L≠D:=(ai S5 hL).symm;have WV:H L=none:=by
   cases y:H L with
   |none=>rfl
   |some o=>rw[ux L o nLD y] at hL;cases hL
  have sL:=aq.new hL (.lst []);exact q L [] ax _ (ux.trans (.of sL)) WV ae (ds.mono sL) (fa.imp fun a xs h=>sL.a7 h) rfl
 refine(zzp (by rw[decide_eq_false hx];decide)).mpr ?_;have nd1:((f++[(s',g)]).map (·.1)).Nodup:=by
  rw[zaw];exact zbS.mpr ⟨Po,by simp,fun a ha b hb=>by rw[zam,za2,zar] at hb;rw[hb];exact fun y=>hx (by rw[<- show a=s' from y];exact ha)⟩
 have fi1:∀x∈f++[(s',g)],cU pr x.1:=fun x hy=>by
  rcases zaA.mp hy with hy |hy
  ·exact fi x hy
  ·rw[zar.mp hy];exact si
 have aei:(f++[(s',g)]).length<=bq pr:=by
  have:=iG nd1 (fun x hx=>by obtain⟨y,hy,rfl⟩:=zaF.mp hx;exact fi1 y hy)
  rwa [zad] at this
 have l1:(f++[(s',g)]).length=f.length+1:=by simp
 refine⟨Iv (bq pr-(f++[(s',g)]).length),fun σ' H' h=>⟨_,by lia,h⟩,?_⟩;refine L6 _ _ _ (av fun V1 BQ=>?_);clear L6 gh;have lk:=fa.len;ac_nf;refine⟨D,ax,rfl,ds,?_⟩;refine(zzn (by lia)).mpr ((BQ _ _).mpr (av fun V2 BR=>?_));clear BQ;obtain⟨φx,S5⟩:=ds.nH;ac_nf;refine⟨D,sa,ax,nG s',rfl,rfl,ds,Ag sI,by lia,fun H6 d6 e6=>(BR _ _).mpr (av fun V3 RT=>?_)⟩;clear BR;obtain⟨φ',rfl⟩:=e6;have u6:aZ D Hx (upd Hx D (.ext φ')):=(aZ.refl _ _).put _;have eD6:(upd Hx D (.ext φ')) D=some (.ext φ'):=ae;have Ve:=ux.trans u6;have L8:=sI.ext S5 u6;have Zc:=(hga.lV eD0 ux).lV S5 u6;have fa6:=(fa.imp fun a xs h=>h.lV S5 u6).put hx Zc;have co6:=(co.ext eD0 ux).ext S5 u6;have Vf:=lam.mono (LF Ve);clear u6;generalize upd Hx D (.ext φ')=H6 at *;ac_nf;have g3:H6 cc=some (eX cc mE):=by
  obtain⟨_,_,_,_,_,_,_,_,_,_,_,g3,_⟩:=Vf;exact g3
 refine⟨.ref sa,fo,cc,mE,.ref ch,rfl,rfl,Vf,ch,sa,pr,s',rfl,co6.ext g3 wV,dr,L8.ext g3 wV,si,fun l us H7 s7 hl yl WL n7=>(RT _ _).mpr (av fun V4 hV4=>?_)⟩;clear RT;have Vg:=Oi g3 s7;have nl:l≠cc:=fun y=>by rw[y,n7] at yl;cases yl
 have Zd:(upd H7 cc (eX cc mE)) l=some (.lst us):=by rw[aw nl];exact yl
 have Ze:H6 l=none:=by rw[eY nl] at hl;exact hl
 have RU:iH K (upd H7 cc (eX cc mE)) (cQ pr s') us:=WL.mono (aq.new n7 _);generalize upd H7 cc (eX cc mE)=H8 at *;have uL:=WL.at.1;ac_nf;refine⟨l,us,rfl,.inl (.of Zd),?_⟩;have ug:∀t1,cQ pr s'=[t1]->lW (cQ pr) (n+1) f s' g=lW (cQ pr) n (f++[(s',g)]) t1 g:=fun t1 e=>by
  rw[lW,zzn hx];split
  ·rename_i t2 e2;rw[e] at e2;cases e2;rfl
  ·rename_i l2 e2;exact zzb e (e2 t1)
 have Zf:(∀t1,cQ pr s'≠[t1])->lW (cQ pr) (n+1) f s' g=(f++[(s',g)],some (cQ pr s')):=fun e=>by
  rw[lW,zzn hx];split
  ·rename_i t2 e2;exact zzb e2 (e t2)
  ·rfl
 have li:=t9 dr si;refine b7 (fun e=>?_) (fun e=>fun p hp p1 E9=>?_)
 ·obtain⟨t1,et⟩:∃t1,cQ pr s'=[t1]:=zcd.mp (by lia);have ug:=ug t1 et;rw[et] at RU li;obtain⟨ls8,at8⟩:=RU.at
  obtain⟨ta,eta,Zg⟩:=at8 0 t1 rfl;refine(hV4 _ _).mpr ?_;ac_nf;refine bz (.of Zd) (v:=.ref ta) (au eta) ((L7 _ _ _ fun _ zk=>zk ta t1 (f++[(s',g)]) _ (some (.ref l)) (k+1) rfl (Ve.trans (.of Vg)) (d6.mono Vg) (fa6.imp fun a xs h=>Vg.a7 h) Zg (li t1 (by simp)) nd1 fi1 ?_ (by lia) rfl));rw[eg,ug,show bq pr+1-(k+1)=n by lia]
 ·have Zf:=Zf fun t1 z=>by rw[z] at uL;exact e (by rw[uL];rfl)
  rw[eg,Zf] at q;have sp:=aq.new hp (.tup [.ref ga,.ref l]);have yp:(upd H8 p (.tup [.ref ga,.ref l])) p=_:=ae;have RE:=aq.new E9 (.lst [.ref p]);have sA:=Vg.trans (sp.trans RE);have e6:H6 p1=none:=(Vg.trans sp).free E9;have n1:p1≠D:=(ai eD6 e6).symm;have h0:H p1=none:=by
   cases y:H p1 with
   |none=>rfl
   |some o=>rw[Ve p1 o n1 y] at e6;cases e6
  have Vh:H l=none:=by
   cases y:H l with
   |none=>rfl
   |some o=>rw[Ve l o (ai eD6 Ze).symm y] at Ze;cases Ze
  exact q p1 _ _ _ (Ve.trans (.of sA)) h0 ae (d6.mono sA) (fa6.imp fun a xs h=>sA.a7 h) ⟨p,l,us,rfl,.of (RE _ _ yp),Vh,RE _ _ (sp _ _ Zd),RU.mono (sp.trans RE)⟩
theorem uy(T:Tx K mg t):bJ P w K mg base dy 1 t.dZ t.eA ["deck"] (uY K):=by
 refine T.bB.F.lQ uh (fun vs H Q E h=>?_) (fun eT A outer s H vs Q E hr h=>?_)
 ·obtain⟨_,_,_,_,rfl,_⟩:=h;rfl
 obtain⟨D,S,sc,p,rfl,dk,hp,q⟩:=h;have nd:=uh.nd;refine⟨_,[some (V.ref D),none,none,none,none,none],(ah (c5 1 nd (aC a9 (pv 0) aj ao))
 (ah (rJ (bf dP (pv 1) aj) (DO (pv 0) aj set_list))
 (ah (c5 2 nd (bX (Hb rfl) rfl T.LU PyProof.Rows.Boot.«max» (ag aj (ag (bX bE rfl T.g8 PyProof.Rows.Boot.«len» (ag (aC a9 (pv 0) aj ao) aa aX)) aa bG) aP)))
 (ah (c5 3 nd aj)
 (ah (bh (aD (ki (dS hr)) (aC a9 (pv 0) aj ao) (bu aa) (aR _))
 (ak (c5 3 nd (aC a9 (aC a9 (pv 0) aj ao) (bf cI (pv 1) (pv 2)) lS)))
 aV)
 (ah (bh (aD TU (pv 3) (bf QI aj aj) (aR _))
 (ah (du PassesOwn.never rfl (ik rfl T.js (ag (bX (Hc rfl) rfl T.LV PyProof.Rows.Boot.«min» (ag aj (ag (bf Az (pv 1) (pv 2)) aa ja) aP)) aa bG)) (lX 4 nd)
 (ak (c5 3 nd (bf Az (pv 3) aj))))
 (ak (aO (bf cI (pv 3) aj))))
 aV)
 (ah (c5 5 nd (bf cI (bf dP (bf dP (bf cI (pv 3) aj) (bf rL (bf rL aj (bf dP (pv 1) aj)) (bf dP (pv 1) aj))) aj) aj))
 (ah (c5 5 nd (bf cI (bf rL (pv 5) (pv 5)) aj))
 (ah (c5 5 nd (bf cI (bf dP (bf dP (bf rL (pv 5) aj) (bf rL aj (pv 1))) aj) aj))
 (ak (aO (bf Az (bf cI (bf rL (pv 5) (pv 5)) aj) aj)))))))))))),rfl,?_⟩
 have line:zds=2 ^ 24:=rfl;refine av fun U1 eE=>?_;ac_nf;refine bz (.of dk.bF) (au (j:=1) rfl) ((eE _ _).mpr (av fun U2 gh=>?_));clear eE;ac_nf;refine⟨D,_,1,1,rfl,rfl,dk.bF,rfl,?_⟩;have u1:aZ D H (upd H D (.lst [.ref S,.int (p+1)])):=(aZ.refl D H).put _;have d1:(upd H D (.lst [.ref S,.int (p+1)])) D=some (.lst [.ref S,.int (p+1)]):=ae;show U2 _ (upd H D (.lst [.ref S,.int (p+1)]));generalize upd H D (.lst [.ref S,.int (p+1)])=H1 at *;have WW:=u1 _ _ dk.ne dk.fX;refine(gh _ _).mpr (av fun U3 iY=>?_);clear gh;ac_nf;refine bz (.of d1) (au (j:=0) rfl) ⟨S,_,rfl,.inl (.of WW),1,_,rfl,?_⟩;rw[zad];have em:(if (sc.length:Int)>1 then (sc.length:Int) else 1)=((max 1 sc.length:Nat):Int):=by split<;>lia
 rw[em];have m1:1<=max 1 sc.length:=by lia
 refine(iY _ _).mpr (av fun U4 ke=>?_);clear iY;ac_nf;refine(ke _ _).mpr (av fun U5 uv=>?_);clear ke;have rest:∀H2,aq H1 H2->U5 [some (V.ref D),some (V.int p),some (V.int ((max 1 sc.length:Nat):Int)),some (V.int (if sc=[] then 0 else sc.getD (p%max 1 sc.length) 0)),none,none] H2:=by
  intro H2 s2;have fin:Q (V.int (PG.next sc p)) H2:=q H2 (u1.trans (.of s2)) ⟨s2 _ _ d1,s2 _ _ WW,dk.ne,dk.len⟩;unfold PG.next at fin;simp only at fin;have mle:max 1 sc.length<=63:=by have:=dk.len;lia
  generalize (if sc=[] then 0 else sc.getD (p%max 1 sc.length) 0)=cell at *;generalize max 1 sc.length=m at *;refine(uv _ _).mpr (av fun U6 yK=>?_);ac_nf;have e18:(10:Int) ^ Int.toNat 18=10 ^ 18:=rfl;have p18:TR 10 18:=⟨by decide,by decide,by decide⟩
  rw[e18];refine⟨p18,b7 (fun hc=>?_) (fun hc=>?_)⟩
  ·rw[zzp hc] at fin;refine oY fun U hU=>?_;ac_nf;have ed:(p:Int)/(m:Int)=((p/m:Nat):Int):=(Int.natCast_ediv p m).symm;have e60:(if (p:Int)/(m:Int)<60 then (p:Int)/(m:Int) else 60)=((min 60 (p/m):Nat):Int):=by
    rw[ed];split<;>lia
   have b60:min 60 (p/m)<=60:=Nat.min_le_left _ _;refine⟨⟨by lia,by lia⟩,_,_,rfl,_,rfl,?_⟩;rw[e60];generalize min 60 (p/m)=N at *;refine⟨by lia,by lia,hU _ _ ?_⟩;rw[za0];refine kh (lo:=0) (n:=N) (fun i σ H3=>H3=H2/\∃(c:Int) (a:Option V),σ=[some (V.ref D),some (V.int p),some (V.int m),some (V.int c),a,none]/\Cg (N-i) c=Cg N cell) ⟨rfl,cell,none,rfl,rfl⟩ ?_ ?_
   ·rintro i σ H3 hi ⟨rfl,c,a,rfl,e⟩
    rw[zcI];ac_nf;refine⟨_,_,rfl,?_⟩;rw[<- e,show N-i=(N-(i+1))+1 by lia,Cg]
   ·rintro σ H3 ⟨rfl,c,a,rfl,e⟩
    rw[Nat.sub_self,Cg] at e;ac_nf;rw[e];exact fin
  ·rw[zzn hc] at fin;refine(yK _ _).mpr ?_;clear uv yK;ac_nf;have b1:=zaP (cell%2147483629+51437*((p:Int)+1)*((p:Int)+3)+1409) (show (2147483629:Int)≠0 by decide);have b2:=zaM (cell%2147483629+51437*((p:Int)+1)*((p:Int)+3)+1409) (show (0:Int)<2147483629 by decide);refine⟨mulL (by decide) (by decide),mulR (by lia) (by lia),?_⟩;generalize (cell%2147483629+51437*((p:Int)+1)*((p:Int)+3)+1409)%2147483629=x at *;refine⟨mulL (by lia) (by lia),mulR (by decide) (by decide),mulL (by decide) (by decide),?_⟩;have c1:=zaP (x*x%2147483587*69621+401*(p:Int)+7) (show (2147483579:Int)≠0 by decide);have c2:=zaM (x*x%2147483587*69621+401*(p:Int)+7) (show (0:Int)<2147483579 by decide);generalize (x*x%2147483587*69621+401*(p:Int)+7)%2147483579=y at *;exact⟨mulL (by lia) (by lia),fin⟩
 ac_nf;refine bz (.of d1) (au (j:=0) rfl) fun p1 E9=>?_;have s2:=aq.new E9 (.lst []);have d2:=s2 _ _ d1;refine⟨S,p1,_,rfl,rfl,.of (s2 _ _ WW),.of ae,?_⟩;have sc2:=s2 _ _ WW;generalize upd H1 p1 (.lst [])=H2 at *;have rs:=rest H2 s2;cases sc with
 |nil=>exact rs
 |cons c r=>
  rw[zzn (by simp)] at rs;refine(zzp rfl).mpr (bz (.of d2) (au (j:=0) rfl) ⟨by lia,?_⟩);have lt:p%max 1 (c::r).length<(c::r).length:=by
   have:max 1 (c::r).length=(c::r).length:=by simp
   rw[this];exact Nat.mod_lt _ (by simp)
  refine bz (.of sc2) (Nu (f:=V.int) (xs:=c::r) 0 (by lia) (by lia)) ?_;have e:((p:Int)%((max 1 (c::r).length:Nat):Int)).toNat=p%max 1 (c::r).length:=by lia
  rw[e];exact rs
theorem Zh(T:Tx K mg t){n:Nat}(g9:bJ P w K mg base dy (n+1) t.kM t.ko ["deck", "boxes", "deep"] (xE K n)) :
 bJ P w K mg base dy (n+2) t.kM t.ko ["deck", "boxes", "deep"] (xE K (n+1)):=by
 have bw:bJ P w K mg base dy 1 t.dZ t.eA ["deck"] (uY K):=uy T;refine T.gF.F.lQ Ak (fun vs H Q E h=>?_) (fun eT A outer s H vs Q E hr h=>?_)
 ·obtain⟨_,_,_,_,_,_,_,rfl,_⟩:=h;rfl
 obtain⟨D,S,B,sc,p,d,bs,rfl,hd,dk,hp,hb,q⟩:=h;have nd:=Ak.nd;refine⟨_,[some (V.ref D),some (V.ref B),some (V.int d),none,none],(ah (c5 3 nd (bf cI (da bw T.bB hr (bc 0 aa)) aj))
 (ah (bh (PW.pt (pw_and (aD Jv (pv 2) aj (aR _)) (pw_and1 (aD oQ (pv 3) aj (aR _)))))
 (ah (c5 4 nd (da g9 T.gF hr (bc 0 (bc 1 (ag (bf xb (pv 2) aj) aa ja)))))
 (ak (aO (aS (ag (aC AH aU (pv 3) kZ) (bc 4 (ag (da g9 T.gF hr (bc 0 (bc 1 (ag (bf xb (pv 2) aj) aa ja)))) aa bG)) aX)))))
 aV)
 (ah (bh (PW.pt (pw_and (aD (ki (dS hr)) (pv 1) (bu aa) (aR _)) (pw_and1 (aD oQ (pv 3) aj (aR _)))))
 (ak (aO (aS (ag aU (ag (aC aM (aC a9 (pv 1) (bf cI (da bw T.bB hr (bc 0 aa)) (bX bE rfl T.g8 PyProof.Rows.Boot.«len» (bc 1 aa))) lS) aj ao) aa aX) aP))))
 aV)
 (ak (aO (aS (ag aU (ag (bf cI (da bw T.bB hr (bc 0 aa)) (aC a9 (bu (cO (vs:=[.int 3,.int 12,.int 1000]) (by kernel_rfl))) (bf cI (da bw T.bB hr (bc 0 aa)) aj) lS)) aa ja) aP))))))),rfl,?_⟩
 have line:zds=2 ^ 24:=rfl;have pw:1<=2 ^ d:=zbY;refine av fun U1 eE=>?_;ac_nf;refine⟨D,S,sc,p,rfl,dk,by lia,fun H1 u1 Fd=>?_⟩;ac_nf;refine(eE _ _).mpr (av fun U2 gh=>?_);clear eE;have PR:H D≠none:=by rw[dk.bF];simp
 have S0:H1 D≠none:=by rw[Fd.bF];simp
 have Pq:=hb.up u1;obtain⟨n0,n1⟩:=jM sc p;have Fe:=u1.qF S0;ac_nf;have leaf:(d=0\/¬PG.next sc p%7<3)->U2 [some (V.ref D),some (V.ref B),some (V.int d),some (V.int (PG.next sc p%7)),none] H1:=by
  intro hl;have eg:cC sc bs d p=if bs≠[]/\PG.next sc p%7<5 then (.box (PG.pick ⟨[],0,0⟩ bs (PG.next sc (p+1)%bs.length)).name,p+2) else (.num (PG.next sc (p+1)%PG.pick 1 [3,12,1000] (PG.next sc (p+2)%3)),p+3):=by
   cases d with
   |zero=>rfl
   |succ d=>
    unfold cC;simp only;rw[zzn (hl.resolve_left (by lia))]
  refine(gh _ _).mpr (av fun U3 iY=>?_);have num:¬(bs≠[]/\PG.next sc p%7<5)->∀H2,aq H1 H2->U3 [some (V.ref D),some (V.ref B),some (V.int d),some (V.int (PG.next sc p%7)),none] H2:=by
   intro hn H2 s2;rw[zzn hn] at eg;rw[eg] at q;refine(iY _ _).mpr ?_;ac_nf;refine⟨D,S,sc,p+1,rfl,Fd.same s2,by lia,fun H3 u3 qA p4 v8=>?_⟩;have wm:=qA.same (aq.new v8 (.lst [.int 3,.int 12,.int 1000]));have h4:(upd H3 p4 (.lst [.int 3,.int 12,.int 1000])) p4=some (.lst [.int 3,.int 12,.int 1000]):=ae;have u4:=u3.new v8 (.lst [.int 3,.int 12,.int 1000]);have n4:p4≠D:=(ai qA.bF v8).symm;generalize upd H3 p4 (.lst [.int 3,.int 12,.int 1000])=H4 at *;refine⟨D,S,sc,p+2,rfl,wm,by lia,fun H5 u5 Jd=>?_⟩;obtain⟨m0,m1⟩:=jM sc (p+2);have h5:=u5 _ _ n4 h4;have pk:∀i:Int,0<=i->i<3->tw [V.int 3,V.int 12,V.int 1000] i=some (V.int (PG.pick 1 [3,12,1000] i))/\(0:Int)<PG.pick 1 [3,12,1000] i:=fun i h0 h3=>by
    have z3:i=0\/i=1\/i=2:=by lia
    rcases z3 with rfl |rfl |rfl
    ·exact⟨au (j:=0) rfl,by decide⟩
    ·exact⟨au (j:=1) rfl,by decide⟩
    ·exact⟨au (j:=2) rfl,by decide⟩
   obtain⟨k1,k2⟩:=pk (PG.next sc (p+2)%3) (by lia) (by lia);ac_nf;refine bz (.of h5) k1 ?_;ac_nf;refine⟨k2,fun p6 i0=>?_⟩;have u2:aZ D H1 H2:=.of s2;refine q _ _ (((u1.trans (u2.trans u4)).trans u5).new i0 _) (Jd.same (aq.new i0 _)) ?_;refine jY i0 ?_ (.cons .str (.cons .int .nil));exact fun b Zi=>(u5.qF (by rw[Jd.bF];simp)) b ((u4.qF (by rw[wm.bF];simp)) b ((u2.qF (by rw[s2 _ _ Fd.bF];simp)) b (Fe b Zi)))
  ac_nf;intro p2 yQ;have s2:=aq.new yQ (.lst []);have sM:=Pq.same s2;have h2:(upd H1 p2 (.lst [])) p2=some (.lst []):=ae;have zc:=Fd.same s2;generalize upd H1 p2 (.lst [])=H2 at *;obtain⟨xs,hx,lx,_⟩:=sM.list;refine⟨B,p2,xs,rfl,rfl,hx,.of h2,?_⟩;have em:xs.isEmpty=true↔bs=[]:=by
   rw[zcJ,<- zaV,lx,zaV]
  by_cases wQ:bs=[]
  ·have e1:=em.mpr wQ;rw[e1,zzn (by decide),zzn zai];exact num (fun z=>z.1 wQ) H2 s2
  ·have e1:xs.isEmpty=false:=Bool.eq_false_iff.mpr fun z=>wQ (em.mp z);rw[e1,zzp (by decide)];refine b7 (fun k5=>?_) (fun k5=>num (fun z=>k5 z.2) H2 s2);rw[zzp ⟨wQ,k5⟩] at eg;rw[eg] at q;refine⟨D,S,sc,p+1,rfl,zc,by lia,fun H3 u3 qA=>?_⟩;have Ma:=sM.up u3;obtain⟨ys,hy,ly,_⟩:=Ma.list;refine⟨B,ys,rfl,.inl hy,?_⟩;rw[ly];have pos:0<bs.length:=zbg.mpr wQ;ac_nf;refine⟨by lia,Ma.pick (zaP _ (by lia)) (zaM _ (by lia)) fun p4 v8=>?_⟩;have u2:aZ D H1 H2:=.of s2;refine q _ _ (((u1.trans u2).trans u3).new v8 _) (qA.same (aq.new v8 _)) (jY v8 ?_ (.cons .str (.cons .str .nil)));exact fun b Zi=>(u3.qF (by rw[qA.bF];simp)) b ((u2.qF (by rw[zc.bF];simp)) b (Fe b Zi))
 refine b7 (fun d0=>b7 (fun k3=>?_) (fun k3=>leaf (.inr k3))) (fun d0=>(zzn zai).mpr (leaf (.inl (by lia))));obtain⟨d,rfl⟩:∃e,d=e+1:=⟨d-1,by lia⟩
 have e1:((d+1:Nat):Int)-1=(d:Int):=by lia
 rw[e1];have e2:(2:Nat) ^ (d+1)=2*2 ^ d:=by rw[zcE];lia
 have one:1<=2 ^ d:=zbY;rw[e2] at hp;have eg:cC sc bs (d+1) p=(.bin (PG.pick [] [[43],[45],[42]] (PG.next sc p%7)) (cC sc bs d (p+1)).1 (cC sc bs d (cC sc bs d (p+1)).2).1,(cC sc bs d (cC sc bs d (p+1)).2).2):=by
  conv=>lhs;unfold cC
  simp only;rw[zzp k3]
 rw[eg] at q;obtain⟨g1,g2⟩:=jL sc bs d (p+1);refine⟨D,S,B,sc,p+1,d,bs,rfl,by lia,Fd,by lia,Pq,fun v2 H2 u2 zc o2=>?_⟩;have sM:=Pq.up u2;have sg:∀i:Int,0<=i->i<3->∃c,tw (zab "+-*").cps.toList i=some c/\V.str ⟨#[c]⟩=V.str (L2.S (PG.pick [] [[43],[45],[42]] i)):=fun i h0 h3=>by
  have z3:i=0\/i=1\/i=2:=by lia
  rcases z3 with rfl |rfl |rfl
  ·exact⟨43,au (j:=0) (by decide +kernel),rfl⟩
  ·exact⟨45,au (j:=1) (by decide +kernel),rfl⟩
  ·exact⟨42,au (j:=2) (by decide +kernel),rfl⟩
 obtain⟨c,hc,ec⟩:=sg (PG.next sc p%7) (by lia) k3;refine⟨_,_,c,rfl,rfl,by decide,hc,?_⟩;rw[ec];refine⟨D,S,B,sc,_,d,bs,rfl,by lia,zc,by lia,sM,fun v3 H3 u3 qA o3 p4 v8=>?_⟩;have MQ:H2 D≠none:=by rw[zc.bF];simp
 have Jb:H3 D≠none:=by rw[qA.bF];simp
 refine q _ _ (((u1.trans u2).trans u3).new v8 _) (qA.same (aq.new v8 _)) (jY v8 ?_ (.cons .str (.cons ((o2.back Fe).up u3 PR) (.cons (o3.back fun b z=>(u2.qF MQ) b (Fe b z)) .nil))));exact fun b z=>(u3.qF Jb) b ((u2.qF MQ) b (Fe b z))
theorem Mb(T:Tx K mg t):∀n,bJ P w K mg base dy (n+1) t.kM t.ko ["deck", "boxes", "deep"] (xE K n)
 |0=>by
  have no:∀vs H Q E,¬xE K 0 vs H Q E:=fun vs H Q E h=>by obtain⟨_,_,_,_,_,_,_,_,h,_⟩:=h;lia
  exact⟨fun vs H Q E h=>zzb h (no vs H Q E),fun A outer s H args us vs Q E _ _ _ _ h=>zzb h (no vs H Q E)⟩
 |n+1=>Zh T (Mb T n)
theorem Mc(T:Tx K mg t):bJ P w K mg base dy 2 t.iN t.jm ["deck"] (Ex K):=by
 have bw:bJ P w K mg base dy 1 t.dZ t.eA ["deck"] (uY K):=uy T;refine T.j7.F.lQ qS (fun vs H Q E h=>?_) (fun eT A outer s H vs Q E hr h=>?_)
 ·obtain⟨_,_,_,_,rfl,_⟩:=h;rfl
 obtain⟨D,S,sc,p,rfl,dk,hp,q⟩:=h;have nd:=qS.nd;refine⟨_,[some (V.ref D),none,none,none,none],(ah (c5 1 nd (bu aa))
 (ah (c5 2 nd (bf cI (da bw T.bB hr (bc 0 aa)) aj))
 (ah (du PassesOwn.never rfl (ik rfl T.js (ag (bf cI (da bw T.bB hr (bc 0 aa)) aj) aa ja)) (lX 3 nd)
 (ah (c5 4 nd (bf dP aj (bf cI (da bw T.bB hr (bc 0 aa)) aj)))
 (ak (bK (dw zaj zan zao bD (pv 1) (ag (aS (ag (aC a9 (bu (cO (vs:=[.str "c",.str "bb",.str "aaa",.str "boxes"]) (by kernel_rfl))) (bf xb (pv 3) (pv 2)) lS) (bc 4 (ag (bf cI (da bw T.bB hr (bc 0 aa)) (pv 4)) aa ja)) aX)) aa bW))))))
 (ak (aO (pv 1)))))),rfl,?_⟩
 have line:zds=2 ^ 24:=rfl;refine av fun U1 eE=>?_;ac_nf;intro B hB;have s1:=aq.new hB (.lst []);have h1:(upd H B (.lst [])) B=some (.lst []):=ae;have Fd:=dk.same s1;have nB:B≠D:=(ai dk.bF hB).symm;have PR:H D≠none:=by rw[dk.bF];simp
 generalize upd H B (.lst [])=H1 at *;refine(eE _ _).mpr (av fun U2 gh=>?_);clear eE;ac_nf;refine⟨D,S,sc,p,rfl,Fd,by lia,fun H2 u2 zc=>?_⟩;ac_nf;refine(gh _ _).mpr (av fun U3 iY=>?_);clear gh;have h2:=u2 _ _ nB h1;refine oY fun U hU=>?_;ac_nf;refine⟨D,S,sc,p+1,rfl,zc,by lia,fun H3 u3 qA=>?_⟩;ac_nf;obtain⟨c0,c1⟩:=jM sc (p+1);refine⟨_,rfl,by lia,by lia,hU _ _ ?_⟩;have h3:=u3 _ _ nB h2;have DF:aZ D H H3:=((aZ.of s1).trans u2).trans u3;have IH:∀b,H b≠none->H3 b≠none:=DF.qF (by rw[qA.bF];simp);generalize hN:(PG.next sc (p+1)%4).toNat=N at *;have N5:N<=4:=by lia
 clear hU;refine kh (lo:=0) (n:=N) (fun i σ H4=>∃(a b:Option V) (pi:Nat) (pre:List gm) (xs:List V),σ=[some (V.ref D),some (V.ref B),some (V.int (PG.next sc p%4)),a,b]/\pi<=p+2+2*i/\i3 K H4 D S sc pi/\H4 B=some (.lst xs)/\xs.length=i/\pre.length=i/\
  (bH sc (PG.next sc p%4) N 0 (p+2)).1=pre++(bH sc (PG.next sc p%4) (N-i) i pi).1/\(bH sc (PG.next sc p%4) N 0 (p+2)).2=(bH sc (PG.next sc p%4) (N-i) i pi).2/\
  my K (fun b=>if b=B then some (.lst []) else H b) H4 (pre.map jy) xs/\(∀b o,b≠D->b≠B->H b=some o->H4 b=some o)) ?_ ?_ ?_
 ·exact⟨none,none,p+2,[],[],rfl,by lia,qA,h3,rfl,rfl,rfl,rfl,my.nil,fun b o n1 n2 e=>DF b o n1 e⟩
 ·rintro i σ H4 hi ⟨a,b,pi,pre,xs,rfl,lp,wm,h4,lx,RV,e1,e2,ow,kp⟩
  rw[zcI];refine av fun U4 ke=>?_;ac_nf;refine⟨D,S,sc,pi,rfl,wm,by lia,fun H7 u7 WX=>?_⟩;have h7:=u7 _ _ nB h4;ac_nf;refine(ke _ _).mpr ?_;clear ke;have z0:0<2+PG.next sc pi%3:=by lia
  have eN:N-i=(N-(i+1))+1:=by lia
  rw[eN,bH] at e1 e2;simp only at e1 e2;generalize 2+PG.next sc pi%3=size at *;ac_nf;refine⟨.inl ⟨rfl,_,.of h7⟩,fun p8 Jc=>?_⟩;have s8:=aq.new Jc (.lst [V.str (zab "c"),V.str (zab "bb"),V.str (zab "aaa"),V.str (zab "boxes")]);have Zj:=WX.same s8;have h8:=s8 _ _ h7;have sp0:0<=PG.next sc p%4/\PG.next sc p%4<4:=by lia
  have nm:∀(a:Nat) (b:Int),a<4->0<=b->b<4->tw [V.str (zab "c"),V.str (zab "bb"),V.str (zab "aaa"),V.str (zab "boxes")] ((a:Int)-b)=some (V.str (L2.S (PG.pick [] dC (((a:Int)-b)%4)))):=by
   intro a b ha HR Pq;obtain⟨c,rfl⟩:∃c:Nat,b=c:=⟨b.toNat,by lia⟩
   have key:∀a<4,∀c<4,tw [V.str (zab "c"),V.str (zab "bb"),V.str (zab "aaa"),V.str (zab "boxes")] (((a:Nat):Int)-((c:Nat):Int))=some (V.str (L2.S (PG.pick [] dC ((((a:Nat):Int)-((c:Nat):Int))%4)))):=by decide +kernel
   exact key a ha c (by lia)
  refine Cc (nm i _ (by lia) sp0.1 sp0.2) ?_;generalize upd H7 p8 (.lst [V.str (zab "c"),V.str (zab "bb"),V.str (zab "aaa"),V.str (zab "boxes")])=H8 at *;refine⟨D,S,sc,pi+1,rfl,Zj,by lia,fun H9 u9 Vi=>?_⟩;ac_nf;refine⟨z0,fun pa RW=>?_⟩;have h9:=u9 _ _ nB h8;have uD:aZ D H4 H9:=u7.trans ((aZ.of s8).trans u9);have Ff:=Vi.same (aq.new RW (.tup [V.str (L2.S (PG.pick [] dC (((i:Int)-PG.next sc p%4)%4))),V.int size,V.int (PG.next sc (pi+1)%size)]));have K8:=aq.new RW (.tup [V.str (L2.S (PG.pick [] dC (((i:Int)-PG.next sc p%4)%4))),V.int size,V.int (PG.next sc (pi+1)%size)]) _ _ h9;have Zk:∀b,(fun b=>if b=B then some (HO.lst []) else H b) b≠none->H9 b≠none:=fun b hb=>by
   by_cases eb:b=B
   ·rw[eb,h9];simp
   ·have Ww:H b≠none:=by simpa[eb] using hb
    by_cases ed:b=D
    ·rw[ed,Vi.bF];simp
    ·cases z:H b with
     |none=>exact zzb z Ww
     |some o=>rw[uD b o ed (kp b o ed eb z)];simp
  have RX:(fun b=>if b=B then some (HO.lst []) else H b) D≠none:=by simp[nB.symm];exact PR
  have nt:=jY (K:=K) RW Zk (.cons (.str (x:=L2.S (PG.pick [] dC (((i:Int)-PG.next sc p%4)%4)))) (.cons (.int (i:=size)) (.cons (.int (i:=PG.next sc (pi+1)%size)) .nil)));have ow9:my K (fun b=>if b=B then some (HO.lst []) else H b) H9 (pre.map jy) xs:=ow.up uD RX;have RY:=ow9.same (aq.new RW (.tup [V.str (L2.S (PG.pick [] dC (((i:Int)-PG.next sc p%4)%4))),V.int size,V.int (PG.next sc (pi+1)%size)]));have Md:∀b o,b≠D->b≠B->H b=some o->(upd H9 pa (.tup [V.str (L2.S (PG.pick [] dC (((i:Int)-PG.next sc p%4)%4))),V.int size,V.int (PG.next sc (pi+1)%size)])) b=some o:=fun b o n1 n2 e=>aq.new RW _ _ _ (uD b o n1 (kp b o n1 n2 e));generalize upd H9 pa (.tup [V.str (L2.S (PG.pick [] dC (((i:Int)-PG.next sc p%4)%4))),V.int size,V.int (PG.next sc (pi+1)%size)])=vC at *;refine⟨B,xs,_,rfl,rfl,K8,by lia,?_⟩;refine⟨_,_,pi+2,pre++[⟨PG.pick [] dC (((i:Int)-PG.next sc p%4)%4),size,PG.next sc (pi+1)%size⟩],xs++[V.ref pa],rfl,by lia,?_,ae,by simp[lx],by simp[RV],?_,e2,?_,?_⟩
  ·have nS:S≠B:=ai dk.fX hB;exact⟨by rw[aw nB.symm];exact Ff.bF,by rw[aw nS];exact Ff.fX,Ff.ne,Ff.len⟩
  ·rw[e1];simp
  ·rw[zaw];exact Rb K8 (RY.snoc nt) (by simp)
  ·intro b o n1 n2 e;rw[aw n2];exact Md b o n1 n2 e
 ·rintro σ H4 ⟨a,b,pi,pre,xs,rfl,lp,wm,h4,lx,RV,e1,e2,ow,kp⟩
  refine(iY _ _).mpr ?_;ac_nf;rw[Nat.sub_self,bH] at e1 e2;simp only[zav] at e1 e2;refine q B H4 (fun b o n1 e=>?_) (by rw[e2];exact wm) hB (fun O hO=>?_)
  ·by_cases eb:b=B
   ·rw[eb,hB] at e;cases e
   ·exact kp b o n1 eb e
  ·rw[e1];refine Fix.lst h4 (fun z=>hO B z hB) (ow O fun b hb=>?_);by_cases eb:b=B
   ·simp[eb]
   ·simp[eb];exact hO b hb
theorem Me(T:Tx K mg t):bJ P w K mg base dy 5 t.iO t.jn ["deck", "boxes", "k"] (Ey K):=by
 have bw:bJ P w K mg base dy 1 t.dZ t.eA ["deck"] (uY K):=uy T;have g9:=@Mb P w _ _ base _ T 3;refine T.j8.F.lQ qT (fun vs H Q E h=>?_) (fun eT A outer s H vs Q E hr h=>?_)
 ·obtain⟨_,_,_,_,_,_,_,rfl,_⟩:=h;rfl
 obtain⟨D,S,B,sc,p,k,bs,rfl,dk,hp,hb,q⟩:=h;have nd:=qT.nd;refine⟨_,[some (V.ref D),some (V.ref B),some (V.int k),none,none],(ah (c5 3 nd (bf cI (da bw T.bB hr (bc 0 aa)) aj))
 (ah (bh (PW.pt (pw_and (aD (ki (dS hr)) (pv 1) (bu aa) (aR _)) (pw_and1 (aD oQ (pv 3) aj (aR _)))))
 (ak (aO (aS (ag aU (bc 2 (ag (aC aM (aC a9 (pv 1) (bf cI (da bw T.bB hr (bc 0 aa)) (bX bE rfl T.g8 PyProof.Rows.Boot.«len» (bc 1 aa))) lS) aj ao) aa aX)) aP))))
 aV)
 (ah (bh (PW.pt (pw_and (aD (ki (dS hr)) (pv 1) (bu aa) (aR _)) (pw_and1 (aD oQ (pv 3) aj (aR _)))))
 (ak (aO (aS (ag aU (bc 2 (ag (aC aM (aC a9 (pv 1) (bf cI (da bw T.bB hr (bc 0 aa)) (bX bE rfl T.g8 PyProof.Rows.Boot.«len» (bc 1 aa))) lS) aj ao) (ag (da g9 T.gF hr (bc 0 (bc 1 (ag aj aa aP)))) aa bG) aX)) aP))))
 aV)
 (ah (bh (aD bN (pv 3) aj (aR _))
 (ah (c5 4 nd (aC AH aU (bf cI (da bw T.bB hr (bc 0 aa)) aj) lS))
 (ak (aO (aS (ag aU (bc 2 (bc 4 (ag (da g9 T.gF hr (bc 0 (bc 1 (ag aj aa aP)))) (ag (da g9 T.gF hr (bc 0 (bc 1 (ag aj aa aP)))) aa bG) bG))) aP)))))
 aV)
 (ah (bh (PW.pt (pw_and (aD bN (pv 3) aj (aR _)) (pw_and1 (aD bN (bf cI (da bw T.bB hr (bc 0 aa)) aj) aj (aR _)))))
 (ak (aO (aS (ag aU (bc 2 aa) aP))))
 aV)
 (ak (aO (aS (ag aU (bc 2 (ag (da g9 T.gF hr (bc 0 (bc 1 (ag aj aa aP)))) aa bG)) aP))))))))),rfl,?_⟩
 have line:zds=2 ^ 24:=rfl;refine av fun U1 eE=>?_;ac_nf;refine⟨D,S,sc,p,rfl,dk,by lia,fun H1 u1 Fd=>?_⟩;ac_nf;refine(eE _ _).mpr (av fun U2 gh=>?_);clear eE;have PR:H D≠none:=by rw[dk.bF];simp
 obtain⟨n0,n1⟩:=jM sc p;have Fe:=u1.qF (by rw[Fd.bF];simp);have Pq:=hb.up u1;have eg:=o8 sc bs k p;generalize hkd:PG.next sc p%10=kd at *;have say:∀(H2:Hp) (p2:Nat),bR sc bs k p=(.say k (cC sc bs 2 p2).1,(cC sc bs 2 p2).2)->p2<=p+2->aZ D H H2->i3 K H2 D S sc p2->jT K (·=D) H2 B bs->
  xE K 3 [V.ref D,V.ref B,V.int 2] H2 (fun x H3=>∀p4,H3 p4=none->Q (V.ref p4) (upd H3 p4 (.tup [V.str (zab "say"),V.int k,x]))) E0:=by
  intro H2 p2 e yQ u2 zc sM;rw[e] at q;obtain⟨g1,g2⟩:=jL sc bs 2 p2;refine⟨D,S,B,sc,p2,2,bs,rfl,by lia,zc,by lia,sM,fun v H3 u3 qA o3 p4 v8=>?_⟩;have MQ:H2 D≠none:=by rw[zc.bF];simp
  have Jb:H3 D≠none:=by rw[qA.bF];simp
  refine q _ _ ((u2.trans u3).new v8 _) (qA.same (aq.new v8 _)) (jY v8 (fun b z=>(u3.qF Jb) b ((u2.qF MQ) b z)) (.cons .str (.cons .int (.cons (o3.back (u2.qF MQ)) .nil))))
 ac_nf;intro p2 yQ;have s2:=aq.new yQ (.lst []);have sM:=Pq.same s2;have h2:(upd H1 p2 (.lst [])) p2=some (.lst []):=ae;have zc:=Fd.same s2;generalize upd H1 p2 (.lst [])=H2 at *;obtain⟨xs,hx,lx,_⟩:=sM.list;refine⟨B,p2,xs,rfl,rfl,hx,.of h2,?_⟩;have em:xs.isEmpty=decide (bs=[]):=by
  rw[zbO,zcJ,decide_eq_true_eq,<- zaV,lx,zaV]
 rw[em];have u2:aZ D H1 H2:=.of s2;have Zl:=u2.qF (by rw[zc.bF];simp);have box:∀(H3:Hp) (p3:Nat) (R:VK),i3 K H3 D S sc p3->p3<=99000->jT K (·=D) H3 B bs->bs≠[]->(∀H4,aZ D H3 H4->i3 K H4 D S sc (p3+1)->jT K (·=D) H4 B bs->R (V.str (L2.S (PG.pick ⟨[],0,0⟩ bs (PG.next sc p3%bs.length)).name)) H4)->
  uY K [V.ref D] H3 (fun x H1=>∃p ys,[V.ref B]=[V.ref p]/\(i6 K H1 p ys\/bQ K H1 p ys)/\rI (fun x j=>0<j) (fun i j=>V.int (i%j)) x (V.int (ys.length:Nat)) H1 fun y H2=>AG K (V.ref B) y H2 fun x H1=>Eb K x (V.int 0) H1 R) E0:=by
  intro H3 p3 R qA l3 Ma wQ hR;refine⟨D,S,sc,p3,rfl,qA,by lia,fun H4 u4 wm=>?_⟩;have OF:=Ma.up u4;obtain⟨ys,hy,ly,_⟩:=OF.list;refine⟨B,ys,rfl,.inl hy,?_⟩;rw[ly];have pos:0<bs.length:=zbg.mpr wQ;ac_nf;exact⟨by lia,OF.pick (zaP _ (by lia)) (zaM _ (by lia)) (hR H4 u4 wm OF)⟩
 have S6:=u1.trans u2;have PU:¬(bs≠[]/\kd<3)->U2 [some (V.ref D),some (V.ref B),some (V.int k),some (V.int kd),none] H2:=by
  intro hn;rw[zzn hn] at eg;refine(gh _ _).mpr (av fun U3 iY=>?_);have PV:¬(bs≠[]/\kd<6)->∀H3,aq H2 H3->U3 [some (V.ref D),some (V.ref B),some (V.int k),some (V.int kd),none] H3:=by
   intro QK H3 s3;rw[zzn QK] at eg;have u3:aZ D H H3:=S6.trans (.of s3);have qA:=zc.same s3;have Ma:=sM.same s3;have IH:=u3.qF (by rw[qA.bF];simp);refine(iY _ _).mpr (av fun U4 ke=>?_);ac_nf;refine b7 (fun k6=>?_) (fun k6=>(ke _ _).mpr (av fun U5 uv=>?_))
   ·rw[zzp k6] at eg;rw[eg] at q;refine⟨D,S,sc,p+1,rfl,qA,by lia,fun H4 u4 wm=>?_⟩;ac_nf;obtain⟨m0,m1⟩:=jM sc (p+1);have sg:∀i:Int,0<=i->i<2->∃c,tw (zab "<=").cps.toList i=some c/\V.str ⟨#[c]⟩=V.str (L2.S (PG.pick [] BO i)):=fun i h0 h3=>by
     have z3:i=0\/i=1:=by lia
     rcases z3 with rfl |rfl
     ·exact⟨60,au (j:=0) (by decide +kernel),rfl⟩
     ·exact⟨61,au (j:=1) (by decide +kernel),rfl⟩
    obtain⟨c,hc,ec⟩:=sg (PG.next sc (p+1)%2) (by lia) (by lia);refine⟨_,_,c,rfl,rfl,by decide,hc,?_⟩;rw[ec];have OF:=Ma.up u4;have Dd:=u4.qF (by rw[wm.bF];simp);obtain⟨g1,g2⟩:=jL sc bs 1 (p+2);refine⟨D,S,B,sc,p+2,1,bs,rfl,by lia,wm,by lia,OF,fun v5 H5 u5 Jd o5=>?_⟩;have hb5:=OF.up u5;have RZ:=u5.qF (by rw[Jd.bF];simp);obtain⟨g3,g4⟩:=jL sc bs 1 (cC sc bs 1 (p+2)).2;refine⟨D,S,B,sc,_,1,bs,rfl,by lia,Jd,by lia,hb5,fun v6 H6 u6 Je o6 p7 uz=>?_⟩;have Zm:=u6.qF (by rw[Je.bF];simp);have dA:∀b,H b≠none->H4 b≠none:=fun b z=>Dd b (IH b z);have dB:∀b,H b≠none->H5 b≠none:=fun b z=>RZ b (dA b z);exact q _ _ ((((u3.trans u4).trans u5).trans u6).new uz _) (Je.same (aq.new uz _)) (jY uz (fun b z=>Zm b (dB b z)) (.cons .str (.cons .int (.cons .str (.cons ((o5.back dA).up u6 PR) (.cons (o6.back dB) .nil))))))
   ·rw[zzn k6] at eg;ac_nf;refine b7 (fun k7=>?_) (fun k7=>(zzn zai).mpr ((uv _ _).mpr ?_))
    ·rw[zzp k7] at eg;refine⟨D,S,sc,p+1,rfl,qA,by lia,fun H4 u4 wm=>?_⟩;ac_nf;have Dd:=u4.qF (by rw[wm.bF];simp);refine b7 (fun z3=>?_) (fun z3=>(uv _ _).mpr ?_)
     ·rw[zzp z3] at eg;rw[eg] at q;intro p5 yM;exact q _ _ ((u3.trans u4).new yM _) (wm.same (aq.new yM _)) (jY yM (fun b z=>Dd b (IH b z)) (.cons .str (.cons .int .nil)))
     ·rw[zzn z3] at eg;ac_nf;exact say H4 (p+2) eg (by lia) (u3.trans u4) wm (Ma.up u4)
    ·rw[zzn k7] at eg;ac_nf;exact say H3 (p+1) eg (by lia) u3 qA Ma
  ac_nf;intro p3 DE;have s3:=aq.new DE (.lst []);have Ma:=sM.same s3;have h3:(upd H2 p3 (.lst [])) p3=some (.lst []):=ae;have qA:=zc.same s3;generalize upd H2 p3 (.lst [])=H3 at *;obtain⟨ys,hy,ly,_⟩:=Ma.list;refine⟨B,p3,ys,rfl,rfl,hy,.of h3,?_⟩;have em3:ys.isEmpty=decide (bs=[]):=by
   rw[zbO,zcJ,decide_eq_true_eq,<- zaV,ly,zaV]
  rw[em3];by_cases wQ:bs=[]
  ·rw[decide_eq_true wQ,zzn (by decide),zzn zai];exact PV (fun z=>z.1 wQ) H3 s3
  ·rw[decide_eq_false wQ,zzp (by decide)];refine b7 (fun k6=>?_) (fun k6=>PV (fun z=>k6 z.2) H3 s3);rw[zzp ⟨wQ,k6⟩] at eg;rw[eg] at q;refine box H3 (p+1) _ qA (by lia) Ma wQ fun H4 u4 wm OF=>?_;have u3:aZ D H H3:=S6.trans (.of s3);have IH:=u3.qF (by rw[qA.bF];simp);have Dd:=u4.qF (by rw[wm.bF];simp);obtain⟨g1,g2⟩:=jL sc bs 2 (p+2);refine⟨D,S,B,sc,p+2,2,bs,rfl,by lia,wm,by lia,OF,fun v5 H5 u5 Jd o5 p6 i0=>?_⟩;have RZ:=u5.qF (by rw[Jd.bF];simp);exact q _ _ (((u3.trans u4).trans u5).new i0 _) (Jd.same (aq.new i0 _)) (jY i0 (fun b z=>RZ b (Dd b (IH b z))) (.cons .str (.cons .int (.cons .str (.cons (o5.back fun b z=>Dd b (IH b z)) .nil)))))
 by_cases wQ:bs=[]
 ·rw[decide_eq_true wQ,zzn (by decide),zzn zai];exact PU fun z=>z.1 wQ
 ·rw[decide_eq_false wQ,zzp (by decide)];refine b7 (fun k3=>?_) (fun k3=>PU fun z=>k3 z.2);rw[zzp ⟨wQ,k3⟩] at eg;rw[eg] at q;refine box H2 (p+1) _ zc (by lia) sM wQ fun H4 u4 wm OF p5 yM=>?_;have Dd:=u4.qF (by rw[wm.bF];simp);exact q _ _ ((S6.trans u4).new yM _) (wm.same (aq.new yM _)) (jY yM (fun b z=>Dd b (Zl b (Fe b z))) (.cons .str (.cons .int (.cons .str .nil))))
theorem Mf:∀w:Wd,(!Ni (V.str (fZ w)) [V.str (zab "else"),V.str (zab "end")])=decide (w≠.oN/\w≠.fin):=by
 intro w;cases w<;>decide +kernel
theorem II(T:Tx K mg t):bJ P w K mg base dy 1 t.gX t.iQ ["boxes", "rows", "mode"] (KJ K):=by
 refine T.gZ.F.lQ pS (fun vs H Q E h=>?_) (fun eT A outer s H vs Q E hr h=>?_)
 ·obtain⟨_,_,_,_,_,rfl,_⟩:=h;rfl
 obtain⟨B,R,bs,rows,mode,rfl,rb,rr,lb,lr,q⟩:=h;have nd:=pS.nd;refine⟨_,[some (V.ref B),some (V.ref R),some (V.int mode)],(ah (bh (aD bN (pv 2) aj (aR _))
 (ak (aO (bf dP (bf dP (bX bE rfl T.g8 PyProof.Rows.Boot.«len» (bc 0 aa)) aj) (bf rL aj (bX bE rfl T.g8 PyProof.Rows.Boot.«len» (bc 1 aa))))))
 aV)
 (ah (bh (aD bN (pv 2) aj (aR _))
 (ak (aO (bf dP (bf dP (bX bE rfl T.g8 PyProof.Rows.Boot.«len» (bc 0 aa)) aj) (bX bE rfl T.g8 PyProof.Rows.Boot.«len» (ag (hG (own:=["row"]) (ix:=[]) rfl (by rfl) (by rfl) (cH (pv 1)) (fun _ _ _ _=>(fY (i:=0) (by show List.Nodup (["row"]:List Str);decide +kernel) rfl (zbq rfl))) (fun _ _ _ _=>(FX (aD (HM (K:=K) rfl) (aC (Cw (K:=K) rfl) (pv 0) aj ao) (aS (cO (vs:=[.str "else",.str "end"]) (by kernel_rfl))) rfl))) (fun _ _ _ _=>(pv 0))) aa k0)))))
 aV)
 (ak (aO (bf dP (bf dP (bX bE rfl T.g8 PyProof.Rows.Boot.«len» (bc 0 aa)) aj) (bX bE rfl T.g8 PyProof.Rows.Boot.«len» (bc 1 aa))))))),rfl,?_⟩
 have line:zds=2 ^ 24:=rfl;rw[Rep.bL] at rb rr;obtain⟨_,bv,e,hB,rb⟩:=rb;cases e;obtain⟨_,rv,e,hR,rr⟩:=rr;cases e;have OG:bv.length=bs.length:=by rw[rb.length,zad]
 have PX:rv.length=rows.length:=by rw[rr.length,zad]
 unfold PG.number at q;ac_nf;refine b7 (fun m2=>?_) (fun m2=>?_)
 ·rw[zzp m2] at q;refine⟨B,bv,rfl,.inl hB,R,rv,rfl,.inl hR,?_⟩;rw[OG,PX];exact⟨mulL (by decide) (by decide),q _ (aq.refl _)⟩
 rw[zzn m2] at q;refine b7 (fun m3=>?_) (fun m3=>?_)
 ·rw[zzp m3] at q;refine⟨B,bv,rfl,.inl hB,?_⟩;simp only[jS];ac_nf;refine⟨⟨rv,hR⟩,fun D hD=>?_⟩;refine xG (K:=K) (r:=[]) (fun i=>PG.plainRow (rows.getD i (0,.ask))) (fun i=>rv.getD i .cB) hR (by lia) hD (fun i x hx H2 s2 R2 Zn=>?_) (fun i x hx _ H2 s2 R2 Zn=>?_) (fun H2 s2 h2=>?_)
  ·have li:i<rows.length:=by
    have:=(zak.mp hx).1;lia
   obtain⟨v,hv,rw_⟩:=rr.get (i:=i) (d:=mw (rows.getD i (0,.ask))) (by rw[zal,zac li,zap,zac li];rfl);rw[hx] at hv;cases hv;generalize rows.getD i (0,.ask)=row at *;unfold mw at rw_;rw[Rep.bL] at rw_;obtain⟨a,ys,rfl,hy,ry⟩:=rw_;rw[aN.aI] at ry;obtain⟨v1,t1,rfl,e1,ry⟩:=ry;rw[aN.aI] at ry;obtain⟨v2,t2,rfl,e2,ry⟩:=ry;rw[aN.br] at ry;subst ry;rw[Rep.bA] at e2;subst e2;ac_nf;refine bz (v:=V.str (fZ row.2)) (s2.seq hy) (au (j:=1) rfl) fun p3 DE=>?_;refine⟨p3,_,rfl,.inr (.of ae),rfl,rfl,?_⟩;have ew:(!Ni (V.str (fZ row.2)) [V.str (zab "else"),V.str (zab "end")])=PG.plainRow row:=by
    exact Mf row.2
   have:=Zn _ (aq.new DE (.tup [V.str (zab "else"),V.str (zab "end")]));rw[<- ew] at this;exact⟨_,rfl,this⟩
  ·ac_nf;have:=Zn H2 (aq.refl _);rw[zap,hx] at this;exact this
  ·refine⟨D,_,rfl,.inl (.of h2),?_⟩;rw[zad,PX,Cv,OG];exact q _ s2
 ·rw[zzn m3] at q;refine⟨B,bv,rfl,.inl hB,R,rv,rfl,.inl hR,?_⟩;rw[OG,PX];exact q _ (aq.refl _)
theorem ju{α:Type}{xs:List α}{x:α}:tw (xs++[x]) (-1)=some x:=by
 have e:JG (xs++[x]).length (-1)=some xs.length:=by
  unfold JG;simp
  try lia
 unfold tw;rw[e];simp
theorem uC{K:zaa}{Oo:zdk->Prop}{H:Hp}{ds es:List Dp}{vs us:List V}(a:eJ K Oo H ds vs)(b:eJ K Oo H es us):eJ K Oo H (ds++es) (vs++us):=fun H2 u=>(a H2 u).append (b H2 u)
theorem Bm{K:zaa}{H:Hp}{a b:zdk}{xs ys:List V}{Q:VK}(h1:H a=some (.tup xs))(h2:H b=some (.tup ys))(n1:1<=xs.length/\xs.length<=10)(n2:1<=ys.length/\ys.length<=10)(q:∀p,H p=none->Q (.ref p) (upd H p (.tup (xs++ys)))):O7 K (.ref a) (.ref b) H Q:=by
 have line:zds=2 ^ 24:=rfl;refine⟨a,b,xs,ys,rfl,rfl,.of h1,.of h2,by intro z;rw[z] at n1;simp at n1,by lia,fun z=>by rw[z] at n2;simp at n2,fun _=>q⟩
theorem Mg(T:Tx K mg t):bJ P w K mg base dy 1 t.iP t.jo ["pile"] (NF K):=by
 refine T.iU.F.lQ qU (fun vs H Q E h=>?_) (fun eT A outer s H vs Q E hr h=>?_)
 ·obtain⟨_,_,_,_,_,_,_,_,_,_,_,_,_,_,_,_,rfl,_⟩:=h;rfl
 obtain⟨D,S,sc,p,B,bs,P',R,f,g,a,b,a',b',r,rows,rfl,st,hk,hg,aet,q⟩:=h;have nd:=qU.nd;refine⟨_,[some (V.ref P'),none,none,none,none,none],(ah (rJ (Ef zaj zcj zck Ek (pv 0)) (AN rfl (bM (lX 1 nd) (bM (lX 2 nd) (bM (lX 3 nd) (bM (lX 4 nd) iA))))))
 (ah (c5 5 nd (bf tm (pv 3) (aS (bc 2 aa))))
 (ah (bh (aD bN (pv 1) aU (aR _))
 (ak (c5 5 nd (bf tm (pv 3) (aS (bc 2 (ag (bu aa) aa jK))))))
 aV)
 (ah (bh (aD bN (pv 1) aU (aR _))
 (ak (c5 5 nd (bf tm (pv 3) (aS (bc 4 (bc 2 aa))))))
 aV)
 (ak (bK (dw zaj zan zao bD (aC a9 (aC a9 (pv 0) (vI oP aj) vO) aj ao) (bc 5 aa)))))))),rfl,?_⟩
 have line:zds=2 ^ 24:=rfl;refine av fun U1 eE=>?_;ac_nf;have ep:((f,a,b)::(g,a',b')::r:List xF).reverse.map (fun x=>V.ref x.2.1)=((g,a',b')::r:List xF).reverse.map (fun x=>V.ref x.2.1)++[.ref a]:=by rw[zbm,zaw];rfl
 obtain⟨wg,⟨hd,fi,xs,fa⟩,na,nb,Rc⟩:=st.pop;have kd:∀c,H c≠none->(upd H P' (.lst (((g,a',b')::r:List xF).reverse.map fun x=>V.ref x.2.1))) c≠none:=fun c hc=>by
  by_cases e:c=P'
  ·rw[e,ae];simp
  ·rw[aw e];exact hc
 have kp:∀c o,c ∉ i4 D P' R ((f,a,b)::(g,a',b')::r)->H c=some o->(upd H P' (.lst (((g,a',b')::r:List xF).reverse.map fun x=>V.ref x.2.1))) c=some o:=fun c o hc e=>by
  rw[aw (fun z=>hc (by rw[z];simp[i4]))];exact e
 refine⟨.inl ⟨rfl,_,.of st.aY⟩,P',_,.ref a,rfl,rfl,st.aY,by rw[ep];simp,?_⟩;rw[ep,zcp];generalize upd H P' (.lst (((g,a',b')::r:List xF).reverse.map fun x=>V.ref x.2.1))=H1 at *;refine⟨a,_,rfl,.of fa.fr,rfl,_,_,rfl,_,_,rfl,_,_,rfl,_,_,rfl,rfl,(eE _ _).mpr (av fun U2 gh=>?_)⟩;clear eE;obtain⟨c,ys,rfl,hc,nc,S7⟩:=fa.HL (by lia);have lys:ys.length=5:=by have:=S7.HK.length;simpa using this
 have Fg:∀z,O D P' R ((g,a',b')::r) [] z->O D P' R ((g,a',b')::r) [a,b] z:=fun z hz=>hz.elim .inl fun w=>zzb w (by simp);have yI:=wg.less (E':=[]) (fun z hz=>zzb hz (by simp));have R0:=S7.sub Fg;have Vj:¬O D P' R ((g,a',b')::r) [] b:=fun z=>z.elim nb (by simp);have Vk:Fix K (O D P' R ((g,a',b')::r) []) H1 (.lst (f.body.map eI)) (.ref b):=Fix.lst fa.bd Vj (fa.ok.sub Fg);ac_nf;intro p2 yQ;have s2:=aq.new yQ (.tup [.ref b]);have t2:(upd H1 p2 (.tup [.ref b])) p2=some (.tup [.ref b]):=ae;generalize upd H1 p2 (.tup [.ref b])=H2 at *;refine Bm (s2 _ _ hc) t2 (by lia) (by simp) fun p3 DE=>?_;have s3:=s2.trans (aq.new DE (.tup (ys++[.ref b])));have t3:(upd H2 p3 (.tup (ys++[.ref b]))) p3=some (.tup (ys++[.ref b])):=ae;have n3:p3 ∉ i4 D P' R ((g,a',b')::r):=(yI.same s2).fresh DE;generalize upd H2 p3 (.tup (ys++[.ref b]))=H3 at *;refine(gh _ _).mpr (av fun U3 iY=>?_);clear gh;ac_nf;have Vl:(tQ f.kind=zab "if")↔f.kind=1:=by
  rcases hk with h |h |h<;>rw[h]<;>simp[tQ]<;>decide +kernel
 have Vm:(tQ f.kind=zab "else")↔f.kind=2:=by
  rcases hk with h |h |h<;>rw[h]<;>simp[tQ]<;>decide +kernel
 have PY:∀(v:V) (H4:Hp),aq H1 H4->(f.kind≠2->Fix K (O D P' R ((g,a',b')::r) []) H4 (eI f.told) v)->U3 [some (V.ref P'),some (V.str (tQ f.kind)),some (V.ref b),some (V.ref c),some fi,some v] H4:=by
  intro v H4 s4 hv;refine(iY _ _).mpr (av fun U4 ke=>?_);have last:∀(v:V) (H5:Hp),aq H1 H5->Fix K (O D P' R ((g,a',b')::r) []) H5 (eI f.told) v->U4 [some (V.ref P'),some (V.str (tQ f.kind)),some (V.ref b),some (V.ref c),some fi,some v] H5:=by
   intro v H5 s5 fv;refine(ke _ _).mpr ?_;have Jr:=yI.same s5;obtain⟨DI,fi',KI,fg⟩:=Jr.frames _ (zaq ..);have lg:KI.length<=1000:=by have:=fg.len;simp only at this;lia
   ac_nf;have pl:H5 P'=some (.lst ((r.reverse.map fun x=>V.ref x.2.1)++[.ref a'])):=by rw[Jr.aY,zbm,zaw];rfl
   refine⟨1,rfl,bz (v:=.ref a') (.of pl) ju (bz (v:=.ref b') (.of fg.fr) (au (j:=1) rfl) ⟨.inl ⟨rfl,_,.of fg.bd⟩,b',KI,v,rfl,rfl,fg.bd,by lia,?_⟩)⟩;refine q _ (fun z hz=>?_) (fun z o nz e=>?_) (Jr.stm fg.bd fv)
   ·by_cases e:z=b'
    ·rw[e,ae];simp
    ·rw[aw e];have h1:=kd z hz;cases w:H1 z with
     |none=>exact zzb w h1
     |some o=>rw[s5 _ _ w];simp
   ·rw[aw (fun w=>nz (by rw[w];simp[i4]))];exact s5 _ _ (kp z o nz e)
  ac_nf;refine b7 (fun e2=>?_) (fun e2=>last v H4 s4 (hv fun z=>e2 (Vm.mpr z)));have k2:=Vm.mp e2;intro p5 yM;have s5:=s4.trans (aq.new yM (.tup [fi,.ref b]));have t5:(upd H4 p5 (.tup [fi,.ref b])) p5=some (.tup [fi,.ref b]):=ae;generalize upd H4 p5 (.tup [fi,.ref b])=H5 at *;refine Bm (s5 _ _ hc) t5 (by lia) (by simp) fun p6 i0=>?_;have s6:=s5.trans (aq.new i0 (.tup (ys++[fi,.ref b])));have n6:¬O D P' R ((g,a',b')::r) [] p6:=fun z=>z.elim ((yI.same s5).fresh i0) (by simp);refine last _ _ s6 ?_;have et:eI f.told=.tup ([.str "if",.int f.k,.str (L2.S f.sg),oJ f.l,oJ f.r]++[.lst (f.first.map eI),.lst (f.body.map eI)]):=by
   unfold PG.Frame.told;rw[zzn (by lia),zzp k2,eI,gw,gw];rfl
  rw[et];have f5:=R0;rw[zzn (by lia)] at f5;refine Fix.tup ae n6 ?_;exact uC (f5.up (.of s6)) (.cons (((fa.KG k2).sub Fg).up (.of s6)) (.cons (Vk.up (.of s6)) .nil))
 refine b7 (fun e1=>?_) (fun e1=>PY _ H3 s3 fun QK=>?_)
 ·have k1:=Vl.mp e1;intro p4 v8 p5 yM;have s4:=s3.trans (aq.new v8 (.lst []));have t4:(upd H3 p4 (.lst [])) p4=some (.lst []):=ae;have n4:¬O D P' R ((g,a',b')::r) [] p4:=fun z=>z.elim ((yI.same s3).fresh v8) (by simp);generalize upd H3 p4 (.lst [])=H4 at *;have s5:=s4.trans (aq.new yM (.tup [.ref b,.ref p4]));have t45:=aq.new yM (.tup [.ref b,.ref p4]) _ _ t4;have t5:(upd H4 p5 (.tup [.ref b,.ref p4])) p5=some (.tup [.ref b,.ref p4]):=ae;generalize upd H4 p5 (.tup [.ref b,.ref p4])=H5 at *;refine Bm (s5 _ _ hc) t5 (by lia) (by simp) fun p6 i0=>?_;have s6:=s5.trans (aq.new i0 (.tup (ys++[.ref b,.ref p4])));have t6:=aq.new i0 (.tup (ys++[.ref b,.ref p4])) _ _ t45;have n6:¬O D P' R ((g,a',b')::r) [] p6:=fun z=>z.elim ((yI.same s5).fresh i0) (by simp);refine PY _ _ s6 fun _=>?_;have et:eI f.told=.tup ([.str "if",.int f.k,.str (L2.S f.sg),oJ f.l,oJ f.r]++[.lst (f.body.map eI),.lst []]):=by
   unfold PG.Frame.told;rw[zzp k1,eI,gw];rfl
  rw[et];have f5:=R0;rw[zzn (by lia)] at f5;refine Fix.tup ae n6 ?_;exact uC (f5.up (.of s6)) (.cons (Vk.up (.of s6)) (.cons (Fix.lst t6 n4 .nil) .nil))
 ·have k3:f.kind=3:=by
   have:¬f.kind=1:=fun z=>e1 (Vl.mpr z);lia
  have et:eI f.told=.tup ([.str "while",.int f.k,.str (L2.S f.sg),oJ f.l,oJ f.r]++[.lst (f.body.map eI)]):=by
   unfold PG.Frame.told;rw[zzn (by lia),zzn (by lia),eI,gw];rfl
  rw[et];have f5:=R0;rw[zzp k3] at f5;exact Fix.tup t3 (fun z=>z.elim n3 (by simp)) (uC (f5.up (.of s3)) (.cons (Vk.up (.of s3)) .nil))
theorem Fh(T:Tx K mg t):bJ P w K mg base dy 6 t.gC t.hV ["deck", "many"] (EK K):=by
 have bw:bJ P w K mg base dy 1 t.dZ t.eA ["deck"] (uY K):=uy T;have g9:=@Mb P w _ _ base _ T 2;have Bn:=@Mc P w _ _ base _ T;have Bo:=@Me P w _ _ base _ T;have qZ:=@II P w _ _ base _ T;have uG:=@Mg P w _ _ base _ T;refine T.iV.F.lQ oH (fun vs H Q E h=>?_) (fun eT A outer s H vs Q E hr h=>?_)
 ·obtain⟨_,_,_,_,_,rfl,_⟩:=h;rfl
 obtain⟨D,S,sc,p,many,rfl,dk,hp,hm,q⟩:=h;have nd:=oH.nd;refine⟨_,[some (V.ref D),some (V.int many),none,none,none,none,none,none,none,none,none,none,none,none,none],(ah (c5 2 nd (da Bn T.j7 hr (bc 0 aa)))
 (ah (c5 3 nd (bu (ag (bu (ag aU (ag (bu aa) (ag eV (ag eV aa aP) aP) jK) aP)) aa jK)))
 (ah (c5 4 nd (bu aa))
 (ah (c5 5 nd (bf cI (da bw T.bB hr (bc 0 aa)) aj))
 (ah (du PassesOwn.never rfl (ik rfl T.js (bc 1 aa)) (lX 6 nd)
 (ah (c5 7 nd (da qZ T.gZ hr (bc 2 (bc 4 (bc 5 aa)))))
 (ah (c5 8 nd (bf cI (da bw T.bB hr (bc 0 aa)) aj))
 (ak (bh (PW.pt (pw_and (aD oQ (pv 8) aj (aR _)) (pw_and1 (aD Jv (bX bE rfl T.g8 PyProof.Rows.Boot.«len» (bc 3 aa)) aj (aR _)))))
 (ah (bK (da uG T.iU hr (bc 3 aa)))
 (ak (bK (dw zaj zan zao bD (pv 4) (ag (bu (bc 7 (ag aU aa aP))) aa jK)))))
 (ak (bh (PW.pt (pw_and (aD bN (pv 8) aj (aR _)) (pw_and1 (aD bN (aC a9 (aC a9 (pv 3) (vI oP aj) vO) aj ao) aU (aR _)))))
 (ah (rJ (Ef zaj zcj zck Ek (pv 3)) (AN rfl (bM (lX 9 nd) (bM (lX 10 nd) (bM (lX 11 nd) (bM (lX 12 nd) iA))))))
 (ah (bK (dw zaj zan zao bD (pv 3) (ag (bu (ag aU (ag (bu aa) (bc 11 (bc 10 aa)) jK) aP)) aa jK)))
 (ak (bK (dw zaj zan zao bD (pv 4) (ag (bu (bc 7 (ag aU aa aP))) aa jK))))))
 (ak (bh (PW.pt (pw_and (aD oQ (pv 8) aj (aR _)) (pw_and1 (aD oQ (bX bE rfl T.g8 PyProof.Rows.Boot.«len» (bc 3 aa)) aj (aR _)))))
 (ah (c5 13 nd (aC a9 (bu (cO (vs:=[.str "if",.str "if",.str "while"]) (by kernel_rfl))) (bf cI (pv 8) aj) lS))
 (ah (c5 14 nd (aS (ag (aC AH aU (bf cI (da bw T.bB hr (bc 0 aa)) aj) lS) (ag (da g9 T.gF hr (bc 0 (bc 2 (ag aj aa aP)))) (ag (da g9 T.gF hr (bc 0 (bc 2 (ag aj aa aP)))) aa bG) bG) aX)))
 (ah (bK (dw zaj zan zao bD (pv 3) (ag (bu (bc 13 (ag (bu aa) (ag (bf tm (aS (bc 13 (bc 7 aa))) (pv 14)) (ag eV aa aP) ja) jK))) aa jK)))
 (ak (bK (dw zaj zan zao bD (pv 4) (ag (bu (bc 7 (bc 13 aa))) aa jK)))))))
 (ah (bK (dw zaj zan zao bD (aC a9 (aC a9 (pv 3) (vI oP aj) vO) aj ao) (ag (da Bo T.j8 hr (bc 0 (bc 2 (bc 7 aa)))) aa bG)))
 (ak (bK (dw zaj zan zao bD (pv 4) (ag (bu (bc 7 (ag (aC aM (aC a9 (aC a9 (aC a9 (pv 3) (vI oP aj) vO) aj ao) (vI oP aj) vO) aj ao) aa aX))) aa jK))))))))))))))
 (ah (mh PassesOwn.never (aD Jv (bX bE rfl T.g8 PyProof.Rows.Boot.«len» (bc 3 aa)) aj (aR _))
 (ah (bK (da uG T.iU hr (bc 3 aa)))
 (ak (bK (dw zaj zan zao bD (pv 4) (ag (bu (ag (da qZ T.gZ hr (bc 2 (bc 4 (bc 5 aa)))) (ag aU aa aP) bG)) aa jK))))))
 (ak (aO (bu (ag (aS (bc 2 (ag (aC a9 (aC a9 (pv 3) aj ao) aj ao) aa aX))) (bc 4 aa) bW)))))))))),rfl,?_⟩
 have line:zds=2 ^ 24:=rfl;have PR:H D≠none:=by rw[dk.bF];simp
 refine av fun U1 eE=>?_;ac_nf;refine⟨D,S,sc,p,rfl,dk,by lia,fun B H1 u1 Fd hB ow1=>(eE _ _).mpr (av fun U2 gh=>?_)⟩;clear eE;unfold cJ at q;simp only at q;generalize wQ:bH sc (PG.next sc p%4) (PG.next sc (p+1)%4).toNat 0 (p+2)=bs at *;have k1:Kept D H H1:=⟨u1,u1.qF (by rw[Fd.bF];simp)⟩
 have bx1:Fix K (·=D) H1 (.lst (bs.1.map jy)) (.ref B):=ow1 _ fun b hb=>by rw[show b=D from hb];exact PR
 ac_nf;intro b0 HR;have x1:=bx1.apart (o:=.lst []) HR;have y1:(upd H1 b0 (.lst [])) b0=some (.lst []):=ae;have s1:=aq.new HR (.lst []);have zc:=Fd.same s1;have k2:=k1.same s1;have e1:H b0=none:=by
  cases z:H b0 with
  |none=>rfl
  |some o=>exact zzb HR (k1.2 b0 (by rw[z];simp))
 generalize upd H1 b0 (.lst [])=H2 at *;intro a0 Jf;have x2:=x1.apart (o:=.lst [V.str (zab "all"),V.ref b0,V.cB,V.cB]) Jf;have s2:=aq.new Jf (.lst [V.str (zab "all"),V.ref b0,V.cB,V.cB]);have y2:(upd H2 a0 (.lst [V.str (zab "all"),V.ref b0,V.cB,V.cB])) a0=some (.lst [V.str (zab "all"),V.ref b0,V.cB,V.cB]):=ae;have y1:=s2 _ _ y1;have Rc:a0≠b0:=fun z=>by rw[z] at Jf;rw[‹H2 b0=some (HO.lst [])›] at Jf;cases Jf
 have qA:=zc.same s2;have k3:=k2.same s2;have e2:H a0=none:=by
  cases z:H a0 with
  |none=>rfl
  |some o=>exact zzb Jf (k2.2 a0 (by rw[z];simp))
 generalize upd H2 a0 (.lst [V.str (zab "all"),V.ref b0,V.cB,V.cB])=H3 at *;intro P' hP;have x3:=x2.apart (o:=.lst [V.ref a0]) hP;have s3:=aq.new hP (.lst [V.ref a0]);have y3:(upd H3 P' (.lst [V.ref a0])) P'=some (.lst [V.ref a0]):=ae;have nPa:a0≠P':=ai y2 hP;have nPb:b0≠P':=ai y1 hP;have Zo:D≠P':=ai qA.bF hP;have nPS:S≠P':=ai qA.fX hP;have y2:=s3 _ _ y2;have y1:=s3 _ _ y1;have R1:D≠b0:=ai Fd.bF HR;have Us:S≠b0:=ai Fd.fX HR;have Zp:D≠a0:=ai zc.bF Jf;have Yj:S≠a0:=ai zc.fX Jf;have wm:=qA.same s3;have k4:=k3.same s3;have e3:H P'=none:=by
  cases z:H P' with
  |none=>rfl
  |some o=>exact zzb hP (k3.2 P' (by rw[z];simp))
 generalize upd H3 P' (.lst [V.ref a0])=H4 at *;refine(gh _ _).mpr (av fun U3 iY=>?_);clear gh;ac_nf;intro R hR;have x4:=x3.apart (o:=.lst []) hR;have s4:=aq.new hR (.lst []);have y4:(upd H4 R (.lst [])) R=some (.lst []):=ae;have nRa:a0≠R:=ai y2 hR;have nRb:b0≠R:=ai y1 hR;have nRP:P'≠R:=ai y3 hR;have nRD:D≠R:=ai wm.bF hR;have nRS:S≠R:=ai wm.fX hR;have y1:=s4 _ _ y1;have y2:=s4 _ _ y2;have y3:=s4 _ _ y3;have Jd:=wm.same s4;have k5:=k4.same s4;have e4:H R=none:=by
  cases z:H R with
  |none=>rfl
  |some o=>exact zzb hR (k4.2 R (by rw[z];simp))
 generalize upd H4 R (.lst [])=H5 at *;obtain⟨bl,bp⟩:bs.1.length<=10/\bs.2<=p+20:=by
  obtain⟨l1,l2⟩:=jX sc (PG.next sc p%4) (PG.next sc (p+1)%4).toNat 0 (p+2);rw[wQ] at l1 l2;have:=jM sc (p+1);lia
 have st0:mz K H5 D S sc bs.2 B bs.1 P' R [({kind:=0,body:=[]},a0,b0)] [] []:=by
  refine⟨Jd,x4.sub fun z hz=>?_,bl,y3,fun x hx=>?_,⟨[],y4,.nil,rfl⟩,?_,?_⟩
  ·rcases hz with hz |hz
   ·simp only[i4,zaG,zbk,zav,zag,za6,or_false] at hz;rcases hz with rfl |rfl |rfl |rfl |rfl
    ·exact .inl (.inl (.inl (.inl rfl)))
    ·exact .inl (.inr rfl)
    ·exact .inr rfl
    ·exact .inl (.inl (.inr rfl))
    ·exact .inl (.inl (.inl (.inr rfl)))
   ·cases hz
  ·rw[zar.mp hx];exact⟨.cB,.cB,[],y2,y1,.nil,fun z=>zzb rfl z,fun z=>zzb z (show ¬(0=2) by decide),rfl⟩
  ·simp only[i4,zaG,zbk,zav,zaE,zag,za6,or_false,not_or,not_false_eq_true,zb4,and_true];exact⟨⟨Zo,nRD,Zp,R1⟩,⟨nRP,nPa.symm,nPb.symm⟩,⟨nRa.symm,nRb.symm⟩,Rc⟩
  ·simp only[i4,zaG,zbk,zav,zag,za6,or_false,not_or];exact⟨Jd.ne,nPS,nRS,Yj,Us⟩
 refine(iY _ _).mpr (av fun U4 ke=>?_);clear iY x1 x2 x3 x4;ac_nf;refine⟨D,S,sc,bs.2,rfl,Jd,by lia,fun H6 u6 Je=>?_⟩;ac_nf;have k6:=k5.up u6 (by rw[Je.bF];simp);have st6:=st0.draw u6 Je;clear st0;generalize PG.next sc bs.2%4=mode at *;refine(ke _ _).mpr (av fun U5 uv=>?_);clear ke;generalize Vn:(⟨bs.2+1,[{kind:=0,body:=[]}],[]⟩:PG.Walk)=w0 at *;have ok0:dE w0:=by rw[<- Vn];exact⟨rfl,rfl,by simp⟩
 have len0:o9 0 w0:=by rw[<- Vn];exact⟨fun f hf=>by rw[zar.mp hf];exact zaf _,zaf _⟩
 have Mh:∀(dh:List xF),(∀x∈dh,H x.2.1=none/\H x.2.2=none)->∀z o,z≠D->H z=some o->z ∉ i4 D P' R dh:=by
  intro dh hf z o nz e hz;simp only[i4,zag,zbc] at hz;rcases hz with hz |rfl |rfl |⟨x,hx,hz⟩
  ·exact nz hz
  ·rw[e3] at e;cases e
  ·rw[e4] at e;cases e
  ·simp only[za6,or_false] at hz;rcases hz with rfl |rfl
   ·rw[(hf x hx).1] at e;cases e
   ·rw[(hf x hx).2] at e;cases e
 refine oY fun U hU=>?_;ac_nf;refine⟨_,rfl,by lia,by lia,hU _ _ ?_⟩;clear hU;rw[za0];obtain⟨Pv,mf,dQ⟩:=wX fun (i:Nat) (σ:St) (H7:Hp) zq=>∀(z6 z7 z8 z9 BS MT MU MV MW:Option V) (dh:List xF),σ=[some (V.ref D),some (V.int many),some (V.ref B),some (V.ref P'),some (V.ref R),some (V.int mode),z6,z7,z8,z9,BS,MT,MU,MV,MW]->dh.map (·.1)=(PG.turns sc bs.1 mode i w0).aY->mz K H7 D S sc (PG.turns sc bs.1 mode i w0).p B bs.1 P' R dh (PG.turns sc bs.1 mode i w0).rows []->Kept D H H7->dE (PG.turns sc bs.1 mode i w0)->o9 i (PG.turns sc bs.1 mode i w0)->(PG.turns sc bs.1 mode i w0).p<=200+20*i->(∀x∈dh,H x.2.1=none/\H x.2.2=none)->zq;refine kh (lo:=0) (n:=many) Pv ?_ ?_ ?_
 ·refine(mf _ _ _ fun _ zk=>zk none none none none none none none none none [({kind:=0,body:=[]},a0,b0)] rfl ?_ ?_ k6 ok0 len0 ?_ (fun x hx=>by rw[zar.mp hx];exact⟨e2,e1⟩))
  ·show _=w0.aY;rw[<- Vn];rfl
  ·show mz K H6 D S sc w0.p B bs.1 P' R _ w0.rows [];rw[<- Vn];exact st6
  ·show w0.p<=_;rw[<- Vn];simp only;lia
 ·intro i σ H7 hi hv;refine dQ _ _ _ hv _ fun z6 z7 z8 z9 BS MT MU MV MW dh kT ef st kp ok ln pb De=>?_;subst kT;clear hv;rw[zcI];have done:=fun σ H7=>mf (i+1) σ H7;rw[xu] at done;have Vo:=tJ sc bs.1 mode ok;have Vp:=Ci sc bs.1 mode ln;have pb':=(Q9 sc bs.1 mode (PG.turns sc bs.1 mode i w0)).2;generalize PG.turns sc bs.1 mode i w0=wk at *;obtain⟨pp,aY,rows⟩:=wk;simp only at ef st pb pb';have rl:rows.length<=i:=ln.2;cases aY with
  |nil=>exact ok.aY.elim
  |cons f r=>
  cases dh with
  |nil=>cases ef
  |cons x0 fr=>
  obtain⟨f',a,b⟩:=x0;simp only[zam,zdi.injEq] at ef;obtain⟨rfl,ef⟩:=ef;have Zq:fr.length=r.length:=by rw[<- ef,zad]
  generalize yq:PG.turn sc bs.1 mode _=wk2 at done Vo Vp pb';rw[AQ] at yq;simp only[eO,zaT];refine av fun U6 yK=>?_;ac_nf;obtain⟨yJ,hR7,fR,lR⟩:=st.rows;refine⟨B,R,bs.1,rows,mode,rfl,st.box.rep,Rep.bL.mpr ⟨R,yJ,rfl,.of hR7,fR.HK⟩,bl,by lia,fun H8 s8=>(yK _ _).mpr (av fun U7 GQ=>?_)⟩;clear yK;have Zr:=st.same s8;have kp8:=kp.same s8;generalize PG.number bs.1.length rows mode=k at *;ac_nf;refine⟨D,S,sc,pp,rfl,Zr.bF,by lia,fun H9 u9 Vi=>?_⟩;ac_nf;refine(GQ _ _).mpr ?_;clear GQ;have zd:=Zr.draw u9 Vi;have Vq:=kp8.up u9 (by rw[Vi.bF];simp);obtain⟨w0',w1'⟩:=jM sc pp;generalize aeK:PG.next sc pp%12=way at *;have aeL:0<=way/\way<12:=by lia
  clear st Zr s8 u9;have Bp:∀(vC:Hp) (w:Wd) (dh:List xF) (pq:Nat) (M:Hp->Prop),mz K vC D S sc pq B bs.1 P' R dh rows []->Kept D H vC->(∀LX,mz K LX D S sc pq B bs.1 P' R dh (rows++[(k,w)]) []->Kept D H LX->M LX)->
   Wt K "list" (V.ref R) vC/\∀q,vC q=none->AK (V.ref R) [V.ref q] (upd vC q (.lst [.int k,.str (fZ w)])) fun _ H1=>M H1:=by
   intro vC w dh pq M sP GR hM;obtain⟨rv,hr,_,lr⟩:=sP.rows;refine⟨.inl ⟨rfl,_,.of hr⟩,fun q hq=>?_⟩;have RM:=sP.same (aq.new hq (.lst [.int k,.str (fZ w)]));have R3:=GR.same (aq.new hq (.lst [.int k,.str (fZ w)]));have Vr:=aq.new hq (.lst [.int k,.str (fZ w)]) _ _ hr;refine⟨R,rv,_,rfl,rfl,Vr,by lia,hM _ (RM.row Vr (k:=k) (w:=w) (q:=q) ae fun z=>z.elim (sP.fresh hq) (by simp)) (R3.put e4 _)⟩
  have lp:((f',a,b)::fr:List xF).reverse.map (fun x=>V.ref x.2.1)=(fr.reverse.map fun x=>V.ref x.2.1)++[.ref a]:=by rw[zbm,zaw];rfl
  have R4:∀(fs:List xF) z,O D P' R fs [] z->z∈i4 D P' R fs:=fun fs z hz=>hz.elim id (by simp);refine AU fun V1 BQ=>?_;have c1:¬(way<2/\(f'::r).length>1)->V1 [some (V.ref D),some (V.int many),some (V.ref B),some (V.ref P'),some (V.ref R),some (V.int mode),some (V.int i),some (V.int k),some (V.int way),z9,BS,MT,MU,MV,MW] H9:=by
   intro h1;rw[zzn h1] at yq;refine BQ _ _ (AU fun V2 BR=>?_);have c2:¬(way=2/\f'.kind=1)->V2 [some (V.ref D),some (V.int many),some (V.ref B),some (V.ref P'),some (V.ref R),some (V.int mode),some (V.int i),some (V.int k),some (V.int way),z9,BS,MT,MU,MV,MW] H9:=by
    intro h2;rw[zzn h2] at yq;refine BR _ _ (AU fun V3 RT=>?_);have c3:¬(way<6/\(f'::r).length<4)->V3 [some (V.ref D),some (V.int many),some (V.ref B),some (V.ref P'),some (V.ref R),some (V.int mode),some (V.int i),some (V.int k),some (V.int way),z9,BS,MT,MU,MV,MW] H9:=by
     intro h3;rw[zzn h3] at yq;subst yq;refine RT _ _ ?_;ac_nf;have Vs:=zd.aY;rw[lp] at Vs;obtain⟨hd,fi,xs,fa⟩:=zd.frames _ (zaq ..);refine⟨1,rfl,bz (v:=.ref a) (.of Vs) ju (bz (v:=.ref b) (.of fa.fr) (au (j:=1) rfl) ⟨.inl ⟨rfl,_,.of fa.bd⟩,?_⟩)⟩;refine⟨D,S,B,sc,pp+1,k,bs.1,rfl,zd.bF,by lia,zd.ay,fun v vC u10 Ff RY=>?_⟩;have oh:=zd.draw u10 Ff;have GR:=Vq.up u10 (by rw[Ff.bF];simp);obtain⟨hd2,fi2,R5,Zs⟩:=oh.frames _ (zaq ..);have fv:Fix K (O D P' R ((f',a,b)::fr) []) vC (eI (bR sc bs.1 k (pp+1)).1) v:=RY _ fun z hz=>zd.qF z (R4 _ z hz);have l2:R5.length<=1000:=by have:=Zs.len;have:=ln.1 f' (by simp);simp only at *;lia
     refine⟨b,R5,v,rfl,rfl,Zs.bd,by lia,?_⟩;have ze:=oh.stm Zs.bd fv;have R3:=GR.put (De (f',a,b) (by simp)).2 (.lst (R5++[v]));have Zt:Rep K (upd vC b (.lst (R5++[v]))) (eI (bR sc bs.1 k (pp+1)).1) v:=(fv.up (ba.refl.put (.inl (by simp[i4])) _)).rep;have Zu:(upd vC b (.lst (R5++[v]))) b=some (.lst (R5++[v])):=ae;have Vt:=ze.aY;obtain⟨MJ,fi3,xs3,WY⟩:=ze.frames _ (zaq ..);have Zv:=WY.fr;generalize upd vC b (.lst (R5++[v]))=LX at *;have pe:((({f' with body:=f'.body++[(bR sc bs.1 k (pp+1)).1]}:PG.Frame),a,b)::fr:List xF).reverse.map (fun x=>V.ref x.2.1)=(fr.reverse.map fun x=>V.ref x.2.1)++[.ref a]:=by rw[zbm,zaw];rfl
     rw[pe] at Vt;obtain⟨ta,ys,rfl,Ob⟩:=KL _ Zt;have ar:=Bp LX (bR sc bs.1 k (pp+1)).1.wd _ _ (fun Ox=>Pv (i+1) [some (V.ref D),some (V.int many),some (V.ref B),some (V.ref P'),some (V.ref R),some (V.int mode),some (V.int i),some (V.int k),some (V.int way),z9,BS,MT,MU,MV,MW] Ox) ze R3 fun Ox Df Vu=>done _ _ (fun _ zk=>zk _ _ _ _ _ _ _ _ _ _ rfl (by simp only[zam,ef]) Df Vu Vo Vp (by lia) (fun x hx=>by
      rcases zag.mp hx with rfl |hx
      ·exact De (f',a,b) (by simp)
      ·exact De x (by simp[hx])))
     exact⟨ar.1,1,rfl,bz (v:=.ref a) (.of Vt) ju (bz (v:=.ref b) (.of Zv) (au (j:=1) rfl) ⟨1,rfl,bz (v:=.ref ta) (.of Zu) ju (aG Ob (au (j:=0) rfl) ar.2)⟩)⟩
    ac_nf;refine b7 (fun w6=>⟨P',_,rfl,.inl (.of zd.aY),b7 (fun l4=>?_) (fun l4=>c3 fun z=>l4 ?_)⟩) (fun w6=>(zzn zai).mpr (c3 fun z=>w6 z.1))
    ·rw[lp,zae,zad,zbh,Zq] at l4;have cond:way<6/\(f'::r).length<4:=⟨w6,by simp only[zah,zaB] at l4 ⊢;lia⟩
     rw[zzp cond] at yq;subst yq;intro p1 E9;have sP:=aq.new E9 (.lst [V.str (zab "if"),V.str (zab "if"),V.str (zab "while")]);have oh:=zd.same sP;have GR:=Vq.same sP;have wk:∀z:Int,0<=z->z<3->tw [V.str (zab "if"),V.str (zab "if"),V.str (zab "while")] z=some (V.str (tQ (PG.pick 1 [1,1,3] z)))/\(PG.pick 1 [1,1,3] z=1\/PG.pick 1 [1,1,3] z=3):=fun z h0 h3=>by
      have z3:z=0\/z=1\/z=2:=by lia
      rcases z3 with rfl |rfl |rfl
      ·exact⟨au (j:=0) rfl,.inl rfl⟩
      ·exact⟨au (j:=1) rfl,.inl rfl⟩
      ·exact⟨au (j:=2) rfl,.inr rfl⟩
     obtain⟨wk1,wk2⟩:=wk (way%3) (by lia) (by lia);refine Cc wk1 ?_;generalize upd H9 p1 (.lst [V.str (zab "if"),V.str (zab "if"),V.str (zab "while")])=vC at *;generalize PG.pick 1 [1,1,3] (way%3)=kd at *;have wd:(if kd=3 then ("while":Str) else "if")=tQ kd/\fZ (if kd=3 then Wd.fh else Wd.ifs)=tQ kd:=by
      rcases wk2 with rfl |rfl<;>exact⟨rfl,rfl⟩
     refine⟨D,S,sc,pp+1,rfl,oh.bF,by lia,fun LX u11 Vv=>?_⟩;have ze:=oh.draw u11 Vv;have R3:=GR.up u11 (by rw[Vv.bF];simp);obtain⟨m0,m1⟩:=jM sc (pp+1);ac_nf;have sg:∀z:Int,0<=z->z<2->∃c,tw (zab "<=").cps.toList z=some c/\V.str ⟨#[c]⟩=V.str (L2.S (PG.pick [] BO z)):=fun z h0 h3=>by
      have z3:z=0\/z=1:=by lia
      rcases z3 with rfl |rfl
      ·exact⟨60,au (j:=0) (by decide +kernel),rfl⟩
      ·exact⟨61,au (j:=1) (by decide +kernel),rfl⟩
     obtain⟨c,hc,ec⟩:=sg (PG.next sc (pp+1)%2) (by lia) (by lia);refine⟨_,_,c,rfl,rfl,by decide,hc,?_⟩;rw[ec];obtain⟨g1,g2⟩:=jL sc bs.1 1 (pp+2);refine⟨D,S,B,sc,pp+2,1,bs.1,rfl,by lia,ze.bF,by lia,ze.ay,fun v3 Ox S6 Vw Zw=>?_⟩;have Df:=ze.draw S6 Vw;have Vu:=R3.up S6 (by rw[Vw.bF];simp);have f3:Fix K (O D P' R ((f',a,b)::fr) []) Ox (oJ (cC sc bs.1 1 (pp+2)).1) v3:=Zw _ fun z hz=>ze.qF z (R4 _ z hz);obtain⟨g3,g4⟩:=jL sc bs.1 1 (cC sc bs.1 1 (pp+2)).2;refine⟨D,S,B,sc,_,1,bs.1,rfl,by lia,Df.bF,by lia,Df.ay,fun v4 WT DF Vx Zx t0 ht0=>?_⟩;have Zy:=Df.draw DF Vx;have k13:=Vu.up DF (by rw[Vx.bF];simp);have f4:Fix K (O D P' R ((f',a,b)::fr) []) WT (oJ (cC sc bs.1 1 (cC sc bs.1 1 (pp+2)).2).1) v4:=Zx _ fun z hz=>Df.qF z (R4 _ z hz);have f3:=f3.up (ba.one DF (.inl (by simp[i4])));generalize cC sc bs.1 1 (cC sc bs.1 1 (pp+2)).2=ge2 at *;generalize cC sc bs.1 1 (pp+2)=ge1 at *;generalize PG.pick [] BO (PG.next sc (pp+1)%2)=sgn at *;have RO:=aq.new ht0 (.tup [V.str (L2.S sgn),v3,v4]);have PN:(upd WT t0 (.tup [V.str (L2.S sgn),v3,v4])) t0=some (.tup [V.str (L2.S sgn),v3,v4]):=ae;have OH:=Zy.same RO;have YD:=k13.same RO;have f3:=f3.up (.of RO);have f4:=f4.up (.of RO);generalize upd WT t0 (.tup [V.str (L2.S sgn),v3,v4])=Y2 at *;refine⟨.inl ⟨rfl,_,.of OH.aY⟩,fun b2 sM=>?_⟩;have Oy:=aq.new sM (.lst []);have Mi:=OH.more sM (.lst []);have f3:=f3.apart (o:=.lst []) sM;have f4:=f4.apart (o:=.lst []) sM;have Vj:b2 ∉ i4 D P' R ((f',a,b)::fr):=OH.fresh sM;have R6:S≠b2:=ai OH.bF.fX sM;have GS:(upd Y2 b2 (.lst [])) b2=some (.lst []):=ae;have WZ:=YD.same Oy;have R7:H b2=none:=by
      cases z:H b2 with
      |none=>rfl
      |some o=>exact zzb sM (YD.2 b2 (by rw[z];simp))
     have PN:=Oy _ _ PN;generalize upd Y2 b2 (.lst [])=PQ at *;intro t1 OI;have Oz:=aq.new OI (.tup [V.str (tQ kd),V.int k]);have y16:(upd PQ t1 (.tup [V.str (tQ kd),V.int k])) t1=some (.tup [V.str (tQ kd),V.int k]):=ae;have Vy:=Mi.same Oz;have k16:=WZ.same Oz;have f3:=f3.up (.of Oz);have f4:=f4.up (.of Oz);have GS:=Oz _ _ GS;have PN:=Oz _ _ PN;generalize upd PQ t1 (.tup [V.str (tQ kd),V.int k])=UZ at *;refine Bm y16 PN (by simp) (by simp) fun t2 W0=>?_;have Vz:=aq.new W0 (.tup ([V.str (tQ kd),V.int k]++[V.str (L2.S sgn),v3,v4]));have W2:(upd UZ t2 (.tup ([V.str (tQ kd),V.int k]++[V.str (L2.S sgn),v3,v4]))) t2=some (.tup ([V.str (tQ kd),V.int k]++[V.str (L2.S sgn),v3,v4])):=ae;have R8:=Vy.same Vz;have k17:=k16.same Vz;have f3:=f3.up (.of Vz);have f4:=f4.up (.of Vz);have nt2:t2 ∉ i4 D P' R ((f',a,b)::fr):=Vy.fresh W0;have Zz:t2≠b2:=fun z=>by rw[z,GS] at W0;cases W0
     have GS:=Vz _ _ GS;generalize upd UZ t2 (.tup ([V.str (tQ kd),V.int k]++[V.str (L2.S sgn),v3,v4]))=H17 at *;intro a2 zf;have R9:=aq.new zf (.lst [V.str (tQ kd),V.ref b2,V.ref t2,V.cB]);have Mj:=R8.more zf (.lst [V.str (tQ kd),V.ref b2,V.ref t2,V.cB]);have f3:=f3.apart (o:=.lst [V.str (tQ kd),V.ref b2,V.ref t2,V.cB]) zf;have f4:=f4.apart (o:=.lst [V.str (tQ kd),V.ref b2,V.ref t2,V.cB]) zf;have ZA:a2 ∉ i4 D P' R ((f',a,b)::fr):=R8.fresh zf;have Sa:S≠a2:=ai R8.bF.fX zf;have Sb:a2≠b2:=fun z=>by rw[z,GS] at zf;cases zf
     have ZC:t2≠a2:=ai W2 zf;have ZD:(upd H17 a2 (.lst [V.str (tQ kd),V.ref b2,V.ref t2,V.cB])) a2=some (.lst [V.str (tQ kd),V.ref b2,V.ref t2,V.cB]):=ae;have ZE:=k17.same R9;have Sd:H a2=none:=by
      cases z:H a2 with
      |none=>rfl
      |some o=>exact zzb zf (k17.2 a2 (by rw[z];simp))
     have GS:=R9 _ _ GS;have W2:=R9 _ _ W2;generalize upd H17 a2 (.lst [V.str (tQ kd),V.ref b2,V.ref t2,V.cB])=ZF at *;have j:∀z,O D P' R ((f',a,b)::fr) [a2,b2] z->((O D P' R ((f',a,b)::fr) [] z\/z=b2)\/z=a2):=fun z hz=>by
      rcases hz with h |h
      ·exact .inl (.inl (.inl h))
      ·simp only[zag,za6,or_false] at h;rcases h with h |h
       ·exact .inr h
       ·exact .inl (.inr h)
     have nf:fq K (O D P' R ((f',a,b)::fr) [a2,b2]) ZF ({kind:=kd,body:=[],k:=k,sg:=sgn,l:=ge1.1,r:=ge2.1}:PG.Frame) a2 b2 (.ref t2) .cB []:=by
      refine⟨ZD,GS,.nil,fun _=>⟨t2,_,rfl,W2,fun z=>?_,?_⟩,fun z=>?_,rfl⟩
      ·rcases z with z |z
       ·exact nt2 z
       ·simp only[zag,za6,or_false] at z;exact z.elim ZC Zz
      ·show eJ K _ _ [.str (if kd=3 then "while" else "if"),.int k,.str (L2.S sgn),oJ ge1.1,oJ ge2.1] _;rw[wd.1];exact .cons .str (.cons .int (.cons .str (.cons (f3.sub j) (.cons (f4.sub j) .nil))))
      ·have z:kd=2:=z;lia
     have Se:=(Mj.push nf ZA Vj Sb Sa R6 (by simp) (by simp)).less (E':=[]) (fun z hz=>zzb hz (by simp));have ZG:=ZE.put e3 (.lst (((f',a,b)::fr:List xF).reverse.map (fun x=>V.ref x.2.1)++[.ref a2]));refine⟨P',_,_,rfl,rfl,Mj.aY,by rw[zad,zbh];have:=ok.most;simp only[zah] at this ⊢;lia,?_⟩;have ar:=Bp _ (if kd=3 then Wd.fh else Wd.ifs) _ _ (fun VA=>Pv (i+1) [some (V.ref D),some (V.int many),some (V.ref B),some (V.ref P'),some (V.ref R),some (V.int mode),some (V.int i),some (V.int k),some (V.int way),z9,BS,MT,MU,some (V.str (tQ kd)),some (V.ref t0)] VA) Se ZG fun VA Sf ZH=>done _ _ (fun _ zk=>zk _ _ _ _ _ _ _ _ _ _ rfl (by simp only[zam,ef]) Sf ZH Vo Vp (by lia) (fun x hx=>by
      rcases zag.mp hx with rfl |hx
      ·exact⟨Sd,R7⟩
      ·exact De x hx))
     rw[wd.2] at ar;exact ar
    ·rw[lp,zae,zad,zbh,Zq];have:=z.2;simp only[zah,zaB] at this ⊢;lia
   ac_nf;have Vs:=zd.aY;rw[lp] at Vs;obtain⟨MX,fi0,UI,Zb⟩:=zd.frames _ (zaq ..);have kk:(V.str (tQ f'.kind)=V.str (zab "if"))↔f'.kind=1:=by
    have:f'.kind=0\/f'.kind=1\/f'.kind=2\/f'.kind=3:=by
     have z:=ok.aY;cases r with
     |nil=>exact .inl z
     |cons g r2=>exact .inr z.1
    rcases this with h |h |h |h<;>rw[h]<;>decide +kernel
   refine b7 (fun w2=>⟨1,rfl,bz (v:=.ref a) (.of Vs) ju (bz (v:=.str (tQ f'.kind)) (.of Zb.fr) (au (j:=0) rfl) ⟨rfl,b7 (fun kf=>?_) (fun kf=>c2 fun z=>kf (kk.mpr z.2))⟩)⟩) (fun w2=>(zzn zai).mpr (c2 fun z=>w2 z.1));have kd1:=kk.mp kf;rw[zzp ⟨w2,kd1⟩] at yq;subst yq;obtain⟨oh,⟨hd,fi,xs,fa⟩,na,nb,Rc⟩:=zd.pop;have GR:=Vq.put e3 (.lst (fr.reverse.map fun x=>V.ref x.2.1));refine⟨.inl ⟨rfl,_,.of zd.aY⟩,P',_,.ref a,rfl,rfl,zd.aY,by rw[lp];simp,?_⟩;rw[lp,zcp];generalize upd H9 P' (.lst (fr.reverse.map fun x=>V.ref x.2.1))=vC at *;obtain⟨cc,ys,rfl,yH,PD,S7⟩:=fa.HL (by lia);have Fg:∀z,O D P' R fr [] z->O D P' R fr [a,b] z:=fun z hz=>hz.elim .inl fun w=>zzb w (by simp);have oh:=oh.less (E':=[]) (fun z hz=>zzb hz (by simp));have S7:=S7.sub Fg;have PD:¬O D P' R fr [] cc:=fun z=>PD (Fg cc z);have Vk:Fix K (O D P' R fr []) vC (.lst (f'.body.map eI)) (.ref b):=Fix.lst fa.bd (fun z=>z.elim nb (by simp)) (fa.ok.sub Fg);refine⟨a,_,rfl,.of fa.fr,rfl,_,_,rfl,_,_,rfl,_,_,rfl,_,_,rfl,rfl,.inl ⟨rfl,_,.of oh.aY⟩,fun b2 sM=>?_⟩;have Oy:=aq.new sM (.lst []);have Mi:=oh.more sM (.lst []);have f3:=S7.apart (o:=.lst []) sM;have f4:=Vk.apart (o:=.lst []) sM;have Vj:b2 ∉ i4 D P' R fr:=oh.fresh sM;have R6:S≠b2:=ai oh.bF.fX sM;have GS:(upd vC b2 (.lst [])) b2=some (.lst []):=ae;have WZ:=GR.same Oy;have R7:H b2=none:=by
    cases z:H b2 with
    |none=>rfl
    |some o=>exact zzb sM (GR.2 b2 (by rw[z];simp))
   have ncb:cc≠b2:=ai yH sM;have yH:=Oy _ _ yH;generalize upd vC b2 (.lst [])=PQ at *;intro a2 zf;have R9:=aq.new zf (.lst [V.str (zab "else"),V.ref b2,V.ref cc,V.ref b]);have Mj:=Mi.more zf (.lst [V.str (zab "else"),V.ref b2,V.ref cc,V.ref b]);have f3:=f3.apart (o:=.lst [V.str (zab "else"),V.ref b2,V.ref cc,V.ref b]) zf;have f4:=f4.apart (o:=.lst [V.str (zab "else"),V.ref b2,V.ref cc,V.ref b]) zf;have ZA:a2 ∉ i4 D P' R fr:=Mi.fresh zf;have Sa:S≠a2:=ai Mi.bF.fX zf;have Sb:a2≠b2:=fun z=>by rw[z,GS] at zf;cases zf
   have nca:cc≠a2:=ai yH zf;have ZD:(upd PQ a2 (.lst [V.str (zab "else"),V.ref b2,V.ref cc,V.ref b])) a2=some (.lst [V.str (zab "else"),V.ref b2,V.ref cc,V.ref b]):=ae;have ZE:=WZ.same R9;have Sd:H a2=none:=by
    cases z:H a2 with
    |none=>rfl
    |some o=>exact zzb zf (WZ.2 a2 (by rw[z];simp))
   have GS:=R9 _ _ GS;have yH:=R9 _ _ yH;generalize upd PQ a2 (.lst [V.str (zab "else"),V.ref b2,V.ref cc,V.ref b])=ZF at *;have j:∀z,O D P' R fr [a2,b2] z->((O D P' R fr [] z\/z=b2)\/z=a2):=fun z hz=>by
    rcases hz with h |h
    ·exact .inl (.inl (.inl h))
    ·simp only[zag,za6,or_false] at h;rcases h with h |h
     ·exact .inr h
     ·exact .inl (.inr h)
   have nf:fq K (O D P' R fr [a2,b2]) ZF ({f' with kind:=2,body:=[],first:=f'.body}:PG.Frame) a2 b2 (.ref cc) (.ref b) []:=by
    refine⟨ZD,GS,.nil,fun _=>⟨cc,ys,rfl,yH,fun z=>?_,?_⟩,fun _=>f4.sub j,rfl⟩
    ·rcases j cc z with (z |z) |z
     ·exact PD z
     ·exact ncb z
     ·exact nca z
    ·have f5:=f3.sub j;rw[zzn (by lia)] at f5;exact f5
   have Se:=(Mj.push nf ZA Vj Sb Sa R6 (by simp) (by simp)).less (E':=[]) (fun z hz=>zzb hz (by simp));have ZG:=ZE.put e3 (.lst ((fr.reverse.map fun x=>V.ref x.2.1)++[.ref a2]));refine⟨P',_,_,rfl,rfl,Mj.aY,by rw[zad,zbh];have:=ok.most;simp only[zah] at this ⊢;lia,?_⟩;exact Bp _ .oN _ _ (fun VA=>Pv (i+1) [some (V.ref D),some (V.int many),some (V.ref B),some (V.ref P'),some (V.ref R),some (V.int mode),some (V.int i),some (V.int k),some (V.int way),some (V.str (tQ f'.kind)),some (V.ref b),some (V.ref cc),some fi,MV,MW] VA) Se ZG fun VA Sf ZH=>done _ _ (fun _ zk=>zk _ _ _ _ _ _ _ _ _ _ rfl (by simp only[zam,ef]) Sf ZH Vo Vp (by lia) (fun x hx=>by
    rcases zag.mp hx with rfl |hx
    ·exact⟨Sd,R7⟩
    ·exact De x (by simp[hx])))
  ac_nf;refine b7 (fun w2=>⟨P',_,rfl,.inl (.of zd.aY),b7 (fun l2=>?_) (fun l2=>c1 fun z=>l2 ?_)⟩) (fun w2=>(zzn zai).mpr (c1 fun z=>w2 z.1))
  ·rw[lp,zae,zad,zbh] at l2;cases fr with
   |nil=>simp at l2
   |cons x1 PZ=>
    obtain⟨g,a',b'⟩:=x1;cases r with
    |nil=>cases ef
    |cons g' r2=>
    simp only[zam,zdi.injEq] at ef;obtain⟨rfl,ef⟩:=ef;have cond:way<2/\(f'::g::r2).length>1:=⟨w2,by simp⟩
    rw[zzp cond] at yq;subst yq;have m4:=ok.most;simp only[zah] at m4 Zq;refine⟨D,S,sc,pp+1,B,bs.1,P',R,f',g,a,b,a',b',PZ,rows,rfl,zd,ok.aY.1,by have:=ln.1 g (by simp);lia,by lia,fun vC S4 Md oh=>?_⟩;have GR:Kept D H vC:=⟨fun z o nz e=>Md z o (Mh _ De z o nz e) (Vq.1 z o nz e),fun z hz=>S4 z (Vq.2 z hz)⟩
    refine Bp vC .fin _ _ _ oh GR fun LX ze R3=>done _ _ (fun _ zk=>zk _ _ _ _ _ _ _ _ _ _ rfl ?_ ze R3 Vo Vp (by lia) (fun x hx=>?_))
    ·simp only[zam,ef];rfl
    ·rcases zag.mp hx with rfl |hx
     ·exact De (g,a',b') (by simp)
     ·exact De x (by simp[hx])
  ·rw[lp,zae,zad,zbh];have:=z.2;simp only[zah,zaB] at this ⊢;lia
 ·intro σ H7 hv;refine dQ _ _ _ hv _ fun z6 z7 z8 z9 BS MT MU MV MW dh kU ef st kp ok ln pb De=>?_;subst kU;clear hv;generalize PG.turns sc bs.1 mode many w0=wk at *;show U5 _ H7;refine(uv _ _).mpr (av fun U6 yK=>?_);ac_nf;obtain⟨Wv,hWv,ZI⟩:=wX fun (m:Nat) (σ:St) (H8:Hp) zq=>∀(dh:List xF) (wZ:PG.Walk),σ=[some (V.ref D),some (V.int many),some (V.ref B),some (V.ref P'),some (V.ref R),some (V.int mode),z6,z7,z8,z9,BS,MT,MU,MV,MW]->dh.map (·.1)=wZ.aY->mz K H8 D S sc wZ.p B bs.1 P' R dh wZ.rows []->Kept D H H8->dE wZ->o9 (many+4-m) wZ->PG.ends bs.1.length mode 4 wk=PG.ends bs.1.length mode m wZ->wZ.aY.length<=m+1->m<=4->wZ.p<=90000->(∀x∈dh,H x.2.1=none/\H x.2.2=none)->zq;refine⟨Wv,⟨4,hWv _ _ _ fun _ zk=>zk dh wk rfl ef st kp ok (by rw[show many+4-4=many by lia];exact ln) rfl (by have:=ok.most;lia) (zaf _) (by lia) De⟩,?_⟩;clear ef st kp ok ln pb De dh;intro m σ H8 hv;refine ZI _ _ _ hv _ fun dh wZ ze3 ef st kp ok ln ee pl m4 pbw De=>?_;subst ze3;clear hv;ac_nf;refine⟨P',_,rfl,.inl (.of st.aY),?_⟩;rw[zad,zbh];have lf:dh.length=wZ.aY.length:=by rw[<- ef,zad]
  refine b7 (fun l1=>?_) (fun l1=>?_)
  ·obtain⟨n,rfl⟩:∃n,m=n+1:=⟨m-1,by lia⟩
   refine⟨fun σ H9=>∃(dh:List xF),σ=[some (V.ref D),some (V.int many),some (V.ref B),some (V.ref P'),some (V.ref R),some (V.int mode),z6,z7,z8,z9,BS,MT,MU,MV,MW]/\dh.map (·.1)=PG.close wZ.aY/\mz K H9 D S sc wZ.p B bs.1 P' R dh (wZ.rows++[(PG.number bs.1.length wZ.rows mode,.fin)]) []/\Kept D H H9/\∀x∈dh,H x.2.1=none/\H x.2.2=none,?_,?_⟩
   ·rintro σ H9 ⟨ZJ,rfl,ef9,zd,k9,fr9⟩
    obtain⟨_,cl⟩:=o4 ok.aY;refine⟨n,by lia,hWv _ _ _ fun _ zk=>zk ZJ ⟨wZ.p,PG.close wZ.aY,wZ.rows++[(PG.number bs.1.length wZ.rows mode,.fin)]⟩ rfl ef9 zd k9 (xv ok _) ?_ ?_ ?_ (by lia) pbw fr9⟩
    ·have:=zO ln (PG.number bs.1.length wZ.rows mode);rw[show many+4-n=many+4-(n+1)+1 by lia];exact this
    ·rw[ee]
     conv=>lhs;unfold PG.ends
     rw[zzp (by lia)]
    ·show (PG.close wZ.aY).length<=n+1;lia
   ·obtain⟨pp,aY,rows⟩:=wZ;simp only at *;have rl:rows.length<=200:=by have:=ln.2;simp only at this;lia
    have sh:∃f' a b g a' b' PZ,dh=((f',a,b)::(g,a',b')::PZ:List xF):=by
     clear ef st De lf;rcases dh with _ |⟨⟨f',a,b⟩,_ |⟨⟨g,a',b'⟩,PZ⟩⟩
     ·simp at l1
     ·simp at l1
     ·exact⟨_,_,_,_,_,_,_,rfl⟩
    obtain⟨f',a,b,g,a',b',PZ,rfl⟩:=sh;simp only[zam] at ef;subst ef;have m4':=ok.most;simp only[zah,zad] at m4';refine⟨D,S,sc,pp,B,bs.1,P',R,f',g,a,b,a',b',PZ,rows,rfl,st,ok.aY.1,by have:=ln.1 g (by simp);lia,by lia,fun vC S4 Md oh=>?_⟩;have GR:Kept D H vC:=⟨fun z o nz e=>Md z o (Mh _ De z o nz e) (kp.1 z o nz e),fun z hz=>S4 z (kp.2 z hz)⟩
    obtain⟨rv,VB,fR,lr⟩:=oh.rows;refine⟨.inl ⟨rfl,_,.of VB⟩,B,R,bs.1,rows,mode,rfl,oh.box.rep,Rep.bL.mpr ⟨R,rv,rfl,.of VB,fR.HK⟩,bl,by lia,fun LX RM q2 hq2=>?_⟩;have S3:=RM.trans (aq.new hq2 (.lst [.int (PG.number bs.1.length rows mode),.str (fZ .fin)]));have Df:=oh.same S3;have Vu:=GR.same S3;have VC:=S3 _ _ VB;refine⟨R,rv,_,rfl,rfl,VC,by lia,?_⟩;have nq2:¬O D P' R (({g with body:=g.body++[f'.told]},a',b')::PZ) [] q2:=fun z=>z.elim ((oh.same RM).fresh hq2) (by simp);refine⟨_,trivial,?_,Df.row VC (k:=PG.number bs.1.length rows mode) (w:=.fin) (q:=q2) ae nq2,Vu.put e4 _,fun x hx=>?_⟩
    ·simp only[zam];rfl
    ·rcases zag.mp hx with rfl |hx
     ·exact De (g,a',b') (by simp)
     ·exact De x (by simp[hx])
  ·have en:PG.ends bs.1.length mode m wZ=wZ:=by
    cases m with
    |zero=>rfl
    |succ m=>unfold PG.ends;rw[zzn (by lia)]
   rw[en] at ee;rw[ee] at q;refine(yK _ _).mpr ?_;ac_nf;obtain⟨pp,aY,rows⟩:=wZ;simp only at *;have sh:dh=[]\/∃f' a b,dh=([(f',a,b)]:List xF):=by
    clear ef st De lf;rcases dh with _ |⟨⟨f',a,b⟩,_ |⟨x,PZ⟩⟩
    ·exact .inl rfl
    ·exact .inr ⟨_,_,_,rfl⟩
    ·exact zzb (by simp only[zah];lia) l1
   rcases sh with rfl |⟨f',a,b,rfl⟩
   ·cases ef;exact ok.aY.elim
   cases ef;obtain⟨hd,fi,xs,fa⟩:=st.frames _ (zaq ..);obtain⟨rv,VB,fR,lr⟩:=st.rows;refine bz (v:=.ref a) (.of st.aY) (au (j:=0) rfl) (bz (v:=.ref b) (.of fa.fr) (au (j:=1) rfl) fun t1 OI=>?_);have s9:=aq.new OI (.tup [V.ref B,V.ref b]);have y9:(upd H8 t1 (.tup [V.ref B,V.ref b])) t1=some (.tup [V.ref B,V.ref b]):=ae;have zd:=st.same s9;have k9:=kp.same s9;intro l2 Ej;have sP:=aq.new Ej (.lst [V.ref t1,V.ref R]);have GR:=k9.same sP;have nD:∀z,z∈i4 D P' R [(f',a,b)]->z≠D->¬(fun z=>z=D) z:=fun z _ n=>n;have ZK:=st.nd;simp only[i4,zaG,zbk,zav,zaE,zag,za6,or_false,not_or] at ZK;have bnD:b≠D:=fun z=>ZK.1.2.2.2 z.symm;have RnD:R≠D:=fun z=>ZK.1.2.1 z.symm;have dD:=zd.bF.bF;have t1D:t1≠D:=fun z=>by rw[z] at OI;rw[st.bF.bF] at OI;cases OI
   have l2D:l2≠D:=fun z=>by rw[z] at Ej;rw[dD] at Ej;cases Ej
   have Sg:∀z,z=D->O D P' R [(f',a,b)] [] z:=fun z e=>.inl (by rw[e];simp[i4]);have fB:=(zd.box.sub Sg).up (ba.of sP:ba (fun z=>z=D) _ _);have fBd:=((fa.ok.sub Sg).up (ba.of s9:ba (fun z=>z=D) _ _)).up (ba.of sP:ba (fun z=>z=D) _ _);have fRw:=((fR.sub Sg).up (ba.of s9:ba (fun z=>z=D) _ _)).up (ba.of sP:ba (fun z=>z=D) _ _);have BnD:B≠D:=fun z=>PR (by rw[<- z];exact hB);exact q l2 t1 B b R _ GR.1 ⟨_,pbw,zd.bF.same sP⟩ ae (sP _ _ y9) l2D t1D BnD bnD RnD fB (Fix.lst (sP _ _ (s9 _ _ fa.bd)) bnD fBd) (Fix.lst (sP _ _ (s9 _ _ VB)) RnD fRw)
theorem vE:∀s:bI,(V.str (fZ s.wd)=V.str (zab "while"))↔s.wd=.fh:=by
 intro s;cases s<;>simp only[bI.wd]<;>decide +kernel
theorem Bq:∀s:bI,(V.str (fZ s.wd)=V.str (zab "if"))↔s.wd=.ifs:=by
 intro s;cases s<;>simp only[bI.wd]<;>decide +kernel
theorem GU:∀s:bI,(V.str (fZ s.wd)=V.str (zab "stop"))↔s.wd=.stop:=by
 intro s;cases s<;>simp only[bI.wd]<;>decide +kernel
theorem GV{K:zaa}{H:Hp}{d0 d1 d2 d3 d4 d5:Dp}{xs:List V}{ds:List Dp}(h:aN K H (d0::d1::d2::d3::d4::d5::ds) xs):∃v0 v1 v2 v3 v4 v5 r,xs=v0::v1::v2::v3::v4::v5::r/\Rep K H d5 v5/\aN K H ds r:=by
 rw[aN.aI] at h;obtain⟨v0,t0,rfl,_,h⟩:=h;rw[aN.aI] at h;obtain⟨v1,t1,rfl,_,h⟩:=h;rw[aN.aI] at h;obtain⟨v2,t2,rfl,_,h⟩:=h;rw[aN.aI] at h;obtain⟨v3,t3,rfl,_,h⟩:=h;rw[aN.aI] at h;obtain⟨v4,t4,rfl,_,h⟩:=h;rw[aN.aI] at h;obtain⟨v5,t5,rfl,e5,h⟩:=h;exact⟨v0,v1,v2,v3,v4,v5,t5,rfl,e5,h⟩
theorem om(T:Tx K mg t):bJ P w K mg base dy 1 t.dW t.dX ["body", "behind"] (tR K):=by
 refine T.fj.F.lQ ue (fun vs H Q E h=>?_) (fun eT A outer s H vs Q E hr h=>?_)
 ·obtain⟨_,_,_,rfl,_⟩:=h;rfl
 obtain⟨b,body,x,rfl,rb,lb,q⟩:=h;have nd:=ue.nd;refine⟨_,[some (V.ref b),some (V.int x)],(ah (bh (B2 (pv 0) (fun _=>rfl))
 (ak (aO (aC aM (aC a9 (pv 0) aj ao) aj ao)))
 aV)
 (ak (aO (pv 1)))),rfl,?_⟩
 ac_nf;rw[Rep.bL] at rb;obtain⟨_,xs,e,hx,rs⟩:=rb;cases e;have line:zds=2 ^ 24:=rfl;cases body with
 |nil=>
  rw[za2,aN.br] at rs;subst rs;exact⟨false,.inl ⟨_,hx,rfl⟩,q⟩
 |cons st r=>
  rw[zam,aN.aI] at rs;obtain⟨v,t,rfl,rv,rs⟩:=rs;obtain⟨a,ys,rfl,hs⟩:=iq st rv;refine⟨true,.inl ⟨_,hx,rfl⟩,?_⟩;refine(zzp rfl).mpr (bz (v:=.ref a) hx (au (j:=0) rfl) ?_);exact aG hs (v:=.int st.row) (au (j:=1) rfl) q
theorem yr(T:Tx K mg t):bJ P w K mg base dy 1 t.fS t.gA ["statement", "after"] (Cy K):=by
 refine T.jr.F.lQ pR (fun vs H Q E h=>?_) (fun eT A outer s H vs Q E hr h=>?_)
 ·obtain⟨_,_,_,rfl,_⟩:=h;rfl
 obtain⟨v,st,x,rfl,rv,q⟩:=h;have nd:=pR.nd;refine⟨_,[some v,some (V.int x)],(ah (bh (aD bN (aC aM (pv 0) aj ao) aU (aR _))
 (ak (aO (aC aM (pv 0) aj ao)))
 aV)
 (ak (aO (pv 1)))),rfl,?_⟩
 obtain⟨a,ys,rfl,hs⟩:=iq st rv;ac_nf;refine aG hs (au (j:=0) rfl) ⟨rfl,b7 (fun e=>?_) (fun e=>?_)⟩
 ·have ew:=(vE st).mp e;refine aG hs (v:=.int st.row) (au (j:=1) rfl) ?_;cases st<;>first |exact q |cases ew
 ·have ew:st.wd≠.fh:=fun z=>e ((vE st).mpr z);cases st<;>first |exact q |exact zzb rfl ew
theorem uH(T:Tx K mg t):bJ P w K mg base dy 1 t.gB t.gJ ["statement"] (xH K):=by
 refine T.jF.F.lQ uf (fun vs H Q E h=>?_) (fun eT A outer s H vs Q E hr h=>?_)
 ·obtain⟨_,_,_,rfl,_⟩:=h;rfl
 obtain⟨v,st,H0,rfl,rv,s0,q⟩:=h;have nd:=uf.nd;refine⟨_,[some v],(ah (bh (aD bN (aC aM (pv 0) aj ao) aU (aR _))
 (ak (aO (bu (ag (aC aM (pv 0) aj ao) (ag (aC aM (pv 0) aj ao) aa aX) aX))))
 aV)
 (ah (bh (aD bN (aC aM (pv 0) aj ao) aU (aR _))
 (ak (aO (bu (ag (aC aM (pv 0) aj ao) aa aX))))
 aV)
 (ak (aO (bu aa))))),rfl,?_⟩
 obtain⟨a,ys,rfl,hs⟩:=iq st rv;have hs:=s0.a7 hs;ac_nf;refine aG hs (au (j:=0) rfl) ⟨rfl,b7 (fun e=>?_) (fun e=>aG hs (au (j:=0) rfl) ⟨rfl,b7 (fun e2=>?_) (fun e2=>?_)⟩)⟩
 ·have ew:=(Bq st).mp e;cases st<;>first |(exfalso;cases ew;done) |skip
  rename_i k sg l r x y;rw[eI,Rep.bg] at rv;obtain⟨_,xs,e0,hx,rs⟩:=rv;cases e0;obtain⟨v0,v1,v2,v3,v4,v5,rr,rfl,r5,rs⟩:=GV rs;rw[aN.aI] at rs;obtain⟨v6,t6,rfl,r6,_⟩:=rs;refine aG (s0.a7 hx) (v:=v5) (au (j:=5) rfl) (aG (s0.a7 hx) (v:=v6) (au (j:=6) rfl) fun p hp=>?_);rw[gw] at r5 r6;exact q p _ _ (aq.new hp _) hp ae (.cons r5 (.cons r6 .nil))
 ·have ew:=(vE st).mp e2;cases st<;>first |(exfalso;cases ew;done) |skip
  rename_i k sg l r x;rw[eI,Rep.bg] at rv;obtain⟨_,xs,e0,hx,rs⟩:=rv;cases e0;obtain⟨v0,v1,v2,v3,v4,v5,rr,rfl,r5,rs⟩:=GV rs;refine aG (s0.a7 hx) (v:=v5) (au (j:=5) rfl) fun p hp=>?_;rw[gw] at r5;exact q p _ _ (aq.new hp _) hp ae (.cons r5 .nil)
 ·intro p hp;have e1:st.wd≠.ifs:=fun z=>e ((Bq st).mpr z);have e2':st.wd≠.fh:=fun z=>e2 ((vE st).mpr z);refine q p [] _ (aq.new hp _) hp ae ?_;cases st<;>first |exact .nil |exact zzb rfl e1 |exact zzb rfl e2'
theorem Fi(T:Tx K mg t):bJ P w K mg base dy 2 t.kn t.kI ["statement", "after"] (KP K):=by
 have eC:bJ P w K mg base dy 1 t.dW t.dX ["body", "behind"] (tR K):=om T;refine T.qw.F.lQ xY (fun vs H Q E h=>?_) (fun eT A outer s H vs Q E hr h=>?_)
 ·obtain⟨_,_,_,rfl,_⟩:=h;rfl
 obtain⟨v,st,x,rfl,rv,hl,q⟩:=h;have nd:=xY.nd;obtain⟨LW,yj,yk⟩:=T.Bi;refine⟨_,[some v,some (V.int x),none],(ah (c5 2 nd (aC aM (pv 0) aj ao))
 (ah (bh (aD bN (pv 2) aU (aR _))
 (ak (aO (aS (ag (qc rfl yj yk) aa jW))))
 aV)
 (ah (bh (aD bN (pv 2) aU (aR _))
 (ak (aO (aS (ag (da eC T.fj hr (ag (aC aM (pv 0) aj ao) (bc 1 aa) aX)) (ag (da eC T.fj hr (ag (aC aM (pv 0) aj ao) (bc 1 aa) aX)) aa bG) bG))))
 aV)
 (ah (bh (aD bN (pv 2) aU (aR _))
 (ak (aO (aS (ag (da eC T.fj hr (ag (aC aM (pv 0) aj ao) (ag (aC aM (pv 0) aj ao) aa aX) aX)) (bc 1 aa) bG))))
 aV)
 (ak (aO (aS (bc 1 aa)))))))),rfl,?_⟩
 obtain⟨a,ys,rfl,hs⟩:=iq st rv;refine av fun U1 eE=>?_;ac_nf;refine aG hs (au (j:=0) rfl) ((eE _ _).mpr ?_);ac_nf;have Ml:∀b∈aK st,b.length<=100000:=hl;refine b7 (fun e=>?_) (fun e=>b7 (fun e1=>?_) (fun e1=>b7 (fun e2=>?_) (fun e2=>?_)))
 ·have ew:=(GU st).mp (by rw[e]);cases st<;>first |(exfalso;cases ew;done) |skip
  intro p hp;exact q _ _ (aq.new hp _) (Rep.new hp (.cons (Rep.bt.mpr rfl) .nil))
 ·have ew:=(Bq st).mp (by rw[e1]);cases st<;>first |(exfalso;cases ew;done) |skip
  rename_i k sg l r y z;rw[eI,Rep.bg] at rv;obtain⟨_,xs,e0,hx,rs⟩:=rv;cases e0;obtain⟨v0,v1,v2,v3,v4,v5,rr,rfl,r5,rs⟩:=GV rs;rw[aN.aI] at rs;obtain⟨v6,t6,rfl,r6,_⟩:=rs;rw[gw] at r5 r6;obtain⟨a5,_,rfl,_⟩:=Rep.bL.mp r5;obtain⟨a6,_,rfl,_⟩:=Rep.bL.mp r6;refine aG hx (v:=.ref a5) (au (j:=5) rfl) ⟨a5,y,x,rfl,r5,Ml y (by simp[aK]),aG hx (v:=.ref a6) (au (j:=6) rfl) ⟨a6,z,x,rfl,r6,Ml z (by simp[aK]),fun p hp=>?_⟩⟩;exact q _ _ (aq.new hp _) (Rep.new hp (.cons (Rep.bt.mpr rfl) (.cons (Rep.bt.mpr rfl) .nil)))
 ·have ew:=(vE st).mp (by rw[e2]);cases st<;>first |(exfalso;cases ew;done) |skip
  rename_i k sg l r y;rw[eI,Rep.bg] at rv;obtain⟨_,xs,e0,hx,rs⟩:=rv;cases e0;obtain⟨v0,v1,v2,v3,v4,v5,rr,rfl,r5,rs⟩:=GV rs;rw[gw] at r5;obtain⟨a5,_,rfl,_⟩:=Rep.bL.mp r5;refine aG hx (v:=.ref a5) (au (j:=5) rfl) (aG hs (v:=.int k) (au (j:=1) rfl) ⟨a5,y,k,rfl,r5,Ml y (by simp[aK]),fun p hp=>?_⟩);exact q _ _ (aq.new hp _) (Rep.new hp (.cons (Rep.bt.mpr rfl) (.cons (Rep.bt.mpr rfl) .nil)))
 ·intro p hp;have n1:st.wd≠.stop:=fun z=>e (V.str.inj ((GU st).mpr z));have n2:st.wd≠.ifs:=fun z=>e1 (V.str.inj ((Bq st).mpr z));have n3:st.wd≠.fh:=fun z=>e2 (V.str.inj ((vE st).mpr z));have ew:pz st x=[x]:=by
   cases st<;>first |rfl |exact zzb rfl n1 |exact zzb rfl n2 |exact zzb rfl n3
  rw[ew] at q;exact q _ _ (aq.new hp _) (Rep.new hp (.cons (Rep.bt.mpr rfl) .nil))
theorem Aq{K:zaa}{H:Hp}:∀(n:Nat) {ds:List bI} {vs:List V},aN K H (ds.map eI) vs->aN K H ((ds.drop n).map eI) (vs.drop n)
 |0,_,_,h=>h
 |n+1,[],vs,h=>by
  rw[za2,aN.br] at h;subst h;exact .nil
 |n+1,d::ds,vs,h=>by
  rw[zam,aN.aI] at h;obtain⟨v,t,rfl,_,h⟩:=h;exact Aq n h
theorem Mn(T:Tx K mg t){n:Nat}(kQ:bJ P w K mg base dy (n+2) t.dI t.dR ["body", "behind"] (wJ K n)) :
 bJ P w K mg base dy (n+3) t.dI t.dR ["body", "behind"] (wJ K (n+1)):=by
 have eC:bJ P w K mg base dy 1 t.dW t.dX ["body", "behind"] (tR K):=om T;have IJ:bJ P w K mg base dy 2 t.kn t.kI ["statement", "after"] (KP K):=Fi T;have pV:bJ P w K mg base dy 1 t.gB t.gJ ["statement"] (xH K):=uH T;have zg:bJ P w K mg base dy 1 t.fS t.gA ["statement", "after"] (Cy K):=yr T;refine T.gE.F.lQ oF (fun vs H Q E h=>?_) (fun eT A outer s H vs Q E hr h=>?_)
 ·obtain⟨_,_,_,rfl,_⟩:=h;rfl
 obtain⟨b,body,x,rfl,rb,hd,hf,q⟩:=h;have nd:=oF.nd;refine⟨_,[some (V.ref b),some (V.int x),none,none,none,none,none],(ah (c5 2 nd (bu aa))
 (ah (du PassesOwn.never rfl (F8 rfl T.lM (bc 0 aa)) (rH rfl (bM (lX 3 nd) (bM (lX 4 nd) iA)))
 (ah (c5 5 nd (da eC T.fj hr (ag (oS FR (pv 0) (tj (bf dP (pv 3) aj)) sZ) (bc 1 aa) aX)))
 (ah (bK (dw zaj zan zao bD (pv 2) (ag (aS (ag (aC aM (pv 4) aj ao) (ag (aC aM (pv 4) aj ao) (ag (da IJ T.qw hr (bc 4 (bc 5 aa))) aa bG) aX) aX)) aa bW)))
 (ak (du PassesOwn.never rfl (cH (da pV T.jF hr (bc 4 aa))) (lX 6 nd)
 (ak (bK (dw zaj zb1 zb2 uO (pv 2) (ag (da kQ T.gE hr (bc 6 (ag (da zg T.jr hr (bc 4 (bc 5 aa))) aa bG))) aa bG)))))))))
 (ak (aO (pv 2))))),rfl,?_⟩
 have line:zds=2 ^ 24:=rfl;rw[Rep.bL] at rb;obtain⟨_,xs,e,hx,rs⟩:=rb;cases e;have lx:xs.length=body.length:=by rw[rs.length,zad]
 have lb:=kl body;refine av fun U1 eE=>?_;ac_nf;intro tl BU;have s1:=aq.new BU (.lst []);have y1:(upd H tl (.lst [])) tl=some (.lst []):=ae;generalize upd H tl (.lst [])=H1 at *;refine(eE _ _).mpr (av fun U2 gh=>?_);clear eE;ac_nf;obtain⟨Pv,mf,dQ⟩:=wX fun (i:Nat) (σ:St) (H2:Hp) zq=>∀(z3 z4 z5 z6:Option V) (pre:List dM) (us:List V),σ=[some (V.ref b),some (V.int x),some (V.ref tl),z3,z4,z5,z6]->aq H H2->H2 tl=some (.lst us)->eJ K (·=tl) H2 (pre.map eK) us->us.length=pre.length->pre++aQ (body.drop i) x=aQ body x->zq;refine⟨_,rfl,⟨xs,s1.seq hx⟩,Ce (K:=K) (a:=b) (xs:=xs) Pv ((mf _ _ _ fun _ zk=>zk none none none none [] [] rfl s1 y1 .nil rfl rfl)) (fun i σ H2 _ hv=>?_) ?_ ?_⟩
 ·refine dQ _ _ _ hv _ fun _ _ _ _ _ _ _ s2 _ _ _ _=>?_;exact s2.seq hx
 ·intro i y σ H2 tp hi hv W4;refine dQ _ _ _ hv _ fun z3 z4 z5 z6 pre us kT s2 y2 f2 lu ep=>?_;subst kT;clear hv;have done:=fun σ H7=>mf (i+1) σ H7;have li:i<body.length:=by have:=(zak.mp hi).1;lia
  obtain⟨v,hv,rv⟩:=rs.get (i:=i) (d:=eI body[i]) (by rw[zal,zac li];rfl);rw[hi] at hv;cases hv;have ed:body.drop i=body[i]::body.drop (i+1):=zbH li;rw[ed,aQ,KN] at ep;have mem:body[i]∈body:=zau li;obtain⟨fm,dm⟩:=qm body _ mem;generalize SK:body[i]=st at *;have s3:=s2.trans (aq.new W4 (.tup [V.int i,y]));have n3:tl≠tp:=ai y2 W4;have y3:=aq.new W4 (.tup [V.int i,y]) _ _ y2;have f3:=f2.up (.of (aq.new W4 (.tup [V.int i,y])));have t3:(upd H2 tp (.tup [V.int i,y])) tp=some (.tup [V.int i,y]):=ae;generalize upd H2 tp (.tup [V.int i,y])=H3 at *;obtain⟨sa,ys,rfl,hs⟩:=iq st rv;refine⟨tp,_,rfl,.of t3,rfl,_,_,rfl,_,_,rfl,rfl,?_⟩;refine av fun U3 iY=>?_;ac_nf;refine⟨_,rfl,b,_,rfl,s3.seq hx,fun p4 v8=>?_⟩;have ec:jt xs (some ((i:Int)+1)) none=xs.drop (i+1):=by
   unfold jt;rw[HT.oR,show (i:Int)+1=((i+1:Nat):Int) by lia,HT.qd];rw[show min (i+1) xs.length=i+1 by lia];exact zbw (by rw[zbN];lia)
  rw[ec];have s4:=s3.trans (aq.new v8 (.lst (xs.drop (i+1))));have y4:=aq.new v8 (.lst (xs.drop (i+1))) _ _ y3;have f4:=f3.up (.of (aq.new v8 (.lst (xs.drop (i+1)))));have l4:(upd H3 p4 (.lst (xs.drop (i+1)))) p4=some (.lst (xs.drop (i+1))):=ae;generalize upd H3 p4 (.lst (xs.drop (i+1)))=H4 at *;have rd4:Rep K H4 (.lst ((body.drop (i+1)).map eI)) (.ref p4):=Rep.bL.mpr ⟨p4,_,rfl,.of l4,Aq (i+1) (rs.mono s4)⟩;refine⟨p4,body.drop (i+1),x,rfl,rd4,by rw[zbN];lia,(iY _ _).mpr (av fun U4 ke=>?_)⟩;clear iY;generalize bj (body.drop (i+1)) x=af at *;have hs4:=(show bQ K H4 sa _ from s4.a7 hs)
  ac_nf;refine⟨.inl ⟨rfl,_,.of y4⟩,aG hs4 (v:=.int st.row) (au (j:=1) rfl) (aG hs4 (v:=.str (fZ st.wd)) (au (j:=0) rfl) ?_)⟩;have sh:KO st:=fun bb YN=>by
   have:=(jZ st bb YN).1;have:=kl bb;lia
  refine⟨.ref sa,st,af,rfl,rv.mono s4,sh,fun u H5 s5 ru p6 i0=>?_⟩;have y5:=s5 _ _ y4;have f5:=f4.up (.of s5);have fu:Fix K (·=tl) H5 (.tup ((pz st af).map .int)) u:=Rf y5 (by rw[HN];exact ve _) ru;have n6:p6≠tl:=(ai y5 i0).symm;have s6:=aq.new i0 (.tup [V.int st.row,V.str (fZ st.wd),u]);have ft:Fix K (·=tl) (upd H5 p6 (.tup [V.int st.row,V.str (fZ st.wd),u])) (eK (st.row,st.wd,pz st af)) (.ref p6):=Fix.tup ae n6 (.cons .int (.cons .str (.cons (fu.up (.of s6)) .nil)));have f6:=f5.up (.of s6);have y6:=s6 _ _ y5;have s46:=(s4.trans s5).trans s6;generalize upd H5 p6 (.tup [V.int st.row,V.str (fZ st.wd),u])=H6 at *;have RV:pre.length<=1000:=by
   have h1:=congrArg za5 ep;have h2:=congrArg za5 (cY body x);simp only[zae,zad,zah] at h1 h2;lia
  refine⟨tl,us,_,rfl,rfl,y6,by lia,?_⟩;have s7:aq H (upd H6 tl (.lst (us++[V.ref p6]))):=fun z o e=>by rw[aw (ai e BU)];exact s46 z o e
  have f7:=(f6.snoc ft).up (ba.refl.put (O:=(·=tl)) rfl (.lst (us++[V.ref p6])));have y7:(upd H6 tl (.lst (us++[V.ref p6]))) tl=some (.lst (us++[V.ref p6])):=ae;generalize upd H6 tl (.lst (us++[V.ref p6]))=H7 at *;refine(ke _ _).mpr ?_;clear ke;refine fI fun U hU=>?_;ac_nf;refine⟨.ref sa,st,H,rfl,rv,s7,fun l8 bv H8 s8 hl8 y8 r8=>⟨l8,rfl,⟨bv,.of y8⟩,hU _ _ ?_⟩⟩;have OG:bv.length=(aK st).length:=by rw[r8.length,zad]
  have l8t:l8≠tl:=fun z=>by rw[z,y7] at hl8;cases hl8
  obtain⟨Pw,yt,jH⟩:=wX fun (j:Nat) (σ:St) (H9:Hp) zq=>∀(z6:Option V) (us:List V) (Dg:List dM),σ=[some (V.ref b),some (V.int x),some (V.ref tl),some (V.int i),some (V.ref sa),some (V.int af),z6]->aq H H9->(∀z o,z≠tl->H8 z=some o->H9 z=some o)->H9 tl=some (.lst us)->eJ K (·=tl) H9 (Dg.map eK) us->us.length=Dg.length->Dg++((aK st).drop j).flatMap (fun bb=>aQ bb (iE st af))=pre++(st.row,st.wd,pz st af)::(aK st).flatMap (fun bb=>aQ bb (iE st af))->zq;refine fH (K:=K) (a:=l8) (xs:=bv) Pw ((yt _ _ _ fun _ zk=>zk z6 _ (pre++[(st.row,st.wd,pz st af)]) rfl (s7.trans s8) (fun z o _ e=>e) (s8 _ _ y7) (by rw[zaw];exact f7.up (.of s8)) (by simp[lu]) (by simp))) (fun j σ H9 _ hv=>?_) ?_ ?_
  ·refine jH _ _ _ hv _ fun _ _ _ _ _ k9 _ _ _ _=>?_;exact .of (k9 _ _ l8t y8)
  ·intro j y σ H9 hj hv;refine jH _ _ _ hv _ fun z6' wt Dg kT s9 k9 y9 f9 ZL e9=>?_;subst kT;clear hv;have lj:j<(aK st).length:=by have:=(zak.mp hj).1;lia
   obtain⟨v,hv,rb⟩:=r8.get (i:=j) (d:=.lst ((aK st)[j].map eI)) (by rw[zal,zac lj];rfl);rw[hj] at hv;cases hv;have mj:(aK st)[j]∈aK st:=zau lj;obtain⟨fb,db⟩:=jZ st _ mj;have ej:(aK st).drop j=(aK st)[j]::(aK st).drop (j+1):=zbH lj;rw[ej,zaG] at e9;generalize (aK st)[j]=bb at *;obtain⟨ab,_,rfl,_⟩:=Rep.bL.mp rb;ac_nf;refine⟨.inl ⟨rfl,_,.of y9⟩,.ref sa,st,af,rfl,rv.mono s9,?_⟩;refine⟨ab,bb,_,rfl,rb.mono s9,by lia,by lia,fun WR OJ vC sP YZ WS S2=>?_⟩;have VD:=sP _ _ y9;have f10:=f9.up (.of sP);have g10:eJ K (·=tl) vC ((aQ bb (iE st af)).map eK) OJ:=Gj VD (vf _) S2;have WR:OJ.length=(aQ bb (iE st af)).length:=by rw[S2.length,zad]
   have tot:Dg.length+(aQ bb (iE st af)).length<=2000:=by
    have h1:=congrArg za5 e9;have h2:=congrArg za5 ep;have h3:=congrArg za5 (cY body x);simp only[zae,zad,zah] at h1 h2 h3;lia
   refine⟨tl,_,wt,OJ,rfl,rfl,VD,WS,by lia,?_⟩;refine(yt _ _ _ fun _ zk=>zk _ (wt++OJ) (Dg++aQ bb (iE st af)) rfl (fun z o e=>?_) (fun z o nz e=>?_) ae ?_ (by simp[ZL,WR]) (by rw[<- e9];simp))
   ·rw[aw (ai e BU)];exact sP _ _ (s9 _ _ e)
   ·rw[aw nz];exact sP _ _ (k9 z o nz e)
   ·rw[zaw];exact(uC f10 g10).up (ba.refl.put (O:=(·=tl)) rfl _)
  ·intro σ H9 hv;refine jH _ _ _ hv _ fun z6' wt Dg kU s9 k9 y9 f9 ZL e9=>?_;subst kU;rw[OG,List.drop_length,zbk,zav] at e9;refine done _ _ (fun _ zk=>zk _ _ _ _ Dg wt rfl s9 y9 f9 ZL ?_);rw[e9,<- ep];simp
 ·intro σ H2 hv;refine dQ _ _ _ hv _ fun z3 z4 z5 z6 pre us kU s2 y2 f2 lu ep=>?_;subst kU;rw[lx,List.drop_length,aQ,zav] at ep;refine(gh _ _).mpr ?_;ac_nf;rw[ep] at f2;exact q tl us H2 s2 BU y2 f2.HK
theorem Ar(T:Tx K mg t):∀n,bJ P w K mg base dy (n+2) t.dI t.dR ["body", "behind"] (wJ K n)
 |0=>by
  have no:∀vs H Q E,¬wJ K 0 vs H Q E:=fun vs H Q E h=>by obtain⟨_,_,_,_,_,h,_⟩:=h;lia
  exact⟨fun vs H Q E h=>zzb h (no vs H Q E),fun A outer s H args us vs Q E _ _ _ _ h=>zzb h (no vs H Q E)⟩
 |n+1=>Mn T (Ar T n)
theorem GW(T:Tx K mg t):bJ P w K mg base dy 7 t.sk t.qv ["program"] (Ez K):=by
 have kQ:=@Ar P w _ _ base _ T 4;refine T.yc.F.lQ GK (fun vs H Q E h=>?_) (fun eT A outer s H vs Q E hr h=>?_)
 ·obtain⟨_,_,rfl,_⟩:=h;rfl
 obtain⟨v,pr,rfl,rp,hd,hf,q⟩:=h;have nd:=GK.nd;obtain⟨LW,yj,yk⟩:=T.Bi;refine⟨_,[some v],(ak (aO (da kQ T.gE hr (ag (aC aM (pv 0) aj ao) (ag (qc rfl yj yk) aa jW) aX)))),rfl,?_⟩;unfold kB at rp;rw[Rep.bg] at rp;obtain⟨a,xs,rfl,hx,rs⟩:=rp;rw[aN.aI] at rs;obtain⟨v1,t1,rfl,r1,rs⟩:=rs;rw[aN.aI] at rs;obtain⟨v2,t2,rfl,r2,rs⟩:=rs;obtain⟨b,_,rfl,_⟩:=Rep.bL.mp r2;ac_nf;refine aG hx (v:=.ref b) (au (j:=1) rfl) ?_;exact⟨b,pr.body,0,rfl,r2,by lia,hf,fun l us H' s' hl y r=>q l us H' s' hl y r⟩
theorem Br:∀w:Wd,(fZ w=zab "else")↔w=.oN:=by
 intro w;cases w<;>decide +kernel
theorem Bs:∀w:Wd,(fZ w=zab "end")↔w=.fin:=by
 intro w;cases w<;>decide +kernel
theorem GX(T:Tx K mg t):bJ P w K mg base dy 1 t.jC t.j0 ["rows"] (Rh K):=by
 refine T.jG.F.lQ ui (fun vs H Q E h=>?_) (fun eT A outer s H vs Q E hr h=>?_)
 ·obtain⟨_,_,_,rfl,_⟩:=h;rfl
 obtain⟨R,rows,b,rfl,rr,lr,tx,q⟩:=h;have nd:=ui.nd;have hu:=dS hr;refine⟨_,[some (V.ref R),none,none,none,none],(ah (c5 1 nd xn)
 (ah (c5 2 nd (bu aa))
 (ah (du PassesOwn.never rfl (ik rfl T.js (ag (bX bE rfl T.g8 PyProof.Rows.Boot.«len» (bc 0 aa)) aa bG)) (lX 3 nd)
 (ah (c5 4 nd (aC a9 (aC a9 (pv 0) (pv 3) kZ) aj ao))
 (ak (bh (aD i9 (pv 4) (aS (cO (vs:=[.str "if",.str "while"]) (by kernel_rfl))) rfl)
 (ah (bK (dw zaj zan zao bD (pv 2) (bc 3 aa)))
 (ak (mZ hu (pv 1) (pv 3) (bu (cO (vs:=[.cB,.cB]) (by kernel_rfl))) rfl)))
 (ak (bh (aD bN (pv 4) aU (aR _))
 (ah (rJ (pv 3) (DO (b9 hu (pv 1) (aC a9 (pv 2) (vI oP aj) vO) (fun _ _=>rfl)) aj set_list))
 (ak (mZ hu (pv 1) (pv 3) (aC a9 (pv 2) (vI oP aj) vO) rfl)))
 (ak (bh (aD bN (pv 4) aU (aR _))
 (ah (mZ hu (pv 1) (pv 3) (Ef zaj zcj zck Ek (pv 2)) rfl)
 (ak (rJ (pv 3) (DO (b9 hu (pv 1) (b9 hu (pv 1) (pv 3) (fun _ _=>rfl)) (fun _ _=>rfl)) aj set_list))))
 aV))))))))
 (ak (aO (pv 1)))))),rfl,?_⟩
 have line:zds=2 ^ 24:=rfl;rw[Rep.bL] at rr;obtain⟨_,rv,e,hR,rr⟩:=rr;cases e;have PX:rv.length=rows.length:=by rw[rr.length,zad]
 have safe:=zV b rows tx 0 (fun _=>none) [] (by simp);refine av fun U1 eE=>?_;ac_nf;intro d hd;refine(eE _ _).mpr (av fun U2 gh=>?_);clear eE;ac_nf;intro ol MK;refine(gh _ _).mpr (av fun U3 iY=>?_);clear gh;have Sh:ol≠d:=(ai ae MK).symm;have Si:H ol=none:=by
  cases z:H ol with
  |none=>rfl
  |some o=>rw[aq.new hd (.dK []) _ _ z] at MK;cases MK
 have t1:zY H d (fun _=>none) (fun _=>d) (upd (upd H d (.dK [])) ol (.lst [])) []:=⟨(aq.new hd _).trans (aq.new MK _),hd,by rw[aw Sh.symm];exact ae,fun p=>rfl,fun p e f z=>(by cases z),fun p q e f e' f' z=>(by cases z)⟩
 have y1:(upd (upd H d (.dK [])) ol (.lst [])) ol=some (.lst []):=ae;generalize upd (upd H d (.dK [])) ol (.lst [])=H1 at *;refine oY fun U hU=>?_;ac_nf;refine⟨R,rv,rfl,.inl (t1.s.seq hR),_,rfl,by lia,by lia,hU _ _ ?_⟩;clear hU;rw[show ((rv.length:Int)).toNat=rv.length from za0 _];have eF:∀i (hi:i<rows.length),PG.foldM 0 (rows.take (i+1)) (fun _=>none,[])=tM (PG.foldM 0 (rows.take i) (fun _=>none,[])) i rows[i].2:=fun i hi=>by
  rw[zaQ hi,jb,zbU,zcn (by lia),zbx];rfl
 obtain⟨Pv,mf,dQ⟩:=wX fun (i:Nat) (σ:St) (H3:Hp) zq=>∀(z3 z4:Option V) (m:Mm) (op:List Nat) (Af:Nat->zdk) (ax:List (Key×V)),σ=[some (V.ref R),some (V.ref d),some (V.ref ol),z3,z4]->PG.foldM 0 (rows.take i) (fun _=>none,[])=(m,op)->zY H d m Af H3 ax->ax.length<=i->H3 ol=some (.lst (op.reverse.map fun x:Nat=>V.int (x:Int)))->(∀p e f,m p=some (.op e f)->Af p≠ol)->op.length<=i->(∀x∈op,x<i)->zq;refine kh (lo:=0) (n:=rv.length) Pv ((mf _ _ _ fun _ zk=>zk none none _ [] _ [] rfl rfl t1 (zaf _) y1 (fun p e f z=>(by cases z)) (zaf _) (by simp))) (fun i σ H3 hi hv=>?_) (fun σ H3 hv=>?_)
 ·refine dQ _ _ _ hv _ fun z3 z4 m op Af ax kT ef ti lk yo no lo sl=>?_;subst kT;clear hv;have done:=fun σ H7=>mf (i+1) σ H7;have li:i<rows.length:=by lia
  rw[eF i li,ef] at done;have sat:=Cu rows 0 _ safe i rows[i] (zac li);rw[ef] at sat;obtain⟨ra,era,S8⟩:=AV (rr.mono ti.s) (i:=i) (y:=rv[i]) (zac (by lia)) li;generalize rows[i]=r at *;obtain⟨k,wd⟩:=r;simp only[eO,zaT];rw[show (0:Int)+(i:Int)=(i:Int) by lia];have ZM:=ti.s.seq hR;refine av fun U4 ke=>?_;ac_nf;refine bz (v:=.ref ra) ZM (au (by rw[<- era];exact zac (by lia))) (bz (v:=.str (fZ wd)) S8 (au (j:=1) rfl) ((ke _ _).mpr ?_));clear ke;ac_nf;intro p4 v8;refine⟨p4,_,rfl,.inr (.of ae),rfl,rfl,_,rfl,?_⟩;have s4:=aq.new v8 (.tup [V.str (zab "if"),V.str (zab "while")]);have Fj:=ti.same s4;have P0:=s4 _ _ yo;generalize upd H3 p4 (.tup [V.str (zab "if"),V.str (zab "while")])=H4 at *;rw[wK wd];by_cases hl:wd=.ifs\/wd=.fh
  ·refine(zzp (decide_eq_true hl)).mpr ⟨.inl ⟨rfl,_,.of P0⟩,ol,_,_,rfl,rfl,P0,by rw[zad,zbh];lia,fun p5 yM=>⟨d,_,rfl,.inl ⟨ax,.inl (i:Int),?_,rfl,by lia,rfl⟩,?_⟩⟩
   ·exact((Fj.put Si Sh no _).same (aq.new yM _)).dd
   ·have Dh:=(Fj.put Si Sh no (.lst (op.reverse.map (fun x:Nat=>V.int (x:Int))++[V.int i]))).Ut i yM;have n5:ol≠p5:=ai ae yM;have es:tM (m,op) i wd=(m.set i (.op none none),i::op):=by rcases hl with rfl |rfl<;>rfl
    refine done _ _ (fun _ zk=>zk _ _ _ _ _ _ rfl es Dh (zay (tS _ _ _) (by lia)) ?_ ?_ (by simp only[zah];lia) (fun x hx=>?_))
    ·rw[aw Sh,aw n5,ae];simp
    ·intro p e f hp;by_cases z:p=i
     ·rw[zzp z];exact n5.symm
     ·rw[zzn z];rw[Mm.bO _ _ z] at hp;exact no p e f hp
    ·rcases zag.mp hx with rfl |hx
     ·lia
     ·have:=sl x hx;lia
  ·refine(zzn (by rw[decide_eq_false hl];exact zai)).mpr (b7 (fun e=>?_) (fun e=>b7 (fun e2=>?_) (fun e2=>?_)))
   ·have ew:wd=.oN:=(Br wd).mp e;subst ew;obtain⟨o,tt,x,y,eo,mo⟩:=sat (.inl rfl);simp only at eo mo;subst eo;have last:∀xs:List Nat,tw ((o::xs).reverse.map fun x:Nat=>V.int (x:Int)) (-1)=some (V.int o):=fun xs=>by rw[zbm,zaw];exact L2.ju _ _
    refine⟨1,rfl,bz (v:=.int o) (.of P0) (last tt) ⟨d,.ref (Af o),rfl,.inl ⟨ax,.inl (o:Int),.inl Fj.dd,rfl,?_⟩,Af o,_,0,0,rfl,rfl,(Fj.ls o x y mo).1,rfl,?_⟩⟩
    ·rw[Fj.at_ o,mo];rfl
    ·have Fl:=Fj.list mo (some i) y;have W5:(upd H4 (Af o) (.lst [xI (some i),xI y])) ol=some (.lst ((o::tt).reverse.map fun x:Nat=>V.int (x:Int))):=by rw[aw (no o x y mo).symm];exact P0
     show ∃i_2,1=i_2/\AG K (V.ref ol) (V.int (-i_2)) (upd H4 (Af o) (.lst [xI (some i),xI y])) _;generalize upd H4 (Af o) (.lst [xI (some i),xI y])=H5 at *;refine⟨1,rfl,bz (v:=.int o) (.of W5) (last tt) ⟨d,_,rfl,.inl ⟨ax,.inl (i:Int),Fl.dd,rfl,by lia,rfl⟩,?_⟩⟩;have Dh:=Fl.back i o;have es:tM (m,o::tt) i .oN=((m.set o (.op (some i) y)).set i (.back o),o::tt):=by simp only[tM,mo,qj]
     refine done _ _ (fun _ zk=>zk _ _ _ _ _ _ rfl es Dh (zay (tS _ _ _) (by lia)) ?_ ?_ (by lia) (fun x hx=>zca (sl x hx)))
     ·rw[aw Sh];exact W5
     ·intro p e f hp;by_cases z:p=i
      ·subst z;rw[Mm.set_same] at hp;cases hp
      ·rw[Mm.bO _ _ z] at hp;by_cases z2:p=o
       ·subst z2;exact no p x y mo
       ·rw[Mm.bO _ _ z2] at hp;exact no p e f hp
   ·have ew:wd=.fin:=(Bs wd).mp e2;subst ew;obtain⟨o,tt,x,y,eo,mo⟩:=sat (.inr rfl);simp only at eo mo;subst eo;have oi:o<i:=sl o (zaq ..);have er:((o::tt).reverse.map fun x:Nat=>V.int (x:Int))=(tt.reverse.map fun x:Nat=>V.int (x:Int))++[V.int o]:=by simp
    rw[er] at P0;have Fl:=Fj.put Si Sh no (.lst (tt.reverse.map fun x:Nat=>V.int (x:Int)));have W5:(upd H4 ol (.lst (tt.reverse.map fun x:Nat=>V.int (x:Int)))) ol=some (.lst (tt.reverse.map fun x:Nat=>V.int (x:Int))):=ae;refine⟨.inl ⟨rfl,_,.of P0⟩,ol,_,.int o,rfl,rfl,P0,by simp,?_⟩;rw[zcp];generalize upd H4 ol (.lst (tt.reverse.map fun x:Nat=>V.int (x:Int)))=H5 at *;have Dh:=Fl.back i o;have yo6:(upd H5 d (.dK (putK ax (.inl (i:Int)) (.int o)))) ol=some (.lst (tt.reverse.map fun x:Nat=>V.int (x:Int))):=by rw[aw Sh];exact W5
    have lk6:(putK ax (.inl (i:Int)) (V.int o)).length<=i+1:=zay (tS _ _ _) (by lia);refine⟨d,_,rfl,.inl ⟨ax,.inl (i:Int),Fl.dd,rfl,by lia,rfl⟩,?_⟩;generalize putK ax (.inl (i:Int)) (V.int o)=oo at *;generalize upd H5 d (.dK oo)=H6 at *;have ZN:(m.set i (.back o)) o=some (.op x y):=by rw[Mm.bO _ _ (by lia)];exact mo
    refine⟨d,.int o,rfl,.inl ⟨oo,.inl (i:Int),.inl Dh.dd,rfl,by rw[Dh.at_ i,Mm.set_same];rfl⟩,d,.ref (Af o),rfl,.inl ⟨oo,.inl (o:Int),.inl Dh.dd,rfl,by rw[Dh.at_ o,ZN];rfl⟩,Af o,_,1,1,rfl,rfl,(Dh.ls o x y ZN).1,rfl,?_⟩;have W6:=Dh.list ZN x (some i);have es:tM (m,o::tt) i .fin=((m.set i (.back o)).set o (.op x (some i)),tt):=by simp only[tM,mo,tL]
    refine done _ _ (fun _ zk=>zk _ _ _ _ _ _ rfl es W6 lk6 ?_ ?_ (by simp only[zah] at lo;lia) (fun z hz=>zca (sl z (zat _ hz))))
    ·rw[aw (no o x y mo).symm];exact yo6
    ·intro p e f hp;by_cases z2:p=o
     ·subst z2;exact no p x y mo
     ·rw[Mm.bO _ _ z2] at hp;by_cases z:p=i
      ·subst z;rw[Mm.set_same] at hp;cases hp
      ·rw[Mm.bO _ _ z] at hp;exact no p e f hp
   ·have es:tM (m,op) i wd=(m,op):=by
     cases wd<;>first |rfl |exact zzb (.inl rfl) hl |exact zzb (.inr rfl) hl |exact zzb ((Br _).mpr rfl) e |exact zzb ((Bs _).mpr rfl) e2
    exact done _ _ (fun _ zk=>zk _ _ _ _ _ _ rfl es Fj (by lia) P0 no (by lia) (fun x hx=>zca (sl x hx)))
 ·refine dQ _ _ _ hv _ fun z3 z4 m op Af ax kU ef ti lk yo no lo sl=>?_;subst kU;rw[PX,zaU] at ef;refine(iY _ _).mpr ?_;ac_nf;refine q d H3 ⟨Af,ax,?_⟩;unfold oK;rw[ef];exact ti
theorem GY:∀w:Wd,(V.str (fZ w)=V.str (zab "while"))↔w=.fh:=by
 intro w;cases w<;>decide +kernel
theorem Qa(T:Tx K mg t):bJ P w K mg base dy 1 t.mQ t.n9 ["rows", "matches", "at"] (Yl K):=by
 refine T.kx.F.lQ x9 (fun vs H Q E h=>?_) (fun eT A outer s H vs Q E hr h=>?_)
 ·obtain⟨_,_,_,_,_,_,rfl,_⟩:=h;rfl
 obtain⟨R,d,rows,b,H0,p,rfl,rr,lr,tx,⟨Af,ax,ti⟩,q⟩:=h;have nd:=x9.nd;have hu:=dS hr;refine⟨_,[some (V.ref R),some (V.ref d),some (V.int p),none],(ah (mh PassesOwn.never (aD oQ (pv 2) (bX bE rfl T.g8 PyProof.Rows.Boot.«len» (bc 0 aa)) (aR _))
 (ah (c5 3 nd (aC a9 (aC a9 (pv 0) (pv 2) kZ) aj ao))
 (ak (bh (aD bN (pv 3) aU (aR _))
 (ak (c5 2 nd (bf dP (aC AI (b9 hu (pv 1) (b9 hu (pv 1) (pv 2) (fun _ _=>rfl)) (fun _ _=>rfl)) aj ao) aj)))
 (ak (bh (PW.pt (pw_and (aD bN (pv 3) aU (aR _)) (pw_and1 (aD bN (aC a9 (aC a9 (pv 0) (b9 hu (pv 1) (pv 2) (fun _ _=>rfl)) Kh) aj ao) aU (aR _)))))
 (ak (aO (aC a9 (aC a9 (pv 0) (b9 hu (pv 1) (pv 2) (fun _ _=>rfl)) Kh) aj ao)))
 (ak (bh (aD bN (pv 3) aU (aR _))
 (ak (c5 2 nd (bf dP (pv 2) aj)))
 (ak (aO (aC a9 (aC a9 (pv 0) (pv 2) kZ) aj ao)))))))))))
 (ak (aO aj))),rfl,?_⟩
 have line:zds=2 ^ 24:=rfl;rw[Rep.bL] at rr;obtain⟨_,rv,e,hR,rr⟩:=rr;cases e;have PX:rv.length=rows.length:=by rw[rr.length,zad]
 have ok:=zW tx;generalize oK rows=m at *;refine av fun U1 eE=>?_;ac_nf;refine⟨fun n σ H'=>H'=H/\∃(j:Nat) (z:Option V),σ=[some (V.ref R),some (V.ref d),some (V.int j),z]/\n=rows.length-j/\PG.to rows m j=PG.to rows m p,⟨_,rfl,p,none,rfl,rfl,rfl⟩,?_⟩
 rintro n σ H' ⟨rfl,j,z,rfl,rfl,et⟩
 ac_nf;refine⟨R,rv,rfl,.inl hR,b7 (fun lt=>?_) (fun lt=>?_)⟩
 ·have lj:j<rows.length:=by lia
  obtain⟨ra,era,S8⟩:=AV rr (i:=j) (y:=rv[j]) (zac (by lia)) lj;have yu:rows[j]?=some rows[j]:=zac lj;generalize rows[j]=r at *;obtain⟨k,wd⟩:=r;obtain⟨o1,o2,_⟩:=ok j lj k wd yu;refine⟨fun σ' H2=>H2=H'/\∃(j':Nat) (z:Option V),σ'=[some (V.ref R),some (V.ref d),some (V.int j'),z]/\j<j'/\PG.to rows m j'=PG.to rows m p,fun σ' H2 ⟨e1,j',z',e2,e3,e4⟩=>⟨_,by lia,e1,j',z',e2,rfl,e4⟩,?_⟩;refine bz (v:=.ref ra) hR (au (by rw[<- era];exact zac (by lia))) (bz (v:=.str (fZ wd)) S8 (au (j:=1) rfl) ?_);ac_nf;have key:∀jj:Nat,cf ax (.inl (jj:Int))=Wx Af jj (m jj):=ti.at_;refine b7 (fun e=>?_) (fun e=>b7 (fun e2=>?_) (fun e2=>(zzn (by decide)).mpr ((zzn e2).mpr ?_)))
  ·have ew:wd=.oN:=(Br wd).mp e;subst ew;obtain⟨o,x,ee,m1,m2,h1,h2⟩:=o1 rfl;refine⟨d,.int o,rfl,.inl ⟨ax,.inl (j:Int),.inl ti.dd,rfl,by rw[key j,m1];rfl⟩,d,.ref (Af o),rfl,.inl ⟨ax,.inl (o:Int),.inl ti.dd,rfl,by rw[key o,m2];rfl⟩,.inl (bz (v:=.int ee) (.of (ti.ls o x (some ee) m2).1) (au (j:=1) rfl) ⟨_,_,rfl,rfl,rfl,ee+1,some (V.str (fZ .oN)),rfl,by lia,?_⟩)⟩
   ·rw[<- et,Kv yu m1 m2 h1]
  ·have ew:wd=.fin:=(Bs wd).mp e2;subst ew;obtain⟨o,k',w',m1,ho,hw⟩:=o2 rfl;obtain⟨lo,eo⟩:=nj ho;obtain⟨rb,erb,ZO⟩:=AV rr (i:=o) (y:=rv[o]) (zac (by lia)) lo;rw[eo] at ZO;have gR:tw rv (o:Int)=some (V.ref rb):=au (by rw[<- erb];exact zac (by lia));have gd:qD H' d (V.int j) (some (.int o)):=.inl ⟨ax,.inl (j:Int),.inl ti.dd,rfl,by rw[key j,m1];rfl⟩;refine⟨d,.int o,rfl,gd,bz (v:=.ref rb) hR gR (bz (v:=.str (fZ w')) ZO (au (j:=1) rfl) ⟨rfl,b7 (fun e3=>?_) (fun e3=>(zzp e2).mpr ⟨rfl,j+1,_,rfl,by lia,?_⟩)⟩)⟩
   ·have ew:w'=.fh:=(GY w').mp e3;subst ew;refine⟨d,.int o,rfl,gd,bz (v:=.ref rb) hR gR (bz (v:=.int k') ZO (au (j:=0) rfl) ?_)⟩;rw[<- et,Kw yu m1 ho] at q;exact q
   ·have ew:w'=.ifs:=hw.resolve_right fun z=>e3 ((GY w').mpr z);subst ew;rw[<- et,Eu yu m1 ho]
  ·refine bz (v:=.ref ra) hR (au (by rw[<- era];exact zac (by lia))) (bz (v:=.int k) S8 (au (j:=0) rfl) ?_);rw[<- et,Cq yu (fun z=>e ((Br wd).mpr z)) (fun z=>e2 ((Bs wd).mpr z))] at q;exact q
 ·refine(eE _ _).mpr ?_;ac_nf;rw[<- et,Et (by lia)] at q;exact q
theorem Di:∀w:Wd,(fZ w=zab "stop")↔w=.stop:=by
 intro w;cases w<;>decide +kernel
theorem OK(T:Tx K mg t):bJ P w K mg base dy 2 t.jD t.j3 ["rows"] (NI K):=by
 have pW:=@GX P w _ _ base _ T;have qB:=@Qa P w _ _ base _ T;refine T.lK.F.lQ uj (fun vs H Q E h=>?_) (fun eT A outer s H vs Q E hr h=>?_)
 ·obtain⟨_,_,_,rfl,_⟩:=h;rfl
 obtain⟨R,rows,b,rfl,rr,lr,tx,q⟩:=h;have nd:=uj.nd;have hu:=dS hr;refine⟨_,[some (V.ref R),none,none,none,none,none,none,none],(ah (c5 1 nd (da pW T.jG hr (bc 0 aa)))
 (ah (c5 2 nd (bu aa))
 (ah (du PassesOwn.never rfl (ik rfl T.js (ag (bX bE rfl T.g8 PyProof.Rows.Boot.«len» (bc 0 aa)) aa bG)) (lX 3 nd)
 (ah (rJ (aC a9 (pv 0) (pv 3) kZ) (AN rfl (bM (lX 4 nd) (bM (lX 5 nd) iA))))
 (ah (c5 6 nd (da qB T.kx hr (bc 0 (bc 1 (ag (bf dP (pv 3) aj) aa ja)))))
 (ak (bh (aD bN (pv 5) aU (aR _))
 (ak (bK (dw zaj zan zao bD (pv 2) (ag (aS (bc 4 (bc 5 (ag (aS (ag aj aa aP)) aa bW)))) aa bW))))
 (ak (bh (aD i9 (pv 5) (aS (cO (vs:=[.str "if",.str "while"]) (by kernel_rfl))) rfl)
 (ah (c5 7 nd (aC AI (b9 hu (pv 1) (pv 3) (fun _ _=>rfl)) aj ao))
 (ah (bh (aD AA (aC AI (b9 hu (pv 1) (pv 3) (fun _ _=>rfl)) aj ao) eV (aR _))
 (ak (c5 7 nd (aC AI (b9 hu (pv 1) (pv 3) (fun _ _=>rfl)) aj ao)))
 aV)
 (ak (bK (dw zaj zan zao bD (pv 2) (ag (aS (bc 4 (bc 5 (ag (aS (bc 6 (ag (da qB T.kx hr (bc 0 (bc 1 (ag (bf dP (pv 7) aj) aa ja)))) aa bG))) aa bW)))) aa bW))))))
 (ak (bh (aD tG (pv 5) (aS (cO (vs:=[.str "else",.str "end"]) (by kernel_rfl))) rfl)
 (ak (bK (dw zaj zan zao bD (pv 2) (ag (aS (bc 4 (bc 5 (ag (aS (bc 6 aa)) aa bW)))) aa bW))))
 aV)))))))))
 (ak (aO (pv 2)))))),rfl,?_⟩
 have line:zds=2 ^ 24:=rfl;have ok:=zW tx;have wf:=HE tx;have rrH:=rr;rw[Rep.bL] at rr;obtain⟨_,rv,e,hR,rr⟩:=rr;cases e;have PX:rv.length=rows.length:=by rw[rr.length,zad]
 refine av fun U1 eE=>?_;ac_nf;refine⟨R,rows,b,rfl,rrH,lr,tx,fun d H1 mt1=>(eE _ _).mpr (av fun U2 gh=>?_)⟩;clear eE;ac_nf;intro fl W7;refine(gh _ _).mpr (av fun U3 iY=>?_);clear gh;refine oY fun U hU=>?_;ac_nf;obtain⟨Af,ax,mi⟩:=mt1;have ac1:rO K H1 fl (upd H1 fl (.lst [])) [] []:=rO.new W7;generalize upd H1 fl (.lst [])=H2 at *;refine⟨R,rv,rfl,.inl ((mi.s.trans ac1.s).seq hR),_,rfl,by lia,by lia,hU _ _ ?_⟩;clear hU;rw[show ((rv.length:Int)).toNat=rv.length from za0 _];obtain⟨Pv,mf,dQ⟩:=wX fun (i:Nat) (σ:St) (H3:Hp) zq=>∀(z3 z4 z5 z6 z7:Option V) (us:List V),σ=[some (V.ref R),some (V.ref d),some (V.ref fl),z3,z4,z5,z6,z7]->rO K H1 fl H3 us ((bY rows (oK rows) 0 i).map eK)->us.length<=i->zq;refine kh (lo:=0) (n:=rv.length) Pv ((mf _ _ _ fun _ zk=>zk none none none none none [] rfl ac1 (zaf _))) (fun i σ H3 hi hv=>?_) (fun σ H3 hv=>?_)
 ·refine dQ _ _ _ hv _ fun z3 z4 z5 z6 z7 us kT ac lu=>?_;subst kT;clear hv;have done:=fun σ H7=>mf (i+1) σ H7;have li:i<rows.length:=by lia
  have ew:bY rows (oK rows) 0 (i+1)=bY rows (oK rows) 0 i++eG rows (oK rows) i:=by
   rw[dH,zbx,bY,bY,zav]
  have VE:=mi.same ac.s;have rr3:=rr.mono VE.s;obtain⟨ra,era,S8⟩:=AV rr3 (i:=i) (y:=rv[i]) (zac (by lia)) li;have yu:rows[i]?=some rows[i]:=zac li;generalize rows[i]=r at *;obtain⟨k,wd⟩:=r;obtain⟨_,_,o3⟩:=ok i li k wd yu;simp only[eO,zaT];rw[show (0:Int)+(i:Int)=(i:Int) by lia];have ZM:=VE.s.seq hR;have VF:Rep K H3 (.lst (rows.map mw)) (.ref R):=rrH.mono VE.s;refine av fun U4 ke=>?_;ac_nf;refine bz (v:=.ref ra) ZM (au (by rw[<- era];exact zac (by lia))) ⟨ra,_,rfl,S8,rfl,_,_,rfl,_,_,rfl,rfl,(ke _ _).mpr (av fun U5 uv=>?_)⟩;clear ke;simp only[zaT];ac_nf;refine⟨R,d,rows,b,H,i+1,by simp,VF,lr,tx,⟨Af,ax,VE⟩,(uv _ _).mpr ?_⟩;clear uv;ac_nf;generalize hm:oK rows=m at *;have put:∀(H4:Hp) (ws:List Int) (z:Option V),rO K H1 fl H4 us ((bY rows m 0 i).map eK)->eG rows m i=[(k,wd,ws)]->∀p,H4 p=none->∀p1,(upd H4 p (.tup (ws.map V.int))) p1=none->
   AK (V.ref fl) [V.ref p1] (upd (upd H4 p (.tup (ws.map V.int))) p1 (.tup [V.int k,V.str (fZ wd),V.ref p])) fun x H'=>Pv (i+1) [some (V.ref R),some (V.ref d),some (V.ref fl),some (V.int i),some (V.int k),some (V.str (fZ wd)),some (V.int (PG.to rows m (i+1))),z] H':=fun H4 ws z ac ea p hp p1 E9=>by
   obtain⟨y5,VG⟩:=ac.row (k:=k) (w:=wd) W7 hp E9;refine⟨fl,us,_,rfl,rfl,y5,by lia,done _ _ (fun _ zk=>zk _ _ _ _ _ (us++[V.ref p1]) rfl ?_ (by simp only[zae,zax];lia))⟩;rw[ew,zaw,ea];exact VG
  refine b7 (fun e=>⟨.inl ⟨rfl,_,.of ac.y⟩,fun p hp p1 E9=>?_⟩) (fun e p4 v8=>?_)
  ·have ewd:=(Di wd).mp e;subst ewd;exact put H3 [0] _ ac (by unfold eG;rw[yu]) p hp p1 E9
  ·refine⟨p4,_,rfl,.inr (.of ae),rfl,rfl,_,rfl,?_⟩;have s4:=aq.new v8 (.tup [V.str (zab "if"),V.str (zab "while")]);have VH:=ac.same s4;have VI:=VE.same s4;have VJ:=VF.mono s4;generalize upd H3 p4 (.tup [V.str (zab "if"),V.str (zab "while")])=H4 at *;rw[wK wd];by_cases hl:wd=.ifs\/wd=.fh
   ·obtain⟨x,ee,m1,h1,h2,h3⟩:=o3 hl;have gd:qD H4 d (V.int i) (some (.ref (Af i))):=.inl ⟨ax,.inl (i:Int),.inl VI.dd,rfl,by rw[VI.at_ i,m1];rfl⟩;have gl:=(VI.ls i x (some ee) m1).1;have ea:eG rows m i=[(k,wd,[PG.to rows m (i+1),PG.to rows m (x.getD ee+1)])]:=by
     unfold eG;rw[yu];rcases hl with rfl |rfl<;>simp only[m1]
    refine(zzp (decide_eq_true hl)).mpr ⟨d,_,rfl,gd,.inl (bz (v:=.int ee) (.of gl) (au (j:=1) rfl) ⟨d,_,rfl,gd,.inl (bz (v:=xI x) (.of gl) (au (j:=0) rfl) ?_)⟩)⟩;cases x with
    |none=>
     refine(zzp rfl).mpr ⟨.inl ⟨rfl,_,.of VH.y⟩,?_⟩;rw[JU];exact⟨R,d,rows,b,H,ee+1,by simp,VJ,lr,tx,⟨Af,ax,by rw[hm];exact VI⟩,by rw[hm];exact put H4 _ _ VH ea⟩
    |some y=>
     refine(zzn (by intro z;cases z)).mpr ⟨d,_,rfl,gd,.inl (bz (v:=.int y) (.of gl) (au (j:=0) rfl) ⟨.inl ⟨rfl,_,.of VH.y⟩,?_⟩)⟩;rw[JU];exact⟨R,d,rows,b,H,y+1,by simp,VJ,lr,tx,⟨Af,ax,by rw[hm];exact VI⟩,by rw[hm];exact put H4 _ _ VH ea⟩
   ·refine(zzn (by rw[decide_eq_false hl];exact zai)).mpr fun p5 yM=>?_;refine⟨p5,_,rfl,.inr (.of ae),rfl,rfl,_,rfl,?_⟩;have s5:=aq.new yM (.tup [V.str (zab "else"),V.str (zab "end")]);have VG:=VH.same s5;generalize upd H4 p5 (.tup [V.str (zab "else"),V.str (zab "end")])=H5 at *;rw[Rg wd];by_cases hn:wd=.oN\/wd=.fin
    ·refine(zzn (by rw[decide_eq_true hn];exact zai)).mpr (done _ _ (fun _ zk=>zk _ _ _ _ _ us rfl ?_ (by lia)));have ea:eG rows m i=[]:=by
      unfold eG;rw[yu];rcases hn with rfl |rfl<;>rfl
     rw[ew,ea,zav];exact VG
    ·refine(zzp (by rw[decide_eq_false hn];rfl)).mpr ⟨.inl ⟨rfl,_,.of VG.y⟩,put H5 [PG.to rows m (i+1)] _ VG ?_⟩;unfold eG;rw[yu];cases wd<;>first |rfl |exact zzb (.inl rfl) hl |exact zzb (.inr rfl) hl |exact zzb (.inl rfl) hn |exact zzb (.inr rfl) hn |exact zzb ((Di _).mpr rfl) e
 ·refine dQ _ _ _ hv _ fun z3 z4 z5 z6 z7 us kU ac lu=>?_;subst kU;rw[PX,wf] at ac;refine(iY _ _).mpr ?_;ac_nf;refine q fl us H3 (mi.s.trans ac.s) ?_ ac.y ac.f.HK;cases z:H fl with
  |none=>rfl
  |some o=>rw[mi.s _ _ z] at W7;cases W7
theorem OL(T:Tx K mg t){n:Nat}(iZ:bJ P w K mg base dy (n+1) t.cK t.cR ["body"] (AW K n)) :
 bJ P w K mg base dy (n+2) t.cK t.cR ["body"] (AW K (n+1)):=by
 refine T.eB.F.lQ kH (fun vs H Q E h=>?_) (fun eT A outer s H vs Q E hr h=>?_)
 ·obtain⟨_,_,_,rfl,_⟩:=h;rfl
 obtain⟨b,body,H0,rfl,s0,rb,hd,hf,pw,q⟩:=h;have nd:=kH.nd;have hu:=dS hr;refine⟨_,[some (V.ref b),none,none,none],(ah (c5 1 nd xn)
 (ah (du PassesOwn.never rfl (cH (pv 0)) (lX 2 nd)
 (ah (mZ hu (pv 1) (aC aM (pv 2) aj ao) (pv 2) rfl)
 (ak (du PassesOwn.never rfl (QF (oS JF (pv 2) (tj aj) sZ)) (lX 3 nd)
 (ak (bK (dw zb8 zcK PySem.F.type_dict_update HS (pv 1) (ag (da iZ T.eB hr (bc 3 aa)) aa bG))))))))
 (ak (aO (pv 1))))),rfl,?_⟩
 have line:zds=2 ^ 24:=rfl;rw[Rep.bL] at rb;obtain⟨_,xs,e,hx,rs⟩:=rb;cases e;have lx:xs.length=body.length:=by rw[rs.length,zad]
 have lb:=kl body;have sl:=mB body;refine av fun U1 eE=>?_;ac_nf;intro d MX;have s1:=aq.new MX (.dK []);have y1:(upd H d (.dK [])) d=some (.dK []):=ae;generalize upd H d (.dK [])=H1 at *;refine(eE _ _).mpr (av fun U2 gh=>?_);clear eE;refine fI fun U hU=>?_;ac_nf;refine⟨⟨xs,(s0.trans s1).seq hx⟩,hU _ _ ?_⟩;clear hU;obtain⟨Pv,mf,dQ⟩:=wX fun (i:Nat) (σ:St) (H3:Hp) zq=>∀(z2 z3:Option V) (us:List V),σ=[some (V.ref b),some (V.ref d),z2,z3]->aq H H3->us.length=(az (body.take i)).length->H3 d=some (.dK (cT (az (body.take i)) us))->aN K H0 ((az (body.take i)).map eI) us->zq;refine fH (K:=K) (a:=b) (xs:=xs) Pv ((mf _ _ _ fun _ zk=>zk none none [] rfl s1 rfl y1 .nil)) (fun i σ H3 _ hv=>?_) ?_ ?_
 ·refine dQ _ _ _ hv _ fun _ _ _ _ s3 _ _ _=>?_;exact(s0.trans s3).seq hx
 ·intro i y σ H3 hi hv;refine dQ _ _ _ hv _ fun z2 z3 us kT s3 lu y3 r3=>?_;subst kT;clear hv;have done:=fun σ H7=>mf (i+1) σ H7;have li:i<body.length:=by have:=(zak.mp hi).1;lia
  obtain⟨v,hv,rv⟩:=rs.get (i:=i) (d:=eI body[i]) (by rw[zal,zac li];rfl);rw[hi] at hv;cases hv;have mem:body[i]∈body:=zau li;obtain⟨fm,dm⟩:=qm body _ mem;have et:az (body.take (i+1))=az (body.take i)++body[i]::(aK body[i]).flatMap az:=by
   rw[zaQ li,pE,CA,Gm]
  rw[et] at done;have eb:az body=(az (body.take i)++body[i]::(aK body[i]).flatMap az)++az (body.drop (i+1)):=by
   rw[<- et,<- pE,zbB]
  rw[eb] at pw sl;have pw:=(zbI.mp pw).1;have sl:(az (body.take i)++body[i]::(aK body[i]).flatMap az).length<=1000:=by
   rw[zae] at sl;lia
  generalize body[i]=st at *;generalize az (body.take i)=pre at *;obtain⟨sa,ys,rfl,hs,l2,l7,e1,rc⟩:=NK st rv;simp only[eO,zaT];refine av fun U3 iY=>?_;ac_nf;have fresh:(Sum.inl st.row:Key) ∉ (cT pre us).map (·.1):=by
   rw[ig _ _ lu];intro z;obtain⟨x,hx,e⟩:=zaF.mp z;have e:=Sum.inl.inj e;have:=(zbI.mp pw).2.2 x hx st (zaq ..);lia
  have lr:(cT pre us).length<=1000:=by
   have:=congrArg za5 (ig _ _ lu);rw[zad,zad] at this;rw[zae] at sl;lia
  refine aG ((s0.trans s3).a7 hs) (v:=.int st.row) (au (j:=1) e1) ⟨d,_,rfl,.inl ⟨_,.inl st.row,y3,rfl,by lia,rfl⟩,(iY _ _).mpr ?_⟩;clear iY;rw[xJ fresh];have y4:(upd H3 d (.dK (cT pre us++[(Sum.inl st.row,V.ref sa)]))) d=some (.dK (cT (pre++[st]) (us++[V.ref sa]))):=by rw[ae,qo _ _ _ _ lu];rfl
  have s4:aq H (upd H3 d (.dK (cT pre us++[(Sum.inl st.row,V.ref sa)]))):=fun z o e=>by rw[aw (ai e MX)];exact s3 z o e
  generalize upd H3 d (.dK (cT pre us++[(Sum.inl st.row,V.ref sa)]))=H4 at *;refine KR fun U hU=>?_;simp only[Ws];ac_nf;refine⟨5,rfl,sa,ys,rfl,(s0.trans s4).a7 hs,?_,fun p hp=>⟨p,rfl,⟨_,.of ae⟩,hU _ _ ?_⟩⟩
  ·intro z;have z1:=z.1;rw[show (5:Int)=((5:Nat):Int) from rfl,HT.qd] at z1;lia
  clear hU;have s5:=s4.trans (aq.new hp (.tup (jt ys (some 5) none)));have y5:=aq.new hp (.tup (jt ys (some 5) none)) _ _ y4;have h5:(upd H4 p (.tup (jt ys (some 5) none))) p=some (.tup (jt ys (some 5) none)):=ae;have ZP:p≠d:=(ai y4 hp).symm;generalize upd H4 p (.tup (jt ys (some 5) none))=H5 at *;generalize jt ys (some 5) none=bv at *;have OG:bv.length=(aK st).length:=by rw[rc.length,zad]
  obtain⟨Pw,yt,jH⟩:=wX fun (j:Nat) (σ:St) (H6:Hp) zq=>∀(z3:Option V) (wt:List V),σ=[some (V.ref b),some (V.ref d),some (V.ref sa),z3]->aq H H6->H6 p=some (.tup bv)->wt.length=(pre++st::((aK st).take j).flatMap az).length->H6 d=some (.dK (cT (pre++st::((aK st).take j).flatMap az) wt))->aN K H0 ((pre++st::((aK st).take j).flatMap az).map eI) wt->zq;refine M9 (K:=K) (a:=p) (xs:=bv) Pw ((yt _ _ _ fun _ zk=>zk z3 (us++[V.ref sa]) rfl s5 h5 (by simp[lu]) y5 ?_)) (fun j σ H6 _ hv=>?_) ?_ ?_
  ·rw[zc4,zbk,zaw];exact r3.append (.cons rv .nil)
  ·refine jH _ _ _ hv _ fun _ _ _ _ h6 _ _ _=>?_;exact .of h6
  ·intro j y σ H6 hj hv;refine jH _ _ _ hv _ fun ZQ wt kT s6 h6 MY y6 r6=>?_;subst kT;clear hv;have Dj:=fun σ H7=>yt (j+1) σ H7;have lj:j<(aK st).length:=by have:=(zak.mp hj).1;lia
   obtain⟨v,hv,VL⟩:=rc.get (i:=j) (d:=.lst ((aK st)[j].map eI)) (by rw[zal,zac lj];rfl);rw[hj] at hv;cases hv;have mj:(aK st)[j]∈aK st:=zau lj;obtain⟨fb,db⟩:=jZ st _ mj;have ej:((aK st).take (j+1)).flatMap az=((aK st).take j).flatMap az++az (aK st)[j]:=by
    rw[zaQ lj,za8];simp
   have ea:(aK st).flatMap az=((aK st).take j).flatMap az++az (aK st)[j]++((aK st).drop (j+1)).flatMap az:=by
    rw[<- ej,<- za8,zbB]
   rw[ej] at Dj;rw[ea] at pw sl;generalize (aK st)[j]=bb at *;generalize ((aK st).take j).flatMap az=mid at *;generalize ((aK st).drop (j+1)).flatMap az=rest at *;have pw2:((pre++st::mid)++az bb).Pairwise (fun a b=>a.row<b.row):=by
    rw[show pre++st::(mid++az bb++rest)=((pre++st::mid)++az bb)++rest by simp] at pw;exact(zbI.mp pw).1
   have SN:(pre++st::mid).length+(az bb).length<=1000:=by
    simp only[zae,zah] at sl ⊢;lia
   obtain⟨ab,_,rfl,_⟩:=Rep.bL.mp VL;simp only[eO,zaT];ac_nf;refine⟨.inr (.inr (.inl ⟨rfl,.inl ⟨_,y6⟩⟩)),ab,bb,H0,rfl,s0.trans s6,VL,by lia,by lia,(zbI.mp pw2).2.1,fun d2 Gs H7 s7 hd2 l2 y7 r7=>?_⟩;have nd2:d≠d2:=ai y6 hd2;have lk1:(cT (pre++st::mid) wt).length=(pre++st::mid).length:=by
    have:=congrArg za5 (ig _ _ MY)
    rwa [zad,zad] at this
   have lk2:(cT (az bb) Gs).length=(az bb).length:=by
    have:=congrArg za5 (ig _ _ l2)
    rwa [zad,zad] at this
   refine⟨d,d2,_,_,rfl,rfl,nd2,s7 _ _ y6,y7,by lia,?_⟩;rw[ie _ _ (by rw[<- qo _ _ _ _ MY,ig _ _ (by simp only[zae] at *;lia)];exact rP pw2),<- qo _ _ _ _ MY];refine Dj _ _ (fun _ zk=>zk _ (wt++Gs) rfl (fun z o e=>by rw[aw (ai e MX)];exact s7 _ _ (s6 z o e)) (by rw[aw ZP];exact s7 _ _ h6) (by simp only[zae,zah] at *;lia) ?_ ?_)
   ·rw[ae];simp
   ·rw[show pre++st::(mid++az bb)=(pre++st::mid)++az bb by simp,zaw];exact r6.append r7
  ·intro σ H6 hv;refine jH _ _ _ hv _ fun ZQ wt kU s6 h6 MY y6 r6=>?_;subst kU;rw[OG,zaU] at MY y6 r6;exact done _ _ (fun _ zk=>zk _ _ wt rfl s6 MY y6 r6)
 ·intro σ H3 hv;refine dQ _ _ _ hv _ fun z2 z3 us kU s3 lu y3 r3=>?_;subst kU;rw[lx,zaU] at lu y3 r3;refine(gh _ _).mpr ?_;ac_nf;exact q d us H3 s3 MX lu y3 r3
theorem Dl(T:Tx K mg t):∀n,bJ P w K mg base dy (n+1) t.cK t.cR ["body"] (AW K n)
 |0=>by
  have no:∀vs H Q E,¬AW K 0 vs H Q E:=fun vs H Q E h=>by obtain⟨_,_,_,_,_,_,h,_⟩:=h;lia
  exact⟨fun vs H Q E h=>zzb h (no vs H Q E),fun A outer s H args us vs Q E _ _ _ _ h=>zzb h (no vs H Q E)⟩
 |n+1=>OL T (Dl T n)
theorem Mo(T:Tx K mg t){n:Nat}(fN:bJ P w K mg base dy (n+2) t.cA t.cE ["body"] (qp K n)) :
 bJ P w K mg base dy (n+3) t.cA t.cE ["body"] (qp K (n+1)):=by
 have pV:bJ P w K mg base dy 1 t.gB t.gJ ["statement"] (xH K):=uH T;refine T.fM.F.lQ mI (fun vs H Q E h=>?_) (fun eT A outer s H vs Q E hr h=>?_)
 ·obtain⟨_,_,_,rfl,_⟩:=h;rfl
 obtain⟨b,body,H0,rfl,s0,rb,hd,hf,q⟩:=h;have nd:=mI.nd;refine⟨_,[some (V.ref b),none,none,none],(ah (c5 1 nd (bu aa))
 (ah (du PassesOwn.never rfl (cH (pv 0)) (lX 2 nd)
 (ah (bK (dw zaj zan zao bD (pv 1) (bc 2 aa)))
 (ak (du PassesOwn.never rfl (cH (da pV T.jF hr (bc 2 aa))) (lX 3 nd)
 (ak (bK (dw zaj zb1 zb2 uO (pv 1) (ag (da fN T.fM hr (bc 3 aa)) aa bG))))))))
 (ak (aO (pv 1))))),rfl,?_⟩
 have line:zds=2 ^ 24:=rfl;rw[Rep.bL] at rb;obtain⟨_,xs,e,hx,rs⟩:=rb;cases e;have lx:xs.length=body.length:=by rw[rs.length,zad]
 have lb:=kl body;have sl:=mB body;refine av fun U1 eE=>?_;ac_nf;intro d MX;have s1:=aq.new MX (.lst []);have y1:(upd H d (.lst [])) d=some (.lst []):=ae;generalize upd H d (.lst [])=H1 at *;refine(eE _ _).mpr (av fun U2 gh=>?_);clear eE;refine fI fun U hU=>?_;ac_nf;refine⟨⟨xs,(s0.trans s1).seq hx⟩,hU _ _ ?_⟩;clear hU;obtain⟨Pv,mf,dQ⟩:=wX fun (i:Nat) (σ:St) (H3:Hp) zq=>∀(z2 z3:Option V) (us:List V),σ=[some (V.ref b),some (V.ref d),z2,z3]->aq H H3->us.length=(az (body.take i)).length->H3 d=some (.lst us)->aN K H0 ((az (body.take i)).map eI) us->zq;refine fH (K:=K) (a:=b) (xs:=xs) Pv ((mf _ _ _ fun _ zk=>zk none none [] rfl s1 rfl y1 .nil)) (fun i σ H3 _ hv=>?_) ?_ ?_
 ·refine dQ _ _ _ hv _ fun _ _ _ _ s3 _ _ _=>?_;exact(s0.trans s3).seq hx
 ·intro i y σ H3 hi hv;refine dQ _ _ _ hv _ fun z2 z3 us kT s3 lu y3 r3=>?_;subst kT;clear hv;have done:=fun σ H7=>mf (i+1) σ H7;have li:i<body.length:=by have:=(zak.mp hi).1;lia
  obtain⟨v,hv,rv⟩:=rs.get (i:=i) (d:=eI body[i]) (by rw[zal,zac li];rfl);rw[hi] at hv;cases hv;have mem:body[i]∈body:=zau li;obtain⟨fm,dm⟩:=qm body _ mem;have et:az (body.take (i+1))=az (body.take i)++body[i]::(aK body[i]).flatMap az:=by
   rw[zaQ li,pE,CA,Gm]
  rw[et] at done;have eb:az body=(az (body.take i)++body[i]::(aK body[i]).flatMap az)++az (body.drop (i+1)):=by
   rw[<- et,<- pE,zbB]
  rw[eb] at sl;have sl:(az (body.take i)++body[i]::(aK body[i]).flatMap az).length<=1000:=by
   rw[zae] at sl;lia
  generalize body[i]=st at *;generalize az (body.take i)=pre at *;simp only[eO,zaT];refine av fun U3 iY=>?_;ac_nf;refine⟨.inl ⟨rfl,_,.of y3⟩,d,us,y,rfl,rfl,y3,by simp only[zae,zah] at sl;lia,(iY _ _).mpr ?_⟩;clear iY;have y4:(upd H3 d (.lst (us++[y]))) d=some (.lst (us++[y])):=ae;have s4:aq H (upd H3 d (.lst (us++[y]))):=fun z o e=>by rw[aw (ai e MX)];exact s3 z o e
  generalize upd H3 d (.lst (us++[y]))=H4 at *;refine fI fun U hU=>?_;ac_nf;refine⟨y,st,H0,rfl,rv,s0.trans s4,fun p bv H5 Mp hp h5 rc=>⟨p,rfl,⟨_,.of h5⟩,hU _ _ ?_⟩⟩;clear hU;have s5:=s4.trans Mp;have y5:=Mp _ _ y4;have ZP:p≠d:=(ai y4 hp).symm;have OG:bv.length=(aK st).length:=by rw[rc.length,zad]
  obtain⟨Pw,yt,jH⟩:=wX fun (j:Nat) (σ:St) (H6:Hp) zq=>∀(z3:Option V) (wt:List V),σ=[some (V.ref b),some (V.ref d),some y,z3]->aq H H6->H6 p=some (.lst bv)->wt.length=(pre++st::((aK st).take j).flatMap az).length->H6 d=some (.lst wt)->aN K H0 ((pre++st::((aK st).take j).flatMap az).map eI) wt->zq;refine fH (K:=K) (a:=p) (xs:=bv) Pw ((yt _ _ _ fun _ zk=>zk z3 (us++[y]) rfl s5 h5 (by simp[lu]) y5 ?_)) (fun j σ H6 _ hv=>?_) ?_ ?_
  ·rw[zc4,zbk,zaw];exact r3.append (.cons rv .nil)
  ·refine jH _ _ _ hv _ fun _ _ _ _ h6 _ _ _=>?_;exact .of h6
  ·intro j y' σ H6 hj hv;refine jH _ _ _ hv _ fun ZQ wt kT s6 h6 MY y6 r6=>?_;subst kT;clear hv;have Dj:=fun σ H7=>yt (j+1) σ H7;have lj:j<(aK st).length:=by have:=(zak.mp hj).1;lia
   obtain⟨v,hv,VL⟩:=rc.get (i:=j) (d:=.lst ((aK st)[j].map eI)) (by rw[zal,zac lj];rfl);rw[hj] at hv;cases hv;have mj:(aK st)[j]∈aK st:=zau lj;obtain⟨fb,db⟩:=jZ st _ mj;have ej:((aK st).take (j+1)).flatMap az=((aK st).take j).flatMap az++az (aK st)[j]:=by
    rw[zaQ lj,za8];simp
   have ea:(aK st).flatMap az=((aK st).take j).flatMap az++az (aK st)[j]++((aK st).drop (j+1)).flatMap az:=by
    rw[<- ej,<- za8,zbB]
   rw[ej] at Dj;rw[ea] at sl;generalize (aK st)[j]=bb at *;generalize ((aK st).take j).flatMap az=mid at *;generalize ((aK st).drop (j+1)).flatMap az=rest at *;have SN:(pre++st::mid).length+(az bb).length<=1000:=by
    simp only[zae,zah] at sl ⊢;lia
   obtain⟨ab,_,rfl,_⟩:=Rep.bL.mp VL;simp only[eO,zaT];ac_nf;refine⟨.inl ⟨rfl,_,.of y6⟩,ab,bb,H0,rfl,s0.trans s6,VL,by lia,by lia,fun d2 Gs H7 s7 hd2 y7 r7=>?_⟩;have l2:Gs.length=(az bb).length:=by rw[r7.length,zad]
   refine⟨d,d2,_,_,rfl,rfl,s7 _ _ y6,y7,by lia,?_⟩;refine Dj _ _ (fun _ zk=>zk _ (wt++Gs) rfl (fun z o e=>by rw[aw (ai e MX)];exact s7 _ _ (s6 z o e)) (by rw[aw ZP];exact s7 _ _ h6) (by simp only[zae,zah] at *;lia) ae ?_);rw[show pre++st::(mid++az bb)=(pre++st::mid)++az bb by simp,zaw];exact r6.append r7
  ·intro σ H6 hv;refine jH _ _ _ hv _ fun ZQ wt kU s6 h6 MY y6 r6=>?_;subst kU;rw[OG,zaU] at MY r6;exact done _ _ (fun _ zk=>zk _ _ wt rfl s6 MY y6 r6)
 ·intro σ H3 hv;refine dQ _ _ _ hv _ fun z2 z3 us kU s3 lu y3 r3=>?_;subst kU;rw[lx,zaU] at lu r3;refine(gh _ _).mpr ?_;ac_nf;exact q d us H3 s3 MX y3 r3
theorem As(T:Tx K mg t):∀n,bJ P w K mg base dy (n+2) t.cA t.cE ["body"] (qp K n)
 |0=>by
  have no:∀vs H Q E,¬qp K 0 vs H Q E:=fun vs H Q E h=>by obtain⟨_,_,_,_,_,_,h,_⟩:=h;lia
  exact⟨fun vs H Q E h=>zzb h (no vs H Q E),fun A outer s H args us vs Q E _ _ _ _ h=>zzb h (no vs H Q E)⟩
 |n+1=>Mo T (As T n)
theorem Qb:∀w:Wd,Ni (V.str (fZ w)) [V.str (zab "ask"),V.str (zab "put")]=decide (w=.ask\/w=.put):=by
 intro w;cases w<;>decide +kernel
theorem Qc:∀w:Wd,(fZ w=zab "stop")↔w=.stop:=by
 intro w;cases w<;>decide +kernel
theorem Qd:∀w:Wd,(fZ w=zab "must")↔w=.cu:=by
 intro w;cases w<;>decide +kernel
theorem Sj{st:bI}(h:st.wd=.stop):∃k,st=.stop k:=by
 cases st<;>first |exact⟨_,rfl⟩ |cases h
theorem GZ(vals:List Int)(j:Nat)(hj:j<vals.length)(x:Int):jt (vals.map V.int) none (some (j:Int))++[V.int x]++jt (vals.map V.int) (some ((j:Int)+1)) none=(vals.set j x).map V.int:=by
 unfold jt;rw[HT.oR,HT.qd,show ((j:Int)+1)=((j+1:Nat):Int) by lia,HT.qd,HT.oR];rw[zad,zcn (by lia),zcn (by lia),zc0,Nat.sub_zero];rw[zbw (l:=List.drop (j+1) (vals.map V.int)) (by rw[zbN,zad];lia)];rw[List.set_eq_take_append_cons_drop,zzp hj];simp
theorem Mq{st:bI}(h:¬(st.wd=.ask\/st.wd=.put))(h1:st.wd≠.say)(h2:st.wd≠.stop):st.wd=.cu\/st.wd=.ifs\/st.wd=.fh:=by
 cases st<;>simp[bI.wd] at h h1 h2 ⊢
theorem Qe{st:bI}{sg:W}{l r:PM.Tr}(h:Rl st)(c:pH st=some (sg,l,r)):sg=[60]\/sg=[61]:=by
 have key:sg∈BO:=by
  cases st<;>simp only[pH,zaO.injEq,Prod.mk.injEq,reduceCtorEq] at c<;>obtain⟨rfl,rfl,rfl⟩:=c<;>exact h
 simpa[BO] using key
theorem Sk{bs:List gm}(nb:(bs.map (·.name)).Nodup){b:W}(hb:b∈bs.map (·.name)):(bs.map fun b=>S b.name)[c7 bs b]?=some (S b)/\∀m,m<c7 bs b->(bs.map fun b=>S b.name)[m]?≠some (S b):=by
 obtain⟨hx,ex⟩:=kC hb;refine⟨by rw[zal,zac hx];show some (S bs[c7 bs b].name)=_;rw[ex],fun m hm e=>?_⟩;have lm:m<bs.length:=by lia
 rw[zal,zac lm] at e;have e:=mq.mp (zaO.inj e);have p1:=zbJ.mp nb m (c7 bs b) (by simpa using lm) (by simpa using hx) hm;rw[zbu,zbu] at p1;exact p1 (e.trans ex.symm)
theorem wu(T:Tx K mg t):bJ P w K mg base dy 4 t.gD t.hX ["boxes", "statement", "ways", "values", "figure"] (EJ K):=by
 have cV:=@sF P w _ _ base _ T 3;refine T.iW.F.lQ oI (fun vs H Q E h=>?_) (fun eT A outer s H vs Q E hr h=>?_)
 ·obtain⟨_,_,_,_,_,_,_,_,_,_,rfl,_⟩:=h;rfl
 obtain⟨B,ta,wa,va,fv,bs,st,ws,vals,fig,rfl,rB,rv,S9,E5,nb,uZ,bp,lv,U0,po,so,w0,w1,q⟩:=h;have nd:=oI.nd;have hu:=dS hr;refine⟨_,[some (.ref B),some (.ref ta),some (.ref wa),some (.ref va),some fv,none,none,none,none,none,none,none],(ah (Nr (i:=5) nd rfl (zbq rfl) (own:=["box"]) (ix:=[]) rfl (by rfl) (by rfl) (cH (pv 0)) (fun _ _ _ _=>(fY (i:=0) (by show List.Nodup (["box"]:List Str);decide +kernel) rfl (zbq rfl))) (fun _ _ _ _=>iC) (fun _ _ _ _=>(aC (iD (K:=K) rfl) (pv 0) aj ao)))
 (ah (c5 6 nd (rT rfl rfl T.pU rfl T.C6 (bc 5 (bc 3 aa))))
 (ah (c5 7 nd (aC aM (pv 1) aj ao))
 (ah (bh (aD i9 (pv 7) (aS (cO (vs:=[.str "ask",.str "put"]) (by kernel_rfl))) rfl)
 (ah (c5 8 nd (pv 4))
 (ah (bh (aD bN (pv 7) aU (aR _))
 (ak (c5 8 nd (da cV T.cL hr (ag (aC aM (pv 1) aj ao) (bc 6 aa) aX))))
 aV)
 (ah (c5 9 nd (dw zaj PySem.F.slot_list_index PySem.F.type_list_index Ih (pv 5) (ag (aC aM (pv 1) aj ao) aa aX)))
 (ah (c5 3 nd (bf wM (bf wM (oS Gv (pv 3) sZ (tj (pv 9))) (aS (ag (bf cI (pv 8) (aC aM (aC a9 (pv 0) (pv 9) kZ) aj ao)) aa ja))) (oS Gv (pv 3) (tj (bf dP (pv 9) aj)) sZ)))
 (ak (aO (aS (ag (aS (ag (aC aM (pv 2) aj ao) (bc 3 aa) aX)) (ag eV aa aP) bW))))))))
 aV)
 (ah (bh (aD bN (pv 7) aU (aR _))
 (ak (aO (aS (ag (aS (ag (aC aM (pv 2) aj ao) (bc 3 aa) aX)) (ag (da cV T.cL hr (ag (aC aM (pv 1) aj ao) (bc 6 aa) aX)) aa bG) bW))))
 aV)
 (ah (bh (aD bN (pv 7) aU (aR _))
 (ak (aO (aS (ag (aS (ag (aC aM (pv 2) aj ao) (bc 3 aa) aX)) (ag eV aa aP) bW))))
 aV)
 (ah (c5 10 nd (da cV T.cL hr (ag (aC aM (pv 1) aj ao) (bc 6 aa) aX)))
 (ah (c5 11 nd (da cV T.cL hr (ag (aC aM (pv 1) aj ao) (bc 6 aa) aX)))
 (ah (bh (PW.pt (pw_or (PW.pt (pw_and (aD oQ (pv 10) (pv 11) (aR _)) (pw_and1 (aD bN (aC aM (pv 1) aj ao) aU (aR _))))) (pw_or1 (PW.pt (pw_and (aD bN (pv 10) (pv 11) (aR _)) (pw_and1 (aD bN (aC aM (pv 1) aj ao) aU (aR _))))))))
 (ak (aO (aS (ag (aS (ag (aC aM (pv 2) aj ao) (bc 3 aa) aX)) (ag eV aa aP) bW))))
 aV)
 (ah (bh (aD bN (pv 7) aU (aR _))
 (ak (aO (aS (cO (vs:=[.cB,.cB]) (by kernel_rfl)))))
 aV)
 (ak (aO (aS (ag (aS (ag (aC aM (pv 2) aj ao) (bc 3 aa) aX)) (ag eV aa aP) bW)))))))))))))),rfl,?_⟩
 obtain⟨W8,hB,lB,hb⟩:=mU rB;refine av fun U1 eE=>?_;ac_nf;simp only[jS];ac_nf;refine⟨⟨_,hB⟩,fun D hD=>?_⟩;have lb':W8.length<=16000000:=by lia
 refine km (K:=K) (r:=[]) (fun i=>V.str (S (bs.getD i ⟨[],0,0⟩).name)) hB lb' hD (fun i x H2 hx s2 R hR=>?_) (fun H1 s1 h1=>(eE _ _).mpr (av fun U2 gh=>?_))
 ·obtain⟨a,rfl,ha⟩:=hb i x hx;ac_nf;exact aG (s2.a7 ha) (v:=.str (S (bs.getD i ⟨[],0,0⟩).name)) (au (j:=0) rfl) hR
 clear eE;rw[lB,jd (fun b:gm=>V.str (S b.name)) ⟨[],0,0⟩ bs] at h1;ac_nf;simp only[WC];ac_nf;have ZR:(vals.map V.int).length=bs.length:=by rw[zad];exact lv
 refine⟨D,va,bs.map fun b=>.inr (S b.name),vals.map V.int,rfl,?_,s1.a7 E5,by rw[zad,zad];exact lv,fun d hd=>(gh _ _).mpr (av fun U3 iY=>?_)⟩
 ·rw[zbj];exact .of h1
 rw[nC,ie _ [] (by rw[zaK,lq _ _ ZR];exact names_nodup nb),zaK];clear gh;have s2:=s1.trans (aq.new hd (HO.dK (cF bs (vals.map V.int))));have hd2:upd H1 d (HO.dK (cF bs (vals.map V.int))) d=some (.dK (cF bs (vals.map V.int))):=ae;have MQ:=aq.new hd (HO.dK (cF bs (vals.map V.int))) _ _ h1;generalize upd H1 d (HO.dK (cF bs (vals.map V.int)))=H2 at s2 hd2 MQ ⊢;have sel:∃ds,bQ K H ta (.str (fZ st.wd)::ds):=by
  cases st<;>(rw[eI,Rep.bg] at rv;obtain⟨ta,ys,ee,hs,rs⟩:=rv;cases ee;rw[aN.aI] at rs;obtain⟨v0,t0,rfl,e0,rs⟩:=rs;rw[Rep.bA] at e0;subst e0;exact⟨_,hs⟩)
 obtain⟨ds,hs⟩:=sel;ac_nf;refine aG (s2.a7 hs) (v:=.str (fZ st.wd)) (au (j:=0) rfl) ((iY _ _).mpr (av fun U4 ke=>?_));clear iY;have e0:ws[0]?=some (ws.getD 0 0):=by rw[zap,zac w0];rfl
 have q0:tw (ws.map V.int) ((0:Nat):Int)=some (V.int (ws.getD 0 0)):=au (by rw[zal,e0];rfl);have afk:vals.length<=10:=by lia
 have line:zds=2 ^ 24:=rfl;ac_nf;intro z hz;have s3:=s2.trans (aq.new hz (HO.tup [V.str (zab "ask"),V.str (zab "put")]));have MJ:=aq.new hz (HO.tup [V.str (zab "ask"),V.str (zab "put")]) _ _ hd2;have Jb:=aq.new hz (HO.tup [V.str (zab "ask"),V.str (zab "put")]) _ _ MQ;have hz3:upd H2 z (HO.tup [V.str (zab "ask"),V.str (zab "put")]) z=some (HO.tup [V.str (zab "ask"),V.str (zab "put")]):=ae;generalize upd H2 z (HO.tup [V.str (zab "ask"),V.str (zab "put")])=H3 at s3 MJ Jb hz3 ⊢;refine⟨z,_,rfl,.inr (.of hz3),rfl,rfl,_,rfl,b7 (fun e=>?_) (fun e=>?_)⟩
 ·clear ke;have e1:=e;simp only[zaz,if_false,Qb,decide_eq_true_eq] at e1;have ZS:∃b x y ys,b∈bs.map (·.name)/\bQ K H ta (x::y :: .str (S b)::ys)/\((st.wd=.ask/\lC bs st ws vals fig=(some (ws.getD 0 0,tU bs vals b (fig%eQ bs b)),none))\/(st.wd=.put/\∃tr u,ys=[u]/\Rep K H (oJ tr) u/\DC bs vals tr/\lC bs st ws vals fig=(some (ws.getD 0 0,tU bs vals b (wv bs vals tr%eQ bs b)),none))):=by
   rcases e1 with e1 |e1
   ·obtain⟨k,b,rfl⟩:=LZ e1;obtain⟨_,ee,hT⟩:=Am rv;cases ee;exact⟨b,_,_,_,po,hT,.inl ⟨rfl,rfl⟩⟩
   ·obtain⟨k,b,tr,rfl⟩:=L1 e1;obtain⟨_,u,ee,hT,ru⟩:=An rv;cases ee;exact⟨b,_,_,_,po.1,hT,.inr ⟨rfl,tr,u,rfl,ru,po.2,rfl⟩⟩
  obtain⟨b,c1,c2,c3,sM,hT,Qf⟩:=ZS;obtain⟨hx,ex⟩:=kC sM;obtain⟨ni,nn⟩:=Sk nb sM;have lj:c7 bs b<vals.length:=by lia
  obtain⟨vb,ZT⟩:∃vb,W8[c7 bs b]?=some vb:=⟨_,zac (by lia)⟩
  obtain⟨ab,rfl,Gk⟩:=hb _ _ ZT;have sz:(bs.getD (c7 bs b) ⟨[],0,0⟩).size=eQ bs b:=by
   unfold eQ;rw[zap,zac hx];rfl
  rw[sz] at Gk;refine b7 (fun e2=>?_) (fun e2=>?_)
  ·have ep:=(OC _).mp e2;rcases Qf with ⟨ea,_⟩ |⟨_,tr,u,rfl,ru,tv,es⟩
   ·rw[ep] at ea;cases ea
   rw[es] at q;refine aG (s3.a7 hT) (v:=u) (au (j:=3) rfl) ⟨u,d,tr,_,rfl,ru.mono s3,MJ,tv.1,by have:=tv.2;lia,by have:=tv.2;lia,fun H5 Mp=>?_⟩;have s5:=s3.trans Mp;refine⟨.inl ⟨rfl,_,.of (Mp _ _ Jb)⟩,aG (s5.a7 hT) (v:=.str (S b)) (au (j:=2) rfl) ⟨D,bs.map fun b=>S b.name,S b,c7 bs b,rfl,rfl,by rw[zbj];exact Mp _ _ Jb,ni,nn,⟨_,rfl,va,_,rfl,s5.a7 E5,fun p1 H6 ZU k1=>?_⟩⟩⟩;have s6:=s5.trans ZU;refine bz (s6.seq hB) (v:=.ref ab) (au ZT) (aG (s6.a7 Gk) (v:=.int (eQ bs b)) (au (j:=1) rfl) ⟨_,_,rfl,rfl,qz bp b,fun p2 yQ=>?_⟩);have s7:=s6.trans (aq.new yQ (HO.tup [V.int (wv bs vals tr%eQ bs b)]));refine⟨p1,p2,_,_,rfl,rfl,(aq.new yQ _).a7 k1,.of ae,?_,fun p3 H8 ZV k3=>?_⟩
   ·have:=ff (vals.map V.int) none (some (c7 bs b:Int));rw[zad] at this;simp only[zah,zaB];lia
   have s8:=s7.trans ZV;refine⟨_,_,rfl,rfl,_,rfl,va,_,rfl,s8.a7 E5,fun p4 H9 VM k4=>⟨p3,p4,_,_,rfl,rfl,VM.a7 k3,k4,?_,fun p5 vC Sl k5=>?_⟩⟩
   ·have h1:=ff (vals.map V.int) none (some (c7 bs b:Int));have h2:=ff (vals.map V.int) (some ((c7 bs b:Int)+1)) none;rw[zad] at h1 h2;simp only[zae,zah,zaB];lia
   have sP:=(s8.trans VM).trans Sl;rw[GZ vals _ lj] at k5;refine aG (sP.a7 S9) (v:=.int (ws.getD 0 0)) q0 fun p6 i0 p7 uz=>?_;exact q p7 _ _ ((sP.trans (aq.new i0 _)).trans (aq.new uz _)) (.of ae) ⟨p6,rfl,p5,(aq.new uz _).a7 (.of ae),((aq.new i0 _).trans (aq.new uz _)).a7 k5⟩
  ·rcases Qf with ⟨ea,es⟩ |⟨ep,_⟩
   rotate_left
   ·exact zzb ((OC _).mpr ep) e2
   have Y6:=U0 ea;subst Y6;rw[es] at q;have Mp:=aq.refl H3;have s5:=s3;refine⟨.inl ⟨rfl,_,.of (Mp _ _ Jb)⟩,aG (s5.a7 hT) (v:=.str (S b)) (au (j:=2) rfl) ⟨D,bs.map fun b=>S b.name,S b,c7 bs b,rfl,rfl,by rw[zbj];exact Mp _ _ Jb,ni,nn,⟨_,rfl,va,_,rfl,s5.a7 E5,fun p1 H6 ZU k1=>?_⟩⟩⟩;have s6:=s5.trans ZU;refine bz (s6.seq hB) (v:=.ref ab) (au ZT) (aG (s6.a7 Gk) (v:=.int (eQ bs b)) (au (j:=1) rfl) ⟨_,_,rfl,rfl,qz bp b,fun p2 yQ=>?_⟩);have s7:=s6.trans (aq.new yQ (HO.tup [V.int (fig%eQ bs b)]));refine⟨p1,p2,_,_,rfl,rfl,(aq.new yQ _).a7 k1,.of ae,?_,fun p3 H8 ZV k3=>?_⟩
   ·have:=ff (vals.map V.int) none (some (c7 bs b:Int));rw[zad] at this;simp only[zah,zaB];lia
   have s8:=s7.trans ZV;refine⟨_,_,rfl,rfl,_,rfl,va,_,rfl,s8.a7 E5,fun p4 H9 VM k4=>⟨p3,p4,_,_,rfl,rfl,VM.a7 k3,k4,?_,fun p5 vC Sl k5=>?_⟩⟩
   ·have h1:=ff (vals.map V.int) none (some (c7 bs b:Int));have h2:=ff (vals.map V.int) (some ((c7 bs b:Int)+1)) none;rw[zad] at h1 h2;simp only[zae,zah,zaB];lia
   have sP:=(s8.trans VM).trans Sl;rw[GZ vals _ lj] at k5;refine aG (sP.a7 S9) (v:=.int (ws.getD 0 0)) q0 fun p6 i0 p7 uz=>?_;exact q p7 _ _ ((sP.trans (aq.new i0 _)).trans (aq.new uz _)) (.of ae) ⟨p6,rfl,p5,(aq.new uz _).a7 (.of ae),((aq.new i0 _).trans (aq.new uz _)).a7 k5⟩
 have e1:=e;simp only[zaz,if_false,Qb,decide_eq_true_eq] at e1;refine(ke _ _).mpr (av fun U5 uv=>?_);clear ke e;ac_nf;refine b7 (fun e2=>?_) (fun e2=>?_)
 ·obtain⟨k,tr,rfl⟩:=L4 ((OD _).mp e2);obtain⟨_,u,ee,hT,ru⟩:=Ao rv;cases ee;refine aG (s3.a7 S9) (v:=.int (ws.getD 0 0)) q0 fun p6 i0=>?_;have s4:=s3.trans (aq.new i0 (HO.tup [V.int (ws.getD 0 0),V.ref va]));refine aG (s4.a7 hT) (v:=u) (au (j:=2) rfl) ⟨u,d,tr,_,rfl,ru.mono s4,aq.new i0 _ _ _ MJ,po.1,by have:=po.2;lia,by have:=po.2;lia,fun H5 s5 p7 uz=>?_⟩;exact q p7 _ _ ((s4.trans s5).trans (aq.new uz _)) (.of ae) ⟨p6,rfl,va,(s5.trans (aq.new uz _)).a7 (.of ae),((s4.trans s5).trans (aq.new uz _)).a7 E5⟩
 refine(uv _ _).mpr (av fun U6 yK=>?_);clear uv;ac_nf;refine b7 (fun e3=>?_) (fun e3=>?_)
 ·obtain⟨k,rfl⟩:=Sj ((Qc _).mp e3);refine aG (s3.a7 S9) (v:=.int (ws.getD 0 0)) q0 fun p6 i0 p7 uz=>?_;have s4:=(s3.trans (aq.new i0 (HO.tup [V.int (ws.getD 0 0),V.ref va]))).trans (aq.new uz (HO.tup [V.ref p6,V.cB]));exact q p7 _ _ s4 (.of ae) ⟨p6,rfl,va,(aq.new uz _).a7 (.of ae),s4.a7 E5⟩
 have ec:=Mq e1 (fun z=>e2 ((OD _).mpr z)) (fun z=>e3 ((Qc _).mpr z));obtain⟨sg,l,r,cp,tl,tr,es⟩:=cond_of ec po;have Ks:=Qe so cp;rw[es] at q;unfold iF at q;rw[cp] at q;simp only at q;obtain⟨_,w0',vl,vr,ys,ee,hT,rl,rr⟩:=rW rv cp;cases ee;refine(yK _ _).mpr (av fun U7 GQ=>?_);clear yK;ac_nf;refine aG (s3.a7 hT) (v:=vl) (au (j:=3) rfl) ⟨vl,d,l,_,rfl,rl.mono s3,MJ,tl.1,by have:=tl.2;lia,by have:=tl.2;lia,fun H4 UX=>(GQ _ _).mpr (av fun U8 Sm=>?_)⟩;clear GQ;have s4:=s3.trans UX;ac_nf;refine aG (s4.a7 hT) (v:=vr) (au (j:=4) rfl) ⟨vr,d,r,_,rfl,rr.mono s4,UX _ _ MJ,tr.1,by have:=tr.2;lia,by have:=tr.2;lia,fun H5 Mp=>(Sm _ _).mpr (av fun U9 Ta=>?_)⟩;clear Sm;have s5:=s4.trans Mp;have ea:(V.str (S sg)=V.str (zab "<"))↔sg=[60]:=by rw[show (zab "<":Str)=S [60] from rfl,V.str.injEq,mq]
 have eb:(V.str (S sg)=V.str (zab "="))↔sg=[61]:=by rw[show (zab "=":Str)=S [61] from rfl,V.str.injEq,mq]
 ac_nf;have yes:gU sg (wv bs vals l) (wv bs vals r)=true->Eb K (.ref wa) (.int 0) H5 (fun x H1=>∀p,H1 p=none->∀ZW,upd H1 p (.tup [x,.ref va]) ZW=none->Q (.ref ZW) (upd (upd H1 p (.tup [x,.ref va])) ZW (.tup [.ref p,.cB]))):=fun c=>by
  rw[zzp c] at q;refine aG (s5.a7 S9) (v:=.int (ws.getD 0 0)) q0 fun p6 i0 p7 uz=>?_;have s6:=(s5.trans (aq.new i0 (HO.tup [V.int (ws.getD 0 0),V.ref va]))).trans (aq.new uz (HO.tup [V.ref p6,V.cB]));exact q p7 _ _ s6 (.of ae) ⟨p6,rfl,va,(aq.new uz _).a7 (.of ae),s6.a7 E5⟩
 have no:gU sg (wv bs vals l) (wv bs vals r)≠true->U9 [some (.ref B),some (.ref ta),some (.ref wa),some (.ref va),some fv,some (.ref D),some (.ref d),some (.str (fZ st.wd)),none,none,some (.int (wv bs vals l)),some (.int (wv bs vals r))] H5:=fun c=>by
  rw[zzn c] at q;refine(Ta _ _).mpr ?_;clear Ta yes;ac_nf;refine b7 (fun e4=>?_) (fun e4=>?_)
  ·rw[zzp ((Qd _).mp e4)] at q;intro p6 i0;exact q p6 _ _ (s5.trans (aq.new i0 _)) (.of ae) rfl
  ·have nm:st.wd≠.cu:=fun z=>e4 ((Qd _).mpr z);rw[zzn nm] at q;have w1:=w1 (by rcases ec with e |e |e;exact zzb e nm;exact .inl e;exact .inr e);have e1:ws[1]?=some (ws.getD 1 0):=by rw[zap,zac w1];rfl
   have q1:tw (ws.map V.int) ((1:Nat):Int)=some (V.int (ws.getD 1 0)):=au (by rw[zal,e1];rfl);refine aG (s5.a7 S9) (v:=.int (ws.getD 1 0)) q1 fun p6 i0 p7 uz=>?_;have s6:=(s5.trans (aq.new i0 (HO.tup [V.int (ws.getD 1 0),V.ref va]))).trans (aq.new uz (HO.tup [V.ref p6,V.cB]));exact q p7 _ _ s6 (.of ae) ⟨p6,rfl,va,(aq.new uz _).a7 (.of ae),s6.a7 E5⟩
 have ZX:sg=[60]->gU sg (wv bs vals l) (wv bs vals r)=decide (wv bs vals l<wv bs vals r):=fun z=>by unfold gU;rw[zzp z]
 have VN:sg=[61]->gU sg (wv bs vals l) (wv bs vals r)=decide (wv bs vals l=wv bs vals r):=fun z=>by unfold gU;rw[zzn (by rw[z];decide)]
 have un:∀e:PM.Tr,cm (yT (cF bs (List.map V.int vals))) e=wv bs vals e:=fun _=>rfl;rw[un,un] at *;refine b7 (fun c1=>aG (s5.a7 hT) (v:=.str (S sg)) (au (j:=2) rfl) ⟨rfl,b7 (fun c2=>?_) (fun c2=>?_)⟩) (fun c1=>?_)
 ·refine b7 (fun _=>yes ?_) (fun z=>zzb trivial z);rw[ZX (ea.mp c2)];exact decide_eq_true c1
 ·have VN:=VN (Ks.resolve_left fun z=>c2 (ea.mpr z));refine b7 (fun c3=>by lia) (fun c3=>b7 (fun z=>by cases z) (fun _=>no ?_));rw[VN];simpa using c3
 ·refine b7 (fun z=>by cases z) (fun _=>b7 (fun c3=>aG (s5.a7 hT) (v:=.str (S sg)) (au (j:=2) rfl) ⟨rfl,b7 (fun c4=>yes ?_) (fun c4=>no ?_)⟩) (fun c3=>b7 (fun z=>by cases z) (fun _=>no ?_)))
  ·rw[VN (eb.mp c4)];exact decide_eq_true c3
  ·rw[ZX (Ks.resolve_right fun z=>c4 (eb.mpr z))];simpa using c1
  ·rcases Ks with z |z
   ·rw[ZX z];simpa using c1
   ·rw[VN z];simpa using c3
theorem Sn(st:bI):fZ st.wd≠zab "end":=by
 have k:∀w:Wd,w≠.fin->fZ w≠zab "end":=by
  intro w h;cases w<;>first |exact zzb rfl h |decide +kernel
 exact k _ (by cases st<;>(intro z;cases z))
theorem zh(T:Tx K mg t):bJ P w K mg base dy 5 t.iL t.ji ["chart", "standing"] (Rw K t.aW):=by
 have mV:=@sG P w _ _ base _ T;have wY:=@Dc P w _ _ base _ T;refine T.j6.F.lQ qQ (fun vs H Q E h=>?_) (fun eT A outer s H vs Q E hr h=>?_)
 ·obtain⟨_,_,_,_,rfl,_⟩:=h;rfl
 obtain⟨ch,sa,pr,⟨row,vals⟩,rfl,co,dr,sI,si,q⟩:=h;have nd:=qQ.nd;refine⟨_,[some (.ref ch),some (.ref sa),none,none],(ah (c5 2 nd (aC aM (pv 1) aj ao))
 (ah (c5 3 nd (da mV T.kr hr (bc 0 (bc 2 aa))))
 (ah (bh (aD bN (pv 3) aU (aR _))
 (ak (aO (bu (ag (aS (ag aU aa aP)) aa bW))))
 aV)
 (ah (bh (aD i9 (pv 3) (aS (cO (vs:=[.str "if",.str "while"]) (by kernel_rfl))) rfl)
 (ak (aO (bu (ag (aS (ag aU (bc 2 aa) aP)) (ag (aS (ag aU (bc 2 (ag (da wY T.qx hr (bc 0 (bc 1 aa))) aa bG)) aP)) aa bW) bW))))
 aV)
 (ah (bh (PW.pt (pw_and (aD bN (pv 3) aU (aR _)) (pw_and1 (DL (rG (da wY T.qx hr (bc 0 (bc 1 aa))))))))
 (ak (aO (bu (ag (aS (ag aU (bc 2 aa) aP)) (ag (aS (ag aU (bc 2 aa) aP)) aa bW) bW))))
 aV)
 (ak (aO (bu (ag (aS (ag aU (bc 2 aa) aP)) aa bW))))))))),rfl,?_⟩
 obtain⟨va,wg,yI⟩:=id sI;refine av fun U1 eE=>?_;ac_nf;refine aG wg (v:=.int row) (au (j:=0) rfl) ((eE _ _).mpr (av fun U2 gh=>?_));clear eE;ac_nf;refine⟨ch,pr,row,rfl,co,dr.ok.pw,?_⟩;by_cases h0:row=0
 ·subst h0;refine .inl ⟨rfl,(gh _ _).mpr (av fun U3 iY=>?_)⟩;ac_nf;intro p hp;generalize e1:upd H p _=H1;have s1:=gT e1 hp;have r1:Rep K H1 (eS .fin) (.ref p):=MN e1 hp (.cons rS .nil);intro l hl;generalize e2:upd H1 l _=H2;have s2:=gL e2 hl;refine q l _ _ (s1.trans s2) (s1.free hl) ⟨NZ e2,?_⟩;unfold oB;rw[zzp rfl];exact .cons (r1.mono s2) .nil
 ·obtain⟨i,hi,rfl⟩:=si.ok.row.resolve_left h0;refine .inr ⟨h0,i,hi,rfl,(gh _ _).mpr ?_⟩;clear gh;have ZY:xN pr.body (az pr.body)[i].row=(az pr.body)[i]:=nF dr.ok.pw i hi;unfold oB at q;rw[zzn h0] at q;simp only[ZY] at q;obtain⟨po,so⟩:=A1 si.ok.len dr.ok.nb si.ok.small (je pr.body _ dr.own (zau hi));refine av fun U3 iY=>?_;ac_nf;refine b7 (fun z=>zzb z (Sn _)) (fun _=>(iY _ _).mpr (av fun U4 ke=>?_));clear iY;ac_nf;intro p5 yM;refine⟨p5,_,rfl,.inr (.of ae),rfl,rfl,_,rfl,?_⟩;generalize e5:upd H p5 _=H5;have s5:=gT e5 yM;rw[wK];by_cases hl:(az pr.body)[i].wd=.ifs\/(az pr.body)[i].wd=.fh
  ·obtain⟨sg,l,r,cp,tl,tr,_⟩:=cond_of (.inr hl) po;have nm:(az pr.body)[i].wd≠.cu:=by rcases hl with e |e<;>rw[e]<;>decide
   simp only[cp] at q;rw[zzn nm] at q;refine(zzp (decide_eq_true hl)).mpr fun p6 i0=>?_;generalize e6:upd H5 p6 _=H6;have s6:=gT e6 i0;have r6:Rep K H6 (eS (.row (az pr.body)[i].row)) (.ref p6):=MN e6 i0 (.cons rS (.cons Px .nil));refine⟨ch,sa,pr,vals,i,hi,sg,l,r,rfl,co.mono (s5.trans s6),dr.ok,sI.mono (s5.trans s6),si.ok.len,cp,tl,tr,fun H7 s7 p8 Jc=>?_⟩;generalize e8:upd H7 p8 _=H8;have s8:=gT e8 Jc;have r8:Rep K H8 (eS (.side (az pr.body)[i].row (gU sg (wv pr.ay vals l) (wv pr.ay vals r)))) (.ref p8):=MN e8 Jc (.cons rS (.cons Px (.cons (Rep.lP.mpr rfl) .nil)));intro l9 OM;generalize e9:upd H8 l9 _=H9;have s9:=gL e9 OM;have VO:=s5.trans (s6.trans (s7.trans s8));exact q l9 _ _ (VO.trans s9) (VO.free OM) ⟨NZ e9,.cons (r6.mono (s7.trans (s8.trans s9))) (.cons (r8.mono s9) .nil)⟩
  ·refine(zzn (by rw[decide_eq_false hl];exact zai)).mpr ((ke _ _).mpr (av fun U5 uv=>?_));clear ke;have last:∀H7,aq H H7->(∀l us H',aq H H'->H l=none->GC K H' l us [.row (az pr.body)[i].row]->Q (.ref l) H')->U5 [some (.ref ch),some (.ref sa),some (.int (az pr.body)[i].row),some (.str (fZ (az pr.body)[i].wd))] H7:=by
    intro H7 s7 q;refine(uv _ _).mpr ?_;clear uv;ac_nf;intro p6 i0;generalize e6:upd H7 p6 _=H6;have s6:=gT e6 i0;have r6:Rep K H6 (eS (.row (az pr.body)[i].row)) (.ref p6):=MN e6 i0 (.cons rS (.cons Px .nil));intro l9 OM;generalize e9:upd H6 l9 _=H9;have s9:=gL e9 OM;exact q l9 _ _ (s7.trans (s6.trans s9)) ((s7.trans s6).free OM) ⟨NZ e9,.cons (r6.mono s9) .nil⟩
   ac_nf;refine b7 (fun e=>?_) (fun e=>?_)
   ·have ew:=(pB _).mp (congrArg V.str e);obtain⟨sg,l,r,cp,tl,tr,_⟩:=cond_of (.inl ew) po;simp only[cp] at q;rw[zzp ew] at q;refine⟨ch,sa,pr,vals,i,hi,sg,l,r,rfl,co.mono s5,dr.ok,sI.mono s5,si.ok.len,cp,tl,tr,fun H7 s7=>?_⟩;cases hc:gU sg (wv pr.ay vals l) (wv pr.ay vals r) with
    |true=>
     simp only[hc,if_true] at q;exact⟨_,rfl,(zzn (by decide)).mpr (last _ (s5.trans s7) q)⟩
    |false=>
     simp only[hc,zaz,if_false] at q;refine⟨_,rfl,(zzp (by decide)).mpr fun p6 i0=>?_⟩;generalize e6:upd H7 p6 _=H6;have s6:=gT e6 i0;have r6:Rep K H6 (eS (.row (az pr.body)[i].row)) (.ref p6):=MN e6 i0 (.cons rS (.cons Px .nil));intro p8 Jc;generalize e8:upd H6 p8 _=H8;have s8:=gT e8 Jc;have r8:Rep K H8 (eS (.cu (az pr.body)[i].row)) (.ref p8):=MN e8 Jc (.cons rS (.cons Px .nil));intro l9 OM;generalize e9:upd H8 l9 _=H9;have s9:=gL e9 OM;have VO:=s5.trans (s7.trans (s6.trans s8));exact q l9 _ _ (VO.trans s9) (VO.free OM) ⟨NZ e9,.cons (r6.mono (s8.trans s9)) (.cons (r8.mono s9) .nil)⟩
   ·have ew:(az pr.body)[i].wd≠.cu:=fun z=>e (V.str.inj ((pB _).mpr z));have cn:pH (az pr.body)[i]=none:=by
     generalize (az pr.body)[i]=st at ew hl;cases st<;>first |rfl |exact zzb rfl ew |exact zzb (.inl rfl) hl |exact zzb (.inr rfl) hl
    simp only[cn] at q;exact last _ s5 q
theorem Bt(T:Tx K mg t):bJ P w K mg base dy 8 t.jE t.j4 ["program", "rows"] (Rx K):=by
 have Dm:=@OK P w _ _ base _ T;have pW:=@GX P w _ _ base _ T;have qB:=@Qa P w _ _ base _ T;have iZ:=@Dl P w _ _ base _ T 4;refine T.lL.F.lQ uk (fun vs H Q E h=>?_) (fun eT A outer s H vs Q E hr h=>?_)
 ·obtain⟨_,_,_,_,_,_,rfl,_⟩:=h;rfl
 obtain⟨pa,R,Dk,dys,pr,rows,rfl,W9,dr,rp,rr,lr,tx,q⟩:=h;have nd:=uk.nd;have hu:=dS hr;refine⟨_,[some (.ref pa),some (.ref R),none,none,none,none,none],(ah (c5 2 nd xn)
 (ah (du PassesOwn.never rfl (cH (da Dm T.lK hr (bc 1 aa))) (rH rfl (bM (lX 3 nd) (bM (lX 4 nd) (bM (lX 5 nd) iA))))
 (ak (mZ hu (pv 2) (pv 3) (pv 5) rfl)))
 (ah (c5 6 nd (aS (ag (da qB T.kx hr (bc 1 (ag (da pW T.jG hr (bc 1 aa)) (ag aj aa aP) bG))) (ag (fO lO rfl T.uq PyProof.Rows.Boot.«tuple» (ag (hG (own:=["box"]) (ix:=[]) rfl (by rfl) (by rfl) (cH (aC aM (pv 0) aj ao)) (fun _ _ _ _=>(fY (i:=0) (by show List.Nodup (["box"]:List Str);decide +kernel) rfl (zbq rfl))) (fun _ _ _ _=>iC) (fun _ _ _ _=>(aC (iD (K:=K) rfl) (pv 0) aj ao))) aa k0)) aa bG) bG)))
 (ak (aO (bu (ag (aC aM (pv 0) aj ao) (ag (da iZ T.eB hr (ag (aC aM (pv 0) aj ao) aa aX)) (bc 2 (bc 6 aa)) bG) aX))))))),rfl,?_⟩
 have line:zds=2 ^ 24:=rfl;unfold kB at rp;rw[Rep.bg] at rp;obtain⟨_,pxs,e,PL,E4⟩:=rp;cases e;rw[aN.aI] at E4;obtain⟨v1,t1,rfl,Ow,E4⟩:=E4;rw[aN.aI] at E4;obtain⟨v2,t2,rfl,SY,E4⟩:=E4;rw[aN.br] at E4;subst E4;obtain⟨bb,_,rfl,_⟩:=Rep.bL.mp SY;obtain⟨B,_,rfl,_⟩:=Rep.bL.mp Ow;have PL:=qt.a7 PL;have VP:=Ow;have Ow:=VP.mono qt;have pw:=dr.ok.pw;have uZ:=dr.uZ;have uL:(aQ pr.body 0).length=(az pr.body).length:=by
  have h1:=congrArg za5 (cY pr.body 0);have h2:=mB pr.body;rw[zad] at h1;lia
 have sl:=mB pr.body;refine av fun U1 eE=>?_;ac_nf;intro wy ZZ;refine(eE _ _).mpr (av fun U2 gh=>?_);clear eE;have s1:=aq.new ZZ (.dK []);have wy1:(upd H wy (.dK [])) wy=some (.dK []):=ae;generalize upd H wy (.dK [])=H1 at *;refine fI fun U hU=>?_;ac_nf;refine⟨R,rows,pr.body,rfl,rr.mono s1,lr,tx,fun l2 Gs H2 s2 Ej y2 r2=>⟨l2,rfl,⟨Gs,.of y2⟩,hU _ _ ?_⟩⟩;clear hU;have Z0:=s2 _ _ wy1;have nl2:l2≠wy:=fun z=>by rw[z,wy1] at Ej;cases Ej
 have lu2:Gs.length=(aQ pr.body 0).length:=by rw[r2.length,zad]
 obtain⟨Pv,mf,dQ⟩:=wX fun (i:Nat) (σ:St) (Hx:Hp) zq=>∀(z3 z4 z5:Option V) (ax:List (Key×V)),σ=[some (.ref pa),some (.ref R),some (.ref wy),z3,z4,z5,none]->aZ wy H2 Hx->Hx wy=some (.dK ax)->ax.length<=i->(∀j (hj:j<(aQ pr.body 0).length),j<i->∃y,cf ax (.inl (aQ pr.body 0)[j].1)=some (.ref y)/\bQ K H2 y ((aQ pr.body 0)[j].2.2.map V.int))->zq;refine fH (K:=K) (a:=l2) (xs:=Gs) Pv ((mf _ _ _ fun _ zk=>zk _ _ _ [] rfl (.refl _ _) Z0 (zaf _) (fun j _ z=>zzb z (Nat.not_lt_zero _)))) (fun i σ Hx _ hv=>?_) ?_ ?_
 ·refine dQ _ _ _ hv _ fun _ _ _ _ _ ux _ _ _=>?_;exact .of (ux _ _ nl2 y2)
 ·intro i y σ Hx hi hv;refine dQ _ _ _ hv _ fun z3 z4 z5 ax kT ux wyx lk get=>?_;subst kT;clear hv;have li:i<(aQ pr.body 0).length:=by have:=(zak.mp hi).1;lia
  obtain⟨ya,yp,rfl,hx,hp⟩:=CB r2 hi li;refine⟨ya,_,rfl,hx.dk Z0 ux,rfl,_,_,rfl,_,_,rfl,_,_,rfl,rfl,?_⟩;simp only[zaT];ac_nf;refine⟨wy,_,rfl,.inl ⟨ax,.inl (aQ pr.body 0)[i].1,wyx,rfl,by lia,rfl⟩,?_⟩;refine(mf _ _ _ fun _ zk=>zk _ _ _ _ rfl (ux.put _) ae (zay (tS _ _ _) (by lia)) (fun j hj lt=>?_));rw[oU];by_cases e:j=i
  ·subst e;rw[zzp rfl];exact⟨yp,rfl,hp⟩
  ·obtain⟨_,e1,_⟩:=gW pr.body j (by lia);obtain⟨_,e2,_⟩:=gW pr.body i (by lia);have:=zbJ.mp pw j i (by lia) (by lia) (by lia);rw[zzn (fun z=>by have z:=Sum.inl.inj z;lia)];exact get j hj (by lia)
 intro σ H3 hv;refine dQ _ _ _ hv _ fun z3 z4 z5 ax kU u3 wy3 _ get=>?_;subst kU;clear hv;rw[lu2] at get;have s3:aq H H3:=fun z o e=>u3 z o (ai e ZZ) (s2 _ _ (s1 _ _ e));refine(gh _ _).mpr (av fun U4 ke=>?_);clear gh;ac_nf;simp only[jS];ac_nf;refine⟨R,rows,pr.body,rfl,rr.mono s3,lr,tx,fun d5 H5 mt5=>?_⟩;have s5:aq H3 H5:=by obtain⟨_,_,mi⟩:=mt5;exact mi.s
 refine⟨R,d5,rows,pr.body,H3,0,rfl,rr.mono (s3.trans s5),lr,tx,mt5,?_⟩;have Xa:=s3.trans s5;obtain⟨W8,hB,lB,hbx⟩:=mU Ow;have Z1:=dr.ok.uZ;refine aG (Xa.a7 PL) (v:=.ref B) (au (j:=0) rfl) ⟨B,rfl,⟨_,Xa.seq hB⟩,fun D6 S1=>?_⟩;refine km (K:=K) (r:=[]) (fun i=>V.int (pr.ay.getD i ⟨[],0,0⟩).first) (Xa.seq hB) (by lia) S1 (fun i x H2 hx s2 R hR=>?_) (fun H6 s6 h6=>?_)
 ·obtain⟨a,rfl,ha⟩:=hbx i x hx;ac_nf;exact aG ((Xa.trans s2).a7 ha) (v:=.int (pr.ay.getD i ⟨[],0,0⟩).first) (au (j:=2) rfl) hR
 rw[lB,jd (fun b:gm=>V.int b.first) ⟨[],0,0⟩ pr.ay] at h6;refine⟨D6,_,rfl,.inl ⟨.of h6,fun t6 ht6 p6 i0=>(ke _ _).mpr ?_⟩⟩;clear ke;have e6:(pr.ay.map fun b=>V.int b.first)=(pr.ay.map (·.first)).map V.int:=by rw[zbj];rfl
 rw[e6] at i0 ⊢;rw[KA tx];have s7a:=aq.new ht6 (.tup ((pr.ay.map (·.first)).map V.int));have Z2:=aq.new i0 (.tup [V.int (bj pr.body 0),V.ref t6]);have s37:=s5.trans (s6.trans (s7a.trans Z2));have st7:cD K (upd (upd H6 t6 (.tup ((pr.ay.map (·.first)).map V.int))) p6 (.tup [V.int (bj pr.body 0),V.ref t6])) p6 (bj pr.body 0) (pr.ay.map (·.first)):=⟨t6,.of ae,Z2.a7 (.of ae)⟩
 clear s7a Z2;generalize upd (upd H6 t6 (.tup ((pr.ay.map (·.first)).map V.int))) p6 (.tup [V.int (bj pr.body 0),V.ref t6])=HB at *;have Tb:=s3.trans s37;ac_nf;refine aG (Tb.a7 PL) (v:=.ref B) (au (j:=0) rfl) (aG (Tb.a7 PL) (v:=.ref bb) (au (j:=1) rfl) ⟨bb,pr.body,oM Dk H,rfl,qt.trans Tb,SY,by have:=dr.dep;lia,by lia,pw,fun d8 us8 H8 s8 hd8 l8 y8 r8 md Xb=>?_⟩);generalize e9:upd H8 md _=H9;have s9:=gL e9 Xb;have IK:=Tb.trans (s8.trans s9);have s39:=s37.trans (s8.trans s9);have l09:=Iq (D:=Dk) IK;have WU:=IK _ _ W9;have nmd:md≠Dk:=(ai ((Tb.trans s8) _ _ W9) Xb).symm;have nd8:d8≠Dk:=(ai (Tb _ _ W9) hd8).symm;have nwy:wy≠Dk:=(ai W9 ZZ).symm;refine q md H9 IK ⟨⟨B,d8,wy,p6,us8,ax,.of (by rw[nE nmd];exact NZ e9),VP.mono l09,by rw[nE nd8];exact s9 _ _ y8,l8,r8.mono l09,by rw[nE nwy];exact s39 _ _ wy3,fun i hi=>?_,(st7.mono (s8.trans s9)).oM WU⟩⟩;obtain⟨y,e,k⟩:=get i hi hi;exact⟨y,e,(s39.a7 (k.dk Z0 u3)).oM WU⟩
theorem i8(T:Tx K mg t):bJ P w K mg base dy 5 t.cW t.dN ["made", "standing", "figure"] (Lo K):=by
 have yv:=@wu P w _ _ base _ T;refine T.cX.F.lQ i7 (fun vs H Q E h=>?_) (fun eT A outer s H vs Q E hr h=>?_)
 ·obtain⟨_,_,_,_,_,_,rfl,_⟩:=h;rfl
 obtain⟨md,sa,fv,pr,⟨row,vals⟩,f,rfl,ma,dr,sI,si,h0,U0,q⟩:=h;have nd:=i7.nd;have hu:=dS hr;refine⟨_,[some (.ref md),some (.ref sa),some fv,none],(ah (c5 3 nd (aC aM (pv 1) aj ao))
 (ak (aO (aC aM (da yv T.iW hr (ag (aC a9 (pv 0) aj ao) (ag (b9 hu (aC a9 (pv 0) aj ao) (pv 3) (fun _ _=>rfl)) (ag (b9 hu (aC a9 (pv 0) aj ao) (pv 3) (fun _ _=>rfl)) (ag (aC aM (pv 1) aj ao) (bc 2 aa) aX) aX) aX) aX)) aj ao)))),rfl,?_⟩
 obtain⟨i,hi,rfl⟩:=si.ok.row.resolve_left h0;obtain⟨hf,ek,ew⟩:=gW pr.body i hi;obtain⟨w0,w1⟩:=jc pr.body 0 _ (zau hf);rw[ew] at w1;obtain⟨po,so⟩:=A1 si.ok.len dr.ok.nb si.ok.small (je pr.body _ dr.own (zau hi));have bp:∀b∈pr.ay,0<b.size:=fun b hb=>by have:=dr.size b hb;lia
 obtain⟨B,d8,wy,fa,ta,y,us,ys,ax,h1,h2,h3,g3,rt,Ob,h6,g6,hy⟩:=ma.row dr.ok hi hf;obtain⟨va,wg,yI⟩:=id sI;have Z3:(az pr.body)[i].wd=.ask->fv=.int f:=fun e=>U0 (by unfold dq;rw[nF dr.ok.pw i hi];exact decide_eq_true e);simp only[CQ dr.ok hi hf] at q;refine av fun U1 eE=>?_;ac_nf;refine aG wg (v:=.int (az pr.body)[i].row) (au (j:=0) rfl) ((eE _ _).mpr ?_);clear eE;ac_nf;refine bz h1 (v:=.ref B) (au (j:=0) rfl) (bz h1 (v:=.ref d8) (au (j:=1) rfl) ⟨d8,_,rfl,.inl ⟨_,.inl (az pr.body)[i].row,.inl h3,rfl,g3.symm⟩,bz h1 (v:=.ref wy) (au (j:=2) rfl) ⟨wy,_,rfl,.inl ⟨_,.inl (az pr.body)[i].row,.inl h6,rfl,g6.symm⟩,aG wg (v:=.ref va) (au (j:=1) rfl) ?_⟩⟩);refine⟨B,ta,y,va,fv,pr.ay,(az pr.body)[i],(aQ pr.body 0)[i].2.2,vals,f,rfl,h2,rt,hy,yI,dr.ok.nb,dr.ok.uZ,bp,si.ok.len,Z3,po,so,w0,w1,fun q1 sv H1 s1 k1 o1=>?_⟩;exact aG k1 (v:=sv) (au (j:=0) rfl) (q sv H1 s1 o1)
theorem pX(T:Tx K mg t):bJ P w K mg base dy 1 t.gY t.iR ["made", "standing"] (Oc K):=by
 refine T.g7.F.lQ pT (fun vs H Q E h=>?_) (fun eT A outer s H vs Q E hr h=>?_)
 ·obtain⟨_,_,_,_,rfl,_⟩:=h;rfl
 obtain⟨md,sa,pr,⟨row,vals⟩,rfl,ma,dr,sI,si,q⟩:=h;have nd:=pT.nd;have hu:=dS hr;refine⟨_,[some (.ref md),some (.ref sa)],(ak (aO (DM (kW Ju (aC aM (pv 1) aj ao) aj (aR _)) (Ay (kW bN (aC aM (b9 hu (aC a9 (pv 0) aj ao) (aC aM (pv 1) aj ao) (fun _ _=>rfl)) aj ao) aU (aR _)))))),rfl,?_⟩;obtain⟨va,wg,yI⟩:=id sI;ac_nf;refine aG wg (v:=.int row) (au (j:=0) rfl) ⟨rfl,?_⟩;by_cases h0:row=0
 ·subst h0;rw[tY dr.ok] at q;exact(zzp rfl).mpr q
 ·obtain⟨i,hi,rfl⟩:=si.ok.row.resolve_left h0;obtain⟨hf,ek,ew⟩:=gW pr.body i hi;obtain⟨B,d8,wy,fa,ta,y,us,ys,ax,h1,h2,h3,g3,rt,Ob,h6,g6,hy⟩:=ma.row dr.ok hi hf;unfold dq at q;rw[nF dr.ok.pw i hi] at q;refine(zzn (fun z=>h0 (V.int.inj z))).mpr (bz h1 (v:=.ref d8) (au (j:=1) rfl) (aG wg (v:=.int (az pr.body)[i].row) (au (j:=0) rfl) ⟨d8,_,rfl,.inl ⟨_,.inl (az pr.body)[i].row,.inl h3,rfl,g3.symm⟩,aG Ob (v:=.str (fZ (az pr.body)[i].wd)) (au (j:=0) rfl) ⟨rfl,?_⟩⟩));have e:decide (V.str (fZ (az pr.body)[i].wd)=V.str (zab "ask"))=decide ((az pr.body)[i].wd=.ask):=decide_eq_decide.mpr ⟨fun z=>(E6 _).mp (V.str.inj z),fun z=>congrArg V.str ((E6 _).mpr z)⟩;rw[e];exact q
theorem Mr:∀w:Wd,Ni (V.str (fZ w)) [V.str (zab "if"),V.str (zab "while"),V.str (zab "must")]=decide (w=.cu\/w=.ifs\/w=.fh):=by
 intro w;cases w<;>decide +kernel
theorem Dn(T:Tx K mg t):bJ P w K mg base dy 5 t.kN t.lJ ["made", "standing"] (Ry K):=by
 have cV:=@sF P w _ _ base _ T 3;refine T.og.F.lQ vX (fun vs H Q E h=>?_) (fun eT A outer s H vs Q E hr h=>?_)
 ·obtain⟨_,_,_,_,rfl,_⟩:=h;rfl
 obtain⟨md,sa,pr,⟨row,vals⟩,rfl,ma,dr,sI,si,q⟩:=h;have nd:=vX.nd;have hu:=dS hr;refine⟨_,[some (.ref md),some (.ref sa),none,none,none,none,none,none,none],(ah (c5 2 nd (aC aM (pv 1) aj ao))
 (ah (bh (aD bN (pv 2) aj (aR _))
 (ak (aO (bu (ag (aS (ag aU aa aP)) aa bW))))
 aV)
 (ah (c5 3 nd (bu (ag (aS (ag aU (bc 2 aa) aP)) aa bW)))
 (ah (c5 4 nd (b9 hu (aC a9 (pv 0) aj ao) (pv 2) (fun _ _=>rfl)))
 (ah (bh (aD i9 (aC aM (pv 4) aj ao) (aS (cO (vs:=[.str "if",.str "while",.str "must"]) (by kernel_rfl))) rfl)
 (ah (c5 5 nd (rT rfl rfl T.pU rfl T.C6 (ag (hG (own:=["box"]) (ix:=[]) rfl (by rfl) (by rfl) (cH (aC a9 (pv 0) aj ao)) (fun _ _ _ _=>(fY (i:=0) (by show List.Nodup (["box"]:List Str);decide +kernel) rfl (zbq rfl))) (fun _ _ _ _=>iC) (fun _ _ _ _=>(aC (iD (K:=K) rfl) (pv 0) aj ao))) (ag (aC aM (pv 1) aj ao) aa aX) k0)))
 (ah (c5 6 nd (da cV T.cL hr (ag (aC aM (pv 4) aj ao) (bc 5 aa) aX)))
 (ah (c5 7 nd (da cV T.cL hr (ag (aC aM (pv 4) aj ao) (bc 5 aa) aX)))
 (ah (c5 8 nd (TB (DM (kW bN (aC aM (pv 4) aj ao) aU (aR _)) (Ay (kW oQ (pv 6) (pv 7) (aR _)))) (Ay (DM (kW bN (aC aM (pv 4) aj ao) aU (aR _)) (Ay (kW bN (pv 6) (pv 7) (aR _)))))))
 (ak (bh (aD Ju (aC aM (pv 4) aj ao) aU (aR _))
 (ak (bK (dw zaj zan zao bD (pv 3) (ag (aS (ag aU (bc 2 (bc 8 aa)) aP)) aa bW))))
 (ak (bh (DL (rG (pv 8)))
 (ak (bK (dw zaj zan zao bD (pv 3) (ag (aS (ag aU (bc 2 aa) aP)) aa bW))))
 aV))))))))
 aV)
 (ak (aO (pv 3)))))))),rfl,?_⟩
 have line:zds=2 ^ 24:=rfl;obtain⟨va,wg,yI⟩:=id sI;refine av fun U1 eE=>?_;ac_nf;refine aG wg (v:=.int row) (au (j:=0) rfl) ((eE _ _).mpr (av fun U2 gh=>?_));clear eE;ac_nf;by_cases h0:row=0
 ·subst h0;refine(zzp rfl).mpr fun p hp=>?_;generalize e1:upd H p _=H1;have s1:=gT e1 hp;have r1:Rep K H1 (eS .fin) (.ref p):=MN e1 hp (.cons rS .nil);intro l hl;generalize e2:upd H1 l _=H2;have s2:=gL e2 hl;refine q l _ _ (s1.trans s2) (s1.free hl) ⟨NZ e2,?_⟩;unfold oB;rw[zzp rfl];exact .cons (r1.mono s2) .nil
 obtain⟨i,hi,rfl⟩:=si.ok.row.resolve_left h0;obtain⟨hf,ek,ew⟩:=gW pr.body i hi;obtain⟨B,d8,wy,fa,ta,y,us,ys,ax,h1,h2,h3,g3,rt,Ob,h6,g6,hy⟩:=ma.row dr.ok hi hf;have ZY:xN pr.body (az pr.body)[i].row=(az pr.body)[i]:=nF dr.ok.pw i hi;unfold oB at q;rw[zzn h0] at q;simp only[ZY] at q;obtain⟨po,so⟩:=A1 si.ok.len dr.ok.nb si.ok.small (je pr.body _ dr.own (zau hi));generalize (az pr.body)[i]=sm at *;refine(zzn (by simpa using h0)).mpr ((gh _ _).mpr (av fun U3 iY=>?_));clear gh;ac_nf;intro p6 i0;generalize e6:upd H p6 _=H6;have s6:=gT e6 i0;have r6:Rep K H6 (eS (.row sm.row)) (.ref p6):=MN e6 i0 (.cons rS (.cons Px .nil));intro l3 hl3;generalize e7:upd H6 l3 _=H7;have s7:=gL e7 hl3;have y7:=NZ e7;have r7:=r6.mono s7;have Xc:=s6.trans s7;have IL:=s6.free hl3;clear e6 e7 r6;refine(iY _ _).mpr (av fun U4 ke=>?_);clear iY;ac_nf;refine bz (Xc.seq h1) (v:=.ref d8) (au (j:=1) rfl) ⟨d8,_,rfl,.inl ⟨_,.inl sm.row,.inl (Xc _ _ h3),rfl,g3.symm⟩,(ke _ _).mpr (av fun U5 uv=>?_)⟩;clear ke;have last:∀(z5 z6 z7 z8:Option V) H9 Tc,aq H H9->H9 l3=some (.lst Tc)->(Q (.ref l3) H9)->U5 [some (.ref md),some (.ref sa),some (.int sm.row),some (.ref l3),some (.ref ta),z5,z6,z7,z8] H9:=by
  intro z5 z6 z7 z8 H9 Tc s9 y9 qq;refine(uv _ _).mpr ?_;clear uv;ac_nf;exact qq
 clear uv;refine N6 fun U6b VQ=>?_;ac_nf;refine aG (Xc.a7 Ob) (v:=.str (fZ sm.wd)) (au (j:=0) rfl) fun p8 Jc=>⟨p8,_,rfl,.inr (.of ae),rfl,rfl,_,rfl,?_⟩
 generalize e8:upd H7 p8 _=H8;have s8:=gT e8 Jc;have y8:=s8 _ _ y7;have r8:=r7.mono s8;have So:=Xc.trans s8;clear e8;rw[Mr];by_cases hc:sm.wd=.cu\/sm.wd=.ifs\/sm.wd=.fh
 rotate_left
 ·have cn:pH sm=none:=by
   cases sm<;>first |rfl |exact zzb (.inl rfl) hc |exact zzb (.inr (.inl rfl)) hc |exact zzb (.inr (.inr rfl)) hc
  simp only[cn] at q;refine(zzn (by rw[decide_eq_false hc];exact zai)).mpr (last _ _ _ _ _ _ So y8 (q l3 _ _ So IL ⟨y8,.cons r8 .nil⟩))
 obtain⟨sg,l,r,cp,tl,tr,_⟩:=cond_of hc po;simp only[cp] at q;refine(zzp (decide_eq_true hc)).mpr ((VQ _ _).mpr (av fun U6 yK=>?_));clear VQ;obtain⟨ta',w0,vl,vr,ys',eta,hs,rl,rr⟩:=rW rt cp;cases eta;obtain⟨W8,hB,lB,hb⟩:=mU h2;ac_nf;simp only[WC];ac_nf;simp only[jS];ac_nf;have Z1:=dr.ok.uZ;refine bz (So.seq h1) (v:=.ref B) (au (j:=0) rfl) ⟨B,rfl,⟨_,So.seq hB⟩,fun D hD=>?_⟩;refine km (K:=K) (r:=[]) (fun i=>V.str (S (pr.ay.getD i ⟨[],0,0⟩).name)) (So.seq hB) (by lia) hD (fun i x H2 hx s2 R hR=>?_) (fun H9 s9 h9=>?_)
 ·obtain⟨a,rfl,ha⟩:=hb i x hx;ac_nf;exact aG ((So.trans s2).a7 ha) (v:=.str (S (pr.ay.getD i ⟨[],0,0⟩).name)) (au (j:=0) rfl) hR
 rw[lB,jd (fun b:gm=>V.str (S b.name)) ⟨[],0,0⟩ pr.ay] at h9;have IK:=So.trans s9;have ZR:(vals.map V.int).length=pr.ay.length:=by rw[zad];exact si.ok.len
 refine aG (IK.a7 wg) (v:=.ref va) (au (j:=1) rfl) ⟨D,va,pr.ay.map fun b=>.inr (S b.name),vals.map V.int,rfl,?_,IK.a7 yI,by rw[zad,zad];exact si.ok.len,fun d hd=>(yK _ _).mpr (av fun U7 GQ=>?_)⟩
 ·rw[zbj];exact .of h9
 clear yK;rw[nC,ie _ [] (by rw[zaK,lq _ _ ZR];exact names_nodup dr.ok.nb),zaK];have sA:=aq.new hd (.dK (cF pr.ay (vals.map V.int)));have yA:(upd H9 d (.dK (cF pr.ay (vals.map V.int)))) d=some (.dK (cF pr.ay (vals.map V.int))):=ae;generalize upd H9 d (.dK (cF pr.ay (vals.map V.int)))=HA at *;have Sq:=IK.trans sA;have VR:=s9.trans sA;ac_nf;refine aG (Sq.a7 hs) (v:=vl) (au (j:=3) rfl) ⟨vl,d,l,_,rfl,rl.mono Sq,yA,tl.1,by have:=tl.2;lia,by have:=tl.2;lia,fun HB sB=>(GQ _ _).mpr (av fun U8 Sm=>?_)⟩;clear GQ;ac_nf;refine aG ((Sq.trans sB).a7 hs) (v:=vr) (au (j:=4) rfl) ⟨vr,d,r,_,rfl,rr.mono (Sq.trans sB),sB _ _ yA,tr.1,by have:=tr.2;lia,by have:=tr.2;lia,fun HC sC=>(Sm _ _).mpr (av fun U9 Ta=>?_)⟩;clear Sm;have Qg:=(Sq.trans sB).trans sC;have Qh:=(VR.trans sB).trans sC;have yC:=Qh _ _ y8;have rC:=r8.mono Qh;have Z4:=Qg.a7 hs;have htC:=Qg.a7 Ob;have fin:U9 [some (.ref md),some (.ref sa),some (.int sm.row),some (.ref l3),some (.ref ta),some (.ref d),some (.int (wv pr.ay vals l)),some (.int (wv pr.ay vals r)),some (.bl (gU sg (wv pr.ay vals l) (wv pr.ay vals r)))] HC:=by
  refine(Ta _ _).mpr ?_;clear Ta;generalize gU sg (wv pr.ay vals l) (wv pr.ay vals r)=bo at *;ac_nf;refine aG htC (v:=.str (fZ sm.wd)) (au (j:=0) rfl) ⟨rfl,?_⟩;by_cases ew:sm.wd=.cu
  ·rw[zzp ew] at q;refine b7 (fun _=>?_) (fun z=>zzb ((pB _).mpr ew) z);cases bo with
   |true=>
    rw[zzp rfl] at q;exact(zzn (by decide)).mpr (last _ _ _ _ _ _ Qg yC (q l3 _ _ Qg IL ⟨yC,.cons rC .nil⟩))
   |false=>
    rw[zzn zai] at q;refine(zzp (by decide)).mpr ⟨.inl ⟨rfl,_,.of yC⟩,fun pD VS=>?_⟩;generalize eD:upd HC pD _=HD;have sD:=gT eD VS;have rD:Rep K HD (eS (.cu sm.row)) (.ref pD):=MN eD VS (.cons rS (.cons Px .nil));have yD:=sD _ _ yC;refine⟨l3,_,_,rfl,rfl,yD,by simp only[zax];lia,?_⟩;have uE:aZ l3 HD (upd HD l3 (.lst ([V.ref p6]++[V.ref pD]))):=(aZ.refl _ _).put _;have sE:aq H (upd HD l3 (.lst ([V.ref p6]++[V.ref pD]))):=fun z o e=>uE z o (ai e IL) (sD _ _ (Qg z o e));refine last _ _ _ _ _ _ sE ae (q l3 _ _ sE IL ⟨ae,.cons (wO yD uE rfl (rC.mono sD)) (.cons (wO yD uE rfl rD) .nil)⟩)
  ·rw[zzn ew] at q;refine b7 (fun z=>zzb ((pB _).mp z) ew) (fun _=>?_);refine⟨.inl ⟨rfl,_,.of yC⟩,fun pD VS=>?_⟩;generalize eD:upd HC pD _=HD;have sD:=gT eD VS;have rD:Rep K HD (eS (.side sm.row bo)) (.ref pD):=MN eD VS (.cons rS (.cons Px (.cons (Rep.lP.mpr rfl) .nil)));have yD:=sD _ _ yC;refine⟨l3,_,_,rfl,rfl,yD,by simp only[zax];lia,?_⟩;have uE:aZ l3 HD (upd HD l3 (.lst ([V.ref p6]++[V.ref pD]))):=(aZ.refl _ _).put _;have sE:aq H (upd HD l3 (.lst ([V.ref p6]++[V.ref pD]))):=fun z o e=>uE z o (ai e IL) (sD _ _ (Qg z o e));refine last _ _ _ _ _ _ sE ae (q l3 _ _ sE IL ⟨ae,.cons (wO yD uE rfl (rC.mono sD)) (.cons (wO yD uE rfl rD) .nil)⟩)
 clear Ta;have l1:(V.str (S sg)=V.str (zab "<"))↔sg=[60]:=by rw[show (zab "<":Str)=S [60] from rfl,V.str.injEq,mq]
 have l2:(V.str (S sg)=V.str (zab "="))↔sg=[61]:=by rw[show (zab "=":Str)=S [61] from rfl,V.str.injEq,mq]
 ac_nf;refine aG Z4 (v:=.str (S sg)) (au (j:=2) rfl) ⟨rfl,?_⟩;unfold gU at fin;rcases Qe so cp with rfl |rfl
 ·rw[zzp rfl] at fin;refine(zzp (l1.mpr rfl)).mpr ?_;by_cases lt:wv pr.ay vals l<wv pr.ay vals r
  ·rw[decide_eq_true lt] at fin;exact(zzp lt).mpr fin
  ·rw[decide_eq_false lt] at fin;exact(zzn lt).mpr (aG Z4 (v:=.str (S [60])) (au (j:=2) rfl) ⟨rfl,(zzn (fun z=>by cases l2.mp z)).mpr fin⟩)
 ·rw[zzn (by decide)] at fin;exact(zzn (fun z=>by cases l1.mp z)).mpr ((zzn zai).mpr (aG Z4 (v:=.str (S [61])) (au (j:=2) rfl) ⟨rfl,(zzp (l2.mpr rfl)).mpr fin⟩))
theorem vF(T:Tx K mg t):bJ P w K mg base dy 6 t.fK t.gK ["made", "standing"] (Ol K):=by
 have l6:=@pX P w _ _ base _ T;have gI:=@i8 P w _ _ base _ T;refine T.hZ.F.lQ mJ (fun vs H Q E h=>?_) (fun eT A outer s H vs Q E hr h=>?_)
 ·obtain⟨_,_,_,_,rfl,_⟩:=h;rfl
 obtain⟨md,Vd,pr,s0,rfl,ma,dr,RS,Za,afy,q⟩:=h;have nd:=mJ.nd;have hu:=dS hr;refine⟨_,[some (.ref md),some (.ref Vd),none],(ah (c5 2 nd (tX (J:=jN)))
 (ah (mh PassesOwn.never (PW.pt (pw_and (aD AA (pv 1) eV (aR _)) (pw_and1 (aD (vi (J:=jN) (MP hr)) (pv 1) (pv 2) rfl))))
 (ah (xO (J:=jN) (MP hr) (pv 2) (pv 1) sT rfl)
 (ah (bh (PW.pt (pw_or (aD bN (aC aM (pv 1) aj ao) aj (aR _)) (pw_or1 (rG (da l6 T.g7 hr (bc 0 (bc 1 aa)))))))
 (ak (aO (fO (xP (J:=jN) rfl) rfl T.sr PyProof.Rows.Boot.«list» (bc 2 aa))))
 aV)
 (ak (c5 1 nd (da gI T.cX hr (bc 0 (bc 1 (ag eV aa aP)))))))))
 (ak (aO (fO (xP (J:=jN) rfl) rfl T.sr PyProof.Rows.Boot.«list» (bc 2 aa)))))),rfl,?_⟩
 have line:zds=2 ^ 24:=rfl;refine av fun U1 eE=>?_;ac_nf;intro sn hsn ysn;refine(eE _ _).mpr (av fun U2 gh=>?_);clear eE;have d1:=A3 (J:=jN) (P:=P) (w:=w) (K:=K) (H:=H) ysn;have s1:=aq.new hsn (.ext (gS jN P w sn []));generalize upd H sn (.ext (gS jN P w sn []))=H1 at *;refine A2 fun Bd L6=>?_;ac_nf;obtain⟨Iv,L7,Fc⟩:=wX fun (m:Nat) (σ:St) (Hx:Hp) zq=>∀(v:V) (o:Option cw) (g:List cw),σ=[some (.ref md),some v,some (.ref sn)]->aq H Hx->DS jN P w K Hx sn (qO g)->qM K Hx o v->(∀x,o=some x->cU pr x)->g.Nodup->(∀x∈g,cU pr x)->PG.TI (dq pr.body) (bZ pr) s0 g o->m=bq pr-g.length->zq;refine⟨Iv,⟨_,(L7 _ _ _ fun _ zk=>zk _ (some s0) [] rfl s1 d1 ⟨Vd,rfl,RS.mono s1⟩ (fun x e=>(by cases e;exact Za)) zb4 (fun x hx=>(by cases hx)) PG.TI.start rfl)⟩,?_⟩;intro m σ Hx hv;refine Fc _ _ _ hv _ fun v o g kT sx ds ov oi ng gi ti kU=>?_;subst kT;subst kU;clear hv;have fin:∀(H6:Hp) (g6:List cw) (l:zdk) (us:List V),aq H H6->DS jN P w K H6 sn (qO g6)->PG.Seg (dq pr.body) (bZ pr) s0 g6->g6.Nodup->(∀x∈g6,cU pr x)->H6 l=none->Paired (fun (p:kS×V) (v:V)=>∃b,v=.ref b/\jN.on K H6 p.1 b) (qO g6) us->Q (.ref l) (upd H6 l (.lst us)):=by
  intro H6 g6 l us s6 d6 sg ng6 gi6 hl pu;have sl:=aq.new hl (.lst us);exact q l us g6 _ (s6.trans sl) (s6.free hl) ae ((Lp pu).mono sl) sg gi6 (iG ng6 gi6)
 have out:(o=none\/∃x∈g,o=some x)->U2 [some (.ref md),some v,some (.ref sn)] Hx:=fun ho=>by
  refine(gh _ _).mpr ?_;clear gh;ac_nf;exact⟨sn,_,rfl,ds,fun l us hl pu=>fin Hx g l us sx ds (ti.fin ho) ng gi hl pu⟩
 ac_nf;cases o with
 |none=>
  have ov:v=.cB:=ov;subst ov;exact b7 (fun _=>out (.inl rfl)) (fun z=>zzb rfl z)
 |some x=>
  obtain⟨sa,rfl,sI⟩:=ov;have si:=oi x rfl;refine b7 (fun z=>by cases z) (fun _=>?_);refine⟨sn,sa,_,_,rfl,rfl,ds,Ag sI,?_⟩;rw[CP];by_cases hx:x∈g
  ·exact(zzn (by rw[decide_eq_true hx];decide)).mpr (out (.inr ⟨x,hx,rfl⟩))
  refine(zzp (by rw[decide_eq_false hx];decide)).mpr ?_;have Xd:(g++[x]).Nodup:=zbS.mpr ⟨ng,by simp,fun a ha b hb=>by rw[zar.mp hb];exact fun z=>hx (z▸ha)⟩;have Xe:∀y∈g++[x],cU pr y:=fun y hy=>by
   rcases zaA.mp hy with hy |hy
   ·exact gi y hy
   ·rw[zar.mp hy];exact si
  have uZ:=iG Xd Xe;rw[zae,zax] at uZ;refine⟨Iv (bq pr-(g++[x]).length),fun σ' H' h=>⟨_,by rw[zae,zax];lia,h⟩,?_⟩;refine L6 _ _ _ (av fun V1 BQ=>?_);clear L6 gh out;obtain⟨φ,es⟩:=ds.nH;ac_nf;refine⟨sn,sa,_,_,rfl,rfl,ds,Ag sI,by rw[qO,zad];lia,fun H6 d6 e6=>(BQ _ _).mpr (av fun V2 BR=>?_)⟩;clear BQ;rw[Ip hx] at d6;obtain⟨φ',rfl⟩:=e6;have u6:aZ sn Hx (upd Hx sn (.ext φ')):=(aZ.refl _ _).put _;have s6:aq H (upd Hx sn (.ext φ')):=fun z o e=>u6 z o (ai e hsn) (sx z o e);have L8:=sI.ext es u6;have ma6:=ma.mono s6;clear u6;generalize upd Hx sn (.ext φ')=H6 at *;obtain⟨va,wg,yI⟩:=id L8;ac_nf;refine aG wg (v:=.int x.1) (au (j:=0) rfl) ⟨rfl,?_⟩;by_cases h0:x.1=0
  ·refine b7 (fun _=>?_) (fun z=>zzb (by rw[h0]) z);exact⟨sn,_,rfl,d6,fun l us hl pu=>fin H6 _ l us s6 d6 (ti.stop (.inl h0)) Xd Xe hl pu⟩
  refine b7 (fun z=>zzb (V.int.inj z) h0) (fun _=>?_);refine⟨md,sa,pr,x,rfl,ma6,dr,L8,si,?_⟩;cases ha:dq pr.body x.1 with
  |true=>
   refine⟨_,rfl,(zzp rfl).mpr ?_⟩;exact⟨sn,_,rfl,d6,fun l us hl pu=>fin H6 _ l us s6 d6 (ti.stop (.inr ha)) Xd Xe hl pu⟩
  |false=>
   refine⟨_,rfl,(zzn (by decide)).mpr ((BR _ _).mpr ?_)⟩;clear BR;ac_nf;refine⟨md,sa,.cB,pr,x,0,rfl,ma6,dr,L8,si,h0,fun z=>(by rw[ha] at z;cases z),fun v7 H7 s7 o7=>?_⟩;exact(L7 _ _ _ fun _ zk=>zk v7 _ (g++[x]) rfl (s6.trans s7) (d6.mono s7) o7 (fun y hy=>si.next dr h0 hy) Xd Xe (ti.push h0 ha) rfl)
theorem Fm(T:Tx K mg t):bJ P w K mg base dy 8 t.mO t.nY ["program"] (HQ K):=by
 have yi:=@GW P w _ _ base _ T;refine T.qy.F.lQ x6 (fun vs H Q E h=>?_) (fun eT A outer s H vs Q E hr h=>?_)
 ·obtain⟨_,_,rfl,_⟩:=h;rfl
 obtain⟨v,pr,rfl,rp,hd,hf,q⟩:=h;have nd:=x6.nd;refine⟨_,[some v,none,none,none],(ah (c5 1 nd (bu aa))
 (ah (du PassesOwn.never rfl (cH (da yi T.yc hr (bc 0 aa))) (lX 2 nd)
 (ah (c5 3 nd (aC aM (pv 2) aj ao))
 (ah (bK (dw zaj zan zao bD (pv 1) (ag (aS (ag aU (bc 3 aa) aP)) aa bW)))
 (ak (bh (aD i9 (aC aM (pv 2) aj ao) (aS (cO (vs:=[.str "if",.str "while"]) (by kernel_rfl))) rfl)
 (ah (bK (dw zaj zan zao bD (pv 1) (ag (aS (ag aU (bc 3 (ag sT aa aP)) aP)) aa bW)))
 (ak (bK (dw zaj zan zao bD (pv 1) (ag (aS (ag aU (bc 3 (ag sT aa aP)) aP)) aa bW)))))
 (ak (bh (aD bN (aC aM (pv 2) aj ao) aU (aR _))
 (ak (bK (dw zaj zan zao bD (pv 1) (ag (aS (ag aU (bc 3 aa) aP)) aa bW))))
 aV)))))))
 (ah (bK (dw zaj zan zao bD (pv 1) (ag (aS (ag aU aa aP)) aa bW)))
 (ak (aO (pv 1)))))),rfl,?_⟩
 have line:zds=2 ^ 24:=rfl;refine av fun U1 eE=>?_;ac_nf;intro tl BU;have s1:=aq.new BU (.lst []);have y1:(upd H tl (.lst [])) tl=some (.lst []):=ae;generalize upd H tl (.lst [])=H1 at *;refine(eE _ _).mpr (av fun U2 gh=>?_);clear eE;refine fI fun U hU=>?_;ac_nf;refine⟨v,pr,rfl,rp.mono s1,hd,hf,fun l2 fv H2 s2 Ej y2 r2=>⟨l2,rfl,⟨fv,.of y2⟩,hU _ _ ?_⟩⟩;clear hU;have n2:l2≠tl:=fun z=>by rw[z,y1] at Ej;cases Ej
 have g2:eJ K (·=tl) H2 ((aQ pr.body 0).map eK) fv:=Gj (s2 _ _ y1) (vf _) r2;have Y4:fv.length=(aQ pr.body 0).length:=by rw[r2.length,zad]
 have lfl:(aQ pr.body 0).length<=1000:=by
  have h2:=congrArg za5 (cY pr.body 0);rw[zad] at h2;lia
 have efl:=NB pr.body 0;have pfl:=Co pr.body 0;generalize aQ pr.body 0=fl at *;have t2:NG K H H2 tl H2 [] []:=⟨s1.trans s2,.refl,s2 _ _ y1,.nil,rfl⟩
 obtain⟨Pv,mf⟩:∃Pv:Nat->St->Hp->Prop,∀i σ H3,Pv i σ H3↔∃(z2 z3:Option V) (us:List V) (pre:List Tg),σ=[some v,some (V.ref tl),z2,z3]/\NG K H H2 tl H3 us pre/\us.length<=3*i/\
  pre=(fl.take i).flatMap Kt:=⟨_,fun _ _ _=>Iff.rfl⟩
 refine fH (K:=K) (a:=l2) (xs:=fv) Pv ((mf _ _ _).mpr ⟨none,none,[],[],rfl,t2,zaf _,rfl⟩) (fun i σ H3 _ hv=>?_) ?_ ?_
 ·obtain⟨_,_,_,_,_,ti,_⟩:=(mf _ _ _).mp hv;exact .of (ti.u _ _ n2 y2)
 ·intro i y σ H3 hi hv;obtain⟨z2,z3,us,pre,rfl,ti,lu,ep⟩:=(mf _ _ _).mp hv;clear hv;have done:=fun σ H7=>(mf (i+1) σ H7).mpr;have li:i<fl.length:=by have:=(zak.mp hi).1;lia
  obtain⟨a,rfl,hx⟩:=NH g2 hi li;have hw:=pfl fl[i] (zau li);have et:(fl.take (i+1)).flatMap Kt=pre++Kt fl[i]:=by
   rw[zaQ li,za8,ep];simp
  have lt:=Ge (fl[i].1,fl[i].2.1);generalize fl[i]=r at *;obtain⟨k,wd,ws⟩:=r;simp only at hw hx lt;have fin:∀(σ:St) (H7:Hp) (wt:List V),(∃z2 z3,σ=[some v,some (V.ref tl),z2,z3])->NG K H H2 tl H7 wt (pre++Kt (k,wd,ws))->Pv (i+1) σ H7:=fun σ H7 wt ⟨z2,z3,e⟩ t7=>done σ H7 ⟨z2,z3,wt,_,e,t7,by
   have:=t7.l;have:=ti.l;have:(Kt (k,wd,ws)).length<=3:=lt;simp only[zae] at *;lia,et.symm⟩
  clear done et;obtain⟨t3,WQ⟩:=hx _ ti.u;simp only[eO,zaT];refine av fun U3 iY=>?_;ac_nf;refine aG WQ (v:=.int k) (au (j:=0) rfl) ((iY _ _).mpr (av fun U4 ke=>?_));clear iY;ac_nf;refine⟨.inl ⟨rfl,_,.of ti.y⟩,fun p hp=>⟨tl,us,_,rfl,rfl,aq.new hp _ _ _ ti.y,by lia,(ke _ _).mpr ?_⟩⟩;clear ke;have Fj:=ti.app BU hp (g:=.row k) rfl (fun _=>.cons .str (.cons .int .nil));generalize upd (upd H3 p (.tup [V.str (zab "row"),V.int k])) tl (.lst (us++[.ref p]))=H4 at *;obtain⟨t4,hx4⟩:=hx _ Fj.u;ac_nf;have luf:us.length<=3000:=by lia
  refine aG hx4 (v:=.str (fZ wd)) (au (j:=1) rfl) fun p5 yM=>⟨p5,_,rfl,.inr (.of ae),rfl,rfl,_,rfl,?_⟩
  have Fl:=Fj.same (aq.new yM (.tup [V.str (zab "if"),V.str (zab "while")]));generalize upd H4 p5 (.tup [V.str (zab "if"),V.str (zab "while")])=H5 at *;rw[wK wd];by_cases hl:wd=.ifs\/wd=.fh
  ·refine(zzp (decide_eq_true hl)).mpr ⟨.inl ⟨rfl,_,.of Fl.y⟩,fun p6 i0=>⟨tl,_,_,rfl,rfl,aq.new i0 _ _ _ Fl.y,by simp only[zae,zax];lia,?_⟩⟩;have Dh:=Fl.app BU i0 (g:=.side k true) rfl (fun _=>.cons .str (.cons .int (.cons .bl .nil)));generalize upd (upd H5 p6 _) tl _=H6 at *;refine⟨.inl ⟨rfl,_,.of Dh.y⟩,fun p7 uz=>⟨tl,_,_,rfl,rfl,aq.new uz _ _ _ Dh.y,by simp only[zae,zax];lia,?_⟩⟩;have W6:=Dh.app BU uz (g:=.side k false) rfl (fun _=>.cons .str (.cons .int (.cons .bl .nil)));have e:Kt (k,wd,ws)=[.row k,.side k true,.side k false]:=by rcases hl with rfl |rfl<;>rfl
   rw[show pre++[.row k]++[.side k true]++[.side k false]=pre++Kt (k,wd,ws) by rw[e];simp] at W6;exact fin _ _ _ ⟨_,_,rfl⟩ W6
  ·obtain⟨t5,hx5⟩:=hx _ Fl.u;refine(zzn (by rw[decide_eq_false hl];exact zai)).mpr (aG hx5 (v:=.str (fZ wd)) (au (j:=1) rfl) ⟨rfl,b7 (fun e=>?_) (fun e=>?_)⟩)
   ·have ew:=(pB wd).mp e;refine⟨.inl ⟨rfl,_,.of Fl.y⟩,fun p6 i0=>⟨tl,_,_,rfl,rfl,aq.new i0 _ _ _ Fl.y,by simp only[zae,zax];lia,?_⟩⟩;have Dh:=Fl.app BU i0 (g:=.cu k) rfl (fun _=>.cons .str (.cons .int .nil));rw[show pre++[.row k]++[.cu k]=pre++Kt (k,wd,ws) by rw[show Kt (k,wd,ws)=[.row k,.cu k] by subst ew;rfl];simp] at Dh;exact fin _ _ _ ⟨_,_,rfl⟩ Dh
   ·have ew:wd≠.cu:=fun z=>e ((pB wd).mpr z);have e:Kt (k,wd,ws)=[.row k]:=by
     cases wd<;>first |rfl |exact zzb rfl ew |exact zzb rfl hw.1 |exact zzb rfl hw.2 |exact zzb (.inl rfl) hl |exact zzb (.inr rfl) hl
    rw[<- e] at Fl;exact fin _ _ _ ⟨_,_,rfl⟩ Fl
 ·intro σ H3 hv;obtain⟨z2,z3,us,pre,rfl,ti,lu,ep⟩:=(mf _ _ _).mp hv;rw[Y4,zaU,efl] at ep;refine(gh _ _).mpr ?_;ac_nf;refine⟨.inl ⟨rfl,_,.of ti.y⟩,fun p hp=>⟨tl,us,_,rfl,rfl,aq.new hp _ _ _ ti.y,by lia,?_⟩⟩;have Fj:=ti.app BU hp (g:=.fin) rfl (fun _=>.cons .str .nil);refine q tl _ _ Fj.s BU Fj.y ?_;unfold Kn;rw[<- ep];exact Fj.f.HK
theorem zi(T:Tx K mg t):bJ P w K mg base dy 10 t.iM t.jk ["first", "led_from"] (CU P w K t.aW (iw aT) "first_inputs.<locals>.<lambda>"):=by
 have Au:=@Fb P w _ _ base _ T;refine T.gO.F.lQ qR (fun vs H Q E h=>?_) (fun eT A outer s H vs Q E hr h=>?_)
 ·obtain⟨_,_,_,_,_,_,_,rfl,_⟩:=h;rfl
 obtain⟨sa,fo,cc,ch,mE,pr,s0,rfl,co,dr,sI,si,lam,qY,q⟩:=h;have nd:=qR.nd;have hu:=dS hr;refine⟨_,[some (.ref sa),some (.ref fo),none,none,none,none,none,none,none],(ah (c5 2 nd (tX (J:=jN)))
 (ah (c5 3 nd (da Au T.mT hr (bc 0 (bc 1 (ag (aS aa) (bc 2 aa) bW)))))
 (ah (mh PassesOwn.never (B2 (pv 3) (fun _=>rfl))
 (ah (c5 4 nd (bu aa))
 (ah (du PassesOwn.never rfl (cH (pv 3)) (rH rfl (bM (lX 5 nd) (bM (lX 6 nd) iA)))
 (ak (du PassesOwn.never rfl (F8 rfl T.lM (bc 6 aa)) (rH rfl (bM (lX 7 nd) (bM (lX 8 nd) iA)))
 (ak (bK (dw zaj zb1 zb2 uO (pv 4) (ag (da Au T.mT hr (bc 8 (bc 1 (ag (bf wM (pv 5) (aS (bc 7 aa))) (bc 2 aa) ja)))) aa bG)))))))
 (ak (c5 3 nd (pv 4))))))
 (ak (aO (pv 2)))))),rfl,?_⟩
 have line:zds=2 ^ 24:=rfl;have li:∀s,cU pr s->∀x∈cQ pr s,cU pr x:=fun s h=>t9 dr h;refine av fun U1 eE=>?_;ac_nf;intro D hD yD;refine(eE _ _).mpr (av fun U2 gh=>?_);clear eE;have d1:=A3 (J:=jN) (P:=P) (w:=w) (K:=K) (H:=H) yD;have s1:=aq.new hD (.ext (gS jN P w D []));generalize upd H D (.ext (gS jN P w D []))=H1 at *;ac_nf;intro p hp;generalize e2:upd H1 p _=H2;have s2:=gT e2 hp;have yp:H2 p=some (.tup []):=by rw[<- e2];exact ae
 clear e2;have ON:=s1.trans s2;obtain⟨VT,Z5,Z6⟩:=vn li (m:=0) (bq pr+1) [] s0 [] .nil si (zaf _);refine⟨sa,fo,D,p,cc,ch,mE,pr,s0,[],[],[],rfl,co.mono ON,dr,sI.mono ON,si,lam.mono (wU ON hD),.of yp,d1.mono s2,.nil,zb4,fun x hx=>(by cases hx),qY,fun L us ax H3 u3 hL yL d3 WY ak3=>(gh _ _).mpr (av fun U3 iY=>?_)⟩;clear gh;have s03:aq H H3:=((aZ.of ON).trans u3).same hD;obtain⟨φ1,eD2⟩:=(d1.mono s2).nH;have DE:bQ K H3 p (([]:List Int).map V.int):=bQ.lV (.of yp) eD2 u3;have as3:=eL.of1 (g:=[]) ak3 DE;refine A2 fun Bd L6=>?_;ac_nf;obtain⟨Iv,L7,Fc⟩:=wX fun (m:Nat) (σ:St) (Hx:Hp) zq=>∀(z4 z5 z6 z7 z8:Option V) (L:zdk) (us:List V) (as:List (List Int×List cw)) (f:iz) (ax:List (kS×V)) (lv:Nat),σ=[some (.ref sa),some (.ref fo),some (.ref D),some (.ref L),z4,z5,z6,z7,z8]->aq H Hx->DS jN P w K Hx D ax->eR K Hx f ax->yV (cU pr) f->Hx L=some (.lst us)->eL K Hx as us->vm (cU pr) lv as->cZ pr s0=ua (cQ pr) (bq pr+1) (bq pr+2-lv) f as->(as≠[]->lv<f.length)->m=bq pr+1-lv->zq;refine⟨Iv,⟨_,(L7 _ _ _ fun _ zk=>zk none none none none none L us _ _ ax 0 rfl s03 d3 WY VT yL as3 Z5 rfl (fun h=>?_) rfl)⟩,?_⟩
 ·have:=zbg.mpr h;rw[zaB] at Z6;lia
 clear VT Z5 Z6 as3 DE eD2 s03 ak3 WY d3 yL hL u3 ON yp s2 d1 s1 hp;intro m σ Hx hv;refine Fc _ _ _ hv _ fun z4 z5 z6 z7 z8 L us as f ax lv kT sx dx fx ok yL Z7 Qi ef hlv kU=>?_;subst kT;subst kU;clear hv;have uL:as.length=us.length:=Paired.length Z7;have uZ:f.length<=bq pr:=by
  have:=iG ok.nd (fun x hx=>by obtain⟨y,hy,rfl⟩:=zaF.mp hx;exact ok.CV y hy)
  rwa [zad] at this
 ac_nf;cases as with
 |nil=>
  have e0:us=[]:=zaV.mp uL.symm;subst e0;refine⟨false,.inl ⟨_,.of yL,rfl⟩,(zzn (by decide)).mpr ((iY _ _).mpr ?_)⟩;ac_nf;rw[xU] at ef;rw[ef] at q;exact q D ax Hx sx hD dx fx
 |cons a0 Sr=>
 have DA:(a0::Sr)≠[]:=by simp
 have hlv:=hlv DA;obtain⟨u0,Qj,rfl⟩:∃u0 Qj,us=u0::Qj:=by cases us with |nil=>cases uL |cons a b=>exact⟨_,_,rfl⟩
 refine⟨true,.inl ⟨_,.of yL,rfl⟩,(zzp rfl).mpr ?_⟩;have ef:cZ pr s0=ua (cQ pr) (bq pr+1) (bq pr+2-(lv+1)) (c8 (cQ pr) (bq pr+1) f (cx (a0::Sr))).1 (c8 (cQ pr) (bq pr+1) f (cx (a0::Sr))).2:=by
  rw[ef,show bq pr+2-lv=(bq pr+2-(lv+1))+1 by lia,ua,zzn DA]
 generalize a0::Sr=as at *;generalize u0::Qj=us at *;refine⟨Iv (bq pr+1-(lv+1)),fun σ' H' h=>⟨_,by lia,h⟩,?_⟩;refine L6 _ _ _ (av fun V1 BQ=>?_);clear L6 iY;ac_nf;intro b hb;refine(BQ _ _).mpr (av fun V2 BR=>?_);clear BQ;have sb:=aq.new hb (.lst []);have yb:(upd Hx b (.lst [])) b=some (.lst []):=ae;have yL1:(wo (upd Hx b (.lst [])) b) L=some (.lst us):=by rw[pJ];exact wU (aq.refl _) hb _ _ yL
 have as1:eL K (wo (upd Hx b (.lst [])) b) as us:=by rw[pJ];exact Z7.mono (wU (aq.refl _) hb)
 have HR:H b=none:=sx.free hb;have dx1:=dx.mono sb;have fx1:=fx.imp fun a xs h=>sb.a7 h;have sx1:=sx.trans sb;have R1:D≠b:=by obtain⟨φ,e⟩:=dx.nH;exact ai e hb
 generalize upd Hx b (.lst [])=H1 at *;clear dx fx sx Z7 yL sb hb;refine fI fun U hU=>?_;ac_nf;refine⟨⟨us,.of (vT _ _ yL1)⟩,hU _ _ ?_⟩;clear hU;have gok:∀i,yV (cU pr) (c8 (cQ pr) (bq pr+1) f (cx (as.take i))).1/\vm (cU pr) (lv+1) (c8 (cQ pr) (bq pr+1) f (cx (as.take i))).2/\f.length+(c8 (cQ pr) (bq pr+1) f (cx (as.take i))).2.length<=(c8 (cQ pr) (bq pr+1) f (cx (as.take i))).1.length:=fun i=>pK li _ _ ok (mH (m:=lv) ⟨fun a ha=>Qi.CV a (zbK ha),fun a ha=>Qi.len a (zbK ha)⟩);obtain⟨Pv,mf,dQ⟩:=wX fun (i:Nat) (σ:St) (H5:Hp) zq=>∀(z5 z6 z7 z8:Option V) (pY:List V) (bs:List (List Int×List cw)) (f5:iz) (pZ:List (kS×V)),σ=[some (.ref sa),some (.ref fo),some (.ref D),some (.ref L),some (.ref b),z5,z6,z7,z8]->aq H H5->DS jN P w K H5 D pZ->eR K H5 f5 pZ->(wo H5 b) L=some (.lst us)->eL K (wo H5 b) as us->H5 b=some (.lst pY)->eL K (wo H5 b) bs pY->c8 (cQ pr) (bq pr+1) f (cx (as.take i))=(f5,bs)->zq;refine fH (K:=K) (a:=L) (xs:=us) Pv ((mf _ _ _ fun _ zk=>zk _ _ _ _ [] [] f ax rfl sx1 dx1 fx1 yL1 as1 yb .nil rfl)) (fun i σ H5 _ hv=>?_) ?_ ?_
 ·refine dQ _ _ _ hv _ fun _ _ _ _ _ _ _ _ _ _ _ _ Ms _ _ _ _=>?_;exact .of (vT _ _ Ms)
 ·intro i y σ H5 hi hv;refine dQ _ _ _ hv _ fun z5 z6 z7 z8 pY bs f5 pZ kT s5 d5 Jg Ms Xf Xg Xh e5=>?_;subst kT;clear hv;obtain⟨a,ha,ta,ga,la,Mu,rfl,q1,q2,q3,q4⟩:=eZ Xf hi;have Xi:a∈as:=zaI ha;have hll:a.2.length=Mu.length:=Paired.length q4;refine⟨ta,_,rfl,vT.a7 q1,rfl,_,_,rfl,_,_,rfl,rfl,?_⟩;simp only[zaT];refine Lr fun U hU=>?_;ac_nf;refine⟨la,rfl,⟨Mu,.of (vT _ _ q3)⟩,hU _ _ ?_⟩;clear hU;obtain⟨Pw,yt,jH⟩:=wX fun (j:Nat) (σ:St) (H6:Hp) zq=>∀(z7 z8:Option V) (pY:List V) (bs:List (List Int×List cw)) (f6:iz) (oo:List (kS×V)),σ=[some (.ref sa),some (.ref fo),some (.ref D),some (.ref L),some (.ref b),some (.ref ga),some (.ref la),z7,z8]->aq H H6->DS jN P w K H6 D oo->eR K H6 f6 oo->(wo H6 b) L=some (.lst us)->eL K (wo H6 b) as us->H6 b=some (.lst pY)->eL K (wo H6 b) bs pY->bQ K (wo H6 b) ga (a.1.map V.int)->(wo H6 b) la=some (.lst Mu)->iH K (wo H6 b) a.2 Mu->c8 (cQ pr) (bq pr+1) f (cx (as.take i)++lD a j)=(f6,bs)->zq;refine Ce (K:=K) (a:=la) (xs:=Mu) Pw ((yt _ _ _ fun _ zk=>zk _ _ pY bs f5 pZ rfl s5 d5 Jg Ms Xf Xg Xh q2 q3 q4 (by rw[show lD a 0=[] from rfl,zav];exact e5))) ?_ ?_ ?_
  ·intro j σ H6 _ hv;refine jH _ _ _ hv _ fun _ _ _ _ _ _ _ _ _ _ _ _ _ _ _ yl _ _=>?_;exact .of (vT _ _ yl)
  ·intro j x σ H6 pp hx hv Bk;clear q1 q2 q3 q4 e5 Xh Xg Xf Ms Jg d5 s5;refine jH _ _ _ hv _ fun z7 z8 pY bs f6 oo kT s6 d6 Z8 Xj Z9 Xk Xl q2 q3 q4 e6=>?_;subst kT;clear hv;have lj:j<a.2.length:=by have:=(zak.mp hx).1;lia
   obtain⟨t1,OI,xa,rfl,wg⟩:=eZ q4 hx;have VU:=pK li (n:=bq pr+1) (m:=lv+1) (cx (as.take i)++lD a j) f ok fun x hx=>by
    rcases zaA.mp hx with hx |hx
    ·exact mH (m:=lv) ⟨fun a ha=>Qi.CV a (zbK ha),fun a ha=>Qi.len a (zbK ha)⟩ x hx
    ·exact EU (m:=lv) (Qi.CV a Xi) (Qi.len a Xi) (by lia) x hx
   rw[e6] at VU;obtain⟨Ss,_,ln6⟩:=VU;have Ss:yV (cU pr) f6:=Ss;have ln6:f.length+bs.length<=f6.length:=ln6;have afL:f6.length<=bq pr:=by
    have:=iG Ss.nd (fun x hx=>by obtain⟨y,hy,rfl⟩:=zaF.mp hx;exact Ss.CV y hy)
    rwa [zad] at this
   have s7:=aq.new Bk (.tup [.int j,.ref xa]);have Qk:(upd H6 pp (.tup [.int j,.ref xa])) pp=_:=ae;generalize upd H6 pp (.tup [.int j,.ref xa])=H7 at *;refine⟨pp,_,rfl,.of Qk,rfl,?_⟩;refine⟨_,_,rfl,_,_,rfl,rfl,?_⟩;simp only[zaT];ac_nf;refine⟨.inl ⟨rfl,_,.of (s7 _ _ Xk)⟩,fun p hp=>?_⟩;have s8:=aq.new hp (.tup [.int j]);have yp:(upd H7 p (.tup [.int j])) p=_:=ae;generalize upd H7 p (.tup [.int j])=H8 at *;have la1:=Qi.len a Xi;refine⟨ga,p,_,_,rfl,rfl,(s7.trans s8).a7 (vT.a7 q2),.of yp,by rw[zad,zax];lia,fun gp H9 s9 Ql=>?_⟩;have Td:=s7.trans (s8.trans s9);have IK:=s6.trans Td;have Ql:bQ K H9 gp ((a.1++[((j:Nat):Int)]).map V.int):=by rw[zaw];exact Ql
   clear s7 s8 s9 yp hp Qk Bk;have si1:cU pr t1:=Qi.CV a Xi t1 (zaI OI);have d9:=d6.mono Td;have f9a:=Z8.imp (H':=H9) fun a xs h=>Td.a7 h;have eb9:=Td _ _ Xk;refine⟨xa,fo,D,gp,cc,ch,mE,pr,t1,f6,a.1++[((j:Nat):Int)],oo,rfl,co.mono IK,dr,(wg.mono vT).mono Td,si1,lam.mono (wU IK hD),Ql,d9,f9a,Ss.nd,Ss.CV,qY,fun L9 Tc aaa HA uA hL9 yL9 dA fA akA=>?_⟩;obtain⟨φ9,eD9⟩:=d9.nH;have Xm:HA b=some (.lst pY):=uA _ _ R1.symm eb9;have Sq:aq H HA:=((aZ.of IK).trans uA).same hD;obtain⟨VT,Z5,Z6⟩:=vn li (m:=lv+1) (bq pr+1) f6 t1 (a.1++[((j:Nat):Int)]) Ss si1 (by rw[zae,zax];lia);have afP:(lW (cQ pr) (bq pr+1) f6 t1 (a.1++[((j:Nat):Int)])).1.length<=bq pr:=by
    have:=iG VT.nd (fun x hx=>by obtain⟨y,hy,rfl⟩:=zaF.mp hx;exact VT.CV y hy)
    rwa [zad] at this
   have asA:=eL.of akA (Ql.lV eD9 uA) (by rw[eb9];simp) Xm;have lb:bs.length=pY.length:=Paired.length Xl;have l9:=Paired.length asA;refine⟨b,L9,pY,Tc,rfl,rfl,Xm,yL9,by lia,?_⟩;have uB:aZ b HA (upd HA b (.lst (pY++Tc))):=(aZ.refl _ _).put _;have Te:(wo H9 b) D=some (.ext φ9):=by rw[eY R1];exact eD9
   have sw:aq (wo H6 b) (wo H9 b):=Oh Td;have uw:aZ D (wo H9 b) (wo HA b):=RG uA;refine(yt _ _ _ fun _ zk=>zk _ _ (pY++Tc) (bs++oC (a.1++[((j:Nat):Int)]) (lW (cQ pr) (bq pr+1) f6 t1 (a.1++[((j:Nat):Int)])).2) _ aaa rfl (fun z o e=>uB z o (ai e HR) (Sq z o e)) (dA.Ik (fun o h=>uB _ _ R1 h) (fun c ys h=>h.vg Xm uB)) (fA.imp (fun a xs h=>h.vg Xm uB)) ?_ ?_ ae ?_ ?_ ?_ ?_ ?_)
   ·rw[pJ];exact uw _ _ (bU (sw _ _ Xj) Te (by intro z;cases z)) (sw _ _ Xj)
   ·rw[pJ];exact(Z9.mono sw).ext Te uw
   ·rw[pJ];exact nJ ((Xl.mono sw).ext Te uw) asA
   ·rw[pJ];exact(sw.a7 q2).lV Te uw
   ·rw[pJ];exact uw _ _ (bU (sw _ _ q3) Te (by intro z;cases z)) (sw _ _ q3)
   ·rw[pJ];exact nI (q4.mono sw) fun a row vals h=>h.ext Te uw
   ·rw[A4,<- za1,vo,e6];have:a.2.getD j (0,[])=t1:=by rw[zap,OI];rfl
    simp only[this,vp]
  ·intro σ H6 hv;refine jH _ _ _ hv _ fun z7 z8 pY bs f6 oo kU s6 d6 Z8 Xj Z9 Xk Xl q2 q3 q4 e6=>?_;subst kU;refine(mf _ _ _ fun _ zk=>zk _ _ _ _ pY bs f6 oo rfl s6 d6 Z8 Xj Z9 Xk Xl ?_);rw[zbG,ha,zby,CW,hll];exact e6
 ·intro σ H5 hv;refine dQ _ _ _ hv _ fun z5 z6 z7 z8 pY bs f5 pZ kU s5 d5 Jg Ms Xf Xg Xh e5=>?_;subst kU;refine(BR _ _).mpr ?_;ac_nf;have g5:=gok us.length;rw[<- uL,zaU] at e5 g5;rw[e5] at g5 ef;obtain⟨Su,ao5,Xn⟩:=g5;have Xn:f.length+bs.length<=f5.length:=Xn;refine(L7 _ _ _ fun _ zk=>zk _ _ _ _ _ b pY bs f5 pZ (lv+1) rfl s5 d5 Jg Su Xg (Xh.mono vT) ao5 ef (fun h=>?_) rfl);have:=zbg.mpr h;lia
theorem wx(T:Tx K mg t){c Pt:zdk}(B:jg K mg base c Pt)(hc:vk K t.bS c) :
 bJ P w K mg base dy 11 t.bS t.hJ ["chart"] (Iy P w K t.aW "first_inputs.<locals>.<lambda>" Pt (rX (iw aT))):=by
 have Bu:=@zi P w _ _ base _ T;refine T.iT.F.okC oG hc (fun vs H Q E h=>?_) (fun A outer s H vs Q E hr h=>?_)
 ·obtain⟨_,_,_,rfl,_⟩:=h;rfl
 obtain⟨ch,pr,ps,rfl,co,dr,qY,BP,tok,q⟩:=h;have nd:=oG.nd;have Nq:∀pins σ (H':Hp) (s':zdu) e Hh a o,Inv (mX dy P w K mg base ["chart"] "first_inputs" (aJ aT) t.bS (.ref c) A outer s H E).DN pins σ H' s'->H' a=none->s'.heap.get? a=some o->dy (mX dy P w K mg base ["chart"] "first_inputs" (aJ aT) t.bS (.ref c) A outer s H E).DN.stack (upd H' a (eX a o)) s' E0 e Hh->(mX dy P w K mg base ["chart"] "first_inputs" (aJ aT) t.bS (.ref c) A outer s H E).DN.xe e Hh:=fun _ _ _ _ _ _ _ _ _ _ _ h=>h.elim;refine⟨_,[some (.ref ch)],(ak (aO (Ly (i:=0) (y:="chart") Bu (hr.mono (by first|decide|omega)) rfl T.gO.m T.gO.F.kp T.gO.b Nq (ag (ky (pv 0) rfl) (ag (RB (y:="chart") B rfl rfl ⟨_,rfl,rfl⟩ rfl) aa rfl) F3) rfl rfl rfl))),rfl,?_⟩;ac_nf;simp only[Lx];ac_nf;obtain⟨dx,nl,sd,fa,va,stt,wy,us,ws,h1,h2,h3,h4,h5,h6,h7,h8,h9,K8,MM,Pu⟩:=co.at_;have sI:cD K H fa (bj pr.body 0) (pr.ay.map (·.first)):=⟨va,.of h5,.of (by rw[zbj];exact h6)⟩
 refine⟨ch,_,dx,_,.ref fa,rfl,h1,T.c9,T.iX,rfl,?_⟩;refine⟨ps,BP,tok,fun fo cc c' pm vS oc vs DD tk H1 ecc UN kp only yfo yc' SJ Wq Xo OO=>⟨_,rfl,fun cc2 mE uc aab yH aac ruc=>?_⟩⟩;cases ecc.symm.trans aab;have u1:aZ Pt H H1:=fun b o n e=>kp b o n e;have k1:Kp H H1:=Kp.of u1 BP;have sc:=aq.new yH (eX cc mE);have Xp:(upd H1 cc (eX cc mE)) cc=some (eX cc mE):=ae;have Dq:=sc _ _ Xo;have aad:H cc=none:=by
  cases y:H cc with
  |none=>rfl
  |some o=>
   by_cases z:cc=Pt
   ·rw[z,Xo] at yH;cases yH
   ·rw[kp cc o z y] at yH;cases yH
 have lam:Iw "chart" "first_inputs.<locals>.<lambda>" (iw aT) (upd H1 cc (eX cc mE)) fo cc mE (.ref ch):=⟨c',pm,vS,uc,oc,vs,tk,sc _ _ yfo,sc _ _ yc',SJ,Wq,Xp,aac,ruc⟩
 refine⟨fa,fo,cc,ch,mE,pr,(bj pr.body 0,pr.ay.map (·.first)),rfl,(co.kp k1).mono sc,dr,(sI.kp k1).mono sc,cU.first dr,lam,qY,fun D ax H3 s3 hD d3 f3=>⟨s3 _ _ Xp,?_⟩⟩;have nD:D≠cc:=fun z=>by rw[z,Xp] at hD;cases hD
 have VW:=s3 _ _ Xp;have uw:aZ cc H3 (wo H3 cc):=wV;have RX:H D=none:=by
  rw[aw nD] at hD;cases y:H D with
  |none=>rfl
  |some o=>
   by_cases z:D=Pt
   ·rw[z,Xo] at hD;cases hD
   ·rw[kp D o z y] at hD;cases hD
 refine q D ax (wo H3 cc) DD (fun b o n e=>?_) RX (d3.other VW nD uw) (f3.imp fun a xs h=>h.lV VW uw) ?_ ?_
 ·rw[eY (ai e aad)];exact s3 _ _ (sc _ _ (kp b o n e))
 ·rw[eY (ai Xo yH)];exact s3 _ _ Dq
 ·refine OO.kp fun b o e _=>?_;rw[eY (ai e yH)];exact s3 _ _ (sc _ _ e)
theorem zj(T:Tx K mg t):bJ P w K mg base dy 7 t.iS t.jq ["made"] (LI P w K):=by
 have l6:=@pX P w _ _ base _ T;have gI:=@i8 P w _ _ base _ T;have wz:=@vF P w _ _ base _ T;refine T.j9.F.lQ qW (fun vs H Q E h=>?_) (fun eT A outer s H vs Q E hr h=>?_)
 ·obtain⟨_,_,rfl,_⟩:=h;rfl
 obtain⟨md,pr,rfl,ma,dr,qY,q⟩:=h;have nd:=qW.nd;have hu:=dS hr;refine⟨_,[some (.ref md),none,none,none,none,none,none,none],(ah (c5 1 nd (tX (J:=jN)))
 (ah (c5 2 nd (bu (ag (aS (ag (aS aa) (ag (aC a9 (pv 0) aj ao) aa aX) bW)) aa bW)))
 (ah (mh PassesOwn.never (aD (ki (dS hr)) (pv 2) (bu aa) (aR _))
 (ah (c5 3 nd (bu aa))
 (ah (du PassesOwn.never rfl (cH (pv 2)) (rH rfl (bM (lX 4 nd) (bM (lX 5 nd) iA)))
 (ak (du PassesOwn.never rfl (cH (da wz T.hZ hr (bc 0 (bc 5 aa)))) (lX 6 nd)
 (ak (bh (aD (vi (J:=jN) (MP hr)) (pv 6) (pv 1) rfl)
 (ah (xO (J:=jN) (MP hr) (pv 1) (pv 6) (pv 4) rfl)
 (ak (bh (rG (da l6 T.g7 hr (bc 0 (bc 6 aa))))
 (ak (bK (dw zaj zan zao bD (pv 3) (ag (aS (bc 4 (bc 6 aa))) aa bW))))
 aV)))
 aV)))))
 (ah (c5 2 nd (bu aa))
 (ak (du PassesOwn.never rfl (cH (pv 3)) (rH rfl (bM (lX 4 nd) (bM (lX 6 nd) iA)))
 (ak (du PassesOwn.never rfl (ik rfl T.js (ag aj aa aP)) (lX 7 nd)
 (ak (bK (dw zaj zan zao bD (pv 2) (ag (aS (ag (bf wM (pv 4) (aS (bc 7 aa))) (ag (da gI T.cX hr (bc 0 (bc 6 (bc 7 aa)))) aa bG) ja)) aa bW))))))))))))
 (ak (aO (pv 1)))))),rfl,?_⟩
 have line:zds=2 ^ 24:=rfl;have li:∀s,cU pr s->∀x∈cQ pr s,cU pr x:=fun s h=>t9 dr h;obtain⟨B,d8,wy,fa,Qj,RH,Xb,_,_,_,_,_,_,hfa⟩:=ma.at_;refine av fun U1 eE=>?_;ac_nf;intro D hD yD;refine(eE _ _).mpr (av fun U2 gh=>?_);clear eE;have d1:=A3 (J:=jN) (P:=P) (w:=w) (K:=K) (H:=H) yD;have s1:=aq.new hD (.ext (gS jN P w D []));generalize upd H D (.ext (gS jN P w D []))=H1 at *;ac_nf;intro p hp;generalize e2:upd H1 p _=H2;have s2:=gT e2 hp;have yp:H2 p=some (.tup []):=by rw[<- e2];exact ae
 clear e2;have ON:=s1.trans s2;refine bz (ON.seq Xb) (v:=.ref fa) (au (j:=3) rfl) (fun p3 DE=>?_);generalize e3:upd H2 p3 _=H3;have s3:=gT e3 DE;have yp3:H3 p3=some (.tup [.ref p,.ref fa]):=by rw[<- e3];exact ae
 clear e3;intro L0 WV;generalize e4:upd H3 L0 _=H4;have s4:=gL e4 WV;have yL0:H4 L0=some (.lst [.ref p3]):=NZ e4;clear e4;refine(gh _ _).mpr (av fun U3 iY=>?_);clear gh;have s04:=ON.trans (s3.trans s4);have lv0:vv K H4 [(jA pr,[])] [.ref p3]:=.cons ⟨p3,p,fa,rfl,.of (s4 _ _ yp3),.of (s4 _ _ (s3 _ _ yp)),hfa.mono s04⟩ .nil;refine A2 fun Bd L6=>?_;ac_nf;obtain⟨Iv,L7,Fc⟩:=wX fun (m:Nat) (σ:St) (Hx:Hp) zq=>∀(z3 z4 z5 z6 z7:Option V) (L:zdk) (us:List V) (lv f:iz) (ax:List (kS×V)) (n:Nat),σ=[some (.ref md),some (.ref D),some (.ref L),z3,z4,z5,z6,z7]->aq H Hx->DS jN P w K Hx D ax->eR K Hx f ax->yV (cU pr) f->Cl (dq pr.body) (bZ pr) f (fun _=>False)->Hx L=some (.lst us)->vv K Hx lv us->(∀x∈lv,cU pr x.1/\x.2.length<=n)->cZ pr (jA pr)=ua (cQ pr) (bq pr+1) (bq pr+2-n) (c8 (cQ pr) (bq pr+1) f lv).1 (c8 (cQ pr) (bq pr+1) f lv).2->(lv≠[]->n<=f.length)->m=bq pr+2-n->zq;refine⟨Iv,⟨_,(L7 _ _ _ fun _ zk=>zk none none none none none L0 _ [(jA pr,[])] [] [] 0 rfl s04 ((d1.mono s2).mono (s3.trans s4)) .nil .nil (fun x hx=>(by cases hx)) yL0 lv0 (fun x hx=>(by rw[zar.mp hx];exact⟨cU.first dr,zaf _⟩)) (by rw[vp];rfl) (fun _=>zaf _) rfl)⟩,?_⟩;clear lv0 s04 yL0 s4 WV yp3 s3 DE ON yp s2 hp d1 s1;intro m σ Hx hv;refine Fc _ _ _ hv _ fun z3 z4 z5 z6 z7 L us lv f ax n kT sx dx fx ok cl yL Qm lok ef hn kU=>?_;subst kT;subst kU;clear hv;have uL:lv.length=us.length:=Paired.length Qm;have Mv:∀f:iz,yV (cU pr) f->f.length<=bq pr:=fun f ok=>by
  have:=iG ok.nd (fun x hx=>by obtain⟨y,hy,rfl⟩:=zaF.mp hx;exact ok.CV y hy)
  rwa [zad] at this
 have uZ:=Mv f ok;ac_nf;intro p hp;generalize e0:upd Hx p _=Hy;have sy:=gL e0 hp;have yp:Hy p=some (.lst []):=NZ e0;clear e0;have sx:=sx.trans sy;have dx:=dx.mono sy;have fx:=fx.imp (H':=Hy) fun a xs h=>sy.a7 h;have yL:=sy _ _ yL;have Qm:=Qm.imp (H':=Hy) fun a xs h=>sy.a7 h;clear sy;refine⟨L,p,us,rfl,rfl,.of yL,.of yp,?_⟩;cases lv with
 |nil=>
  have e0:us=[]:=zaV.mp uL.symm;subst e0;refine(zzn (by decide)).mpr ((iY _ _).mpr ?_);ac_nf;rw[show c8 (cQ pr) (bq pr+1) f []=(f,[]) from rfl,xU] at ef;rw[ef] at q;exact q D ax Hy sx hD dx fx
 |cons a0 Sr=>
 have DA:(a0::Sr)≠[]:=by simp
 have hn:=hn DA;obtain⟨u0,Qj,rfl⟩:∃u0 Qj,us=u0::Qj:=by cases us with |nil=>cases uL |cons a b=>exact⟨_,_,rfl⟩
 refine(zzp rfl).mpr ?_;generalize a0::Sr=lv at *;generalize u0::Qj=us at *;clear hp yp;refine⟨Iv (bq pr+2-(n+1)),fun σ' H' h=>⟨_,by lia,h⟩,?_⟩;refine L6 _ _ _ (av fun V1 BQ=>?_);clear L6 iY;ac_nf;intro aL Qn;refine(BQ _ _).mpr (av fun V2 BR=>?_);clear BQ;have sb:=aq.new Qn (.lst []);have ya:(upd Hy aL (.lst [])) aL=some (.lst []):=ae;have aag:H aL=none:=sx.free Qn;have nLa:L≠aL:=ai yL Qn;have Zp:D≠aL:=by obtain⟨φ,e⟩:=dx.nH;exact ai e Qn
 have sx:=sx.trans sb;have dx:=dx.mono sb;have fx:=fx.imp (H':=upd Hy aL (.lst [])) fun a xs h=>sb.a7 h;have yL:=sb _ _ yL;have Qm:=Qm.imp (H':=upd Hy aL (.lst [])) fun a xs h=>sb.a7 h;generalize upd Hy aL (.lst [])=H1 at *;clear sb Qn;refine fI fun U hU=>?_;ac_nf;refine⟨⟨us,.of yL⟩,hU _ _ ?_⟩;clear hU;obtain⟨Pv,mf,dQ⟩:=wX fun (i:Nat) (σ:St) (H5:Hp) zq=>∀(z4 z5 z6 z7:Option V) (Jh:List V) (A f5:iz) (bs:List (List Int×List cw)) (pZ:List (kS×V)),σ=[some (.ref md),some (.ref D),some (.ref L),some (.ref aL),z4,z5,z6,z7]->aq H H5->DS jN P w K H5 D pZ->eR K H5 f5 pZ->yV (cU pr) f5->Cl (dq pr.body) (bZ pr) f5 (fun _=>False)->H5 L=some (.lst us)->vv K H5 lv us->H5 aL=some (.lst Jh)->vv K H5 A Jh->(∀a∈A,cU pr a.1/\dq pr.body a.1.1=true/\a.2.length<=n)->f.length+A.length<=f5.length->c8 (cQ pr) (bq pr+1) f (lv.take i)=(f5,bs)->cx bs=lE (bZ pr) A->zq;refine fH (K:=K) (a:=L) (xs:=us) Pv ((mf _ _ _ fun _ zk=>zk _ _ _ _ [] [] f [] ax rfl sx dx fx ok cl yL Qm ya .nil (fun a ha=>(by cases ha)) (zaf _) rfl rfl)) (fun i σ H5 _ hv=>?_) ?_ ?_
 ·refine dQ _ _ _ hv _ fun _ _ _ _ _ _ _ _ _ _ _ _ _ _ _ Ms _ _ _ _ _ _ _=>?_;exact .of Ms
 ·intro i y σ H5 hi hv;clear dx fx sx Qm yL ya;refine dQ _ _ _ hv _ fun z4 z5 z6 z7 Jh A f5 bs pZ kT s5 d5 Jg Su cl5 Ms Xq MZ A5 Xr Xn e5 eb=>?_;subst kT;clear hv;obtain⟨x0,hx0,ta,ga,sa,rfl,q1,q2,q3⟩:=eZ Xq hi;have lx:=lok x0 (zaI hx0);refine⟨ta,_,rfl,q1,rfl,_,_,rfl,_,_,rfl,rfl,?_⟩;simp only[zaT];refine fI fun U hU=>?_;ac_nf;refine⟨md,sa,pr,x0.1,rfl,ma.mono s5,dr,q3,lx.1,by lia,fun gl VX g H6 s6 hgl ygl gst sg gi gln=>⟨gl,rfl,⟨VX,.of ygl⟩,hU _ _ ?_⟩⟩;clear hU;obtain⟨eg1,eg2,eg3⟩:=Oj dr (fig:=x0.2) (n:=bq pr+1) sg (by lia) cl5;have lgu:g.length=VX.length:=Paired.length gst;have ngD:gl≠D:=by obtain⟨φ,e⟩:=d5.nH;exact(ai e hgl).symm
  have nga:gl≠aL:=(ai MZ hgl).symm;obtain⟨Pw,yt,jH⟩:=wX fun (j:Nat) (σ:St) (H6:Hp) zq=>∀(z6:Option V) (wA:List V) (oo:List (kS×V)),σ=[some (.ref md),some (.ref D),some (.ref L),some (.ref aL),some (.ref ga),some (.ref sa),z6,z7]->aq H H6->DS jN P w K H6 D oo->eR K H6 (fe (dq pr.body) f5 (g.take j) x0.2).1 oo->H6 L=some (.lst us)->vv K H6 lv us->H6 aL=some (.lst wA)->vv K H6 (A++(fe (dq pr.body) f5 (g.take j) x0.2).2) wA->H6 gl=some (.lst VX)->iH K H6 g VX->bQ K H6 ga (x0.2.map V.int)->zq;refine fH (K:=K) (a:=gl) (xs:=VX) Pw ((yt _ _ _ fun _ zk=>zk _ Jh pZ rfl (s5.trans s6) (d5.mono s6) (Jg.imp (fun a xs h=>s6.a7 h)) (s6 _ _ Ms) (Xq.imp (fun a xs h=>s6.a7 h)) (s6 _ _ MZ) (by rw[zc4,fe,zav];exact A5.imp fun a xs h=>s6.a7 h) ygl gst (s6.a7 q2))) (fun j σ H7 _ hv=>?_) ?_ ?_
  ·refine jH _ _ _ hv _ fun _ _ _ _ _ _ _ _ _ _ _ yg _ _=>?_;exact .of yg
  ·intro j y σ H7 hj hv;clear s6 hgl ygl gst d5 Jg Ms Xq MZ A5 q1 q2 q3 s5;refine jH _ _ _ hv _ fun z6 wA oo kT s7 d7 f7 Tf VY M0 A7 VZ Mw q2=>?_;subst kT;clear hv;obtain⟨x,hx,xa,rfl,stx⟩:=eZ Mw hj;have xm:x∈g:=zaI hx;have six:=gi x xm;have tk:g.take (j+1)=g.take j++[x]:=by rw[zbG,hx];rfl
   obtain⟨Xs,Sv,ln7⟩:=wW (ask:=dq pr.body) (g:=x0.2) (g.take j) f5 Su fun y hy=>gi y (zbK hy);have ap:=xV (ask:=dq pr.body) (g:=x0.2) (g.take j) [x] f5;rw[<- tk] at ap;generalize fe (dq pr.body) f5 (g.take j) x0.2=fa7 at *;obtain⟨f6,A6⟩:=fa7;simp only at f7 A7 ap Xs Sv ln7;have fw:=Mv f6 Xs;have lA:(A++A6).length=wA.length:=Paired.length A7;rw[zae] at lA;have lk7:=f7.len;obtain⟨φ7,Sw⟩:=d7.nH;simp only[eO,zaT];ac_nf;refine⟨D,xa,oo,nG x,rfl,rfl,d7,Ag stx,?_⟩;rw[f7.WK x];by_cases V0:x∈f6.map (·.1)
   ·refine(zzn (by rw[decide_eq_true V0];decide)).mpr ?_;have ea:fe (dq pr.body) f6 [x] x0.2=(f6,[]):=by rw[fe,zzp V0,fe]
    rw[ea,zav] at ap;refine(yt _ _ _ fun _ zk=>zk _ wA oo rfl s7 d7 (by rw[ap];exact f7) Tf VY M0 (by rw[ap];exact A7) VZ Mw q2)
   refine(zzp (by rw[decide_eq_false V0];decide)).mpr ?_;have ea:fe (dq pr.body) f6 [x] x0.2=(f6++[(x,x0.2)],if dq pr.body x.1=true then [(x,x0.2)] else []):=by rw[fe,zzn V0,fe,zav]
   rw[ea] at ap;refine⟨D,xa,oo,nG x,rfl,rfl,d7,Ag stx,by lia,fun H8 d8 e8=>?_⟩;obtain⟨φ',rfl⟩:=e8;have u8:aZ D H7 (upd H7 D (.ext φ')):=(aZ.refl _ _).put _;have s8:aq H (upd H7 D (.ext φ')):=fun z o e=>u8 z o (ai e hD) (s7 z o e);have tt:∀a xs,bQ K H7 a xs->bQ K (upd H7 D (.ext φ')) a xs:=fun a xs h=>h.lV Sw u8;have q2:=tt _ _ q2;have f8:=(f7.imp tt).put V0 q2;have yL8:=u8 _ _ (bU Tf Sw (by intro z;cases z)) Tf;have Sx:=u8 _ _ (bU M0 Sw (by intro z;cases z)) M0;have yg8:=u8 _ _ (bU VZ Sw (by intro z;cases z)) VZ;have lv8:=VY.imp tt;have A8:=A7.imp tt;have V5:=nI Mw fun a row vals h=>h.ext Sw u8;have stx:=stx.ext Sw u8;clear u8 tt;generalize upd H7 D (.ext φ')=H8 at *;clear d7 f7 Tf VY M0 A7 VZ Mw s7 Sw;refine⟨md,xa,pr,x,rfl,ma.mono s8,dr,stx,six,?_⟩;cases ha:dq pr.body x.1 with
   |false=>
    rw[ha,zzn (by decide),zav] at ap;refine⟨_,rfl,(zzn (by decide)).mpr ?_⟩;exact(yt _ _ _ fun _ zk=>zk _ wA _ rfl s8 d8 (by rw[ap];exact f8) yL8 lv8 Sx (by rw[ap];exact A8) yg8 V5 q2)
   |true=>
    rw[ha,zzp rfl] at ap;refine⟨_,rfl,(zzp rfl).mpr ?_⟩;refine⟨.inl ⟨rfl,_,.of Sx⟩,fun pp Bk=>?_⟩;have s9:=aq.new Bk (.tup [.ref ga,.ref xa]);have Qk:(upd H8 pp (.tup [.ref ga,.ref xa])) pp=_:=ae;generalize upd H8 pp (.tup [.ref ga,.ref xa])=H9 at *;have Xt:=s9 _ _ Sx;refine⟨aL,wA,.ref pp,rfl,rfl,Xt,by lia,?_⟩;have uB:aZ aL H9 (upd H9 aL (.lst (wA++[.ref pp]))):=(aZ.refl _ _).put _;have tt:∀a xs,bQ K H8 a xs->bQ K (upd H9 aL (.lst (wA++[.ref pp]))) a xs:=fun a xs h=>(s9.a7 h).vg Xt uB;have IK:=s8.trans s9;refine(yt _ _ _ fun _ zk=>zk _ (wA++[.ref pp]) _ rfl (fun z o e=>uB z o (ai e aag) (IK z o e)) ((d8.mono s9).Ik (fun o h=>uB _ _ Zp h) (fun c ys h=>h.vg Xt uB)) (by rw[ap];exact f8.imp tt) (uB _ _ nLa (s9 _ _ yL8)) (lv8.imp tt) ae ?_ (uB _ _ nga (s9 _ _ yg8)) (nI V5 (fun a row vals ⟨va,h1,h2⟩=>⟨va,tt _ _ h1,tt _ _ h2⟩)) (tt _ _ q2));rw[ap,<- za1];obtain⟨va,h1,h2⟩:=stx;exact nJ (A8.imp tt) (.cons ⟨pp,ga,xa,rfl,bQ.vg (.of Qk) Xt uB,tt _ _ q2,va,tt _ _ h1,tt _ _ h2⟩ .nil)
  ·intro σ H7 hv;refine jH _ _ _ hv _ fun z6 wA oo kU s7 d7 f7 Tf VY M0 A7 VZ Mw q2=>?_;subst kU;rw[<- lgu,zaU] at f7 A7;obtain⟨Xs,Sv,ln7⟩:=wW (ask:=dq pr.body) (g:=x0.2) g f5 Su gi;refine(mf _ _ _ fun _ zk=>zk _ _ _ _ wA (A++(fe (dq pr.body) f5 g x0.2).2) _ (bs++oC x0.2 (lW (cQ pr) (bq pr+1) f5 x0.1 x0.2).2) oo rfl s7 d7 f7 Xs eg3 Tf VY M0 A7 (fun a ha=>?_) (by rw[zae];lia) ?_ ?_)
   ·rcases zaA.mp ha with ha |ha
    ·exact Xr a ha
    ·obtain⟨b1,b2,b3⟩:=Sv a ha;exact⟨b1,b2,by rw[b3];exact lx.2⟩
   ·rw[zbG,hx0,zby,vo,e5];obtain⟨x1,x2⟩:=x0;rw[vp,eg1]
   ·rw[EX,Ah,eb,eg2]
 ·intro σ H5 hv;clear dx fx sx Qm yL ya;refine dQ _ _ _ hv _ fun z4 z5 z6 z7 Jh A f5 bs pZ kU s5 d5 Jg Su cl5 Ms Xq MZ A5 Xr Xn e5 eb=>?_;subst kU;clear hv mf dQ Pv;rw[<- uL,zaU] at e5;refine(BR _ _).mpr (av fun V3 RT=>?_);clear BR;ac_nf;intro b hb;refine(RT _ _).mpr ?_;clear RT;have sb:=aq.new hb (.lst []);have yb:(upd H5 b (.lst [])) b=some (.lst []):=ae;have HR:H b=none:=s5.free hb;have Rc:aL≠b:=ai MZ hb;have R1:D≠b:=by obtain⟨φ,e⟩:=d5.nH;exact ai e hb
  have s5:=s5.trans sb;have d5:=d5.mono sb;have Jg:=Jg.imp (H':=upd H5 b (.lst [])) fun a xs h=>sb.a7 h;have MZ:=sb _ _ MZ;have A5:=A5.imp (H':=upd H5 b (.lst [])) fun a xs h=>sb.a7 h;generalize upd H5 b (.lst [])=H6 at *;clear sb hb;have aal:A.length=Jh.length:=Paired.length A5;have af3:=Mv f5 Su;refine fI fun U hU=>?_;ac_nf;refine⟨⟨Jh,.of MZ⟩,hU _ _ ?_⟩;clear hU;obtain⟨Pv,mf,dQ⟩:=wX fun (i:Nat) (σ:St) (H7:Hp) zq=>∀(z4 z5 z6 z7:Option V) (pY:List V),σ=[some (.ref md),some (.ref D),some (.ref b),some (.ref aL),z4,z5,z6,z7]->aq H H7->DS jN P w K H7 D pZ->eR K H7 f5 pZ->H7 aL=some (.lst Jh)->vv K H7 A Jh->H7 b=some (.lst pY)->vv K H7 (lE (bZ pr) (A.take i)) pY->zq;refine fH (K:=K) (a:=aL) (xs:=Jh) Pv ((mf _ _ _ fun _ zk=>zk _ _ _ _ [] rfl s5 d5 Jg MZ A5 yb .nil)) (fun i σ H7 _ hv=>?_) ?_ ?_
  ·refine dQ _ _ _ hv _ fun _ _ _ _ _ _ _ _ _ y _ _ _=>?_;exact .of y
  ·intro i y σ H7 hi hv;clear s5 d5 Jg MZ A5 yb;refine dQ _ _ _ hv _ fun z4 z5 z6 z7 pY kT s7 d7 f7 M0 A7 Xu N7=>?_;subst kT;clear hv;obtain⟨a0,Jf,ta,ga,sa,rfl,q1,q2,q3⟩:=eZ A7 hi;obtain⟨sia,Sy,lna⟩:=Xr a0 (zaI Jf);have h0:a0.1.1≠0:=fun z=>by rw[z,tY dr.ok] at Sy;cases Sy
   have il:i<A.length:=(zak.mp Jf).1;refine⟨ta,_,rfl,q1,rfl,_,_,rfl,_,_,rfl,rfl,?_⟩;simp only[zaT];ac_nf;obtain⟨Pw,yt,jH⟩:=wX fun (j:Nat) (σ:St) (H8:Hp) zq=>∀(z7:Option V) (pY:List V),σ=[some (.ref md),some (.ref D),some (.ref b),some (.ref aL),some (.ref ga),z5,some (.ref sa),z7]->aq H H8->DS jN P w K H8 D pZ->eR K H8 f5 pZ->H8 aL=some (.lst Jh)->vv K H8 A Jh->H8 b=some (.lst pY)->vv K H8 (lE (bZ pr) (A.take i)++nextJ (bZ pr) a0 j) pY->bQ K H8 ga (a0.2.map V.int)->cD K H8 sa a0.1.1 a0.1.2->zq;refine⟨10,rfl,by decide,by decide,?_⟩;refine kh (lo:=0) (n:=10) Pw ((yt _ _ _ fun _ zk=>zk _ pY rfl s7 d7 f7 M0 A7 Xu (by rw[show nextJ (bZ pr) a0 0=[] from rfl,zav];exact N7) q2 q3)) ?_ ?_
   ·intro j σ H8 hj hv;clear s7 d7 f7 M0 A7 Xu N7 q1 q2 q3;refine jH _ _ _ hv _ fun z7 pY kT s8 d8 f8 Sx A8 Xv N8 q2 q3=>?_;subst kT;clear hv;simp only[eO,zaT];ac_nf;rw[zcI];refine⟨.inl ⟨rfl,_,.of Xv⟩,fun p1 E9=>?_⟩;have s9:=aq.new E9 (.tup [.int j]);have yp1:(upd H8 p1 (.tup [.int j])) p1=_:=ae;generalize upd H8 p1 (.tup [.int j])=H9 at *;refine⟨ga,p1,_,_,rfl,rfl,s9.a7 q2,.of yp1,by rw[zad,zax];lia,fun gp HA sA Ql=>?_⟩;have VR:=s9.trans sA;have Ql:bQ K HA gp ((a0.2++[((j:Nat):Int)]).map V.int):=by rw[zaw];exact Ql
    refine⟨md,sa,.int j,pr,a0.1,j,rfl,ma.mono (s8.trans VR),dr,q3.mono VR,sia,h0,fun _=>rfl,fun v HB sB ov=>fun pp Bk=>?_⟩;obtain⟨y1,ey⟩:∃y1,(bZ pr a0.1.1 a0.1.2 j).1=some y1:=by
     cases e:(bZ pr a0.1.1 a0.1.2 j).1 with
     |none=>exact zzb e (xR _ _ _ Sy)
     |some y1=>exact⟨y1,rfl⟩
    rw[ey] at ov;obtain⟨ya,rfl,Y8⟩:=ov;have sC:=aq.new Bk (.tup [.ref gp,.ref ya]);have Qk:(upd HB pp (.tup [.ref gp,.ref ya])) pp=_:=ae;generalize upd HB pp (.tup [.ref gp,.ref ya])=HC at *;have Qh:=VR.trans (sB.trans sC);have ybC:=Qh _ _ Xv;have lb:=Paired.length N8;have lA1:(lE (bZ pr) (A.take i)).length<=20000:=by
     rw[vt,zbU];lia
    have lA2:(nextJ (bZ pr) a0 j).length=j:=by unfold nextJ;rw[zad,zbt]
    rw[zae] at lb;refine⟨b,pY,.ref pp,rfl,rfl,ybC,by lia,?_⟩;have uB:aZ b HC (upd HC b (.lst (pY++[.ref pp]))):=(aZ.refl _ _).put _;have tt:∀a xs,bQ K HC a xs->bQ K (upd HC b (.lst (pY++[.ref pp]))) a xs:=fun a xs h=>h.vg ybC uB;have t8:∀a xs,bQ K H8 a xs->bQ K (upd HC b (.lst (pY++[.ref pp]))) a xs:=fun a xs h=>tt _ _ (Qh.a7 h);have Qg:=s8.trans Qh;obtain⟨va,h1,h2⟩:=q3;obtain⟨vb,h3,h4⟩:=Y8.mono sC;refine(yt _ _ _ fun _ zk=>zk _ (pY++[.ref pp]) rfl (fun z o e=>uB z o (ai e HR) (Qg z o e)) ((d8.mono Qh).Ik (fun o h=>uB _ _ R1 h) (fun c ys h=>tt _ _ h)) (f8.imp t8) (uB _ _ Rc (Qh _ _ Sx)) (A8.imp t8) ae ?_ (t8 _ _ q2) ⟨va,t8 _ _ h1,t8 _ _ h2⟩);rw[EW,<- za1,ey];exact nJ (N8.imp t8) (.cons ⟨pp,gp,ya,rfl,tt _ _ (.of Qk),tt _ _ ((sB.trans sC).a7 Ql),vb,tt _ _ h3,tt _ _ h4⟩ .nil)
   ·intro σ H8 hv;refine jH _ _ _ hv _ fun z7 pY kU s8 d8 f8 Sx A8 Xv N8 q2 q3=>?_;subst kU;refine(mf _ _ _ fun _ zk=>zk _ _ _ _ pY rfl s8 d8 f8 Sx A8 Xv ?_);rw[zbG,Jf,zby,Ah];exact(show lE (bZ pr) [a0]=nextJ (bZ pr) a0 10 by unfold lE;rw[zaG,zbk,zav])▸N8
  ·intro σ H7 hv;refine dQ _ _ _ hv _ fun z4 z5 z6 z7 pY kU s7 d7 f7 M0 A7 Xu N7=>?_;subst kU;rw[<- aal,zaU] at N7;have lb:=Paired.length N7;rw[vt] at lb;refine(L7 _ _ _ fun _ zk=>zk _ _ _ _ _ b pY _ f5 pZ (n+1) rfl s7 d7 f7 Su cl5 Xu N7 (fun x hx=>?_) ?_ (fun h=>?_) rfl)
   ·obtain⟨a,ha,hx⟩:=zbc.mp hx;obtain⟨j,hj,rfl⟩:=zaF.mp hx;obtain⟨sia,Sy,lna⟩:=Xr a ha;have h0:a.1.1≠0:=fun z=>by rw[z,tY dr.ok] at Sy;cases Sy
    refine⟨?_,by rw[zae,zax];lia⟩;cases e:(bZ pr a.1.1 a.1.2 j).1 with
    |none=>exact zzb e (xR _ _ _ Sy)
    |some y1=>exact sia.next dr h0 e
   ·rw[ef,e5,<- eb,show bq pr+2-n=(bq pr+2-(n+1))+1 by lia,ua];show (if bs=[] then f5 else _)=_;split
    ·rename_i hb;rw[hb];show f5=ua _ _ _ f5 [];rw[xU]
    ·rfl
   ·have:A≠[]:=fun z=>by rw[z] at h;exact h rfl
    have:=zbg.mpr this;lia
theorem sN(T:Tx K mg t){c Pt:zdk}(B:jg K mg base c Pt)(hc:vk K t.bS c) :
 bJ P w K mg base dy 12 t.dY t.fD ["chart"] (RI P w K t.aW "first_inputs.<locals>.<lambda>" Pt (rX (iw aT))):=by
 have yw:=@wx P w _ _ base _ T _ _ B hc;have Bv:=@zh P w _ _ base _ T;refine T.gg.F.lQ kG (fun vs H Q E h=>?_) (fun eT A outer s H vs Q E hr h=>?_)
 ·obtain⟨_,_,_,rfl,_⟩:=h;rfl
 obtain⟨ch,pr,tps,rfl,co,dr,qY,BP,tok,q⟩:=h;have nd:=kG.nd;have hu:=dS hr;refine⟨_,[some (.ref ch),none,none,none,none],(ah (c5 1 nd (tX (J:=Il)))
 (ah (du PassesOwn.never rfl (IC (J:=jN) (LO (J:=jN) (da yw T.iT hr (bc 0 aa)))) (rH rfl (bM (lX 2 nd) (bM (lX 3 nd) iA)))
 (ak (du PassesOwn.never rfl (cH (da Bv T.j6 hr (bc 0 (bc 2 aa)))) (lX 4 nd)
 (ak (bK (ID (J:=Il) (MP hr) (pv 1) (bc 4 (bc 3 aa))))))))
 (ak (aO (pv 1))))),rfl,?_⟩
 have line:zds=2 ^ 24:=rfl;refine av fun U1 eE=>?_;ac_nf;intro D hD yD;refine(eE _ _).mpr (av fun U2 gh=>?_);clear eE;have d1:=A3 (J:=Il) (P:=P) (w:=w) (K:=K) (H:=H) yD;have s1:=aq.new hD (.ext (gS Il P w D []));generalize upd H D (.ext (gS Il P w D []))=H1 at *;refine C1 fun U hU=>?_;simp only[LM,LL];ac_nf;have Th:=CZ dr;refine⟨ch,pr,tps,rfl,co.mono s1,dr,qY,s1 _ _ BP,tok.kp (.same s1),fun F fkv H2 G0 u2 hF dF fF Dq Mx=>⟨F,fkv,rfl,dF,fun p hp=>?_⟩⟩;have u02:aZ Pt H H2:=(aZ.of s1).trans u2;have nDP:D≠Pt:=fun z=>by rw[z,BP] at hD;cases hD
 obtain⟨φ1,e1⟩:=d1.nH;have d2:DS Il P w K H2 D []:=d1.Ik (fun o h=>u2 _ _ nDP h) fun b ys h=>h.kp (Kp.of u2 (s1 _ _ BP));have nDF:D≠F:=ai e1 hF;have Y7:H p=none:=by
  cases y:H p with
  |none=>rfl
  |some o=>rw[u02 p o (fun z=>by rw[z,Dq] at hp;cases hp) y] at hp;cases hp
 have hF0:H F=none:=s1.free hF;have sp:=aq.new hp (.ext (lF p F));have yp:(upd H2 p (.ext (lF p F))) p=some (.ext (lF p F)):=ae;have dF3:=dF.mono sp;have fF3:=fF.imp (H':=upd H2 p (.ext (lF p F))) fun a xs h=>sp.a7 h;have d3:=d2.mono sp;have Ti:=u02.trans (.of sp);have OP:=sp _ _ Dq;have OQ:=Mx.kp (.same sp);generalize upd H2 p (.ext (lF p F))=H3 at *;refine⟨p,F,fkv,rfl,yp,dF3,fun o ps fz po=>hU _ _ ?_⟩;clear hU;obtain⟨φF,V6⟩:=dF3.nH;have uF:aZ F H3 (upd H3 F (eX F o)):=(aZ.refl _ _).put _;have tt4:∀a xs,bQ K H3 a xs->bQ K (upd H3 F (eX F o)) a xs:=fun a xs h=>h.lV V6 uF;have V7:aZ Pt H (upd H3 F (eX F o)):=fun b ob n e=>uF b ob (ai e hF0) (Ti b ob n e);have d4:=d3.other V6 nDF uF;have V8:=uF _ _ (fun z=>by rw[z,V6] at OP;cases OP) OP;have nFP:F≠Pt:=fun z=>by rw[z,OP] at V6;cases V6
 have af8:=nDF;have V9:=OQ.ds dF3 uF;have Xw:(upd H3 F (eX F o)) F=some (eX F o):=ae;have lps:ps.length=(cZ pr (jA pr)).length:=by rw[<- fF3.len];exact(Paired.length po).symm
 have nFD:F≠D:=nDF.symm;have af9:(cZ pr (jA pr)).length<=bq pr:=by
  have:=iG Th.nd (fun x hx=>by obtain⟨y,hy,rfl⟩:=zaF.mp hx;exact Th.CV y hy)
  rwa [zad] at this
 generalize upd H3 F (eX F o)=H4 at *;obtain⟨Pv,mf,dQ⟩:=wX fun (i:Nat) (σ:St) (H5:Hp) zq=>∀(z2 z3 z4:Option V) (ax:List (List Key×V)),σ=[some (.ref ch),some (.ref D),z2,z3,z4]->aZ Pt H H5->H5 F=some (eX F o)->DS Il P w K H5 D ax->ax.length<=2*i->oE K H5 (jB pr ((cZ pr (jA pr)).take i)) ax->(∀a xs,bQ K H3 a xs->bQ K H5 a xs)->H5 Pt=some (.rE G0)->TabOk "first_inputs.<locals>.<lambda>" (rX (iw aT)) H5 G0->zq;refine Ot (d:=F) (o:=o) (ps:=ps) Pv ((mf _ _ _ fun _ zk=>zk _ _ _ [] rfl V7 Xw d4 (zaf _) (fun t=>rfl) tt4 V8 V9)) (fun i σ H5 _ hv=>?_) ?_ ?_
 ·refine dQ _ _ _ hv _ fun _ _ _ _ _ _ y _ _ _ _ _ _=>?_;exact y
 ·intro i b v σ H5 pp hi hv Bk;clear V7 Xw d4 tt4 V8 V9;refine dQ _ _ _ hv _ fun z2 z3 z4 ax kT u5 yF5 d5 lk5 m5 Wa Sz SA=>?_;subst kT;clear hv;obtain⟨kv,hkv,on,rfl⟩:=eZ po hi;obtain⟨x,hx,ek,a,ea,qa⟩:=eZ fF3 hkv;rw[ek] at on;have stx:=ER on;have six:cU pr x.1:=Th.CV x (zaI hx);have il:i<(cZ pr (jA pr)).length:=(zak.mp hx).1;obtain⟨va,wg,yI⟩:=stx;have aas:cD K H5 b x.1.1 x.1.2:=⟨va,Wa _ _ wg,Wa _ _ yI⟩
  have qa5:=Wa _ _ qa;rw[ea];have s6:=aq.new Bk (.tup [.ref b,.ref a]);have Qk:(upd H5 pp (.tup [.ref b,.ref a])) pp=_:=ae;generalize upd H5 pp (.tup [.ref b,.ref a])=H6 at *;refine⟨pp,_,rfl,.of Qk,rfl,_,_,rfl,_,_,rfl,rfl,?_⟩;simp only[zaT];have u6:=u5.trans (.of s6);have k6:Kp H H6:=Kp.of u6 BP;refine fI fun U hU=>?_;ac_nf;refine⟨ch,b,pr,x.1,rfl,co.kp k6,dr,aas.mono s6,six,fun tl kg H7 s7 BU SD=>⟨tl,rfl,⟨kg,.of SD.1⟩,hU _ _ ?_⟩⟩;clear hU;have Qo:=s6.trans s7;have lt:=Oa pr x.1;have ltu:(oB pr x.1).length=kg.length:=by rw[SD.2.length,zad]
  obtain⟨φD,eD5⟩:=d5.nH;have ntD:tl≠D:=(ai (s6 _ _ eD5) BU).symm;obtain⟨Pw,yt,jH⟩:=wX fun (j:Nat) (σ:St) (H8:Hp) zq=>∀(z4:Option V) (ax:List (List Key×V)),σ=[some (.ref ch),some (.ref D),some (.ref b),some (.ref a),z4]->aZ Pt H H8->H8 F=some (eX F o)->DS Il P w K H8 D ax->ax.length<=2*i+j->oE K H8 (fun u=>(jB pr ((cZ pr (jA pr)).take i) u).or (if u∈(oB pr x.1).take j then some x.2 else none)) ax->(∀a xs,bQ K H7 a xs->bQ K H8 a xs)->H8 Pt=some (.rE G0)->TabOk "first_inputs.<locals>.<lambda>" (rX (iw aT)) H8 G0->GC K H8 tl kg (oB pr x.1)->zq;refine fH (K:=K) (a:=tl) (xs:=kg) Pw ((yt _ _ _ fun _ zk=>zk _ ax rfl (u5.trans (.of Qo)) (Qo _ _ yF5) (d5.mono Qo) (by lia) ((m5.imp fun a xs h=>Qo.a7 h).congr fun u=>by simp) (fun a xs h=>h) (Qo _ _ Sz) (SA.kp (.same Qo)) SD)) (fun j σ H8 _ hv=>?_) ?_ ?_
  ·refine jH _ _ _ hv _ fun _ _ _ _ _ _ _ _ _ _ _ tg=>?_;exact .of tg.1
  ·intro j y σ H8 hj hv;refine jH _ _ _ hv _ fun z4 ax kT u8 Xx d8 lk8 m8 Wb Fn IM Wc=>?_;subst kT;clear hv;have jl:j<(oB pr x.1).length:=by have:=(zak.mp hj).1;lia
   obtain⟨y',QW,rt⟩:=Wc.2.get (i:=j) (d:=eS (oB pr x.1)[j]) (by rw[zal,zac jl];rfl);rw[hj] at QW;cases QW;obtain⟨ta,rfl,ot⟩:=Py rt;have qa8:=Wb _ _ (Qo.a7 qa5);have OR:∀u,u∈(oB pr x.1).take (j+1)↔u∈(oB pr x.1).take j\/u=(oB pr x.1)[j]:=fun u=>by rw[zaQ jl,zaA,zar]
   simp only[eO,zaT,PH];ac_nf;refine⟨D,rfl,⟨_,d8⟩,ta,ax,pI (oB pr x.1)[j],.ref a,rfl,d8,ot,by lia,fun u hu=>?_,fun hn H9 d9 e9=>?_⟩
   ·have em:∃g,(jB pr ((cZ pr (jA pr)).take i) (oB pr x.1)[j]).or (if (oB pr x.1)[j]∈(oB pr x.1).take j then some x.2 else none)=some g:=by
     have:=m8 (oB pr x.1)[j];cases e:(jB pr ((cZ pr (jA pr)).take i) (oB pr x.1)[j]).or (if (oB pr x.1)[j]∈(oB pr x.1).take j then some x.2 else none) with
     |none=>simp only[e] at this;rw[show cf ax (pI (oB pr x.1)[j])=none from this] at hu;cases hu
     |some g=>exact⟨g,rfl⟩
    obtain⟨g,em⟩:=em;refine(yt _ _ _ fun _ zk=>zk _ ax rfl u8 Xx d8 (by lia) (m8.congr fun u=>?_) Wb Fn IM Wc);by_cases eu:u=(oB pr x.1)[j]
    ·subst eu;cases e1:jB pr ((cZ pr (jA pr)).take i) (oB pr x.1)[j] with
     |some g1=>rfl
     |none=>
      rw[e1,zcs] at em;simp only[zcs];split at em
      ·rename_i hm;rw[zzp hm,zzp ((OR _).mpr (.inl hm))]
      ·cases em
    ·simp only[OR,eu,or_false]
   ·obtain⟨φ9,rfl⟩:=e9;obtain⟨φ8,eD8⟩:=d8.nH;have u9:aZ D H8 (upd H8 D (.ext φ9)):=(aZ.refl _ _).put _;have em:(jB pr ((cZ pr (jA pr)).take i) (oB pr x.1)[j]).or (if (oB pr x.1)[j]∈(oB pr x.1).take j then some x.2 else none)=none:=by
     have:=m8 (oB pr x.1)[j];cases e:(jB pr ((cZ pr (jA pr)).take i) (oB pr x.1)[j]).or (if (oB pr x.1)[j]∈(oB pr x.1).take j then some x.2 else none) with
     |none=>rfl
     |some g=>simp only[e] at this;obtain⟨b,h1,_⟩:=this;rw[hn] at h1;cases h1
    have tt9:∀a xs,bQ K H8 a xs->bQ K (upd H8 D (.ext φ9)) a xs:=fun a xs h=>h.lV eD8 u9;refine(yt _ _ _ fun _ zk=>zk _ _ rfl (fun z ob n e=>u9 z ob (ai e hD) (u8 z ob n e)) (u9 _ _ nFD Xx) d9 (zay (ip _ _ _) (by lia)) (((m8.imp tt9).put em (tt9 _ _ qa8)).congr fun u=>?_) (fun a xs h=>tt9 _ _ (Wb _ _ h)) (u9 _ _ nDP.symm Fn) (IM.ds d8 u9) ⟨u9 _ _ ntD Wc.1,mG eD8 u9 _ _ Wc.2⟩);by_cases eu:u=(oB pr x.1)[j]
    ·subst eu;rw[em];rw[Option.or_eq_none_iff] at em;rw[em.1,zzp rfl,zzp ((OR _).mpr (.inr rfl))]
    ·simp only[OR,eu,or_false,if_false,Option.or_none]
  ·intro σ H8 hv;refine jH _ _ _ hv _ fun z4 ax kU u8 Xx d8 lk8 m8 Wb Fn IM Wc=>?_;subst kU;refine(mf _ _ _ fun _ zk=>zk _ _ _ ax rfl u8 Xx d8 (by lia) (m8.congr fun u=>?_) (fun a xs h=>Wb _ _ (Qo.a7 (Wa _ _ h))) Fn IM);rw[<- ltu,zaU,zbG,hx,zby,ud];rfl
 ·intro σ H5 hv;refine dQ _ _ _ hv _ fun z2 z3 z4 ax kU u5 yF5 d5 lk5 m5 Wa Sz SA=>?_;subst kU;rw[lps,zaU] at m5;refine(gh _ _).mpr ?_;ac_nf;exact q D ax H5 G0 u5 hD d5 m5 Sz SA
theorem Dr(T:Tx K mg t){c Pt:zdk}(B:jg K mg base c Pt)(hc:vk K t.bS c)(eC:bJ P w K mg base dy 1 t.dW t.dX ["body", "behind"] (tR K))(fN:bJ P w K mg base dy 6 t.cA t.cE ["body"] (qp K 4))(yi:bJ P w K mg base dy 7 t.sk t.qv ["program"] (Ez K)) :
 bJ P w K mg base dy 13 t.kL t.lI ["program", "target"] (Ov K "first_inputs.<locals>.<lambda>" Pt (rX (iw aT))):=by
 have Bw:=@yX P w _ _ base _ T eC fN yi;have uI:=@sN P w _ _ base _ T _ _ B hc;refine T.kP.F.lQ vW (fun vs H Q E h=>?_) (fun eT A outer s H vs Q E hr h=>?_)
 ·obtain⟨_,_,_,_,_,rfl,_⟩:=h;rfl
 obtain⟨v,tv,pr,tg,ps,rfl,rp,rt,dr,qY,BP,tok,q⟩:=h;have nd:=vW.nd;refine⟨_,[some v,some tv,none],(ah (c5 2 nd (da uI T.gg hr (ag (Nf T.yd Bw (hr.mono (by first|decide|omega)) rfl T.LS T.Bh .nil JL (bc 0 aa)) aa bG)))
 (ah (bh (aD (Rq (J:=Il) (MP hr)) (pv 1) (pv 2) rfl)
 (ak (aO (fO tH rfl T.sr PyProof.Rows.Boot.«list» (ag (CM (J:=Il) (MP hr) (pv 2) (pv 1) kZ) aa aX))))
 aV)
 (ak (aO eV)))),rfl,?_⟩
 obtain⟨ta,rfl,ot⟩:=Py rt;refine av fun U1 eE=>?_;ac_nf;intro p dx hp WO ne;have s1:aq H (upd (upd H dx (.own p)) p (.ins t.aW dx [])):=(aq.new WO _).trans (aq.new (by rw[aw ne.symm];exact hp) _);refine⟨p,dx,v,pr,rfl,ae,by rw[aw ne];exact ae,rp.mono s1,dr.dep,dr.uZ,dr.ok.pw,dr.ok.nb,dr.ok.uZ,fun H2 u2 co=>⟨rfl,?_⟩⟩;have s2:aq H H2:=((aZ.of s1).trans u2).same hp;refine⟨p,pr,ps,rfl,co,dr,qY,s2 _ _ BP,tok.kp (.same s2),fun D ax H3 ps3 u3 hD d3 m3 y3 OQ=>(eE _ _).mpr ?_⟩;clear eE;have Ti:aZ Pt H H3:=(aZ.of s2).trans u3;have k03:Kp H H3:=Kp.of Ti BP;have ot3:=Il.up (fun b ys q=>bQ.kp q k03) ot;have m:=m3 tg;refine av fun U2 gh=>?_;ac_nf;refine⟨D,ta,ax,pI tg,rfl,rfl,d3,ot3,?_⟩;cases e:jB pr (cZ pr (jA pr)) tg with
 |none=>
  rw[e] at m;rw[show cf ax (pI tg)=none from m];refine(zzn (by decide)).mpr ((gh _ _).mpr ?_);ac_nf;exact(q H3 ps3 Ti y3 OQ).1 e
 |some g=>
  rw[e] at m;obtain⟨a,e1,qa⟩:=m;rw[e1];refine(zzp rfl).mpr ?_;refine⟨D,ta,ax,pI tg,.ref a,rfl,rfl,d3,ot3,e1,a,_,rfl,.inr qa,fun l hl=>?_⟩;have sl:=aq.new hl (.lst (g.map V.int));have Vh:H l=none:=by
   cases y:H l with
   |none=>rfl
   |some o=>rw[Ti l o (ai y3 hl).symm y] at hl;cases hl
  exact(q _ ps3 (Ti.trans (.of sl)) (sl _ _ y3) (OQ.kp (.same sl))).2 g l e Vh ae
theorem G1{K:zaa}{H:Hp}:∀ {f:iz} {ax:List (kS×V)} {i:Nat} {x:cw×List Int},eR K H f ax->(f.map (·.1)).Nodup->f[i]?=some x->∃a,cf ax (nG x.1)=some (.ref a)/\bQ K H a (x.2.map V.int)
 |[],_,_,_,h,_,e=>by simp at e
 |y::r,_,i,x,h,nd,e=>by
  cases h with
  |@cons _ kv _ _ p b=>
   obtain⟨k,v⟩:=kv;obtain⟨ek,a,ea,qa⟩:=p;simp only at ek ea;subst ek ea;rw[zam,zaE] at nd;cases i with
   |zero=>cases e;exact⟨a,cg rfl,qa⟩
   |succ i=>
    rw[zb6] at e;rw[ck (fun z=>nd.1 (zaF.mpr ⟨x,zaI e,(xQ z).symm⟩))];exact G1 b nd.2 e
theorem vG(T:Tx K mg t):bJ P w K mg base dy 7 t.fL t.gM ["made", "found", "target"] (LP P w K):=by
 have Fo:=@Dn P w _ _ base _ T;refine T.ia.F.lQ mK (fun vs H Q E h=>?_) (fun eT A outer s H vs Q E hr h=>?_)
 ·obtain⟨_,_,_,_,_,_,_,rfl,_⟩:=h;rfl
 obtain⟨md,F,tv,pr,tg,f,ax,rfl,ma,dr,dF,fF,Po,fin,rt,q⟩:=h;have nd:=mK.nd;have hu:=dS hr;refine⟨_,[some (.ref md),some (.ref F),some tv,none],(ah (du PassesOwn.never rfl (LN (J:=jN) (pv 1)) (lX 3 nd)
 (ak (bh (aD (Rt (Nz hr)) (pv 2) (da Fo T.og hr (bc 0 (bc 3 aa))) rfl)
 (ak (aO (GJ (fO tH rfl T.sr PyProof.Rows.Boot.«list» (ag (CM (J:=jN) (MP hr) (pv 1) (pv 3) kZ) aa aX)))))
 aV)))
 (ak (aO (GJ eV)))),rfl,?_⟩
 refine av fun U2 gh=>?_;refine C1 fun U hU=>?_;simp only[PF];ac_nf;refine⟨F,ax,rfl,dF,fun o ps fz po=>hU _ _ ?_⟩;clear hU;obtain⟨φF,eF⟩:=dF.nH;have uF:aZ F H (upd H F (eX F o)):=(aZ.refl _ _).put _;have We:∀a xs,bQ K H a xs->bQ K (upd H F (eX F o)) a xs:=fun a xs h=>h.lV eF uF;have ma1:=ma.ext eF uF;have rt1:=qu eF uF _ _ rt;have Xy:(upd H F (eX F o)) F=some (eX F o):=ae;have lps:ps.length=f.length:=by rw[<- fF.len];exact(Paired.length po).symm
 generalize upd H F (eX F o)=H1 at *;have fre:∀ {H'} {l:zdk},aq H1 H'->H' l=none->H l=none:=fun {H' l} s hl=>by
  cases y:H l with
  |none=>rfl
  |some ob=>
   have h1:H1 l=none:=s.free hl;rw[uF l ob (ai Xy h1).symm y] at h1;cases h1
 refine Ou (d:=F) (o:=o) (ps:=ps) (fun i σ Hx=>∃z,σ=[some (.ref md),some (.ref F),some tv,z]/\aq H1 Hx/\jB pr (f.take i) tg=none) ⟨none,rfl,aq.refl _,rfl⟩ (fun i σ Hx _ hv=>?_) ?_ ?_
 ·obtain⟨_,_,sx,_⟩:=hv;exact sx _ _ Xy
 ·intro i b v σ Hx hi hv;obtain⟨z,rfl,sx,hn⟩:=hv;obtain⟨kv,hkv,on,rfl⟩:=eZ po hi;obtain⟨x,hx,ek,_⟩:=eZ fF hkv;rw[ek] at on;have on1:=jN.up We on;have six:cU pr x.1:=fin x (zaI hx);have il:i<f.length:=(zak.mp hx).1;have stx:=(ER on1).mono sx;simp only[eO,zaT,GI];ac_nf;refine⟨md,b,pr,x.1,rfl,ma1.mono sx,dr,stx,six,fun tl kg H3 s3 BU Wf=>?_⟩;have SE:=sx.trans s3;refine⟨eS tg,(oB pr x.1).map eS,rt1.mono SE,Rep.bL.mpr ⟨tl,kg,rfl,.of Wf.1,Wf.2⟩,(Lm tg).1,(EA _).1,(Lm tg).2,?_⟩;rw[Rv];by_cases hm:tg∈oB pr x.1
  ·have Xz:=SE _ _ Xy;obtain⟨φ,h1,h2,d4⟩:=fz.UU Xz fun a xs h=>SE.a7 (We _ _ h);have u4:aZ F H3 (upd H3 F (.ext φ)):=(aZ.refl _ _).put _;obtain⟨a,e1,qa⟩:=G1 fF Po hx;have on4:=jN.up (fun a xs h=>(SE.a7 (We _ _ h)).lV Xz u4) on;have qa4:=(SE.a7 (We _ _ qa)).lV Xz u4;have V7:aZ F H (upd H3 F (.ext φ)):=uF.trans ((aZ.of SE).trans u4);have Xw:(upd H3 F (.ext φ)) F=some (.ext φ):=ae;refine⟨_,rfl,(zzp (by rw[decide_eq_true hm])).mpr ⟨F,o,φ,Xz,h1,h2,?_⟩⟩;generalize upd H3 F (.ext φ)=H4 at *;refine⟨F,b,ax,nG x.1,.ref a,rfl,rfl,d4,on4,e1,a,_,rfl,.inr qa4,fun l hl=>?_⟩;have sl:=aq.new hl (.lst (x.2.map V.int));have Vh:H l=none:=by
    cases y:H l with
    |none=>rfl
    |some ob=>rw[V7 l ob (ai Xw hl).symm y] at hl;cases hl
   refine(q _ (V7.trans (.of sl)) (d4.mono sl)).2 x.2 l ?_ Vh ae;have ef:f=f.take i++x::f.drop (i+1):=by
    rw[<- zak.mp hx |>.2,<- zbH il,zbB]
   rw[ef,ud,hn,zcs,jB,zzp hm]
  ·refine⟨_,rfl,(zzn (by rw[decide_eq_false hm];decide)).mpr ?_⟩;refine⟨_,rfl,SE,?_⟩;rw[zbG,hx,zby,ud,hn,zcs,jB,zzn hm,jB]
 ·intro σ Hx hv;obtain⟨z,rfl,sx,hn⟩:=hv;rw[lps,zaU] at hn;refine(gh _ _).mpr ?_;ac_nf;show GI _ _ _ _;unfold GI;have yFx:=sx _ _ Xy;obtain⟨φ,h1,h2,d4⟩:=fz.UU yFx fun a xs h=>sx.a7 (We _ _ h);have u4:aZ F Hx (upd Hx F (.ext φ)):=(aZ.refl _ _).put _;exact⟨F,o,φ,yFx,h1,h2,(q _ (uF.trans ((aZ.of sx).trans u4)) d4).1 hn⟩
theorem SF(T:Tx K mg t){c Pt:zdk}(B:jg K mg base c Pt)(hc:vk K t.bS c):bJ P w K mg base dy 30 t.GL t.vB ["script"] (A9 K Pt):=by
 have bw:=@uy P w _ _ base _ T;have yx:=@Fh P w _ _ base _ T;have g1:=@om P w _ _ base _ T;have g2:=@As P w _ _ base _ T 4;have g3:=@GW P w _ _ base _ T;have yy:=@Dr P w _ _ base _ T _ _ B hc g1 g2 g3;have IP:=@Fm P w _ _ base _ T;have wB:=@vG P w _ _ base _ T;have Ds:=@Bt P w _ _ base _ T;have Bx:=@zj P w _ _ base _ T;refine T.GN.F.lQ LR (fun vs H Q E h=>?_) (fun eT A outer s H vs Q E hr h=>?_)
 ·obtain⟨_,_,rfl,_⟩:=h;rfl
 obtain⟨a,ns,rfl,hS,h63,BP,q⟩:=h;have nd:=LR.nd;have hu:=dS hr;refine⟨_,[some (V.ref a),none,none,none,none,none,none,none,none,none,none],(ah (DP (i:=1) nd rfl (zcD rfl) (bu (ag (oS FR (pv 0) sZ (tj aj)) (ag aj aa aP) aX)))
 (ah (rJ (da yx T.iV hr (bc 1 (ag (bf cI (da bw T.bB hr (bc 1 aa)) aj) aa ja))) (AN rfl (bM (lX 2 nd) (bM (lX 3 nd) iA))))
 (ah (c5 4 nd (da Ds T.lL hr (bc 2 (bc 3 aa))))
 (ah (c5 5 nd (da Bx T.j9 hr (bc 4 aa)))
 (ah (DP (i:=6) nd rfl (zcD rfl) (da IP T.qy hr (bc 2 aa)))
 (ah (c5 7 nd (bf QX (bu (ag (aC a9 (pv 6) aj ao) (ag (aC a9 (pv 6) (vI oP aj) vO) aa aX) aX)) (hG (own:=["k"]) (ix:=[1,6]) rfl (by rfl) (by rfl) (ik rfl T.js (ag aj aa aP)) (fun _ _ _ _=>(fY (i:=0) (by show List.Nodup (["k", "deck", "some"]:List Str);decide +kernel) rfl (zbq rfl))) (fun _ _ _ _=>iC) (fun _ _ _ _=>(aC (Cw (K:=K) rfl) (pv 2) (bf cI (da bw T.bB hr (bc 1 aa)) (bX (yW (K:=K) rfl) rfl T.g8 PyProof.Rows.Boot.«len» (bc 2 aa))) lS)))))
 (ah (du PassesOwn.never rfl (cH (pv 7)) (lX 8 nd)
 (ah (c5 9 nd (da wB T.ia hr (bc 4 (bc 5 (bc 8 aa)))))
 (ah (c5 10 nd (da yy T.kP hr (bc 2 (bc 8 aa))))
 (ak (bh (aD Jw (pv 9) eV (aR _))
 (ak (bh (aD AA (pv 10) eV (aR _))
 (ak (aO sT))
 aV))
 (ah (bh (PW.pt (pw_or (DL (rG (bX Cb rfl T.kc PyProof.Rows.Boot.«isinstance» (bc 10 (ag (FA (v:=.ty "list") rfl T.sr PyProof.Rows.Boot.«list» rfl) aa jW))))) (pw_or1 (aD (Kl (Nz hr)) (pv 10) (pv 9) (aR _)))))
 (ak (aO sT))
 aV)
 (ah (bh (aD (ki (dS hr)) (hG (own:=["one"]) (ix:=[]) rfl (by rfl) (by rfl) (cH (pv 10)) (fun _ _ _ _=>(fY (i:=0) (by show List.Nodup (["one"]:List Str);decide +kernel) rfl (zbq rfl))) (fun _ _ _ _=>(FX (rG (bX (HV (K:=K) rfl) rfl T.kc PyProof.Rows.Boot.«isinstance» (bc 0 (ag (FA (v:=.ty "bool") rfl T.E2 PyProof.Rows.Boot.«bool» rfl) aa jW)))))) (fun _ _ _ _=>(pv 0))) (bu aa) (aR _))
 (ak (aO sT))
 aV)
 (ah (bK (dw zaj zan zao bD (pv 10) (ag aj aa aP)))
 (ak (bh (aD (Kl (Nz hr)) (da yy T.kP hr (bc 2 (bc 8 aa))) (pv 9) (aR _))
 (ak (aO sT))
 aV))))))))))
 (ak (aO sT))))))))),rfl,?_⟩
 have line:zds=2 ^ 24:=rfl;refine av fun U1 eE=>?_;ac_nf;refine⟨_,rfl,a,_,rfl,hS,fun S hS2 D hD=>(eE _ _).mpr ?_⟩;clear eE;rw[Um ns h63] at hD ⊢;have sA:=(aq.new hS2 (.lst (ns.map V.int))).trans (aq.new hD (.lst [V.ref S,V.int 0]));have nSD:S≠D:=ai ae hD;have RX:H D=none:=Ii (aq.new hS2 (.lst (ns.map V.int))) hD;have dk:i3 K (upd (upd H S (.lst (ns.map V.int))) D (.lst [V.ref S,V.int 0])) D S ns 0:=⟨ae,by rw[aw nSD];exact ae,nSD,h63⟩
 generalize upd (upd H S (.lst (ns.map V.int))) D (.lst [V.ref S,V.int 0])=H1 at *;refine av fun U3 iY=>?_;ac_nf;refine⟨D,S,ns,0,rfl,dk,by lia,fun H2 u2 zc=>⟨_,15,rfl,rfl,(by decide:(0:Int)<15),?_⟩⟩;have sB:aq H H2:=fun z o e=>u2 z o (ai e RX) (sA z o e);have nxb:=jM ns 0;obtain⟨many,em⟩:∃many:Nat,PG.next ns 0%15=(many:Int):=⟨(PG.next ns 0%15).toNat,by lia⟩
 have lm:many<=14:=by lia
 simp only[em];refine⟨D,S,ns,1,many,rfl,zc,by decide,by lia,fun l3 pa B bb R H3 u3 qA h3 RW nl np nB nbb nR fB fb fR=>?_⟩;have sC:aq H H3:=fun z o e=>u3 z o (ai e RX) (sB z o e);have rl:=Ku ns many 1;have tx:=Hv ns many 1;have dB:=Kr ns many 1;have fl:=zM ns many 1;have okp:=Kz ns many 1;have pw:=Ky (zU ns many 1).1;have pos:=(zU ns many 1).2;have bun:=AS ns 1;have BX:=yS ns 1;have bfw:=HH ns 1;have bf4:=Ba ns 1;rw[<- Er ns many 1] at okp bun BX bfw bf4;generalize WA:cJ ns many 1=pr at *;obtain⟨pr,rows⟩:=pr;simp only at rl tx dB fl okp pw pos bun BX bfw bf4 fB fb fR;obtain⟨nbx,uZ⟩:=bun;have f28:(bV pr.body).length<=18:=by
  rw[fl];exact zay (zc1 _ _) (by lia)
 have dr:i5 pr:=⟨⟨pw,nbx,by lia,fun s hs=>by
  have:=pos (s.row,s.wd) (by rw[<- fQ];exact zaF.mpr ⟨s,hs,rfl⟩);exact this⟩,dB,by lia,okp,BX⟩
 have rp:∀ {H'},ba (·=D) H3 H'->Rep K H' (kB pr) (.ref pa):=fun {H'} u=>by
  unfold kB;exact Rep.bg.mpr ⟨pa,_,rfl,.of (u _ _ np RW),.cons (fB _ u) (.cons (fb _ u) .nil)⟩
 have XA:bq pr<2000:=zbP (LJ f28 bf4 bfw) (by decide);refine⟨l3,_,rfl,.of h3,rfl,_,_,rfl,_,_,rfl,rfl,(iY _ _).mpr (av fun U4 ke=>?_)⟩;clear iY;simp only[zaT];obtain⟨p3,DE,qA⟩:=qA;ac_nf;refine⟨pa,R,D,_,pr,rows,rfl,qA.bF,dr,rp fun b o n e=>by rw[nE n];exact e,fR.rep,by lia,tx,fun md H4 s4 ma=>(ke _ _).mpr (av fun U5 uv=>?_)⟩;clear ke;ac_nf;refine⟨md,pr,rfl,ma.mono qt,dr,XA,fun F ax H5 s5 hF d5 f5=>(uv _ _).mpr (av fun U6 yK=>?_)⟩;clear uv;ac_nf;refine⟨.ref pa,pr,rfl,rp (.of (s4.trans s5)),dB,by lia,fun tl kg H6 s6 BU y6 r6=>(yK _ _).mpr (av fun U7 GQ=>?_)⟩;clear yK;have XB:=s4.trans (s5.trans s6);have Je:=qA.same XB;have ntl:tl≠D:=(ai ((s4.trans s5) _ _ qA.bF) BU).symm;have ltu:0<kg.length/\kg.length<=1000:=by
  rw[r6.length,zad];unfold Kn;rw[zae,zax];have k:∀l:List PG.Row,(l.flatMap SS).length<=3*l.length:=fun l=>by
   induction l with
   |nil=>simp
   |cons a r ih=>rw[zaG,zae,zah];have:=Ge a;lia
  have:=k (bV pr.body);lia
 ac_nf;simp only[jS];ac_nf;have e0:kg[0]?=some kg[0]:=zac ltu.1;have el:kg[kg.length-1]?=some (kg[kg.length-1]'(by lia)):=zac (by lia);refine bz (.of y6) (v:=kg[0]) (au (j:=0) e0) ⟨1,rfl,bz (.of y6) (v:=kg[kg.length-1]'(by lia)) (N9 el) fun p hp=>⟨4,rfl,by decide,by decide,fun L hL=>?_⟩⟩;have s7:=aq.new hp (.lst [kg[0],kg[kg.length-1]'(by lia)]);have yp7:(upd H6 p (.lst [kg[0],kg[kg.length-1]'(by lia)])) p=_:=ae;have WX:=Je.same s7;generalize upd H6 p (.lst [kg[0],kg[kg.length-1]'(by lia)])=H7 at *;refine EZ (K:=K) (r:=[some (V.ref D),some (V.ref tl)]) (·∈kg) (by decide) hL WX (fun i x H8 hi u8 d8 R2 hR=>?_) (fun vs H8 lv ov u8 Zj y8=>?_)
 ·ac_nf;refine⟨D,S,ns,_,rfl,d8,by have hi:i<4:=hi;lia,fun H9 u9 d9=>?_⟩;have y9:=u9 _ _ ntl (u8 _ _ ntl (s7 _ _ y6));have nb:=zaP (PG.next ns (p3+i)) (b:=(kg.length:Int)) (by lia);have nl:=zaM (PG.next ns (p3+i)) (b:=(kg.length:Int)) (by lia);obtain⟨k,ek⟩:∃k:Nat,PG.next ns (p3+i)%(kg.length:Int)=(k:Int):=⟨_,(zdf nb).symm⟩
  have lk:k<kg.length:=by lia
  refine⟨tl,kg,rfl,.inl (.of y9),_,_,rfl,rfl,(by lia:(0:Int)<kg.length),?_⟩;show AG K (V.ref tl) (V.int (PG.next ns (p3+i)%(kg.length:Int))) H9 R2;rw[ek];exact bz (.of y9) (v:=kg[k]) (au (zac lk)) (hR _ _ (zau lk) u9 d9)
 have npD:p≠D:=(ai Je.bF hp).symm;have lv:vs.length=4:=lv;refine⟨p,L,_,_,rfl,rfl,u8 _ _ npD yp7,y8,by show 2+vs.length<=zds;lia,fun aL Qn=>(GQ _ _).mpr (av fun U8 Sm=>?_)⟩;clear GQ;have s9:=aq.new Qn (.lst ([kg[0],kg[kg.length-1]'(by lia)]++vs));have yA:(upd H8 aL (.lst ([kg[0],kg[kg.length-1]'(by lia)]++vs))) aL=_:=ae;have avm:∀y∈[kg[0],kg[kg.length-1]'(by lia)]++vs,y∈kg:=fun y hy=>by
  rcases zaA.mp hy with hy |hy
  ·rcases zag.mp hy with rfl |hy
   ·exact zau _
   ·rw[zar.mp hy];exact zau _
  ·exact ov y hy
 generalize ([kg[0],kg[kg.length-1]'(by lia)]++vs)=Qp at *;have uB:aZ D H6 (upd H8 aL (.lst Qp)):=(aZ.of s7).trans (u8.trans (.of s9));generalize upd H8 aL (.lst Qp)=HB at *;have rpB:=rp ((ba.of XB).trans (ba.one uB rfl));have maB:eW K HB md pr:=ma.mono (Ij ((aZ.of (s5.trans s6)).trans uB));have d6:=d5.mono s6;have nFD:F≠D:=by obtain⟨φ,e⟩:=d6.nH;exact bU e Je.bF (by intro z;cases z)
 have ttB:∀a xs,bQ K H6 a xs->bQ K HB a xs:=fun a xs h=>h.vg Je.bF uB;have dFB:DS jN P w K HB F ax:=d6.Ik (fun o h=>uB _ _ nFD h) ttB;have fFB:=(f5.imp (H':=H6) fun a xs h=>s6.a7 h).imp ttB;have tgB:∀y∈Qp,∃g,Rep K HB (eS g) y:=fun y hy=>by
  obtain⟨i,hi,rfl⟩:=zco.mp (avm y hy);have li:i<(Kn (bV pr.body)).length:=by have:=r6.length;rw[zad] at this;lia
  obtain⟨v',Dz,r⟩:=(Ln Je.bF uB (GA _) r6).get (i:=i) (d:=eS (Kn (bV pr.body))[i]) (by rw[zal,zac li];rfl);rw[zac hi] at Dz;cases Dz;exact⟨_,r⟩
 have Zo:Pt≠D:=ai BP RX;have Wg:=uB _ _ Zo (XB _ _ (sC _ _ BP));have Th:=CZ dr;clear ttB d6 uB s9 Qn y8 u8 Zj yp7 s7 hp hL WX Je rp sA sB sC u2 u3 XB y6 r6 BU;refine fI fun U hU=>?_;ac_nf;refine⟨⟨Qp,.of yA⟩,hU _ _ ?_⟩;clear hU;obtain⟨Pv,mf,dQ⟩:=wX fun (i:Nat) (σ:St) (Hx:Hp) zq=>∀(z8 z9 BS:Option V) (ps:Array zdl),σ=[some (V.ref a),some (V.ref D),some (V.ref pa),some (V.ref R),some (V.ref md),some (V.ref F),some (V.ref tl),some (V.ref aL),z8,z9,BS]->Rep K Hx (kB pr) (.ref pa)->eW K Hx md pr->DS jN P w K Hx F ax->eR K Hx (cZ pr (jA pr)) ax->Hx aL=some (.lst Qp)->(∀y∈Qp,∃g,Rep K Hx (eS g) y)->Hx Pt=some (.rE ps)->TabOk "first_inputs.<locals>.<lambda>" (rX (iw aT)) Hx ps->zq;refine fH (K:=K) (a:=aL) (xs:=Qp) Pv ((mf _ _ _ fun _ zk=>zk _ _ _ (#[]) rfl rpB maB dFB fFB yA tgB Wg (.inl rfl))) (fun i σ Hx _ hv=>?_) ?_ ?_
 ·refine dQ _ _ _ hv _ fun _ _ _ _ _ _ _ _ _ y _ _ _=>?_;exact .of y
 ·intro i y σ Hx hi hv;clear rpB maB dFB fFB yA tgB Wg;refine dQ _ _ _ hv _ fun z8 z9 BS ps kT rpx mx dx fx yAx tgx Wh aaA=>?_;subst kT;clear hv;have hy:=zaI hi;obtain⟨g,rg⟩:=tgx y hy;simp only[eO,zaT];refine av fun V1 BQ=>?_;ac_nf;obtain⟨φF,eF⟩:=dx.nH;refine⟨md,F,y,pr,g,cZ pr (jA pr),ax,rfl,mx,dr,dx,fx,Th.nd,Th.CV,rg,fun H1 u1 d1=>?_⟩;have nFP:F≠Pt:=bU eF Wh (by intro z;cases z);have XC:=qu eF u1 _ _ rpx;have m1:=mx.ext eF u1;have f1:=fx.imp (H':=H1) fun a xs h=>h.lV eF u1;have yA1:=u1 _ _ (bU yAx eF (by intro z;cases z)) yAx;have tg1:∀y∈Qp,∃g,Rep K H1 (eS g) y:=fun y hy=>let ⟨g,r⟩:=tgx y hy;⟨g,qu eF u1 _ _ r⟩;have My:=u1 _ _ nFP.symm Wh;have OO:=aaA.ds dx u1;have rg1:=qu eF u1 _ _ rg;have fin:∀(z8 z9 BS:Option V) (H2:Hp) (G0:Array zdl),Kp H1 H2->H2 Pt=some (.rE G0)->TabOk "first_inputs.<locals>.<lambda>" (rX (iw aT)) H2 G0->Pv (i+1) [some (V.ref a),some (V.ref D),some (V.ref pa),some (V.ref R),some (V.ref md),some (V.ref F),some (V.ref tl),some (V.ref aL),z8,z9,BS] H2:=fun z8 z9 BS H2 G0 k yP tk=>
   (mf _ _ _ fun _ zk=>zk z8 z9 BS G0 rfl (vq k _ _ XC) (m1.kp k) (d1.Ik (fun o h=>k _ _ h (by obtain⟨φ,e⟩:=d1.nH;rw[e] at h;cases h;intro _ z;cases z)) (fun b ys h=>h.kp k)) (f1.imp (fun a xs h=>h.kp k)) (k _ _ yA1 (by intro _ z;cases z)) (fun y hy=>let ⟨g,r⟩:=tg1 y hy;⟨g,vq k _ _ r⟩) yP tk)
  cases eg:jB pr (cZ pr (jA pr)) g with
  |none=>
   refine⟨fun _=>(BQ _ _).mpr (av fun V2 BR=>?_),fun g1 l e=>by cases e⟩;clear BQ;ac_nf;refine⟨.ref pa,y,pr,g,ps,rfl,XC,rg1,dr,XA,My,OO,fun H2 G0 u2 Dq Mx=>⟨fun _=>(BR _ _).mpr ?_,fun g1 l e=>by rw[eg] at e;cases e⟩⟩;clear BR;ac_nf;exact(zzp trivial).mpr ((zzp trivial).mpr (fin _ _ _ H2 G0 (Kp.of u2 My) Dq Mx))
  |some gs=>
   refine⟨fun e=>(by cases e),fun g1 ld e hld zz=>(BQ _ _).mpr (av fun V2 BR=>?_)⟩;clear BQ;cases e;ac_nf;refine⟨.ref pa,y,pr,g,ps,rfl,XC,rg1,dr,XA,My,OO,fun H2 G0 u2 Dq Mx=>⟨fun e=>(by rw[eg] at e;cases e),fun g1 lt e oy Wi=>(BR _ _).mpr ?_⟩⟩;clear BR;rw[eg] at e;cases e;have k2:Kp H1 H2:=Kp.of u2 My;have aaC:=k2 _ _ zz (by intro _ z;cases z);ac_nf;simp only[jS];ac_nf;have lgs:gs.length<=2002:=by
    obtain⟨x,hx,rfl⟩:=C3 pr _ _ eg;have:=IE dr x hx;lia
   refine b7 (fun z=>by cases z) (fun _=>⟨_, "list",_,true,rfl,.lst Wi,by kernel_rfl,(zzn (by decide)).mpr ⟨_,_,tV (.of Wi),tV (.of aaC),tW _,tW _,?_⟩⟩);rw[eqv_refl];refine⟨_,rfl,(zzn (by decide)).mpr ⟨⟨_,.of Wi⟩,fun D1 S0=>?_⟩⟩;refine xG (K:=K) (r:=[]) (fun _=>false) (fun _=>.cB) (.of Wi) (by rw[zad];lia) S0 (fun i y hy H6 s6 R hR=>?_) (fun i x _ h=>zzb h zai) (fun H6 s6 h6 p7 uz=>?_)
   ·obtain⟨z,_,rfl⟩:=zaF.mp (zaI hy);ac_nf;exact⟨_, "bool",_,false,rfl,.int _,by kernel_rfl,hR _ (aq.refl _)⟩
   have e4:∀n,((zaH n).filter fun _=>false).map (fun _=>V.cB)=[]:=fun n=>by simp
   rw[e4] at h6;have s7:=aq.new uz (.lst []);refine⟨D1,p7,[],rfl,rfl,.of (s7 _ _ h6),.of ae,(zzn (by decide)).mpr ?_⟩;have XD:=s6.trans s7;generalize upd H6 p7 (.lst [])=H7 at *;have SG:=XD _ _ Wi;refine⟨.inl ⟨rfl,_,.of SG⟩,lt,_,.int 3,rfl,rfl,SG,by rw[zad];lia,?_⟩;have u8:aZ lt H7 (upd H7 lt (.lst (gs.map V.int++[.int 3]))):=(aZ.refl _ _).put _;have k8:Kp H1 (upd H7 lt (.lst (gs.map V.int++[.int 3]))):=fun b o e n=>u8 _ _ (ai e oy) (XD _ _ (k2 b o e n));have nPl:Pt≠lt:=ai My oy;have Fn:=u8 _ _ nPl (XD _ _ Dq);have IM:=(Mx.kp (.same XD)).up (H':=upd H7 lt (.lst (gs.map V.int++[.int 3]))) fun b φ e=>u8 _ _ (bU e SG (by intro z;cases z)) e;generalize upd H7 lt (.lst (gs.map V.int++[.int 3]))=H8 at *;refine⟨.ref pa,y,pr,g,G0,rfl,vq k8 _ _ XC,vq k8 _ _ rg1,dr,XA,Fn,IM,fun H9 ps9 u9 aaD aaE=>⟨fun e=>(by rw[eg] at e;cases e),fun g1 l9 e OM yl9=>?_⟩⟩;rw[eg] at e;cases e;have k9:Kp H1 H9:=k8.trans (Kp.of u9 Fn);refine⟨_,_,tV (.of yl9),tV (.of (k9 _ _ zz (by intro _ z;cases z))),tW _,tW _,?_⟩;rw[eqv_refl];exact⟨_,rfl,(zzn (by decide)).mpr (fin _ _ _ H9 ps9 k9 aaD aaE)⟩
 ·intro σ Hx hv;refine dQ _ _ _ hv _ fun z8 z9 BS ps kU _ _ _ _ _ _ _ _=>?_;subst kU;refine(Sm _ _).mpr ?_;ac_nf;exact q _
end
end RK
end
section
set_option maxHeartbeats 4000000
namespace RK
open PG
open PySem L2
section
variable{P:zdw}{w:zdm}{K:zaa}{mg:Str->Option zdl}{base:Heap}
theorem all_mk{l:PySem.W.OpenLaw}{h:Heap}{fa:zdk}(X:K.In h)(G:h.Ns zdr mg)(hfa:mg "law"=some (.ref fa))
 {sk dI dW fS kn gB cA nV mM kJ kK um mN dJ iK mO kL iL dY bS iM fT dZ kM iN iO iP gX gC jC mQ jD cK fE gD jE cW gY kN fK iS fL GL:zdk}
 {aW:zdk}
 {de:zdk} {zl rh:Option zdk} {zm:Array (Option zdl)} {zo rj rm rq me rz:zdl}
 {eM:zdk}
 {fV:zdk}
 {Wj:_}
 {yz:_}
 {zp:_}
 (SH:FH K "flow" E1 sk)
 (yB:FH K "flow_of_body" kD dI)
 (Dt:FH K "first_row" pL dW)
 (zr:FH K "behind_body" lY fS)
 (IQ:FH K "ways_of" vw kn)
 (Du:FH K "bodies_in" pM gB)
 (wC:FH K "statements_in" jP cA)
 (OS:FH K "worth" Bf nV)
 (IS:FH K "word_at" vx mM)
 (Fp:FH K "by_names" rY kJ)
 (Fq:FH K "in_order" rZ kK)
 (OT:FH K "holds" Bg um)
 (IT:FH K "step_by" vy mN)
 (sO:FH K "behind_condition" ij dJ)
 (By:FH K "all_led_to" nK iK)
 (IU:FH K "targets" vz mO)
 (Fs:FH K "shortest" r9 kL)
 (Bz:FH K "targets_at" nL iL)
 (uJ:FH K "shortest_inputs" iI dY)
 (p0:FH K "first_inputs" aT bS)
 (BA:FH K "found_from" nM iM)
 (IV:FH K "gone_on" iy fT)
 (Dv:FH K "_law_next" pN dZ)
 (Mz:FH K "_law_e" xX kM)
 (BB:FH K "_law_boxes" nN iN)
 (BC:FH K "_law_plain" nO iO)
 (BD:FH K "_law_close" nQ iP)
 (zt:FH K "_law_number" lZ gX)
 (yE:FH K "_law_program" kE gC)
 (Dw:FH K "_law_ends" pO jC)
 (IW:FH K "_law_to" vA mQ)
 (Dx:FH K "_law_ways" pP jD)
 (uK:FH K "_law_statements" iJ cK)
 (BE:FH K "_law_worth" nT fE)
 (yF:FH K "_law_stepped" kF gD)
 (Dy:FH K "_law_made" pQ jE)
 (p9:FH K "_law_next_standing" gy cW)
 (zu:FH K "_law_is_ask" l0 gY)
 (Ft:FH K "_law_met" sj kN)
 (wD:FH K "_law_till_ask" jQ fK)
 (BF:FH K "_law_found" nU iS)
 (wF:FH K "_law_shortest" jR fL)
 (Qq:FH K "law" LQ GL)
 (OU:zaN K zdr "Chart"=some (some (.ref aW)))
 (MA:zci K aW Str.empty=true)
 (MB:zcb K aW=true)
 (MC:zcz K aW=true)
 (MD:zaS K (.ref aW) "__setattr__"=some (some (.builtin "object.__setattr__")))
 (BG:zaS K (.ref aW) "__init__"=some (some (.ref de)))
 (BH:K.lookup de=some ⟨zo,zl,.func (zbs "__init__" "Chart.__init__" (kX dc) (hC dc) (aJ dc) .none rj rm rq rh me rz),zm⟩)
 (BI:zb5 K me "Chart.__init__"=true)
 (BJ:zbv K (.ref de)=true)
 (BK:PySem.W.isFn K (.ref de)=true)
 (yd:zcT K aW=true)
 (ME:zbv K (.ref aW)=true)
 (gG:zaS K (.ref aW) "names"=some none)
 (gH:zaS K (.ref aW) "sizes"=some none)
 (iX:zaS K (.ref aW) "first"=some none)
 (cN:zaS K (.ref aW) "statements"=some none)
 (fW:zaS K (.ref aW) "ways"=some none)
 (Fu:zaN K zdr "RowError"=some (some (.ref eM)))
 (ye:zdc K eM [.type "ValueError",.type "Exception",.type "BaseException",.type "object"] "ValueError.__new__"=true)
 (vY:zcu K (.ref eM) (.ref eM)=some true)
 (IX:zaN K zdr "TooMany"=some (some (.ref fV)))
 (Al:zdc K fV [.type "ValueError",.type "Exception",.type "BaseException",.type "object"] "ValueError.__new__"=true)
 (yf:zcu K (.ref fV) (.ref fV)=some true)
 (Wk:zaN K zdr "END"=some (some (.int 0 Wj)))
 (yG:zaN K zdr "FIGURE_COUNT"=some (some (.int 10 yz)))
 (zv:zaN K zdr "MOST_PLACES"=some (some (.int 2000 zp)))
 (g8:zaN K zdr "len"=some none)
 (js:zaN K zdr "range"=some none)
 (E2:zaN K zdr "bool"=some none)
 (pU:zaN K zdr "dict"=some none)
 (sr:zaN K zdr "list"=some none)
 (uq:zaN K zdr "tuple"=some none)
 (LU:zaN K zdr "max"=some none)
 (LV:zaN K zdr "min"=some none)
 (kc:zaN K zdr "isinstance"=some none)
 (lM:zaN K zdr "enumerate"=some none)
 (C6:zaN K zdr "zip"=some none)
 (ur:zaN K zdr "ValueError"=some none)
 {c Pt:zdk} (LA:zcf K "first_inputs"=some (c,Pt)):∃fd:zdt,(∀(s:zdu) (v:zdl),BindsTo s fd ⟨[v],[]⟩ [("script",v)])/\∀base:Heap,K.In base->base.Ns zdr mg->jg K mg base c Pt->bJ l.prog w K mg base dy 30 fa fd ["script"] (A9 K Pt):=by
 have e:=hfa.symm.trans (zbE X G Qq.1);cases e;obtain⟨qv,yc⟩:=lU X G SH (ps:=["program"]) fun _ _ _ _ _ _=>Gz fun _=>rfl;obtain⟨dR,gE⟩:=lU X G yB (ps:=["body", "behind"]) fun _ _ _ _ _ _=>yU fun _ _=>rfl;obtain⟨dX,fj⟩:=lU X G Dt (ps:=["body", "behind"]) fun _ _ _ _ _ _=>yU fun _ _=>rfl;obtain⟨gA,jr⟩:=lU X G zr (ps:=["statement", "after"]) fun _ _ _ _ _ _=>yU fun _ _=>rfl;obtain⟨kI,qw⟩:=lU X G IQ (ps:=["statement", "after"]) fun _ _ _ _ _ _=>yU fun _ _=>rfl;obtain⟨gJ,jF⟩:=lU X G Du (ps:=["statement"]) fun _ _ _ _ _ _=>Gz fun _=>rfl;obtain⟨cE,fM⟩:=lU X G wC (ps:=["body"]) fun _ _ _ _ _ _=>Gz fun _=>rfl;obtain⟨mL,j5⟩:=lU X G OS (ps:=["e", "values"]) fun _ _ _ _ _ _=>yU fun _ _=>rfl;obtain⟨nW,kr⟩:=lU X G IS (ps:=["chart", "row"]) fun _ _ _ _ _ _=>yU fun _ _=>rfl;obtain⟨lG,kO⟩:=lU X G Fp (ps:=["chart", "parts"]) fun _ _ _ _ _ _=>yU fun _ _=>rfl;obtain⟨lH,oa⟩:=lU X G Fq (ps:=["chart", "named"]) fun _ _ _ _ _ _=>yU fun _ _=>rfl;obtain⟨uo,qx⟩:=lU X G OT (ps:=["chart", "standing"]) fun _ _ _ _ _ _=>yU fun _ _=>rfl;obtain⟨nX,mS⟩:=lU X G IT (ps:=["chart", "standing", "figure"]) fun _ _ _ _ _ _=>Rr fun _ _ _=>rfl;obtain⟨eU,fG⟩:=lU X G sO (ps:=["chart", "standing"]) fun _ _ _ _ _ _=>yU fun _ _=>rfl;obtain⟨jh,gN⟩:=lU X G By (ps:=["chart", "standing"]) fun _ _ _ _ _ _=>yU fun _ _=>rfl;obtain⟨nY,qy⟩:=lU X G IU (ps:=["program"]) fun _ _ _ _ _ _=>Gz fun _=>rfl;obtain⟨lI,kP⟩:=lU X G Fs (ps:=["program", "target"]) fun _ _ _ _ _ _=>yU fun _ _=>rfl;obtain⟨ji,j6⟩:=lU X G Bz (ps:=["chart", "standing"]) fun _ _ _ _ _ _=>yU fun _ _=>rfl;obtain⟨fD,gg⟩:=lU X G uJ (ps:=["chart"]) fun _ _ _ _ _ _=>Gz fun _=>rfl;obtain⟨hJ,iT⟩:=lU X G p0 (ps:=["chart"]) fun _ _ _ _ _ _=>Gz fun _=>rfl;obtain⟨jk,gO⟩:=lU X G BA (ps:=["first", "led_from"]) fun _ _ _ _ _ _=>yU fun _ _=>rfl;obtain⟨nZ,mT⟩:=lU X G IV (ps:=["place", "led_from", "figures", "found"]) fun _ _ _ _ _ _=>bn4 fun _ _ _ _=>rfl;obtain⟨eA,bB⟩:=lU X G Dv (ps:=["deck"]) fun _ _ _ _ _ _=>Gz fun _=>rfl;obtain⟨ko,gF⟩:=lU X G Mz (ps:=["deck", "boxes", "deep"]) fun _ _ _ _ _ _=>Rr fun _ _ _=>rfl;obtain⟨jm,j7⟩:=lU X G BB (ps:=["deck"]) fun _ _ _ _ _ _=>Gz fun _=>rfl;obtain⟨jn,j8⟩:=lU X G BC (ps:=["deck", "boxes", "k"]) fun _ _ _ _ _ _=>Rr fun _ _ _=>rfl;obtain⟨jo,iU⟩:=lU X G BD (ps:=["pile"]) fun _ _ _ _ _ _=>Gz fun _=>rfl;obtain⟨iQ,gZ⟩:=lU X G zt (ps:=["boxes", "rows", "mode"]) fun _ _ _ _ _ _=>Rr fun _ _ _=>rfl;obtain⟨hV,iV⟩:=lU X G yE (ps:=["deck", "many"]) fun _ _ _ _ _ _=>yU fun _ _=>rfl;obtain⟨j0,jG⟩:=lU X G Dw (ps:=["rows"]) fun _ _ _ _ _ _=>Gz fun _=>rfl;obtain⟨n9,kx⟩:=lU X G IW (ps:=["rows", "matches", "at"]) fun _ _ _ _ _ _=>Rr fun _ _ _=>rfl;obtain⟨j3,lK⟩:=lU X G Dx (ps:=["rows"]) fun _ _ _ _ _ _=>Gz fun _=>rfl;obtain⟨cR,eB⟩:=lU X G uK (ps:=["body"]) fun _ _ _ _ _ _=>Gz fun _=>rfl;obtain⟨fU,cL⟩:=lU X G BE (ps:=["e", "values"]) fun _ _ _ _ _ _=>yU fun _ _=>rfl;obtain⟨hX,iW⟩:=lU X G yF (ps:=["boxes", "statement", "ways", "values", "figure"]) fun _ _ _ _ _ _=>bn5 fun _ _ _ _ _=>rfl;obtain⟨j4,lL⟩:=lU X G Dy (ps:=["program", "rows"]) fun _ _ _ _ _ _=>yU fun _ _=>rfl;obtain⟨dN,cX⟩:=lU X G p9 (ps:=["made", "standing", "figure"]) fun _ _ _ _ _ _=>Rr fun _ _ _=>rfl;obtain⟨iR,g7⟩:=lU X G zu (ps:=["made", "standing"]) fun _ _ _ _ _ _=>yU fun _ _=>rfl;obtain⟨lJ,og⟩:=lU X G Ft (ps:=["made", "standing"]) fun _ _ _ _ _ _=>yU fun _ _=>rfl;obtain⟨gK,hZ⟩:=lU X G wD (ps:=["made", "standing"]) fun _ _ _ _ _ _=>yU fun _ _=>rfl;obtain⟨jq,j9⟩:=lU X G BF (ps:=["made"]) fun _ _ _ _ _ _=>Gz fun _=>rfl;obtain⟨gM,ia⟩:=lU X G wF (ps:=["made", "found", "target"]) fun _ _ _ _ _ _=>Rr fun _ _ _=>rfl;obtain⟨vB,GN⟩:=lU X G Qq (ps:=["script"]) fun _ _ _ _ _ _=>Gz fun _=>rfl;have ka:=JM (st:=dc) BH BI BJ;have BL:=ka.binds (ps:=["self", "program"]) fun _ _ _ _ _ _=>yU fun _ _=>rfl
 let t:Ad:=⟨sk,
  qv,
  dI,
  dR,
  dW,
  dX,
  fS,
  gA,
  kn,
  kI,
  gB,
  gJ,
  cA,
  cE,
  nV,
  mL,
  mM,
  nW,
  kJ,
  lG,
  kK,
  lH,
  um,
  uo,
  mN,
  nX,
  dJ,
  eU,
  iK,
  jh,
  mO,
  nY,
  kL,
  lI,
  iL,
  ji,
  dY,
  fD,
  bS,
  hJ,
  iM,
  jk,
  fT,
  nZ,
  dZ,
  eA,
  kM,
  ko,
  iN,
  jm,
  iO,
  jn,
  iP,
  jo,
  gX,
  iQ,
  gC,
  hV,
  jC,
  j0,
  mQ,
  n9,
  jD,
  j3,
  cK,
  cR,
  fE,
  fU,
  gD,
  hX,
  jE,
  j4,
  cW,
  dN,
  gY,
  iR,
  kN,
  lJ,
  fK,
  gK,
  iS,
  jq,
  fL,
  gM,
  fa,
  vB,
  de,
  zbs "__init__" "Chart.__init__" (kX dc) (hC dc) (aJ dc) .none rj rm rq rh me rz,
  aW,
  eM,
  fV⟩
 have T:Tx K mg t:=⟨yc,
  gE,
  fj,
  jr,
  qw,
  jF,
  fM,
  j5,
  kr,
  kO,
  oa,
  qx,
  mS,
  fG,
  gN,
  qy,
  kP,
  j6,
  gg,
  iT,
  gO,
  mT,
  bB,
  gF,
  j7,
  j8,
  iU,
  gZ,
  iV,
  jG,
  kx,
  lK,
  eB,
  cL,
  iW,
  lL,
  cX,
  g7,
  og,
  hZ,
  j9,
  ia,
  GN,
  ka,
  BL,
  ⟨MA,MB,MC,MD⟩,
  zbE X G OU,
  ⟨yd,BG,BK,ME⟩,
  gG,
  gH,
  iX,
  cN,
  fW,
  ⟨ye⟩,
  vY,
  zbE X G Fu,
  ⟨Al⟩,
  yf,
  zbE X G IX,
  ⟨_,zbE X G Wk,_,rfl⟩,
  ⟨_,zbE X G yG,_,rfl⟩,
  ⟨_,zbE X G zv,_,rfl⟩,
  zaR X G g8,
  zaR X G js,
  zaR X G E2,
  zaR X G pU,
  zaR X G sr,
  zaR X G uq,
  zaR X G LU,
  zaR X G LV,
  zaR X G kc,
  zaR X G lM,
  zaR X G C6,
  zaR X G ur⟩
 obtain⟨_,_,_,_,_,_,_,_,_,z,_⟩:=GN.F.ex;exact⟨t.vB,fun s v=>by rw[show t.vB=_ from z];exact .of_eq rfl,fun base _ _ B=>SF T B (LB LA p0.1)⟩
theorem walk{l:PySem.W.OpenLaw}{q:zdw}{loose:List Str}{XP:(Str->Option zdl)->Heap->Prop}{YP:zdm->Heap->Prop}{d dF:DefRec}{K:Params->zaa}{c Pt:zdk}(hn:l.most=some 63)(Ua:d.params.defaults=[])
 (hY:∀(w:zdm) (h:Heap),YP w h->(K w.params).In h) (Lw:(PyProof.Rows.recsOf q).find? (fun e=>e.name==("first_inputs":Str))=some dF) (LA:∀w:zdm,zcf (K w.params) "first_inputs"=some (c,Pt)) (UP:∀w:zdm,(K w.params).lookup Pt=none)
 (F:∀(w:zdm) (mg:Str->Option zdl) (fa:zdk) (h:Heap),(K w.params).In h->h.Ns zdr mg->mg d.name=some (.ref fa)->
  ∃fd:zdt,(∀(s:zdu) (u:zdl),BindsTo s fd ⟨[u],[]⟩ [("script",u)])/\∀base:Heap,(K w.params).In base->base.Ns zdr mg->jg (K w.params) mg base c Pt->bJ l.prog w (K w.params) mg base dy 30 fa fd ["script"] (A9 (K w.params) Pt)) :
 PySem.W.WalkO q loose XP YP l.row.toRowW d [] (fun f vs=>PySem.call f vs):=
 L2.Lz (n:=63) (k:=30) (x:="script") (CX:=fun _=>dy) (sp:=fun w=>A9 (K w.params) Pt) hn (by decide) Ua ⟨rfl,by decide,by decide⟩ hY Lw LA UP F (fun _ _ a ns hl hS hP=>⟨a,ns,rfl,hS,hl,hP,fun _=>rfl⟩) fun _ _ _ _ _ z=>z
end
end RK
end
namespace PySem.W.Fast
theorem tw13055781286668164705:0=0:=rfl
theorem tw8744547748445006670:0=0:=rfl
theorem tw7001355976876950812:0=0:=rfl
theorem tw6900070425794562620:0=0:=rfl
theorem tw17011565484679462875:0=0:=rfl
theorem tw1038888337713878914:0=0:=rfl
theorem tw11732704479998259287:0=0:=rfl
theorem tw12566394554909771079:0=0:=rfl
theorem tw15032912245284347633:0=0:=rfl
theorem tw14129984854563520629:0=0:=rfl
theorem tw9358799951543776975:0=0:=rfl
theorem tw7719665437279638790:0=0:=rfl
theorem tw11604748207306572412:0=0:=rfl
theorem tw11743600668339174621:0=0:=rfl
theorem tw4100860665182238451:0=0:=rfl
theorem tw11238148355666260684:0=0:=rfl
theorem tw17464549496817055608:0=0:=rfl
theorem tw13880564191140707721:0=0:=rfl
theorem tw1084332865619754977:0=0:=rfl
theorem tw7448723741499655971:0=0:=rfl
theorem tw17555144555629346848:0=0:=rfl
theorem tw3202248260789684663:0=0:=rfl
theorem tw14631499256911933647:0=0:=rfl
theorem tw9997703006858316191:0=0:=rfl
theorem tw1536589370590960237:0=0:=rfl
theorem tw17992136932318891458:0=0:=rfl
theorem tw17304157313308366637:0=0:=rfl
theorem tw4929546133478115000:0=0:=rfl
theorem tw4232259808543286921:0=0:=rfl
theorem tw1957015581027752151:0=0:=rfl
theorem tw8956003012160670001:0=0:=rfl
theorem tw17560044536023627749:0=0:=rfl
theorem tw2902283521774245078:0=0:=rfl
theorem tw5294839924486293909:0=0:=rfl
theorem tw3808500410653419477:0=0:=rfl
theorem tw9568136328009628766:0=0:=rfl
theorem tw10178146318030775908:0=0:=rfl
theorem tw12262167623493777405:0=0:=rfl
theorem tw15060026091389874194:0=0:=rfl
theorem tw1011397203336240617:0=0:=rfl
theorem tw6830381437312080920:0=0:=rfl
theorem tw2589331533752393935:0=0:=rfl
theorem tw12879661754961233234:0=0:=rfl
theorem tw8340769324805668035:0=0:=rfl
theorem tw5502100754598769364:0=0:=rfl
theorem tw12035238859779220942:0=0:=rfl
theorem tw10233593023665314479:0=0:=rfl
theorem tw10214834270806368123:0=0:=rfl
theorem tw9779239627295676613:0=0:=rfl
theorem tw11265145208097922412:0=0:=rfl
theorem tw7528373401194258564:0=0:=rfl
theorem tw2516401134090750105:0=0:=rfl
theorem tw13004127175794278965:0=0:=rfl
theorem tw16430914441270512986:0=0:=rfl
theorem tw8996642501452138558:0=0:=rfl
theorem tw284565595828166954:0=0:=rfl
theorem tw4631448620615126657:0=0:=rfl
theorem tw158596100471345231:0=0:=rfl
theorem tw1104194887609847594:0=0:=rfl
theorem tw2821035093245182680:0=0:=rfl
theorem tw14078047371451593951:0=0:=rfl
theorem tw4558894937389677745:0=0:=rfl
theorem tw15884981324661749559:0=0:=rfl
theorem tw8774094991313910023:0=0:=rfl
theorem tw7126343631116152696:0=0:=rfl
theorem tw4826062976659215091:0=0:=rfl
theorem tw4771935535541854950:0=0:=rfl
theorem tw17418321989972763965:0=0:=rfl
theorem tw2802702186754968975:0=0:=rfl
theorem tw13700484601713942312:0=0:=rfl
theorem tw8789678495219125708:0=0:=rfl
theorem tw3040375211553353162:0=0:=rfl
theorem tw1837740075362547790:0=0:=rfl
theorem tw13844357858326038066:0=0:=rfl
theorem tw16857139349175994677:0=0:=rfl
theorem tw4451804583710551618:0=0:=rfl
theorem tw8933650059547392583:0=0:=rfl
theorem tw12957682972189750353:0=0:=rfl
theorem tw2358117066184205313:0=0:=rfl
theorem tw417644231866764390:0=0:=rfl
theorem tw6601199452671201226:0=0:=rfl
theorem tw17519397657528547825:0=0:=rfl
theorem tw776313666613526152:0=0:=rfl
theorem tw13347404133891301062:0=0:=rfl
theorem tw16424284196961067315:0=0:=rfl
theorem tw13340093278512396820:0=0:=rfl
theorem tw10021698316246930451:0=0:=rfl
theorem tw6491808842310750122:0=0:=rfl
theorem tw11210045191272502345:0=0:=rfl
theorem tw1835952169992006262:0=0:=rfl
theorem tw2834577733057791250:0=0:=rfl
theorem tw3347175813321419554:0=0:=rfl
theorem tw15927748542869098262:0=0:=rfl
theorem tw15817685653644197102:0=0:=rfl
theorem tw9136514791551805751:0=0:=rfl
theorem tw10621430796278763301:0=0:=rfl
theorem tw15661063049320770688:0=0:=rfl
theorem tw16691553629607609789:0=0:=rfl
theorem tw895574491497653143:0=0:=rfl
theorem tw5085056343578398063:0=0:=rfl
theorem tw15791181300908799284:0=0:=rfl
theorem tw12506606891220974049:0=0:=rfl
theorem tw1368248508023963868:0=0:=rfl
theorem tw3223872790016525029:0=0:=rfl
theorem tw3201071815179417641:0=0:=rfl
theorem tw15875717460917376748:0=0:=rfl
theorem tw11103598248994267540:0=0:=rfl
theorem tw7756753423429400012:0=0:=rfl
theorem tw14347504819504391340:0=0:=rfl
theorem tw15263652778969037864:0=0:=rfl
theorem tw10299710396311205555:0=0:=rfl
theorem tw17647446683579884213:0=0:=rfl
theorem tw11458071524131421781:0=0:=rfl
theorem tw7302295449215554867:0=0:=rfl
theorem tw13118023277916031215:0=0:=rfl
theorem tw11998852012536020027:0=0:=rfl
theorem tw16172695269307388921:0=0:=rfl
theorem tw10092974823359067610:0=0:=rfl
theorem tw16875684923997986274:0=0:=rfl
theorem tw2604168471337912450:0=0:=rfl
theorem tw11841296646585252735:0=0:=rfl
theorem tw12047703980039249364:0=0:=rfl
theorem tw4442650608537488744:0=0:=rfl
theorem tw17463232870321824087:0=0:=rfl
theorem tw9938742630837969746:0=0:=rfl
theorem tw9958178279850088439:0=0:=rfl
theorem tw12874922326006428101:0=0:=rfl
theorem tw2956454235337190827:0=0:=rfl
theorem tw18403702724458301461:0=0:=rfl
theorem tw11580953668829795886:0=0:=rfl
theorem tw15839999001081832305:0=0:=rfl
theorem tw12493129360609020959:0=0:=rfl
theorem tw17190461455487697365:0=0:=rfl
theorem tw3465898743880874073:0=0:=rfl
theorem tw11160881650085991470:0=0:=rfl
theorem tw1363766951471678976:0=0:=rfl
theorem tw17227019693535262383:0=0:=rfl
theorem tw2106340924843035590:0=0:=rfl
theorem tw8112997773141588030:0=0:=rfl
theorem tw13923311400639628701:0=0:=rfl
theorem tw13689067338508764107:0=0:=rfl
theorem tw4352812592171574599:0=0:=rfl
theorem tw3019551322333014044:0=0:=rfl
theorem tw15478223683131802661:0=0:=rfl
theorem tw365069942952805627:0=0:=rfl
theorem tw9937063234793998086:0=0:=rfl
theorem tw1535449781330016446:0=0:=rfl
theorem tw15105461875995979979:0=0:=rfl
theorem tw10758139040321865563:0=0:=rfl
theorem tw8593949319694990485:0=0:=rfl
theorem tw4049128190389619111:0=0:=rfl
theorem tw5297843287567540853:0=0:=rfl
theorem tw67045975068276461:0=0:=rfl
theorem tw7739898941237761883:0=0:=rfl
theorem tw1094570197902005326:0=0:=rfl
theorem tw2012940422181723245:0=0:=rfl
theorem tw10238414474115057023:0=0:=rfl
theorem tw14686592827056645434:0=0:=rfl
theorem tw12049630726694407042:0=0:=rfl
theorem tw14337227751323268507:0=0:=rfl
theorem tw14710997591005108306:0=0:=rfl
theorem tw11127625918187378337:0=0:=rfl
theorem tw13819330299501611385:0=0:=rfl
theorem tw287262400199527385:0=0:=rfl
theorem tw14554066459570995122:0=0:=rfl
theorem tw16772313051793541207:0=0:=rfl
theorem tw8507183795922730421:0=0:=rfl
theorem tw6982709542354275562:0=0:=rfl
theorem tw8738296021692467087:0=0:=rfl
theorem tw6739696917638709056:0=0:=rfl
theorem tw5301101283029815677:0=0:=rfl
theorem tw1998100925837542052:0=0:=rfl
theorem tw13921427987606592024:0=0:=rfl
theorem tw11978023602143649586:0=0:=rfl
theorem tw765775422762027224:0=0:=rfl
theorem tw11505611034051606117:0=0:=rfl
theorem tw16175063376349685765:0=0:=rfl
theorem tw14174882192602796878:0=0:=rfl
theorem tw2079215197914777322:0=0:=rfl
theorem tw18231365436822340060:0=0:=rfl
theorem tw9903983768613765708:0=0:=rfl
theorem tw12152663383204289561:0=0:=rfl
theorem tw8560777394035821086:0=0:=rfl
theorem tw13673746448740873949:0=0:=rfl
theorem tw16907550560020614092:0=0:=rfl
theorem tw11902449557333990942:0=0:=rfl
theorem tw5622860841378127925:0=0:=rfl
theorem tw10379311758206033745:0=0:=rfl
theorem tw17352158043302948626:0=0:=rfl
theorem tw7520017935182434853:0=0:=rfl
theorem tw5777072749342086566:0=0:=rfl
theorem tw5940848151033495212:0=0:=rfl
theorem tw7688809105375415553:0=0:=rfl
theorem tw14573392328529081751:0=0:=rfl
theorem tw3314362257914486775:0=0:=rfl
theorem tw5090557596229138624:0=0:=rfl
theorem tw9822450708217087913:0=0:=rfl
theorem tw13488880325936720156:0=0:=rfl
theorem tw1715590067666043828:0=0:=rfl
theorem tw15207718047887427356:0=0:=rfl
theorem tw15782635036830009965:0=0:=rfl
theorem tw13176622245245844665:0=0:=rfl
theorem tw11829482869482497680:0=0:=rfl
theorem tw11894978251402734121:0=0:=rfl
theorem tw4317408003729973946:0=0:=rfl
theorem tw15928000829587574480:0=0:=rfl
theorem tw4998473585304326892:0=0:=rfl
theorem tw10071221582181317996:0=0:=rfl
theorem tw1968815947053557857:0=0:=rfl
theorem tw11922386275025984235:0=0:=rfl
theorem tw11358571339550985875:0=0:=rfl
theorem tw10109666522425513228:0=0:=rfl
theorem tw9239776540765592717:0=0:=rfl
theorem tw13692378991197831782:0=0:=rfl
theorem tw7645165310180476733:0=0:=rfl
theorem tw12068592333063631991:0=0:=rfl
theorem tw11371779931285561770:0=0:=rfl
theorem tw1424681721064574558:0=0:=rfl
theorem tw2757565696990215215:0=0:=rfl
theorem tw7552223723661414802:0=0:=rfl
theorem tw5605458158241042723:0=0:=rfl
theorem tw9553651138417789789:0=0:=rfl
theorem tw9405942026422850437:0=0:=rfl
theorem tw3325892580215748913:0=0:=rfl
theorem tw1106317548402696717:0=0:=rfl
theorem tw3707077416748913124:0=0:=rfl
theorem tw7243415951066789257:0=0:=rfl
theorem tw11681936728757158968:0=0:=rfl
theorem tw4751253267349535293:0=0:=rfl
theorem tw2038118584373111385:0=0:=rfl
theorem tw16192086311799688402:0=0:=rfl
theorem tw9171658008666608121:0=0:=rfl
theorem tw3360467976561747752:0=0:=rfl
theorem tw17184216955106172918:0=0:=rfl
theorem tw1937723848345174347:0=0:=rfl
theorem tw5200478390278354551:0=0:=rfl
theorem tw17149116238909974171:0=0:=rfl
theorem tw379120050154915041:0=0:=rfl
theorem tw8708263199966016102:0=0:=rfl
theorem tw17541790930346055695:0=0:=rfl
theorem tw6514968924518755121:0=0:=rfl
theorem tw1270752468628891701:0=0:=rfl
theorem tw16462782899166284460:0=0:=rfl
theorem tw928129506789722683:0=0:=rfl
theorem tw17554502730502941586:0=0:=rfl
theorem tw7593996838503561682:0=0:=rfl
theorem tw17995310512508216717:0=0:=rfl
theorem tw4425392283584802231:0=0:=rfl
theorem tw11371337165517986046:0=0:=rfl
theorem tw6399440815128728248:0=0:=rfl
theorem tw784708427764781671:0=0:=rfl
theorem tw17282481375540020302:0=0:=rfl
theorem tw17661639406501837420:0=0:=rfl
theorem tw17249726031333845812:0=0:=rfl
theorem tw13588626403688542124:0=0:=rfl
theorem tw6593218760686475742:0=0:=rfl
theorem tw7737864379558345234:0=0:=rfl
theorem tw18375812713243324072:0=0:=rfl
theorem tw14819635736769119537:0=0:=rfl
theorem tw8848777290486088923:0=0:=rfl
theorem tw11149348177470772084:0=0:=rfl
theorem tw4964369966275662776:0=0:=rfl
theorem tw5941029228385295925:0=0:=rfl
theorem tw5861019797307536971:0=0:=rfl
theorem tw4506901242940221861:0=0:=rfl
end PySem.W.Fast
end
open PySem PySem.W PyProof.Rows
set_option maxRecDepth 100000 in
set_option maxHeartbeats 0 in
theorem PySem.Challenge.cw_everyrow_k28_whole_shortest_inputs_holds : PySem.Challenge.rw_everyrow_k28_whole_shortest_inputs.Holds := by
 w_on; o_law; k_head; (case hw=>w_witness2)
 k_fill
 refine' RK.walk (l:=PySem.Challenge.rw_everyrow_k28_whole_shortest_inputs) (c:=193) (Pt:=189) rfl rfl (fun w h Y=>PySem.W.km_in_of Y) ?R ?T ?L ?F
 case R=>exact rfl
 case T=>exact fun w=>by kernel_rfl
 case L=>exact fun w=>by kernel_rfl
 case F=>
   intro w mg fa h KX G Ub
   refine' RK.all_mk KX G Ub ?_ ?_ ?_ ?_ ?_ ?_ ?_ ?_ ?_ ?_ ?_ ?_ ?_ ?_ ?_ ?_ ?_ ?_ ?_ ?_ ?_ ?_ ?_ ?_ ?_ ?_ ?_ ?_ ?_ ?_ ?_ ?_ ?_ ?_ ?_ ?_ ?_ ?_ ?_ ?_ ?_ ?_ ?_ ?_ ?_ ?_ ?_ ?_ ?_ ?_ ?_ ?_ ?_ ?_ ?_ ?_ ?_ ?_ ?_ ?_ ?_ ?_ ?_ ?_ ?_ ?_ ?_ ?_ ?_ ?_ ?_ ?_ ?_ ?_ ?_ ?_ ?_ ?_ ?_ ?_ ?_ ?tb
   rotate_left 59
   iterate 43 (refine' L2.FH.of ?a ?l ?c ?k; (case a=>k_is); (case l=>k_is); (case c=>k_is); (case k=>k_is))
   iterate 18 (k_is)
   iterate 1 (k_exc)
   iterate 1 (kts_exm)
   iterate 1 (k_is)
   iterate 1 (k_exc)
   iterate 1 (kts_exm)
   iterate 15 (k_is)
   (case tb=>kernel_rfl)
