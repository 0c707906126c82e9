import PyProof.Rows.All
import Wide.All
import OpenK.AllK
import Wide.FinOn
import Lean
import PyProof.EqAt
import PyProof.EqKinds
import PyProof.TupleCall
import PyProof.AttrMiss
import PyProof.IsiH_list
import PyProof.ZipIter
import PyProof.P3In
import PySem.Challenge.RW_everyrow_k57_seen_from_standings
set_option compiler.extract_closed false
set_option Elab.async false
set_option linter.all false
set_option maxRecDepth 100000
open PySem.W renaming Frag->ZI,findIn->Z6,mg_none_of->zae,nsIn->zai,kia_one->zal,fnOf->zao,keepIn->zay,emptyDict->zaz,instObj->zaM,codeIn->za0,plainGet->za3,hasDictIn->zba,isFn->zbg,plainOver->zbm,mg_of->zbo,makesIn->zbv,plainGet_of->zbz,lookIn->zbB,callWith_K->zbD,methodObj->zbF,takerIn->zbW,cellsFrom_some->zb0,kitOne->zb9
open PySem.Str renaming ofString->ZJ
open List renaming getElem?_eq_getElem->ZK,length_map->ZL,length_cons->ZN,getElem?_map->ZO,length_append->ZP,getElem?_eq_some_iff->ZR,mem_cons->ZS,getElem_mem->ZT,mem_singleton->ZU,mem_cons_of_mem->ZV,map_cons->ZW,getD_eq_getElem?_getD->ZX,size_toArray->ZY,append_assoc->ZZ,mem_cons_self->Z0,mem_append->Z1,mem_append_right->Z4,map_append->Z8,append_nil->Z9,mem_append_left->zab,length->zad,getElem?_append_right->zag,length_nil->zaj,getElem?_append_left->zan,forIn_cons->zap,range->zaq,not_mem_nil->zar,pairwise_append->zas,mem_map->zav,zipWith->zaw,map_map->zax,drop_eq_getElem_cons->zaA,length_drop->zaC,map_nil->zaD,lookup_cons->zaE,pairwise_map->zaF,mem_of_getElem?->zaL,length_take->zaP,getElem_map->zaQ,take_of_length_le->zaR,pairwise_cons->zaT,set->zaV,mem_iff_getElem->zaX,lookup->zaY,forIn_nil->zaZ,take_length->za2,length_pos_iff->za5,nodup_cons->za6,find?_cons->za8,nil_append->za9,length_singleton->zbb,cons_append->zbc,drop_length->zbd,any_cons->zbe,pairwise_iff_getElem->zbf,getElem?_cons_succ->zbh,pairwise_singleton->zbi,nodup_append->zbk,length_range->zbl,getElem?_set_self->zbn,ext_getElem->zbp,take_succ_eq_append_getElem->zbq,getElem?_set_ne->zbs,filterMap_cons->zbw,flatMap_append->zbx,length_zipWith->zby,replicate->zbA,getElem?_replicate->zbM,getElem?_cons_zero->zbN,of_mem_zip->zbR,length_set->zbS,head?_drop->zbT,range_succ->zbU,zipWith_cons_cons->zbY,drop_of_length_le->zbZ,length_replicate->zb1,drop_zero->zb2,getElem?_eq_none->zb3,drop_drop->zb4,nodup_nil->zb6,take_append_drop->zb7,take_succ->zb8,drop_eq_nil_iff->zca,getElem?_range->zcd,map_set->zch
open Bool renaming false_ne_true->ZM,false_eq_true->Z2,and_eq_true->zam,not_true->zaW,eq_iff_iff->zbt,and_true->zbE
open Nat renaming le_refl->ZQ,ne_of_lt->Z3,le_trans->Z5,lt_of_lt_of_le->Z7,zero_le->zac,pow_le_pow_right->zak,lt_irrefl->zat,ne_of_gt->za1,lt_of_le_of_lt->za7,le_of_lt->zbr,min_le_right->zbI,not_lt_zero->zbV,mul_le_mul->zb5,mul_le_mul_left->zcb,le_of_eq->zcf,sub_self->zci
open Int renaming toNat_natCast->zaa,emod_lt_of_pos->zaJ,le_refl->zaS,emod_nonneg->zaU,mul_le_mul_of_nonneg_right->zbu,mul_one->zbX,toNat_of_nonneg->zcc,le_trans->zcg,add_mul->zcj,one_mul->zck
open Option renaming some->zaf,map_some->zaG,map_eq_some_iff->zaI,isSome_map->zbj,isSome_iff_exists->zbH
open PySem.F renaming plainAttrs_list->zah,slot_list_append->zaN,type_list_append->zaO,slot_list_extend->zbK,type_list_extend->zbL,plain_list_iadd->zbO,slot_list_index->zbP,type_list_index->zbQ
open Or renaming inl->zau,inr->zbJ
open Array renaming getElem?_toList->zaB,length_toList->za4,forIn_toList->zbC,getElem?_eq_getElem->zbG,toList->zce
open PyProof.Rows renaming callWith_type1->zaH,slot_tuple_getitem->zaK
open PySem renaming Addr->zcl,Value->zcm,World->zcn,wpAny_bind->zco,wpAny_pure->zcp,wpAny_holding->zcq,starEach->zcr,mainGlobals->zcs,sizeLine->zct,FuncData->zcu,Shared->zcv,Around->zcw,Program->zcx
noncomputable section
namespace L2
open PySem PySem.Spec PyProof.Rows
abbrev Key:=Sum Int Str
def oG:Key->zcm->Bool
 |.inl k,v=>Value.isInt k v
 |.inr x,v=>Value.isStrOf x v
def JQ (w:zcn):Key->Int
 |.inl k=>hashInt k
 |.inr x=>hashStr w x
theorem cI:∀ {k:Key} {v:zcm},oG k v=true->(∃i t,k=Sum.inl i/\v=Value.int i t)\/(∃x t,k=Sum.inr x/\v=Value.str x t)
 |.inl i,v,h=>by
  obtain⟨t,e⟩:=Value.isInt_shape (k:=i) (v:=v) h;exact .inl ⟨i,t,rfl,e⟩
 |.inr x,v,h=>by
  obtain⟨t,e⟩:=Value.isStrOf_shape (x:=x) (v:=v) h;exact .inr ⟨x,t,rfl,e⟩
theorem BW(i:Int)(t:Tok):oG (.inl i) (.int i t)=true:=by simp[oG,Value.isInt]
theorem BX(x:Str)(t:Tok):oG (.inr x) (.str x t)=true:=by simp[oG,Value.isStrOf]
theorem JR(a b:Int):decide ((Sum.inl a:Key)=Sum.inl b)=(a==b):=by
 by_cases e:a=b
 ·subst e;simp
 ·have h:¬(Sum.inl a:Key)=Sum.inl b:=fun q=>e (Sum.inl.inj q);rw[decide_eq_false h];exact(beq_eq_false_iff_ne.mpr e).symm
theorem JS(a b:Str):decide ((Sum.inr a:Key)=Sum.inr b)=decide (a=b):=by
 by_cases e:a=b
 ·subst e;simp
 ·have h:¬(Sum.inr a:Key)=Sum.inr b:=fun q=>e (Sum.inr.inj q);rw[decide_eq_false h,decide_eq_false e]
theorem JT(a:Int)(b:Str):decide ((Sum.inl a:Key)=Sum.inr b)=false:=decide_eq_false (fun q=>nomatch q)
theorem JU(a:Str)(b:Int):decide ((Sum.inr a:Key)=Sum.inl b)=false:=decide_eq_false (fun q=>nomatch q)
def bG (prog:zcx) (w:zcn):PySem.KeyKind prog w Key where
 is:=oG
 hash:=JQ w
 inj:=fun v a b ha hb=>by
  rcases cI ha with ⟨i,t,rfl,rfl⟩ |⟨x,t,rfl,rfl⟩
  ·rcases cI hb with ⟨j,u,rfl,e⟩ |⟨y,u,rfl,e⟩
   ·injection e with e1 _;rw[e1]
   ·exact nomatch e
  ·rcases cI hb with ⟨j,u,rfl,e⟩ |⟨y,u,rfl,e⟩
   ·exact nomatch e
   ·injection e with e1 _;rw[e1]
 byValue:=fun k v h=>by
  rcases cI h with ⟨i,t,rfl,rfl⟩ |⟨x,t,rfl,rfl⟩<;>rfl
 pyHash:=fun hv h=>by
  rcases cI hv with ⟨i,t,rfl,rfl⟩ |⟨x,t,rfl,rfl⟩
  ·exact wpAny_pyHash_int h
  ·exact wpAny_pyHash_str h
 eqBool:=fun hu hv h=>by
  rcases cI hu with ⟨i,t,rfl,rfl⟩ |⟨x,t,rfl,rfl⟩
  ·rcases cI hv with ⟨j,u,rfl,rfl⟩ |⟨y,u,rfl,rfl⟩
   ·rw[JR] at h;exact wpAny_eqBool_int h
   ·rw[JT] at h;exact SeqAt.EqAt.int_str i t y u _ _ _ _ h
  ·rcases cI hv with ⟨j,u,rfl,rfl⟩ |⟨y,u,rfl,rfl⟩
   ·rw[JU] at h;exact SeqAt.EqAt.str_int x t j u _ _ _ _ h
   ·rw[JS] at h;exact wpAny_eqBool_str h
 «strs»:=fun k x t v h=>by
  rcases cI h with ⟨i,u,rfl,e⟩ |⟨y,u,rfl,e⟩
  ·exact nomatch e
  ·injection e with e1 _
   subst e1;cases v<;>rfl
theorem xF(prog:zcx)(w:zcn)(i:Int)(t:Tok):(bG prog w).is (.inl i) (.int i t)=true:=BW i t
theorem xG(prog:zcx)(w:zcn)(x:Str)(t:Tok):(bG prog w).is (.inr x) (.str x t)=true:=BX x t
inductive V where
 |b4 |bl (b:Bool) |int (i:Int) |str (x:Str) |AJ (b:Array UInt8) |JV (b:UInt64) |ref (a:zcl) |ty (n:String)
 deriving DecidableEq
def RelV:V->zcm->Prop
 |.b4,u=>u=Value.none
 |.bl b,u=>u=Value.bool b
 |.int i,u=>∃t,u=Value.int i t
 |.str x,u=>∃t,u=Value.str x t
 |.AJ b,u=>∃t,u=Value.bytes b t
 |.JV b,u=>∃t,u=Value.float b t
 |.ref a,u=>u=Value.ref a
 |.ty n,u=>u=Value.type n
abbrev Vals:List V->List zcm->Prop:=Paired RelV
theorem Vals.length{xs:List V}{us:List zcm}(r:Vals xs us):xs.length=us.length:=Paired.length r
theorem Vals.get:∀ {xs:List V} {us:List zcm} {i:Nat} {x:V},Vals xs us->xs[i]?=some x->∃u,us[i]?=some u/\RelV x u
 |_,_,_,_,.nil,e=>by simp at e
 |_,_,0,_,.cons r _,e=>by simp at e;subst e;exact⟨_,rfl,r⟩
 |_,_,i+1,x,.cons _ t,e=>by
  obtain⟨u,h1,h2⟩:=Vals.get (i:=i) (x:=x) t (by simpa using e);exact⟨u,by simpa using h1,h2⟩
theorem Vals.set{x:V}{u:zcm}(r:RelV x u):∀ {xs:List V} {us:List zcm} (i:Nat),Vals xs us->Vals (xs.set i x) (us.set i u)
 |_,_,_,.nil=>.nil
 |_,_,0,.cons _ t=>.cons r t
 |_,_,i+1,.cons q t=>.cons q (Vals.set r i t)
theorem Vals.append:∀ {xs ys:List V} {us ws:List zcm},Vals xs us->Vals ys ws->Vals (xs++ys) (us++ws)
 |_,_,_,_,.nil,s=>s
 |_,_,_,_,.cons r t,s=>.cons r (Vals.append t s)
theorem Vals.take:∀ {xs:List V} {us:List zcm} (n:Nat),Vals xs us->Vals (xs.take n) (us.take n)
 |_,_,0,_=>.nil
 |_,_,_+1,.nil=>.nil
 |_,_,n+1,.cons r t=>.cons r (Vals.take n t)
theorem Vals.drop:∀ {xs:List V} {us:List zcm} (n:Nat),Vals xs us->Vals (xs.drop n) (us.drop n)
 |_,_,0,r=>r
 |_,_,_+1,.nil=>.nil
 |_,_,n+1,.cons _ t=>Vals.drop n t
def k0:Option V->Option zcm->Prop
 |some v,some u=>RelV v u
 |none,none=>True
 |_,_=>False
def KV {κ:Type}:List (κ×V)->List (κ×zcm)->Prop:=Paired fun (p:κ×V) (q:κ×zcm)=>p.1=q.1/\RelV p.2 q.2
def kV:Key->V
 |.inl i=>.int i
 |.inr x=>.str x
inductive HO where
 |lst (xs:List V)
 |tup (xs:List V)
 |dK (kvs:List (Key×V)) |dT (kvs:List (List Key×V))
 |set (S:Int->Bool) (n:Nat)
 |ins (C dx:zcl) (fs:List (Str×V))
 |own (x:zcl)
 |xd (fs:List (Str×V))
 |met (f x:zcl)
 |PJ (lo hi:Int)
 |AK (o:Obj) (u:HO)
 |JW (ps:Array zcm)
 |ext (φ:Heap->Prop)
abbrev Hp:=zcl->Option HO
def upd (H:Hp) (a:zcl) (o:HO):Hp:=fun b=>if b=a then some o else H b
theorem ao{H:Hp}{a:zcl}{o:HO}:upd H a o a=some o:=by unfold upd;rw[if_pos rfl]
theorem aR{H:Hp}{a b:zcl}{o:HO}(h:b≠a):upd H a o b=H b:=by unfold upd;rw[if_neg h]
theorem bX{H:Hp}{a b:zcl}{o u:HO}(h:H a=some o)(h':H b=some u)(d:o≠u):a≠b:=by
 intro e;subst e;rw[h] at h';exact d (zaf.inj h')
theorem au{H:Hp}{a b:zcl}{o:HO}(h:H a=some o)(h':H b=none):a≠b:=by
 intro e;subst e;rw[h] at h';cases h'
section
variable(P:zcx)(w:zcn)
def cJ (H:Hp) (h:Heap) (a:zcl):HO->Prop
 |.lst xs=>xs.length<=zct/\∃(a0:List zcm) (n:Nat),Vals xs a0/\h.get? a=some {cls:=.type "list",data:=.seq a0.toArray n}
 |.tup xs=>xs.length<=zct/\∃a0:List zcm,Vals xs a0/\IsTup h a a0.toArray
 |.dK kvs=>kvs.length<=zct/\(a==sysModules)=false/\∃vs,KV kvs vs/\h.DictOf (bG P w) a vs
 |.dT kvs=>kvs.length<=zct/\(a==sysModules)=false/\∃xs:List (List Key×zcl×zcm),
  Paired (fun (p:List Key×V) (q:List Key×zcl×zcm)=>p.1=q.1/\H q.2.1=some (.tup (p.1.map kV))/\RelV p.2 q.2.2) kvs xs/\
  ∃o es ep,h.get? a=some o/\o.ExactDict/\o.data=.dict es ep/\es.toList=xs.map (entryOfKey (tupleKind (bG P w)))/\(xs.map (·.1)).Nodup
 |.set S n=>h.SetOf (intKind P w) a S n
 |.ins C dx fs=>H dx=some (.own a)/\fs.length<=1000/\dx≠a/\h.get? a=some (zaM C dx)/\
  ∃mA,h.Ns1 dx mA/\(∀f,k0 (fs.lookup f) (mA f))/\PySem.Within mA (fs.map (·.1))
 |.own _=>∃o,h.get? a=some o
 |.xd fs=>∃mA,h.Ns1 a mA/\∀f,k0 (fs.lookup f) (mA f)
 |.PJ lo hi=>∃t u v,h.get? a=some {cls:=.type "range",data:=.fields #[.int lo t,.int hi u,.int 1 v]}
 |.AK o u=>h.get? a=some o/\cJ H h a u
 |.JW ps=>h.get? a=some {cls:=.none,data:=.fields ps}
 |.met f x=>h.get? a=some (zbF (.ref f) (.ref x))
 |.ext φ=>φ h/\(∃o,h.get? a=some o)/\∀h1 h2:Heap,φ h1->(∀o,h1.get? a=some o->h2.get? a=some o)->φ h2
def nv (H:Hp) (h:Heap):Prop:=∀a o,H a=some o->cJ P w H h a o
end
section
variable{P:zcx}{w:zcn}{H H':Hp}{h h':Heap}{a:zcl}{o:HO}
theorem cJ.lt(x:cJ P w H h a o):a<h.objs.size:=by
 cases o with
 |lst xs=>obtain⟨_,_,_,_,e⟩:=x;exact Heap.lt_size e
 |tup xs=>obtain⟨_,_,_,p⟩:=x;exact p.lt
 |dK kvs=>obtain⟨_,_,_,_,o,_,_,e,_⟩:=x;exact Heap.lt_size e
 |dT kvs=>obtain⟨_,_,_,_,o,_,_,e,_⟩:=x;exact Heap.lt_size e
 |set S n=>obtain⟨o,_,_,_,e,_⟩:=x;exact Heap.lt_size e
 |ins C dx fs=>obtain⟨_,_,_,e,_⟩:=x;exact Heap.lt_size e
 |own y=>obtain⟨_,e⟩:=x;exact Heap.lt_size e
 |xd fs=>obtain⟨_,⟨_,_,_,e,_⟩,_⟩:=x;exact Heap.lt_size e
 |PJ lo hi=>obtain⟨_,_,_,e⟩:=x;exact Heap.lt_size e
 |AK ob u=>obtain⟨e,_⟩:=x;exact Heap.lt_size e
 |JW ps=>exact Heap.lt_size (show h.get? a=some _ from x)
 |met f y=>exact Heap.lt_size (show h.get? a=some _ from x)
 |ext φ=>obtain⟨_,⟨_,e⟩,_⟩:=x;exact Heap.lt_size e
theorem Paired.Dn{α β:Type}{F G:α->β->Prop}:∀ {l₁:List α} {l₂:List β},Paired F l₁ l₂->(∀a b,F a b->G a b)->Paired G l₁ l₂
 |_,_,.nil,_=>.nil
 |_,_,.cons r t,f=>.cons (f _ _ r) (Paired.Dn t f)
theorem cJ.vR(x:cJ P w H h a o)(k:∀b u,(b=a\/H b=some (.own a))->h.get? b=some u->h'.get? b=some u)
 (ho:∀b,H b=some (.own a)->H' b=some (.own a)) (ht:∀b xs,H b=some (.tup xs)->H' b=some (.tup xs)):cJ P w H' h' a o:=by
 induction o with
 |lst xs=>obtain⟨z,a0,n,r,e⟩:=x;exact⟨z,a0,n,r,k _ _ (.inl rfl) e⟩
 |tup xs=>obtain⟨z,a0,r,ob,e,c⟩:=x;exact⟨z,a0,r,ob,k _ _ (.inl rfl) e,c⟩
 |dK kvs=>obtain⟨z,y,vs,r,ob,es,ep,e,c⟩:=x;exact⟨z,y,vs,r,ob,es,ep,k _ _ (.inl rfl) e,c⟩
 |dT kvs=>
  obtain⟨z,y,xs,r,ob,es,ep,e,c⟩:=x;exact⟨z,y,xs,Paired.Dn r fun p q z=>⟨z.1,ht _ _ z.2.1,z.2.2⟩,ob,es,ep,k _ _ (.inl rfl) e,c⟩
 |set S n=>obtain⟨ob,es,ep,t,e,c⟩:=x;exact⟨ob,es,ep,t,k _ _ (.inl rfl) e,c⟩
 |ins C dx fs=>
  obtain⟨d,z,ne,e,mA,⟨od,es,ep,e2,c⟩,r⟩:=x;exact⟨ho _ d,z,ne,k _ _ (.inl rfl) e,mA,⟨od,es,ep,k _ _ (.inr d) e2,c⟩,r⟩
 |own y=>obtain⟨ob,e⟩:=x;exact⟨ob,k _ _ (.inl rfl) e⟩
 |xd fs=>obtain⟨mA,⟨od,es,ep,e,c⟩,r⟩:=x;exact⟨mA,⟨od,es,ep,k _ _ (.inl rfl) e,c⟩,r⟩
 |PJ lo hi=>obtain⟨t,u,v,e⟩:=x;exact⟨t,u,v,k _ _ (.inl rfl) e⟩
 |AK ob u ih=>obtain⟨e,q⟩:=x;exact⟨k _ _ (.inl rfl) e,ih q⟩
 |JW ps=>
  have e:h.get? a=some {cls:=.none,data:=.fields ps}:=x;show h'.get? a=some {cls:=.none,data:=.fields ps};exact k a _ (.inl rfl) e
 |met f y=>
  have e:h.get? a=some (zbF (.ref f) (.ref y)):=x;show h'.get? a=some (zbF (.ref f) (.ref y));exact k a _ (.inl rfl) e
 |ext φ=>obtain⟨p,⟨o,e⟩,st⟩:=x;exact⟨st _ _ p fun o q=>k _ _ (.inl rfl) q,⟨o,k _ _ (.inl rfl) e⟩,st⟩
theorem nv.lt(x:nv P w H h)(e:H a=some o):a<h.objs.size:=(x a o e).lt
theorem nv.fresh(x:nv P w H h)(e:h.objs.size<=a):H a=none:=by
 cases q:H a with
 |none=>rfl
 |some u=>exact absurd (Z7 (x.lt q) e) (zat _)
theorem nv.kept(x:nv P w H h)(k:∀b u,h.get? b=some u->h'.get? b=some u):nv P w H h':=fun a o e=>
 (x a o e).vR (fun b u _ q=>k b u q) (fun _ q=>q) fun _ _ q=>q
theorem nv.laid(x:nv P w H h)(k:∀b u,h.get? b=some u->h'.get? b=some u)(hp:h.objs.size<=a)(new:cJ P w (upd H a o) h' a o):nv P w (upd H a o) h':=fun b u e=>by
 have hn:=x.fresh hp;by_cases hb:b=a
 ·subst hb;rw[ao] at e;cases e;exact new
 ·rw[aR hb] at e;exact(x b u e).vR (fun c v _ q=>k c v q) (fun c q=>by rw[aR (au q hn)];exact q) fun c xs q=>by rw[aR (au q hn)];exact q
end
def Rd (H:Hp) (a:zcl) (u:HO):Prop:=H a=some u\/∃o,H a=some (.AK o u)
theorem Rd.ok{P:zcx}{w:zcn}{H:Hp}{h:Heap}{a:zcl}{u:HO}(r:Rd H a u)(x:nv P w H h):cJ P w H h a u:=by
 rcases r with r |⟨o,r⟩
 ·exact x a u r
 ·obtain⟨_,q⟩:=x a _ r;exact q
def Mq:Option HO->Prop
 |some (.lst _)=>True
 |some (.dK _)=>True
 |some (.dT _)=>True
 |some (.set _ _)=>True
 |some (.ins _ _ _)=>True
 |some (.ext _)=>True
 |_=>False
section
variable{P:zcx}{w:zcn}{H:Hp}{h h':Heap}{x e:zcl}{o':HO}
theorem nv.write(ok:nv P w H h)(mu:Mq (H x))(he:e=x\/H e=some (.own x))(k:∀b u,b≠e->h.get? b=some u->h'.get? b=some u)(LY:∃u,h'.get? e=some u)
 (new:cJ P w (upd H x o') h' x o'):nv P w (upd H x o') h':=fun b u q=>by
 have Mr:∀c y,H c=some (.own y)->c≠x:=fun c y r z=>by subst z;rw[r] at mu;exact mu
 have PK:∀c xs,H c=some (.tup xs)->c≠x:=fun c xs r z=>by subst z;rw[r] at mu;exact mu
 by_cases hb:b=x
 ·subst hb;rw[ao] at q;cases q;exact new
 ·rw[aR hb] at q;by_cases JX:b=e
  ·have q':H b=some (.own x):=by
    rcases he with z |z
    ·exact absurd (JX.trans z) hb
    ·rw[JX];exact z
   rw[q] at q';cases q';obtain⟨v,hv⟩:=LY;exact⟨v,by rw[JX];exact hv⟩
  ·refine(ok b u q).vR (fun c v hc r=>k c v ?_ r) (fun c r=>by rw[aR (Mr c b r)];exact r) fun c xs r=>by rw[aR (PK c xs r)];exact r
   rcases hc with rfl |hc
   ·exact JX
   ·rintro rfl
    rcases he with z |z
    ·exact Mr c b hc z
    ·rw[hc] at z;cases z;exact hb rfl
end
structure Un(fs ex:List zcl)(H H':Hp)(h h':Heap):Prop where
 keep:∀b o,h.get? b=some o->H b=none->b ∉ fs->b ∉ ex->h'.get? b=some o
 slot:∀b o,h.get? b=some o->H b=none->b∈fs->b ∉ ex->∃sl,h'.get? b=some {o with slots:=sl}
 free:∀b o,h.get? b=some o->H b=none->b ∉ ex->H' b=none
 there:∀b o,h.get? b=some o->b ∉ ex->∃o',h'.get? b=some o'
 vS:∀b xs,H b=some (.tup xs)->H' b=some (.tup xs)
 uD:∀b o u,H b=some (.AK o u)->H' b=some (.AK o u)
 vT:∀b ps,H b=some (.JW ps)->∃more,H' b=some (.JW (ps++more))
section
variable{fs Ms ex YV:List zcl}{H H1 H2:Hp}{h h1 h2 h':Heap}{a x e:zcl}{o:HO}
theorem Un.any(u:Un fs ex H H1 h h1){b:zcl}{ob:Obj}(q:h.get? b=some ob)(n:H b=none)(hx:b ∉ ex):∃sl,h1.get? b=some {ob with slots:=sl}:=by
 by_cases hb:b∈fs
 ·exact u.slot b ob q n hb hx
 ·exact⟨ob.slots,u.keep b ob q n hb hx⟩
theorem Un.kept(k:∀b u,h.get? b=some u->h'.get? b=some u):Un fs ex H H h h':=
 ⟨fun b ob q _ _ _=>k b ob q,fun b ob q _ _ _=>⟨ob.slots,k b ob q⟩,fun _ _ _ n _=>n,fun b ob q _=>⟨ob,k b ob q⟩,fun _ _ q=>q,fun _ _ _ q=>q,fun _ ps q=>⟨#[],by rw[q];simp⟩⟩
theorem Un.refl:Un fs ex H H h h:=Un.kept fun _ _ q=>q
theorem Un.laid(k:∀b u,h.get? b=some u->h'.get? b=some u)(hp:h.objs.size<=a)(hn:H a=none):Un fs ex H (upd H a o) h h' where
 keep:=fun b u q _ _ _=>k b u q
 slot:=fun b u q _ _ _=>⟨u.slots,k b u q⟩
 free:=fun b u q n _=>by rw[aR (Z3 (Z7 (Heap.lt_size q) hp))];exact n
 there:=fun b u q _=>⟨u,k b u q⟩
 vS:=fun b xs q=>by rw[aR (au q hn)];exact q
 uD:=fun b u xs q=>by rw[aR (au q hn)];exact q
 vT:=fun b ps q=>⟨#[],by rw[aR (au q hn),q];simp⟩
theorem Un.write(mu:Mq (H x))(he:e=x\/H e=some (.own x))(k:∀b u,b≠e->h.get? b=some u->h'.get? b=some u)(LY:∃u,h'.get? e=some u):Un fs ex H (upd H x o) h h':=by
 have hx:∀b,H b=none->b≠x:=fun b n z=>by subst z;rw[n] at mu;exact mu
 have hb:∀b,H b=none->b≠e:=fun b n z=>by
  subst z;rcases he with r |r
  ·exact hx b n r
  ·rw[n] at r;cases r
 have hm:∀b u,H b=some u->¬Mq (some u)->b≠x:=fun b u q nm z=>by subst z;rw[q] at mu;exact nm mu
 refine⟨fun b u q n _ _=>k b u (hb b n) q,fun b u q n _ _=>⟨u.slots,k b u (hb b n) q⟩,fun b u q n _=>by rw[aR (hx b n)];exact n,fun b u q _=>?_,
  fun b xs q=>by rw[aR (hm b _ q fun z=>z)];exact q,fun b u xs q=>by rw[aR (hm b _ q fun z=>z)];exact q,fun b ps q=>⟨#[],by rw[aR (hm b _ q fun z=>z),q];simp⟩⟩
 by_cases JX:b=e
 ·subst JX;exact LY
 ·exact⟨u,k b u JX q⟩
end
def OO (h:Heap) (H:Hp):List zcl:=(zaq h.objs.size).filter fun a=>(H a).isSome
def vU (h:Heap) (H:Hp):Heap:=PySem.W.hideAll h (OO h H)
theorem BY(h:Heap)(H:Hp):(vU h H).objs.size=h.objs.size:=PySem.W.hideAll_size _ _
theorem Dq{h:Heap}{H:Hp}{b:zcl}{o:Obj}(e:h.get? b=some o)(n:H b=none):(vU h H).get? b=some o:=
 PySem.W.hideAll_get _ e fun hm=>by
  have q:(H b).isSome=true:=(List.mem_filter.mp hm).2;rw[n] at q;simp at q
theorem GI{h:Heap}{H:Hp}{b:zcl}{o:Obj}(e:(vU h H).get? b=some o):h.get? b=some o/\H b=none:=by
 have e':h.get? b=some o:=PySem.W.of_hideAll (OO h H) e;refine⟨e',?_⟩;cases q:H b with
 |none=>rfl
 |some x=>
  have hm:b∈OO h H:=List.mem_filter.mpr ⟨List.mem_range.mpr (Heap.lt_size e'),by simp[q]⟩;have z:(vU h H).get? b=none:=PySem.W.hideAll_none (OO h H) hm;rw[z] at e;cases e
def GJ (g h:Heap) (L:zcl):List (zcl×Obj):=(zaq h.objs.size).filterMap fun a=>if a=L\/(g.get? a).isSome=true then none else (h.get? a).map fun o=>(a,o)
def rest (g h:Heap) (L d:zcl):List (zcl×Obj):=(GJ g h L).filter fun p=>decide (p.1≠d)
structure Mod(K:ZI)(mg:Str->Option zcm)(base:Heap):Prop where
 Mu:K.In base
 glob:base.Ns zcs mg
 blt:∃mb,base.Ns builtinsNs mb/\∀x:Str,x≠"__name__"->mb x=bootBuiltins x
 nolimit:base.NoLimit
structure Cx where
 prog:zcx
 w:zcn
 K:ZI
 mg:Str->Option zcm
 base:Heap
 A:zcw
 N:List Str
 s₀:zcv
 H₀:Hp
 env:Env
 outer:List Env
 stack:List Env
 ex:List zcl
 fn:Str->Bool
 calm:Bool
 pn:List (zcl×Obj)
 xe:zcm->zcv->Prop
def Dr (l:List Env):List zcl:=l.filterMap (·.frame)
abbrev Cx.fs (X:Cx):List zcl:=Dr X.outer
def Mv (sc:Scope) (x:Str):Prop:=sc.names.lookup x=some .local\/sc.names.lookup x=some .cell\/sc.names.lookup x=some .free
def Loc (sc:Scope) (x:Str):Prop:=sc.names.lookup x=some .local\/sc.names.lookup x=some .cell
def Look (env:Env) (h:Heap) (m:Str->Option zcm) (x:Str) (u:zcm):Prop:=
 (env.kindOf x=some .local/\m x=some u)\/((env.kindOf x=some .cell\/env.kindOf x=some .free)/\∃c,env.cells.lookup x=some c/\h.IsCell c (some u))
structure Cx.Ok(X:Cx):Prop where
 mod:Mod X.K X.mg X.base
 kind:X.env.scope.kind=.function
 glob:X.env.globals=zcs
 blt:X.env.builtins=builtinsNs
 above:X.s₀.heap.objs.size<=X.env.locals
 inj:∀x y c,X.env.cells.lookup x=some c->X.env.cells.lookup y=some c->x=y
 has:∀x,(X.env.kindOf x=some .cell\/X.env.kindOf x=some .free)->∃c,X.env.cells.lookup x=some c
 Mw:∀x c,X.fn x=true->X.env.cells.lookup x=some c->X.s₀.heap.objs.size<=c
 hd:X.calm=true->X.A.handled=none
 frames:X.A.frames=some X.stack
 OP:X.stack=X.outer\/(X.stack=X.env::X.outer/\X.env.frame=some X.env.locals)
 SF:∀b∈X.ex,b≠X.env.locals/\∀x c,X.env.cells.lookup x=some c->c≠b
 bs:∀b o,X.base.get? b=some o->X.s₀.heap.get? b=some o/\X.H₀ b=none
 GK:X.base.objs.size<=X.s₀.heap.objs.size
 Ds:∀b o,X.base.get? b=some o->b ∉ X.ex
 GL:∀b∈X.ex,b ∉ X.fs
 rJ:X.s₀.heap.FunFrames X.base X.outer
 JY:∀b∈X.fs,X.H₀ b=none
structure Inv(X:Cx)(pins:List (zcl×Obj))(σ:List (Option V))(H:Hp)(s:zcv):Prop where
 ok:X.Ok
 os:s.os=X.s₀.os
 bare:AllBare s.gens
 base:Un X.fs X.ex X.H₀ H X.s₀.heap s.heap
 loc:∃m,s.heap.Ns X.env.locals m/\∀(i:Nat) (x:Str) (v:V),X.N[i]?=some x->σ[i]?=some (some v)->Mv X.env.scope x->∃u,RelV v u/\Look X.env s.heap m x u
 cell:∀x c,X.env.cells.lookup x=some c->∃v,s.heap.IsCell c v
 free:H X.env.locals=none
 lg:∀x c,X.env.cells.lookup x=some c->H c=none
 pin:∀p∈X.pn++pins,s.heap.get? p.1=some p.2/\H p.1=none/\p.1≠X.env.locals/\p.1 ∉ X.fs/\∀v,p.2.data≠.cell v
 dg:nv X.prog X.w H s.heap
 len:σ.length=X.N.length
section
variable{X:Cx}{pins:List (zcl×Obj)}{σ:List (Option V)}{H H':Hp}{s:zcv}{h':Heap}
theorem Cx.Ok.PL(ok:X.Ok){b:zcl}{o:Obj}(e:X.base.get? b=some o):b ∉ X.fs:=fun hb=>by
 have:=(ok.rJ.mem hb).1;rw[e] at this;cases this
theorem Inv.bs(I:Inv X pins σ H s):∀b o,X.base.get? b=some o->s.heap.get? b=some o/\H b=none:=fun b o e=>
 ⟨I.base.keep b o (I.ok.bs b o e).1 (I.ok.bs b o e).2 (I.ok.PL e) (I.ok.Ds b o e),I.base.free b o (I.ok.bs b o e).1 (I.ok.bs b o e).2 (I.ok.Ds b o e)⟩
theorem Inv.bk(I:Inv X pins σ H s):∀b o,X.base.get? b=some o->s.heap.get? b=some o:=fun b o e=>(I.bs b o e).1
theorem Inv.mod(I:Inv X pins σ H s):Mod X.K X.mg X.base:=I.ok.mod
theorem Inv.rK(I:Inv X pins σ H s):X.K.In s.heap:=I.ok.mod.Mu.keeps I.bk
theorem Inv.lt(I:Inv X pins σ H s):X.env.locals<s.heap.objs.size:=let ⟨_,hn,_⟩:=I.loc;hn.lt
theorem Inv.sz(I:Inv X pins σ H s):X.s₀.heap.objs.size<=s.heap.objs.size:=Z5 I.ok.above (zbr I.lt)
theorem Inv.PN(I:Inv X pins σ H s){a:zcl}(h:s.heap.objs.size<=a):a ∉ X.fs:=fun hb=>by
 obtain⟨_,o,ho,_⟩:=I.ok.rJ.mem hb;exact absurd (Z7 (Heap.lt_size ho) (Z5 I.sz h)) (zat _)
theorem Inv.JZ(I:Inv X pins σ H s):∀x c,X.env.cells.lookup x=some c->c≠X.env.locals:=fun x c e z=>by
 obtain⟨v,o,ho,hd⟩:=I.cell x c e;obtain⟨m,⟨o',es,ep,J0,AL,_⟩,_⟩:=I.loc;rw[z,J0] at ho;cases ho;rw[AL] at hd;cases hd
theorem Inv.rJ(I:Inv X pins σ H s):s.heap.FunFrames X.base X.outer:=by
 have all:∀(l:List Env),(∀b∈Dr l,b∈X.fs)->X.s₀.heap.FunFrames X.base l->s.heap.FunFrames X.base l:=by
  intro l
  induction l with
  |nil=>intro _ _;trivial
  |cons env r ih=>
   intro hs hl;obtain⟨hk,⟨L,o,hf,hn,ho,hd⟩,hr⟩:=hl;have hL:L∈X.fs:=hs L (by unfold Dr;rw[zbw,hf];exact Z0);obtain⟨sl,e⟩:=I.base.slot L o ho (I.ok.JY L hL) hL fun z=>I.ok.GL L z hL;exact⟨hk,⟨L,_,hf,hn,e,hd⟩,ih (fun b hb=>hs b (by unfold Dr;rw[zbw,hf];exact ZV _ hb)) hr⟩
 exact all X.outer (fun _ hb=>hb) I.ok.rJ
theorem Inv.stack(I:Inv X pins σ H s):s.heap.FunFrames X.base X.stack:=by
 rcases I.ok.OP with e |⟨e,hf⟩
 ·rw[e];exact I.rJ
 ·rw[e];obtain⟨m,hn,_⟩:=I.loc;refine .cons (by rw[I.ok.kind];decide) hf hn ?_ I.rJ;exact Heap.get?_none_of_le (Z5 I.ok.GK I.ok.above)
theorem Inv.vV(I:Inv X pins σ H s):∀b∈Dr X.stack,b∈X.env.locals::X.fs:=fun b hb=>by
 rcases I.ok.OP with e |⟨e,hf⟩
 ·rw[e] at hb;exact ZV _ hb
 ·rw[e] at hb;unfold Dr at hb;rw[zbw,hf] at hb;exact hb
theorem Inv.AM(I:Inv X pins σ H s):∀b∈Dr X.stack,H b=none:=fun b hb=>by
 rcases ZS.mp (I.vV b hb) with e |hb
 ·rw[e];exact I.free
 ·obtain⟨_,o,ho,_⟩:=I.ok.rJ.mem hb;exact I.base.free b o ho (I.ok.JY b hb) fun z=>I.ok.GL b z hb
theorem Inv.step{g':Array GenState}{t':Nat}{d':Drawn}{ch:List zcl}(I:Inv X pins σ H s)
 (Gw:∀b∈ch,(b∈X.ex\/X.s₀.heap.objs.size<=b)/\b≠X.env.locals/\(∀x c,X.env.cells.lookup x=some c->c≠b)/\∀p∈X.pn++pins,p.1≠b)
 (keep:∀b o,b≠X.env.locals->b ∉ X.fs->b ∉ ch->s.heap.get? b=some o->H b=none->h'.get? b=some o)
 (slot:∀b o,b≠X.env.locals->b∈X.fs->b ∉ ch->s.heap.get? b=some o->H b=none->∃sl,h'.get? b=some {o with slots:=sl}) (free:∀b o,b ∉ ch->s.heap.get? b=some o->H b=none->H' b=none)
 (there:∀b o,b ∉ ch->s.heap.get? b=some o->∃o',h'.get? b=some o')
 (vS:∀b xs,H b=some (.tup xs)->H' b=some (.tup xs)) (uD:∀b o u,H b=some (.AK o u)->H' b=some (.AK o u)) (vT:∀b ps,H b=some (.JW ps)->∃more,H' b=some (.JW (ps++more)))
 (ns:∀m,s.heap.Ns X.env.locals m->h'.Ns X.env.locals m) (dg:nv X.prog X.w H' h') (hg:AllBare g') :
 Inv X pins σ H' {s with heap:=h',gens:=g',drawn:=d',toks:=t' }:=by
 have SG:∀b o,X.s₀.heap.get? b=some o->b≠X.env.locals:=fun b o e=>Z3 (Z7 (Heap.lt_size e) I.ok.above);have OQ:∀b o,X.s₀.heap.get? b=some o->b ∉ X.ex->b ∉ ch:=fun b o e hx hb=>by
  rcases(Gw b hb).1 with z |z
  ·exact hx z
  ·exact absurd (Z7 (Heap.lt_size e) z) (zat _)
 have cellK:∀x c,X.env.cells.lookup x=some c->∀v,s.heap.IsCell c v->h'.IsCell c v:=fun x c e v ⟨o,ho,hd⟩=>by
  have Mx:c ∉ ch:=fun z=>(Gw c z).2.2.1 x c e rfl;by_cases hc:c∈X.fs
  ·obtain⟨sl,q⟩:=slot c o (I.JZ x c e) hc Mx ho (I.lg x c e);exact⟨_,q,hd⟩
  ·exact⟨o,keep c o (I.JZ x c e) hc Mx ho (I.lg x c e),hd⟩
 refine⟨I.ok,I.os,hg,⟨fun b o e n hb hx=>?_,fun b o e n hb hx=>?_,fun b o e n hx=>?_,fun b o e hx=>?_,fun b xs e=>vS b xs (I.base.vS b xs e),fun b o xs e=>uD b o xs (I.base.uD b o xs e),fun b ps e=>?_⟩,?_,fun x c e=>?_,?_,fun x c e=>?_,fun p hp=>?_,dg,I.len⟩
 ·exact keep b o (SG b o e) hb (OQ b o e hx) (I.base.keep b o e n hb hx) (I.base.free b o e n hx)
 ·obtain⟨sl,e1⟩:=I.base.slot b o e n hb hx;obtain⟨Vy,e2⟩:=slot b _ (SG b o e) hb (OQ b o e hx) e1 (I.base.free b o e n hx);exact⟨Vy,e2⟩
 ·obtain⟨o',e1⟩:=I.base.there b o e hx;exact free b o' (OQ b o e hx) e1 (I.base.free b o e n hx)
 ·obtain⟨o',e1⟩:=I.base.there b o e hx;exact there b o' (OQ b o e hx) e1
 ·obtain⟨m1,e1⟩:=I.base.vT b ps e;obtain⟨m2,e2⟩:=vT b _ e1;exact⟨m1++m2,by rw[e2,Array.append_assoc]⟩
 ·obtain⟨m,hn,hl⟩:=I.loc;refine⟨m,ns m hn,fun i x v e1 e2 e3=>?_⟩;obtain⟨u,r,l⟩:=hl i x v e1 e2 e3;refine⟨u,r,?_⟩;rcases l with l |⟨k,c,e,z⟩
  ·exact .inl l
  ·exact .inr ⟨k,c,e,cellK x c e _ z⟩
 ·obtain⟨v,z⟩:=I.cell x c e;exact⟨v,cellK x c e v z⟩
 ·obtain⟨m,⟨o,_,_,ho,_⟩,_⟩:=I.loc;exact free _ o (fun z=>(Gw _ z).2.1 rfl) ho I.free
 ·obtain⟨v,o,ho,hd⟩:=I.cell x c e;exact free c o (fun z=>(Gw c z).2.2.1 x c e rfl) ho (I.lg x c e)
 ·obtain⟨e,n,ne,nf,d⟩:=I.pin p hp;have Mx:p.1 ∉ ch:=fun z=>(Gw p.1 z).2.2.2 p hp rfl;exact⟨keep p.1 p.2 ne nf Mx e n,free p.1 p.2 Mx e n,ne,nf,d⟩
theorem Inv.un{t':Nat}(I:Inv X pins σ H s)(u:Un X.fs [] H H' s.heap h')(dg:nv X.prog X.w H' h'):Inv X pins σ H' {s with heap:=h',toks:=t' }:=by
 obtain⟨m,⟨o,es,ep,ho,r⟩,_⟩:=id I.loc;obtain⟨sl,hL⟩:=u.any ho I.free (by simp);exact I.step (g':=s.gens) (d':=s.drawn) (ch:=[]) (fun _ z=>nomatch z) (fun b o _ hb _ e n=>u.keep b o e n hb (by simp)) (fun b o _ hb _ e n=>u.slot b o e n hb (by simp)) (fun b o _ e n=>u.free b o e n (by simp)) (fun b o _ e=>u.there b o e (by simp)) u.vS u.uD u.vT (fun m' hm=>by
  obtain⟨o',PQ,My,J0,r'⟩:=hm;rw[ho] at J0;cases J0;exact⟨_,PQ,My,hL,r'⟩) dg I.bare
theorem Inv.call{g':Array GenState}{t':Nat}{d':Drawn}{ch:List zcl}(I:Inv X pins σ H s)(u:Un (Dr X.stack) ch H H' s.heap h')(dg:nv X.prog X.w H' h')(hg:AllBare g')
 (Gw:∀b∈ch,(b∈X.ex\/X.s₀.heap.objs.size<=b)/\b≠X.env.locals/\(∀x c,X.env.cells.lookup x=some c->c≠b)/\∀p∈X.pn++pins,p.1≠b) :
 Inv X pins σ H' {s with heap:=h',gens:=g',drawn:=d',toks:=t' }:=by
 obtain⟨m,⟨o,es,ep,ho,r⟩,_⟩:=id I.loc;obtain⟨sl,hL⟩:=u.any ho I.free fun z=>(Gw _ z).2.1 rfl;exact I.step (ch:=ch) Gw (fun b o hL hb hc e n=>u.keep b o e n (fun z=>(ZS.mp (I.vV b z)).elim hL hb) hc) (fun b o _ _ hc e n=>u.any e n hc) (fun b o hc e n=>u.free b o e n hc) (fun b o hc e=>u.there b o e hc) u.vS u.uD u.vT (fun m' hm=>by
  obtain⟨o',PQ,My,J0,r'⟩:=hm;rw[ho] at J0;cases J0;exact⟨_,PQ,My,hL,r'⟩) dg hg
theorem Inv.turned{t':Nat}{it:zcl}(I:Inv X pins σ H s)(k:∀b o,b≠it->s.heap.get? b=some o->h'.get? b=some o)(hn:H it=none)(hL:it≠X.env.locals)
 (h1:it∈X.ex\/X.s₀.heap.objs.size<=it) (h2:∀x c,X.env.cells.lookup x=some c->c≠it) (h3:∀p∈X.pn++pins,p.1≠it):Inv X pins σ H {s with heap:=h',toks:=t' }:=by
 have Mz:∀b u,H b=some u->b≠it:=fun b u e z=>by rw[z,hn] at e;cases e
 refine I.step (g':=s.gens) (d':=s.drawn) (ch:=[it]) (fun b hb=>?_) (fun b o _ _ hc e _=>k b o (fun z=>hc (by simp[z])) e) (fun b o _ _ hc e _=>⟨o.slots,k b o (fun z=>hc (by simp[z])) e⟩) (fun _ _ _ _ n=>n)
  (fun b o hc e=>⟨o,k b o (fun z=>hc (by simp[z])) e⟩) (fun _ _ e=>e) (fun _ _ _ e=>e) (fun b ps e=>⟨#[],by rw[e];simp⟩) (fun m hm=>?_) (fun b u e=>?_) I.bare
 ·have e:b=it:=by simpa using hb
  subst e;exact⟨h1,hL,h2,h3⟩
 ·obtain⟨o,es,ep,ho,r⟩:=hm;exact⟨o,es,ep,k _ o (Ne.symm hL) ho,r⟩
 ·refine(I.dg b u e).vR (fun c v hc q=>k c v ?_ q) (fun _ q=>q) fun _ _ q=>q;rcases hc with z |z
  ·rw[z];exact Mz b u e
  ·exact Mz c _ z
theorem Inv.tok(I:Inv X pins σ H s)(t:Nat):Inv X pins σ H {s with toks:=t}:=I.un (h':=s.heap) (t':=t) Un.refl I.dg
theorem Inv.kept{t':Nat}(I:Inv X pins σ H s)(k:∀b u,s.heap.get? b=some u->h'.get? b=some u):Inv X pins σ H {s with heap:=h',toks:=t' }:=I.un (Un.kept k) (I.dg.kept k)
theorem Inv.laid{a:zcl}{o:HO}{t':Nat}(I:Inv X pins σ H s)(k:∀b u,s.heap.get? b=some u->h'.get? b=some u)(hp:s.heap.objs.size<=a)(new:cJ X.prog X.w (upd H a o) h' a o) :
 Inv X pins σ (upd H a o) {s with heap:=h',toks:=t' }:=I.un (Un.laid k hp (I.dg.fresh hp)) (I.dg.laid k hp new)
theorem Inv.write{x e:zcl}{o:HO}{t':Nat}(I:Inv X pins σ H s)(mu:Mq (H x))(he:e=x\/H e=some (.own x))(k:∀b u,b≠e->s.heap.get? b=some u->h'.get? b=some u)(LY:∃u,h'.get? e=some u)
 (new:cJ X.prog X.w (upd H x o) h' x o):Inv X pins σ (upd H x o) {s with heap:=h',toks:=t' }:=I.un (Un.write mu he k LY) (I.dg.write mu he k LY new)
theorem Inv.AN{AO:List (zcl×Obj)}(I:Inv X pins σ H s)(h:∀p∈AO,s.heap.get? p.1=some p.2/\H p.1=none/\p.1≠X.env.locals/\p.1 ∉ X.fs/\∀v,p.2.data≠.cell v):Inv X AO σ H s:=
 ⟨I.ok,I.os,I.bare,I.base,I.loc,I.cell,I.free,I.lg,fun p hp=>(Z1.mp hp).elim (fun z=>I.pin p (zab _ z)) (h p),I.dg,I.len⟩
theorem xH{N:List Str}(hN:N.Nodup){i j:Nat}{x:Str}(a:N[i]?=some x)(b:N[j]?=some x):i=j:=by
 obtain⟨h1,e1⟩:=ZR.mp a;obtain⟨h2,e2⟩:=ZR.mp b;exact(List.getElem_inj hN).mp (e1.trans e2.symm)
theorem u7{M:Model}{A:zcw}{E:zcm->zcv->Prop}{i:Nat}{x:Str}{v:V}{u:zcm}{Q:Unit->zcv->Prop}(I:Inv X pins σ H s)(hN:X.N.Nodup)(hi:X.N[i]?=some x)(hx:Loc X.env.scope x)(r:RelV v u)
 (h:∀s',Inv X pins (σ.set i (some v)) H s'->(∃a,Heap.SameBut a s.heap s'.heap/\(a=X.env.locals\/X.env.cells.lookup x=some a))->Q () s') (hf:X.fn x=true\/X.env.scope.names.lookup x=some .local:=by first |exact .inl rfl |exact .inr rfl |assumption):wpAny M A (storeName X.env x u) Q E s:=by
 obtain⟨m,hn,hl⟩:=id I.loc;have PR:(X.env.scope.kind==.class ||(X.env.scope.kind==.module&&X.env.locals != X.env.globals))=false:=by rw[I.ok.kind];rfl
 have MA:i<σ.length:=by rw[I.len];exact(ZR.mp hi).1
 have JZ:=I.JZ;have tracked:∀ {a:zcl} {h':Heap},(∃o,s.heap.get? a=some o/\H a=none)->Heap.SameBut a s.heap h'->nv X.prog X.w H h':=fun {a h'} ha hs b ob e=>by
  obtain⟨_,_,oH⟩:=ha;refine(I.dg b ob e).vR (fun c w' hc q=>(hs.2 c ?_).trans q) (fun _ q=>q) fun _ _ q=>q
  rintro rfl
  rcases hc with rfl |hc
  ·rw[oH] at e;cases e
  ·rw[oH] at hc;cases hc
 rcases hx with hk |hk
 ·refine wpAny_storeName_local hk hn (fun h' Vz hs=>?_) PR;obtain⟨oL,_,_,MB,_⟩:=id hn;refine h _ ⟨I.ok,I.os,I.bare,⟨fun b o e n hb hx=>?_,fun b o e n hb hx=>?_,I.base.free,fun b o e hx=>?_,I.base.vS,I.base.uD,I.base.vT⟩,⟨_,Vz,fun j y v' e1 e2 e3=>?_⟩,fun y c e=>?_,I.free,I.lg,fun p hp=>?_,tracked ⟨oL,MB,I.free⟩ hs,by simpa using I.len⟩ ⟨_,hs,.inl rfl⟩
  ·exact(hs.2 b (Z3 (Z7 (Heap.lt_size e) I.ok.above))).trans (I.base.keep b o e n hb hx)
  ·obtain⟨sl,e1⟩:=I.base.slot b o e n hb hx;exact⟨sl,(hs.2 b (Z3 (Z7 (Heap.lt_size e) I.ok.above))).trans e1⟩
  ·obtain⟨o',e1⟩:=I.base.there b o e hx;exact⟨o',(hs.2 b (Z3 (Z7 (Heap.lt_size e) I.ok.above))).trans e1⟩
  ·by_cases hj:j=i
   ·subst hj;rw[hi] at e1;cases e1;rw[zbn MA] at e2;cases e2;exact⟨u,r,.inl ⟨hk,by simp⟩⟩
   ·rw[zbs (Ne.symm hj)] at e2;obtain⟨u',r',q⟩:=hl j y v' e1 e2 e3;refine⟨u',r',?_⟩;rcases q with ⟨k,e⟩ |⟨k,c,e,z⟩
    ·refine .inl ⟨k,?_⟩;have:y≠x:=fun e=>hj (xH hN e1 (e▸hi));simp[this,e]
    ·exact .inr ⟨k,c,e,z.sameBut hs (JZ y c e)⟩
  ·obtain⟨w',z⟩:=I.cell y c e;exact⟨w',z.sameBut hs (JZ y c e)⟩
  ·obtain⟨e,n,ne,nf,d⟩:=I.pin p hp;exact⟨(hs.2 p.1 ne).trans e,n,ne,nf,d⟩
 ·have MC:X.fn x=true:=by
   rcases hf with z |z
   ·exact z
   ·rw[z] at hk;cases hk
  obtain⟨c,hc⟩:=I.ok.has x (.inl hk);obtain⟨w',z⟩:=I.cell x c hc;refine wpAny_storeName_cell I.ok.kind hk hc z (fun h' MD hs=>?_);obtain⟨oc,SH,PU⟩:=id z;refine h {s with heap:=h' } ⟨I.ok,I.os,I.bare,⟨fun b o e n hb hx=>?_,fun b o e n hb hx=>?_,I.base.free,fun b o e hx=>?_,I.base.vS,I.base.uD,I.base.vT⟩,⟨m,hn.sameBut hs (Ne.symm (JZ x c hc)),fun j y v' e1 e2 e3=>?_⟩,fun y c' e=>?_,I.free,I.lg,fun p hp=>?_,tracked ⟨oc,SH,I.lg x c hc⟩ hs,by simpa using I.len⟩ ⟨c,hs,.inr hc⟩
  ·exact(hs.2 b (Z3 (Z7 (Heap.lt_size e) (I.ok.Mw x c MC hc)))).trans (I.base.keep b o e n hb hx)
  ·obtain⟨sl,e1⟩:=I.base.slot b o e n hb hx;exact⟨sl,(hs.2 b (Z3 (Z7 (Heap.lt_size e) (I.ok.Mw x c MC hc)))).trans e1⟩
  ·obtain⟨o',e1⟩:=I.base.there b o e hx;exact⟨o',(hs.2 b (Z3 (Z7 (Heap.lt_size e) (I.ok.Mw x c MC hc)))).trans e1⟩
  ·by_cases hj:j=i
   ·subst hj;rw[hi] at e1;cases e1;rw[zbn MA] at e2;cases e2;exact⟨u,r,.inr ⟨.inl hk,c,hc,MD⟩⟩
   ·rw[zbs (Ne.symm hj)] at e2;obtain⟨u',r',q⟩:=hl j y v' e1 e2 e3;refine⟨u',r',?_⟩;rcases q with q |⟨k,c',e,z'⟩
    ·exact .inl q
    ·refine .inr ⟨k,c',e,z'.sameBut hs ?_⟩
     rintro rfl
     exact hj (xH hN e1 (I.ok.inj _ _ _ e hc▸hi))
  ·by_cases SI:c'=c
   ·subst SI;exact⟨_,MD⟩
   ·obtain⟨w2,z2⟩:=I.cell y c' e;exact⟨w2,z2.sameBut hs SI⟩
  ·obtain⟨e,n,ne,nf,d⟩:=I.pin p hp;refine⟨(hs.2 p.1 ?_).trans e,n,ne,nf,d⟩;intro q;rw[q,SH] at e;have q':oc=p.2:=zaf.inj e;exact d w' (by rw[<- q'];exact PU)
theorem xI{M:Model}{A:zcw}{E:zcm->zcv->Prop}{i:Nat}{x:Str}{v:V}{u:zcm}{Q:Unit->zcv->Prop}(I:Inv X pins σ H s)(hN:X.N.Nodup)(hi:X.N[i]?=some x)(hx:Loc X.env.scope x)(r:RelV v u)
 (h:∀s',Inv X pins (σ.set i (some v)) H s'->Q () s') (hf:X.fn x=true\/X.env.scope.names.lookup x=some .local:=by first |exact .inl rfl |exact .inr rfl |assumption):wpAny M A (storeName X.env x u) Q E s:=
 u7 I hN hi hx r (fun s' I' _=>h s' I') hf
theorem Inv.ME{s':zcv}{ch:List zcl}(I:Inv X pins σ H s)(ho:s'.os=s.os)(u:Un (Dr X.stack) ch H H' s.heap s'.heap)(dg:nv X.prog X.w H' s'.heap)(hg:AllBare s'.gens)
 (Gw:∀b∈ch,(b∈X.ex\/X.s₀.heap.objs.size<=b)/\b≠X.env.locals/\(∀x c,X.env.cells.lookup x=some c->c≠b)/\∀p∈X.pn++pins,p.1≠b):Inv X pins σ H' s':=by
 obtain⟨h',g',d',t',o'⟩:=s';have e:o'=s.os:=ho;subst e;exact I.call (g':=g') (t':=t') (d':=d') u dg hg Gw
end
abbrev XK:=zcm->Option zcl->Hp->Prop
abbrev St:=List (Option V)
abbrev VK:=V->Hp->Prop
abbrev TE:=St->Hp->VK->Prop
abbrev TT:=St->Hp->(Bool->Hp->Prop)->Prop
abbrev TA:=St->Hp->(List V->Hp->Prop)->Prop
structure Ends where
 nx:St->Hp->Prop
 rt:VK
 bk:St->Hp->Prop:=fun _ _=>False
 ct:St->Hp->Prop:=fun _ _=>False
abbrev TS:=Ends->St->Hp->Prop
def EP (X:Cx) (pins:List (zcl×Obj)) (σ:St) (Q:VK) (u:zcm) (s':zcv):Prop:=∃v H',Inv X pins σ H' s'/\RelV v u/\Q v H'
def TP (X:Cx) (pins:List (zcl×Obj)) (σ:St) (Q:Bool->Hp->Prop) (b:Bool) (s':zcv):Prop:=∃H',Inv X pins σ H' s'/\Q b H'
def AP (X:Cx) (pins:List (zcl×Obj)) (σ:St) (Q:List V->Hp->Prop) (us:List zcm) (s':zcv):Prop:=∃vs H',Inv X pins σ H' s'/\Vals vs us/\Q vs H'
def SP (X:Cx) (pins:List (zcl×Obj)) (D:Ends) (f:Flow) (s':zcv):Prop:=
 match f with
 |.next=>∃σ' H',Inv X pins σ' H' s'/\D.nx σ' H'
 |.brk=>∃σ' H',Inv X pins σ' H' s'/\D.bk σ' H'
 |.cont=>∃σ' H',Inv X pins σ' H' s'/\D.ct σ' H'
 |.ret u=>∃v σ' H',Inv X pins σ' H' s'/\RelV v u/\D.rt v H'
def PE (X:Cx) (e:Expr) (t:TE):Prop:=
 ∀(pins:List (zcl×Obj)) (s:zcv) (σ:St) (H:Hp) (Q:VK),Inv X pins σ H s->t σ H Q->wpAny (model X.prog X.w) X.A (eval e X.env) (EP X pins σ Q) X.xe s
def PT (X:Cx) (e:Expr) (t:TT):Prop:=
 ∀(pins:List (zcl×Obj)) (s:zcv) (σ:St) (H:Hp) (Q:Bool->Hp->Prop),Inv X pins σ H s->t σ H Q->wpAny (model X.prog X.w) X.A (isTrue e X.env (eval e X.env)) (TP X pins σ Q) X.xe s
def PW (X:Cx) (e:Expr) (t:TT):Prop:=
 ∀(whole:Sem zcm) (pins:List (zcl×Obj)) (s:zcv) (σ:St) (H:Hp) (Q:Bool->Hp->Prop),Inv X pins σ H s->t σ H Q->wpAny (model X.prog X.w) X.A (isTrue e X.env whole) (TP X pins σ Q) X.xe s
theorem PW.pt{X:Cx}{e:Expr}{t:TT}(h:PW X e t):PT X e t:=h _
def PA (X:Cx) (es:List Expr) (t:TA):Prop:=
 ∀(pos:Pos) (pins:List (zcl×Obj)) (s:zcv) (σ:St) (H:Hp) (Q:List V->Hp->Prop),Inv X pins σ H s->t σ H Q->wpAny (model X.prog X.w) X.A (spliced (backTo pos (zcr es X.env))) (AP X pins σ Q) X.xe s
def PS (X:Cx) (st:Stmt) (t:TS):Prop:=
 ∀(pins:List (zcl×Obj)) (s:zcv) (σ:St) (H:Hp) (D:Ends),Inv X pins σ H s->t D σ H->wpAny (model X.prog X.w) X.A (exec st X.env) (SP X pins D) X.xe s
def AQ (X:Cx) (st:List Stmt) (t:TS):Prop:=
 ∀(pins:List (zcl×Obj)) (s:zcv) (σ:St) (H:Hp) (D:Ends),Inv X pins σ H s->t D σ H->wpAny (model X.prog X.w) X.A (execs st X.env) (SP X pins D) X.xe s
theorem eP{α:Type}{t:Sem α}{Q Q':α->zcv->Prop}{M:Model}{A:zcw}{E:zcm->zcv->Prop}{s:zcv}(h:wpAny M A t Q E s)(hQ:∀a s,Q a s->Q' a s):wpAny M A t Q' E s:=wpAny_mono h hQ fun _ _ x=>x
section
variable{X:Cx}
theorem bin{a b:Expr}{ta tb:TE}(ha:PE X a ta)(hb:PE X b tb){pins:List (zcl×Obj)}{s:zcv}{σ:St}{H:Hp}{R:V->V->Hp->Prop}(I:Inv X pins σ H s)(h:ta σ H fun x H1=>tb σ H1 fun y H2=>R x y H2)
 {α:Type} {Q:α->zcv->Prop} {f:zcm->zcm->Sem α}
 (hf:∀v u s2 x y H2,Inv X pins σ H2 s2->RelV x v->RelV y u->R x y H2->wpAny (model X.prog X.w) X.A (f v u) Q X.xe s2) :
 wpAny (model X.prog X.w) X.A (eval a X.env) (fun v s₁=>wpAny (model X.prog X.w) X.A (eval b X.env) (fun u s₂=>wpAny (model X.prog X.w) X.A (f v u) Q X.xe s₂) X.xe s₁) X.xe s:=by
 refine eP (ha pins s σ H _ I h) fun v s1 zqz=>?_;obtain⟨x,H1,I1,r1,q1⟩:=zqz;refine eP (hb pins s1 σ H1 _ I1 q1) fun u s2 zqz=>?_;obtain⟨y,H2,I2,r2,q2⟩:=zqz;exact hf v u s2 x y H2 I2 r1 r2 q2
def SJ (Q:V->Prop):Option (Option V)->Prop
 |some (some v)=>Q v
 |_=>False
theorem J7{Q:V->Prop}:∀ {o:Option (Option V)},SJ Q o->∃v,o=some (some v)/\Q v
 |some (some v),h=>⟨v,rfl,h⟩
 |some none,h=>h.elim
 |none,h=>h.elim
def fj (i:Nat):TE:=fun σ H Q=>SJ (fun v=>Q v H) σ[i]?
def tC (v:V):TE:=fun _ H Q=>Q v H
theorem J8{i:Nat}{x:Str}{pos:Pos}(hN:X.N[i]?=some x)(hv:Mv X.env.scope x)(hd:(x==("__debug__":Str))=false:=by decide)(zj:(x==("__classdict__":Str))=false:=by decide):PE X (.Name x pos) (fj i):=by
 intro pins s σ H Q I h;obtain⟨v,e,h⟩:=J7 h;obtain⟨m,hn,hl⟩:=I.loc;obtain⟨u,r,l⟩:=hl i x v hN e hv;have fin:EP X pins σ Q u s:=⟨v,H,I,r,h⟩
 rcases l with ⟨hk,hm⟩ |⟨hk,c,hc,AR⟩
 ·exact wpAny_Name (wpAny_loadName_local I.ok.kind hk hn hm fin) hd
 ·rcases hk with hk |hk
  ·exact wpAny_Name (wpAny_loadName_cell I.ok.kind hk hc AR fin) hd
  ·exact wpAny_Name (wpAny_loadName_free I.ok.kind hk hc AR fin zj) hd
theorem ag{i j pos}:PE X (.Constant (.int i) j pos) (tC (.int i)):=fun _ _ _ H _ I h=>wpAny_Constant_int ⟨.int i,H,I.tok _,⟨_,rfl⟩,h⟩
theorem AS{b j pos}:PE X (.Constant (.bool b) j pos) (tC (.bl b)):=fun _ _ _ H _ I h=>Constant_bool ⟨.bl b,H,I,rfl,h⟩
theorem eQ{j pos}:PE X (.Constant .none j pos) (tC .b4):=fun _ _ _ H _ I h=>Constant_none ⟨.b4,H,I,rfl,h⟩
theorem aU{x j pos}:PE X (.Constant (.str x) j pos) (tC (.str x)):=fun _ _ _ H _ I h=>Calls.Constant_str ⟨.str x,H,I.tok _,⟨_,rfl⟩,h⟩
def Gl (X:Cx) (x:Str):Prop:=X.env.kindOf x=some .globalImplicit
theorem vW{E:zcm->zcv->Prop}{pins:List (zcl×Obj)}{s:zcv}{σ:St}{H:Hp}{x:Str}{u:zcm}{pos:Pos}{Q:zcm->zcv->Prop}(I:Inv X pins σ H s)(hg:Gl X x)(hm:X.mg x=some u)(h:Q u s)
 (hd:(x==("__debug__":Str))=false:=by decide):wpAny (model X.prog X.w) X.A (eval (.Name x pos) X.env) Q E s:=
 Calls.Name_function_global I.ok.kind hg (Calls.loadGlobal_global (by rw[I.ok.glob];exact I.mod.glob.keeps I.bk) hm h) hd
theorem nE{E:zcm->zcv->Prop}{pins:List (zcl×Obj)}{s:zcv}{σ:St}{H:Hp}{x:Str}{u:zcm}{pos:Pos}{Q:zcm->zcv->Prop}(I:Inv X pins σ H s)(hg:Gl X x)(hm:X.mg x=none)(hv:bootBuiltins x=some u)(h:Q u s)
 (hn:x≠"__name__":=by decide) (hd:(x==("__debug__":Str))=false:=by decide):wpAny (model X.prog X.w) X.A (eval (.Name x pos) X.env) Q E s:=by
 obtain⟨mb,h1,h2⟩:=I.mod.blt;exact Calls.Name_function_global I.ok.kind hg (Calls.loadGlobal_builtin (by rw[I.ok.glob];exact I.mod.glob.keeps I.bk) hm (by rw[I.ok.blt];exact h1.keeps I.bk) ((h2 x hn).trans hv) h) hd
theorem rZ{x:Str}{v:V}{u:zcm}{pos:Pos}(hg:Gl X x)(hm:X.mg x=some u)(r:RelV v u)(hd:(x==("__debug__":Str))=false:=by decide):PE X (.Name x pos) (tC v):=
 fun _ _ _ H _ I h=>vW I hg hm ⟨v,H,I,r,h⟩ hd
theorem vX{x:Str}{v:V}{u:zcm}{pos:Pos}(hg:Gl X x)(hm:X.mg x=none)(hv:bootBuiltins x=some u)(r:RelV v u)(hn:x≠"__name__":=by decide)(hd:(x==("__debug__":Str))=false:=by decide):PE X (.Name x pos) (tC v):=
 fun _ _ _ H _ I h=>nE I hg hm hv ⟨v,H,I,r,h⟩ hn hd
variable{a b:Expr}{ta tb:TE}{pos:Pos}
def tB (t:TE):TT:=fun σ H Q=>t σ H fun x H1=>∃c,x=.bl c/\Q c H1
theorem nF{e:Expr}{t:TE}(h:PE X e t)(he:∀whole,isTrue e X.env whole=(do let v <- whole;standAt e.pos;holding [v] (truthy v)):=by intro _;rfl):PT X e (tB t):=by
 intro pins s σ H Q I hw;refine isTrue_plain (eP (h pins s σ H _ I hw) fun v s1 zqz=>?_) (he _);obtain⟨x,H1,I1,r1,q1⟩:=zqz;obtain⟨d,rfl,q⟩:=q1;cases r1;exact wpAny_truthy_bool ⟨H1,I1,q⟩
variable{tA OR:TT}{rest:List Expr}
def J9 (t u:TT):TT:=fun σ H Q=>t σ H fun c H1=>if c=true then u σ H1 Q else Q false H1
def PV (t u:TT):TT:=fun σ H Q=>t σ H fun c H1=>if c=true then Q true H1 else u σ H1 Q
def MF (t:TT):TT:=fun σ H Q=>t σ H fun c H1=>Q (!c) H1
theorem pw_and1(ha:PT X a tA):PW X (.BoolOp .And [a] pos) tA:=by
 intro wh pins s σ H Q I h;refine isTrue_and (eP (ha pins s σ H Q I h) fun c s1 e=>?_);cases c with
 |true=>exact isTrue_and_nil e
 |false=>exact e
theorem pw_or1(ha:PT X a tA):PW X (.BoolOp .Or [a] pos) tA:=by
 intro wh pins s σ H Q I h;refine isTrue_or (eP (ha pins s σ H Q I h) fun c s1 e=>?_);cases c with
 |false=>exact isTrue_or_nil e
 |true=>exact e
theorem pw_and(ha:PT X a tA)(hb:PW X (.BoolOp .And (b::rest) pos) OR):PW X (.BoolOp .And (a::b::rest) pos) (J9 tA OR):=by
 intro wh pins s σ H Q I h;refine isTrue_and (eP (ha pins s σ H _ I h) fun c s1 zqz=>?_);obtain⟨H1,I1,q1⟩:=zqz;cases c with
 |true=>exact hb wh pins s1 σ H1 Q I1 q1
 |false=>exact⟨H1,I1,q1⟩
theorem pw_or(ha:PT X a tA)(hb:PW X (.BoolOp .Or (b::rest) pos) OR):PW X (.BoolOp .Or (a::b::rest) pos) (PV tA OR):=by
 intro wh pins s σ H Q I h;refine isTrue_or (eP (ha pins s σ H _ I h) fun c s1 zqz=>?_);obtain⟨H1,I1,q1⟩:=zqz;cases c with
 |true=>exact⟨H1,I1,q1⟩
 |false=>exact hb wh pins s1 σ H1 Q I1 q1
theorem Dt(ha:PT X a tA):PT X (.UnaryOp .Not a pos) (MF tA):=by
 intro pins s σ H Q I h;exact isTrue_not (ha pins s σ H (fun c H1=>Q (!c) H1) I h)
def Du (ta tb:TE):TE:=fun σ H Q=>ta σ H fun x H1=>∃c,x=.bl c/\if c=true then tb σ H1 Q else Q (.bl false) H1
def MG (ta tb:TE):TE:=fun σ H Q=>ta σ H fun x H1=>∃c,x=.bl c/\if c=true then Q (.bl true) H1 else tb σ H1 Q
def I0 (ta:TE):TE:=fun σ H Q=>ta σ H fun x H1=>∃c,x=.bl c/\Q (.bl (!c)) H1
theorem Ka{op}{t:TE}(h:PE X a t):PE X (.BoolOp op [a] pos) t:=fun pins s σ H Q I hw=>BoolOp_one (h pins s σ H Q I hw)
theorem Kb(ha:PE X a ta)(hb:PE X (.BoolOp .And (b::rest) pos) tb):PE X (.BoolOp .And (a::b::rest) pos) (Du ta tb):=by
 intro pins s σ H Q I h;refine BoolOp_and (eP (ha pins s σ H _ I h) fun v s1 zqz=>?_);obtain⟨x,H1,I1,r1,q1⟩:=zqz;obtain⟨c,rfl,q1⟩:=q1;cases r1;refine wpAny_truthy_bool ?_;cases c with
 |true=>exact hb pins s1 σ H1 Q I1 q1
 |false=>exact⟨.bl false,H1,I1,rfl,q1⟩
def SK (t:TT) (ta tb:TE):TE:=fun σ H Q=>t σ H fun c H1=>if c=true then ta σ H1 Q else tb σ H1 Q
end
def gQ (K:ZI) (H:Hp) (a:zcl) (xs:List V):Prop:=
 Rd H a (.lst xs)\/
  ∃(o:Obj) (a0:Array zcm) (n:Nat),K.lookup a=some o/\o.cls=.type "list"/\o.dict=none/\o.data=.seq a0 n/\a0.size<=zct/\Vals xs a0.toList
def dq (K:ZI) (H:Hp) (a:zcl) (xs:List V):Prop:=
 Rd H a (.tup xs)\/
  ∃(o:Obj) (a0:Array zcm) (n:Nat),K.lookup a=some o/\o.cls=.type "tuple"/\o.data=.seq a0 n/\a0.size<=zct/\Vals xs a0.toList
def PX:zcm->Option V
 |.none=>some .b4
 |.bool b=>some (.bl b)
 |.int i _=>some (.int i)
 |.str x _=>some (.str x)
 |.bytes b _=>some (.AJ b)
 |.float b _=>some (.JV b)
 |.ref a=>some (.ref a)
 |.type n=>some (.ty n)
 |_=>none
theorem RelV.abs{x:V}{u:zcm}(r:RelV x u):PX u=some x:=by
 cases x with
 |b4=>cases r;rfl
 |bl _=>cases r;rfl
 |int _=>obtain⟨t,rfl⟩:=r;rfl
 |str _=>obtain⟨t,rfl⟩:=r;rfl
 |AJ _=>obtain⟨t,rfl⟩:=r;rfl
 |JV _=>obtain⟨t,rfl⟩:=r;rfl
 |ref _=>cases r;rfl
 |ty _=>cases r;rfl
theorem RelV.inj{x y:V}{u:zcm}(r:RelV x u)(q:RelV y u):x=y:=zaf.inj (r.abs.symm.trans q.abs)
theorem Vals.inj:∀ {xs ys:List V} {us:List zcm},Vals xs us->Vals ys us->xs=ys
 |_,_,_,.nil,.nil=>rfl
 |_,_,_,.cons r t,.cons r' t'=>by rw[r.inj r',Vals.inj t t']
section
variable{X:Cx}{pins:List (zcl×Obj)}{σ:St}{H:Hp}{s:zcv}{a:zcl}{xs ys:List V}
theorem gQ.of{K:ZI}(h:H a=some (.lst xs)):gQ K H a xs:=.inl (.inl h)
theorem dq.of{K:ZI}(h:H a=some (.tup xs)):dq K H a xs:=.inl (.inl h)
theorem Inv.list(I:Inv X pins σ H s)(h:gQ X.K H a xs):∃a0:List zcm,Vals xs a0/\PlainL s.heap a a0.toArray/\xs.length<=zct:=by
 rcases h with h |⟨o,a0,n,hk,hc,hd,hs,hz,r⟩
 ·obtain⟨z,a0,n,r,e⟩:=h.ok I.dg;exact⟨a0,r,⟨_,n,e,rfl,rfl,rfl⟩,z⟩
 ·refine⟨a0.toList,r,⟨o,n,I.rK a o hk,hc,hd,by simpa using hs⟩,?_⟩;have e:=r.length;simp only[za4] at e;lia
theorem Inv.tuple(I:Inv X pins σ H s)(h:dq X.K H a xs):∃a0:List zcm,Vals xs a0/\IsTup s.heap a a0.toArray/\xs.length<=zct:=by
 rcases h with h |⟨o,a0,n,hk,hc,hs,hz,r⟩
 ·obtain⟨z,a0,r,p⟩:=h.ok I.dg;exact⟨a0,r,p,z⟩
 ·refine⟨a0.toList,r,⟨o,I.rK a o hk,hc,n,by simpa using hs⟩,?_⟩;have e:=r.length;simp only[za4] at e;lia
theorem Inv.xJ(I:Inv X pins σ H s)(h:gQ X.K H a xs)(h':gQ X.K H a ys):xs=ys:=by
 obtain⟨a0,r,⟨o,n,e,_,_,d⟩,_⟩:=I.list h;obtain⟨its',r',⟨o',n',e',_,_,d'⟩,_⟩:=I.list h';rw[e] at e';cases e';rw[d] at d'
 injection d' with d1 _
 have:a0=its':=by simpa using congrArg zce d1
 subst this;exact r.inj r'
theorem Inv.BZ(I:Inv X pins σ H s)(h:dq X.K H a xs)(h':dq X.K H a ys):xs=ys:=by
 obtain⟨a0,r,⟨o,e,_,n,d⟩,_⟩:=I.tuple h;obtain⟨its',r',⟨o',e',_,n',d'⟩,_⟩:=I.tuple h';rw[e] at e';cases e';rw[d] at d'
 injection d' with d1 _
 have:a0=its':=by simpa using congrArg zce d1
 subst this;exact r.inj r'
end
abbrev Cx.uG (X:Cx) (E:zcm->zcv->Prop):Cx:={X with xe:=E}
abbrev Cx.MH (X:Cx):Cx:=X.uG fun _ _=>False
theorem Cx.Ok.uG{X:Cx}(ok:X.Ok)(E:zcm->zcv->Prop):(X.uG E).Ok:=
 ⟨ok.mod,ok.kind,ok.glob,ok.blt,ok.above,ok.inj,ok.has,ok.Mw,ok.hd,ok.frames,ok.OP,ok.SF,ok.bs,ok.GK,ok.Ds,ok.GL,ok.rJ,ok.JY⟩
theorem Cx.Ok.lh{X:Cx}{E:zcm->zcv->Prop}(ok:(X.uG E).Ok):X.Ok:=
 ⟨ok.mod,ok.kind,ok.glob,ok.blt,ok.above,ok.inj,ok.has,ok.Mw,ok.hd,ok.frames,ok.OP,ok.SF,ok.bs,ok.GK,ok.Ds,ok.GL,ok.rJ,ok.JY⟩
section
variable{X:Cx}{pins:List (zcl×Obj)}{σ:St}{H:Hp}{s:zcv}{E:zcm->zcv->Prop}
theorem Inv.uG(I:Inv X pins σ H s)(E:zcm->zcv->Prop):Inv (X.uG E) pins σ H s:=⟨I.ok.uG E,I.os,I.bare,I.base,I.loc,I.cell,I.free,I.lg,I.pin,I.dg,I.len⟩
theorem Inv.lh(I:Inv (X.uG E) pins σ H s):Inv X pins σ H s:=⟨I.ok.lh,I.os,I.bare,I.base,I.loc,I.cell,I.free,I.lg,I.pin,I.dg,I.len⟩
theorem SP.lh{D:Ends}{f:Flow}{s':zcv}(h:SP (X.uG E) pins D f s'):SP X pins D f s':=by
 cases f with
 |next=>obtain⟨σ',H',I,q⟩:=h;exact⟨σ',H',I.lh,q⟩
 |brk=>obtain⟨σ',H',I,q⟩:=h;exact⟨σ',H',I.lh,q⟩
 |cont=>obtain⟨σ',H',I,q⟩:=h;exact⟨σ',H',I.lh,q⟩
 |ret u=>obtain⟨v,σ',H',I,r,q⟩:=h;exact⟨v,σ',H',I.lh,r,q⟩
theorem AQ.MH{st:List Stmt}{t:TS}(h:AQ X.MH st t):AQ X st t:=fun pins s σ H D I hw=>
 wpAny_mono (h pins s σ H D (I.uG _) hw) (fun _ _ q=>q.lh) fun _ _ z=>False.elim z
end
section
variable{X:Cx}{st:Stmt}{rest:List Stmt}{t u:TS}{e:Expr}{te:TE}{pos:Pos}
def Dv:TS:=fun D σ H=>D.nx σ H
def GN (t u:TS):TS:=fun D σ H=>t {D with nx:=u D} σ H
theorem aS:AQ X [] Dv:=fun _ _ σ H _ I h=>wpAny_execs_nil ⟨σ,H,I,h⟩
theorem ai(h1:PS X st t)(h2:AQ X rest u):AQ X (st::rest) (GN t u):=by
 intro pins s σ H D I h;refine wpAny_execs_cons (eP (h1 pins s σ H {D with nx:=u D} I h) fun f s1 q=>?_);cases f with
 |next=>
  obtain⟨σ',H',I',q⟩:=q;exact h2 pins s1 σ' H' D I' q
 |ret v=>exact q
 |brk=>exact q
 |cont=>exact q
theorem az(h1:PS X st t):AQ X [st] t:=by
 intro pins s σ H D I h;refine wpAny_execs_cons (eP (h1 pins s σ H D I h) fun f s1 q=>?_);cases f with
 |next=>exact wpAny_execs_nil q
 |ret v=>exact q
 |brk=>exact q
 |cont=>exact q
def Dw:TS:=fun D σ H=>D.bk σ H
def Ja:TS:=fun D σ H=>D.ct σ H
theorem Inv.quiet{pins:List (zcl×Obj)}{σ:St}{H:Hp}{s:zcv}(I:Inv X pins σ H s):interactive X.env=false:=by simp[interactive,I.ok.kind]
def Dx (te:TE):TS:=fun D σ H=>te σ H fun _ H1=>D.nx σ H1
theorem gR(he:PE X e te)(hs:swapsWith e none pos.line X.env=pure false:=by rfl):PS X (.Expr e pos) (Dx te):=by
 intro pins s σ H D I h;exact wpAny_Expr_any (eP (he pins s σ H _ I h) fun v s1 ⟨x,H1,I1,r1,q1⟩=>⟨σ,H1,I1,q1⟩) I.quiet hs
def Kc (te:TE):TS:=fun D σ H=>te σ H D.rt
theorem aM(he:PE X e te):PS X (.Return (some e) pos) (Kc te):=by
 intro pins s σ H D I h;exact wpAny_Return_some (eP (he pins s σ H _ I h) fun v s1 ⟨x,H1,I1,r1,q1⟩=>⟨x,σ,H1,I1,r1,q1⟩)
def Jb:TS:=fun D _ H=>D.rt .b4 H
def GO (c:TT) (t u:TS):TS:=fun D σ H=>c σ H fun b H1=>if b=true then t D σ H1 else u D σ H1
theorem bq{c:Expr}{a b:List Stmt}{tc:TT}(hc:PT X c tc)(ha:AQ X a t)(hb:AQ X b u):PS X (.If c a b pos) (GO tc t u):=by
 intro pins s σ H D I h;refine wpAny_If (eP (hc pins s σ H _ I h) fun d s1 zqz=>?_);obtain⟨H1,I1,q1⟩:=zqz;cases d with
 |true=>exact ha pins s1 σ H1 D I1 q1
 |false=>exact hb pins s1 σ H1 D I1 q1
end
abbrev TG:=V->St->Hp->(St->Hp->Prop)->Prop
abbrev GP:=List V->St->Hp->(St->Hp->Prop)->Prop
def PG (X:Cx) (target:Expr) (t:TG):Prop:=
 ∀(pins:List (zcl×Obj)) (s:zcv) (σ:St) (H:Hp) (v:V) (u:zcm) (Q:St->Hp->Prop),Inv X pins σ H s->RelV v u->t v σ H Q->
  wpAny (model X.prog X.w) X.A (assign target X.env u) (fun _ s'=>∃σ' H',Inv X pins σ' H' s'/\Q σ' H') X.xe s
def MJ (X:Cx) (ts:List Expr) (t:GP):Prop:=
 ∀(pins:List (zcl×Obj)) (s:zcv) (σ:St) (H:Hp) (vs:List V) (us:List zcm) (Q:St->Hp->Prop),Inv X pins σ H s->Vals vs us->t vs σ H Q->
  wpAny (model X.prog X.w) X.A (assignInOrder ((assignEach ts X.env).map (·.2)) us) (fun _ s'=>∃σ' H',Inv X pins σ' H' s'/\Q σ' H') X.xe s
abbrev Kd:=V->V->V->Hp->(Hp->Prop)->Prop
def MK (X:Cx) (t:Kd):Prop:=
 ∀(pins:List (zcl×Obj)) (s:zcv) (σ:St) (H:Hp) (o i v:V) (ov iv u:zcm) (Q:Hp->Prop),Inv X pins σ H s->RelV o ov->RelV i iv->RelV v u->t o i v H Q->
  wpAny (model X.prog X.w) X.A (setItem ov iv u) (fun _ s'=>∃H',Inv X pins σ H' s'/\Q H') X.xe s
abbrev VA:=V->V->Hp->VK->Prop
section
variable{X:Cx}{pos:Pos}
def eR (i:Nat):TG:=fun v σ H Q=>Q (σ.set i (some v)) H
theorem cT{i:Nat}{x:Str}(hN:X.N.Nodup)(hi:X.N[i]?=some x)(hx:Loc X.env.scope x)(hf:X.fn x=true\/X.env.scope.names.lookup x=some .local:=by first |exact .inl rfl |exact .inr rfl |assumption):PG X (.Name x pos) (eR i):=by
 intro pins s σ H v u Q I r h;exact wpAny_assign_Name (xI I hN hi hx r (fun s' I'=>⟨_,H,I',h⟩) hf)
def Ke:GP:=fun vs σ H Q=>vs=[]/\Q σ H
def Dy (t:TG) (u:GP):GP:=fun vs σ H Q=>∃v r,vs=v::r/\t v σ H fun σ' H'=>u r σ' H' Q
theorem se:MJ X [] Ke:=by
 intro pins s σ H vs us Q I r h;obtain⟨e,h⟩:=h;subst e;cases r;exact assignInOrder_nil ⟨σ,H,I,h⟩
theorem gY{e:Expr}{es:List Expr}{t:TG}{u:GP}(h1:PG X e t)(h2:MJ X es u)
 (hs:(assignEach (e::es) X.env).map (·.2)=assign e X.env::(assignEach es X.env).map (·.2):=by rfl):MJ X (e::es) (Dy t u):=by
 intro pins s σ H vs us Q I r h;obtain⟨v,vr,e1,h⟩:=h;subst e1;cases r with
 |cons r rr=>
  rw[hs];refine assignInOrder_cons (eP (h1 pins s σ H _ _ _ I r h) fun _ s1 zqz=>?_);obtain⟨σ1,H1,I1,q1⟩:=zqz;exact h2 pins s1 σ1 H1 _ _ Q I1 rr q1
def Kf (K:ZI) (n:Nat) (t:GP):TG:=fun v σ H Q=>∃a xs,v=.ref a/\dq K H a xs/\xs.length=n/\t xs σ H Q
theorem zz{es:List Expr}{k:Nat}{t:GP}{n:Nat}(hc:X.calm=true)(h:MJ X es t)
 (hn:(assignEach es X.env).length=n:=by rfl) (qd:(assignEach es X.env).findIdx? (·.1)=none:=by rfl):PG X (.Tuple es k pos) (Kf X.K n t):=by
 intro pins s σ H v u Q I r hw;obtain⟨a,xs,e1,hq,hl,hw⟩:=hw;subst e1;cases r;obtain⟨a0,rv,ht,hz⟩:=I.tuple hq;refine assign_Tuple_tuple (I.ok.hd hc) ht (by simp[hn,<- hl,rv.length]) qd fun h' hx=>?_;have I1:Inv X pins σ H {s with heap:=h' }:=I.kept (t':=s.toks) fun b o e=>hx b o (Z3 (Heap.lt_size e)) e;exact h pins _ σ H xs _ Q I1 (by simpa using rv) hw
def Kg (to ti:TE) (t:Kd):TG:=fun v σ H Q=>to σ H fun o H1=>ti σ H1 fun i H2=>t o i v H2 fun H3=>Q σ H3
theorem iz{o i:Expr}{to ti:TE}{t:Kd}(ho:PE X o to)(hi:PE X i ti)(hs:MK X t)
 (ha:∀v,assign (.Subscript o i pos) X.env v=(do
  let ov <- holding [v] (eval o X.env)
  let iv <- holding [v,ov] (eval i X.env)
  standAt pos
  holding [v,ov,iv] (setItem ov iv v)
  release [v,ov,iv] []):=by intro _;rfl):PG X (.Subscript o i pos) (Kg to ti t):=by
 intro pins s σ H v u Q I r h;rw[ha];refine zco (zcq (eP (ho pins s σ H _ I h) fun ov s1 zqz=>?_));obtain⟨x,H1,I1,r1,q1⟩:=zqz;refine zco (zcq (eP (hi pins s1 σ H1 _ I1 q1) fun iv s2 zqz=>?_));obtain⟨y,H2,I2,r2,q2⟩:=zqz;refine zco (wpAny_standAt (zco (zcq (eP (hs pins s2 σ H2 x y v ov iv u _ I2 r1 r2 r q2) fun _ s3 zqz=>?_))));obtain⟨H3,I3,q3⟩:=zqz;exact wpAny_release ⟨σ,H3,I3,q3⟩
def B0 (te:TE) (g:TG):TS:=fun D σ H=>te σ H fun x H1=>g x σ H1 D.nx
theorem fP{tg e:Expr}{te:TE}{g:TG}(he:PE X e te)(hg:PG X tg g)(hs:swapsWithSole [tg] e pos.line X.env=pure false:=by rfl)(hw:swappedStores [tg] e X.env=pure none:=by rfl)
 (h1:(assignEach [tg] X.env).map (·.2)=[assign tg X.env]:=by rfl):PS X (.Assign [tg] e pos) (B0 te g):=by
 intro pins s σ H D I h;refine wpAny_Assign_stores (eP (he pins s σ H _ I h) fun v s1 zqz=>?_) hs hw;obtain⟨x,H1,I1,r1,q1⟩:=zqz;rw[h1];exact eP (hg pins s1 σ H1 x v _ I1 r1 q1) fun _ s2 q=>q
theorem zF{i:Nat}{x:Str}{e:Expr}{te:TE}{pos':Pos}(hN:X.N.Nodup)(hi:X.N[i]?=some x)(hx:Loc X.env.scope x)(he:PE X e te)(hs:swapsWith e (some (.Name x pos')) pos.line X.env=pure false:=by rfl)(hf:X.fn x=true\/X.env.scope.names.lookup x=some .local:=by first |exact .inl rfl |exact .inr rfl |assumption) :
 PS X (.Assign [.Name x pos'] e pos) (B0 te (eR i)):=by
 intro pins s σ H D I h;refine wpAny_Assign_Name (eP (he pins s σ H _ I h) fun v s1 zqz=>?_) hs;obtain⟨y,H1,I1,r1,q1⟩:=zqz;exact xI I1 hN hi hx r1 (fun s2 I2=>⟨_,H1,I2,q1⟩) hf
def ML (i:Nat) (te:TE) (ti:VA):TS:=fun D σ H=>∃x,σ[i]?=some (some x)/\te σ H fun y H1=>ti x y H1 fun z H2=>D.nx (σ.set i (some z)) H2
end
section
variable{X:Cx}{pos:Pos}
def zG (c:TT) (tb:TS):TS:=fun D σ H=>∃W:Nat->St->Hp->Prop,(∃m,W m σ H)/\∀m σ H,W m σ H->
 c σ H fun b H1=>if b=true then ∃N:St->Hp->Prop,(∀σ' H',N σ' H'->∃m',m'<m/\W m' σ' H')/\tb {D with nx:=N,ct:=N,bk:=D.nx} σ H1 else D.nx σ H1
theorem xK{c:Expr}{body:List Stmt}{tc:TT}{tb:TS}(hp:PassesOwn (model X.prog X.w) X.A X.env X.xe)(hc:PT X c tc)(hb:AQ X body tb):PS X (.While c body [] pos) (zG tc tb):=by
 intro pins s σ H D I h;obtain⟨W,⟨m0,w0⟩,turn⟩:=h;refine wpAny_While (codeAny_whileLoop (fun n s'=>∃σ' H',Inv X pins σ' H' s'/\W n σ' H') ?_ m0 ⟨σ,H,I,w0⟩)
 rintro n s1 ⟨σ1,H1,I1,w1⟩
 refine wpAny_passesOwn hp (eP (hc pins s1 σ1 H1 _ I1 (turn n σ1 H1 w1)) fun b s2 zqz=>?_);obtain⟨H2,I2,q2⟩:=zqz;cases b with
 |true=>
  obtain⟨N,hN,q2⟩:=q2;rw[if_pos rfl];refine wpAny_passesOwn hp (eP (hb pins s2 σ1 H2 _ I2 q2) fun f s3 q3=>?_);cases f with
  |next=>
   obtain⟨σ3,H3,I3,n3⟩:=q3;obtain⟨m',hm,w3⟩:=hN σ3 H3 n3;exact⟨m',hm,σ3,H3,I3,w3⟩
  |cont=>
   obtain⟨σ3,H3,I3,n3⟩:=q3;obtain⟨m',hm,w3⟩:=hN σ3 H3 n3;exact⟨m',hm,σ3,H3,I3,w3⟩
  |brk=>exact q3
  |ret v=>exact q3
 |false=>
  rw[if_neg ZM];exact wpAny_execs_nil ⟨σ1,H2,I2,q2⟩
end
structure It where
 go:Nat->Hp->Prop
 B1:Nat->Hp->V->Hp->Prop
 stop:Nat->Hp->Prop
def oI (X:Cx) (pins:List (zcl×Obj)) (H:Hp) (b:zcl):Prop:=
 H b=none/\b≠X.env.locals/\b ∉ X.fs/\(b∈X.ex\/X.s₀.heap.objs.size<=b)/\(∀x c,X.env.cells.lookup x=some c->c≠b)/\∀p∈X.pn++pins,p.1≠b
theorem Inv.B2{X:Cx}{pins:List (zcl×Obj)}{σ:St}{H H':Hp}{s:zcv}{b:zcl}(I:Inv X pins σ H s)(hb:s.heap.objs.size<=b)(hn:H' b=none):oI X pins H' b:=by
 refine⟨hn,za1 (Z7 I.lt hb),I.PN hb,.inr (Z5 I.sz hb),fun x c e z=>?_,fun p hp z=>?_⟩
 ·obtain⟨v,q⟩:=I.cell x c e;exact absurd (Z7 q.lt (by rw[z];exact hb)) (zat _)
 ·exact absurd (Z7 (Heap.lt_size (I.pin p hp).1) (by rw[z];exact hb)) (zat _)
structure Turn(P:zcx)(w:zcn)(K:ZI)(tg:Expr)(J:It)(fp:List zcl)(it:zcl)(tn:Nat->Heap->Prop):Prop where
 mem:it∈fp
 obj:∀i h,tn i h->∀b∈fp,∃o,h.get? b=some o/\∀v,o.data≠.cell v
 keep:∀i h h',tn i h->(∀b∈fp,∀o,h.get? b=some o->h'.get? b=some o)->tn i h'
 item:∀(X:Cx),X.prog=P->X.w=w->X.K=K->X.calm=true->∀(i:Nat) (pins:List (zcl×Obj)) (s:zcv) (σ:St) (H:Hp) (E:zcm->zcv->Prop),Inv X pins σ H s->(∀b∈fp,oI X pins H b)->tn i s.heap->J.go i H->
  wpAny (model P w) X.A (pyNext (.ref it)) (fun r s1=>∃u,r=some u/\
   wpAny (model P w) X.A (letOwnedTupleGo tg (.ref it) u) (fun _ s2=>∃x H',Inv X pins σ H' s2/\RelV x u/\J.B1 i H x H'/\tn (i+1) s2.heap/\∀b∈fp,H' b=none) E s1) E s
 done:∀(X:Cx),X.prog=P->X.w=w->X.K=K->X.calm=true->∀(i:Nat) (pins:List (zcl×Obj)) (s:zcv) (σ:St) (H:Hp) (E:zcm->zcv->Prop),Inv X pins σ H s->(∀b∈fp,oI X pins H b)->tn i s.heap->J.stop i H->
  wpAny (model P w) X.A (pyNext (.ref it)) (fun r s1=>r=none/\Inv X pins σ H s1) E s
 self:∀(A:zcw) (i:Nat) (s:zcv) (Q:zcm->zcv->Prop) (E:zcm->zcv->Prop),tn i s.heap->Q (.ref it) s->wpAny (model P w) A (pyIter (.ref it)) Q E s
abbrev TI:=St->Hp->(It->Hp->Prop)->Prop
def SM (X:Cx) (pins:List (zcl×Obj)) (σ:St) (tg:Expr) (R:It->Hp->Prop) (PY:zcm) (s2:zcv):Prop:=
 ∃(it:zcl) (fp:List zcl) (tn:Nat->Heap->Prop) (J:It) (H':Hp),PY=.ref it/\Inv X pins σ H' s2/\Turn X.prog X.w X.K tg J fp it tn/\tn 0 s2.heap/\(∀b∈fp,oI X pins H' b)/\R J H'
def PI (X:Cx) (tg iter:Expr) (wi:TI):Prop:=
 ∀(pins:List (zcl×Obj)) (s:zcv) (σ:St) (H:Hp) (R:It->Hp->Prop),Inv X pins σ H s->wi σ H R->
  wpAny (model X.prog X.w) X.A (eval iter X.env) (fun v s1=>wpAny (model X.prog X.w) X.A (pyIter v) (SM X pins σ tg R) X.xe s1) X.xe s
theorem AU{M:Model}{A:zcw}{E:zcm->zcv->Prop}{s:zcv}{tg:Expr}{it:zcl}{u:zcm}{o:Obj}{n:String}{vs:Array zcm}{Q:Unit->zcv->Prop}(ho:s.heap.get? it=some o)(hc:o.cls=.type n)(hd:o.data=.fields vs)
 (hn:["enumerate", "zip", "dict_itemiterator", "dict_reverseitemiterator", "odict_iterator", "itertools.zip_longest", "itertools.pairwise"].contains n=false) (hQ:Q () s):wpAny M A (letOwnedTupleGo tg (.ref it) u) Q E s:=by
 unfold letOwnedTupleGo;cases tg<;>first
  |exact zcp hQ
  |(cases u<;>first
     |exact zcp hQ
     |(refine zco (wpAny_load ho ?_)
       rw[hc,hd];show wpAny M A (if (["enumerate", "zip", "dict_itemiterator", "dict_reverseitemiterator", "odict_iterator", "itertools.zip_longest", "itertools.pairwise"].contains n&&vs[0]?==some (rawInt _))=true then _ else _) Q E s;rw[if_neg (by intro h;rw[hn,Bool.false_and] at h;cases h)];exact zcp hQ))
def B3 (K:ZI) (a:zcl):It:=
 ⟨fun i H=>∃xs x,gQ K H a xs/\xs[i]?=some x,fun i H x H'=>H'=H/\∀xs,gQ K H a xs->xs[i]?=some x,fun i H=>∃xs,gQ K H a xs/\xs.length<=i⟩
def PZ (K:ZI) (a:zcl):It:=
 ⟨fun i H=>∃xs x,dq K H a xs/\xs[i]?=some x,fun i H x H'=>H'=H/\∀xs,dq K H a xs->xs[i]?=some x,fun i H=>∃xs,dq K H a xs/\xs.length<=i⟩
def Dz (lo:Int) (n:Nat):It:=⟨fun i _=>i<n,fun i H x H'=>H'=H/\x=.int (lo+i),fun i _=>n<=i⟩
theorem B4{P:zcx}{w:zcn}{K:ZI}{tg:Expr}(a it:zcl):Turn P w K tg (B3 K a) [it] it (fun i h=>h.IsListIter it a i) where
 mem:=by simp
 obj:=fun i h st b hb=>by
  have e:b=it:=by simpa using hb
  subst e;obtain⟨o,e,c,d⟩:=st;exact⟨o,e,fun v z=>by rw[d] at z;cases z⟩
 keep:=fun i h h' st k=>st.at fun o e=>k it (by simp) o e
 item:=by
  intro X hP hw hK hc i pins s σ H E I hf st hg;subst hP hw hK;obtain⟨xs,x,hq,hx⟩:=hg;obtain⟨a0,rv,p,hz⟩:=I.list hq;obtain⟨u,hu,ru⟩:=rv.get hx;obtain⟨f0,f1,f2,f3,f4,f5⟩:=hf it (by simp);refine wpAny_pyNext_list_item st p.isList (x:=u) (by simpa using hu) fun h' B5 sb=>?_;have I1:Inv X pins σ H {s with heap:=h' }:=I.turned (t':=s.toks) (fun b o hb e=>(sb.2 b hb).trans e) f0 f1 f3 f4 f5;obtain⟨o,e,c,d⟩:=id B5;exact⟨u,rfl,AU (s:={s with heap:=h' }) e c d (by decide) ⟨x,H,I1,ru,⟨rfl,fun ys hy=>by rw[I.xJ hy hq];exact hx⟩,B5,fun b hb=>(hf b hb).1⟩⟩
 done:=by
  intro X hP hw hK hc i pins s σ H E I hf st hg;subst hP hw hK;obtain⟨xs,hq,hx⟩:=hg;obtain⟨a0,rv,p,hz⟩:=I.list hq;obtain⟨f0,f1,f2,f3,f4,f5⟩:=hf it (by simp);have hl:=rv.length;exact wpAny_pyNext_list_end (I.ok.hd hc) st p.isList (by simp;lia) fun h' eb=>⟨rfl,I.turned (t':=s.toks) (fun b o hb e=>eb b o hb e) f0 f1 f3 f4 f5⟩
 self:=fun _ _ _ _ _ st h=>wpAny_pyIter_listiter st h
theorem zH{P:zcx}{w:zcn}{K:ZI}{tg:Expr}(a it:zcl):Turn P w K tg (PZ K a) [it] it (fun i h=>h.IsTupleIter it a i) where
 mem:=by simp
 obj:=fun i h st b hb=>by
  have e:b=it:=by simpa using hb
  subst e;obtain⟨o,e,c,d⟩:=st;exact⟨o,e,fun v z=>by rw[d] at z;cases z⟩
 keep:=fun i h h' st k=>st.at fun o e=>k it (by simp) o e
 item:=by
  intro X hP hw hK hc i pins s σ H E I hf st hg;subst hP hw hK;obtain⟨xs,x,hq,hx⟩:=hg;obtain⟨a0,rv,p,hz⟩:=I.tuple hq;obtain⟨u,hu,ru⟩:=rv.get hx;obtain⟨f0,f1,f2,f3,f4,f5⟩:=hf it (by simp);refine wpAny_pyNext_tuple_item st (show s.heap.IsTuple a a0.toArray from p) (x:=u) (by simpa using hu) fun h' B5 sb=>?_;have I1:Inv X pins σ H {s with heap:=h' }:=I.turned (t':=s.toks) (fun b o hb e=>(sb.2 b hb).trans e) f0 f1 f3 f4 f5;obtain⟨o,e,c,d⟩:=id B5;exact⟨u,rfl,AU (s:={s with heap:=h' }) e c d (by decide) ⟨x,H,I1,ru,⟨rfl,fun ys hy=>by rw[I.BZ hy hq];exact hx⟩,B5,fun b hb=>(hf b hb).1⟩⟩
 done:=by
  intro X hP hw hK hc i pins s σ H E I hf st hg;subst hP hw hK;obtain⟨xs,hq,hx⟩:=hg;obtain⟨a0,rv,p,hz⟩:=I.tuple hq;obtain⟨f0,f1,f2,f3,f4,f5⟩:=hf it (by simp);have hl:=rv.length;exact wpAny_pyNext_tuple_end (I.ok.hd hc) st (show s.heap.IsTuple a a0.toArray from p) (by simp;lia) fun h' eb=>⟨rfl,I.turned (t':=s.toks) (fun b o hb e=>eb b o hb e) f0 f1 f3 f4 f5⟩
 self:=fun _ _ _ _ _ st h=>wpAny_pyIter_tupleiter st h
theorem zI{P:zcx}{w:zcn}{K:ZI}{tg:Expr}(it:zcl)(lo:Int)(n:Nat):Turn P w K tg (Dz lo n) [it] it (fun i h=>IsRangeIter h it (lo+(i:Nat)*1) ((n:Int)-(i:Nat)) 1) where
 mem:=by simp
 obj:=fun i h st b hb=>by
  have e:b=it:=by simpa using hb
  subst e;exact⟨_,st,fun v z=>by
   have z':Data.fields _=Data.cell v:=z;cases z'⟩
 keep:=fun i h h' st k=>k it (by simp) _ st
 item:=by
  intro X hP hw hK hc i pins s σ H E I hf st hg;subst hP hw hK;obtain⟨f0,f1,f2,f3,f4,f5⟩:=hf it (by simp);have W:=Walks.range (prog:=X.prog) (w:=X.w) (I.ok.hd hc) it lo 1 n;refine W.item i s _ _ hg st fun v h' tk hv B5 kk=>?_;obtain⟨t,rfl⟩:=hv;have I1:Inv X pins σ H {s with heap:=h',toks:=tk}:=I.turned (fun b o hb e=>kk b o (by simpa using hb) e) f0 f1 f3 f4 f5;refine⟨_,rfl,AU (s:={s with heap:=h',toks:=tk}) (n:="range_iterator") B5 rfl rfl (by decide) ⟨.int (lo+i),H,I1,⟨t,?_⟩,⟨rfl,rfl⟩,B5,fun b hb=>(hf b hb).1⟩⟩;rw[zbX]
 done:=by
  intro X hP hw hK hc i pins s σ H E I hf st hg;subst hP hw hK;obtain⟨f0,f1,f2,f3,f4,f5⟩:=hf it (by simp);exact wpAny_pyNext_range_end (I.ok.hd hc) st (by have:n<=i:=hg;lia) fun h' eb=>⟨rfl,I.turned (t':=s.toks) (fun b o hb e=>eb b o hb e) f0 f1 f3 f4 f5⟩
 self:=fun _ _ _ _ _ st h=>wpAny_pyIter_rangeiter st h
section
variable{X:Cx}{tg:Expr}
def vb (K:ZI) (tl:TE):TI:=fun σ H R=>tl σ H fun x H1=>∃a,x=.ref a/\(∃xs,gQ K H1 a xs)/\R (B3 K a) H1
def MM (K:ZI) (tl:TE):TI:=fun σ H R=>tl σ H fun x H1=>∃a,x=.ref a/\(∃xs,dq K H1 a xs)/\R (PZ K a) H1
theorem cg{l:Expr}{tl:TE}(hl:PE X l tl):PI X tg l (vb X.K tl):=by
 intro pins s σ H R I h;refine eP (hl pins s σ H _ I h) fun v s1 zqz=>?_;obtain⟨x,H1,I1,r1,q1⟩:=zqz;obtain⟨a,e,⟨xs,hq⟩,q⟩:=q1;subst e;cases r1;obtain⟨a0,rv,p,hz⟩:=I1.list hq;refine wpAny_pyIter_list p.isList ?_;refine⟨s1.heap.objs.size,[s1.heap.objs.size],_,_,H1,rfl,I1.kept (t':=s1.toks) fun b o e=>Heap.get?_push_of_some _ e,B4 a _,⟨_,Heap.get?_push_size _ rfl,rfl,rfl⟩,fun b hb=>?_,q⟩;have e:b=s1.heap.objs.size:=by simpa using hb
 subst e;exact I1.B2 (ZQ _) (I1.dg.fresh (ZQ _))
theorem Kh{l:Expr}{tl:TE}(hl:PE X l tl):PI X tg l (MM X.K tl):=by
 intro pins s σ H R I h;refine eP (hl pins s σ H _ I h) fun v s1 zqz=>?_;obtain⟨x,H1,I1,r1,q1⟩:=zqz;obtain⟨a,e,⟨xs,hq⟩,q⟩:=q1;subst e;cases r1;obtain⟨a0,rv,p,hz⟩:=I1.tuple hq;refine wpAny_pyIter_tuple (show s1.heap.IsTuple a a0.toArray from p) ?_;refine⟨s1.heap.objs.size,[s1.heap.objs.size],_,_,H1,rfl,I1.kept (t':=s1.toks) fun b o e=>Heap.get?_push_of_some _ e,zH a _,⟨_,Heap.get?_push_size _ rfl,rfl,rfl⟩,fun b hb=>?_,q⟩;have e:b=s1.heap.objs.size:=by simpa using hb
 subst e;exact I1.B2 (ZQ _) (I1.dg.fresh (ZQ _))
theorem DA{pins:List (zcl×Obj)}{σ:St}{H:Hp}{s:zcv}{R:It->Hp->Prop}{E:zcm->zcv->Prop}{lo hi:Int}{t u v:Tok}{tk:Nat}(I:Inv X pins σ H s)(h1 : -(2 ^ 62)<=lo)(h2:lo<2 ^ 62)(h3 : -(2 ^ 62)<=hi)(h4:hi<2 ^ 62)
 (q:R (Dz lo (hi-lo).toNat) H):wpAny (model X.prog X.w) X.A (pyIter (.ref s.heap.objs.size)) (SM X pins σ tg R) E {s with heap:=s.heap.push {cls:=.type "range",data:=.fields #[.int lo t,.int hi u,.int 1 v]},toks:=tk}:=by
 refine wpAny_pyIter_range (IsRange.new ..) (small_one h1 h2 h3 h4) ?_;have I1:Inv X pins σ H {s with heap:=s.heap.push {cls:=.type "range",data:=.fields #[.int lo t,.int hi u,.int 1 v]},toks:=tk}:=I.kept fun b o e=>Heap.get?_push_of_some _ e;refine⟨(s.heap.push {cls:=.type "range",data:=.fields #[.int lo t,.int hi u,.int 1 v]}).objs.size,[(s.heap.push {cls:=.type "range",data:=.fields #[.int lo t,.int hi u,.int 1 v]}).objs.size],_,_,H,rfl,
  I1.kept (t':=tk) fun b o e=>Heap.get?_push_of_some _ e,zI _ lo (hi-lo).toNat,?_,fun b hb=>?_,q⟩
 ·have e1:lo+((0:Nat):Int)*1=lo:=by simp
  have e2:(((hi-lo).toNat:Nat):Int)-((0:Nat):Int)=Builtin.Range.rangeSize lo hi 1:=by rw[rangeSize_one];split<;>lia
  show IsRangeIter _ _ (lo+((0:Nat):Int)*1) ((((hi-lo).toNat:Nat):Int)-((0:Nat):Int)) 1;rw[e1,e2];exact Heap.get?_push_size _ rfl
 ·have e:b=(s.heap.push {cls:=.type "range",data:=.fields #[.int lo t,.int hi u,.int 1 v]}).objs.size:=by simpa using hb
  subst e;exact I1.B2 (ZQ _) (I1.dg.fresh (ZQ _))
def AV (ta:TA):TI:=fun σ H R=>ta σ H fun vs H1=>∃j:Int,vs=[.int j]/\-(2 ^ 62)<=j/\j<2 ^ 62/\R (Dz 0 j.toNat) H1
def Jc (ta:TA):TI:=fun σ H R=>ta σ H fun vs H1=>∃i j:Int,vs=[.int i,.int j]/\(-(2 ^ 62)<=i/\i<2 ^ 62/\-(2 ^ 62)<=j/\j<2 ^ 62)/\R (Dz i (j-i).toNat) H1
theorem qg{a:Expr}{ta:TA}{p pos:Pos}(hg:Gl X "range")(hm:X.mg "range"=none)(ha:PA X [a] ta)(hs:zcr [a] X.env=[(false,eval a X.env)]:=by rfl):PI X tg (.Call (.Name "range" p) [a] [] pos) (AV ta):=by
 intro pins s σ H R I h;refine Call_ (nE I hg hm boot_range (zaH (eP (ha pos pins s σ H _ I h) fun us s1 zqz=>?_) hs rfl));obtain⟨vs,H1,I1,r1,q1⟩:=zqz;obtain⟨j,e,q1,q2,q⟩:=q1;subst e;cases r1 with
 |cons r rr=>
  cases rr;obtain⟨t,rfl⟩:=r;exact call_range_1 (DA I1 (by lia) (by lia) q1 q2 (by simpa using q))
def GQ (wi:TI) (g:TG) (tb:TS):TS:=fun D σ H=>wi σ H fun J H1=>∃W:Nat->Nat->St->Hp->Prop,(∃m,W 0 m σ H1)/\∀i m σ H,W i m σ H->
 (J.stop i H/\D.nx σ H)\/(J.go i H/\∃N:St->Hp->Prop,(∀σ' H',N σ' H'->∃m',m'<m/\W (i+1) m' σ' H')/\∀x H',J.B1 i H x H'->g x σ H' fun σ2 H2=>tb {D with nx:=N,ct:=N,bk:=D.nx} σ2 H2)
def sR (fp:List zcl) (h:Heap):List (zcl×Obj):=fp.filterMap fun b=>(h.get? b).map fun o=>(b,o)
theorem ke{fp:List zcl}{h:Heap}{b:zcl}{o:Obj}(hb:b∈fp)(e:h.get? b=some o):(b,o)∈sR fp h:=List.mem_filterMap.mpr ⟨b,hb,by rw[e];rfl⟩
theorem B6{fp:List zcl}{h:Heap}{p:zcl×Obj}(hp:p∈sR fp h):p.1∈fp/\h.get? p.1=some p.2:=by
 obtain⟨b,hb,e⟩:=List.mem_filterMap.mp hp;cases q:h.get? b with
 |none=>rw[q] at e;cases e
 |some o=>
  rw[q] at e;have e':(b,o)=p:=zaf.inj e;subst e';exact⟨hb,q⟩
theorem Inv.pinned{pins:List (zcl×Obj)}{σ:St}{H:Hp}{s:zcv}{fp:List zcl}(I:Inv X pins σ H s)(hf:∀b∈fp,oI X pins H b)(ho:∀b∈fp,∃o,s.heap.get? b=some o/\∀v,o.data≠.cell v):Inv X (pins++sR fp s.heap) σ H s:=
 I.AN fun p hp=>(Z1.mp hp).elim (fun z=>I.pin p (Z4 _ z)) fun z=>by
  obtain⟨hb,e⟩:=B6 z;obtain⟨f0,f1,f2,_⟩:=hf p.1 hb;obtain⟨o,e',d⟩:=ho p.1 hb;rw[e] at e';cases e';exact⟨e,f0,f1,f2,d⟩
theorem Inv.oJ{pins pl:List (zcl×Obj)}{σ:St}{H:Hp}{s:zcv}(I:Inv X (pins++pl) σ H s):Inv X pins σ H s:=I.AN fun p hp=>I.pin p (Z4 _ (zab _ hp))
theorem kg{iter:Expr}{body:List Stmt}{wi:TI}{g:TG}{tb:TS}{pos:Pos}(hp:PassesOwn (model X.prog X.w) X.A X.env X.xe)(hc:X.calm=true)(hi:PI X tg iter wi)(hg:PG X tg g)(hb:AQ X body tb)
 (hs:∀x,foldedSetIterable iter X.env x=pure x:=by intro _;rfl):PS X (.For tg iter body [] pos) (GQ wi g tb):=by
 intro pins s σ H D I h;refine wpAny_For (eP (hi pins s σ H _ I h) fun v s1 h1=>eP h1 fun PY s2 h2=>?_) hs;obtain⟨it,fp,tn,J,H2,e,I2,T,vd,f2,W,⟨m0,w0⟩,turn⟩:=h2;subst e;have stat:∀ {H':Hp},(∀b∈fp,H' b=none)->∀b∈fp,oI X pins H' b:=fun hn b hb=>⟨hn b hb,(f2 b hb).2⟩
 refine codeAny_forLoop_any (fun n s'=>∃i σ' H',Inv X pins σ' H' s'/\tn i s'.heap/\(∀b∈fp,H' b=none)/\W i n σ' H') ?_ m0 ⟨0,σ,H2,I2,vd,fun b hb=>(f2 b hb).1,w0⟩
 rintro n s3 ⟨i,σ3,H3,I3,Jd,MN,w3⟩
 rcases turn i n σ3 H3 w3 with ⟨stop,qn⟩ |⟨go,N,hN,step⟩
 ·refine wpAny_passesOwn hp (eP (T.done X rfl rfl rfl hc i pins s3 σ3 H3 X.xe I3 (stat MN) Jd stop) fun r s4 zqz=>?_);obtain⟨hr,I4⟩:=zqz;subst hr;exact wpAny_execs_nil ⟨σ3,H3,I4,qn⟩
 ·refine wpAny_passesOwn hp (eP (T.item X rfl rfl rfl hc i pins s3 σ3 H3 X.xe I3 (stat MN) Jd go) fun r s4 zqz=>?_);obtain⟨u,hr,h4⟩:=zqz;subst hr;refine wpAny_passesOwn hp (eP h4 fun _ s5 zqz=>?_);obtain⟨x,H5,I5,r5,y5,Ki,P0⟩:=zqz;have Qa:=I5.pinned (stat P0) (T.obj _ _ Ki);refine wpAny_passesOwn hp (eP (hg _ s5 σ3 H5 x u _ Qa r5 (step x H5 y5)) fun _ s6 zqz=>?_);obtain⟨σ6,H6,I6,q6⟩:=zqz;refine wpAny_passesOwn hp (eP (hb _ s6 σ6 H6 _ I6 q6) fun f s7 q7=>?_);have again:∀ {σ7:St} {H7:Hp},Inv X (pins++sR fp s5.heap) σ7 H7 s7->N σ7 H7->∃m,m<n/\∃i σ' H',Inv X pins σ' H' s7/\tn i s7.heap/\(∀b∈fp,H' b=none)/\W i m σ' H':=fun {σ7 H7} I7 n7=>by
   obtain⟨m',hm,w7⟩:=hN σ7 H7 n7;refine⟨m',hm,i+1,σ7,H7,I7.oJ,T.keep _ _ _ Ki fun b hb o e=>(I7.pin (b,o) (Z4 _ (Z4 _ (ke hb e)))).1,fun b hb=>?_,w7⟩;obtain⟨o,e,d⟩:=T.obj _ _ Ki b hb;exact(I7.pin (b,o) (Z4 _ (Z4 _ (ke hb e)))).2.1
  cases f with
  |next=>obtain⟨σ7,H7,I7,n7⟩:=q7;exact again I7 n7
  |cont=>obtain⟨σ7,H7,I7,n7⟩:=q7;exact again I7 n7
  |brk=>obtain⟨σ7,H7,I7,q7⟩:=q7;exact⟨σ7,H7,I7.oJ,q7⟩
  |ret v=>obtain⟨x7,σ7,H7,I7,r7,q7⟩:=q7;exact⟨x7,σ7,H7,I7.oJ,r7,q7⟩
end
theorem lA{K:ZI}{a:zcl}{xs:List V}{g:TG}{tb:TS}{D:Ends}{σ:St}{H:Hp}(Pv:Nat->St->Hp->Prop)(h0:Pv 0 σ H)(hl:∀i σ H,i<=xs.length->Pv i σ H->gQ K H a xs)
 (hs:∀i x σ H,xs[i]?=some x->Pv i σ H->g x σ H fun σ2 H2=>tb {D with nx:=Pv (i+1),ct:=Pv (i+1),bk:=D.nx} σ2 H2) (hd:∀σ H,Pv xs.length σ H->D.nx σ H) :
 ∃W:Nat->Nat->St->Hp->Prop,(∃m,W 0 m σ H)/\∀i m σ H,W i m σ H->
  ((B3 K a).stop i H/\D.nx σ H)\/((B3 K a).go i H/\∃N:St->Hp->Prop,(∀σ' H',N σ' H'->∃m',m'<m/\W (i+1) m' σ' H')/\∀x H',(B3 K a).B1 i H x H'->g x σ H' fun σ2 H2=>tb {D with nx:=N,ct:=N,bk:=D.nx} σ2 H2):=by
 refine⟨fun i m σ H=>m=xs.length-i/\i<=xs.length/\Pv i σ H,⟨xs.length,by simp,zac _,h0⟩,?_⟩
 rintro i m σ H ⟨rfl,hi,p⟩
 have q:=hl i σ H hi p;by_cases uI:i<xs.length
 ·refine .inr ⟨⟨xs,xs[i],q,by simp[uI]⟩,Pv (i+1),fun σ' H' p'=>⟨xs.length-(i+1),by lia,rfl,uI,p'⟩,fun x H' y=>?_⟩;obtain⟨e,y⟩:=y;subst e;exact hs i x σ _ (y xs q) p
 ·have e:i=xs.length:=by lia
  subst e;exact .inl ⟨⟨xs,q,ZQ _⟩,hd σ H p⟩
theorem ve{lo:Int}{n:Nat}{g:TG}{tb:TS}{D:Ends}{σ:St}{H:Hp}(Pv:Nat->St->Hp->Prop)(h0:Pv 0 σ H)
 (hs:∀i σ H,i<n->Pv i σ H->g (.int (lo+i)) σ H fun σ2 H2=>tb {D with nx:=Pv (i+1),ct:=Pv (i+1),bk:=D.nx} σ2 H2) (hd:∀σ H,Pv n σ H->D.nx σ H) :
 ∃W:Nat->Nat->St->Hp->Prop,(∃m,W 0 m σ H)/\∀i m σ H,W i m σ H->
  ((Dz lo n).stop i H/\D.nx σ H)\/((Dz lo n).go i H/\∃N:St->Hp->Prop,(∀σ' H',N σ' H'->∃m',m'<m/\W (i+1) m' σ' H')/\∀x H',(Dz lo n).B1 i H x H'->g x σ H' fun σ2 H2=>tb {D with nx:=N,ct:=N,bk:=D.nx} σ2 H2):=by
 refine⟨fun i m σ H=>m=n-i/\i<=n/\Pv i σ H,⟨n,by simp,zac _,h0⟩,?_⟩
 rintro i m σ H ⟨rfl,hi,p⟩
 by_cases uI:i<n
 ·refine .inr ⟨uI,Pv (i+1),fun σ' H' p'=>⟨n-(i+1),by lia,rfl,uI,p'⟩,fun x H' y=>?_⟩;obtain⟨e,y⟩:=y;subst e y;exact hs i σ _ uI p
 ·have e:i=n:=by lia
  subst e;exact .inl ⟨ZQ _,hd σ H p⟩
abbrev R2:=V->V->Hp->VK->Prop
def oF (X:Cx) (f:zcm->zcm->Sem zcm) (r:R2):Prop:=
 ∀(pins:List (zcl×Obj)) (s:zcv) (σ:St) (H:Hp) (x y:V) (v u:zcm) (Q:VK),Inv X pins σ H s->RelV x v->RelV y u->r x y H Q->
  wpAny (model X.prog X.w) X.A (f v u) (EP X pins σ Q) X.xe s
def Qb (X:Cx) (f:zcm->Sem zcm) (r:V->Hp->VK->Prop):Prop:=
 ∀(pins:List (zcl×Obj)) (s:zcv) (σ:St) (H:Hp) (x:V) (v:zcm) (Q:VK),Inv X pins σ H s->RelV x v->r x H Q->
  wpAny (model X.prog X.w) X.A (f v) (EP X pins σ Q) X.xe s
def lC (X:Cx) (f:zcm) (r:List V->Hp->VK->Prop):Prop:=
 ∀(pins:List (zcl×Obj)) (s:zcv) (σ:St) (H:Hp) (xs:List V) (us:List zcm) (Q:VK),Inv X pins σ H s->Vals xs us->r xs H Q->
  wpAny (model X.prog X.w) X.A (call f us) (EP X pins σ Q) X.xe s
def Qc (X:Cx) (r:V->Hp->(Bool->Hp->Prop)->Prop):Prop:=
 ∀(pins:List (zcl×Obj)) (s:zcv) (σ:St) (H:Hp) (x:V) (v:zcm) (Q:Bool->Hp->Prop),Inv X pins σ H s->RelV x v->r x H Q->
  wpAny (model X.prog X.w) X.A (truthy v) (TP X pins σ Q) X.xe s
def LZ (r:R2) (ta tb:TE):TE:=fun σ H Q=>ta σ H fun x H1=>tb σ H1 fun y H2=>r x y H2 Q
def Qd (r:V->Hp->VK->Prop) (ta:TE):TE:=fun σ H Q=>ta σ H fun x H1=>r x H1 Q
def rI (C:Int->Int->Prop) (g:Int->Int->V):R2:=fun x y H Q=>∃i j,x=.int i/\y=.int j/\C i j/\Q (g i j) H
def GR (g:Int->Int->V):R2:=fun x y H Q=>∃i j,x=.int i/\y=.int j/\Q (g i j) H
def rU (g:Int->V):V->Hp->VK->Prop:=fun x H Q=>∃i,x=.int i/\Q (g i) H
section
variable{X:Cx}{a b c:Expr}{ta tb tc:TE}{pos:Pos}
theorem Kj(ha:PE X a ta)(hb:PE X b tb){pins:List (zcl×Obj)}{s:zcv}{σ:St}{H:Hp}{R:V->V->Hp->Prop}(I:Inv X pins σ H s)
 (h:ta σ H fun x H1=>tb σ H1 fun y H2=>R x y H2) {Q:zcm->zcv->Prop} {f:zcm->zcm->Sem zcm}
 (hf:∀v u s2 x y H2,Inv X pins σ H2 s2->RelV x v->RelV y u->R x y H2->wpAny (model X.prog X.w) X.A (f v u) Q X.xe s2) :
 wpAny (model X.prog X.w) X.A (eval a X.env) (fun v s₁=>wpAny (model X.prog X.w) X.A (eval b X.env) (fun u s₂=>wpAny (model X.prog X.w) X.A (f v u) Q X.xe s₂) X.xe s₁) X.xe s:=by
 refine eP (ha pins s σ H _ I h) fun v s1 zqz=>?_;obtain⟨x,H1,I1,r1,q1⟩:=zqz;refine eP (hb pins s1 σ H1 _ I1 q1) fun u s2 zqz=>?_;obtain⟨y,H2,I2,r2,q2⟩:=zqz;exact hf v u s2 x y H2 I2 r1 r2 q2
theorem a7{op:Operator}{r:R2}(ho:oF X (binaryOp op) r)(ha:PE X a ta)(hb:PE X b tb):PE X (.BinOp a op b pos) (LZ r ta tb):=by
 intro pins s σ H Q I h;exact wpAny_BinOp (Kj ha hb I h fun v u s2 x y H2 I2 rx ry q=>ho pins s2 σ H2 x y v u Q I2 rx ry q)
theorem MO{op:UnaryOp}{r:V->Hp->VK->Prop}(ho:Qb X (unaryOp op) r)(ha:PE X a ta):PE X (.UnaryOp op a pos) (Qd r ta):=by
 intro pins s σ H Q I h;exact UnaryOp_ (eP (ha pins s σ H _ I h) fun v s1 ⟨x,H1,I1,r1,q1⟩=>ho pins s1 σ H1 x v Q I1 r1 q1)
theorem MP{f:zcm->zcm->Sem zcm}{C:Int->Int->Prop}{g:Int->Int->Int}
 (rule:∀(i j:Int) (t u:Tok) (s:zcv) (Q:zcm->zcv->Prop) (E:zcm->zcv->Prop),C i j->Q (.int (g i j) s.toks) {s with toks:=s.toks+1}->wpAny (model X.prog X.w) X.A (f (.int i t) (.int j u)) Q E s) :
 oF X f (rI C fun i j=>.int (g i j)):=by
 intro pins s σ H x y v u Q I rx ry h;obtain⟨i,j,rfl,rfl,hc,q⟩:=h;obtain⟨t,rfl⟩:=rx;obtain⟨t',rfl⟩:=ry;exact rule i j t t' s _ _ hc ⟨.int (g i j),H,I.tok _,⟨_,rfl⟩,q⟩
theorem MQ{f:zcm->zcm->Sem zcm}{g:Int->Int->Int}
 (rule:∀(i j:Int) (t u:Tok) (s:zcv) (Q:zcm->zcv->Prop) (E:zcm->zcv->Prop),Q (.int (g i j) s.toks) {s with toks:=s.toks+1}->wpAny (model X.prog X.w) X.A (f (.int i t) (.int j u)) Q E s) :
 oF X f (GR fun i j=>.int (g i j)):=by
 intro pins s σ H x y v u Q I rx ry h;obtain⟨i,j,rfl,rfl,q⟩:=h;obtain⟨t,rfl⟩:=rx;obtain⟨t',rfl⟩:=ry;exact rule i j t t' s _ _ ⟨.int (g i j),H,I.tok _,⟨_,rfl⟩,q⟩
theorem Kk{f:zcm->zcm->Sem zcm}{g:Int->Int->Bool}
 (rule:∀(i j:Int) (t u:Tok) (s:zcv) (Q:zcm->zcv->Prop) (E:zcm->zcv->Prop),Q (.bool (g i j)) s->wpAny (model X.prog X.w) X.A (f (.int i t) (.int j u)) Q E s) :
 oF X f (GR fun i j=>.bl (g i j)):=by
 intro pins s σ H x y v u Q I rx ry h;obtain⟨i,j,rfl,rfl,q⟩:=h;obtain⟨t,rfl⟩:=rx;obtain⟨t',rfl⟩:=ry;exact rule i j t t' s _ _ ⟨.bl (g i j),H,I,rfl,q⟩
def MR (i j:Int):Prop:=0<j/\j<1073741824
def MS (i j:Int):Prop:=0<=j/\j<=1000000/\i.natAbs<2 ^ 64
def B7 (i j:Int):Prop:=(-(2 ^ 64)<i/\i<2 ^ 64)\/(-(2 ^ 64)<j/\j<2 ^ 64)
theorem B7.ok{i j:Int}(h:B7 i j):IntMulOk i j:=by
 rcases h with ⟨h1,h2⟩ |⟨h1,h2⟩
 ·exact .of_left (intBits_le_64 h1 h2)
 ·exact .of_right (intBits_le_64 h1 h2)
theorem fQ:oF X (binaryOp .Add) (GR fun i j=>.int (i+j)):=MQ fun _ _ _ _ _ _ _ q=>add_int q
theorem qh:oF X (binaryOp .Sub) (GR fun i j=>.int (i-j)):=MQ fun _ _ _ _ _ _ _ q=>sub_int q
theorem lD:oF X (binaryOp .Mult) (rI B7 fun i j=>.int (i*j)):=MP fun _ _ _ _ _ _ _ hc q=>mul_int q hc.ok
theorem oK:oF X (binaryOp .FloorDiv) (rI MR fun i j=>.int (i/j)):=MP fun i j _ _ _ _ _ hc q=>by
 have h1:(0:Int)<j:=hc.1;have h2:j<1073741824:=hc.2;exact floordiv_int (by lia) (by rw[Int.fdiv_eq_ediv_of_nonneg i (by lia)];exact q) (.inl (PyProof.noPylong_small (by lia)))
theorem gM:oF X (binaryOp .Mod) (rI (fun _ j=>0<j) fun i j=>.int (i%j)):=MP fun i j _ _ _ _ _ hc q=>by
 have h1:(0:Int)<j:=hc;exact mod_int' (by lia) (by rw[Int.fmod_eq_emod_of_nonneg i (by lia)];exact q)
theorem zJ:oF X (binaryOp .Pow) (rI MS fun i j=>.int (i ^ j.toNat)):=MP fun _ _ _ _ _ _ _ hc q=>pow_int_small hc.1 hc.2.1 hc.2.2 q
theorem VB{f:zcm->Sem zcm}{g:Int->Int}
 (rule:∀(i:Int) (t:Tok) (s:zcv) (Q:zcm->zcv->Prop) (E:zcm->zcv->Prop),Q (.int (g i) s.toks) {s with toks:=s.toks+1}->wpAny (model X.prog X.w) X.A (f (.int i t)) Q E s) :
 Qb X f (rU fun i=>.int (g i)):=by
 intro pins s σ H x v Q I rx h;obtain⟨i,rfl,q⟩:=h;obtain⟨t,rfl⟩:=rx;exact rule i t s _ _ ⟨.int (g i),H,I.tok _,⟨_,rfl⟩,q⟩
theorem Kl:Qb X (unaryOp .USub) (rU fun i=>.int (-i)):=VB fun _ _ _ _ _ q=>neg_int q
end
def zK:V->V->Bool
 |.b4,.b4=>true |.b4,.int _=>true |.int _,.b4=>true |.b4,.bl _=>true |.bl _,.b4=>true |.b4,.str _=>true |.str _,.b4=>true
 |.int _,.int _=>true |.bl _,.bl _=>true |.str _,.str _=>true |.AJ _,.AJ _=>true
 |.int _,.str _=>true |.str _,.int _=>true |.bl _,.str _=>true |.str _,.bl _=>true
 |_,_=>false
def SN:R2:=fun x y H Q=>zK x y=true/\Q (.bl (decide (x=y))) H
def SO:R2:=fun x y H Q=>zK x y=true/\Q (.bl (!decide (x=y))) H
theorem AW{i j:Int}:decide (V.int i=V.int j)=(i==j):=by
 rw[zbt];simp
theorem DB{i j:Bool}:decide (V.bl i=V.bl j)=(i==j):=by
 rw[zbt];simp
theorem AX{i j:Str}:decide (V.str i=V.str j)=(i==j):=by
 rw[zbt];simp
theorem AY{i j:Array UInt8}:decide (V.AJ i=V.AJ j)=(i.toList==j.toList):=by
 rw[zbt];cases i;cases j;simp
section
variable{X:Cx}{a b c:Expr}{ta tb tc:TE}{pos:Pos}
theorem bP{pins:List (zcl×Obj)}{σ:St}{H:Hp}{s:zcv}{Q:VK}{k k':Bool}(I:Inv X pins σ H s)(q:Q (.bl k) H)(e:k=k'):EP X pins σ Q (.bool k') s:=by
 subst e;exact⟨.bl k,H,I,rfl,q⟩
theorem bR:oF X (compareOp .Eq) SN:=by
 intro pins s σ H x y v u Q I rx ry h;obtain⟨hs,q⟩:=h;cases x with
 |b4=>
  cases rx;cases y with
  |b4=>cases ry;exact PySem.EqNone.eq_none_none (bP I q (by simp))
  |bl j=>cases ry;exact PySem.EqNone.eq_none_bool (bP I q (by simp))
  |int j=>obtain⟨t',rfl⟩:=ry;exact PySem.EqNone.eq_none_int (bP I q (by simp))
  |str j=>obtain⟨t',rfl⟩:=ry;exact PySem.EqNone.eq_none_str (bP I q (by simp))
  |_=>exact absurd (show false=true from hs) ZM
 |bl i=>
  cases rx;cases y with
  |b4=>cases ry;exact PySem.EqNone.eq_bool_none (bP I q (by simp))
  |bl j=>cases ry;exact eq_bool (bP I q DB)
  |str j=>obtain⟨t',rfl⟩:=ry;exact PySem.EqMixed.eq_bool_str (bP I q (by simp))
  |_=>exact absurd (show false=true from hs) ZM
 |int i=>
  obtain⟨t,rfl⟩:=rx;cases y with
  |b4=>cases ry;exact PySem.EqNone.eq_int_none (bP I q (by simp))
  |int j=>obtain⟨t',rfl⟩:=ry;exact eq_int (bP I q AW)
  |str j=>obtain⟨t',rfl⟩:=ry;exact PySem.EqMixed.eq_int_str (bP I q (by simp))
  |_=>exact absurd (show false=true from hs) ZM
 |str i=>
  obtain⟨t,rfl⟩:=rx;cases y with
  |b4=>cases ry;exact PySem.EqNone.eq_str_none (bP I q (by simp))
  |bl j=>cases ry;exact PySem.EqMixed.eq_str_bool (bP I q (by simp))
  |int j=>obtain⟨t',rfl⟩:=ry;exact PySem.EqMixed.eq_str_int (bP I q (by simp))
  |str j=>obtain⟨t',rfl⟩:=ry;exact eq_str (bP I q AX)
  |_=>exact absurd (show false=true from hs) ZM
 |AJ i=>
  obtain⟨t,rfl⟩:=rx;cases y with
  |AJ j=>obtain⟨t',rfl⟩:=ry;exact PySem.W.eq_bytes (bP I q AY)
  |_=>exact absurd (show false=true from hs) ZM
 |_=>cases y<;>exact absurd (show false=true from hs) ZM
theorem DC:oF X (compareOp .NotEq) SO:=by
 intro pins s σ H x y v u Q I rx ry h;obtain⟨hs,q⟩:=h;cases x with
 |b4=>
  cases rx;cases y with
  |b4=>cases ry;exact PySem.EqNone.ne_none_none (bP I q (by simp))
  |bl j=>cases ry;exact PySem.EqNone.ne_none_bool (bP I q (by simp))
  |int j=>obtain⟨t',rfl⟩:=ry;exact PySem.EqNone.ne_none_int (bP I q (by simp))
  |str j=>obtain⟨t',rfl⟩:=ry;exact PySem.EqNone.ne_none_str (bP I q (by simp))
  |_=>exact absurd (show false=true from hs) ZM
 |bl i=>
  cases rx;cases y with
  |b4=>cases ry;exact PySem.EqNone.ne_bool_none (bP I q (by simp))
  |bl j=>cases ry;exact ne_bool (bP I q (congrArg not DB))
  |str j=>obtain⟨t',rfl⟩:=ry;exact PySem.EqMixed.ne_bool_str (bP I q (by simp))
  |_=>exact absurd (show false=true from hs) ZM
 |int i=>
  obtain⟨t,rfl⟩:=rx;cases y with
  |b4=>cases ry;exact PySem.EqNone.ne_int_none (bP I q (by simp))
  |int j=>obtain⟨t',rfl⟩:=ry;exact ne_int (bP I q (congrArg not AW))
  |str j=>obtain⟨t',rfl⟩:=ry;exact PySem.EqMixed.ne_int_str (bP I q (by simp))
  |_=>exact absurd (show false=true from hs) ZM
 |str i=>
  obtain⟨t,rfl⟩:=rx;cases y with
  |b4=>cases ry;exact PySem.EqNone.ne_str_none (bP I q (by simp))
  |bl j=>cases ry;exact PySem.EqMixed.ne_str_bool (bP I q (by simp))
  |int j=>obtain⟨t',rfl⟩:=ry;exact PySem.EqMixed.ne_str_int (bP I q (by simp))
  |str j=>obtain⟨t',rfl⟩:=ry;exact ne_str (bP I q (congrArg not AX))
  |_=>exact absurd (show false=true from hs) ZM
 |AJ i=>
  obtain⟨t,rfl⟩:=rx;cases y with
  |AJ j=>obtain⟨t',rfl⟩:=ry;exact PySem.W.ne_bytes (bP I q (congrArg not AY))
  |_=>exact absurd (show false=true from hs) ZM
 |_=>cases y<;>exact absurd (show false=true from hs) ZM
theorem qW:oF X (compareOp .Lt) (GR fun i j=>.bl (decide (i<j))):=Kk fun _ _ _ _ _ _ _ q=>lt_int q
theorem DD:oF X (compareOp .Gt) (GR fun i j=>.bl (decide (j<i))):=Kk fun _ _ _ _ _ _ _ q=>gt_int q
theorem Je:oF X (compareOp .GtE) (GR fun i j=>.bl (decide (j<=i))):=Kk fun _ _ _ _ _ _ _ q=>ge_int q
theorem Km:oF X (compareOp .Is) (fun x y H Q=>y=.b4/\Q (.bl (decide (x=.b4))) H):=by
 intro pins s σ H x y v u Q I rx ry h;obtain⟨rfl,q⟩:=h;cases ry;refine is_none_gen (bP I q ?_);cases x<;>first
  |(cases rx;rfl)
  |(obtain⟨t,rfl⟩:=rx;rfl)
theorem GS:oF X (compareOp .IsNot) (fun x y H Q=>y=.b4/\Q (.bl (!decide (x=.b4))) H):=by
 intro pins s σ H x y v u Q I rx ry h;obtain⟨rfl,q⟩:=h;cases ry;refine isnot_none_gen (bP I q ?_);cases x<;>first
  |(cases rx;rfl)
  |(obtain⟨t,rfl⟩:=rx;rfl)
theorem aQ(b:Expr){op:CmpOp}(h:op≠.In:=by decide)(h2:op≠.NotIn:=by decide):behindInMarks op b=false:=by
 have e1:(op==CmpOp.In)=false:=by cases op<;>first |rfl |exact absurd rfl h
 have e2:(op==CmpOp.NotIn)=false:=by cases op<;>first |rfl |exact absurd rfl h2
 cases b<;>simp[behindInMarks,e1,e2]
theorem dQ{op:CmpOp}{r:R2}(ho:oF X (compareOp op) r)(ha:PE X a ta)(hb:PE X b tb)(hm:behindInMarks op b=false):PE X (.Compare a [op] [b] pos) (LZ r ta tb):=by
 intro pins s σ H Q I h;exact wpAny_Compare1 (Kj ha hb I h fun v u s2 x y H2 I2 rx ry q=>ho pins s2 σ H2 x y v u Q I2 rx ry q) hm
def AZ (t:TE):TT:=fun σ H Q=>t σ H fun x H'=>∃k,x=.bl k/\Q k H'
theorem aL{op:CmpOp}{r:R2}(ho:oF X (compareOp op) r)(ha:PE X a ta)(hb:PE X b tb)(hm:behindInMarks op b=false):PT X (.Compare a [op] [b] pos) (AZ (LZ r ta tb)):=by
 intro pins s σ H Q I h;refine wpAny_isTrue_Compare1 (eP (ha pins s σ H _ I h) fun v s1 zqz=>?_) hm;obtain⟨x,H1,I1,r1,q1⟩:=zqz;refine eP (hb pins s1 σ H1 _ I1 q1) fun u s2 zqz=>?_;obtain⟨y,H2,I2,r2,q2⟩:=zqz;refine eP (ho pins s2 σ H2 x y v u _ I2 r1 r2 q2) fun c s3 zqz=>?_;obtain⟨z,H3,I3,r3,k,e,q3⟩:=zqz;subst e;cases r3;exact wpAny_truthy_bool ⟨H3,I3,q3⟩
def DE (r r':R2) (ta tb tc:TE):TE:=fun σ H Q=>ta σ H fun x H1=>tb σ H1 fun y H2=>r x y H2 fun z H3=>∃k,z=.bl k/\
 (if k=true then tc σ H3 fun w' H4=>r' y w' H4 Q else Q (.bl false) H3)
def MT (K:ZI) (x:V) (H:Hp) (k:Bool):Prop:=
 match x with
 |.b4=>k=false
 |.bl b=>k=b
 |.int i=>k=(i != 0)
 |.str y=>y.length<=zct/\k=((y.length:Int) != 0)
 |.AJ y=>y.size<=zct/\k=((y.size:Int) != 0)
 |.ref p=>(∃xs,gQ K H p xs/\k = !xs.isEmpty)\/(∃xs,dq K H p xs/\k = !xs.isEmpty)\/∃kvs,H p=some (.dK kvs)/\k = !kvs.isEmpty
 |_=>False
theorem zL{κ:Type}{kvs:List (κ×V)}{vs:List (κ×zcm)}(r:KV kvs vs):(!vs.isEmpty) = !kvs.isEmpty:=by
 cases r<;>rfl
theorem sS{xs:List V}{a0:List zcm}(r:Vals xs a0):(!a0.toArray.isEmpty) = !xs.isEmpty:=by
 cases r<;>simp
theorem qi:(zct:Nat)<2 ^ 63:=by rw[sizeLine_eq];decide
theorem Kn:Qc X (fun x H Q=>∃k,MT X.K x H k/\Q k H):=by
 intro pins s σ H x v Q I rx h;obtain⟨k,e,q⟩:=h;have hl:=qi;have hs:zct=16777216:=sizeLine_eq;cases x with
 |b4=>
  cases rx;have e':k=false:=e;subst e';exact truthy_none ⟨H,I,q⟩
 |bl b=>
  cases rx;have e':k=b:=e;subst e';exact wpAny_truthy_bool ⟨H,I,q⟩
 |int i=>
  obtain⟨t,rfl⟩:=rx;have e':k=(i != 0):=e;subst e';exact PySem.P.truthy_int ⟨H,I,q⟩
 |str y=>
  obtain⟨t,rfl⟩:=rx;obtain⟨hy,e'⟩:y.length<=zct/\k=((y.length:Int) != 0):=e;subst e';exact PySem.P.truthy_str (by lia) ⟨H,I.tok _,q⟩
 |AJ y=>
  obtain⟨t,rfl⟩:=rx;obtain⟨hy,e'⟩:y.size<=zct/\k=((y.size:Int) != 0):=e;subst e';exact PySem.W.truthy_bytes (by lia) ⟨H,I.tok _,q⟩
 |ref p=>
  cases rx;have e':(∃xs,gQ X.K H p xs/\k = !xs.isEmpty)\/(∃xs,dq X.K H p xs/\k = !xs.isEmpty)\/∃kvs,H p=some (.dK kvs)/\k = !kvs.isEmpty:=e;rcases e' with ⟨xs,hx,e'⟩ |⟨xs,hx,e'⟩ |⟨kvs,hx,e'⟩
  ·subst e';obtain⟨a0,r,pl,hz⟩:=I.list hx;have hlen:=r.length;exact wpAny_truthy_list pl.isList (by simp only[ZY];lia) ⟨H,I.tok _,by rw[sS r];exact q⟩
  ·subst e';obtain⟨a0,r,pl,hz⟩:=I.tuple hx;have hlen:=r.length;exact truthy_tuple pl (by simp only[ZY];lia) ⟨H,I.tok _,by rw[sS r];exact q⟩
  ·subst e';obtain⟨hz,hS,vs,r,m⟩:kvs.length<=zct/\(p==sysModules)=false/\∃vs,KV kvs vs/\s.heap.DictOf (bG X.prog X.w) p vs:=I.dg p _ hx;have hlen:kvs.length=vs.length:=Paired.length r;exact wpAny_truthy_dict hS m (by lia) ⟨H,I.tok _,by rw[zL r];exact q⟩
 |_=>exact(show False from e).elim
theorem DF(ha:PE X a ta)(he:∀whole,isTrue a X.env whole=(do let v <- whole;standAt a.pos;holding [v] (truthy v))) :
 PT X a (fun σ H Q=>ta σ H fun x H'=>∃k,MT X.K x H' k/\Q k H'):=by
 intro pins s σ H Q I h;exact isTrue_plain (eP (ha pins s σ H _ I h) fun v s1 ⟨x,H1,I1,r1,q1⟩=>Kn pins s1 σ H1 x v Q I1 r1 q1) (he _)
theorem vals1{x:V}{us:List zcm}(r:Vals [x] us):∃u,us=[u]/\RelV x u:=by
 cases r with
 |cons r1 r2=>cases r2;exact⟨_,rfl,r1⟩
theorem vals2{x y:V}{us:List zcm}(r:Vals [x,y] us):∃u w',us=[u,w']/\RelV x u/\RelV y w':=by
 cases r with
 |cons r1 r2=>
  cases r2 with
  |cons r3 r4=>cases r4;exact⟨_,_,rfl,r1,r3⟩
theorem DG:lC X (.builtin "abs") (fun xs H Q=>∃i,xs=[.int i]/\Q (.int (if i<0 then -i else i)) H):=by
 intro pins s σ H xs us Q I r h;obtain⟨i,rfl,q⟩:=h;obtain⟨u,rfl,t,rfl⟩:=vals1 r;exact call_abs_int fun u tk=>⟨.int (if i<0 then -i else i),H,I.tok _,⟨_,rfl⟩,q⟩
end
structure zM(h:Heap)(x dx C:zcl)(mA:Str->Option zcm):Prop where
 obj:h.get? x=some (zaM C dx)
 ns:h.Ns1 dx mA
 ne:dx≠x
theorem B8{h:Heap}{dx:zcl}{mA:Str->Option zcm}(n:h.Ns1 dx mA):∃od,h.get? dx=some od/\∀name,zbB name od=some (mA name):=by
 obtain⟨o,es,ep,ho,hd,hk,_,hm⟩:=n;refine⟨o,ho,fun name=>?_⟩;have e:=hm name;unfold nsFind findBy at e;rw[<- Array.find?_toList] at e;unfold zbB;rw[hd];dsimp only;split
 ·rename_i y q;rw[q] at e;exact congrArg some e
 ·rename_i q;rw[q] at e;have a:es.toList.any (·.refKey)=false:=by
   rw[List.any_eq_false];intro y hy;obtain⟨z,t,Qe⟩:=hk y (Array.mem_toList_iff.mp hy);simp[DictEntry.refKey,Qe]
  have a':¬es.toList.any (·.refKey)=true:=by rw[a];exact ZM
  rw[if_neg a'];exact congrArg some e
theorem zM.look{h:Heap}{x dx C:zcl}{mA:Str->Option zcm}(I:zM h x dx C mA):∃od,PySem.W.InstAt h x (zaM C dx) C (some od)/\∀name,zbB name od=some (mA name):=
 let ⟨od,ho,hl⟩:=B8 I.ns
 ⟨od,⟨I.obj,rfl,rfl,ho⟩,hl⟩
section
variable{prog:zcx}{w:zcn}{A:zcw}{E:zcm->zcv->Prop}{s:zcv}{K:ZI}{x dx C f:zcl}{mA:Str->Option zcm}{name:Str}{v:zcm}
theorem get_map{expr:Bool}{Q:zcm->zcv->Prop}(X:K.In s.heap)(I:zM s.heap x dx C mA)(hg:za3 K C name=true)(hh:zba K C=true)
 (ha:Z6 K (.ref C) name=some none) (hv:mA name=some v) (zl:PySem.W.handedIn v=true) (h:Q v {s with toks:=s.toks+1}) :
 wpAny (model prog w) A (getAttr (.ref x) name expr) Q E s:=by
 obtain⟨od,J,hl⟩:=I.look;exact PySem.W.get_value X J (zbz hg).1 (PySem.W.findObj_own hh ha rfl (by rw[hl,hv])) zl h
theorem DH{pl:Sem Bool}{Q:zcm×List zcm->zcv->Prop}(X:K.In s.heap)(I:zM s.heap x dx C mA)(hg:za3 K C name=true)
 (hf:Z6 K (.ref C) name=some (some (.ref f))) (ht:zbg K (.ref f)=true) (hv:mA name=none) (h:Q (.ref f,[.ref x]) s) :
 wpAny (model prog w) A (getMethod (.ref x) name pl) Q E s:=by
 obtain⟨od,J,hl⟩:=I.look;exact PySem.W.method_fn X J (zbz hg).1 (zbz hg).2 hf (beq_iff_eq.mp ht) (by show (zbB name od).map (·.isSome)=some false;rw[hl,hv];rfl) h
theorem vY{ns:List Str}{Q:Unit->zcv->Prop}(X:K.In s.heap)(I:zM s.heap x dx C mA)
 (hs:Z6 K (.ref C) "__setattr__"=some (some (.builtin "object.__setattr__"))) (hp:zbm K C=true) (ht:zbW K C name=some none) (hh:zba K C=true)
 (hw:PySem.Within mA ns) (hsz:ns.length<=zct)
 (h:∀h',zM h' x dx C (fun y=>if y=name then some v else mA y)->Heap.SameBut dx s.heap h'->Q () {s with heap:=h',toks:=s.toks+2}) :
 wpAny (model prog w) A (setAttr (.ref x) name v) Q E s:=by
 obtain⟨od,J,hl⟩:=I.look;refine PySem.W.set_plain X J hs (PySem.W.osa_open (s:={s with toks:=s.toks+1}) (r:=none) X J hp ht fun b=>?_);obtain⟨cd,hc,AL⟩:=PySem.W.any_some hh;have hx:s.heap.get? x=some ⟨.ref C,some dx,.plain, #[]⟩:=I.obj;refine zco (zcp (zco (zco (wpAny_loadPart hx (zco (PySem.W.Looks.here (s:={s with toks:=s.toks+1}) (PySem.W.looks_clsIn X hc) ?_))))));rw[AL];refine zcp (a:=some dx) (zco (zcp (zco ?_)));refine wpAny_nsSet1 (s:={s with toks:=s.toks+1}) I.ns fun h' OS OT=>?_;obtain⟨oD,YW,YX,VC,VD,VE⟩:=OS.count (PySem.Within.cons name v hw);refine zco (wpAny_lookBehind VC (by rw[VD];exact pastItsLine_dict (Z5 VE (by rw[ZN];lia))) ?_);exact zcp (h _ ⟨(OT.2 _ (Ne.symm I.ne)).trans I.obj,OS,I.ne⟩ OT)
theorem DI{R:Result->zcv->Prop}{vs:List zcm}{kw:List (Str×zcm)}(X:K.In s.heap)(hm:zbv K C=true)
 (hi:Z6 K (.ref C) "__init__"=some (some (.ref f))) (hf:PySem.W.typeIn K (.ref f)=some (.type "function"))
 (h:codeAny (model prog w) (A.under (.builtin "type.__call__" ⟨.ref C::vs,kw⟩)) (.call (.ref f) ⟨.ref (s.heap.objs.size+1)::vs,kw⟩) (PySem.W.InitBack (s.heap.objs.size+1) R)
  {s with heap:=(s.heap.push zaz).push (zaM C s.heap.objs.size)}) :
 codeAny (model prog w) A (.call (.ref C) ⟨vs,kw⟩) R s:=by
 obtain⟨hh,g,d,t,os⟩:=s;exact PySem.W.make_core (PySem.W.makes_of X hm) (PySem.W.looks_findIn X hi) (fun self=>PySem.W.bind_fn X self hf) (.inl rfl) h
end
def fY (f:Str) (v:V):List (Str×V)->List (Str×V)
 |[]=>[(f,v)]
 |(g,x)::r=>if g=f then (g,v)::r else (g,x)::fY f v r
theorem qX(f g:Str)(v:V):∀fs:List (Str×V),(fY f v fs).lookup g=if g=f then some v else fs.lookup g
 |[]=>by
  show zaY g [(f,v)]=_;by_cases h:g=f
  ·have hb:(g==f)=true:=beq_iff_eq.mpr h;simp only[zaY,hb,if_pos h]
  ·have hb:(g==f)=false:=beq_eq_false_iff_ne.mpr h;simp only[zaY,hb,if_neg h]
 |(k,x)::r=>by
  have ih:=qX f g v r;rw[show fY f v ((k,x)::r)=(if k=f then (k,v)::r else (k,x)::fY f v r) from rfl];by_cases hk:k=f
  ·rw[if_pos hk];by_cases h:g=k
   ·have hb:(g==k)=true:=beq_iff_eq.mpr h;simp only[zaY,hb,if_pos (h.trans hk)]
   ·have hb:(g==k)=false:=beq_eq_false_iff_ne.mpr h;simp only[zaY,hb,if_neg (fun e:g=f=>h (e.trans hk.symm))]
  ·rw[if_neg hk];by_cases h:g=k
   ·have hb:(g==k)=true:=beq_iff_eq.mpr h;simp only[zaY,hb,if_neg (fun e:g=f=>hk (h.symm.trans e))]
   ·have hb:(g==k)=false:=beq_eq_false_iff_ne.mpr h;simp only[zaY,hb];exact ih
theorem qj(f:Str)(v:V):∀fs:List (Str×V),f∈(fY f v fs).map (·.1)/\∀g,g∈fs.map (·.1)->g∈(fY f v fs).map (·.1)
 |[]=>⟨by simp[fY],fun g h=>by simp at h⟩
 |(k,x)::r=>by
  obtain⟨i1,i2⟩:=qj f v r;rw[show fY f v ((k,x)::r)=(if k=f then (k,v)::r else (k,x)::fY f v r) from rfl];by_cases hk:k=f
  ·rw[if_pos hk];subst hk;exact⟨by simp,fun g h=>by simpa using h⟩
  ·rw[if_neg hk];refine⟨?_,fun g h=>?_⟩
   ·rw[ZW];exact ZV _ i1
   ·rw[ZW] at h ⊢;rcases ZS.mp h with e |e
    ·exact ZS.mpr (.inl e)
    ·exact ZV _ (i2 g e)
theorem qY(f:Str)(v:V):∀fs:List (Str×V),(fY f v fs).length<=fs.length+1
 |[]=>by simp[fY]
 |(k,x)::r=>by
  have ih:=qY f v r;rw[show fY f v ((k,x)::r)=(if k=f then (k,v)::r else (k,x)::fY f v r) from rfl];by_cases hk:k=f
  ·rw[if_pos hk,ZN,ZN];lia
  ·rw[if_neg hk,ZN,ZN];lia
theorem k0.some_of{v:V}{o:Option zcm}(r:k0 (some v) o):∃u,o=some u/\RelV v u:=by
 cases o with
 |none=>exact(show False from r).elim
 |some u=>exact⟨u,rfl,r⟩
theorem k0.none_of{o:Option zcm}(r:k0 none o):o=none:=by
 cases o with
 |none=>rfl
 |some u=>exact(show False from r).elim
theorem B9{v:V}{u:zcm}(r:RelV v u):PySem.W.handedIn u=true:=by
 cases v with
 |b4=>cases (show u=Value.none from r);rfl
 |bl b=>cases (show u=Value.bool b from r);rfl
 |int i=>obtain⟨t,e⟩:=(show ∃t,u=Value.int i t from r);cases e;rfl
 |str x=>obtain⟨t,e⟩:=(show ∃t,u=Value.str x t from r);cases e;rfl
 |AJ b=>obtain⟨t,e⟩:=(show ∃t,u=Value.bytes b t from r);cases e;rfl
 |JV b=>obtain⟨t,e⟩:=(show ∃t,u=Value.float b t from r);cases e;rfl
 |ref a=>cases (show u=Value.ref a from r);rfl
 |ty n=>cases (show u=Value.type n from r);rfl
section
variable{P:zcx}{w:zcn}{H H':Hp}{h h':Heap}{a C dx:zcl}{fs Ms:List (Str×V)}
theorem sj(dg:nv P w H h)(e:H a=some (.ins C dx fs)):∃mA,zM h a dx C mA/\(∀f,k0 (fs.lookup f) (mA f))/\PySem.Within mA (fs.map (·.1))/\fs.length<=1000/\H dx=some (.own a):=by
 obtain⟨d,z,ne,ob,mA,n,r,q⟩:=(show cJ P w H h a (.ins C dx fs) from dg a _ e)
 exact⟨mA,⟨ob,n,ne⟩,r,q,z,d⟩
end
structure De(K:ZI)(C:zcl):Prop where
 pg:za3 K C Str.empty=true
 hd:zba K C=true
 po:zbm K C=true
 sa:Z6 K (.ref C) "__setattr__"=some (some (.builtin "object.__setattr__"))
theorem De.get{K:ZI}{C:zcl}(c:De K C)(f:Str):za3 K C f=true:=c.pg
def gg (K:ZI) (C:zcl) (f:Str):Prop:=Z6 K (.ref C) f=some none
theorem gg.MU{K:ZI}{C:zcl}{f:Str}(n:gg K C f):zbW K C f=some none:=by
 unfold zbW;rw[show Z6 K (.ref C) f=some none from n];rfl
structure Meth(K:ZI)(C:zcl)(m:Str)(f:zcl):Prop where
 at_:Z6 K (.ref C) m=some (some (.ref f))
 fn:zbg K (.ref f)=true
 kp:zay K (.ref f)=true
section
variable{X:Cx}{pins:List (zcl×Obj)}{σ:St}{H:Hp}{s:zcv}{a C dx:zcl}{fs:List (Str×V)}{f:Str}{v:V}{A:zcw}{E:zcm->zcv->Prop}
theorem zN{b:Bool}{Q:zcm->zcv->Prop}(I:Inv X pins σ H s)(e:H a=some (.ins C dx fs))(c:De X.K C)(n:gg X.K C f)(l:fs.lookup f=some v)
 (h:∀u s',Inv X pins σ H s'->RelV v u->Q u s'):wpAny (model X.prog X.w) A (getAttr (.ref a) f b) Q E s:=by
 obtain⟨mA,O,r,_,_,_⟩:=sj I.dg e;obtain⟨u,hu,ru⟩:=k0.some_of (v:=v) (o:=mA f) (by rw[<- l];exact r f);exact get_map I.rK O (c.get f) c.hd n hu (B9 ru) (h u _ (I.tok _) ru)
theorem zO{m:Str}{g:zcl}{pl:Sem Bool}{Q:zcm×List zcm->zcv->Prop}(I:Inv X pins σ H s)(e:H a=some (.ins C dx fs))(c:De X.K C)(k:Meth X.K C m g)(l:fs.lookup m=none)
 (h:Q (.ref g,[.ref a]) s):wpAny (model X.prog X.w) A (getMethod (.ref a) m pl) Q E s:=by
 obtain⟨mA,O,r,_,_,_⟩:=sj I.dg e;have hn:mA m=none:=k0.none_of (by rw[<- l];exact r m);exact DH I.rK O (c.get m) k.at_ k.fn hn h
theorem zP{y:V}{u:zcm}{Q:Unit->zcv->Prop}(I:Inv X pins σ H s)(e:H a=some (.ins C dx fs))(c:De X.K C)(n:gg X.K C f)(hl:fs.length<1000)(ry:RelV y u)
 (h:∀s',Inv X pins σ (upd H a (.ins C dx (fY f y fs))) s'->Q () s'):wpAny (model X.prog X.w) A (setAttr (.ref a) f u) Q E s:=by
 obtain⟨mA,O,r,wi,_,ho⟩:=sj I.dg e;have hz:(fs.map (·.1)).length<=zct:=by rw[ZL,sizeLine_eq];lia
 refine vY I.rK O c.sa c.po n.MU c.hd wi hz fun h' O' sb=>h _ ?_;have hd:∃o,h'.get? dx=some o:=let ⟨o,_,_,e',_⟩:=O'.ns;⟨o,e'⟩;refine I.write (x:=a) (e:=dx) (by rw[e];exact True.intro) (.inr ho) (fun b q hb z=>(sb.2 b hb).trans z) hd ?_;refine⟨by rw[aR O.ne];exact ho,?_,O.ne,O'.obj,_,O'.ns,fun g=>?_,fun g hg=>?_⟩
 ·have:=qY f y fs;lia
 ·show k0 ((fY f y fs).lookup g) (if g=f then some u else mA g);rw[qX];by_cases q:g=f
  ·rw[if_pos q,if_pos q];exact ry
  ·rw[if_neg q,if_neg q];exact r g
 ·by_cases q:g=f
  ·rw[q];exact(qj f y fs).1
  ·refine(qj f y fs).2 g (wi g fun z=>hg ?_);show (if g=f then some u else mA g)=none;rw[if_neg q];exact z
theorem Inv.made(I:Inv X pins σ H s):Inv X pins σ (upd (upd H s.heap.objs.size (.own (s.heap.objs.size+1))) (s.heap.objs.size+1) (.ins C s.heap.objs.size []))
 {s with heap:=(s.heap.push zaz).push (zaM C s.heap.objs.size)}:=by
 have e1:(s.heap.push zaz).get? s.heap.objs.size=some zaz:=Heap.get?_push_size s.heap rfl;have e2:((s.heap.push zaz).push (zaM C s.heap.objs.size)).get? (s.heap.objs.size+1)=some (zaM C s.heap.objs.size):=by
  have:=Heap.get?_push_size (s.heap.push zaz) (o:=zaM C s.heap.objs.size) rfl
  rwa [Heap.size_push] at this
 have e3:(s.heap.push zaz).Ns s.heap.objs.size (fun _=>none):=⟨zaz, #[],_,e1,rfl,(fun e he=>absurd he (by simp)),fun _=>rfl⟩
 have I1:=I.laid (a:=s.heap.objs.size) (o:=.own (s.heap.objs.size+1)) (h':=s.heap.push zaz) (t':=s.toks) (fun b u q=>Heap.get?_push_of_some _ q) (ZQ _) ⟨_,e1⟩;refine I1.laid (a:=s.heap.objs.size+1) (o:=.ins C s.heap.objs.size []) (t':=s.toks) (fun b u q=>Heap.get?_push_of_some _ q) (zcf (Heap.size_push _ _)) ?_;have ne:s.heap.objs.size≠s.heap.objs.size+1:=Z3 (Nat.lt_succ_self _);refine⟨by rw[aR ne,ao],zac _,ne,e2,fun _=>none,(Heap.Ns1.of_empty e3).at fun o q=>Heap.get?_push_of_some _ q,fun _=>True.intro,fun y hy=>absurd rfl hy⟩
theorem GU{prog:zcx}{w:zcn}{env:Env}{e:Expr}{f:Str}{pos:Pos}{s:zcv}{Q:zcm->zcv->Prop}(hb:attributeBase e f env (eval e env)=eval e env)
 (h:wpAny (model prog w) A (eval e env) (fun o s₁=>wpAny (model prog w) A (getAttr o f true) Q E s₁) E s):wpAny (model prog w) A (eval (.Attribute e f pos) env) Q E s:=
 Attribute_any_ h (by rw[arm_eval_Attribute,hb])
end
def Ko (K:ZI) (ta:TE) (f:Str):TE:=fun σ H Q=>ta σ H fun x H1=>∃a C dx fs v,x=.ref a/\H1 a=some (.ins C dx fs)/\De K C/\gg K C f/\fs.lookup f=some v/\Q v H1
def xM (K:ZI) (ta tv:TE) (f:Str):TS:=fun D σ H=>tv σ H fun y H1=>ta σ H1 fun x H2=>∃a C dx fs,x=.ref a/\H2 a=some (.ins C dx fs)/\De K C/\gg K C f/\fs.length<1000/\
 D.nx σ (upd H2 a (.ins C dx (fY f y fs)))
def A1 (K:ZI) (ta tv:TE) (rd:V->V->Hp->VK->Prop) (f:Str):TS:=fun D σ H=>ta σ H fun x H1=>∃a C dx fs v,x=.ref a/\H1 a=some (.ins C dx fs)/\De K C/\gg K C f/\fs.lookup f=some v/\
 tv σ H1 fun y H2=>rd v y H2 fun z H3=>∃SQ Ms,H3 a=some (.ins C SQ Ms)/\Ms.length<1000/\D.nx σ (upd H3 a (.ins C SQ (fY f z Ms)))
section
variable{X:Cx}{o e value:Expr}{f:Str}{pos pos' Qf:Pos}{ta tv:TE}
theorem eG(he:PE X e ta)(hb:attributeBase e f X.env (eval e X.env)=eval e X.env):PE X (.Attribute e f pos) (Ko X.K ta f):=by
 intro pins s σ H Q I h;refine GU hb (eP (he pins s σ H _ I h) fun u s1 zqz=>?_);obtain⟨x,H1,I1,rx,a,C,dx,fs,v,ex,ea,c,n,l,q⟩:=zqz;subst ex;obtain rfl:u=Value.ref a:=rx;exact zN I1 ea c n l fun u' s2 I2 ru=>⟨v,H1,I2,ru,q⟩
theorem nG(ha:PE X o ta)(hv:PE X value tv)(hs:swapsWith value (some (.Attribute o f pos')) pos.line X.env=pure false):PS X (.Assign [.Attribute o f pos'] value pos) (xM X.K ta tv f):=by
 intro pins s σ H D I h;refine plainObj_wpAny_Assign_Attribute (eP (hv pins s σ H _ I h) fun u s1 zqz=>?_) hs;obtain⟨y,H1,I1,ry,q⟩:=zqz;refine eP (ha pins s1 σ H1 _ I1 q) fun ov s2 zqz=>?_;obtain⟨x,H2,I2,rx,a,C,dx,fs,ex,ea,c,n,l,q2⟩:=zqz;subst ex;obtain rfl:ov=Value.ref a:=rx;exact zP I2 ea c n l ry fun s3 I3=>⟨σ,_,I3,q2⟩
end
section
variable{X:Cx}{pins:List (zcl×Obj)}{σ:St}{H:Hp}{s:zcv}{A:zcw}{E:zcm->zcv->Prop}{Q:zcm->zcv->Prop}{c:zcm}{b:Bool}
inductive qk(K:ZI)(H:Hp):V->zcm->Prop where
 |b4:qk K H .b4 (.type "NoneType")
 |bl (x:Bool):qk K H (.bl x) (.type "bool")
 |int (i:Int):qk K H (.int i) (.type "int")
 |str (x:Str):qk K H (.str x) (.type "str")
 |JV (x:UInt64):qk K H (.JV x) (.type "float")
 |lst {a:zcl} {xs:List V} (e:H a=some (.lst xs)):qk K H (.ref a) (.type "list")
 |AK {a:zcl} {o:Obj} {xs:List V} (e:H a=some (.AK o (.lst xs))):qk K H (.ref a) (.type "list")
 |tup {a:zcl} {xs:List V} (e:H a=some (.tup xs)):qk K H (.ref a) (.type "tuple")
 |dK {a:zcl} {kvs:List (Key×V)} (e:H a=some (.dK kvs)):qk K H (.ref a) (.type "dict")
 |dT {a:zcl} {kvs:List (List Key×V)} (e:H a=some (.dT kvs)):qk K H (.ref a) (.type "dict")
 |ins {a C dx:zcl} {fs:List (Str×V)} (e:H a=some (.ins C dx fs)) (cl:De K C) (ha:Z6 K (.ref C) "__class__"=some (some (.builtin "object.__class__")))
  (hn:PySem.W.specialIn K (.builtin "object.__class__") "__get__"=some (some (.builtin "getset_descriptor.__get__"))) (SR:PySem.W.takesIn K (.builtin "object.__class__")=some true)
  (hm:PySem.W.mroIn K C (.type "object")=some true):qk K H (.ref a) (.ref C)
theorem Ca{x:V}{u t:zcm}(I:Inv X pins σ H s)(rx:RelV x u)(ty:qk X.K H x t)(e:zb9 X.K t c=some b)(h:∀tk,Q (.bool b) {s with toks:=tk}) :
 wpAny (model X.prog X.w) A (call (.builtin "isinstance") [u,c]) Q E s:=by
 cases ty with
 |b4=>cases (show u=Value.none from rx);exact zal PySem.W.kitx_none I.rK True.intro e (fun z=>nomatch z) h
 |bl y=>cases (show u=Value.bool y from rx);exact zal PySem.W.kitx_bool I.rK True.intro e (fun z=>nomatch z) h
 |int i=>obtain⟨t,q⟩:=(show ∃t,u=Value.int i t from rx);cases q;exact zal PySem.W.kitx_int I.rK True.intro e (fun z=>nomatch z) h
 |str y=>obtain⟨t,q⟩:=(show ∃t,u=Value.str y t from rx);cases q;exact zal PySem.W.kitx_str I.rK True.intro e (fun z=>nomatch z) h
 |JV y=>obtain⟨t,q⟩:=(show ∃t,u=Value.float y t from rx);cases q;exact zal PySem.W.kitx_float I.rK True.intro e (fun z=>nomatch z) h
 |@lst a xs ea=>
  cases (show u=Value.ref a from rx);obtain⟨_,_,n,_,h1⟩:=(show cJ X.prog X.w H s.heap a (.lst xs) from I.dg a _ ea)
  exact zal PySem.W.kitx_list I.rK ⟨_,h1,rfl⟩ e (fun z=>nomatch z) h
 |@AK a ob xs ea=>
  cases (show u=Value.ref a from rx);obtain⟨_,_,_,n,_,h1⟩:=(show cJ X.prog X.w H s.heap a (.AK ob (.lst xs)) from I.dg a _ ea)
  exact zal PySem.W.kitx_list I.rK ⟨_,h1,rfl⟩ e (fun z=>nomatch z) h
 |@tup a xs ea=>
  cases (show u=Value.ref a from rx);obtain⟨_,_,_,p⟩:=(show cJ X.prog X.w H s.heap a (.tup xs) from I.dg a _ ea)
  obtain⟨o,h1,h2,_⟩:=p;exact zal PySem.W.kitx_tuple I.rK ⟨o,h1,h2⟩ e (fun z=>nomatch z) h
 |@dK a kvs ea=>
  cases (show u=Value.ref a from rx);obtain⟨_,_,vs,_,p⟩:=(show cJ X.prog X.w H s.heap a (.dK kvs) from I.dg a _ ea)
  obtain⟨o,es,ep,h1,h2,_⟩:=p;exact zal PySem.W.kitx_dict I.rK ⟨o,h1,h2.1⟩ e (fun z=>nomatch z) h
 |@dT a kvs ea=>
  cases (show u=Value.ref a from rx);obtain⟨_,_,xs,_,o,es,ep,h1,h2,_⟩:=(show cJ X.prog X.w H s.heap a (.dT kvs) from I.dg a _ ea)
  exact zal PySem.W.kitx_dict I.rK ⟨o,h1,h2.1⟩ e (fun z=>nomatch z) h
 |@ins a C dx fs ea cl ha hn SR hm=>
  cases (show u=Value.ref a from rx);obtain⟨mA,O,_⟩:=sj I.dg ea;obtain⟨od,J,_⟩:=O.look;exact zal (PySem.W.kitx_own (cl.get _) cl.hd ha hn SR hm) I.rK J e (fun z=>nomatch z) h
end
structure gJ(k:Nat)(A:zcw):Prop where
 hd:A.handled=none
 dp:A.depth+3*k+5<recursionLimit
 un:A.units+16*k+200<cLine
theorem gJ.mono{j k:Nat}{A:zcw}(r:gJ k A)(h:j<=k):gJ j A:=⟨r.hd,by have:=r.dp;lia,by have:=r.un;lia⟩
theorem gJ.deeper{k:Nat}{A:zcw}(r:gJ (k+1) A)(env:Env):gJ k (A.deeper env):=
 ⟨r.hd,by have:=r.dp;show A.depth+1+3*k+5<_;lia,by have:=r.un;show A.units+3+16*k+200<_;lia⟩
theorem zQ{A:zcw}{C:zcl}{us:List zcm}{kw:List (Str×zcm)}:(A.under (.builtin "type.__call__" ⟨.ref C::us,kw⟩)).depth=A.depth+1:=by
 first |rfl |simp[Around.under,Code.weight,Code.isCreation,Code.isGuard,Code.isCaller,Code.frames,Code.isFrame,guardIds]
theorem zR{A:zcw}{C:zcl}{us:List zcm}{kw:List (Str×zcm)}:(A.under (.builtin "type.__call__" ⟨.ref C::us,kw⟩)).units=A.units+1:=by
 first |rfl |simp[Around.under,Code.cUnits,Code.frames,Code.isFrame]
theorem gJ.make{k:Nat}{A:zcw}(r:gJ (k+1) A)(C:zcl)(us:List zcm)(kw:List (Str×zcm)):gJ k (A.under (.builtin "type.__call__" ⟨.ref C::us,kw⟩)):=
 ⟨r.hd,by have:=r.dp;rw[zQ];lia,by have:=r.un;rw[zR];lia⟩
theorem gJ.depth{k:Nat}{A:zcw}(r:gJ k A):A.depth<recursionLimit:=by have:=r.dp;lia
theorem gJ.units{k:Nat}{A:zcw}(r:gJ k A):A.units+64<cLine:=by have:=r.un;lia
def MV:TA:=fun _ H Q=>Q [] H
def DJ (ta:TE) (tr:TA):TA:=fun σ H Q=>ta σ H fun x H1=>tr σ H1 fun xs H2=>Q (x::xs) H2
section
variable{X:Cx}{e:Expr}{es:List Expr}{te:TE}{t:TA}{pos:Pos}
theorem aj:PA X [] MV:=fun _ _ _ _ H Q I h=>Calls.spliced_nil ⟨[],H,I,.nil,h⟩
theorem ae(ha:PE X e te)(hr:PA X es t)(hs:zcr (e::es) X.env=(false,eval e X.env)::zcr es X.env:=by rfl):PA X (e::es) (DJ te t):=by
 intro pos pins s σ H Q I h;rw[hs];show wpAny _ _ (spliced ((false,eval e X.env)::backTo pos (zcr es X.env))) _ _ s;refine Calls.spliced_cons (eP (ha pins s σ H _ I h) fun u s1 zqz=>?_);obtain⟨x,H1,I1,r1,q1⟩:=zqz;exact eP (hr pos pins s1 σ H1 _ I1 q1) fun us s2 ⟨xs,H2,I2,r2,q2⟩=>⟨x::xs,H2,I2,.cons r1 r2,q2⟩
def MW (t:TA):TE:=fun σ H Q=>t σ H fun xs H1=>xs.length<=zct/\∀p,H1 p=none->Q (.ref p) (upd H1 p (.tup xs))
def MX (t:TA):TE:=fun σ H Q=>t σ H fun xs H1=>xs.length<=zct/\∀p,H1 p=none->Q (.ref p) (upd H1 p (.lst xs))
theorem aT{x1}(h:PA X es t):PE X (.Tuple es x1 pos) (MW t):=by
 intro pins s σ H Q I hq;refine wpAny_Tuple_spliced (eP (h pos pins s σ H _ I hq) fun us s1 ⟨xs,H1,I1,r,z,q⟩=>⟨by rw[<- r.length];exact z,?_⟩);have hf:H1 s1.heap.objs.size=none:=I1.dg.fresh (ZQ _);refine⟨.ref s1.heap.objs.size,upd H1 s1.heap.objs.size (.tup xs),I1.laid (t':=s1.toks) (fun b u e=>Heap.get?_push_of_some _ e) (ZQ _) ?_,rfl,q _ hf⟩;exact⟨z,us,r,⟨_,Heap.get?_push_size _ rfl,rfl,_,rfl⟩⟩
theorem bA(h:PA X es t):PE X (.List es pos) (MX t):=by
 intro pins s σ H Q I hq;refine wpAny_List_spliced (eP (h pos pins s σ H _ I hq) fun us s1 ⟨xs,H1,I1,r,z,q⟩=>⟨by rw[<- r.length];exact z,?_⟩);have hf:H1 s1.heap.objs.size=none:=I1.dg.fresh (ZQ _);refine⟨.ref s1.heap.objs.size,upd H1 s1.heap.objs.size (.lst xs),I1.laid (t':=s1.toks) (fun b u e=>Heap.get?_push_of_some _ e) (ZQ _) ?_,rfl,q _ hf⟩;exact⟨z,us,0,r,Heap.get?_push_size _ rfl⟩
end
abbrev Sp:=List V->Hp->VK->XK->Prop
abbrev Cb:=List Env->Hp->zcv->XK->zcm->zcv->Prop
structure zS(P:zcx)(w:zcn)(K:ZI)(mg:Str->Option zcm)(base:Heap)(A:zcw)(outer:List Env)(s:zcv)(H:Hp):Prop where
 frames:A.frames=some outer
 mod:Mod K mg base
 bs:∀b o,base.get? b=some o->s.heap.get? b=some o/\H b=none
 GK:base.objs.size<=s.heap.objs.size
 rJ:s.heap.FunFrames base outer
 JY:∀b∈Dr outer,H b=none
 dg:nv P w H s.heap
 bare:AllBare s.gens
def CE (outer:List Env) (P:zcx) (w:zcn) (H:Hp) (s:zcv) (Q:VK) (u:zcm) (s':zcv):Prop:=
 ∃v H',s'.os=s.os/\AllBare s'.gens/\Un (Dr outer) [] H H' s.heap s'.heap/\nv P w H' s'.heap/\RelV v u/\Q v H'
def CR (CX:Cb) (outer:List Env) (P:zcx) (w:zcn) (H:Hp) (s:zcv) (Q:VK) (E:XK) (r:Result) (s':zcv):Prop:=
 match r with
 |.ok (.ret u)=>CE outer P w H s Q u s'
 |.ok _=>False
 |.error e=>CX outer H s E e s'
structure bw(P:zcx)(w:zcn)(K:ZI)(mg:Str->Option zcm)(base:Heap)(CX:Cb)(k:Nat)(f:zcl)(fd:zcu)(ps:List Str)(sp:Sp):Prop where
 len:∀vs H Q E,sp vs H Q E->vs.length=ps.length
 run:∀(A:zcw) (outer:List Env) (s:zcv) (H:Hp) (args:Args) (us:List zcm) (vs:List V) (Q:VK) (E:XK),gJ k A->zS P w K mg base A outer s H->BindsTo s fd args (ps.zip us)->Vals vs us->sp vs H Q E->
  codeAny (model P w) A (.call (.ref f) args) (CR CX outer P w H s Q E) s
theorem zS.make{P:zcx}{w:zcn}{K:ZI}{mg:Str->Option zcm}{base:Heap}{A:zcw}{outer:List Env}{s:zcv}{H:Hp}(e:zS P w K mg base A outer s H)(C:zcl)(us:List zcm)(kw:List (Str×zcm)) :
 zS P w K mg base (A.under (.builtin "type.__call__" ⟨.ref C::us,kw⟩)) outer s H:=⟨by first |exact e.frames |(simpa[Around.under,Code.envs,Code.isFrame,pushEnvs] using e.frames),e.mod,e.bs,e.GK,e.rJ,e.JY,e.dg,e.bare⟩
section
variable{X:Cx}{pins:List (zcl×Obj)}{σ:St}{H:Hp}{s s':zcv}
theorem Inv.MY(I:Inv X pins σ H s):zS X.prog X.w X.K X.mg X.base X.A X.stack s H:=
 ⟨I.ok.frames,I.ok.mod,I.bs,Z5 I.ok.GK I.sz,I.stack,I.AM,I.dg,I.bare⟩
theorem Inv.after{Q:VK}{u:zcm}(I:Inv X pins σ H s)(h:CE X.stack X.prog X.w H s Q u s'):EP X pins σ Q u s':=by
 obtain⟨v,H',os,bare,un,dg,r,q⟩:=h;obtain⟨hh,g,d,t,VF⟩:=s';obtain rfl:VF=s.os:=os;exact⟨v,H',I.call (h':=hh) (g':=g) (d':=d) (t':=t) (ch:=[]) un dg bare (fun b z=>absurd z (by simp)),r,q⟩
end
def DK (sp:Sp) (uq:List V) (E:XK) (t:TA):TE:=fun σ H Q=>t σ H fun vs H1=>sp (vs++uq) H1 Q E
def DL (C:zcl) (m:Str) (sp:Sp) (uq:List V) (E:XK) (ta:TE) (t:TA):TE:=fun σ H Q=>ta σ H fun x H1=>∃a dx fs,x=.ref a/\H1 a=some (.ins C dx fs)/\fs.lookup m=none/\
 t σ H1 fun vs H2=>sp (x::(vs++uq)) H2 Q E
def DM (C:zcl) (sp:Sp) (uq:List V) (E:XK) (t:TA):TE:=fun σ H Q=>t σ H fun vs H1=>∀x dx,H1 x=none->H1 dx=none->dx≠x->
 sp (.ref x::(vs++uq)) (upd (upd H1 dx (.own x)) x (.ins C dx [])) (fun v H2=>v=.b4/\Q (.ref x) H2) E
def Binds (K:ZI) (fd:zcu) (ps:List Str) (ds:List zcm):Prop:=
 ∀(s:zcv) (us:List zcm),K.In s.heap->(us++ds).length=ps.length->BindsTo s fd ⟨us,[]⟩ (ps.zip (us++ds))
theorem Binds.all{K:ZI}{fd:zcu}{ps:List Str}(h:∀us:List zcm,us.length=ps.length->bindArgs fd ⟨us,[]⟩=pure (ps.zip us)):Binds K fd ps []:=fun s us _ hl=>by
 rw[Z9] at hl ⊢;exact .of_eq (h us hl)
def Passes (CX:Cb) (X:Cx) (E:XK):Prop:=∀(pins:List (zcl×Obj)) (σ:St) (H:Hp) (s:zcv) (e:zcm) (s':zcv),Inv X pins σ H s->CX X.stack H s E e s'->X.xe e s'
section
variable{X:Cx}{CX:Cb}{k:Nat}{f C:zcl}{fd:zcu}{ps:List Str}{sp:Sp}{uq:List V}{ds:List zcm}{E:XK}{x m:Str}{p pos apos:Pos}{e o:Expr}{es:List Expr}{ta:TE}{t:TA}
theorem DN{pins:List (zcl×Obj)}{σ:St}{H:Hp}{s:zcv}{Q:VK}{us:List zcm}{vs:List V}(F:bw X.prog X.w X.K X.mg X.base CX k f fd ps sp)(hr:gJ k X.A)(hb:Binds X.K fd ps ds)(hd:Vals uq ds)(hx:Passes CX X E)
 (I:Inv X pins σ H s) (r:Vals vs us) (h:sp (vs++uq) H Q E):wpAny (model X.prog X.w) X.A (call (.ref f) us) (EP X pins σ Q) X.xe s:=by
 have r2:Vals (vs++uq) (us++ds):=r.append hd;have hl:(us++ds).length=ps.length:=by rw[<- r2.length];exact F.len _ _ _ _ h
 refine wpAny_call (codeAny_mono (F.run X.A X.stack s H ⟨us,[]⟩ (us++ds) (vs++uq) Q E hr I.MY (hb s us I.rK hl) r2 h) fun r s' hq=>?_);cases r with
 |error e=>exact hx pins σ H s e s' I hq
 |ok fl=>
  cases fl with
  |ret u=>exact I.after hq
  |next=>exact False.elim hq
  |brk=>exact False.elim hq
  |cont=>exact False.elim hq
theorem GV(F:bw X.prog X.w X.K X.mg X.base CX k f fd ps sp)(hr:gJ k X.A)(hg:Gl X x)(hm:X.mg x=some (.ref f))(hk:zay X.K (.ref f)=true)(hb:Binds X.K fd ps ds)(hd:Vals uq ds)(hx:Passes CX X E)
 (ha:PA X (e::es) t) (GW:(x==("__debug__":Str))=false:=by decide) (he:zcr (e::es) X.env=(false,eval e X.env)::zcr es X.env:=by rfl) (A2:(backTo pos (zcr es X.env)).any (·.1)=false:=by rfl) :
 PE X (.Call (.Name x p) (e::es) [] pos) (DK sp uq E t):=by
 intro pins s σ H Q I h;refine wpAny_Call_Name_kw (vW I hg hm ?_ GW);refine zbD (h₀:=X.base) I.ok.mod.Mu hk (eP (ha pos pins s σ H _ I h) fun us s1 ⟨vs,H1,I1,r,q⟩=>⟨I1.rK,?_⟩) he A2;exact DN F hr hb hd hx I1 r q
theorem GX{pl:Sem Bool}(he:PE X o ta)(c:De X.K C)(hm:Meth X.K C m f)(F:bw X.prog X.w X.K X.mg X.base CX k f fd ps sp)(hr:gJ k X.A)(hb:Binds X.K fd ps ds)(hd:Vals uq ds)(hx:Passes CX X E)(ha:PA X (e::es) t)
 (qd:zcr (e::es) X.env=(false,eval e X.env)::zcr es X.env:=by rfl) (A2:(backTo pos (zcr es X.env)).any (·.1)=false:=by rfl)
 (ht:eval (.Call (.Attribute o m apos) (e::es) [] pos) X.env=(do
  let ov <- eval o X.env
  standAt apos.atName
  let (f,first) <- holding [ov] (getMethod ov m pl)
  callWith pos f first (backTo pos (zcr (e::es) X.env)) (backToKw pos (keywordEach [] X.env))):=by rfl) :
 PE X (.Call (.Attribute o m apos) (e::es) [] pos) (DL C m sp uq E ta t):=by
 intro pins s σ H Q I h;refine PySem.W.methodCall_KW (pl:=pl) (eP (he pins s σ H _ I h) fun u s1 zqz=>?_) ht;obtain⟨x,H1,I1,rx,a,dx,fs,ex,ea,l,q⟩:=zqz;subst ex;obtain rfl:u=Value.ref a:=rx;refine zO I1 ea c hm l ?_;refine zbD (first:=[.ref a]) (h₀:=X.base) I.ok.mod.Mu hm.kp (eP (ha pos pins s1 σ H1 _ I1 q) fun us s2 ⟨vs,H2,I2,r,q2⟩=>⟨I2.rK,?_⟩) qd A2;exact DN (us:=.ref a::us) (vs:=.ref a::vs) F hr hb hd hx I2 (.cons rfl r) q2
structure Mk(K:ZI)(C f:zcl):Prop where
 makes:zbv K C=true
 init:Z6 K (.ref C) "__init__"=some (some (.ref f))
 fn:zbg K (.ref f)=true
 kp:zay K (.ref C)=true
theorem DO{pins:List (zcl×Obj)}{σ:St}{H:Hp}{s:zcv}{Q:VK}{us:List zcm}{vs:List V}(M:Mk X.K C f)(F:bw X.prog X.w X.K X.mg X.base CX k f fd ps sp)(hr:gJ (k+1) X.A)(hb:Binds X.K fd ps ds)(hd:Vals uq ds)
 (hx:Passes CX X E) (I:Inv X pins σ H s) (r:Vals vs us)
 (h:∀x dx,H x=none->H dx=none->dx≠x->sp (.ref x::(vs++uq)) (upd (upd H dx (.own x)) x (.ins C dx [])) (fun v H2=>v=.b4/\Q (.ref x) H2) E) :
 wpAny (model X.prog X.w) X.A (call (.ref C) us) (EP X pins σ Q) X.xe s:=by
 have hq:=h (s.heap.objs.size+1) s.heap.objs.size (I.dg.fresh (Nat.le_succ _)) (I.dg.fresh (ZQ _)) (Z3 (Nat.lt_succ_self _));have I2:=Inv.made (C:=C) I;have r2:Vals (V.ref (s.heap.objs.size+1)::(vs++uq)) (Value.ref (s.heap.objs.size+1)::(us++ds)):=.cons rfl (r.append hd);have hl:(Value.ref (s.heap.objs.size+1)::us++ds).length=ps.length:=by
  have e:=r2.length;rw[F.len _ _ _ _ hq] at e;exact e.symm
 refine wpAny_call (DI (f:=f) I.rK M.makes M.init (beq_iff_eq.mp M.fn) (codeAny_mono (F.run _ X.stack _ _ ⟨Value.ref (s.heap.objs.size+1)::us,[]⟩ (Value.ref (s.heap.objs.size+1)::(us++ds)) _ _ E (hr.make C us [])
  (I2.MY.make C us []) (hb _ (Value.ref (s.heap.objs.size+1)::us) I2.rK hl) r2 hq) fun r s' MZ=>?_))
 cases r with
 |error e=>exact hx pins σ _ _ e s' I2 MZ
 |ok fl=>
  cases fl with
  |ret u=>
   obtain⟨v,H',I3,rv,ev,q3⟩:=I2.after MZ;subst ev;exact⟨rv,⟨V.ref (s.heap.objs.size+1),H',I3,rfl,q3⟩⟩
  |next=>exact False.elim MZ
  |brk=>exact False.elim MZ
  |cont=>exact False.elim MZ
theorem A3(M:Mk X.K C f)(F:bw X.prog X.w X.K X.mg X.base CX k f fd ps sp)(hr:gJ (k+1) X.A)(hg:Gl X x)(hm:X.mg x=some (.ref C))(hb:Binds X.K fd ps ds)(hd:Vals uq ds)(hx:Passes CX X E)
 (ha:PA X (e::es) t) (GW:(x==("__debug__":Str))=false:=by decide) (he:zcr (e::es) X.env=(false,eval e X.env)::zcr es X.env:=by rfl) (A2:(backTo pos (zcr es X.env)).any (·.1)=false:=by rfl) :
 PE X (.Call (.Name x p) (e::es) [] pos) (DM C sp uq E t):=by
 intro pins s σ H Q I h;refine wpAny_Call_Name_kw (vW I hg hm ?_ GW);refine zbD (h₀:=X.base) I.ok.mod.Mu M.kp (eP (ha pos pins s σ H _ I h) fun us s1 ⟨vs,H1,I1,r,q⟩=>⟨I1.rK,?_⟩) he A2;exact DO M F hr hb hd hx I1 r q
end
structure aZ(N P:List Str)(sc:Scope):Prop where
 kind:sc.kind=.function
 co:sc.isCoroutine=false
 gen:sc.isGenerator=false
 nd:N.Nodup
 pre:N.take P.length=P
 par:∀x∈P,sc.names.lookup x=some .local\/sc.names.lookup x=some .cell
 Kp:∀y∈sc.names,y.2≠.free
theorem vf{kindOf:Str->Option NameKind}{x:Str}:∀ {binds:List (Str×zcm)} {m:Str->Option zcm},(∀v,(x,v) ∉ binds)->bindL kindOf binds m x=m x
 |[],_,_=>rfl
 |(n,v)::r,m,h=>by
  unfold bindL;rw[vf fun w hw=>h w (ZV _ hw)];split
  ·have:x≠n:=by rintro rfl;exact h v Z0
   simp[this]
  ·rfl
theorem vg{kindOf:Str->Option NameKind}{x:Str}:∀ {binds:List (Str×zcm)} {m:Str->Option zcm},(∀v,(x,v) ∉ binds)->bindC kindOf binds m x=m x
 |[],_,_=>rfl
 |(n,v)::r,m,h=>by
  unfold bindC;rw[vg fun w hw=>h w (ZV _ hw)];split
  ·rfl
  ·have:x≠n:=by rintro rfl;exact h v Z0
   simp[this]
theorem vh{kindOf:Str->Option NameKind}{x:Str}{v:zcm}:∀ {P:List Str} {vs:List zcm} {i:Nat} {m:Str->Option zcm},P.Nodup->P[i]?=some x->vs[i]?=some v->kindOf x=some .local->
 bindL kindOf (P.zip vs) m x=some v
 |[],_,_,_,_,h,_,_=>by simp at h
 |_::_,[],_,_,_,_,h,_=>by simp at h
 |p::P,w::vs,0,m,nd,h1,h2,hk=>by
  simp at h1 h2;subst h1;subst h2;show bindL kindOf ((p,w)::P.zip vs) m p=_;unfold bindL;rw[vf fun v hv=>(za6.mp nd).1 (zbR hv).1,if_pos hk];simp
 |p::P,w::vs,i+1,m,nd,h1,h2,hk=>by
  show bindL kindOf ((p,w)::P.zip vs) m x=_;unfold bindL;exact vh (i:=i) (za6.mp nd).2 (by simpa using h1) (by simpa using h2) hk
theorem vi{kindOf:Str->Option NameKind}{x:Str}{v:zcm}:∀ {P:List Str} {vs:List zcm} {i:Nat} {m:Str->Option zcm},P.Nodup->P[i]?=some x->vs[i]?=some v->kindOf x≠some .local->
 bindC kindOf (P.zip vs) m x=some v
 |[],_,_,_,_,h,_,_=>by simp at h
 |_::_,[],_,_,_,_,h,_=>by simp at h
 |p::P,w::vs,0,m,nd,h1,h2,hk=>by
  simp at h1 h2;subst h1;subst h2;show bindC kindOf ((p,w)::P.zip vs) m p=_;unfold bindC;rw[vg fun v hv=>(za6.mp nd).1 (zbR hv).1,if_neg hk];simp
 |p::P,w::vs,i+1,m,nd,h1,h2,hk=>by
  show bindC kindOf ((p,w)::P.zip vs) m x=_;unfold bindC;exact vi (i:=i) (za6.mp nd).2 (by simpa using h1) (by simpa using h2) hk
def start (N:List Str) (vs:List V):St:=vs.map some++zbA (N.length-vs.length) none
def uJ (CX:Cb) (P:zcx) (w:zcn) (K:ZI) (mg:Str->Option zcm) (base:Heap) (N:List Str) (qual:Str) (scope:Scope) (f:zcl) (cd:zcm) (A:zcw) (outer:List Env) (s:zcv) (H:Hp) (E:XK):Cx where
 prog:=P
 w:=w
 K:=K
 mg:=mg
 base:=base
 A:=A.deeper (envOfC qual scope s.heap.objs.size f cd)
 N:=N
 s₀:=s
 H₀:=H
 env:=envOfC qual scope s.heap.objs.size f cd
 outer:=outer
 stack:=envOfC qual scope s.heap.objs.size f cd::outer
 ex:=[]
 calm:=true
 fn:=fun _=>true
 pn:=[]
 xe:=fun e s'=>wpAny (model P w) (A.deeper (envOfC qual scope s.heap.objs.size f cd)) (leaving (envOfC qual scope s.heap.objs.size f cd) e) (fun _ Qg=>CX outer H s E e Qg) (fun e' Qg=>CX outer H s E e' Qg) s'
theorem xN{sc:Scope}{n:Nat}{x:Str}(h:sc.names.lookup x=some .cell):∃c,(cellsFrom n sc.names []).lookup x=some c:=by
 have q:=zb0 sc.names n [] (.inl h);exact zbH.mp q
theorem Cc{CX:Cb}{P:zcx}{w:zcn}{K:ZI}{mg:Str->Option zcm}{base:Heap}{N ps:List Str}{qual:Str}{scope:Scope}{f:zcl}{cd:zcm}{A:zcw}{outer:List Env}{s s1:zcv}{H:Hp}{E:XK}{us:List zcm}{vs:List V}
 (S:aZ N ps scope) (hd:A.handled=none) (e0:zS P w K mg base A outer s H) (hl:vs.length=ps.length) (r:Vals vs us)
 (x:InCallC s s.heap.objs.size (bindL (envOfC qual scope s.heap.objs.size f cd).kindOf (ps.zip us) fun _=>none) (cellsFrom (s.heap.objs.size+1) scope.names []) (bindC (envOfC qual scope s.heap.objs.size f cd).kindOf (ps.zip us) fun _=>none) s1) :
 Inv (uJ CX P w K mg base N qual scope f cd A outer s H E) [] (start N vs) H s1:=by
 have A2:ps.length<=N.length:=by have:=congrArg zad S.pre;rw[zaP] at this;lia
 obtain⟨h1,tk,rfl,hk⟩:=x.done;have M0:∀b:zcl,b ∉ (uJ CX P w K mg base N qual scope f cd A outer s H E).ex:=fun b z=>absurd (show b∈([]:List zcl) from z) (by simp);refine⟨⟨e0.mod,S.kind,rfl,rfl,ZQ _,fun y z c h1 h2=>?_,fun y hy=>?_,fun y c _ h=>?_,fun _=>hd,Around.frames_deeper e0.frames,.inr ⟨rfl,rfl⟩,fun b z=>absurd z (M0 b),e0.bs,e0.GK,fun b _ _=>M0 b,fun b z=>absurd z (M0 b),e0.rJ,e0.JY⟩,
  rfl,e0.bare,Un.kept hk,⟨_,x.toInCall.ns,fun i y v h1 h2 h3=>?_⟩,fun y c h=>⟨_,x.cell y c h⟩,e0.dg.fresh (ZQ _),fun y c h=>?_,fun p hp=>absurd (show p∈([]:List (zcl×Obj)) from hp) (by simp),e0.dg.kept hk,?_⟩
 ·exact name_of_addr x.apart (PySem.mem_of_lookup h1) (PySem.mem_of_lookup h2)
 ·have hy:scope.names.lookup y=some .cell\/scope.names.lookup y=some .free:=hy;rcases hy with hy |hy
  ·exact xN hy
  ·exact absurd rfl (S.Kp _ (PySem.mem_of_lookup hy))
 ·exact zbr (x.above y c (PySem.mem_of_lookup h))
 ·have hi:i<vs.length:=by
   unfold start at h2;by_cases hi:i<vs.length
   ·exact hi
   ·rw[zag (by simpa using hi)] at h2;rw[zbM] at h2;split at h2<;>cases h2
  have ha:vs[i]?=some v:=by
   unfold start at h2;rw[zan (by simpa using hi),ZO] at h2;cases e:vs[i]? with
   |none=>rw[e] at h2;cases h2
   |some a=>rw[e] at h2;cases h2;rfl
  obtain⟨u,hu,rv⟩:=r.get ha;have hp:ps[i]?=some y:=by
   rw[<- S.pre,List.getElem?_take_of_lt (by lia)];exact h1
  have SS:ps.Nodup:=by rw[<- S.pre];exact S.nd.sublist (List.take_sublist _ _)
  refine⟨u,rv,?_⟩;rcases S.par y (zaL hp) with k |k
  ·exact .inl ⟨k,vh SS hp hu k⟩
  ·obtain⟨c,e⟩:=xN (n:=s.heap.objs.size+1) k;refine .inr ⟨.inl k,c,e,?_⟩;have q:=x.cell y c e;rw[vi SS hp hu (by show scope.names.lookup y≠_;rw[k];decide)] at q;exact q
 ·exact e0.dg.fresh (zbr (x.above y c (PySem.mem_of_lookup h)))
 ·unfold start;show _=N.length;rw[ZP,ZL,zb1];lia
theorem M1{CX:Cb}{P:zcx}{w:zcn}{K:ZI}{mg:Str->Option zcm}{base:Heap}{k:Nat}{f:zcl}{name qual:Str}{params:Arguments}{body:List Stmt}{scope:Scope}{dV kV doc pm fq ct oc:zcm}{an od:Option zcl}
 {Gx:Array (Option zcm)} {N ps:List Str} {sp:Sp} (lk:K.lookup f=some ⟨oc,od,.func (zao name qual params body scope dV kV doc pm an fq ct),Gx⟩) (zj:za0 K fq qual=true) (S:aZ N ps scope)
 (len:∀vs H Q E,sp vs H Q E->vs.length=ps.length)
 (xO:∀(A:zcw) (outer:List Env) (s:zcv) (H:Hp) (vs:List V) (Q:VK) (E:XK),gJ k (A.deeper (envOfC qual scope s.heap.objs.size f fq))->sp vs H Q E->
  ∃t,AQ (uJ CX P w K mg base N qual scope f fq A outer s H E) body t/\t {nx:=fun _ H'=>Q .b4 H',rt:=Q} (start N vs) H) :
 bw P w K mg base CX (k+1) f (zao name qual params body scope dV kV doc pm an fq ct) ps sp:=by
 refine⟨len,fun A outer s H args us vs Q E hr e0 hb r Jf=>?_⟩;have hl:=len _ _ _ _ Jf;have KX:K.In s.heap:=e0.mod.Mu.keeps fun b o e=>(e0.bs b o e).1;have lim:s.heap.NoLimit:=e0.mod.nolimit.keeps fun b o e=>(e0.bs b o e).1;have M3:∀y∈ps.zip us,scope.names.lookup y.1=some .local\/(scope.names.lookup y.1=some .cell/\((cellsFrom (s.heap.objs.size+1) scope.names []).lookup y.1).isSome=true):=fun ⟨n,v⟩ hy=>by
  rcases S.par n (zbR hy).1 with q |q
  ·exact .inl q
  ·exact .inr ⟨q,zb0 _ _ _ (.inl q)⟩
 refine codeAny_call_function hr.depth (KX _ _ lk) rfl S.co S.gen rfl (PySem.W.codeRec_of KX zj) (hb _ _ _ _ ?_);refine wpAny_newFunctionEnv_cells S.kind M3 fun env he s1 x=>?_;subst he;refine⟨lim.keeps x.toInCall.keep,codeAny_func ?_⟩;obtain⟨t,ht,hq⟩:=xO A outer s H vs Q E (hr.deeper _) Jf;have I:Inv (uJ CX P w K mg base N qual scope f fq A outer s H E) [] (start N vs) H s1:=Cc S hr.hd e0 hl r x;refine wpAny_mono (ht [] s1 (start N vs) H _ I hq) (fun fl s' hs=>?_) fun e s' hs=>hs;have fin:∀ {σ':St} {H':Hp} {v:V} {u:zcm},Inv (uJ CX P w K mg base N qual scope f fq A outer s H E) [] σ' H' s'->RelV v u->Q v H'->CE outer P w H s Q u s':=
  fun {σ' H' v u} J rv q=>⟨v,H',J.os,J.bare,J.base,J.dg,rv,q⟩
 cases fl with
 |ret u=>
  obtain⟨v,σ',H',J,rv,q⟩:=hs;exact fin J rv q
 |next=>
  obtain⟨σ',H',J,q⟩:=hs;exact fin (v:=V.b4) (u:=Value.none) J rfl q
 |brk=>
  obtain⟨_,_,_,q⟩:=hs;exact False.elim q
 |cont=>
  obtain⟨_,_,_,q⟩:=hs;exact False.elim q
section
variable{X:Cx}{x:Str}{p pos:Pos}{e:Expr}{es:List Expr}{t:TA}{id T:String}{r:List V->Hp->VK->Prop}
def Qh (r:List V->Hp->VK->Prop) (t:TA):TE:=fun σ H Q=>t σ H fun vs H1=>r vs H1 Q
theorem dG(hc:lC X (.builtin id) r)(hg:Gl X x)(hm:X.mg x=none)(hv:bootBuiltins x=some (.builtin id))(ha:PA X (e::es) t)(hn:x≠"__name__":=by decide)(GW:(x==("__debug__":Str))=false:=by decide)
 (he:zcr (e::es) X.env=(false,eval e X.env)::zcr es X.env:=by rfl) (A2:(backTo pos (zcr es X.env)).any (·.1)=false:=by rfl):PE X (.Call (.Name x p) (e::es) [] pos) (Qh r t):=by
 intro pins s σ H Q I h;refine wpAny_Call_Name_kw (nE I hg hm hv ?_ hn GW);exact PyProof.Rows.callWith_builtin1 (eP (ha pos pins s σ H _ I h) fun us s1 ⟨vs,H1,I1,r1,q1⟩=>hc pins s1 σ H1 vs us Q I1 r1 q1) he A2
theorem bT(hc:lC X (.type T) r)(hg:Gl X x)(hm:X.mg x=none)(hv:bootBuiltins x=some (.type T))(ha:PA X (e::es) t)(hn:x≠"__name__":=by decide)(GW:(x==("__debug__":Str))=false:=by decide)
 (he:zcr (e::es) X.env=(false,eval e X.env)::zcr es X.env:=by rfl) (A2:(backTo pos (zcr es X.env)).any (·.1)=false:=by rfl):PE X (.Call (.Name x p) (e::es) [] pos) (Qh r t):=by
 intro pins s σ H Q I h;refine wpAny_Call_Name_kw (nE I hg hm hv ?_ hn GW);exact zaH (eP (ha pos pins s σ H _ I h) fun us s1 ⟨vs,H1,I1,r1,q1⟩=>hc pins s1 σ H1 vs us Q I1 r1 q1) he A2
end
end L2
namespace HT
open PySem PyProof.Rows
section
variable{prog:zcx}{w:zcn}{A:zcw}{E:zcm->zcv->Prop}{s:zcv}
def fD (n d:Nat):Option Int->Nat
 |none=>d
 |some v=>if v<0 then (v+(n:Int)).toNat else min v.toNat n
theorem oM(n d:Nat):fD n d none=d:=rfl
theorem sk(n d k:Nat):fD n d (some (k:Int))=min k n:=by
 show (if (k:Int)<0 then ((k:Int)+(n:Int)).toNat else min (k:Int).toNat n)=min k n;rw[if_neg (by lia),zaa]
theorem DP(n d:Nat)(hd:d<=n)(o:Option Int):fD n d o<=n:=by
 cases o with
 |none=>exact hd
 |some v=>
  show (if v<0 then (v+(n:Int)).toNat else min v.toNat n)<=n;by_cases hv:v<0
  ·rw[if_pos hv];lia
  ·rw[if_neg hv];exact zbI _ _
theorem A4(v:Int)(n d:Nat):(if v<0 then max (v+(n:Int)) 0 else min v (n:Int))=((fD n d (some v):Nat):Int):=by
 show (if v<0 then max (v+(n:Int)) 0 else min v (n:Int))=(((if v<0 then (v+(n:Int)).toNat else min v.toNat n):Nat):Int);by_cases hv:v<0
 ·simp only[if_pos hv];lia
 ·simp only[if_neg hv];lia
theorem zU(lo hi:Option Int)(n:Nat):Builtin.Slice.sliceAdjust lo hi 1 (n:Int)=(((fD n 0 lo:Nat):Int),((fD n n hi:Nat):Int)):=by
 have h1:¬((1:Int)<0):=by lia
 unfold Builtin.Slice.sliceAdjust;simp only[h1,if_false];refine Prod.ext ?_ ?_
 ·cases lo with
  |none=>rfl
  |some v=>exact A4 v n 0
 ·cases hi with
  |none=>rfl
  |some v=>exact A4 v n n
theorem zV(i j:Nat):Builtin.Slice.slicePlaces (i:Int) (j:Int) 1=j-i:=by
 unfold Builtin.Slice.slicePlaces;have h1:(1:Int)>0:=by lia
 simp only[h1,if_true,Int.ediv_one];split<;>lia
theorem sT{v:zcm}{o:Option Int}{Q:Option Int->zcv->Prop}(p:IsPart v o)(h:Q o s):wpAny (model prog w) A (Builtin.Slice.slicePartIndex v) Q E s:=by
 cases p with
 |none=>exact slicePart_none h
 |int i t=>exact slicePart_int h
theorem jP{sl:zcl}{vl vu:zcm}{lo hi:Option Int}{n:Nat}{Q:Int×Int×Nat->zcv->Prop}(hs:s.heap.IsSliceOf sl vl vu .none)(pl:IsPart vl lo)(pu:IsPart vu hi)
 (h:Q (((fD n 0 lo:Nat):Int),1,fD n n hi-fD n 0 lo) s):wpAny (model prog w) A (Builtin.Slice.sliceApplied (.ref sl) (pure (n:Int))) Q E s:=by
 obtain⟨os,Kq,OU,M4⟩:=id hs;unfold Builtin.Slice.sliceApplied Builtin.Slice.sliceFields;refine zco (zco (wpAny_field Kq M4 (x:=vl) rfl (zco (wpAny_field Kq M4 (x:=vu) rfl (zco (wpAny_field Kq M4 (x:=.none) rfl (zcp ?_)))))));refine zco (slicePart_none ?_);show wpAny _ _ (if ((1:Int)==0)=true then _ else _) _ _ s;rw[if_neg (by decide)];refine zco (sT pl (zco (sT pu (zco (zcp ?_)))));show wpAny _ _ (match Builtin.Slice.sliceAdjust lo hi 1 (n:Int) with |(lo,hi)=>pure (lo,(1:Int),Builtin.Slice.slicePlaces lo hi 1)) _ _ s;rw[zU lo hi n];show wpAny _ _ (pure (((fD n 0 lo:Nat):Int),(1:Int),Builtin.Slice.slicePlaces ((fD n 0 lo:Nat):Int) ((fD n n hi:Nat):Int) 1)) _ _ s;rw[zV];exact zcp h
theorem DQ(xs:Array zcm)(i k:Nat):((zaq k).filterMap fun (m:Nat)=>xs[((i:Int)+(m:Int)*1).toNat]?).toArray=((xs.toList.drop i).take k).toArray:=by
 have e:(fun (m:Nat)=>xs[((i:Int)+(m:Int)*1).toNat]?)=fun m=>xs[i+m]?:=by
  funext m
  have:((i:Int)+(m:Int)*1).toNat=i+m:=by lia
  rw[this]
 rw[e];have:=pick_run xs i k;rw[List.filterMap_map] at this;have e2:((fun x=>xs[x]?) ∘ fun x=>i+x)=fun m=>xs[i+m]?:=rfl;rw[e2] at this;rw[this]
theorem oN{t sl:zcl}{items:Array zcm}{vl vu:zcm}{lo hi:Option Int}{Q:zcm->zcv->Prop}(ht:IsTup s.heap t items)(hs:s.heap.IsSliceOf sl vl vu .none)(pl:IsPart vl lo)(pu:IsPart vu hi)
 (hw:¬(fD items.size 0 lo=0/\fD items.size items.size hi=items.size))
 (h:Q (.ref s.heap.objs.size) {s with heap:=s.heap.push {cls:=.type "tuple",data:=.seq ((items.toList.drop (fD items.size 0 lo)).take (fD items.size items.size hi-fD items.size 0 lo)).toArray} })
 (hsz:items.size<=zct):wpAny (model prog w) A (getItem (.ref t) (.ref sl)) Q E s:=by
 have A5:sizeOk (.seq ((items.toList.drop (fD items.size 0 lo)).take (fD items.size items.size hi-fD items.size 0 lo)).toArray):=by
  show ((items.toList.drop (fD items.size 0 lo)).take (fD items.size items.size hi-fD items.size 0 lo)).toArray.size<=zct;rw[ZY,zaP,zaC,za4];lia
 have hj:fD items.size items.size hi<=items.size:=DP _ _ (ZQ _) hi;obtain⟨os,Kq,OU,M4⟩:=id hs;have Qi:s.TypeIs (.ref sl) "slice":=⟨os,Kq,OU⟩
 unfold getItem
 try with_reducible refine zcq ?_
 first |refine zco (zcp ?_) |skip
 refine zco (wpAny_sequenceKey ht.typeIs (by decide) ?_);refine zco (wpAny_callSpecial?_slot (name:=ZJ "__getitem__") ht.typeIs zaK
  (wpAny_call_entry zaK ht.typeIs entry_tuple_getitem ?_ (args_tuple_getitem _ _)))
 show wpAny _ _ (Builtin.Tuple.tupleItemsOf (.ref t) >>= _) _ _ s;refine zco (tupleItemsOf_ ht ?_);refine zco (wpAny_typeOf Qi ?_);rw[if_pos (by decide)];refine zco (jP hs pl pu ?_);have Qj:¬((((fD items.size 0 lo:Nat):Int)==0&&(1:Int)==1&&(fD items.size items.size hi-fD items.size 0 lo)==items.size)=true):=by
  intro q;rw[zam,zam] at q;have q1:((fD items.size 0 lo:Nat):Int)=0:=eq_of_beq q.1.1;have q2:fD items.size items.size hi-fD items.size 0 lo=items.size:=eq_of_beq q.2;exact hw ⟨by lia,by lia⟩
 show wpAny _ _ (if (((fD items.size 0 lo:Nat):Int)==0&&(1:Int)==1&&(fD items.size items.size hi-fD items.size 0 lo)==items.size)=true then _ else _) _ _ s;rw[if_neg Qj,DQ]
 first
  |exact zco (m:=Builtin.Tuple.tupleExact _) (wpAny_newObj_type (zcp ⟨_,rfl,zcp h⟩) A5)
  |exact zco (m:=Builtin.Tuple.tupleExact _) (wpAny_newObj_type (zco (zcp (zcp ⟨_,rfl,zcp h⟩))) A5)
  |exact zco (zco (m:=Builtin.Tuple.tupleExact _) (wpAny_newObj_type (zcp (zcp ⟨_,rfl,zcp h⟩)) A5))
  |exact zco (zco (m:=Builtin.Tuple.tupleExact _) (wpAny_newObj_type (zcp ⟨_,rfl,zcp h⟩) A5))
end
end HT
namespace L2
open PySem PySem.Spec PyProof.Rows
abbrev TO:=St->Hp->(Option Int->Hp->Prop)->Prop
def PO (X:Cx) (e:Option Expr) (t:TO):Prop:=
 ∀(pins:List (zcl×Obj)) (s:zcv) (σ:St) (H:Hp) (Q:Option Int->Hp->Prop),Inv X pins σ H s->t σ H Q->
  wpAny (model X.prog X.w) X.A (evalPart e X.env) (fun u s'=>∃o H',Inv X pins σ H' s'/\IsPart u o/\Q o H') X.xe s
def vZ:TO:=fun _ H Q=>Q none H
def DR (t:TE):TO:=fun σ H Q=>t σ H fun x H1=>∃i,x=.int i/\Q (some i) H1
section
variable{X:Cx}{e:Expr}{te:TE}{lo hi:Option Expr}{tl th:TO}{pos p2:Pos}
theorem kh:PO X none vZ:=by
 intro pins s σ H Q I h;rw[evalPart_none];exact zcp ⟨none,H,I,.none,h⟩
theorem kl(h:PE X e te):PO X (some e) (DR te):=by
 intro pins s σ H Q I hw;rw[evalPart_some];refine eP (h pins s σ H _ I hw) fun u s1 zqz=>?_;obtain⟨x,H1,I1,r1,q1⟩:=zqz;obtain⟨i,rfl,q⟩:=q1;obtain⟨t,rfl⟩:=r1;exact⟨some i,H1,I1,.int i t,q⟩
def M5 (X:Cx) (r:V->Option Int->Option Int->Hp->VK->Prop):Prop:=
 ∀(pins:List (zcl×Obj)) (s:zcv) (σ:St) (H:Hp) (x:V) (v vl vu:zcm) (lo hi:Option Int) (sl:zcl) (Q:VK),Inv X pins σ H s->RelV x v->s.heap.IsSliceOf sl vl vu .none->IsPart vl lo->IsPart vu hi->r x lo hi H Q->
  ∃T id,typeLookup (.type T) "__getitem__"=pure (some (.builtin id))/\s.TypeIs v T/\wpAny (model X.prog X.w) X.A (getItem v (.ref sl)) (EP X pins σ Q) X.xe s
def Qk (r:V->Option Int->Option Int->Hp->VK->Prop) (te:TE) (tl th:TO):TE:=fun σ H Q=>te σ H fun x H1=>tl σ H1 fun l H2=>th σ H2 fun u H3=>r x l u H3 Q
theorem ja{r:V->Option Int->Option Int->Hp->VK->Prop}(hr:M5 X r)(he:PE X e te)(hl:PO X lo tl)(hu:PO X hi th):PE X (.Subscript e (.Slice lo hi none p2) pos) (Qk r te tl th):=by
 intro pins s σ H Q I h;refine Subscript_ (eP (he pins s σ H _ I h) fun v s1 zqz=>?_);obtain⟨x,H1,I1,r1,q1⟩:=zqz;refine wpAny_Slice (eP (hl pins s1 σ H1 _ I1 q1) fun vl s2 zqz=>?_);obtain⟨l,H2,I2,pl,q2⟩:=zqz;refine eP (hu pins s2 σ H2 _ I2 q2) fun vu s3 zqz=>?_;obtain⟨u,H3,I3,pu,q3⟩:=zqz;rw[evalPart_none];refine zcp ?_;have I4:Inv X pins σ H3 {s3 with heap:=s3.heap.push {cls:=.type "slice",data:=.fields #[vl,vu,.none]} }:=I3.kept (t':=s3.toks) fun b ob q=>Heap.get?_push_of_some _ q;obtain⟨T,id,hT,ht,hg⟩:=hr pins {s3 with heap:=s3.heap.push {cls:=.type "slice",data:=.fields #[vl,vu,.none]} } σ H3 x v vl vu l u s3.heap.objs.size Q I4 r1 (Heap.IsSliceOf.new ..) pl pu q3;show wpAny (model X.prog X.w) X.A (subscriptTail e (.Slice lo hi none p2) v (.ref s3.heap.objs.size)) (EP X pins σ Q) X.xe {s3 with heap:=s3.heap.push {cls:=.type "slice",data:=.fields #[vl,vu,.none]} };exact tail_any (ops:=[.ref s3.heap.objs.size,v]) ht hT hg (by with_unfolding_all rfl)
def k4 (xs:List V) (lo hi:Option Int):List V:=(xs.drop (HT.fD xs.length 0 lo)).take (HT.fD xs.length xs.length hi-HT.fD xs.length 0 lo)
theorem qZ(xs:List V)(lo hi:Option Int):(k4 xs lo hi).length<=xs.length:=by
 unfold k4;rw[zaP,zaC];lia
def Ql (K:ZI):V->Option Int->Option Int->Hp->VK->Prop:=fun x lo hi H Q=>∃a xs,x=.ref a/\dq K H a xs/\
 ¬(HT.fD xs.length 0 lo=0/\HT.fD xs.length xs.length hi=xs.length)/\∀p,H p=none->Q (.ref p) (upd H p (.tup (k4 xs lo hi)))
theorem Kr:M5 X (Ql X.K):=by
 intro pins s σ H x v vl vu lo hi sl Q I rx hs pl pu h;obtain⟨a,xs,rfl,hx,hw,q⟩:=h;cases rx;obtain⟨a0,r,ht,hz⟩:=I.tuple hx;have hlen:a0.toArray.size=xs.length:=by rw[ZY];exact r.length.symm
 refine⟨"tuple",_,zaK.lookup,ht.typeIs,?_⟩;refine HT.oN ht hs pl pu (by rw[hlen];exact hw) ?_ (by rw[hlen];exact hz);rw[hlen];refine⟨.ref s.heap.objs.size,_,I.laid (t':=s.toks) (o:=.tup (k4 xs lo hi)) (fun b ob q=>Heap.get?_push_of_some _ q) (ZQ _) ?_,rfl,q _ (I.dg.fresh (ZQ _))⟩;exact⟨Z5 (qZ xs lo hi) hz,_,(r.drop (HT.fD xs.length 0 lo)).take (HT.fD xs.length xs.length hi-HT.fD xs.length 0 lo),IsTup.new _ _⟩
theorem Vals.bD{xs:List V}{us:List zcm}(r:Vals xs us):us=[]↔xs=[]:=by
 cases r with
 |nil=>simp
 |cons _ _=>simp
end
def GY (n:Nat) (i:Int):Option Nat:=if 0<=i then (if i<n then some i.toNat else none) else if -(n:Int)<=i then some (i+n).toNat else none
def xP {α:Type} (xs:List α) (i:Int):Option α:=(GY xs.length i).bind fun j=>xs[j]?
theorem A6{n:Nat}{i:Int}{j:Nat}(h:GY n i=some j):seqIndex? i n=some j/\j<n/\-(n:Int)<=i/\i<n:=by
 unfold GY at h;by_cases h0:0<=i
 ·rw[if_pos h0] at h;by_cases h1:i<n
  ·rw[if_pos h1] at h;have e:i.toNat=j:=zaf.inj h;exact⟨by rw[seqIndex_of h0 h1,e],by lia,by lia,h1⟩
  ·rw[if_neg h1] at h;cases h
 ·rw[if_neg h0] at h;by_cases h1 : -(n:Int)<=i
  ·rw[if_pos h1] at h;have e:(i+n).toNat=j:=zaf.inj h;exact⟨by rw[seqIndex_neg (by lia) h1,e],by lia,h1,by lia⟩
  ·rw[if_neg h1] at h;cases h
theorem v7{α:Type}{xs:List α}{i:Int}{v:α}(h:xP xs i=some v):∃j,seqIndex? i xs.length=some j/\xs[j]?=some v/\j<xs.length/\-(xs.length:Int)<=i/\i<xs.length:=by
 unfold xP at h;cases e:GY xs.length i with
 |none=>rw[e] at h;cases h
 |some j=>
  rw[e] at h;obtain⟨h1,h2,h3,h4⟩:=A6 e;exact⟨j,h1,h,h2,h3,h4⟩
theorem aq{α:Type}{xs:List α}{j:Nat}{v:α}(h:xs[j]?=some v):xP xs (j:Int)=some v:=by
 have hj:j<xs.length:=(ZR.mp h).1;have e:GY xs.length (j:Int)=some j:=by
  unfold GY;rw[if_pos (by lia),if_pos (by lia)];simp
 unfold xP;rw[e];exact h
def mh (b:Expr):Prop:=∀o i,subscripted b false o i=operate [o,i] (getItem o i)
def L0 (X:Cx) (r:R2):Prop:=
 ∀(value slice:Expr) (pins:List (zcl×Obj)) (s:zcv) (σ:St) (H:Hp) (x y:V) (v u:zcm) (Q:VK),Inv X pins σ H s->RelV x v->RelV y u->r x y H Q->
  subscripted slice false v u=operate [v,u] (getItem v u)->wpAny (model X.prog X.w) X.A (subscriptTail value slice v u) (EP X pins σ Q) X.xe s
def VG (X:Cx) (id:String) (r:V->List V->Hp->VK->Prop):Prop:=
 ∀(pins:List (zcl×Obj)) (s:zcv) (σ:St) (H:Hp) (x:V) (xs:List V) (v:zcm) (us:List zcm) (Q:VK),Inv X pins σ H s->RelV x v->Vals xs us->r x xs H Q->
  wpAny (model X.prog X.w) X.A (call (.builtin id) (v::us)) (EP X pins σ Q) X.xe s
section
variable{X:Cx}{a b:Expr}{ta tb:TE}{pos:Pos}
theorem ax{r:R2}(hr:L0 X r)(ha:PE X a ta)(hb:PE X b tb)(hs:mh b):PE X (.Subscript a b pos) (LZ r ta tb):=by
 intro pins s σ H Q I h;exact Subscript_ (Kj ha hb I h fun v u s2 x y H2 I2 rx ry q=>hr a b pins s2 σ H2 x y v u Q I2 rx ry q (hs _ _))
def DT (K:ZI):R2:=fun x y H Q=>∃p xs i v,x=.ref p/\y=.int i/\gQ K H p xs/\xP xs i=some v/\Q v H
def GZ (K:ZI):R2:=fun x y H Q=>∃p xs i v,x=.ref p/\y=.int i/\dq K H p xs/\xP xs i=some v/\Q v H
def Qm:R2:=fun x y H Q=>∃z i c,x=.str z/\y=.int i/\z.length<=zct/\xP z.cps.toList i=some c/\Q (.str ⟨#[c]⟩) H
theorem aF:L0 X (DT X.K):=by
 intro value slice pins s σ H x y v u Q I rx ry h hs;obtain⟨p,xs,i,z,rfl,rfl,hq,he,q⟩:=h;cases rx;obtain⟨t,rfl⟩:=ry;obtain⟨a0,r,pl,hz⟩:=I.list hq;obtain⟨j,h1,h2,h3,h4,h5⟩:=v7 he;obtain⟨w,ew,zW⟩:=r.get h2;have hl:=r.length;have hn:=qi;have fin:EP X pins σ Q w s:=⟨z,H,I,zW,q⟩
 by_cases h0:0<=i
 ·have hj:i.toNat=j:=by
   rw[seqIndex_of h0 h5] at h1;exact zaf.inj h1
  exact item_listR pl.isList h0 (by lia) (by rw[hj];simpa using ew) fin hs
 ·have hj:(i+(a0.toArray.size:Int)).toNat=j:=by
   rw[seqIndex_neg (by lia) h4] at h1;rw[ZY,<- hl];exact zaf.inj h1
  exact subscriptTail_builtinR (x:=w) pl.isList.typeIs slot_list_getitem.lookup
   (wpAny_getItem_list_neg (Q:=fun r s'=>r=w/\EP X pins σ Q r s') pl.isList (by lia) (by rw[ZY]<;>lia) (by lia) (by rw[hj];simpa using ew) ⟨rfl,fin⟩) hs
theorem aC:L0 X (GZ X.K):=by
 intro value slice pins s σ H x y v u Q I rx ry h hs;obtain⟨p,xs,i,z,rfl,rfl,hq,he,q⟩:=h;cases rx;obtain⟨t,rfl⟩:=ry;obtain⟨a0,r,pl,hz⟩:=I.tuple hq;obtain⟨j,h1,h2,h3,h4,h5⟩:=v7 he;obtain⟨w,ew,zW⟩:=r.get h2;have hl:=r.length;have hn:=qi;have fin:EP X pins σ Q w s:=⟨z,H,I,zW,q⟩
 exact subscriptTail_builtinR (x:=w) pl.typeIs slot_tuple_getitem.lookup
  (getItem_tuple (j:=j) (Q:=fun r s'=>r=w/\EP X pins σ Q r s') pl (by lia) (by lia) (by rw[ZY,<- hl];exact h1) (by simpa using ew) ⟨rfl,fin⟩) hs
theorem DU:L0 X Qm:=by
 intro value slice pins s σ H x y v u Q I rx ry h hs;obtain⟨z,i,c,rfl,rfl,hz,he,q⟩:=h;obtain⟨t,rfl⟩:=rx;obtain⟨t',rfl⟩:=ry;obtain⟨j,h1,h2,h3,h4,h5⟩:=v7 he;have hl:z.cps.toList.length=z.length:=by simp[Str.length]
 rw[hl] at h1 h4 h5;have hn:=qi;exact tail_any (typeIs_str s z t) slot_str_getitem.lookup (getItem_str (c:=c) (by
  have e1:decide (i < -(2 ^ 63:Int))=false:=decide_eq_false (by lia);have e2:decide (i ≥ 2 ^ 63)=false:=decide_eq_false (by lia);rw[e1,e2,Bool.or_false]) (by rw[h1];simpa using h2) ⟨.str ⟨#[c]⟩,H,I.tok _,⟨_,rfl⟩,q⟩) hs
theorem zX(a0:List zcm)(n j:Nat)(u:zcm):Obj.mapSeq (·.setIfInBounds j u) {cls:=.type "list",data:=.seq a0.toArray n}={cls:=.type "list",data:=.seq (a0.set j u).toArray n}:=by
 simp[Obj.mapSeq]
theorem Inv.lst{pins:List (zcl×Obj)}{σ:St}{H:Hp}{s:zcv}{p:zcl}{xs:List V}(I:Inv X pins σ H s)(h:H p=some (.lst xs)) :
 ∃(a0:List zcm) (n:Nat),Vals xs a0/\s.heap.get? p=some {cls:=.type "list",data:=.seq a0.toArray n}/\xs.length<=zct:=by
 obtain⟨z,a0,n,r,e⟩:=I.dg p _ h;exact⟨a0,n,r,e,z⟩
theorem Inv.Ks{pins:List (zcl×Obj)}{σ:St}{H:Hp}{s:zcv}{p:zcl}{xs ys:List V}{a0 its':List zcm}{n n':Nat}{f:Obj->Obj}(I:Inv X pins σ H s)(h:H p=some (.lst xs))
 (ho:s.heap.get? p=some {cls:=.type "list",data:=.seq a0.toArray n}) (hf:f {cls:=.type "list",data:=.seq a0.toArray n}={cls:=.type "list",data:=.seq its'.toArray n' }) (r:Vals ys its') (hz:ys.length<=zct) (t:Nat) :
 Inv X pins σ (upd H p (.lst ys)) {s with heap:=s.heap.update p f,toks:=t}:=by
 have e:(s.heap.update p f).get? p=some {cls:=.type "list",data:=.seq its'.toArray n' }:=by
  rw[Heap.get?_update_self f ho (by rw[hf]<;>rfl),hf]
 refine I.write (x:=p) (e:=p) (by rw[h];trivial) (.inl rfl) (fun b u hb q=>(Heap.get?_update_other _ _ (Ne.symm hb)).trans q) ⟨_,e⟩ ?_;exact⟨hz,its',n',r,e⟩
def Jg:V->V->V->Hp->(Hp->Prop)->Prop:=fun o i v H Q=>∃p xs k j,o=.ref p/\i=.int k/\H p=some (.lst xs)/\GY xs.length k=some j/\Q (upd H p (.lst (xs.set j v)))
theorem set_list:MK X Jg:=by
 intro pins s σ H o i v ov iv u Q I ro ri rv h;obtain⟨p,xs,k,j,rfl,rfl,hp,hj,q⟩:=h;cases ro;obtain⟨t,rfl⟩:=ri;obtain⟨a0,n,r,ho,hz⟩:=I.lst hp;obtain⟨h1,h2,h3,h4⟩:=A6 hj;have hl:=r.length;have hn:=qi;have I':Inv X pins σ (upd H p (.lst (xs.set j v))) {s with heap:=s.heap.update p (Obj.mapSeq (·.setIfInBounds j u))}:=
  I.Ks hp ho (zX a0 n j u) (r.set rv j) (by rw[zbS];exact hz) s.toks
 by_cases h0:0<=k
 ·have hk:k.toNat=j:=by
   rw[seqIndex_of h0 h4] at h1;exact zaf.inj h1
  exact PySem.W.ki_setAt ho h0 (by lia) (by rw[ZY,<- hl];exact h4) (by rw[hk];exact⟨_,I',q⟩)
 ·have hk:(k+(a0.toArray.size:Int)).toNat=j:=by
   rw[seqIndex_neg (by lia) h3] at h1;rw[ZY,<- hl];exact zaf.inj h1
  exact PySem.W.ki_setBack ho (by lia) (by rw[ZY,<- hl];exact h3) (by lia) (by rw[hk];exact⟨_,I',q⟩)
theorem wb(lo hi:Option Int)(n:Nat):(sliceBounds lo hi none n).1=((HT.fD n 0 lo:Nat):Int)/\(sliceBounds lo hi none n).2.1=((HT.fD n n hi:Nat):Int)/\(sliceBounds lo hi none n).2.2=1:=by
 refine⟨?_,?_,rfl⟩
 ·cases lo with
  |none=>simp[sliceBounds,HT.fD]
  |some i=>
   simp only[sliceBounds,HT.fD,Option.getD_none,show (1:Int)>0 by decide,if_true];by_cases h:i<0
   ·simp only[h,if_true]<;>lia
   ·simp only[h,if_false]<;>lia
 ·cases hi with
  |none=>simp[sliceBounds,HT.fD]
  |some i=>
   simp only[sliceBounds,HT.fD,Option.getD_none,show (1:Int)>0 by decide,if_true];by_cases h:i<0
   ·simp only[h,if_true]<;>lia
   ·simp only[h,if_false]<;>lia
theorem uK(a0:List zcm)(lo hi:Option Int):slicePick a0.toArray lo hi none=((a0.drop (HT.fD a0.length 0 lo)).take (HT.fD a0.length a0.length hi-HT.fD a0.length 0 lo)).toArray:=by
 obtain⟨h1,h2,h3⟩:=wb lo hi a0.toArray.size;unfold slicePick;rw[h1,h2,h3];simp only[sliceRange_one,pick_run,ZY]<;>rfl
def Qn (K:ZI):V->Option Int->Option Int->Hp->VK->Prop:=fun x lo hi H Q=>∃a xs,x=.ref a/\gQ K H a xs/\∀p,H p=none->Q (.ref p) (upd H p (.lst (k4 xs lo hi)))
theorem mi:M5 X (Qn X.K):=by
 intro pins s σ H x v vl vu lo hi sl Q I rx hs pl pu h;obtain⟨a,xs,rfl,hx,q⟩:=h;cases rx;obtain⟨a0,r,ht,hz⟩:=I.list hx;have hlen:=r.length;refine⟨"list",_,slot_list_getitem.lookup,ht.isList.typeIs,?_⟩;refine wpAny_getItem_list_slice ht.isList hs pl pu .none (by simp) ?_ (by rw[ZY]<;>lia);rw[uK,<- hlen];refine⟨.ref s.heap.objs.size,_,I.laid (t':=s.toks) (o:=.lst (k4 xs lo hi)) (fun b ob q=>Heap.get?_push_of_some _ q) (ZQ _) ?_,rfl,q _ (I.dg.fresh (ZQ _))⟩;exact⟨Z5 (qZ xs lo hi) hz,_,0,(r.drop (HT.fD xs.length 0 lo)).take (HT.fD xs.length xs.length hi-HT.fD xs.length 0 lo),Heap.get?_push_size _ rfl⟩
def rg:V->Bool
 |.b4=>true
 |.bl _=>true
 |.int _=>true
 |.str _=>true
 |_=>false
def Jh:V->V->Bool
 |.b4,.b4=>true
 |.bl a,.bl b=>a==b
 |.bl a,.int b=>(if a then 1 else 0)==b
 |.int a,.bl b=>a==(if b then 1 else 0)
 |.int a,.int b=>a==b
 |.str a,.str b=>a==b
 |_,_=>false
theorem Kt{A:zcw}{s:zcv}{y x:V}{u v:zcm}(ry:RelV y u)(rx:RelV x v)(fy:rg y=true)(fx:rg x=true):SeqAt.EqAt A s u v (Jh y x):=by
 cases y with
 |b4=>
  cases ry;cases x with
  |b4=>cases rx;exact SeqAt.EqAt.same _
  |bl b=>cases rx;exact SeqAt.EqAt.none_bool b
  |int b=>obtain⟨t,rfl⟩:=rx;exact SeqAt.EqAt.none_int b t
  |str b=>obtain⟨t,rfl⟩:=rx;exact SeqAt.EqAt.none_str b t
  |_=>exact absurd (show false=true from fx) ZM
 |bl a=>
  cases ry;cases x with
  |b4=>cases rx;exact SeqAt.EqAt.bool_none a
  |bl b=>cases rx;exact SeqAt.EqAt.bool_bool a b
  |int b=>obtain⟨t,rfl⟩:=rx;exact SeqAt.EqAt.bool_int a b t
  |str b=>obtain⟨t,rfl⟩:=rx;exact SeqAt.EqAt.bool_str a b t
  |_=>exact absurd (show false=true from fx) ZM
 |int a=>
  obtain⟨t',rfl⟩:=ry;cases x with
  |b4=>cases rx;exact SeqAt.EqAt.int_none a t'
  |bl b=>cases rx;exact SeqAt.EqAt.int_bool a t' b
  |int b=>obtain⟨t,rfl⟩:=rx;exact SeqAt.EqAt.int_int a t' b t
  |str b=>obtain⟨t,rfl⟩:=rx;exact SeqAt.EqAt.int_str a t' b t
  |_=>exact absurd (show false=true from fx) ZM
 |str a=>
  obtain⟨t',rfl⟩:=ry;cases x with
  |b4=>cases rx;exact SeqAt.EqAt.str_none a t'
  |bl b=>cases rx;exact SeqAt.EqAt.str_bool a t' b
  |int b=>obtain⟨t,rfl⟩:=rx;exact SeqAt.EqAt.str_int a t' b t
  |str b=>obtain⟨t,rfl⟩:=rx;exact SeqAt.EqAt.str_str a t' b t
  |_=>exact absurd (show false=true from fx) ZM
 |_=>exact absurd (show false=true from fy) ZM
def G0 (x:V) (u:zcm):Bool:=match u with
 |.none=>Jh .b4 x
 |.bool b=>Jh (.bl b) x
 |.int i _=>Jh (.int i) x
 |.str z _=>Jh (.str z) x
 |_=>false
theorem DV{x y:V}{u:zcm}(r:RelV y u)(f:rg y=true):G0 x u=Jh y x:=by
 cases y with
 |b4=>cases r;rfl
 |bl b=>cases r;rfl
 |int i=>obtain⟨t,rfl⟩:=r;rfl
 |str z=>obtain⟨t,rfl⟩:=r;rfl
 |_=>exact absurd (show false=true from f) ZM
theorem wc{x:V}:∀ {xs:List V} {us:List zcm},Vals xs us->xs.all rg=true->us.any (G0 x)=xs.any fun y=>Jh y x
 |_,_,.nil,_=>rfl
 |y::xs,u::us,.cons r t,f=>by
  rw[List.all_cons,zam] at f;rw[zbe,zbe,DV r f.1,wc t f.2]
theorem sU{A:zcw}{s:zcv}{x:V}{v:zcm}(rx:RelV x v)(fx:rg x=true):∀ {xs:List V} {us:List zcm},Vals xs us->xs.all rg=true->∀u∈us,SeqAt.EqAt A s u v (G0 x u)
 |_,_,.nil,_=>fun u hu=>by cases hu
 |y::xs,u::us,.cons r t,f=>fun u' hu=>by
  rw[List.all_cons,zam] at f;rcases ZS.mp hu with rfl |hu
  ·rw[DV r f.1];exact Kt r rx f.1 fx
  ·exact sU rx fx t f.2 u' hu
def L4 (x:V) (xs:List V):Bool:=xs.any fun y=>Jh y x
def VH (K:ZI) (neg:Bool):R2:=fun x y H Q=>∃p xs,y=.ref p/\(gQ K H p xs\/dq K H p xs)/\rg x=true/\xs.all rg=true/\Q (.bl (if neg then !L4 x xs else L4 x xs)) H
theorem ql:oF X (compareOp .In) (VH X.K false):=by
 intro pins s σ H x y v u Q I rx ry h;obtain⟨p,xs,rfl,hq,fx,fs,q⟩:=h;cases ry;rcases hq with hq |hq
 ·obtain⟨a0,r,pl,hz⟩:=I.list hq;refine SeqAt.in_listAt (G0 x) pl.isList (fun w hw=>sU rx fx r fs w (by simpa using hw)) ⟨.bl _,H,I,rfl,?_⟩;rw[show a0.toArray.any (G0 x)=a0.any (G0 x) by simp,wc r fs];exact q
 ·obtain⟨a0,r,pl,hz⟩:=I.tuple hq;refine SeqAt.in_tupleAt (G0 x) pl (fun w hw=>sU rx fx r fs w (by simpa using hw)) ⟨.bl _,H,I,rfl,?_⟩;rw[show a0.toArray.any (G0 x)=a0.any (G0 x) by simp,wc r fs];exact q
theorem cY:lC X (.builtin "len") (fun xs H Q=>∃p ys,xs=[.ref p]/\(gQ X.K H p ys\/dq X.K H p ys)/\Q (.int ys.length) H):=by
 intro pins s σ H xs us Q I r h;obtain⟨p,ys,rfl,hq,q⟩:=h;obtain⟨u,rfl,rx⟩:=vals1 r;cases rx;have hn:=qi;rcases hq with hq |hq
 ·obtain⟨a0,r',pl,hz⟩:=I.list hq;have hlen:=r'.length;exact Calls.call_len_list pl.isList (by simp only[ZY]<;>lia) ⟨.int ys.length,H,I.tok _,⟨s.toks+1,by rw[ZY,hlen]⟩,q⟩
 ·obtain⟨a0,r',pl,hz⟩:=I.tuple hq;have hlen:=r'.length;exact len_tuple pl (by simp only[ZY]<;>lia) ⟨.int ys.length,H,I.tok _,⟨s.toks+1,by rw[ZY,hlen]⟩,q⟩
theorem oO:lC X (.type "list") (fun xs H Q=>∃p ys,xs=[.ref p]/\(gQ X.K H p ys\/dq X.K H p ys)/\∀l,H l=none->Q (.ref l) (upd H l (.lst ys))):=by
 intro pins s σ H xs us Q I r h;obtain⟨p,ys,rfl,hq,q⟩:=h;obtain⟨u,rfl,rx⟩:=vals1 r;cases rx;have fin:∀(a0:List zcm),Vals ys a0->ys.length<=zct->∀(h':Heap) (c':Nat),(∀b o',s.heap.get? b=some o'->h'.get? b=some o')->
  h'.get? s.heap.objs.size=some {cls:=.type "list",dict:=none,data:=.seq a0.toArray c',slots:=#[]}->EP X pins σ Q (.ref s.heap.objs.size) {s with heap:=h' }:=fun a0 r' hz h' c' kp e=>
  ⟨.ref s.heap.objs.size,_,I.laid (t':=s.toks) kp (ZQ _) (show cJ X.prog X.w _ h' _ (.lst ys) from ⟨hz,a0,c',r',e⟩),rfl,q _ (I.dg.fresh (ZQ _))⟩
 rcases hq with hq |hq
 ·obtain⟨a0,r',pl,hz⟩:=I.list hq;have hlen:=r'.length;obtain⟨o,ho,hc,n,hd⟩:=pl.isList;exact call_list_seq p (.inl rfl) ho hc hd (fun h' c' kp e=>fin a0 r' hz h' c' kp e) (by simp only[ZY]<;>lia)
 ·obtain⟨a0,r',pl,hz⟩:=I.tuple hq;have hlen:=r'.length;obtain⟨o,ho,hc,n,hd⟩:=pl;exact call_list_seq p (.inr rfl) ho hc hd (fun h' c' kp e=>fin a0 r' hz h' c' kp e) (by simp only[ZY]<;>lia)
theorem fI:lC X (.type "tuple") (fun xs H Q=>∃p ys,xs=[.ref p]/\((gQ X.K H p ys/\∀l,H l=none->Q (.ref l) (upd H l (.tup ys)))\/(dq X.K H p ys/\Q (.ref p) H))):=by
 intro pins s σ H xs us Q I r h;obtain⟨p,ys,rfl,h⟩:=h;obtain⟨u,rfl,rx⟩:=vals1 r;cases rx;rcases h with ⟨hq,q⟩ |⟨hq,q⟩
 ·obtain⟨a0,r',pl,hz⟩:=I.list hq;have hlen:=r'.length;refine call_tuple_list pl.isList (fun h' kp=>?_) (by simp only[ZY]<;>lia);have I1:Inv X pins σ H {s with heap:=h' }:=I.kept (t':=s.toks) kp;have I2:Inv X pins σ (upd H h'.objs.size (.tup ys)) {s with heap:=h'.push {cls:=.type "tuple",data:=.seq a0.toArray} }:=
   I1.laid (t':=s.toks) (fun b o e=>Heap.get?_push_of_some _ e) (ZQ _) (show cJ X.prog X.w _ _ _ (.tup ys) from ⟨hz,a0,r',IsTup.new _ _⟩)
  exact⟨.ref h'.objs.size,_,I2,rfl,q _ (I1.dg.fresh (ZQ _))⟩
 ·obtain⟨a0,r',pl,hz⟩:=I.tuple hq;exact call_tuple_same pl ⟨.ref p,H,I,rfl,q⟩
def Qo (K:ZI) (T:String) (x:V) (H:Hp):Prop:=match x with
 |.str _=>T = "str"
 |.int _=>T = "int"
 |.ref p=>(T = "list"/\∃xs,gQ K H p xs)\/(T = "tuple"/\∃o,K.lookup p=some o/\o.cls=.type "tuple"/\o.dict=none)\/
  (T = "dict"/\((∃kvs,H p=some (.dK kvs))\/∃kvs,H p=some (.dT kvs)))\/(T = "set"/\∃S n,H p=some (.set S n))
 |_=>False
theorem Ku{pins:List (zcl×Obj)}{σ:St}{H:Hp}{s:zcv}{T:String}{x:V}{v:zcm}(I:Inv X pins σ H s)(r:RelV x v)(ty:Qo X.K T x H) :
 s.TypeIs v T/\∀a,v=.ref a->∃ob,s.heap.get? a=some ob/\ob.dict=none:=by
 cases x with
 |str z=>
  obtain⟨t,rfl⟩:=r;cases (show T = "str" from ty);exact⟨typeIs_str s z t,fun _ e=>nomatch e⟩
 |int i=>
  obtain⟨t,rfl⟩:=r;cases (show T = "int" from ty);exact⟨typeIs_int s i t,fun _ e=>nomatch e⟩
 |ref p=>
  cases r;rcases ty with ⟨rfl,xs,hq⟩ |⟨rfl,o,hk,hc,hd⟩ |⟨rfl,hk⟩ |⟨rfl,S,n,hk⟩
  ·obtain⟨a0,_,pl,_⟩:=I.list hq;refine⟨pl.isList.typeIs,fun a e=>?_⟩;cases e;obtain⟨o,n,e,c,hd,_⟩:=pl;exact⟨o,e,hd⟩
  ·refine⟨⟨o,I.rK p o hk,hc⟩,fun a e=>?_⟩;cases e;exact⟨o,I.rK _ o hk,hd⟩
  ·have z:∃o,s.heap.get? p=some o/\o.ExactDict:=by
    rcases hk with ⟨kvs,hk⟩ |⟨kvs,hk⟩
    ·obtain⟨_,_,_,_,o,_,_,e,ex,_⟩:=I.dg p _ hk;exact⟨o,e,ex⟩
    ·obtain⟨_,_,_,_,o,_,_,e,ex,_⟩:=I.dg p _ hk;exact⟨o,e,ex⟩
   obtain⟨o,e,ex⟩:=z;refine⟨⟨o,e,ex.1⟩,fun a e2=>?_⟩;cases e2;exact⟨o,e,ex.2.1⟩
  ·obtain⟨o,_,_,_,e,ex,_⟩:=I.dg p _ hk;refine⟨⟨o,e,ex.1⟩,fun a e2=>?_⟩;cases e2;exact⟨o,e,ex.2.1⟩
 |_=>exact False.elim ty
def M6 (K:ZI) (T:String) (r:V->List V->Hp->VK->Prop) (to:TE):TE:=fun σ H Q=>to σ H fun x H1=>Qo K T x H1/\r x [] H1 Q
def Qp (K:ZI) (T:String) (r:V->List V->Hp->VK->Prop) (to:TE) (t:TA):TE:=fun σ H Q=>to σ H fun x H1=>Qo K T x H1/\t σ H1 fun xs H2=>r x xs H2 Q
variable{o e:Expr}{es:List Expr}{to:TE}{t:TA}{name:Str}{apos xQ:Pos}{T id:String}{r:V->List V->Hp->VK->Prop}
theorem oP(pa:PlainAttrs T)(slot:Slot T name id)(VI:typeOf (.builtin id)=pure (.type "method_descriptor"))(hm:VG X id r)(ho:PE X o to)(ha:PA X (e::es) t)
 (M7:attributeBase o name X.env (eval o X.env)=eval o X.env:=by rfl)
 (Qq:((backTo xQ (zcr (e::es) X.env)).all (fun x=>!x.1)&&(backToKw xQ (keywordEach [] X.env)).all (fun x=>x.1.isSome)
  && decide ((e::es).length+([]:List Keyword).length+(if ([]:List Keyword).isEmpty then 0 else 1)<30))=true:=by rfl)
 (M8:(apos.endLine==xQ.line)=true:=by rfl) (hs:zcr (e::es) X.env=(false,eval e X.env)::zcr es X.env:=by rfl) (Kv:(backTo xQ (zcr es X.env)).any (·.1)=false:=by rfl) :
 PE X (.Call (.Attribute o name apos) (e::es) [] xQ) (Qp X.K T r to t):=by
 intro pins s σ H Q I h;refine wpAny_Call_method_late M7 Qq M8 rfl (eP (ho pins s σ H _ I h) fun v s1 zqz=>?_);obtain⟨x,H1,I1,r1,ty,q1⟩:=zqz;obtain⟨h1,h2⟩:=Ku I1 r1 ty;refine⟨T,id,pa,slot,VI,h1,h2,?_⟩;have hA:=ha xQ pins s1 σ H1 _ I1 q1;rw[hs] at hA ⊢;refine Calls.callWith_builtin (by show (false ||(backTo xQ (zcr es X.env)).any (·.1))=false;rw[Kv]<;>rfl) (Calls.evalArgs_plain ?_);exact eP hA fun us s2 ⟨vs,H2,I2,r2,q2⟩=>hm pins s2 σ H2 x vs v us Q I2 r1 r2 q2
end
def Qr (X:Cx) (id:String) (r:V->List V->Hp->VK->Prop):Prop:=
 ∀(pins:List (zcl×Obj)) (s:zcv) (σ:St) (H:Hp) (x:V) (xs:List V) (v:zcm) (us:List zcm) (Q:VK),Inv X pins σ H s->RelV x v->Vals xs us->r x xs H Q->
  wpAny (model X.prog X.w) X.A (call (.builtin id) (v::us)) (EP X pins σ Q) X.xe s
theorem Vals.one:∀ {x:V} {us:List zcm},Vals [x] us->∃u,us=[u]/\RelV x u
 |_,_,.cons r .nil=>⟨_,rfl,r⟩
section
variable{X:Cx}{pins:List (zcl×Obj)}{σ:St}{H:Hp}{s:zcv}{l b:zcl}{xs ys zs:List V}
theorem Inv.M9{a0 its':List zcm}{n:Nat}{f:Array zcm->Array zcm}{t':Nat}(I:Inv X pins σ H s)(hH:H l=some (.lst xs))
 (e:s.heap.get? l=some {cls:=.type "list",data:=.seq a0.toArray n}) (hf:f a0.toArray=its'.toArray) (hv:Vals ys its') (hz:ys.length<=zct) :
 Inv X pins σ (upd H l (.lst ys)) {s with heap:=s.heap.update l (Obj.mapSeq f),toks:=t' }:=by
 have q:=PySem.IsL.update e f;rw[hf] at q;refine I.write (x:=l) (e:=l) (by rw[hH];exact trivial) (.inl rfl) (fun b' u hb hu=>(Heap.get?_update_other s.heap (Obj.mapSeq f) (Ne.symm hb)).trans hu) ⟨_,q⟩ ?_;exact⟨hz,its',_,hv,q⟩
theorem Inv.Qs{a0:List zcm}{t':Nat}(I:Inv X pins σ H s)(hv:Vals ys a0)(hz:ys.length<=zct) :
 Inv X pins σ (upd H s.heap.objs.size (.lst ys)) {s with heap:=s.heap.push {cls:=.type "list",data:=.seq a0.toArray},toks:=t' }:=
 I.laid (fun _ _ q=>Heap.get?_push_of_some _ q) (ZQ _) ⟨hz,a0,0,hv,Heap.get?_push_size _ rfl⟩
theorem Inv.fresh(I:Inv X pins σ H s):H s.heap.objs.size=none:=I.dg.fresh (ZQ _)
theorem Inv.Cd(I:Inv X pins σ H s)(hH:H l=some (.lst xs)):xs.length<=zct/\∃(a0:List zcm) (n:Nat),Vals xs a0/\xs.length=a0.length/\s.heap.get? l=some {cls:=.type "list",data:=.seq a0.toArray n}:=by
 obtain⟨z,a0,n,r,e⟩:=I.dg l _ hH;exact⟨z,a0,n,r,r.length,e⟩
theorem DW{n:Nat}(h:n<=zct):Builtin.List.listTooLong n=false:=by
 unfold Builtin.List.listTooLong;exact decide_eq_false (by lia)
end
section
variable{X:Cx}
def G1:V->List V->Hp->VK->Prop:=fun x vs H Q=>∃l xs y,x=.ref l/\vs=[y]/\H l=some (.lst xs)/\xs.length<zct/\Q .b4 (upd H l (.lst (xs++[y])))
theorem i6:Qr X "list.append" G1:=by
 intro pins s σ H x vs v us Q I rx rv h;obtain⟨l,xs,y,rfl,rfl,hH,hz,q⟩:=h;cases rx;obtain⟨u,rfl,ru⟩:=rv.one;obtain⟨z,a0,n,r,hl,e⟩:=I.Cd hH;refine call_meets F.slot_list_append ⟨_,e,rfl⟩ F.entry_list_append (F.args_list_append_2 _ _) (PySem.list_append l a0.toArray n u (by rw[ZY];lia)) ⟨e,?_⟩;refine⟨.b4,_,I.M9 (its':=a0++[u]) hH e (by simp) (r.append (.cons ru .nil)) ?_,rfl,q⟩;rw[ZP,zbb];lia
def G3:V->List V->Hp->VK->Prop:=fun x vs H Q=>∃l b xs zs,x=.ref l/\vs=[.ref b]/\H l=some (.lst xs)/\H b=some (.lst zs)/\xs.length+zs.length<=zct/\Q .b4 (upd H l (.lst (xs++zs)))
theorem vj:Qr X "list.extend" G3:=by
 intro pins s σ H x vs v us Q I rx rv h;obtain⟨l,b,xs,zs,rfl,rfl,hH,hB,hz,q⟩:=h;cases rx;obtain⟨u,rfl,ru⟩:=rv.one;cases ru;obtain⟨z,a0,n,r,hl,e⟩:=I.Cd hH;obtain⟨z2,sV,n2,r2,OV,e2⟩:=I.Cd hB;have hsz:a0.toArray.size+sV.toArray.size<=zct:=by rw[ZY,ZY];lia
 have Na:¬(!a0.toArray.isEmpty&&Builtin.List.listTooLong (a0.toArray.size+sV.toArray.size))=true:=by
  rw[DW hsz,Bool.and_false];exact ZM
 refine call_meets F.slot_list_extend ⟨_,e,rfl⟩ F.entry_list_extend (F.args_list_extend_2 _ _)
  (AutoSeq1.list_extend_list_list_0 l a0.toArray n b sV.toArray n2 Na (by rw[ZY];lia) (by lia)) ⟨e,e2,?_⟩
 refine⟨.b4,_,I.M9 (its':=a0++sV) hH e (by simp) (r.append r2) ?_,rfl,q⟩;rw[ZP];lia
def Qt:R2:=fun x y H Q=>∃l b xs zs,x=.ref l/\y=.ref b/\H l=some (.lst xs)/\H b=some (.lst zs)/\xs.length+zs.length<=zct/\∀p,H p=none->Q (.ref p) (upd H p (.lst (xs++zs)))
theorem km:oF X (binaryOp .Add) Qt:=by
 intro pins s σ H x y v u Q I rx ry h;obtain⟨l,b,xs,zs,rfl,rfl,hH,hB,hz,q⟩:=h;cases rx;cases ry;obtain⟨z,a0,n,r,hl,e⟩:=I.Cd hH;obtain⟨z2,sV,n2,r2,OV,e2⟩:=I.Cd hB;refine PySem.P.add_list e e2 ?_ (by rw[ZY,ZY];lia);have ea:a0.toArray++sV.toArray=(a0++sV).toArray:=by simp
 rw[ea];exact⟨.ref _,_,I.Qs (t':=s.toks) (r.append r2) (by rw[ZP];lia),rfl,q _ I.fresh⟩
end
end L2
namespace SU
open PySem PySem.W PySem.Calls PyProof.Rows
theorem rL{P:Params}{h:Heap}:∀(ns:List Int) (vs:List zcm),WellAll P h vs (ns.map WData.int)->IntsAre vs ns:=by
 intro ns
 induction ns with
 |nil=>
  intro vs w;rw[zaD] at w;cases w;exact .nil
 |cons n ns ih=>
  intro vs w;rw[ZW] at w;cases w with
  |cons a b=>
   cases a;exact .cons _ _ (ih _ b)
theorem Ce{l:OpenLaw}{n:Nat}(hn:l.most=some n){P:Params}{h:Heap}{args:List WData}{vals:List zcm}
 (G4:l.row.toRowW.claim.pre args=true) (Qu:WellAll P h vals args) :
 ∃a vs ns,vals=[Value.ref a]/\args=[WData.list (ns.map WData.int)]/\h.get? a=some {cls:=.type "list",data:=.seq vs.toArray}/\IntsAre vs ns/\ns.length<=n:=by
 have VJ:WShape.hasAll [] args [.list .int]=true:=(pre_splitW G4).1;have hc:l.pre.holds [] {args:=args}=true:=(pre_splitW G4).2;obtain⟨d,r,rfl,h1,h2⟩:=hasAllW_cons VJ;obtain rfl:=hasAllW_nil h2;obtain⟨xs,rfl,h3⟩:=hasW_list h1;obtain⟨ns,rfl⟩:=items_int h3;have hlen:ns.length<=n:=by
  unfold OpenLaw.pre at hc;have h4:(WTm.not (.lt (.lit (.int (n:Int))) (.len (.arg 0)))).holds [] {args:=[.list (ns.map .int)]}=true:=by
   have h4:=(holds_andW hc).1;rw[hn] at h4;exact h4
  have h5:=condW_of h4 (w_not (w_lt w_lit (w_len_list (w_arg rfl))));rw[ZL] at h5;refine Nat.le_of_not_lt fun q=>?_;have q':(n:Int)<((ns.length:Nat):Int):=by lia
  first
   |(rw[decide_eq_true q'] at h5;exact absurd h5 (by decide))
   |(simp at h5;lia)
 cases Qu with
 |cons w1 w2=>
  cases w2;cases w1 with
  |list ho Qv=>exact⟨_,_,ns,rfl,rfl,ho,rL ns _ Qv,hlen⟩
theorem Cf(l:OpenLaw)(args:List WData):l.row.toRowW.claim.post args (.bool true) args=true:=
 postW_of (r:=l.row.toRowW) (X:=(true==true))
  (show WShape.has [] (.bool true) .bool=true by first |rfl |decide |simp[WShape.has,WShape.arms,WShape.armsAll])
  (show (WTm.eq .res (.lit (.bool true))).value [] {args:=args,res:=some (.bool true),after:=args}=some (.bool (true==true)) from w_eq_bool (w_res rfl) w_lit) rfl
theorem xR{l:OpenLaw}{n:Nat}{q:zcx}{loose:List Str}{XP:(Str->Option zcm)->Heap->Prop}{YP:zcn->Heap->Prop}{d:DefRec}
 (hn:l.most=some n) (Nb:d.params.defaults=[])
 (call:∀(w:zcn) (s₀ s₁:zcv) (mg mb:Str->Option zcm) (fa:zcl) (o:Obj) (pm cd doc:zcm) (a:zcl) (vs:List zcm) (ns:List Int),
  Ground q loose [] XP w s₀ mg mb s₁.heap->YP w s₁.heap->
  s₁.heap.get? fa=some o->o.data=.func (docDef d.name d.params d.body d.scope pm cd doc)->s₁.heap.CodeRec cd d.name->mg d.name=some (.ref fa)->
  s₁.heap.get? a=some {cls:=.type "list",data:=.seq vs.toArray}->IntsAre vs ns->ns.length<=n->s₁.gens = #[]->
  codeAny (model l.prog w) callerA (.call (.ref fa) ⟨[.ref a],[]⟩) (fun r s'=>r=.ok (.ret (.bool true))/\OldK s₁.heap s'.heap/\s'.os=s₁.os/\AllBare s'.gens) s₁) :
 WalkO q loose XP YP l.row.toRowW d [] (fun f vs=>PySem.call f vs):=by
 intro w s₀ s₁ mg mb G Y fa o pm cd doc dV kV ho hd zj hD Nc hg args vals as G4 VL YY Qu YZ;obtain rfl:dV=.none:=Dflts.none hD Nb;obtain rfl:kV=.none:=Dflts.noKw hD;obtain⟨a,vs,ns,rfl,rfl,Kw,hints,hlen⟩:=Ce hn G4 Qu;refine enter_call (codeAny_mono (call w s₀ s₁ mg mb fa o pm cd doc a vs ns G Y ho (fd_plain hd) zj Nc Kw hints hlen hg) fun r s' hq=>?_);obtain⟨rfl,h2,h3,h4⟩:=hq;exact⟨.inl ⟨.bool true,.bool true,[],rfl,fun _=>rfl,.bool true,Cf l _,fun _=>⟨List.Pairwise.nil,fun _ hm=>(nomatch hm)⟩⟩,h2,h3,h4⟩
end SU
namespace L2
open PySem PySem.Spec PyProof.Rows
theorem vk:∀ {vs:List zcm} {ns:List Int},IntsAre vs ns->Vals (ns.map V.int) vs
 |_,_,.nil=>.nil
 |_,_,.cons n t h=>.cons ⟨t,rfl⟩ (vk h)
def Kx (H:Hp):Prop:=∀b,H b=none\/∃o xs,H b=some (.AK o (.lst xs))
theorem DX{P:zcx}{w:zcn}{K:ZI}{mg mb:Str->Option zcm}{CX:Cb}{k:Nat}{fa a:zcl}{fd:zcu}{x:Str}{sp:Sp}{s₁:zcv}{vs:List zcm}{ns:List Int}
 (KX:K.In s₁.heap) (OW:s₁.heap.Ns zcs mg) (hb:s₁.heap.Ns builtinsNs mb) (L5:∀x:Str,x≠"__name__"->mb x=bootBuiltins x) (Qw:s₁.heap.NoLimit) (hg:s₁.gens = #[])
 (ha:s₁.heap.get? a=some {cls:=.type "list",data:=.seq vs.toArray}) (hi:IntsAre vs ns) (hl:ns.length<=zct) (hr:gJ k callerA)
 (F:∀base:Heap,K.In base->base.Ns zcs mg->bw P w K mg base CX k fa fd [x] sp) (Nd:∀(s:zcv) (u:zcm),BindsTo s fd ⟨[u],[]⟩ [(x,u)])
 (Jf:∀H:Hp,Kx H->gQ K H a (ns.map V.int)->sp [.ref a] H (fun v _=>v=.bl true) fun _ _ _=>False)
 (Qx:∀H e s',CX [] H s₁ (fun _ _ _=>False) e s'->False) :
 codeAny (model P w) callerA (.call (.ref fa) ⟨[.ref a],[]⟩) (fun r s'=>r=.ok (.ret (.bool true))/\OldK s₁.heap s'.heap/\s'.os=s₁.os/\AllBare s'.gens) s₁:=by
 have rv:=vk hi;have Qy:=hi.length;have core:∀H:Hp,Kx H->gQ K H a (ns.map V.int)->nv P w H s₁.heap->(∀b,H b≠none->b=a)->(H a≠none->K.lookup a=none)->
  codeAny (model P w) callerA (.call (.ref fa) ⟨[.ref a],[]⟩) (fun r s'=>r=.ok (.ret (.bool true))/\OldK s₁.heap s'.heap/\s'.os=s₁.os/\AllBare s'.gens) s₁:=by
  intro H hO hS dg hA hK;have A7:∀ {b:zcl} {o:Obj},s₁.heap.get? b=some o->H b=none->(vU s₁.heap H).get? b=some o:=fun e n=>Dq e n;have M0:∀ {b:zcl} {o:Obj} {es:Array DictEntry} {ep:Nat},s₁.heap.get? b=some o->o.data=.dict es ep->H b=none:=fun {b o es ep} e d=>by
   cases q:H b with
   |none=>rfl
   |some u=>
    have e':b=a:=hA b (by rw[q];simp);subst e';rw[ha] at e;cases e;have d':Data.seq vs.toArray _=Data.dict es ep:=d;cases d'
  have OX:∀ {b:zcl} {m:Str->Option zcm},s₁.heap.Ns b m->(vU s₁.heap H).Ns b m:=fun {b m} ⟨o,es,ep,e,d,r⟩=>⟨o,es,ep,A7 e (M0 e d),d,r⟩
  have SV:K.In (vU s₁.heap H):=fun b o e=>A7 (KX b o e) (by
   cases q:H b with
   |none=>rfl
   |some u=>
    have e':b=a:=hA b (by rw[q];simp);subst e';rw[hK (by rw[q];simp)] at e;cases e)
  have hM:Mod K mg (vU s₁.heap H):=⟨SV,OX OW,⟨mb,OX hb,L5⟩,let ⟨mc,h1,h2⟩:=Qw;⟨mc,OX h1,h2⟩⟩
  have e0:zS P w K mg (vU s₁.heap H) callerA [] s₁ H:=⟨rfl,hM,fun b o e=>GI e,zcf (BY _ _),trivial,fun b hb=>absurd (show b∈([]:List zcl) from hb) (by simp),dg,.of_eq hg⟩
  refine codeAny_mono ((F _ SV (OX OW)).run callerA [] s₁ H ⟨[.ref a],[]⟩ [.ref a] [.ref a] _ _ hr e0 (Nd s₁ (.ref a)) (.cons rfl .nil) (Jf H hO hS)) fun r s' h=>?_;cases r with
  |error e=>exact(Qx H e s' h).elim
  |ok fl=>
   cases fl with
   |next=>exact False.elim h
   |brk=>exact False.elim h
   |cont=>exact False.elim h
   |ret u=>
    obtain⟨v,H',os,bare,un,Qz,r',q⟩:=h;have q':v=.bl true:=q;subst q';obtain rfl:u=Value.bool true:=r';refine⟨rfl,OldK.of_keep fun b o e=>?_,os,bare⟩;cases q:H b with
    |none=>exact un.keep b o e q (by intro z;exact absurd (show b∈([]:List zcl) from z) (by simp)) (by simp)
    |some u=>
     rcases hO b with z |⟨ob,xs,z⟩
     ·rw[q] at z;cases z
     ·have z2:=un.uD b ob _ z;obtain⟨e1,_⟩:=dg b _ z;obtain⟨e2,_⟩:=Qz b _ z2;rw[e] at e1;cases e1;exact e2
 cases hk:K.lookup a with
 |some o=>
  have e:=KX a o hk;rw[ha] at e;cases e;refine core (fun _=>none) (fun _=>.inl rfl) (.inr ⟨_,vs.toArray,_,hk,rfl,rfl,rfl,by rw[ZY,Qy];exact hl,by simpa using rv⟩) (fun b u z=>by have z':(none:Option HO)=some u:=z;cases z') (fun b z=>absurd rfl z) fun z=>absurd rfl z
 |none=>
  refine core (fun b=>if b=a then some (.AK {cls:=.type "list",data:=.seq vs.toArray} (.lst (ns.map V.int))) else none) (fun b=>?_) (.inl (.inr ⟨{cls:=.type "list",data:=.seq vs.toArray},if_pos rfl⟩)) (fun b u z=>?_) (fun b z=>?_) fun _=>hk
  ·by_cases hb:b=a
   ·exact .inr ⟨_,_,if_pos hb⟩
   ·exact .inl (if_neg hb)
  ·by_cases hb:b=a
   ·have z':=(if_pos hb).symm.trans z;cases z';subst hb;exact⟨ha,by rw[ZL];exact hl,vs,_,rv,ha⟩
   ·have z':=(if_neg hb).symm.trans z;cases z'
  ·by_cases hb:b=a
   ·exact hb
   ·exact absurd (if_neg hb) z
theorem G5{l:PySem.W.OpenLaw}{n k:Nat}{q:zcx}{loose:List Str}{XP:(Str->Option zcm)->Heap->Prop}{YP:zcn->Heap->Prop}{d:DefRec}{K:Params->ZI}{CX:zcn->Cb}{sp:zcn->Sp}{x:Str}
 (hn:l.most=some n) (OS:n<=zct) (Nb:d.params.defaults=[]) (hr:gJ k callerA)
 (hY:∀(w:zcn) (h:Heap),YP w h->(K w.params).In h)
 (F:∀(w:zcn) (mg:Str->Option zcm) (fa:zcl) (h:Heap),(K w.params).In h->h.Ns zcs mg->mg d.name=some (.ref fa)->
  ∃fd:zcu,(∀(s:zcv) (u:zcm),BindsTo s fd ⟨[u],[]⟩ [(x,u)])/\
   ∀base:Heap,(K w.params).In base->base.Ns zcs mg->bw l.prog w (K w.params) mg base (CX w) k fa fd [x] (sp w))
 (Jf:∀(w:zcn) (H:Hp) (a:zcl) (ns:List Int),ns.length<=n->Kx H->gQ (K w.params) H a (ns.map V.int)->sp w [.ref a] H (fun v _=>v=.bl true) fun _ _ _=>False)
 (Qx:∀(w:zcn) (H:Hp) (s:zcv) (e:zcm) (s':zcv),CX w [] H s (fun _ _ _=>False) e s'->False) :
 PySem.W.WalkO q loose XP YP l.row.toRowW d [] (fun f vs=>PySem.call f vs):=by
 refine SU.xR hn Nb fun w s₀ s₁ mg mb fa o pm cd doc a vs ns G Y ho hd zj Nc Kw hints hlen hg=>?_;have KX:=hY w _ Y;obtain⟨fd,hb,hF⟩:=F w mg fa _ KX G.T.g Nc;exact DX KX G.T.g G.T.b G.T.builtins G.T.nolimit hg Kw hints (Z5 hlen OS) hr hF hb (fun H hO hS=>Jf w H a ns hlen hO hS) fun H e s'=>Qx w H s₁ e s'
def inClass (s:Stmt) (j:Nat):Stmt:=match s with
 |.ClassDef _ _ _ body _ _ _ _ _ _ _=>body.getD j (.Pass ⟨0,0,0,0⟩)
 |_=>.Pass ⟨0,0,0,0⟩
def fL (s:Stmt):Arguments:=match s with
 |.FunctionDef _ a _ _ _ _ _ _ _ _=>a
 |_=>{posonlyargs:=[],args:=[],vararg:=none,kwonlyargs:=[],kw_defaults:=[],kwarg:=none,defaults:=[]}
def eL (s:Stmt):List Stmt:=match s with
 |.FunctionDef _ _ b _ _ _ _ _ _ _=>b
 |_=>[]
def aJ (s:Stmt):Scope:=match s with
 |.FunctionDef _ _ _ _ _ _ sc _ _ _=>sc
 |_=>{kind:=.function,names:=[],isGenerator:=false,isCoroutine:=false}
abbrev eM:Cb:=fun _ _ _ _ _ _=>False
abbrev E0:XK:=fun _ _ _=>False
theorem A8{X:Cx}:Passes eM X E0:=fun _ _ _ _ _ _ _ h=>h.elim
structure Df(K:ZI)(x qual:Str)(st:Stmt)(f:zcl)(fd:zcu):Prop where
 ex:∃(oc:zcm) (od:Option zcl) (kV doc pm:zcm) (an:Option zcl) (fq ct:zcm) (Gx:Array (Option zcm)),
  fd=zao x qual (fL st) (eL st) (aJ st) .none kV doc pm an fq ct/\K.lookup f=some ⟨oc,od,.func fd,Gx⟩/\za0 K fq qual=true
 kp:zay K (.ref f)=true
section
variable{P:zcx}{w:zcn}{K:ZI}{mg:Str->Option zcm}{base:Heap}
theorem Df.ok{x qual:Str}{st:Stmt}{f:zcl}{fd:zcu}{N ps:List Str}{k:Nat}{sp:Sp}(F:Df K x qual st f fd)(S:aZ N ps (aJ st))(len:∀vs H Q E,sp vs H Q E->vs.length=ps.length)
 (xO:∀(fq:zcm) (A:zcw) (outer:List Env) (s:zcv) (H:Hp) (vs:List V) (Q:VK) (E:XK),gJ k (A.deeper (envOfC qual (aJ st) s.heap.objs.size f fq))->sp vs H Q E->
  ∃t,AQ (uJ eM P w K mg base N qual (aJ st) f fq A outer s H E).MH (eL st) t/\t {nx:=fun _ H'=>Q .b4 H',rt:=Q} (start N vs) H):bw P w K mg base eM (k+1) f fd ps sp:=by
 obtain⟨oc,od,kV,doc,pm,an,fq,ct,Gx,rfl,lk,zj⟩:=F.ex;refine M1 lk zj S len fun A outer s H vs Q E hr Jf=>?_;obtain⟨t,h,q⟩:=xO fq A outer s H vs Q E hr Jf;exact⟨t,h.MH,q⟩
theorem Df.binds{x qual:Str}{st:Stmt}{f:zcl}{fd:zcu}{ps:List Str}(F:Df K x qual st f fd)
 (h:∀(kV doc pm:zcm) (an:Option zcl) (fq ct:zcm) (us:List zcm),us.length=ps.length->bindArgs (zao x qual (fL st) (eL st) (aJ st) .none kV doc pm an fq ct) ⟨us,[]⟩=pure (ps.zip us)):Binds K fd ps []:=by
 obtain⟨oc,od,kV,doc,pm,an,fq,ct,Gx,rfl,lk,zj⟩:=F.ex;exact .all (h kV doc pm an fq ct)
theorem we{x qual:Str}{st:Stmt}{f:zcl}{oc:zcm}{od an:Option zcl}{Gx:Array (Option zcm)}{kV doc pm fq ct:zcm}(l:K.lookup f=some ⟨oc,od,.func (zao x qual (fL st) (eL st) (aJ st) .none kV doc pm an fq ct),Gx⟩)
 (c:za0 K fq qual=true) (k:zay K (.ref f)=true):Df K x qual st f (zao x qual (fL st) (eL st) (aJ st) .none kV doc pm an fq ct):=⟨⟨oc,od,kV,doc,pm,an,fq,ct,Gx,rfl,l,c⟩,k⟩
end
theorem dX{A:zcw}{k:Nat}(hr:gJ k A):A.units+1<cLine:=za7 (Nat.add_le_add_left (by decide:1<=64) _) hr.units
theorem Cg{n:Nat}(h:n<=1000):n<zct:=za7 h (by decide)
section
variable{X:Cx}
theorem pv(i:Nat){x:Str}{pos:Pos}(hN:X.N[i]?=some x:=by rfl)(hv:Mv X.env.scope x:=by first |exact zau rfl |exact zbJ (zau rfl) |exact zbJ (zbJ rfl))(hd:(x==("__debug__":Str))=false:=by decide)
 (zj:(x==("__classdict__":Str))=false:=by decide):PE X (.Name x pos) (fj i):=J8 hN hv hd zj
end
theorem fR{c A B:Prop}[Decidable c](h1:c->A)(h2:¬c->B):if c then A else B:=by
 by_cases h:c
 ·rw[if_pos h];exact h1 h
 ·rw[if_neg h];exact h2 h
def aw (H H':Hp):Prop:=∀b o,H b=some o->H' b=some o
theorem aw.refl(H:Hp):aw H H:=fun _ _ h=>h
theorem aw.trans{H H1 H2:Hp}(a:aw H H1)(b:aw H1 H2):aw H H2:=fun c o h=>b c o (a c o h)
theorem aw.free{H H':Hp}(e:aw H H'){l:zcl}(h:H' l=Option.none):H l=Option.none:=by
 cases q:H l with
 |none=>rfl
 |some o=>
  rw[e l o q] at h;cases h
theorem aw.seq{K:ZI}{H H':Hp}{a:zcl}{xs:List V}(e:aw H H')(h:gQ K H a xs):gQ K H' a xs:=by
 rcases h with (h |⟨o,h⟩) |h
 ·exact .inl (.inl (e _ _ h))
 ·exact .inl (.inr ⟨o,e _ _ h⟩)
 ·exact .inr h
section
variable{κ:Type}[DecidableEq κ]
def b5 (kvs:List (κ×V)) (k:κ):Option V:=(kvs.find? fun kv=>decide (kv.1=k)).map (·.2)
def putK (kvs:List (κ×V)) (k:κ) (v:V):List (κ×V):=
 if (kvs.any fun kv=>decide (kv.1=k))=true then kvs.map (fun kv=>if kv.1=k then (kv.1,v) else kv) else kvs++[(k,v)]
theorem b6{p:κ×V}{r:List (κ×V)}{k:κ}(e:p.1=k):b5 (p::r) k=some p.2:=by simp[b5,za8,e]
theorem bY{p:κ×V}{r:List (κ×V)}{k:κ}(e:¬p.1=k):b5 (p::r) k=b5 r k:=by simp[b5,za8,e]
theorem jb(k:κ):∀kvs:List (κ×V),(kvs.any fun kv=>decide (kv.1=k))=(b5 kvs k).isSome
 |[]=>rfl
 |p::r=>by
  rw[zbe];by_cases e:p.1=k
  ·simp only[b6 e,decide_eq_true e,Bool.true_or,Option.isSome_some]
  ·rw[bY e,decide_eq_false e,Bool.false_or];exact jb k r
theorem xS(k j:κ)(y:V):∀kvs:List (κ×V),b5 (kvs.map fun kv=>if kv.1=k then (kv.1,y) else kv) j=(b5 kvs j).map fun x=>if j=k then y else x
 |[]=>rfl
 |p::r=>by
  have ih:=xS k j y r;rw[ZW];by_cases h:p.1=k
  ·rw[if_pos h];by_cases e:p.1=j
   ·rw[b6 (p:=(p.1,y)) e,b6 e,zaG,if_pos (e.symm.trans h)]
   ·rw[bY (p:=(p.1,y)) e,bY e,ih]
  ·rw[if_neg h];by_cases e:p.1=j
   ·rw[b6 (p:=p) e,b6 e,zaG,if_neg (fun z=>h (e.trans z))]
   ·rw[bY (p:=p) e,bY e,ih]
theorem vm(k j:κ)(y:V):∀kvs:List (κ×V),b5 kvs k=none->b5 (kvs++[(k,y)]) j=if j=k then some y else b5 kvs j
 |[],_=>by
  by_cases e:k=j
  ·rw[if_pos e.symm];exact b6 (p:=(k,y)) e
  ·rw[if_neg (fun z=>e z.symm)];exact bY (p:=(k,y)) e
 |p::r,hn=>by
  rw[zbc];have hk:¬p.1=k:=fun z=>by rw[b6 z] at hn;cases hn
  rw[bY hk] at hn;have ih:=vm k j y r hn;by_cases e:p.1=j
  ·rw[b6 e,b6 e,if_neg (fun z=>hk (e.trans z))]
  ·rw[bY e,bY e,ih]
theorem xT(kvs:List (κ×V))(k j:κ)(y:V):b5 (putK kvs k y) j=if j=k then some y else b5 kvs j:=by
 unfold putK;by_cases a:(kvs.any fun kv=>decide (kv.1=k))=true
 ·rw[if_pos a,xS];rw[jb] at a;by_cases e:j=k
  ·obtain⟨x,hx⟩:=zbH.mp a;rw[if_pos e,e,hx,zaG,if_pos rfl]
  ·rw[if_neg e];cases b5 kvs j with
   |none=>rfl
   |some x=>rw[zaG,if_neg e]
 ·rw[if_neg a];refine vm k j y kvs ?_;rw[jb] at a;cases q:b5 kvs k with
  |none=>rfl
  |some x=>rw[q] at a;exact(a rfl).elim
theorem gZ(kvs:List (κ×V))(k:κ)(v:V):(putK kvs k v).length<=kvs.length+1:=by
 unfold putK;split
 ·rw[ZL];lia
 ·rw[ZP,ZN,zaj];lia
theorem k0.mn{o:Option V}{u:Option zcm}(r:k0 o u):o.isSome=u.isSome:=by
 cases o with
 |none=>cases u with
  |none=>rfl
  |some _=>exact(show False from r).elim
 |some _=>cases u with
  |none=>exact(show False from r).elim
  |some _=>rfl
theorem KV.val{kvs:List (κ×V)}{vs:List (κ×zcm)}(r:KV kvs vs)(k:κ):k0 (b5 kvs k) (valueAt vs k):=by
 unfold KV at r
 induction r with
 |nil=>exact True.intro
 |@cons p q ps qs h t ih=>
  obtain⟨h1,h2⟩:=h;by_cases e:p.1=k
  ·have e':q.1=k:=h1.symm.trans e;have b:valueAt (q::qs) k=some q.2:=by simp[valueAt,za8,e']
   rw[b6 e,b];exact h2
  ·have e':¬q.1=k:=fun z=>e (h1.trans z);have b:valueAt (q::qs) k=valueAt qs k:=by simp[valueAt,za8,e']
   rw[bY e,b];exact ih
theorem KV.any{kvs:List (κ×V)}{vs:List (κ×zcm)}(r:KV kvs vs)(k:κ):(kvs.any fun kv=>decide (kv.1=k))=vs.any fun kv=>decide (kv.1=k):=by
 unfold KV at r
 induction r with
 |nil=>rfl
 |cons h t ih=>rw[zbe,zbe,ih,h.1]
theorem KV.Ky{kvs:List (κ×V)}{vs:List (κ×zcm)}(r:KV kvs vs)(k:κ){y:V}{u:zcm}(ry:RelV y u) :
 KV (kvs.map fun kv=>if kv.1=k then (kv.1,y) else kv) (vs.map fun kv=>if kv.1=k then (kv.1,u) else kv):=by
 unfold KV at r ⊢
 induction r with
 |nil=>exact .nil
 |@cons p q ps qs h t ih=>
  rw[ZW,ZW];refine .cons ?_ ih;obtain⟨h1,h2⟩:=h;by_cases e:p.1=k
  ·rw[if_pos e,if_pos (h1.symm.trans e)];exact⟨h1,ry⟩
  ·rw[if_neg e,if_neg (fun z=>e (h1.trans z))];exact⟨h1,h2⟩
theorem KV.put{kvs:List (κ×V)}{vs:List (κ×zcm)}(r:KV kvs vs)(k:κ){y:V}{u:zcm}(ry:RelV y u):KV (putK kvs k y) (stored vs k u):=by
 unfold putK stored;rw[r.any k];by_cases e:(vs.any fun kv=>decide (kv.1=k))=true
 ·rw[if_pos e,if_pos e];exact r.Ky k ry
 ·rw[if_neg e,if_neg e];exact Paired.snoc r ⟨rfl,ry⟩
theorem KV.length{kvs:List (κ×V)}{vs:List (κ×zcm)}(r:KV kvs vs):kvs.length=vs.length:=Paired.length r
end
theorem vn{P:zcx}{w:zcn}{k:Key}{u:zcm}(r:RelV (kV k) u):(bG P w).is k u=true:=by
 cases k with
 |inl i=>obtain⟨t,e⟩:=(show ∃t,u=Value.int i t from r);subst e;exact xF P w i t
 |inr x=>obtain⟨t,e⟩:=(show ∃t,u=Value.str x t from r);subst e;exact xG P w x t
theorem qm{P:zcx}{w:zcn}:∀ {ks:List Key} {us:List zcm},Vals (ks.map kV) us->ItemsAre (bG P w) ks us
 |[],_,r=>by rw[zaD] at r;cases r;exact .nil
 |k::ks,_,r=>by
  rw[ZW] at r;cases r with
  |cons h t=>exact .cons (vn h) (qm t)
abbrev KT (H:Hp):List (List Key×V)->List (List Key×zcl×zcm)->Prop:=Paired fun p q=>p.1=q.1/\H q.2.1=some (.tup (p.1.map kV))/\RelV p.2 q.2.2
theorem KT.val{H:Hp}{kvs:List (List Key×V)}{xs:List (List Key×zcl×zcm)}(r:KT H kvs xs)(k:List Key):k0 (b5 kvs k) ((atKey xs k).map (·.2)):=by
 induction r with
 |nil=>exact True.intro
 |@cons p q ps qs h t ih=>
  obtain⟨h1,_,h2⟩:=h;by_cases e:p.1=k
  ·have e':q.1=k:=h1.symm.trans e;have b:atKey (q::qs) k=some q.2:=by simp[atKey,za8,e']
   rw[b6 e,b];exact h2
  ·have e':¬q.1=k:=fun z=>e (h1.trans z);have b:atKey (q::qs) k=atKey qs k:=by simp[atKey,za8,e']
   rw[bY e,b];exact ih
theorem KT.Ky{H:Hp}{kvs:List (List Key×V)}{xs:List (List Key×zcl×zcm)}(r:KT H kvs xs)(k:List Key){y:V}{u:zcm}(ry:RelV y u) :
 KT H (kvs.map fun kv=>if kv.1=k then (kv.1,y) else kv) (xs.map (putAt k u)):=by
 induction r with
 |nil=>exact .nil
 |@cons p q ps qs h t ih=>
  rw[ZW,ZW];refine .cons ?_ ih;obtain⟨h1,h2,h3⟩:=h;unfold putAt;by_cases e:p.1=k
  ·rw[if_pos e,if_pos (h1.symm.trans e)];exact⟨h1,h2,ry⟩
  ·rw[if_neg e,if_neg (fun z=>e (h1.trans z))];exact⟨h1,h2,h3⟩
theorem KT.put{H:Hp}{kvs:List (List Key×V)}{xs:List (List Key×zcl×zcm)}(r:KT H kvs xs)(k:List Key){b:zcl}{y:V}{u:zcm}(hb:H b=some (.tup (k.map kV)))(ry:RelV y u) :
 KT H (putK kvs k y) (storedH xs k b u):=by
 have e:(kvs.any fun kv=>decide (kv.1=k))=(atKey xs k).isSome:=by
  rw[jb,(r.val k).mn,zbj]
 unfold putK storedH;rw[e];by_cases q:(atKey xs k).isSome=true
 ·rw[if_pos q,if_pos q];exact r.Ky k ry
 ·rw[if_neg q,if_neg q];exact Paired.snoc r ⟨rfl,hb,ry⟩
theorem KT.keeps{H H':Hp}{kvs:List (List Key×V)}{xs:List (List Key×zcl×zcm)}(r:KT H kvs xs)(ht:∀b ys,H b=some (.tup ys)->H' b=some (.tup ys)):KT H' kvs xs:=
 Paired.Dn r fun _ _ z=>⟨z.1,ht _ _ z.2.1,z.2.2⟩
section
variable{P:zcx}{w:zcn}{H:Hp}{h:Heap}{a:zcl}
theorem Ji{u:HO}(ok:nv P w H h)(e:Rd H a u):cJ P w H h a u:=e.ok ok
theorem DY{kvs:List (Key×V)}(ok:nv P w H h)(e:Rd H a (.dK kvs)):kvs.length<=zct/\(a==sysModules)=false/\∃vs,KV kvs vs/\h.DictOf (bG P w) a vs:=
 show cJ P w H h a (.dK kvs) from Ji ok e
theorem Jj{kvs:List (Key×V)}(ok:nv P w H h)(e:H a=some (.dK kvs)):kvs.length<=zct/\(a==sysModules)=false/\∃vs,KV kvs vs/\h.DictOf (bG P w) a vs:=DY ok (.inl e)
theorem zY{ks:List Key}(ok:nv P w H h)(e:H a=some (.tup (ks.map kV))):(tupleKind (bG P w)).is h ks a:=by
 obtain⟨_,a0,r,o,h1,h2,n,h3⟩:=(show cJ P w H h a (.tup (ks.map kV)) from ok a _ e)
 exact⟨o,a0.toArray,n,h1,h2,h3,by simpa using qm r⟩
theorem DZ{kvs:List (List Key×V)}(ok:nv P w H h)(e:Rd H a (.dT kvs)):kvs.length<=zct/\(a==sysModules)=false/\
 ∃xs,KT H kvs xs/\h.DictOfH (tupleKind (bG P w)) a xs:=by
 obtain⟨z,y,xs,r,o,es,ep,h1,h2,h3,h4,h5⟩:=(show cJ P w H h a (.dT kvs) from Ji ok e)
 refine⟨z,y,xs,r,o,es,ep,h1,h2,h3,h4,fun x hx=>?_,h5⟩;have all:∀ {l:List (List Key×V)} {m:List (List Key×zcl×zcm)},KT H l m->∀x∈m,(tupleKind (bG P w)).is h x.1 x.2.1:=by
  intro l m q
  induction q with
  |nil=>intro x hx;exact nomatch hx
  |@cons p q ps qs hq t ih=>
   intro x hx;rcases ZS.mp hx with e |hx
   ·subst e;exact zY ok (by rw[<- hq.1];exact hq.2.1)
   ·exact ih x hx
 exact all r x hx
theorem Nf{kvs:List (List Key×V)}(ok:nv P w H h)(e:H a=some (.dT kvs)):kvs.length<=zct/\(a==sysModules)=false/\
 ∃xs,KT H kvs xs/\h.DictOfH (tupleKind (bG P w)) a xs:=DZ ok (.inl e)
end
def oQ (H:Hp) (a:zcl) (y:V) (r:Option V):Prop:=
 (∃kvs k,Rd H a (.dK kvs)/\y=kV k/\r=b5 kvs k)\/∃kvs k b,Rd H a (.dT kvs)/\y=.ref b/\H b=some (.tup (k.map kV))/\r=b5 kvs k
def zZ (H:Hp) (a:zcl) (y v:V) (H':Hp):Prop:=
 (∃kvs k,H a=some (.dK kvs)/\y=kV k/\kvs.length<zct/\H'=upd H a (.dK (putK kvs k v)))\/
 ∃kvs k b,H a=some (.dT kvs)/\y=.ref b/\H b=some (.tup (k.map kV))/\kvs.length<zct/\H'=upd H a (.dT (putK kvs k v))
theorem oQ.k{H:Hp}{a:zcl}{kvs:List (Key×V)}{k:Key}(e:H a=some (.dK kvs)):oQ H a (kV k) (b5 kvs k):=.inl ⟨kvs,k,.inl e,rfl,rfl⟩
theorem zZ.k{H:Hp}{a:zcl}{kvs:List (Key×V)}{k:Key}{v:V}(e:H a=some (.dK kvs))(hl:kvs.length<zct):zZ H a (kV k) v (upd H a (.dK (putK kvs k v))):=.inl ⟨kvs,k,e,rfl,hl,rfl⟩
section
variable{X:Cx}{pins:List (zcl×Obj)}{σ:St}{H:Hp}{s:zcv}{a:zcl}{y v:V}{u r:zcm}{o:Option V}{A:zcw}{E:zcm->zcv->Prop}
theorem Inv.big(I:Inv X pins σ H s):sysModules<s.heap.objs.size:=by
 have h:zcs<s.heap.objs.size:=(I.mod.glob.keeps I.bk).lt;exact Nat.lt_trans (by decide) h
theorem Ci{Q:zcm->zcv->Prop}(hu:A.units+1<cLine)(I:Inv X pins σ H s)(g:oQ H a y (some v))(ry:RelV y u)(h:∀w' s',Inv X pins σ H s'->RelV v w'->Q w' s') :
 wpAny (model X.prog X.w) A (getItem (.ref a) u) Q E s:=by
 rcases g with ⟨kvs,k,e,ey,l⟩ |⟨kvs,k,b,e,ey,eb,l⟩
 ·subst ey;obtain⟨z,hd,vs,rel,dd⟩:=DY I.dg e;obtain⟨w',hw,zW⟩:=k0.some_of (v:=v) (o:=valueAt vs k) (by rw[l];exact rel.val k);exact wpAny_getItem_of (vn ry) dd.mapOf hw (h w' _ (I.tok _) zW)
 ·subst ey;cases (show u=Value.ref b from ry);obtain⟨z,hd,xs,rel,dd⟩:=DZ I.dg e;obtain⟨w',hw,zW⟩:=k0.some_of (v:=v) (o:=(atKey xs k).map (·.2)) (by rw[l];exact rel.val k);obtain⟨p,hp,qe⟩:=zaI.mp hw;refine wpAny_getItem_heap (tupleKind_room_in1 hu) (zY I.dg eb) dd hp ?_;rw[qe];exact h w' _ (I.tok _) zW
theorem sr{h':Heap}{t':Nat}{ob:HO}(I:Inv X pins σ H s)(mu:Mq (H a))(hs:Heap.SameBut a s.heap h')(he:∃q,h'.get? a=some q)(new:cJ X.prog X.w (upd H a ob) h' a ob) :
 Inv X pins σ (upd H a ob) {s with heap:=h',toks:=t' }:=
 I.write (x:=a) (e:=a) mu (.inl rfl) (fun b q hb z=>(hs.2 b hb).trans z) he new
theorem z0{P:zcx}{w:zcn}{H':Hp}{h':Heap}{kvs:List (Key×V)}{vs:List (Key×zcm)}(z:kvs.length<=zct)(hd:(a==sysModules)=false)(rel:KV kvs vs)(dd:h'.DictOf (bG P w) a vs) :
 cJ P w H' h' a (.dK kvs):=⟨z,hd,vs,rel,dd⟩
theorem Cj{H':Hp}{Q:Unit->zcv->Prop}(hu:A.units+1<cLine)(I:Inv X pins σ H s)(g:zZ H a y v H')(ry:RelV y u)(rv:RelV v r)(h:∀s',Inv X pins σ H' s'->Q () s') :
 wpAny (model X.prog X.w) A (setItem (.ref a) u r) Q E s:=by
 rcases g with ⟨kvs,k,e,ey,l,eH⟩ |⟨kvs,k,b,e,ey,eb,l,eH⟩
 ·subst ey eH;obtain⟨z,hd,vs,rel,dd⟩:=Jj I.dg e;have hz:vs.length<=zct:=by rw[<- rel.length];exact z
  have hl:(putK kvs k v).length<=zct:=by have:=gZ kvs k v;lia
  refine wpAny_setItem_pairs (hsz:=hz) (vn ry) dd fun h' L6 hs=>h _ ?_;have he:∃q,h'.get? a=some q:=let ⟨q,_,_,hq,_⟩:=L6;⟨q,hq⟩;exact sr I (by rw[e];exact True.intro) hs he (z0 hl hd (rel.put k rv) L6)
 ·subst ey eH;cases (show u=Value.ref b from ry);obtain⟨z,hd,xs,rel,dd⟩:=Nf I.dg e;have hz:xs.length<=zct:=by rw[<- Paired.length rel];exact z
  have hl:(putK kvs k v).length<=zct:=by have:=gZ kvs k v;lia
  refine wpAny_setItem_heap (hsz:=hz) (tupleKind_room_in1 hu) (zY I.dg eb) dd fun h' L6 hs=>h _ ?_;obtain⟨q,es,ep,hq,h2,h3,h4,_,h5⟩:=L6;refine sr I (by rw[e];exact True.intro) hs ⟨q,hq⟩ ⟨hl,hd,_,(rel.put k eb rv).keeps fun c ys ec=>?_,q,es,ep,hq,h2,h3,h4,h5⟩;rw[aR (bX ec e (fun z=>nomatch z))];exact ec
end
def Kz (i:Expr):Prop:=∀ov iv,subscripted i false ov iv=operate [ov,iv] (getItem ov iv)
theorem A9{prog:zcx}{w:zcn}{A:zcw}{E:zcm->zcv->Prop}{s:zcv}{env:Env}{value slice:Expr}{pos:Pos}{T id:String}{Q:zcm->zcv->Prop}
 (hl:typeLookup (.type T) "__getitem__"=pure (some (.builtin id))) (hs:Kz slice)
 (h:wpAny (model prog w) A (eval value env) (fun o s₁=>wpAny (model prog w) A (eval slice env) (fun i s₂=>s₂.TypeIs o T/\wpAny (model prog w) A (getItem o i) Q E s₂) E s₁) E s) :
 wpAny (model prog w) A (eval (.Subscript value slice pos) env) Q E s:=by
 refine Subscript_ (wpAny_mono h (fun o s₁ h₁=>wpAny_mono h₁ (fun i s₂ h₂=>?_) fun _ _ x=>x) fun _ _ x=>x);obtain⟨hT,h₂⟩:=h₂;unfold subscriptTail;refine zco ?_;rw[getitemInPython_of_ne hT.not_modules];refine zco (wpAny_specialOf hT hl ?_);have fin:wpAny (model prog w) A (subscripted slice false o i) (fun r s₃=>wpAny (model prog w) A (letTemporaryGo value o r >>= fun _=>pure r) Q E s₃) E s₂:=by
  rw[hs o i];exact wpAny_operating (wpAny_mono h₂ (fun r s₃ h₃=>zco (wpAny_letTemporaryGo (zcp h₃))) fun _ _ x=>x)
 first
  |exact zcp (zco fin)
  |exact zco (zcp (zco fin))
  |exact zco fin
theorem xU{X:Cx}{pins:List (zcl×Obj)}{σ:St}{H:Hp}{s:zcv}{a:zcl}{y:V}{o:Option V}(I:Inv X pins σ H s)(g:oQ H a y o):s.TypeIs (.ref a) "dict":=by
 rcases g with ⟨kvs,k,e,_,_⟩ |⟨kvs,k,b,e,_,_,_⟩
 ·obtain⟨_,_,vs,_,dd⟩:=DY I.dg e;exact dd.typeIs
 ·obtain⟨_,_,xs,_,dd⟩:=DZ I.dg e;exact dd.typeIs
def Jk (td ty:TE):TE:=fun σ H Q=>td σ H fun x H1=>ty σ H1 fun y H2=>∃a v,x=.ref a/\oQ H2 a y (some v)/\Q v H2
def Jl (td ty tv:TE):TS:=fun D σ H=>tv σ H fun v H1=>td σ H1 fun x H2=>ty σ H2 fun y H3=>∃a H4,x=.ref a/\zZ H3 a y v H4/\D.nx σ H4
section
variable{X:Cx}{o i e value:Expr}{pos pos' Qf:Pos}{td ty tv:TE}
theorem fw(hu:X.A.units+1<cLine)(ho:PE X o td)(hi:PE X i ty)(hs:Kz i):PE X (.Subscript o i pos) (Jk td ty):=by
 intro pins s σ H Q I h;refine A9 PySem.F.slot_dict_getitem.lookup hs (eP (ho pins s σ H _ I h) fun u s1 zqz=>?_);obtain⟨x,H1,I1,rx,q1⟩:=zqz;refine eP (hi pins s1 σ H1 _ I1 q1) fun iv s2 zqz=>?_;obtain⟨y,H2,I2,ry,a,v,ex,g,q2⟩:=zqz;subst ex;obtain rfl:u=Value.ref a:=rx;exact⟨xU I2 g,Ci hu I2 g ry fun w' s3 I3 zW=>⟨v,H2,I3,zW,q2⟩⟩
theorem oR(hu:X.A.units+1<cLine)(ho:PE X o td)(hi:PE X i ty)(hv:PE X value tv)(hs:swapsWith value (some (.Subscript o i pos')) pos.line X.env=pure false) :
 PS X (.Assign [.Subscript o i pos'] value pos) (Jl td ty tv):=by
 intro pins s σ H D I h;refine wpAny_Assign_Subscript (eP (hv pins s σ H _ I h) fun r s1 zqz=>?_) hs;obtain⟨v,H1,I1,rv,q1⟩:=zqz;refine eP (ho pins s1 σ H1 _ I1 q1) fun u s2 zqz=>?_;obtain⟨x,H2,I2,rx,q2⟩:=zqz;refine eP (hi pins s2 σ H2 _ I2 q2) fun iv s3 zqz=>?_;obtain⟨y,H3,I3,ry,a,H4,ex,g,q3⟩:=zqz;subst ex;obtain rfl:u=Value.ref a:=rx;exact Cj hu I3 g ry rv fun s4 I4=>⟨σ,H4,I4,q3⟩
end
theorem D0{P:zcx}{w:zcn}{H:Hp}(h:Heap)(hb:sysModules<h.objs.size):cJ P w H (h.push {cls:=.type "dict",data:=.dict #[]}) h.objs.size (.dK []):=
 ⟨zac _,beq_eq_false_iff_ne.mpr (Ne.symm (Z3 hb)),[],.nil,Heap.DictOf.new h⟩
def Ea:TE:=fun _ H Q=>∀p,H p=none->Q (.ref p) (upd H p (.dK []))
section
variable{X:Cx}{pos:Pos}
theorem Eb:PE X (.Dict [] [] pos) Ea:=fun pins s σ H Q I h=>
 wpAny_Dict_empty ⟨.ref s.heap.objs.size,_,I.laid (a:=s.heap.objs.size) (o:=.dK []) (t':=s.toks) (fun _ _ q=>Heap.get?_push_of_some _ q) (ZQ _) (D0 s.heap I.big),rfl,h _ (I.dg.fresh (ZQ _))⟩
end
def ko (kvs more:List (Key×V)):List (Key×V):=more.foldl (fun acc kv=>putK acc kv.1 kv.2) kvs
theorem KV.merge:∀ {more:List (Key×V)} {rs:List (Key×zcm)} {kvs:List (Key×V)} {vs:List (Key×zcm)},KV more rs->KV kvs vs->KV (ko kvs more) (merged vs rs):=by
 intro more rs kvs vs r;unfold KV at r
 induction r generalizing kvs vs with
 |nil=>intro q;exact q
 |@cons p q ps qs h t ih=>
  intro r0;have e:KV (putK kvs p.1 p.2) (stored vs q.1 q.2):=by
   have:=r0.put p.1 h.2;rw[<- h.1];exact this
  exact ih e
theorem jG:∀(more kvs:List (Key×V)),(ko kvs more).length<=kvs.length+more.length
 |[],kvs=>by show kvs.length<=kvs.length+0;lia
 |p::r,kvs=>by
  have h1:=jG r (putK kvs p.1 p.2);have h2:=gZ kvs p.1 p.2;show (ko (putK kvs p.1 p.2) r).length<=_;rw[ZN];lia
def qo (env:Env):List (Str×NameKind)->List (Str×zcl)->List (Str×zcl)
 |[],cs=>cs
 |(n,k)::r,cs=>qo env r (if k==.free then (n,(env.cells.lookup n).getD 0)::cs else cs)
theorem rM{scope:Scope}{env:Env}(h:∀p∈scope.names,p.2=.free->∃c,env.cells.lookup p.1=some c):closureFor scope env=pure (qo env scope.names []):=by
 have all:∀(l:List (Str×NameKind)) (cs:List (Str×zcl)),(∀p∈l,p.2=.free->∃c,env.cells.lookup p.1=some c)->
  (forIn l cs fun (x:Str×NameKind) (r:List (Str×zcl))=>if (x.2==NameKind.free)=true then do let a <- cellOf env x.1;pure (ForInStep.yield ((x.1,a)::r)) else (pure (ForInStep.yield r):Sem _))=pure (qo env l cs):=by
  intro l
  induction l with
  |nil=>intro cs _;rfl
  |cons p r ih=>
   intro cs hp;obtain⟨n,k⟩:=p;rw[zap];by_cases hk:k=.free
   ·subst hk;obtain⟨c,e⟩:=hp (n,.free) Z0 rfl;have e1:cellOf env n=pure c:=by unfold cellOf;rw[e]
    simp only[beq_self_eq_true,if_true,e1,pure_bind];rw[ih _ fun p L7=>hp p (ZV _ L7)];simp[qo,e]
   ·have hb:(k==NameKind.free)=false:=by simpa using hk
    simp only[hb,Z2,if_false,pure_bind];rw[ih _ fun p L7=>hp p (ZV _ L7)];simp[qo,hb]
 simp only[closureFor];rw[all scope.names [] h];simp
theorem oS{env:Env}{x:Str}{c:zcl}:∀ {l:List (Str×NameKind)} {cs:List (Str×zcl)},(∀p∈l,p.2=.free->∃c,env.cells.lookup p.1=some c)->(∀x c,cs.lookup x=some c->env.cells.lookup x=some c)->
 (qo env l cs).lookup x=some c->env.cells.lookup x=some c
 |[],_,_,h,e=>h x c e
 |(n,k)::r,cs,hp,h,e=>by
  unfold qo at e;refine oS (fun p q=>hp p (ZV _ q)) ?_ e;intro y d q;by_cases hk:k=.free
  ·subst hk;obtain⟨c',e'⟩:=hp (n,.free) Z0 rfl;simp only[beq_self_eq_true,if_true] at q;rw[zaE] at q;cases hy:y==n with
   |true=>
    rw[hy] at q;have:y=n:=by simpa using hy
    subst this;simp only at e';rw[e'] at q ⊢;exact q
   |false=>rw[hy] at q;exact h y d q
  ·have hb:(k==NameKind.free)=false:=by simpa using hk
   simp only[hb,Z2,if_false] at q;exact h y d q
theorem sW{env:Env}{x:Str}:∀ {l:List (Str×NameKind)} {cs:List (Str×zcl)},((∃c,cs.lookup x=some c)\/(x,NameKind.free)∈l)->∃c,(qo env l cs).lookup x=some c
 |[],_,h=>by
  rcases h with h |h
  ·exact h
  ·exact absurd h (by simp)
 |(n,k)::r,cs,h=>by
  unfold qo
  apply sW
  rcases h with ⟨c,h⟩ |h
  ·left
   by_cases hk:k=.free
   ·subst hk;simp only[beq_self_eq_true,if_true];rw[zaE];cases hy:x==n with
    |true=>exact⟨_,rfl⟩
    |false=>exact⟨c,h⟩
   ·have hb:(k==NameKind.free)=false:=by simpa using hk
    simp only[hb,Z2,if_false];exact⟨c,h⟩
  ·rcases ZS.mp h with e |h
   ·injection e with e1 e2
    subst e1;subst e2
    left
    simp only[beq_self_eq_true,if_true];rw[zaE];simp
   ·exact .inr h
theorem lE{scope:Scope}{env:Env}{x:Str}:(relabel scope env).names.lookup x=(scope.names.lookup x).map fun k=>if (k==NameKind.free&&env.scope.kind==.function&&env.kindOf x==some .cell)=true then .cell else k:=by
 unfold relabel;show zaY x (scope.names.map _)=_;generalize scope.names=l
 induction l with
 |nil=>rfl
 |cons p r ih=>
  obtain⟨n,k⟩:=p;rw[ZW,zaE (as:=r)];show zaY x ((if (k==NameKind.free&&env.scope.kind==.function&&env.kindOf n==some .cell)=true then (n,NameKind.cell) else (n,k))::_)=_;cases hx:x==n with
  |true=>
   have e:x=n:=by simpa using hx
   subst e;by_cases hc:(k==NameKind.free&&env.scope.kind==.function&&env.kindOf x==some .cell)=true
   ·rw[if_pos hc];simp only[zaE,beq_self_eq_true,zaG];rw[if_pos hc]
   ·rw[if_neg hc];simp only[zaE,beq_self_eq_true,zaG];rw[if_neg hc]
  |false=>
   by_cases hc:(k==NameKind.free&&env.scope.kind==.function&&env.kindOf n==some .cell)=true
   ·rw[if_pos hc];simp only[zaE,hx];exact ih
   ·rw[if_neg hc];simp only[zaE,hx];exact ih
theorem mem_of_lookup{x:Str}{k:NameKind}:∀ {l:List (Str×NameKind)},l.lookup x=some k->(x,k)∈l
 |[],h=>by simp at h
 |(n,j)::r,h=>by
  rw[zaE] at h;cases hx:x==n with
  |true=>
   rw[hx] at h;have e:x=n:=by simpa using hx
   cases h;subst e;exact Z0
  |false=>rw[hx] at h;exact ZV _ (mem_of_lookup h)
def iM (sc out:Scope):Bool:=
 (sc.names.all fun p=>p.2 != .cell&&(p.2 != .free ||out.names.lookup p.1==some .cell ||out.names.lookup p.1==some .free)&&(p.2 != .local ||sc.names.lookup p.1==some .local))&&decide (sc.kind=.function)
def su (sc out:Scope) (N:List Str) (ix:List Nat):Bool:=
 ix.all fun i=>sc.names.lookup (N.getD i "")==some .free&&(out.names.lookup (N.getD i "")==some .cell ||out.names.lookup (N.getD i "")==some .free)
def Ec (σ:St) (ix:List Nat):St:=ix.map fun i=>σ.getD i none
abbrev Ba (N:List Str) (ix:List Nat):List Str:=ix.map fun i=>N.getD i ""
def jc (X:Cx) (scope:Scope) (own:List Str) (ix:List Nat) (C:zcl) (s₀:zcv) (H₀:Hp) (ex:List zcl):Cx where
 prog:=X.prog
 w:=X.w
 K:=X.K
 mg:=X.mg
 base:=X.base
 A:=X.A
 N:=own++Ba X.N ix
 s₀:=s₀
 H₀:=H₀
 env:=compEnvC scope (qo X.env scope.names []) C X.env
 outer:=X.stack
 stack:=X.stack
 ex:=ex
 fn:=fun _=>false
 calm:=X.calm
 pn:=[]
 xe:=fun _ _=>False
section
variable{X:Cx}{pins:List (zcl×Obj)}{σ:St}{H:Hp}{s:zcv}
theorem lF{sc out:Scope}(h:iM sc out=true):∀p∈sc.names,p.2≠.cell/\(p.2=.free->out.names.lookup p.1=some .cell\/out.names.lookup p.1=some .free)/\(p.2=.local->sc.names.lookup p.1=some .local):=by
 intro p hp;unfold iM at h;rw[zam] at h;have:=List.all_eq_true.mp h.1 p hp;simp only[zam,Bool.or_eq_true,bne_iff_ne,beq_iff_eq,ne_eq] at this;obtain⟨⟨h1,h2⟩,h3⟩:=this;refine⟨h1,fun e=>?_,fun e=>?_⟩
 ·rcases h2 with (h2 |h2) |h2
  ·exact absurd e h2
  ·exact .inl h2
  ·exact .inr h2
 ·rcases h3 with h3 |h3
  ·exact absurd e h3
  ·exact h3
theorem kr{sc out:Scope}(h:iM sc out=true):sc.kind=.function:=by
 unfold iM at h;rw[zam] at h;exact of_decide_eq_true h.2
theorem G6{scope:Scope}{own:List Str}{ix:List Nat}{ex:List zcl}(I:Inv X pins σ H s)(hf:iM scope X.env.scope=true)(hx:∀b∈ex,oI X pins H b/\b<s.heap.objs.size):(jc X scope own ix s.heap.objs.size s H ex).Ok:=by
 have fits:=(lF hf)
 have oH:∀p∈scope.names,p.2=.free->∃c,X.env.cells.lookup p.1=some c:=fun p hp e=>I.ok.has p.1 ((fits p hp).2.1 e);have sub:∀ {x:Str} {c:zcl},(qo X.env scope.names []).lookup x=some c->X.env.cells.lookup x=some c:=fun {x c} e=>oS oH (fun x c e=>by simp at e) e;refine⟨I.ok.mod,(show scope.kind=.function from kr hf),I.ok.glob,I.ok.blt,ZQ _,fun x y c a b=>I.ok.inj x y c (sub a) (sub b),fun x hk=>?_,fun x c e=>(by cases e),I.ok.hd,I.ok.frames,.inl rfl,fun b hb=>⟨Z3 (hx b hb).2,fun x c e=>(hx b hb).1.2.2.2.2.1 x c (sub e)⟩,I.bs,Z5 I.ok.GK I.sz,fun b o e hb=>?_,fun b hb hs=>?_,I.stack,I.AM⟩
 ·refine sW (.inr ?_);have L8:(relabel scope X.env).names.lookup x=some .cell\/(relabel scope X.env).names.lookup x=some .free:=hk;rw[lE] at L8;cases q:scope.names.lookup x with
  |none=>rw[q] at L8;rcases L8 with z |z<;>cases z
  |some k=>
   have hm:=mem_of_lookup q;by_cases QA:k=.free
   ·subst QA;exact hm
   ·rw[q] at L8;have hb:(k==NameKind.free)=false:=by simpa using QA
    simp only[zaG,hb,Bool.false_and,Z2,if_false,zaf.injEq] at L8;rcases L8 with z |z
    ·exact absurd z (fits _ hm).1
    ·exact absurd z QA
 ·rcases(hx b hb).1.2.2.2.1 with z |z
  ·exact I.ok.Ds b o e z
  ·exact absurd (Z7 (Heap.lt_size e) (Z5 I.ok.GK z)) (zat _)
 ·rcases ZS.mp (I.vV b hs) with z |z
  ·exact(hx b hb).1.2.1 z
  ·exact(hx b hb).1.2.2.1 z
theorem Ed{scope:Scope}{own:List Str}{ix:List Nat}{ex:List zcl}{h':Heap}{tk:Nat}(I:Inv X pins σ H s)(hf:iM scope X.env.scope=true)(hc:su scope X.env.scope X.N ix=true)(hx:∀b∈ex,oI X pins H b/\b<s.heap.objs.size)
 (hn:h'.Ns s.heap.objs.size fun _=>none) (hk:∀b o,s.heap.get? b=some o->h'.get? b=some o):Inv (jc X scope own ix s.heap.objs.size s H ex) [] (zbA own.length none++Ec σ ix) H {s with heap:=h',toks:=tk}:=by
 have fits:=(lF hf)
 have oH:∀p∈scope.names,p.2=.free->∃c,X.env.cells.lookup p.1=some c:=fun p hp e=>I.ok.has p.1 ((fits p hp).2.1 e);have sub:∀ {x:Str} {c:zcl},(qo X.env scope.names []).lookup x=some c->X.env.cells.lookup x=some c:=fun {x c} e=>oS oH (fun x c e=>by simp at e) e;refine⟨G6 I hf hx,rfl,I.bare,Un.kept hk,⟨_,hn,fun i x v e1 e2 e3=>?_⟩,fun x c e=>?_,I.dg.fresh (ZQ _),fun x c e=>I.lg x c (sub e),fun p hp=>absurd (show p∈([]:List (zcl×Obj))++[] from hp) (by simp),I.dg.kept hk,?_⟩
 ·have e1:(own++Ba X.N ix)[i]?=some x:=e1;by_cases hi:i<own.length
  ·rw[zan (by simpa using hi),zbM,if_pos hi] at e2;cases e2
  ·have SW:own.length<=i:=Nat.le_of_not_lt hi;rw[zag (by simpa using SW),zb1] at e2;rw[zag SW] at e1;unfold Ec at e2;unfold Ba at e1;rw[ZO] at e1 e2;cases q:ix[i-own.length]? with
   |none=>rw[q] at e2;cases e2
   |some j=>
    rw[q] at e1 e2;simp only[zaG,zaf.injEq] at e1 e2;have hj:j∈ix:=zaL q;have fit:=List.all_eq_true.mp hc j hj;simp only[zam,Bool.or_eq_true,beq_iff_eq] at fit;rw[e1] at fit;have ej:σ[j]?=some (some v):=by
     rw[ZX] at e2;cases r:σ[j]? with
     |none=>rw[r] at e2;cases e2
     |some z=>rw[r] at e2;simp only[Option.getD_some] at e2;rw[e2]
    have VM:j<X.N.length:=by rw[<- I.len];exact(ZR.mp ej).1
    have en:X.N[j]?=some x:=by
     rw[ZX] at e1;rw[ZK VM] at e1 ⊢;simp only[Option.getD_some] at e1;rw[e1]
    obtain⟨m,hm,hl⟩:=I.loc;have hv:Mv X.env.scope x:=by
     rcases fit.2 with z |z
     ·exact .inr (.inl z)
     ·exact .inr (.inr z)
    obtain⟨u,r,l⟩:=hl j x v en ej hv;refine⟨u,r,.inr ⟨?_,?_⟩⟩
    ·show (relabel scope X.env).names.lookup x=some .cell\/(relabel scope X.env).names.lookup x=some .free;rw[lE,fit.1];simp only[zaG];split
     ·exact .inl rfl
     ·exact .inr rfl
    ·rcases l with ⟨k1,_⟩ |⟨_,c,ec,AR⟩
     ·have k1:X.env.scope.names.lookup x=some .local:=k1;rcases fit.2 with z |z<;>(rw[z] at k1;cases k1)
     ·obtain⟨c',e'⟩:∃c,(qo X.env scope.names []).lookup x=some c:=sW (.inr (mem_of_lookup fit.1));have:=sub e';rw[ec] at this;cases this;exact⟨c,e',AR.keeps hk⟩
 ·obtain⟨v,z⟩:=I.cell x c (sub e);exact⟨v,z.keeps hk⟩
 ·show (zbA own.length none++Ec σ ix).length=(own++Ba X.N ix).length;simp[Ec]
theorem comp_back{scope:Scope}{own:List Str}{ix:List Nat}{ex:List zcl}{τ:St}{H':Hp}{s':zcv}{AO:List (zcl×Obj)}(I:Inv X pins σ H s)(hx:∀b∈ex,oI X pins H b/\b<s.heap.objs.size)
 (I':Inv (jc X scope own ix s.heap.objs.size s H ex) AO τ H' s'):Inv X pins σ H' s'/\H' s.heap.objs.size=none/\s.heap.objs.size≠X.env.locals/\X.s₀.heap.objs.size<=s.heap.objs.size/\(∀x c,X.env.cells.lookup x=some c->c≠s.heap.objs.size)/\∀p∈X.pn++pins,p.1≠s.heap.objs.size:=by
 refine⟨I.ME (ch:=ex) I'.os I'.base I'.dg I'.bare fun b hb=>?_,I'.free,za1 I.lt,I.sz,fun x c e z=>?_,fun p hp z=>?_⟩
 ·obtain⟨f0,f1,f2,f3,f4,f5⟩:=(hx b hb).1;exact⟨f3,f1,f4,f5⟩
 ·obtain⟨v,q⟩:=I.cell x c e;exact absurd q.lt (by rw[z];exact zat _)
 ·exact absurd (Heap.lt_size (I.pin p hp).1) (by rw[z];exact zat _)
end
def Ng (X:Cx) (ifs:List Expr) (t:TT):Prop:=
 ∀(pins:List (zcl×Obj)) (s:zcv) (σ:St) (H:Hp) (Q:Bool->Hp->Prop),Inv X pins σ H s->t σ H Q->
  wpAny (model X.prog X.w) X.A (forIn ifs true fun c r=>if r=true then do let ok <- isTrue c X.env (eval c X.env);pure (ForInStep.yield ok) else pure (ForInStep.yield r)) (TP X pins σ Q) X.xe s
def rO:TT:=fun _ H Q=>Q true H
theorem cZ{X:Cx}:Ng X [] rO:=fun _ _ _ H _ I h=>wpAny_tests_nil ⟨H,I,h⟩
def mL (J:It) (D:zcl) (g:TG) (tc:TT) (te:TE) (Q:VK) (τ:St) (H:Hp):Prop:=∃W:Nat->Nat->St->Hp->Prop,(∃m,W 0 m τ H)/\∀i m τ H,W i m τ H->
 (J.stop i H/\Q (.ref D) H)\/(J.go i H/\∃N:St->Hp->Prop,(∀τ' H',N τ' H'->∃m',m'<m/\W (i+1) m' τ' H')/\∀x H',J.B1 i H x H'->g x τ H' fun τ2 H2=>tc τ2 H2 fun b H3=>if b=true then
  te τ2 H3 fun y H4=>∃ys,H4 D=some (.lst ys)/\ys.length<zct/\N τ2 (upd H4 D (.lst (ys++[y]))) else N τ2 H3)
def gm (wi:TI) (k:Nat) (ix:List Nat) (g:TG) (tc:TT) (te:TE):TE:=fun σ H Q=>wi σ H fun J H1=>∀D,H1 D=none->mL J D g tc te Q (zbA k none++Ec σ ix) (upd H1 D (.lst []))
section
variable{X:Cx}{tg iter elt:Expr}{ifs:List Expr}{scope:Scope}{pos:Pos}{own:List Str}{ix:List Nat}{wi:TI}{g:TG}{tc:TT}{te:TE}
theorem Ck{it D:zcl}{fp:List zcl}{tn:Nat->Heap->Prop}{J:It}{Q:VK}{R:Result->zcv->Prop}{s:zcv}{τ:St}{H:Hp}(rh:X.calm=true)(VN:X.xe=fun _ _=>False)(Y0:X.pn=[])(T:Turn X.prog X.w X.K tg J fp it tn)
 (he:PE X elt te) (hg:PG X tg g) (ht:Ng X ifs tc) (I:Inv X [] τ H s) (SX:∀b∈fp,oI X [] H b) (h0:tn 0 s.heap) (hW:mL J D g tc te Q τ H)
 (hR:∀τ' H' s',Inv X [] τ' H' s'->Q (.ref D) H'->R (.ok .next) s') :
 codeAny (model X.prog X.w) X.A (.compLoop (.ListComp elt [⟨tg,iter,ifs,0⟩] scope pos) 0 (.ref it) (.ref D) X.env) R s:=by
 obtain⟨W,⟨m0,w0⟩,turn⟩:=hW;have no:∀ {E:zcm->zcv->Prop} (e:zcm) (s':zcv),X.xe e s'->E e s':=fun e s' z=>by rw[VN] at z;exact z.elim
 have stat:∀ {H':Hp},(∀b∈fp,H' b=none)->∀b∈fp,oI X [] H' b:=fun hn b hb=>⟨hn b hb,(SX b hb).2⟩
 refine codeAny_loop rfl (fun n s'=>∃i τ' H',Inv X [] τ' H' s'/\tn i s'.heap/\(∀b∈fp,H' b=none)/\W i n τ' H') (fun n s3 hI=>?_) m0 ⟨0,τ,H,I,h0,fun b hb=>(SX b hb).1,w0⟩;obtain⟨i,τ3,H3,I3,Jd,MN,w3⟩:=hI;show wpAny _ X.A ((compTurn (.ListComp elt [⟨tg,iter,ifs,0⟩] scope pos) 0 (.ref it) (.ref D) X.env).onRaise (fun x=>do noteFrame x X.env;theTreesLotGoes x)) _ _ s3;refine wpAny_noted ?_;rw[compTurn_list];refine zco (wpAny_standAt (zco ?_));rcases turn i n τ3 H3 w3 with ⟨stop,q⟩ |⟨go,N,hN,step⟩
 ·refine wpAny_mono (T.done X rfl rfl rfl rh i [] s3 τ3 H3 X.xe I3 (stat MN) Jd stop) (fun r s4 zqz=>?_) no;obtain⟨hr,I4⟩:=zqz;subst hr;exact zcp (hR τ3 H3 s4 I4 q)
 ·refine wpAny_mono (T.item X rfl rfl rfl rh i [] s3 τ3 H3 X.xe I3 (stat MN) Jd go) (fun r s4 zqz=>?_) no;obtain⟨u,hr,h4⟩:=zqz;subst hr;refine zco (wpAny_mono h4 (fun _ s5 zqz=>?_) no);obtain⟨x,H5,I5,r5,y5,Ki,P0⟩:=zqz;have Qa:=I5.pinned (stat P0) (T.obj _ _ Ki);refine zco (wpAny_mono (hg _ s5 τ3 H5 x u _ Qa r5 (step x H5 y5)) (fun _ s6 zqz=>?_) no);obtain⟨τ6,H6,I6,q6⟩:=zqz;refine zco (wpAny_mono (ht _ s6 τ6 H6 _ I6 q6) (fun b s7 zqz=>?_) no);obtain⟨H7,I7,q7⟩:=zqz;have again:∀ {τ7:St} {H7:Hp} {s7:zcv},Inv X ([]++sR fp s5.heap) τ7 H7 s7->N τ7 H7->∃m,m<n/\∃i σ' H',Inv X [] σ' H' s7/\tn i s7.heap/\(∀b∈fp,H' b=none)/\W i m σ' H':=fun {τ7 H7 s7} I7 n7=>by
   obtain⟨m',hm,w7⟩:=hN τ7 H7 n7;refine⟨m',hm,i+1,τ7,H7,I7.oJ,T.keep _ _ _ Ki fun b hb o e=>(I7.pin (b,o) (Z4 _ (Z4 _ (ke hb e)))).1,fun b hb=>?_,w7⟩;obtain⟨o,e,d⟩:=T.obj _ _ Ki b hb;exact(I7.pin (b,o) (Z4 _ (Z4 _ (ke hb e)))).2.1
  cases b with
  |false=>exact zcp ⟨rfl,again I7 q7⟩
  |true=>
   refine zco (zco (wpAny_mono (he _ s7 τ6 H7 _ I7 q7) (fun v s8 ⟨y,H8,I8,r8,ys,hD,hl,q8⟩=>zco ?_) no));refine wpAny_mono (i6 _ s8 τ6 H8 (.ref D) [y] (.ref D) [v] (fun _ H'=>N τ6 H') I8 rfl (.cons r8 .nil) ⟨D,ys,y,rfl,rfl,hD,hl,q8⟩) (fun _ s9 zqz=>?_) no;obtain⟨_,H9,I9,_,q9⟩:=zqz;exact zcp (zcp ⟨rfl,again I9 q9⟩)
theorem xV{pins:List (zcl×Obj)}{s:zcv}{σ:St}{H:Hp}{Q:VK}{use:Option (zcm->Sem Unit)}{Q':zcm->zcv->Prop}(rh:X.calm=true)(hf:iM scope X.env.scope=true)(hc:su scope X.env.scope X.N ix=true)
 (hi:PI X tg iter wi) (hg:∀C s₀ H₀ ex,PG (jc X scope own ix C s₀ H₀ ex) tg g) (ht:∀C s₀ H₀ ex,Ng (jc X scope own ix C s₀ H₀ ex) ifs tc) (he:∀C s₀ H₀ ex,PE (jc X scope own ix C s₀ H₀ ex) elt te)
 (I:Inv X pins σ H s) (h:gm wi own.length ix g tc te σ H Q)
 (hU:∀(D C:zcl) (H':Hp) (s':zcv) (m:Str->Option zcm),Inv X pins σ H' s'->Q (.ref D) H'->s'.heap.Ns C m->H' C=none->C≠X.env.locals->X.s₀.heap.objs.size<=C->(∀x c,X.env.cells.lookup x=some c->c≠C)->(∀p∈X.pn++pins,p.1≠C)->compPost (model X.prog X.w) X.A X.xe use Q' (.ref D) C (.ok .next) s')
 (hs:∀x,foldedSetIterable iter X.env x=pure x) :
 wpAny (model X.prog X.w) X.A (comprehension (.ListComp elt [⟨tg,iter,ifs,0⟩] scope pos) scope X.env (firstIterPos [⟨tg,iter,ifs,0⟩] pos) (newList []) false (eval iter X.env) use) Q' X.xe s:=by
 have fits:=(lF hf)
 have oH:∀p∈scope.names,p.2=.free->∃c,X.env.cells.lookup p.1=some c:=fun p hp e=>I.ok.has p.1 ((fits p hp).2.1 e);refine wpAny_comprehension_free (use:=use) rfl hs (rM oH) (kr hf) (fun x hx=>(fits x hx).2.2) ?_;refine eP (hi pins s σ H _ I h) fun v s1 h1=>eP h1 fun PY s2 h2=>?_;obtain⟨it,fp,tn,J,H2,e,I2,T,vd,f2,hW⟩:=h2;subst e;refine wpAny_newObj_type (hd:=by size_fits) ?_;have hD:H2 s2.heap.objs.size=none:=I2.dg.fresh (ZQ _);have I3:Inv X pins σ (upd H2 s2.heap.objs.size (.lst [])) {s2 with heap:=s2.heap.push {cls:=.type "list",dict:=none,data:=.seq ([]:List zcm).toArray} }:=
  I2.laid (t':=s2.toks) (fun b u e=>Heap.get?_push_of_some _ e) (ZQ _) ⟨zac _,[],0,.nil,Heap.get?_push_size _ rfl⟩
 have W3:=hW s2.heap.objs.size hD;have SY:∀b∈fp,b<s2.heap.objs.size:=fun b hb=>let ⟨o,e,_⟩:=T.obj _ _ vd b hb;Heap.lt_size e;have Nh:∀b∈fp,oI X pins (upd H2 s2.heap.objs.size (.lst [])) b/\b<(s2.heap.push {cls:=.type "list",dict:=none,data:=.seq ([]:List zcm).toArray}).objs.size:=fun b hb=>
  ⟨⟨by rw[aR (Z3 (SY b hb))];exact(f2 b hb).1,(f2 b hb).2⟩,by rw[Heap.size_push];exact Nat.lt_succ_of_lt (SY b hb)⟩
 have Jd:tn 0 (s2.heap.push {cls:=.type "list",dict:=none,data:=.seq ([]:List zcm).toArray}):=T.keep _ _ _ vd fun b _ o e=>Heap.get?_push_of_some _ e;generalize QB:({s2 with heap:=s2.heap.push {cls:=.type "list",dict:=none,data:=.seq ([]:List zcm).toArray} }:zcv)=s3 at I3;generalize Y1:upd H2 s2.heap.objs.size (.lst [])=H3 at I3 W3 Nh;have eh:s2.heap.push {cls:=.type "list",dict:=none,data:=.seq ([]:List zcm).toArray}=s3.heap:=by rw[<- QB]
 rw[eh] at Nh Jd;refine wpAny_newFunctionEnv (fun x hx=>(fits x hx).1) (by intro y hy;simp at hy) (fun h4 OW VO=>?_) (kr hf);have kept:∀b o,s3.heap.get? b=some o->h4.get? b=some o:=fun b o e=>VO.extBut b o (Z3 (Heap.lt_size e)) (Heap.get?_push_of_some _ e);have I4:=Ed (own:=own) (tk:=s3.toks+([]:List (Str×zcm)).length) I3 hf hc Nh OW kept;have VP:∀b∈fp,oI (jc X scope own ix s3.heap.objs.size s3 H3 fp) [] H3 b:=fun b hb=>by
  obtain⟨⟨f0,f1,VQ,f3,f4,f5⟩,lt⟩:=Nh b hb;refine⟨f0,Z3 lt,fun z=>?_,.inl hb,fun x c e=>f4 x c (oS oH (fun x c e=>by simp at e) e),fun p hp=>absurd (show p∈([]:List (zcl×Obj))++[] from hp) (by simp)⟩;rcases ZS.mp (I3.vV b z) with z |z
  ·exact f1 z
  ·exact VQ z
 have S0:tn 0 h4:=T.keep _ _ _ Jd fun b _ o e=>kept b o e;have loop:=Ck (X:=jc X scope own ix s3.heap.objs.size s3 H3 fp) (iter:=iter) (scope:=scope) (pos:=pos) (R:=compPost (model X.prog X.w) X.A X.xe use Q' (.ref s2.heap.objs.size) s3.heap.objs.size) rh rfl rfl T (he _ _ _ _) (hg _ _ _ _) (ht _ _ _ _) I4 VP S0 W3
  (fun τ' H' s' I' q=>by
   obtain⟨J1,J2,J3,J4,J5,J6⟩:=comp_back I3 Nh I';obtain⟨m,hm,_⟩:=I'.loc;exact hU _ _ H' s' m J1 q hm J2 J3 J4 J5 J6)
 exact codeAny_compStart_list loop (T.self X.A 0 _ _ _ S0 loop)
theorem eN(rh:X.calm=true)(hf:iM scope X.env.scope=true)(hc:su scope X.env.scope X.N ix=true)
 (hi:PI X tg iter wi) (hg:∀C s₀ H₀ ex,PG (jc X scope own ix C s₀ H₀ ex) tg g) (ht:∀C s₀ H₀ ex,Ng (jc X scope own ix C s₀ H₀ ex) ifs tc) (he:∀C s₀ H₀ ex,PE (jc X scope own ix C s₀ H₀ ex) elt te)
 (hs:∀x,foldedSetIterable iter X.env x=pure x:=by intro _;rfl):PE X (.ListComp elt [⟨tg,iter,ifs,0⟩] scope pos) (gm wi own.length ix g tc te):=by
 intro pins s σ H Q I h;rw[eval_ListComp];refine xV (use:=none) rh hf hc hi hg ht he I h (fun D C H' s' m I' q hm n1 n2 n3 n4 n5=>?_) hs;refine⟨m,hm,fun h' sb=>⟨.ref D,H',?_,rfl,q⟩⟩;exact I'.turned (t':=s'.toks) (it:=C) (fun b o hb e=>sb.extBut b o hb e) n1 (Ne.symm (Ne.symm n2)) (.inr n3) n4 n5
theorem wg{i:Nat}{y:Str}{py Ni:Pos}(hN:X.N.Nodup)(VR:X.N[i]?=some y)(hy:Loc X.env.scope y)(rh:X.calm=true)(hf:iM scope X.env.scope=true)(hc:su scope X.env.scope X.N ix=true)
 (hi:PI X tg iter wi) (hg:∀C s₀ H₀ ex,PG (jc X scope own ix C s₀ H₀ ex) tg g) (ht:∀C s₀ H₀ ex,Ng (jc X scope own ix C s₀ H₀ ex) ifs tc) (he:∀C s₀ H₀ ex,PE (jc X scope own ix C s₀ H₀ ex) elt te)
 (VS:swapsWith (.ListComp elt [⟨tg,iter,ifs,0⟩] scope pos) (some (.Name y py)) Ni.line X.env=pure true:=by rfl)
 (hs:∀x,foldedSetIterable iter X.env x=pure x:=by intro _;rfl) (MC:X.fn y=true\/X.env.scope.names.lookup y=some .local:=by first |exact .inl rfl |exact .inr rfl |assumption) :
 PS X (.Assign [.Name y py] (.ListComp elt [⟨tg,iter,ifs,0⟩] scope pos) Ni) (B0 (gm wi own.length ix g tc te) (eR i)):=by
 intro pins s σ H D I h;rw[exec_Assign_Name_used _ _ _ _ VS];refine zco (wpAny_standAt (zco ?_));show wpAny _ _ (do let _ <- comprehension (.ListComp elt [⟨tg,iter,ifs,0⟩] scope pos) scope X.env _ (newList []) false (eval iter X.env) (some (assign (.Name y py) X.env))) _ _ s;refine zco (wpAny_mono (xV (use:=some (assign (.Name y py) X.env)) (Q':=fun _ s'=>SP X pins D .next s') rh hf hc hi hg ht he I h (fun L C H' s' m I' q hm n1 n2 n3 n4 n5=>?_) hs) (fun _ s' hq=>zcp (zcp hq)) fun _ _ e=>e);show wpAny _ _ (assign (.Name y py) X.env (.ref L)) _ _ _;refine wpAny_assign_Name (u7 I' hN VR hy (v:=.ref L) rfl (fun s2 I2 zqz=>?_) MC);obtain⟨a,sb,ha⟩:=zqz;have VT:C≠a:=by
  rcases ha with rfl |ha
  ·exact n2
  ·exact fun z=>n4 y a ha z.symm
 refine⟨m,hm.sameBut sb VT,fun h' QC=>⟨_,H',?_,q⟩⟩;exact I2.turned (t':=s2.toks) (it:=C) (fun b o hb e=>QC.extBut b o hb e) n1 n2 (.inr n3) n4 n5
end
inductive Dp where
 |b4 |bl (b:Bool) |int (i:Int) |str (x:Str) |tup (l:List Dp) |lst (l:List Dp)
mutual
def Rep (K:ZI) (H:Hp):Dp->V->Prop
 |.b4,v=>v=.b4
 |.bl b,v=>v=.bl b
 |.int i,v=>v=.int i
 |.str x,v=>v=.str x
 |.tup l,v=>∃a xs,v=.ref a/\dq K H a xs/\aG K H l xs
 |.lst l,v=>∃a xs,v=.ref a/\gQ K H a xs/\aG K H l xs
def aG (K:ZI) (H:Hp):List Dp->List V->Prop
 |[],vs=>vs=[]
 |d::ds,vs=>∃v r,vs=v::r/\Rep K H d v/\aG K H ds r
end
mutual
def Dp.deep:Dp->Nat
 |.tup l=>Dp.fE l+1
 |.lst l=>Dp.fE l+1
 |_=>0
def Dp.fE:List Dp->Nat
 |[]=>0
 |d::ds=>max d.deep (Dp.fE ds)
end
theorem aw.bB{K:ZI}{H H':Hp}{a:zcl}{xs:List V}(e:aw H H')(h:dq K H a xs):dq K H' a xs:=by
 rcases h with (h |⟨o,h⟩) |h
 ·exact .inl (.inl (e _ _ h))
 ·exact .inl (.inr ⟨o,e _ _ h⟩)
 ·exact .inr h
mutual
theorem Rep.mono{K:ZI}{H H':Hp}(e:aw H H'):∀ {d:Dp} {v:V},Rep K H d v->Rep K H' d v
 |.b4,_,h=>h
 |.bl _,_,h=>h
 |.int _,_,h=>h
 |.str _,_,h=>h
 |.tup l,_,h=>by
  unfold Rep at h ⊢;obtain⟨a,xs,e1,e2,e3⟩:=h;exact⟨a,xs,e1,e.bB e2,aG.mono e e3⟩
 |.lst l,_,h=>by
  unfold Rep at h ⊢;obtain⟨a,xs,e1,e2,e3⟩:=h;exact⟨a,xs,e1,e.seq e2,aG.mono e e3⟩
theorem aG.mono{K:ZI}{H H':Hp}(e:aw H H'):∀ {ds:List Dp} {vs:List V},aG K H ds vs->aG K H' ds vs
 |[],_,h=>h
 |d::ds,_,h=>by
  unfold aG at h ⊢;obtain⟨v,r,e1,e2,e3⟩:=h;exact⟨v,r,e1,Rep.mono e e2,aG.mono e e3⟩
end
theorem aG.length{K:ZI}{H:Hp}:∀ {ds:List Dp} {vs:List V},aG K H ds vs->vs.length=ds.length
 |[],_,h=>by unfold aG at h;rw[h];rfl
 |d::ds,_,h=>by
  unfold aG at h;obtain⟨v,r,e1,_,e3⟩:=h;rw[e1,ZN,ZN,aG.length e3]
theorem aG.get{K:ZI}{H:Hp}:∀ {ds:List Dp} {vs:List V} {i:Nat} {d:Dp},aG K H ds vs->ds[i]?=some d->∃v,vs[i]?=some v/\Rep K H d v
 |[],_,_,_,_,e=>by simp at e
 |d::ds,_,0,_,h,e=>by
  unfold aG at h;obtain⟨v,r,e1,e2,e3⟩:=h;simp only[zbN,zaf.injEq] at e;subst e;exact⟨v,by rw[e1];rfl,e2⟩
 |d::ds,_,i+1,d',h,e=>by
  unfold aG at h;obtain⟨v,r,e1,e2,e3⟩:=h;rw[zbh] at e;obtain⟨v',h1,h2⟩:=aG.get e3 e;exact⟨v',by rw[e1,zbh];exact h1,h2⟩
theorem aG.append{K:ZI}{H:Hp}:∀ {ds es:List Dp} {vs us:List V},aG K H ds vs->aG K H es us->aG K H (ds++es) (vs++us)
 |[],_,_,_,h,h'=>by unfold aG at h;rw[h];exact h'
 |d::ds,_,_,_,h,h'=>by
  unfold aG at h;obtain⟨v,r,e1,e2,e3⟩:=h;rw[e1];show aG K H (d::(ds++_)) (v::(r++_));unfold aG;exact⟨v,_,rfl,e2,aG.append e3 h'⟩
theorem aG.nil{K:ZI}{H:Hp}:aG K H [] []:=by unfold aG;rfl
theorem aG.cons{K:ZI}{H:Hp}{d:Dp}{ds:List Dp}{v:V}{vs:List V}(h:Rep K H d v)(h':aG K H ds vs):aG K H (d::ds) (v::vs):=by unfold aG;exact⟨v,vs,rfl,h,h'⟩
theorem Rep.aK{K:ZI}{H:Hp}{l:List Dp}{v:V}:Rep K H (.tup l) v↔∃a xs,v=.ref a/\dq K H a xs/\aG K H l xs:=by unfold Rep;exact Iff.rfl
theorem Rep.bH{K:ZI}{H:Hp}{l:List Dp}{v:V}:Rep K H (.lst l) v↔∃a xs,v=.ref a/\gQ K H a xs/\aG K H l xs:=by unfold Rep;exact Iff.rfl
theorem Rep.ba{K:ZI}{H:Hp}{i:Int}{v:V}:Rep K H (.int i) v↔v=.int i:=by unfold Rep;exact Iff.rfl
theorem Rep.bf{K:ZI}{H:Hp}{x:Str}{v:V}:Rep K H (.str x) v↔v=.str x:=by unfold Rep;exact Iff.rfl
theorem Rep.sX{K:ZI}{H:Hp}{b:Bool}{v:V}:Rep K H (.bl b) v↔v=.bl b:=by unfold Rep;exact Iff.rfl
theorem Rep.gS{K:ZI}{H:Hp}{v:V}:Rep K H .b4 v↔v=.b4:=by unfold Rep;exact Iff.rfl
theorem aG.bD{K:ZI}{H:Hp}{vs:List V}:aG K H [] vs↔vs=[]:=by unfold aG;exact Iff.rfl
theorem aG.aD{K:ZI}{H:Hp}{d:Dp}{ds:List Dp}{vs:List V}:aG K H (d::ds) vs↔∃v r,vs=v::r/\Rep K H d v/\aG K H ds r:=by conv=>lhs;unfold aG
theorem aw.new{H:Hp}{p:zcl}(h:H p=none)(o:HO):aw H (upd H p o):=fun b u q=>by rw[aR (au q h)];exact q
section
variable{X:Cx}{pins:List (zcl×Obj)}{σ:St}{H:Hp}{s:zcv}
theorem all_true(n:Nat):(zaq n).all (fun _=>true)=true:=by simp
mutual
theorem G7(I:Inv X pins σ H s):∀ {d:Dp} {v u:V} {a b:zcm} {A:zcw},Rep X.K H d v->Rep X.K H d u->RelV v a->RelV u b->A.units+d.deep<cLine->SeqAt.EqAt A s a b true
 |.b4,v,u,a,b,A,h1,h2,r1,r2,_=>by
  rw[Rep.gS] at h1 h2;subst h1;subst h2;cases (show a=Value.none from r1);cases (show b=Value.none from r2);exact .same _
 |.bl c,v,u,a,b,A,h1,h2,r1,r2,_=>by
  rw[Rep.sX] at h1 h2;subst h1;subst h2;cases (show a=Value.bool c from r1);cases (show b=Value.bool c from r2);exact .same _
 |.int i,v,u,a,b,A,h1,h2,r1,r2,_=>by
  rw[Rep.ba] at h1 h2;subst h1;subst h2;obtain⟨t,rfl⟩:=(show ∃t,a=Value.int i t from r1)
  obtain⟨t',rfl⟩:=(show ∃t,b=Value.int i t from r2)
  have:=SeqAt.EqAt.int_int (A:=A) (s:=s) i t i t';rw[beq_self_eq_true] at this;exact this
 |.str x,v,u,a,b,A,h1,h2,r1,r2,_=>by
  rw[Rep.bf] at h1 h2;subst h1;subst h2;obtain⟨t,rfl⟩:=(show ∃t,a=Value.str x t from r1)
  obtain⟨t',rfl⟩:=(show ∃t,b=Value.str x t from r2)
  have:=SeqAt.EqAt.str_str (A:=A) (s:=s) x t x t';rw[beq_self_eq_true] at this;exact this
 |.tup l,v,u,a,b,A,h1,h2,r1,r2,hu=>by
  rw[Rep.aK] at h1 h2;obtain⟨p,xs,rfl,q1,w1⟩:=h1;obtain⟨p',S4,rfl,q2,w2⟩:=h2;cases (show a=Value.ref p from r1);cases (show b=Value.ref p' from r2);by_cases e:p=p'
  ·subst e;exact .same _
  ·obtain⟨a0,v1,t1,_⟩:=I.tuple q1;obtain⟨its',v2,t2,_⟩:=I.tuple q2;unfold Dp.deep at hu;have items:=oT I w1 w2 v1 v2 (A:=A.in1) (by show A.units+1+_<_;lia);have n1:a0.length=its'.length:=by rw[<- v1.length,<- v2.length,w1.length,w2.length]
   have q:=SeqAt.RcAt.tuples (A:=A) (s:=s) (e:=fun _=>true) t1 t2 (by lia) (fun j h1 h2=>items j a0[j] its'[j] (by simp at h1;simp[h1]) (by simp at h2;simp[h2]));rw[all_true] at q;refine .of_refs e ?_;simpa[n1] using q
 |.lst l,v,u,a,b,A,h1,h2,r1,r2,hu=>by
  rw[Rep.bH] at h1 h2;obtain⟨p,xs,rfl,q1,w1⟩:=h1;obtain⟨p',S4,rfl,q2,w2⟩:=h2;cases (show a=Value.ref p from r1);cases (show b=Value.ref p' from r2);by_cases e:p=p'
  ·subst e;exact .same _
  ·obtain⟨a0,v1,t1,_⟩:=I.list q1;obtain⟨its',v2,t2,_⟩:=I.list q2;unfold Dp.deep at hu;have items:=oT I w1 w2 v1 v2 (A:=A.in1) (by show A.units+1+_<_;lia);have n1:a0.length=its'.length:=by rw[<- v1.length,<- v2.length,w1.length,w2.length]
   have q:=SeqAt.RcAt.lists (A:=A) (s:=s) (e:=fun _=>true) t1.isList t2.isList (by simpa using n1) (by lia) (fun j h1 h2=>items j a0[j] its'[j] (by simp at h1;simp[h1]) (by simp at h2;simp[h2]));rw[all_true] at q;exact .of_refs e q
theorem oT(I:Inv X pins σ H s):∀ {ds:List Dp} {vs us:List V} {as bs:List zcm} {A:zcw},aG X.K H ds vs->aG X.K H ds us->Vals vs as->Vals us bs->A.units+Dp.fE ds<cLine->
 ∀(j:Nat) (a b:zcm),as[j]?=some a->bs[j]?=some b->SeqAt.EqAt A s a b true
 |[],_,_,_,_,A,h1,h2,r1,r2,_,j,a,b,e1,e2=>by
  rw[aG.bD] at h1;subst h1;cases r1;simp at e1
 |d::ds,_,_,_,_,A,h1,h2,r1,r2,hu,j,a,b,e1,e2=>by
  rw[aG.aD] at h1 h2;obtain⟨v,r,rfl,x1,y1⟩:=h1;obtain⟨v',r',rfl,x2,y2⟩:=h2;unfold Dp.fE at hu;cases r1 with
  |cons z1 t1=>
   cases r2 with
   |cons z2 t2=>
    cases j with
    |zero=>
     simp only[zbN,zaf.injEq] at e1 e2;subst e1;subst e2;exact G7 I x1 x2 z1 z2 (by lia)
    |succ j=>
     rw[zbh] at e1 e2;exact oT I y1 y2 t1 t2 (by lia) j a b e1 e2
end
end
section
variable{X:Cx}
def Jm (K:ZI) (b:Bool):R2:=fun x y H Q=>∃d,Rep K H d x/\Rep K H d y/\d.deep<=150/\Q (.bl b) H
end
section
variable{X:Cx}
def Nj (i j:Int):Prop:=i.natAbs<2 ^ 4000/\j.natAbs<2 ^ 4000
theorem bits_le{i:Int}(h:i.natAbs<2 ^ 4000):Builtin.Int.intBits i<=2 ^ 20:=Z5 (intBits_le h) (by decide)
theorem Bb:oF X (binaryOp .Mult) (rI Nj fun i j=>.int (i*j)):=MP fun _ _ _ _ _ _ _ hc q=>mul_int q (IntMulOk.of_bits (bits_le hc.1) (bits_le hc.2))
theorem Ee:lC X (.builtin "isinstance") (fun xs H Q=>∃x T t b,xs=[x,.ty T]/\qk X.K H x t/\zb9 X.K t (.type T)=some b/\Q (.bl b) H):=by
 intro pins s σ H xs us Q I r h;obtain⟨x,T,t,b,rfl,ty,e,q⟩:=h;obtain⟨u1,u2,rfl,r1,r2⟩:=vals2 r;cases (show u2=Value.type T from r2);exact Ca I r1 ty e fun tk=>⟨.bl b,H,I.tok tk,rfl,q⟩
end
structure cy(K:ZI)(mg:Str->Option zcm)(x:Str)(st:Stmt)(ps:List Str)(f:zcl)(fd:zcu):Prop where
 F:Df K x x st f fd
 b:Binds K fd ps []
 m:mg x=some (.ref f)
end L2
namespace L2
open PySem PySem.Spec PyProof.Rows
theorem Nk{g:Int->Int->V}{i j:Int}{H:Hp}{Q:VK}:GR g (.int i) (.int j) H Q↔Q (g i j) H:=⟨fun ⟨_,_,e1,e2,q⟩=>by cases e1;cases e2;exact q,fun q=>⟨_,_,rfl,rfl,q⟩⟩
theorem QD{C:Int->Int->Prop}{g:Int->Int->V}{i j:Int}{H:Hp}{Q:VK}:rI C g (.int i) (.int j) H Q↔C i j/\Q (g i j) H:=⟨fun ⟨_,_,e1,e2,c,q⟩=>by cases e1;cases e2;exact⟨c,q⟩,fun q=>⟨_,_,rfl,rfl,q⟩⟩
theorem Ef{a:V}{r:St}{H:Hp}{Q:VK}:(fj 0 (some a::r) H Q)=(Q a H):=rfl
theorem Eg{a:Option V}{r:St}{H:Hp}{Q:VK}:(fj 1 (a::r) H Q)=(fj 0 r H Q):=rfl
theorem Eh{a:Option V}{r:St}{H:Hp}{Q:VK}:(fj 2 (a::r) H Q)=(fj 1 r H Q):=rfl
theorem Ei{a:Option V}{r:St}{H:Hp}{Q:VK}:(fj 3 (a::r) H Q)=(fj 2 r H Q):=rfl
theorem Ej{a:Option V}{r:St}{H:Hp}{Q:VK}:(fj 4 (a::r) H Q)=(fj 3 r H Q):=rfl
theorem Ek{a:Option V}{r:St}{H:Hp}{Q:VK}:(fj 5 (a::r) H Q)=(fj 4 r H Q):=rfl
theorem El{a:Option V}{r:St}{H:Hp}{Q:VK}:(fj 6 (a::r) H Q)=(fj 5 r H Q):=rfl
theorem Em{a:Option V}{r:St}{H:Hp}{Q:VK}:(fj 7 (a::r) H Q)=(fj 6 r H Q):=rfl
theorem En{a:Option V}{r:St}{H:Hp}{Q:VK}:(fj 8 (a::r) H Q)=(fj 7 r H Q):=rfl
theorem Eo{a:Option V}{r:St}{H:Hp}{Q:VK}:(fj 9 (a::r) H Q)=(fj 8 r H Q):=rfl
theorem Nl{v:V}{σ:St}{H:Hp}{Q:VK}:(tC v σ H Q)=(Q v H):=rfl
theorem Jn{r:R2}{ta tb:TE}{σ:St}{H:Hp}{Q:VK}:(LZ r ta tb σ H Q)=(ta σ H fun x H1=>tb σ H1 fun y H2=>r x y H2 Q):=rfl
theorem Nm{b:Bool}{p:Bool->Prop}:(∃k,V.bl b=.bl k/\p k)↔p b:=⟨fun ⟨_,e,q⟩=>by cases e;exact q,fun q=>⟨_,rfl,q⟩⟩
theorem KA{b:Int}{p:Int->Prop}:(∃k,V.int b=.int k/\p k)↔p b:=⟨fun ⟨_,e,q⟩=>by cases e;exact q,fun q=>⟨_,rfl,q⟩⟩
theorem KC{b:zcl}{p:zcl->Prop}:(∃k,V.ref b=.ref k/\p k)↔p b:=⟨fun ⟨_,e,q⟩=>by cases e;exact q,fun q=>⟨_,rfl,q⟩⟩
theorem Bc{t:TE}{σ:St}{H:Hp}{Q:Bool->Hp->Prop}:(AZ t σ H Q)=(t σ H fun x H'=>∃k,x=.bl k/\Q k H'):=rfl
theorem Jo{x y:V}{H:Hp}{Q:VK}:(SN x y H Q)=(zK x y=true/\Q (.bl (decide (x=y))) H):=rfl
theorem Jp{x y:V}{H:Hp}{Q:VK}:(SO x y H Q)=(zK x y=true/\Q (.bl (!decide (x=y))) H):=rfl
theorem KD{i j:Int}:(V.int i=V.int j)=(i=j):=by simp
theorem KG{i j:Str}:(V.str i=V.str j)=(i=j):=by simp
theorem G8{c:Prop}[Decidable c]{A B:Prop}:(if decide c=true then A else B)↔if c then A else B:=by simp
theorem Ep{c:Prop}[Decidable c]{A B:Prop}:(if (!decide c)=true then A else B)↔if c then B else A:=by by_cases h:c<;>simp[h]
theorem aA{K:ZI}{p:zcl}{i:Int}{H:Hp}{Q:VK}{xs:List V}{v:V}(h:dq K H p xs)(hv:xP xs i=some v)(q:Q v H):GZ K (.ref p) (.int i) H Q:=⟨p,xs,i,v,rfl,rfl,h,hv,q⟩
theorem aO{K:ZI}{p:zcl}{i:Int}{H:Hp}{Q:VK}{xs:List V}{v:V}(h:gQ K H p xs)(hv:xP xs i=some v)(q:Q v H):DT K (.ref p) (.int i) H Q:=⟨p,xs,i,v,rfl,rfl,h,hv,q⟩
section
variable{P:zcx}{w:zcn}{K:ZI}{mg:Str->Option zcm}{base:Heap}
theorem Df.j9{x qual:Str}{st:Stmt}{f:zcl}{fd:zcu}{N ps:List Str}{k:Nat}{sp:Sp}(F:Df K x qual st f fd)(S:aZ N ps (aJ st))(len:∀vs H Q E,sp vs H Q E->vs.length=ps.length)
 (xO:∀(fq:zcm) (A:zcw) (outer:List Env) (s:zcv) (H:Hp) (vs:List V) (Q:VK) (E:XK),gJ k (A.deeper (envOfC qual (aJ st) s.heap.objs.size f fq))->sp vs H Q E->
  ∃t σ,AQ (uJ eM P w K mg base N qual (aJ st) f fq A outer s H E).MH (eL st) t/\L2.start N vs=σ/\t {nx:=fun _ H'=>Q .b4 H',rt:=Q} σ H):bw P w K mg base eM (k+1) f fd ps sp:=
 F.ok S len fun fq A outer s H vs Q E hr h=>let ⟨t,_,h1,h2,h3⟩:=xO fq A outer s H vs Q E hr h;⟨t,h1,by rw[h2];exact h3⟩
end
theorem Be{sp:Sp}{uq:List V}{E:XK}{t:TA}{σ:St}{H:Hp}{Q:VK}:(DK sp uq E t σ H Q)=(t σ H fun vs H1=>sp (vs++uq) H1 Q E):=rfl
theorem Bf{ta:TE}{tr:TA}{σ:St}{H:Hp}{Q:List V->Hp->Prop}:(DJ ta tr σ H Q)=(ta σ H fun x H1=>tr σ H1 fun xs H2=>Q (x::xs) H2):=rfl
theorem Er{σ:St}{H:Hp}{Q:List V->Hp->Prop}:(MV σ H Q)=(Q [] H):=rfl
theorem Es{t:TA}{σ:St}{H:Hp}{Q:VK}:(MW t σ H Q)=(t σ H fun xs H1=>xs.length<=zct/\∀p,H1 p=none->Q (.ref p) (upd H1 p (.tup xs))):=rfl
theorem Et{t:TA}{σ:St}{H:Hp}{Q:VK}:(MX t σ H Q)=(t σ H fun xs H1=>xs.length<=zct/\∀p,H1 p=none->Q (.ref p) (upd H1 p (.lst xs))):=rfl
theorem G9{n:Nat}(h:n<=1000):n<=zct:=zbr (Cg h)
theorem Rep.new{K:ZI}{H:Hp}{p:zcl}{vs:List V}{ds:List Dp}(h:H p=none)(r:aG K H ds vs):Rep K (upd H p (.tup vs)) (.tup ds) (.ref p):=Rep.aK.mpr ⟨p,vs,rfl,.of ao,r.mono (aw.new h _)⟩
theorem Rep.QE{K:ZI}{H:Hp}{p:zcl}{vs:List V}{ds:List Dp}(h:H p=none)(r:aG K H ds vs):Rep K (upd H p (.lst vs)) (.lst ds) (.ref p):=Rep.bH.mpr ⟨p,vs,rfl,.of ao,r.mono (aw.new h _)⟩
theorem Hh{i j:Int}:zK (.int i) (.int j)=true:=rfl
theorem Hi{i j:Str}:zK (.str i) (.str j)=true:=rfl
theorem Hj{n:Nat}(h:n<=1000):(n<=zct)=True:=eq_true (G9 h)
theorem Eu{i j:Int}:(MR i j)=(0<j/\j<1073741824):=rfl
theorem Ew{CX:Cb}{P:zcx}{w:zcn}{K:ZI}{mg:Str->Option zcm}{base:Heap}{N:List Str}{qual:Str}{scope:Scope}{f:zcl}{cd:zcm}{A:zcw}{outer:List Env}{s:zcv}{H:Hp}{E:XK}:(uJ CX P w K mg base N qual scope f cd A outer s H E).K=K:=rfl
theorem Bg{X:Cx}{scope:Scope}{own:List Str}{ix:List Nat}{C:zcl}{s₀:zcv}{H₀:Hp}{ex:List zcl}:(jc X scope own ix C s₀ H₀ ex).K=X.K:=rfl
theorem mulR{z b:Int}(h1 : -18446744073709551616<b)(h2:b<18446744073709551616):B7 z b:=.inr ⟨h1,h2⟩
theorem mulL{z b:Int}(h1 : -18446744073709551616<z)(h2:z<18446744073709551616):B7 z b:=.inl ⟨h1,h2⟩
theorem KI{a b:Expr}{op:Operator}{pos:Pos}:mh (.BinOp a op b pos):=fun _ _=>rfl
theorem iN{x:Str}{pos:Pos}:mh (.Name x pos):=fun _ _=>rfl
theorem ah{c:Const}{k:Nat}{pos:Pos}:mh (.Constant c k pos):=fun _ _=>rfl
theorem KJ{a b:Expr}{pos:Pos}:mh (.Subscript a b pos):=fun _ _=>rfl
theorem fM{f:Expr}{as:List Expr}{ks:List Keyword}{pos:Pos}:mh (.Call f as ks pos):=fun _ _=>rfl
theorem wj{a b:Expr}{op:Operator}{pos:Pos}{es:List Expr}{env:Env}:zcr (.BinOp a op b pos::es) env=(false,eval (.BinOp a op b pos) env)::zcr es env:=rfl
theorem ky{x:Str}{pos:Pos}{es:List Expr}{env:Env}:zcr (.Name x pos::es) env=(false,eval (.Name x pos) env)::zcr es env:=rfl
theorem aB{c:Const}{k:Nat}{pos:Pos}{es:List Expr}{env:Env}:zcr (.Constant c k pos::es) env=(false,eval (.Constant c k pos) env)::zcr es env:=rfl
theorem aH{a b:Expr}{pos:Pos}{es:List Expr}{env:Env}:zcr (.Subscript a b pos::es) env=(false,eval (.Subscript a b pos) env)::zcr es env:=rfl
theorem bC{f:Expr}{as:List Expr}{ks:List Keyword}{pos:Pos}{es:List Expr}{env:Env}:zcr (.Call f as ks pos::es) env=(false,eval (.Call f as ks pos) env)::zcr es env:=rfl
theorem Nn{a:Expr}{op:UnaryOp}{pos:Pos}{es:List Expr}{env:Env}:zcr (.UnaryOp op a pos::es) env=(false,eval (.UnaryOp op a pos) env)::zcr es env:=rfl
theorem sF{a:Expr}{x:Str}{pos:Pos}{es:List Expr}{env:Env}:zcr (.Attribute a x pos::es) env=(false,eval (.Attribute a x pos) env)::zcr es env:=rfl
theorem Aa{as:List Expr}{pos:Pos}{es:List Expr}{env:Env}:zcr (.List as pos::es) env=(false,eval (.List as pos) env)::zcr es env:=rfl
theorem eI{as:List Expr}{k}{pos:Pos}{es:List Expr}{env:Env}:zcr (.Tuple as k pos::es) env=(false,eval (.Tuple as k pos) env)::zcr es env:=rfl
theorem kz{a:Expr}{ops:List CmpOp}{cs:List Expr}{pos:Pos}{es:List Expr}{env:Env}:zcr (.Compare a ops cs pos::es) env=(false,eval (.Compare a ops cs pos) env)::zcr es env:=rfl
theorem gU{a:Expr}{gs:List Comprehension}{sc:Scope}{pos:Pos}{es:List Expr}{env:Env}:zcr (.ListComp a gs sc pos::es) env=(false,eval (.ListComp a gs sc pos) env)::zcr es env:=rfl
def Ex:Expr->Option V
 |.Constant (.int i) _ _=>some (.int i)
 |.Constant (.str x) _ _=>some (.str x)
 |.Constant (.bool b) _ _=>some (.bl b)
 |.Constant .none _ _=>some .b4
 |_=>none
def Ey (vs:List V):TA:=fun _ H Q=>Q vs H
theorem eB{X:Cx}:∀ {es:List Expr} {vs:List V},es.map Ex=vs.map some->PA X es (Ey vs)
 |[],[],_=>aj
 |[],_::_,h=>by cases h
 |_::_,[],h=>by cases h
 |e::es,v::vs,h=>by
  rw[ZW,ZW] at h
  injection h with h1 h2
  have ih:=eB (X:=X) h2;have one:∀ {e:Expr} {v:V},PE X e (tC v)->(zcr (e::es) X.env=(false,eval e X.env)::zcr es X.env)->PA X (e::es) (Ey (v::vs)):=fun he hs pos pins s σ H Q I q=>ae he ih hs pos pins s σ H Q I q;unfold Ex at h1;split at h1
  ·cases h1;exact one ag aB
  ·cases h1;exact one aU aB
  ·cases h1;exact one AS aB
  ·cases h1;exact one eQ aB
  ·cases h1
theorem Bh{vs:List V}{σ:St}{H:Hp}{Q:List V->Hp->Prop}:(Ey vs σ H Q)=(Q vs H):=rfl
theorem Bi{td ty:TE}{σ:St}{H:Hp}{Q:VK}:(Jk td ty σ H Q)=(td σ H fun x H1=>ty σ H1 fun y H2=>∃a v,x=.ref a/\oQ H2 a y (some v)/\Q v H2):=rfl
theorem xW{σ:St}{H:Hp}{Q:VK}:(Ea σ H Q)=(∀p,H p=none->Q (.ref p) (upd H p (.dK []))):=rfl
theorem Bj{td ty tv:TE}{D:Ends}{σ:St}{H:Hp}:(Jl td ty tv D σ H)=(tv σ H fun v H1=>td σ H1 fun x H2=>ty σ H2 fun y H3=>∃a H4,x=.ref a/\zZ H3 a y v H4/\D.nx σ H4):=rfl
theorem Jq{r:List V->Hp->VK->Prop}{t:TA}{σ:St}{H:Hp}{Q:VK}:(Qh r t σ H Q)=(t σ H fun vs H1=>r vs H1 Q):=rfl
theorem Np{t:TE}{σ:St}{H:Hp}{Q:Bool->Hp->Prop}:(tB t σ H Q)=(t σ H fun x H1=>∃c,x=.bl c/\Q c H1):=rfl
theorem Ez{t:TT}{σ:St}{H:Hp}{Q:Bool->Hp->Prop}:(MF t σ H Q)=(t σ H fun c H1=>Q (!c) H1):=rfl
theorem oQ.s{H:Hp}{a:zcl}{kvs:List (Key×V)}{x:Str}{v:V}(e:H a=some (.dK kvs))(h:b5 kvs (Sum.inr x)=some v):oQ H a (.str x) (some v):=by
 have:=oQ.k (k:=Sum.inr x) e;rw[h] at this;exact this
end L2
namespace PM
abbrev W:=List Nat
inductive Tr where
 |num (n:Int) |box (x:W) |bin (o:W) (l r:Tr)
 deriving DecidableEq
def isLetter (c:Nat):Bool:=decide (97<=c)&&decide (c<=122)
def xX (c:Nat):Bool:=decide (48<=c)&&decide (c<=57)
def kind (c:Nat):Nat:=if isLetter c then 0 else if xX c then 1 else 2
def gn (st:List W×Nat) (c:Nat):List W×Nat:=
 if kind c≠2/\kind c=st.2 then (st.1.dropLast++[st.1.getLastD []++[c]],kind c) else (st.1++[[c]],kind c)
def EA (w:W):List W×Nat:=w.foldl gn ([],3)
def pieces (w:W):List W:=(EA w).1
def Hk:List W:=[[98,111,120],[97,115,107],[112,117,116],[115,97,121],[105,102],[101,108,115,101],[119,104,105,108,101],[109,117,115,116],[115,116,111,112],[101,110,100]]
def isName (p:W):Bool:=decide (1<=p.length)&&decide (p.length<=8)&&p.all isLetter && !Hk.contains p
def isNumber (p:W):Bool:=decide (1<=p.length)&&decide (p.length<=3)&&p.all xX&&(decide (p=[48]) || !decide (p.head?=some 48))
def KL (p:W):Int:=p.foldl (fun (a:Int) (c:Nat)=>a*10+((c:Int)-48)) 0
abbrev P:=List W->Option (Tr×List W)
def Jr (sub:P):P
 |[]=>none
 |p::r=>if isNumber p then some (.num (KL p),r) else if isName p then some (.box p,r) else if p=[40] then
  (match sub r with
  |some (e,q::r')=>if q=[41] then some (e,r') else none
  |_=>none) else none
def xY (ops:List W) (f:P):Nat->Tr->List W->Option (Tr×List W)
 |0,e,ps=>some (e,ps)
 |_+1,e,[]=>some (e,[])
 |k+1,e,p::r=>if p∈ops then (match f r with
  |none=>none
  |some (e2,r')=>xY ops f k (.bin p e e2) r') else some (e,p::r)
def vo (f:P):P:=fun ps=>match f ps with
 |none=>none
 |some (e,r)=>xY [[42]] f r.length e r
def KN (f:P):P:=fun ps=>match vo f ps with
 |none=>none
 |some (e,r)=>xY [[43],[45]] (vo f) r.length e r
def factor:Nat->P
 |0=>Jr fun _=>none
 |n+1=>Jr (KN (factor n))
def loop (ops:List W) (f:P) (e:Tr) (ps:List W):Option (Tr×List W):=xY ops f ps.length e ps
theorem Cn{ops:List W}{f:P}{e:Tr}{p:W}{r:List W}(h:p ∉ ops):loop ops f e (p::r)=some (e,p::r):=by
 unfold loop;rw[ZN];unfold xY;rw[if_neg h]
theorem Hl(f:P)(ps:List W):KN f ps=match vo f ps with
 |none=>none
 |some (e,r)=>loop [[43],[45]] (vo f) e r:=rfl
def VU (p:W):Bool:=isNumber p ||isName p
def KO:List W:=[[43],[45],[42]]
def step (p:W):Nat×Bool->Option (Nat×Bool)
 |(d,true)=>if p=[40] then (if d+1>5 then none else some (d+1,true)) else if VU p then some (d,false) else none
 |(d,false)=>if p=[41] then (if d=0 then none else some (d-1,false)) else if p∈KO then some (d,true) else none
def Co (_:List W):Prop:=True
def S5 (r:List W):Prop:=r=[]\/∃q t,r=q::t/\q≠[42]
def RP (n:Nat) (t:Tr) (L:List W):Prop:=∀rest,vo (factor n) (L++rest)=loop [[42]] (factor n) t rest
def RS (n:Nat) (t:Tr) (L:List W):Prop:=∀rest,S5 rest->KN (factor n) (L++rest)=loop [[43],[45]] (vo (factor n)) t rest
theorem Hm{n:Nat}{t:Tr}{rest:List W}(h:S5 rest):loop [[42]] (factor n) t rest=some (t,rest):=by
 rcases h with rfl |⟨q,r,rfl,hq⟩
 ·rfl
 ·exact Cn (by simpa using hq)
theorem RP.s{n:Nat}{t:Tr}{L:List W}(h:RP n t L):RS n t L:=fun rest hn=>by rw[Hl,h rest,Hm hn]
def put (b:Bool) (w:W):W:=if b then [40]++w++[41] else w
end PM
namespace L2
open PySem PySem.Spec PyProof.Rows
section
variable{X:Cx}{pins:List (zcl×Obj)}{σ:St}{H:Hp}{s:zcv}{x:zcl}
theorem Inv.told{o:HO}(I:Inv X pins σ H s)(n:H x=none)(h0:X.s₀.heap.objs.size<=x)(hL:x≠X.env.locals)(hc:∀y c,X.env.cells.lookup y=some c->c≠x)(hp:∀p∈X.pn++pins,p.1≠x)(ok:cJ X.prog X.w (upd H x o) s.heap x o):Inv X pins σ (upd H x o) s:=by
 have nx:∀b u,X.s₀.heap.get? b=some u->b≠x:=fun b u e=>Z3 (Z7 (Heap.lt_size e) h0);refine⟨I.ok,I.os,I.bare,⟨I.base.keep,I.base.slot,fun b u e n' hx=>?_,I.base.there,fun b xs e=>?_,fun b ob u e=>?_,fun b ps e=>?_⟩,I.loc,I.cell,?_,fun y c e=>?_,fun p L7=>?_,fun b u e=>?_,I.len⟩
 ·rw[aR (nx b u e)];exact I.base.free b u e n' hx
 ·have:=I.base.vS b xs e;rw[aR (au this n)];exact this
 ·have:=I.base.uD b ob u e;rw[aR (au this n)];exact this
 ·obtain⟨m,e1⟩:=I.base.vT b ps e;exact⟨m,by rw[aR (au e1 n)];exact e1⟩
 ·rw[aR (Ne.symm hL)];exact I.free
 ·rw[aR (hc y c e)];exact I.lg y c e
 ·obtain⟨a,b,c⟩:=I.pin p L7;exact⟨a,by rw[aR (hp p L7)];exact b,c⟩
 ·by_cases hb:b=x
  ·subst hb;rw[ao] at e;cases e;exact ok
  ·rw[aR hb] at e;exact(I.dg b u e).vR (fun _ _ _ q=>q) (fun c q=>by rw[aR (au q n)];exact q) fun c xs q=>by rw[aR (au q n)];exact q
end
def VV (z:Str):It:=⟨fun i _=>i<z.cps.size,fun i H x H'=>H'=H/\∃c,z.cps[i]?=some c/\x=.str ⟨#[c]⟩,fun i _=>z.cps.size<=i⟩
section
variable{X:Cx}{tg:Expr}
def Nq (tl:TE):TI:=fun σ H R=>tl σ H fun x H1=>∃z,x=.str z/\R (VV z) H1
end
abbrev W:=PM.W
def S (w:W):Str:=⟨w.toArray⟩
def sv (w:W):V:=.str (S w)
theorem oU{a b:W}:S a=S b↔a=b:=⟨fun h=>by have:=congrArg (fun z:Str=>z.cps.toList) h;simpa[S] using this,fun h=>by rw[h]⟩
def k5:PM.Tr->Dp
 |.num n=>.tup [.str "number",.int n]
 |.box x=>.tup [.str "box",.str (S x)]
 |.bin o l r=>.tup [.str (S o),k5 l,k5 r]
def bh (p:zcl) (H H':Hp):Prop:=∀b o,b≠p->H b=some o->H' b=some o
theorem bh.refl(p:zcl)(H:Hp):bh p H H:=fun _ _ _ h=>h
theorem bh.trans{p:zcl}{H H1 H2:Hp}(a:bh p H H1)(b:bh p H1 H2):bh p H H2:=fun c o n h=>b c o n (a c o n h)
theorem bh.of{p:zcl}{H H':Hp}(s:aw H H'):bh p H H':=fun b o _ h=>s b o h
theorem bh.put{p:zcl}{H H1:Hp}(a:bh p H H1)(o:HO):bh p H (upd H1 p o):=fun b u n h=>by rw[aR n];exact a b u n h
theorem bh.same{p:zcl}{H H':Hp}(a:bh p H H')(h:H p=none):aw H H':=fun b o e=>a b o (au e h) e
structure S6(CP:zcl)(H:Hp)(p l dx:zcl)(ps:List W)(k:Nat):Prop where
 ins:H p=some (.ins CP dx [("pieces",.ref l),("place",.int k)])
 own:H dx=some (.own p)
 lst:H l=some (.lst (ps.map sv))
 le:k<=ps.length
 pos:∀q∈ps,q≠[]
 len:∀q∈ps,q.length<=60
 many:ps.length<=60
theorem S6.nd{CP p l dx:zcl}{H:Hp}{ps:List W}{k:Nat}(o:S6 CP H p l dx ps k):dx≠p:=bX o.own o.ins (by intro z;cases z)
mutual
def Dp.py:Dp->PyData
 |.b4=>.none
 |.bl b=>.bool b
 |.int i=>.int i
 |.str x=>.str x
 |.tup l=>.tuple (Dp.ka l)
 |.lst l=>.list (Dp.ka l)
def Dp.ka:List Dp->List PyData
 |[]=>[]
 |d::r=>d.py::Dp.ka r
end
section
variable{X:Cx}{pins:List (zcl×Obj)}{σ:St}{H:Hp}{s:zcv}
mutual
theorem jd(I:Inv X pins σ H s):∀ {d:Dp} {v:V} {u:zcm},Rep X.K H d v->RelV v u->∃as,Reads s.heap u d.py as
 |.b4,v,u,h,r=>by rw[Rep.gS] at h;subst h;cases (show u=Value.none from r);exact⟨_,.none⟩
 |.bl b,v,u,h,r=>by rw[Rep.sX] at h;subst h;cases (show u=Value.bool b from r);exact⟨_,.bool b⟩
 |.int i,v,u,h,r=>by rw[Rep.ba] at h;subst h;obtain⟨t,rfl⟩:=(show ∃t,u=Value.int i t from r);exact⟨_,.int i t⟩
 |.str x,v,u,h,r=>by rw[Rep.bf] at h;subst h;obtain⟨t,rfl⟩:=(show ∃t,u=Value.str x t from r);exact⟨_,.str x t⟩
 |.tup l,v,u,h,r=>by
  rw[Rep.aK] at h;obtain⟨p,xs,rfl,q,w⟩:=h;cases (show u=Value.ref p from r);obtain⟨a0,v1,t1,_⟩:=I.tuple q;obtain⟨as,ra⟩:=qp I w v1;obtain⟨o,h1,h2,n,h3⟩:=t1;unfold Dp.py;exact⟨as,.tuple h1 h2 h3 (by simpa using ra)⟩
 |.lst l,v,u,h,r=>by
  rw[Rep.bH] at h;obtain⟨p,xs,rfl,q,w⟩:=h;cases (show u=Value.ref p from r);obtain⟨a0,v1,t1,_⟩:=I.list q;obtain⟨as,ra⟩:=qp I w v1;obtain⟨o,h1,h2,n,h3⟩:=t1.isList;unfold Dp.py;exact⟨_,.list h1 h2 h3 (by simpa using ra)⟩
theorem qp(I:Inv X pins σ H s):∀ {ds:List Dp} {vs:List V} {us:List zcm},aG X.K H ds vs->Vals vs us->∃as,ReadsAll s.heap us (Dp.ka ds) as
 |[],_,_,h,r=>by rw[aG.bD] at h;subst h;cases r;unfold Dp.ka;exact⟨_,.nil⟩
 |d::ds,_,_,h,r=>by
  rw[aG.aD] at h;obtain⟨v,vs,rfl,x,y⟩:=h;cases r with
  |cons r1 r2=>
   obtain⟨a,ra⟩:=jd I x r1;obtain⟨b,rb⟩:=qp I y r2;unfold Dp.ka;exact⟨_,.cons ra rb⟩
end
end
section
variable{X:Cx}
def Nr (K:ZI) (neg:Bool):R2:=fun x y H Q=>∃d e,Rep K H d x/\Rep K H e y/\SeqAt.shaped d.py=true/\SeqAt.shaped e.py=true/\Q (.bl (if neg then !PyData.eqv d.py e.py else PyData.eqv d.py e.py)) H
theorem KP(hu:X.A.units+64<cLine):oF X (compareOp .Eq) (Nr X.K false):=by
 intro pins s σ H x y v u Q I rx ry h;obtain⟨d,e,h1,h2,s1,s2,q⟩:=h;obtain⟨as,ra⟩:=jd I h1 rx;obtain⟨bs,rb⟩:=jd I h2 ry;exact eq_dataH ra rb s1 s2 hu ⟨.bl (PyData.eqv d.py e.py),H,I,rfl,q⟩
theorem KQ(hu:X.A.units+64<cLine):oF X (compareOp .NotEq) (Nr X.K true):=by
 intro pins s σ H x y v u Q I rx ry h;obtain⟨d,e,h1,h2,s1,s2,q⟩:=h;obtain⟨as,ra⟩:=jd I h1 rx;obtain⟨bs,rb⟩:=jd I h2 ry;exact ne_dataH ra rb s1 s2 hu ⟨.bl (!PyData.eqv d.py e.py),H,I,rfl,q⟩
end
mutual
theorem eqv_refl:∀d:Dp,PyData.eqv d.py d.py=true
 |.b4=>rfl
 |.bl b=>by simp[Dp.py,PyData.eqv]
 |.int i=>by simp[Dp.py,PyData.eqv]
 |.str x=>by simp[Dp.py,PyData.eqv]
 |.tup l=>by simp only[Dp.py,PyData.eqv];exact qr l
 |.lst l=>by simp only[Dp.py,PyData.eqv];exact qr l
theorem qr:∀l:List Dp,PyData.eqvAll (Dp.ka l) (Dp.ka l)=true
 |[]=>rfl
 |d::r=>by simp only[Dp.ka,PyData.eqvAll,eqv_refl d,qr r,zbE]
end
theorem av{t u:TS}{D:Ends}{σ:St}{H:Hp}(h:∀U:St->Hp->Prop,(∀σ' H',U σ' H'↔u D σ' H')->t {D with nx:=U} σ H):GN t u D σ H:=h (u D) fun _ _=>Iff.rfl
theorem EB{A:zcw}{k:Nat}(hr:gJ k A):A.units+64<cLine:=hr.units
end L2
namespace L2
open PySem
theorem xZ{X:Cx}:lC X (.builtin "isinstance") (fun xs H Q=>∃a T l b,xs=[.ref a,.ty T]/\dq X.K H a l/\zb9 X.K (.type "tuple") (.type T)=some b/\Q (.bl b) H):=by
 intro pins s σ H xs us Q I r h;obtain⟨a,T,l,b,rfl,hS,e,q⟩:=h;cases r with
 |cons r1 r2=>
  cases r2 with
  |cons r3 r4=>
   cases r4;cases (show _=Value.ref a from r1);cases (show _=Value.type T from r3);obtain⟨a0,_,⟨o,h1,h2,_⟩,_⟩:=I.tuple hS;exact zal PySem.W.kitx_tuple I.rK ⟨o,h1,h2⟩ e (fun z=>nomatch z) fun tk=>⟨.bl b,H,I.tok tk,rfl,q⟩
theorem x3{ta:TA}{g:TG}{tb:TS}{D:Ends}{σ:St}{H:Hp} (h:∀U:Int->Hp->Prop,(∀j H1,(∃W:Nat->Nat->St->Hp->Prop,(∃m,W 0 m σ H1)/\∀i m σ H,W i m σ H->
 ((Dz 0 j.toNat).stop i H/\D.nx σ H)\/((Dz 0 j.toNat).go i H/\∃N:St->Hp->Prop,(∀σ' H',N σ' H'->∃m',m'<m/\W (i+1) m' σ' H')/\∀x H',(Dz 0 j.toNat).B1 i H x H'->g x σ H' fun σ2 H2=>tb {D with nx:=N,ct:=N,bk:=D.nx} σ2 H2))->U j H1)->
 ta σ H fun vs H1=>∃j:Int,vs=[.int j]/\-(2 ^ 62)<=j/\j<2 ^ 62/\U j H1):GQ (AV ta) g tb D σ H:=h _ fun _ _ x=>x
def Bk (K:ZI):Sp:=fun vs H Q _=>∃(a:zcl) (ns:List Int),vs=[.ref a]/\gQ K H a (ns.map .int)/\ns.length<=63/\∀H',Q (.bl true) H'
theorem Js(ns:List Int)(h:ns.length<=63):k4 (ns.map V.int) none (some 63)=ns.map V.int:=by
 unfold k4;rw[HT.oM,show (63:Int)=((63:Nat):Int) from rfl,HT.sk,ZL,zb2,Nat.sub_zero];exact zaR (by rw[ZL];lia)
open PyProof.Rows PySem.Spec
section
variable{X:Cx}{pins:List (zcl×Obj)}{σ:St}{H:Hp}{s:zcv}{h':Heap}
theorem Inv.vp{t':Nat}{fp:List zcl}(I:Inv X pins σ H s)(k:∀b o,b ∉ fp->s.heap.get? b=some o->h'.get? b=some o)(hf:∀b∈fp,oI X pins H b):Inv X pins σ H {s with heap:=h',toks:=t' }:=by
 have Mz:∀b u,H b=some u->b ∉ fp:=fun b u e z=>by rw[(hf b z).1] at e;cases e
 refine I.step (g':=s.gens) (d':=s.drawn) (ch:=fp) (fun b hb=>?_) (fun b o _ _ hc e _=>k b o hc e) (fun b o _ _ hc e _=>⟨o.slots,k b o hc e⟩) (fun _ _ _ _ n=>n)
  (fun b o hc e=>⟨o,k b o hc e⟩) (fun _ _ e=>e) (fun _ _ _ e=>e) (fun b ps e=>⟨#[],by rw[e];simp⟩) (fun m hm=>?_) (fun b u e=>?_) I.bare
 ·obtain⟨_,f1,_,f3,f4,f5⟩:=hf b hb;exact⟨f3,f1,f4,f5⟩
 ·obtain⟨o,es,ep,ho,r⟩:=hm;exact⟨o,es,ep,k _ o (fun z=>(hf _ z).2.1 rfl) ho,r⟩
 ·refine(I.dg b u e).vR (fun c v hc q=>k c v ?_ q) (fun _ q=>q) fun _ _ q=>q;rcases hc with z |z
  ·rw[z];exact Mz b u e
  ·exact Mz c _ z
end
def Nt (K:ZI) (a:zcl):It:=
 ⟨fun i H=>∃xs x,gQ K H a xs/\xs[i]?=some x,fun i H x H'=>∃p y,x=.ref p/\H p=none/\H'=upd H p (.tup [.int i,y])/\∀xs,gQ K H a xs->xs[i]?=some y,fun i H=>∃xs,gQ K H a xs/\xs.length<=i⟩
theorem Cp{P:zcx}{w:zcn}{K:ZI}{elts:List Expr}{x1}{pos:Pos}(a e it:zcl)(Gy:e≠it) :
 Turn P w K (.Tuple elts x1 pos) (Nt K a) [e,it] e (fun i h=>(∃old,IsEnum h e it i old)/\h.IsListIter it a i) where
 mem:=by simp
 obj:=fun i h st b hb=>by
  obtain⟨⟨old,he⟩,o,eo,c,d⟩:=st;rcases ZS.mp hb with rfl |hb
  ·exact⟨_,he,fun v z=>by cases (show Data.fields _=Data.cell v from z)⟩
  ·have z:b=it:=by simpa using hb
   subst z;exact⟨o,eo,fun v z=>by rw[d] at z;cases z⟩
 keep:=fun i h h' st k=>⟨st.1.elim fun old he=>⟨old,k e (by simp) _ he⟩,st.2.at fun o x=>k it (by simp) o x⟩
 item:=by
  intro X hP hw hK hc i pins s σ H E I hf st hg;subst hP hw hK;obtain⟨xs,x,hq,hx⟩:=hg;obtain⟨⟨old,he⟩,hit⟩:=st;obtain⟨a0,rv,p,hz⟩:=I.list hq;obtain⟨u,hu,ru⟩:=rv.get hx;refine wpAny_pyNext_enum_item he hit p.isList (x:=u) (by simpa using hu) Gy fun h' ho KR hT hsz hk=>?_;refine⟨_,rfl,?_⟩;refine wpAny_letOwnedTupleGo_enum ho fun h2 OY sb=>?_;have Nu:e<s.heap.objs.size:=Heap.lt_size he;have Nv:it<s.heap.objs.size:=by obtain⟨_,x,_⟩:=hit;exact Heap.lt_size x
  have I1:Inv X pins σ H {s with heap:=h2,toks:=s.toks+1}:=I.vp (t':=s.toks+1) (fun b o hb q=>(sb.2 b fun z=>hb (by simp[z])).trans (hk b o (fun z=>hb (by simp[z])) (fun z=>hb (by simp[z])) q)) hf;have fr:H s.heap.objs.size=none:=I.dg.fresh (ZQ _);obtain⟨g0,g1,g2,g3,g4,g5⟩:=I.B2 (ZQ _) fr;have QF:h2.get? s.heap.objs.size=some {cls:=.type "tuple",data:=.seq #[.int i s.toks,u]}:=(sb.2 _ (za1 Nu)).trans hT;have I2:=I1.told (o:=.tup [.int i,x]) fr I.sz g1 g4 g5 ⟨(show (2:Nat)<=zct by decide),[.int i s.toks,u],.cons ⟨_,rfl⟩ (.cons ru .nil),⟨_,QF,rfl,_,rfl⟩⟩;refine⟨.ref s.heap.objs.size,_,I2,rfl,⟨_,x,rfl,fr,rfl,fun ys hy=>by rw[I.xJ hy hq];exact hx⟩,⟨⟨_,by exact_mod_cast OY⟩,KR.at fun o q=>(sb.2 it (Ne.symm Gy)).trans q⟩,fun b hb=>?_⟩;rw[aR ?_]
  ·exact(hf b hb).1
  ·rcases ZS.mp hb with rfl |hb
   ·exact Z3 Nu
   ·have z:b=it:=by simpa using hb
    subst z;exact Z3 Nv
 done:=by
  intro X hP hw hK hc i pins s σ H E I hf st hg;subst hP hw hK;obtain⟨xs,hq,hx⟩:=hg;obtain⟨⟨old,he⟩,hit⟩:=st;obtain⟨a0,rv,p,hz⟩:=I.list hq;have hl:=rv.length;exact wpAny_pyNext_enum_end (I.ok.hd hc) he hit p.isList (by simp;lia) fun h' eb=>⟨rfl,I.vp (t':=s.toks) (fun b o hb q=>eb b o (fun z=>hb (by simp[z])) q) hf⟩
 self:=fun _ _ _ _ _ st h=>st.1.elim fun _ he=>wpAny_pyIter_enum he h
def Nw (K:ZI) (ta:TA):TI:=fun σ H R=>ta σ H fun vs H1=>∃a,vs=[.ref a]/\(∃xs,gQ K H1 a xs)/\R (Nt K a) H1
theorem Hn{X:Cx}{elts:List Expr}{x1}{tp:Pos}{a:Expr}{ta:TA}{p pos:Pos}(hg:Gl X "enumerate")(hm:X.mg "enumerate"=none)(ha:PA X [a] ta)(hs:zcr [a] X.env=[(false,eval a X.env)]:=by rfl) :
 PI X (.Tuple elts x1 tp) (.Call (.Name "enumerate" p) [a] [] pos) (Nw X.K ta):=by
 intro pins s σ H R I h;refine Call_ (nE I hg hm PyProof.Rows.Boot.«enumerate» (zaH (eP (ha pos pins s σ H _ I h) fun us s1 zqz=>?_) hs rfl));obtain⟨vs,H1,I1,r1,q1⟩:=zqz;obtain⟨l,e,⟨xs,hq⟩,q⟩:=q1;subst e;cases r1 with
 |cons r rr=>
  cases rr;cases (show _=Value.ref l from r);obtain⟨a0,rv,p,hz⟩:=I1.list hq;refine call_enumerate_list p.isList fun h' he hit hsz hk=>?_;refine wpAny_pyIter_enum he ?_;have fr:∀b,s1.heap.objs.size<=b->H1 b=none:=fun b hb=>I1.dg.fresh hb;refine⟨s1.heap.objs.size+1,[s1.heap.objs.size+1,s1.heap.objs.size],_,_,H1,rfl,I1.kept (t':=s1.toks) hk,Cp l _ _ (Nat.succ_ne_self _),⟨⟨_,he⟩,hit⟩,fun b hb=>?_,q⟩;have S7:s1.heap.objs.size<=b:=by
   rcases ZS.mp hb with rfl |hb
   ·exact Nat.le_succ _
   ·have z:b=s1.heap.objs.size:=by simpa using hb
    rw[z];exact ZQ _
  exact I1.B2 S7 (fr b S7)
theorem EC{K:ZI}{a:zcl}{xs:List V}{g:TG}{tb:TS}{D:Ends}{σ:St}{H:Hp}(Pv:Nat->St->Hp->Prop)(h0:Pv 0 σ H)(hl:∀i σ H,i<=xs.length->Pv i σ H->gQ K H a xs)
 (hs:∀i x σ H p,xs[i]?=some x->Pv i σ H->H p=none->g (.ref p) σ (upd H p (.tup [.int i,x])) fun σ2 H2=>tb {D with nx:=Pv (i+1),ct:=Pv (i+1),bk:=D.nx} σ2 H2) (hd:∀σ H,Pv xs.length σ H->D.nx σ H) :
 ∃W:Nat->Nat->St->Hp->Prop,(∃m,W 0 m σ H)/\∀i m σ H,W i m σ H->
  ((Nt K a).stop i H/\D.nx σ H)\/((Nt K a).go i H/\∃N:St->Hp->Prop,(∀σ' H',N σ' H'->∃m',m'<m/\W (i+1) m' σ' H')/\∀x H',(Nt K a).B1 i H x H'->g x σ H' fun σ2 H2=>tb {D with nx:=N,ct:=N,bk:=D.nx} σ2 H2):=by
 refine⟨fun i m σ H=>m=xs.length-i/\i<=xs.length/\Pv i σ H,⟨xs.length,by simp,zac _,h0⟩,?_⟩
 rintro i m σ H ⟨rfl,hi,p⟩
 have q:=hl i σ H hi p;by_cases uI:i<xs.length
 ·refine .inr ⟨⟨xs,xs[i],q,by simp[uI]⟩,Pv (i+1),fun σ' H' p'=>⟨xs.length-(i+1),by lia,rfl,uI,p'⟩,fun x H' y=>?_⟩;obtain⟨pp,v,rfl,hn,rfl,y⟩:=y;exact hs i v σ H pp (y xs q) p hn
 ·have e:i=xs.length:=by lia
  subst e;exact .inl ⟨⟨xs,q,ZQ _⟩,hd σ H p⟩
theorem eS{X:Cx}:lC X (.type "int") (fun xs H Q=>∃b:Bool,xs=[.bl b]/\Q (.int (if b then 1 else 0)) H):=by
 intro pins s σ H xs us Q I r h;obtain⟨b,rfl,q⟩:=h;obtain⟨u,rfl,ru⟩:=vals1 r;cases (show u=Value.bool b from ru);exact PySem.call_int_bool ⟨.int (if b then 1 else 0),H,I.tok _,⟨_,rfl⟩,q⟩
section
variable{prog:zcx}{w:zcn}{A:zcw}{E:zcm->zcv->Prop}{s:zcv}
theorem x4{it l:zcl}{a0:Array zcm}(Gy:l≠it):∀(n i:Nat) (s:zcv) (Q:List zcm->zcv->Prop),s.heap.IsListIter it l i->s.heap.IsList l a0->i+n<=a0.size->
 (∀h',h'.IsListIter it l (i+n)->Heap.SameBut it s.heap h'->Q ((a0.toList.drop i).take n) {s with heap:=h' })->wpAny (model prog w) A (draw (.ref it) n) Q E s
 |0,i,s,Q,a,_,_,q=>by
  show wpAny _ _ (pure []) Q E s;exact zcp (by simpa using q s.heap a (Heap.SameBut.refl ..))
 |n+1,i,s,Q,a,b,le,q=>by
  have lt:i<a0.size:=by lia
  show wpAny _ _ (pyNext (.ref it) >>= _) Q E s;refine zco (wpAny_pyNext_list_item a b (x:=a0[i]) (by simp[lt]) fun h1 a1 s1=>?_);have b1:h1.IsList l a0:=by
   obtain⟨o,ho,r⟩:=b;exact⟨o,(s1.2 l Gy).trans ho,r⟩
  refine zco (zcq (x4 Gy n (i+1) _ _ a1 b1 (by lia) fun h2 a2 s2=>zcp ?_));have e:a0.toList.drop i=a0[i]::a0.toList.drop (i+1):=by simp[zaA,lt]
  have z:=q h2 (by rw[show i+(n+1)=i+1+n by lia];exact a2) (s1.trans s2);rw[e,List.take_succ_cons] at z;exact z
theorem Ab{l:zcl}{a0:Array zcm}{ts:List (Bool×(zcm->Sem Unit))}{Q:Unit->zcv->Prop}(hh:A.handled=none)(b:s.heap.IsList l a0)(hn:ts.length=a0.size)(qd:ts.findIdx? (·.1)=none)
 (h:∀h',Heap.ExtBut s.heap.objs.size s.heap h'->wpAny (model prog w) A (assignInOrder (ts.map (·.2)) a0.toList) Q E {s with heap:=h' }):wpAny (model prog w) A (unpack (.ref l) ts) Q E s:=by
 have lt:l≠s.heap.objs.size:=by obtain⟨o,ho,_⟩:=b;exact Z3 (Heap.lt_size ho)
 unfold unpack;rw[hn,qd];refine zco (zcq ?_);unfold unpackItems;refine zco ?_;unfold notIterableAtAll;refine zco (wpAny_specialOf b.typeIs slot_list_iter.lookup ?_);refine zcp ?_;simp only[Z2,if_false];refine zco (zcq (wpAny_pyIter_list b ?_));have vR:∀ {h1 h2:Heap},Heap.ExtBut s.heap.objs.size h1 h2->h1.IsList l a0->h2.IsList l a0:=fun {h1 h2} e x=>by
  obtain⟨o,ho,r⟩:=x;exact⟨o,e l o lt ho,r⟩
 have b0:(s.heap.push {cls:=.type "list_iterator",data:=.fields #[.ref l,.int 0 0]}).IsList l a0:=by
  obtain⟨o,ho,r⟩:=b;exact⟨o,Heap.get?_push_of_some _ ho,r⟩
 refine zco (zcq (x4 lt a0.size 0 _ _ ⟨_,Heap.get?_push_size _ rfl,rfl,rfl⟩ b0 (by lia) fun h1 a1 s1=>?_));have all:List.take a0.size (List.drop 0 a0.toList)=a0.toList:=by
  rw[zb2];exact zaR (by simp)
 rw[all,if_neg (by simp)];have b1:h1.IsList l a0:=vR s1.extBut b0;refine zco (zcq (wpAny_pyNext_list_end hh a1 b1 (by simp) fun h2 e2=>?_));simp only[Option.isSome_none,Z2,if_false];exact zcp (h h2 fun c o hc e=>e2 c o hc (s1.extBut c o hc (Heap.get?_push_of_some _ e)))
end
def KU (K:ZI) (n:Nat) (t:GP):TG:=fun v σ H Q=>∃a xs,v=.ref a/\gQ K H a xs/\xs.length=n/\t xs σ H Q
theorem KW{X:Cx}{es:List Expr}{k}{pos:Pos}{t:GP}{n:Nat}(hc:X.calm=true)(h:MJ X es t)
 (hn:(assignEach es X.env).length=n:=by rfl) (qd:(assignEach es X.env).findIdx? (·.1)=none:=by rfl):PG X (.Tuple es k pos) (KU X.K n t):=by
 intro pins s σ H v u Q I r hw;obtain⟨a,xs,rfl,hq,hl,hw⟩:=hw;cases r;obtain⟨a0,rv,hp,_⟩:=I.list hq;rw[assign_Tuple];refine zco (wpAny_standAt (Ab (I.ok.hd hc) hp.isList (by simp[hn,<- hl,rv.length]) qd fun h' hx=>?_));have I1:Inv X pins σ H {s with heap:=h' }:=I.kept (t':=s.toks) fun b o e=>hx b o (Z3 (Heap.lt_size e)) e;exact h pins _ σ H xs _ Q I1 (by simpa using rv) hw
open PySem.SeqAt
theorem vq{X:Cx}(hu:X.A.units+1<cLine):oF X (compareOp .NotEq) (fun x y H Q=>∃a b xs,x=.ref a/\y=.ref b/\gQ X.K H a xs/\gQ X.K H b []/\Q (.bl (!xs.isEmpty)) H):=by
 intro pins s σ H x y v u Q I rx ry h;obtain⟨a,b,xs,rfl,rfl,h1,h2,q⟩:=h;cases (show v=Value.ref a from rx);cases (show u=Value.ref b from ry);obtain⟨a0,v1,p1,_⟩:=I.list h1;obtain⟨its',v2,p2,_⟩:=I.list h2;cases v2;cases xs with
 |nil=>
  cases v1;exact(RcNeAt.lists (e:=fun _=>true) p1.isList p2.isList rfl (by lia) (fun j h1=>absurd h1 (by simp))) _ _ _ _ ⟨.bl false,H,I,rfl,q⟩
 |cons z zs=>
  cases v1;exact(RcNeAt.lists_lengths p1.isList p2.isList (by simp) (by lia)) _ _ _ _ ⟨.bl true,H,I,rfl,q⟩
def eJ (val:W->Int):PM.Tr->Int
 |.num n=>n
 |.box x=>val x
 |.bin o l r=>if o=[43] then eJ val l+eJ val r else if o=[45] then eJ val l-eJ val r else eJ val l*eJ val r
theorem lG{K:ZI}{tl:TE}{g:TG}{tb:TS}{D:Ends}{σ:St}{H:Hp} (h:∀U:zcl->Hp->Prop,(∀a H1,(∃W:Nat->Nat->St->Hp->Prop,(∃m,W 0 m σ H1)/\∀i m σ H,W i m σ H->
 ((B3 K a).stop i H/\D.nx σ H)\/((B3 K a).go i H/\∃N:St->Hp->Prop,(∀σ' H',N σ' H'->∃m',m'<m/\W (i+1) m' σ' H')/\∀x H',(B3 K a).B1 i H x H'->g x σ H' fun σ2 H2=>tb {D with nx:=N,ct:=N,bk:=D.nx} σ2 H2))->U a H1)->
 tl σ H fun x H1=>∃a,x=.ref a/\(∃xs,gQ K H1 a xs)/\U a H1):GQ (vb K tl) g tb D σ H:=h _ fun _ _ x=>x
theorem Bl{a:Option V}{r:St}{H:Hp}{Q:VK}:(fj 10 (a::r) H Q)=(fj 9 r H Q):=rfl
theorem Bm{a:Option V}{r:St}{H:Hp}{Q:VK}:(fj 11 (a::r) H Q)=(fj 10 r H Q):=rfl
theorem Bn{a:Option V}{r:St}{H:Hp}{Q:VK}:(fj 12 (a::r) H Q)=(fj 11 r H Q):=rfl
theorem vt{X:Cx}(hu:X.A.units+1<cLine):oF X (compareOp .Eq) (fun x y H Q=>∃a b xs,x=.ref a/\y=.ref b/\gQ X.K H a xs/\gQ X.K H b []/\Q (.bl xs.isEmpty) H):=by
 intro pins s σ H x y v u Q I rx ry h;obtain⟨a,b,xs,rfl,rfl,h1,h2,q⟩:=h;cases (show v=Value.ref a from rx);cases (show u=Value.ref b from ry);obtain⟨a0,v1,p1,_⟩:=I.list h1;obtain⟨its',v2,p2,_⟩:=I.list h2;cases v2;cases xs with
 |nil=>
  cases v1;exact(RcAt.lists (e:=fun _=>true) p1.isList p2.isList rfl (by lia) (fun j h1=>absurd h1 (by simp))) _ _ _ _ ⟨.bl true,H,I,rfl,q⟩
 |cons z zs=>
  cases v1;exact(RcAt.lists_lengths p1.isList p2.isList (by simp) (by lia)) _ _ _ _ ⟨.bl false,H,I,rfl,q⟩
end L2
namespace PG
open PM (W Tr)
structure gf where
 name:W
 size:Int
 first:Int
inductive aW where
 |ask (k:Int) (b:W)
 |put (k:Int) (b:W) (e:Tr)
 |say (k:Int) (e:Tr)
 |bO (k:Int) (sg:W) (l r:Tr)
 |stop (k:Int)
 |ifs (k:Int) (sg:W) (l r:Tr) (a b:List aW)
 |fZ (k:Int) (sg:W) (l r:Tr) (a:List aW)
def aW.row:aW->Int
 |.ask k _=>k |.put k _ _=>k |.say k _=>k |.bO k _ _ _=>k |.stop k=>k |.ifs k _ _ _ _ _=>k |.fZ k _ _ _ _=>k
inductive Wd where
 |ask |put |say |bO |stop |ifs |fZ |QG |fin
 deriving DecidableEq
def aW.wd:aW->Wd
 |.ask _ _=>.ask |.put _ _ _=>.put |.say _ _=>.say |.bO _ _ _ _=>.bO |.stop _=>.stop |.ifs _ _ _ _ _ _=>.ifs |.fZ _ _ _ _ _=>.fZ
def pick {α:Type} (d:α) (l:List α) (n:Int):α:=l.getD n.toNat d
def zm:List W:=[[60],[61]]
abbrev Row:=Int×Wd
structure Prog where
 ar:List gf
 body:List aW
end PG
namespace PG
open PM (W Tr)
mutual
def jQ:aW->List Row
 |.ifs k _ _ _ a b=>(k,.ifs)::(fU a++fU b)
 |.fZ k _ _ _ a=>(k,.fZ)::fU a
 |.ask k _=>[(k,.ask)]
 |.put k _ _=>[(k,.put)]
 |.say k _=>[(k,.say)]
 |.bO k _ _ _=>[(k,.bO)]
 |.stop k=>[(k,.stop)]
def fU:List aW->List Row
 |[]=>[]
 |s::r=>jQ s++fU r
end
end PG
namespace PG
open PM (W Tr)
abbrev bW:=Int×Wd×List Int
def aP:List aW->Int->Int
 |[],x=>x
 |s::_,_=>s.row
mutual
def dv:aW->Int->List bW
 |.ifs k _ _ _ a b,x=>(k,.ifs,[aP a x,aP b x])::(aI a x++aI b x)
 |.fZ k _ _ _ a,x=>(k,.fZ,[aP a k,x])::aI a k
 |.ask k _,x=>[(k,.ask,[x])]
 |.put k _ _,x=>[(k,.put,[x])]
 |.say k _,x=>[(k,.say,[x])]
 |.bO k _ _ _,x=>[(k,.bO,[x])]
 |.stop k,_=>[(k,.stop,[0])]
def aI:List aW->Int->List bW
 |[],_=>[]
 |s::r,x=>dv s (aP r x)++aI r x
end
mutual
theorem vv:∀(s:aW) (x:Int),(dv s x).map (fun r=>(r.1,r.2.1))=jQ s
 |.ifs k _ _ _ a b,x=>by simp[dv,jQ,dH a x,dH b x]
 |.fZ k _ _ _ a,x=>by simp[dv,jQ,dH a k]
 |.ask k _,x=>rfl
 |.put k _ _,x=>rfl
 |.say k _,x=>rfl
 |.bO k _ _ _,x=>rfl
 |.stop k,_=>rfl
theorem dH:∀(b:List aW) (x:Int),(aI b x).map (fun r=>(r.1,r.2.1))=fU b
 |[],_=>rfl
 |s::r,x=>by simp[aI,fU,vv s _,dH r x]
end
inductive Tg where
 |row (k:Int) |side (k:Int) (b:Bool) |bO (k:Int) |fin
 deriving DecidableEq
end PG
namespace PG
open PM (W Tr)
mutual
def k6:aW->Nat
 |.ifs _ _ _ _ a b=>max (eT a) (eT b)+1
 |.fZ _ _ _ _ a=>eT a+1
 |_=>0
def eT:List aW->Nat
 |[]=>0
 |s::r=>max (k6 s) (eT r)
end
theorem sY:∀a b:List aW,eT (a++b)=max (eT a) (eT b)
 |[],b=>by simp[eT]
 |s::r,b=>by
  show eT (s::(r++b))=_;rw[eT,eT,sY r b,Nat.max_assoc]
end PG
namespace PG
open PM (W Tr)
section
variable(nm:W->Prop)(ex:Tr->Prop)(sg:W->Prop)
mutual
def qt:aW->Prop
 |.ask _ b=>nm b
 |.put _ b e=>nm b/\ex e
 |.say _ e=>ex e
 |.bO _ s l r=>sg s/\ex l/\ex r
 |.stop _=>True
 |.ifs _ s l r a b=>sg s/\ex l/\ex r/\zo a/\zo b
 |.fZ _ s l r a=>sg s/\ex l/\ex r/\zo a
def zo:List aW->Prop
 |[]=>True
 |s::r=>qt s/\zo r
end
end
section
variable{nm:W->Prop}{ex:Tr->Prop}{sg:W->Prop}
section
end
end
def ju:Tr->Nat
 |.bin _ l r=>max (ju l) (ju r)+1
 |_=>0
end PG
namespace PG
open PM (W Tr)
inductive Mt where
 |op (QG fin:Option Nat)
 |back (i:Nat)
 deriving DecidableEq
abbrev Mm:=Nat->Option Mt
def Mm.set (m:Mm) (i:Nat) (x:Mt):Mm:=fun j=>if j=i then some x else m j
end PG
namespace PG
open PM (W Tr)
def to (R:List Row) (m:Mm) (p:Nat):Int:=
 if h:p<R.length then
  match (R[p]).2 with
  |.QG=>match m p with
   |some (.back o)=>match m o with
    |some (.op _ (some e))=>if he:p<=e then to R m (e+1) else 0
    |_=>0
   |_=>0
  |.fin=>match m p with
   |some (.back o)=>match R[o]? with
    |some (k,.fZ)=>k
    |_=>to R m (p+1)
   |_=>0
  |_=>(R[p]).1
 else 0
termination_by R.length-p
decreasing_by all_goals lia
def At (R:List Row) (i:Nat) (rs:List Row):Prop:=∀j,j<rs.length->R[i+j]?=rs[j]?
theorem At.head{R:List Row}{i:Nat}{x:Row}{b:List Row}(h:At R i (x::b)):R[i]?=some x:=by
 have:=h 0 (by simp);simpa using this
end PG
namespace PG
open PM (W Tr)
mutual
def cv:aW->List aW
 |.ifs k sg l r a b=>.ifs k sg l r a b::(ay a++ay b)
 |.fZ k sg l r a=>.fZ k sg l r a::ay a
 |s=>[s]
def ay:List aW->List aW
 |[]=>[]
 |s::r=>cv s++ay r
end
mutual
theorem vw:∀s:aW,(cv s).map (fun x=>(x.row,x.wd))=jQ s
 |.ifs k sg l r a b=>by
  rw[cv,jQ,ZW,Z8,fA a,fA b];rfl
 |.fZ k sg l r a=>by
  rw[cv,jQ,ZW,fA a];rfl
 |.ask k _=>rfl
 |.put k _ _=>rfl
 |.say k _=>rfl
 |.bO k _ _ _=>rfl
 |.stop k=>rfl
theorem fA:∀b:List aW,(ay b).map (fun x=>(x.row,x.wd))=fU b
 |[]=>rfl
 |s::r=>by simp[ay,fU,vw s,fA r]
end
end PG
namespace PG
open PM (W Tr)
section
variable{nm:W->Prop}{ex:Tr->Prop}{sg:W->Prop}
mutual
theorem Ho:∀(s x:aW),qt nm ex sg s->x∈cv s->qt nm ex sg x
 |.ifs k s l r a b,x,h,m=>by
  rw[cv] at m;rcases ZS.mp m with rfl |m
  ·exact h
  ·rw[qt] at h;rcases Z1.mp m with m |m
   ·exact gu a x h.2.2.2.1 m
   ·exact gu b x h.2.2.2.2 m
 |.fZ k s l r a,x,h,m=>by
  rw[cv] at m;rcases ZS.mp m with rfl |m
  ·exact h
  ·rw[qt] at h;exact gu a x h.2.2.2 m
 |.ask k b,x,h,m=>by simp only[cv,ZU] at m;subst m;exact h
 |.put k b e,x,h,m=>by simp only[cv,ZU] at m;subst m;exact h
 |.say k e,x,h,m=>by simp only[cv,ZU] at m;subst m;exact h
 |.bO k s l r,x,h,m=>by simp only[cv,ZU] at m;subst m;exact h
 |.stop k,x,h,m=>by simp only[cv,ZU] at m;subst m;exact h
theorem gu:∀(b:List aW) (x:aW),zo nm ex sg b->x∈ay b->qt nm ex sg x
 |[],x,_,m=>by simp[ay] at m
 |s::r,x,h,m=>by
  rw[ay] at m;rw[zo] at h;rcases Z1.mp m with m |m
  ·exact Ho s x h.1 m
  ·exact gu r x h.2 m
end
end
end PG
namespace PG
open PM (W Tr)
def gK (bs:List gf):Tr->Prop
 |.num n=>0<=n/\n<1000
 |.box x=>x∈bs.map (·.name)
 |.bin o l r=>o∈([[43],[45],[42]]:List W)/\gK bs l/\gK bs r
end PG
namespace PG
def kA (r:bW):Prop:=0<r.2.2.length/\(r.2.1=.ifs\/r.2.1=.fZ->1<r.2.2.length)
mutual
theorem Cq:∀(s:aW) (x:Int),∀r∈dv s x,kA r
 |.ifs k sg l r a b,x,y,h=>by
  rw[dv] at h;simp only[ZS,Z1] at h;rcases h with rfl |h |h
  ·simp[kA]
  ·exact fV a x y h
  ·exact fV b x y h
 |.fZ k sg l r a,x,y,h=>by
  rw[dv] at h;simp only[ZS] at h;rcases h with rfl |h
  ·simp[kA]
  ·exact fV a k y h
 |.ask k _,x,y,h=>by simp[dv] at h;subst h;simp[kA]
 |.put k _ _,x,y,h=>by simp[dv] at h;subst h;simp[kA]
 |.say k _,x,y,h=>by simp[dv] at h;subst h;simp[kA]
 |.bO k _ _ _,x,y,h=>by simp[dv] at h;subst h;simp[kA]
 |.stop k,x,y,h=>by simp[dv] at h;subst h;simp[kA]
theorem fV:∀(b:List aW) (x:Int),∀r∈aI b x,kA r
 |[],x,y,h=>by simp[aI] at h
 |s::r,x,y,h=>by
  rw[aI,Z1] at h;rcases h with h |h
  ·exact Cq s _ y h
  ·exact fV r x y h
end
end PG
namespace PG
theorem lH:∀(b:List aW) (x:Int),aP b x=x\/∃t∈ay b,t.row=aP b x
 |[],x=>.inl rfl
 |s::r,x=>.inr ⟨s,by rw[ay];exact zab _ (by cases s<;>simp[cv]),rfl⟩
mutual
theorem ED:∀(s:aW) (x:Int),∀r∈dv s x,∀w∈r.2.2,w=0\/w=x\/∃t∈cv s,t.row=w
 |.ifs k sg l r a b,x,y,h,w,hw=>by
  rw[dv] at h;simp only[ZS,Z1] at h;rw[cv];rcases h with rfl |h |h
  ·simp only[ZS,List.mem_nil_iff,or_false] at hw;rcases hw with rfl |rfl
   ·rcases lH a x with e |⟨t,ht,e⟩
    ·exact .inr (.inl e)
    ·exact .inr (.inr ⟨t,by simp[ht],e⟩)
   ·rcases lH b x with e |⟨t,ht,e⟩
    ·exact .inr (.inl e)
    ·exact .inr (.inr ⟨t,by simp[ht],e⟩)
  ·rcases lI a x y h w hw with e |e |⟨t,ht,e⟩
   ·exact .inl e
   ·exact .inr (.inl e)
   ·exact .inr (.inr ⟨t,by simp[ht],e⟩)
  ·rcases lI b x y h w hw with e |e |⟨t,ht,e⟩
   ·exact .inl e
   ·exact .inr (.inl e)
   ·exact .inr (.inr ⟨t,by simp[ht],e⟩)
 |.fZ k sg l r a,x,y,h,w,hw=>by
  rw[dv] at h;simp only[ZS] at h;rw[cv];have self:w=k->∃t∈(aW.fZ k sg l r a::ay a),t.row=w:=fun e=>⟨_,Z0 ..,e.symm⟩
  rcases h with rfl |h
  ·simp only[ZS,List.mem_nil_iff,or_false] at hw;rcases hw with rfl |rfl
   ·rcases lH a k with e |⟨t,ht,e⟩
    ·exact .inr (.inr (self e))
    ·exact .inr (.inr ⟨t,by simp[ht],e⟩)
   ·exact .inr (.inl rfl)
  ·rcases lI a k y h w hw with e |e |⟨t,ht,e⟩
   ·exact .inl e
   ·exact .inr (.inr (self e))
   ·exact .inr (.inr ⟨t,by simp[ht],e⟩)
 |.ask k _,x,y,h,w,hw=>by simp[dv] at h;subst h;simp at hw;exact .inr (.inl hw)
 |.put k _ _,x,y,h,w,hw=>by simp[dv] at h;subst h;simp at hw;exact .inr (.inl hw)
 |.say k _,x,y,h,w,hw=>by simp[dv] at h;subst h;simp at hw;exact .inr (.inl hw)
 |.bO k _ _ _,x,y,h,w,hw=>by simp[dv] at h;subst h;simp at hw;exact .inr (.inl hw)
 |.stop k,x,y,h,w,hw=>by simp[dv] at h;subst h;simp at hw;exact .inl hw
theorem lI:∀(b:List aW) (x:Int),∀r∈aI b x,∀w∈r.2.2,w=0\/w=x\/∃t∈ay b,t.row=w
 |[],x,y,h,_,_=>by simp[aI] at h
 |s::r,x,y,h,w,hw=>by
  rw[aI,Z1] at h;rw[ay];rcases h with h |h
  ·rcases ED s _ y h w hw with e |e |⟨t,ht,e⟩
   ·exact .inl e
   ·rcases lH r x with e2 |⟨t,ht,e2⟩
    ·exact .inr (.inl (e.trans e2))
    ·exact .inr (.inr ⟨t,Z4 _ ht,e2.trans e.symm⟩)
   ·exact .inr (.inr ⟨t,zab _ ht,e⟩)
  ·rcases lI r x y h w hw with e |e |⟨t,ht,e⟩
   ·exact .inl e
   ·exact .inr (.inl e)
   ·exact .inr (.inr ⟨t,Z4 _ ht,e⟩)
end
def Hq (b:List aW) (row:Int):Nat:=(ay b).findIdx (fun s=>s.row==row)
theorem Bo{b:List aW}(pw:(ay b).Pairwise (fun a b=>a.row<b.row))(i:Nat)(hi:i<(ay b).length):Hq b (ay b)[i].row=i:=by
 unfold Hq;rw[List.findIdx_eq hi];refine⟨by simp,fun j hj=>?_⟩;have:=zbf.mp pw j i (by lia) hi hj;simp only[beq_eq_false_iff_ne,ne_eq];lia
inductive sZ where
 |on |out |bO (row:Int) |fin
deriving DecidableEq
section
variable(ask:Int->Bool)(step:Int->List Int->Int->Option (Int×List Int)×Option Int)
def take1 (a:Bool) (mC:List Int):Option (Int×List Int):=if a then (match mC with |[]=>none |f::r=>some (f,r)) else some (0,mC)
end
end PG
namespace L2
open PySem
def jH:PG.Wd->Str
 |.ask=>"ask" |.put=>"put" |.say=>"say" |.bO=>"must" |.stop=>"stop" |.ifs=>"if" |.fZ=>"while" |.QG=>"else" |.fin=>"end"
mutual
def du:PG.aW->Dp
 |.ask k b=>.tup [.str "ask",.int k,.str (S b)]
 |.put k b e=>.tup [.str "put",.int k,.str (S b),k5 e]
 |.say k e=>.tup [.str "say",.int k,k5 e]
 |.bO k sg l r=>.tup [.str "must",.int k,.str (S sg),k5 l,k5 r]
 |.stop k=>.tup [.str "stop",.int k]
 |.ifs k sg l r a b=>.tup [.str "if",.int k,.str (S sg),k5 l,k5 r,.lst (rP a),.lst (rP b)]
 |.fZ k sg l r a=>.tup [.str "while",.int k,.str (S sg),k5 l,k5 r,.lst (rP a)]
def rP:List PG.aW->List Dp
 |[]=>[]
 |s::r=>du s::rP r
end
theorem dY:∀l:List PG.aW,rP l=l.map du
 |[]=>rfl
 |s::r=>by rw[rP,dY r];rfl
def lJ (b:PG.gf):Dp:=.tup [.str (S b.name),.int b.size,.int b.first]
def gN (p:PG.Prog):Dp:=.tup [.lst (p.ar.map lJ),.lst (p.body.map du)]
def bK (O:zcl->Prop) (H H':Hp):Prop:=∀b o,¬O b->H b=some o->H' b=some o
def Fix (K:ZI) (O:zcl->Prop) (H:Hp) (d:Dp) (v:V):Prop:=∀H',bK O H H'->Rep K H' d v
def gw (K:ZI) (O:zcl->Prop) (H:Hp) (ds:List Dp) (vs:List V):Prop:=∀H',bK O H H'->aG K H' ds vs
section
variable{K:ZI}{O O':zcl->Prop}{H H1 H2:Hp}{d:Dp}{ds:List Dp}{v:V}{vs:List V}{p:zcl}{o:HO}
theorem bK.refl:bK O H H:=fun _ _ _ e=>e
theorem bK.trans(a:bK O H H1)(b:bK O H1 H2):bK O H H2:=fun c u n e=>b c u n (a c u n e)
theorem bK.of(s:aw H H1):bK O H H1:=fun b u _ e=>s b u e
theorem bK.mono(a:bK O H H1)(i:∀b,O b->O' b):bK O' H H1:=fun b u n e=>a b u (fun z=>n (i b z)) e
theorem bK.one(a:bh p H H1)(hp:O p):bK O H H1:=fun b u n e=>a b u (fun z=>n (by rw[z];exact hp)) e
theorem bK.put(a:bK O H H1)(hp:O p)(u:HO):bK O H (upd H1 p u):=fun b w n e=>by rw[aR (fun z=>n (by rw[z];exact hp))];exact a b w n e
theorem Fix.up(f:Fix K O H d v)(u:bK O H H1):Fix K O H1 d v:=fun H2 u2=>f H2 (u.trans u2)
theorem gw.up(f:gw K O H ds vs)(u:bK O H H1):gw K O H1 ds vs:=fun H2 u2=>f H2 (u.trans u2)
theorem Fix.rep(f:Fix K O H d v):Rep K H d v:=f H .refl
theorem gw.KY(f:gw K O H ds vs):aG K H ds vs:=f H .refl
theorem Fix.sub(f:Fix K O H d v)(i:∀b,O' b->O b):Fix K O' H d v:=fun H2 u=>f H2 (u.mono i)
theorem gw.sub(f:gw K O H ds vs)(i:∀b,O' b->O b):gw K O' H ds vs:=fun H2 u=>f H2 (u.mono i)
theorem gw.nil:gw K O H [] []:=fun _ _=>.nil
theorem gw.cons(a:Fix K O H d v)(b:gw K O H ds vs):gw K O H (d::ds) (v::vs):=fun H2 u=>.cons (a H2 u) (b H2 u)
theorem gw.snoc(b:gw K O H ds vs)(a:Fix K O H d v):gw K O H (ds++[d]) (vs++[v]):=fun H2 u=>(b H2 u).append (.cons (a H2 u) .nil)
theorem Fix.int{i:Int}:Fix K O H (.int i) (.int i):=fun _ _=>Rep.ba.mpr rfl
theorem Fix.str{x:Str}:Fix K O H (.str x) (.str x):=fun _ _=>Rep.bf.mpr rfl
theorem Fix.tup(h:H p=some (.tup vs))(n:¬O p)(f:gw K O H ds vs):Fix K O H (.tup ds) (.ref p):=fun H2 u=>Rep.aK.mpr ⟨p,vs,rfl,.of (u p _ n h),f H2 u⟩
theorem Fix.lst(h:H p=some (.lst vs))(n:¬O p)(f:gw K O H ds vs):Fix K O H (.lst ds) (.ref p):=fun H2 u=>Rep.bH.mpr ⟨p,vs,rfl,.of (u p _ n h),f H2 u⟩
end
end L2
namespace L2
open PySem
theorem Bp{a:Option V}{r:St}{H:Hp}{Q:VK}:(fj 13 (a::r) H Q)=(fj 12 r H Q):=rfl
theorem Bq{a:Option V}{r:St}{H:Hp}{Q:VK}:(fj 14 (a::r) H Q)=(fj 13 r H Q):=rfl
def Own (K:ZI) (H0 H:Hp) (d:Dp) (v:V):Prop:=∀O:zcl->Prop,(∀b,O b->H0 b≠none)->Fix K O H d v
section
variable{K:ZI}{O:zcl->Prop}{H0 H H1:Hp}{d:Dp}{v:V}{D B:zcl}{bs:List PG.gf}
theorem Own.back{S8:Hp}(f:Own K H0 H d v)(h:∀b,S8 b≠none->H0 b≠none):Own K S8 H d v:=fun O hO=>f O fun b hb=>h b (hO b hb)
end
def a8 (K:ZI) (H0 H:Hp) (ds:List Dp) (vs:List V):Prop:=∀O:zcl->Prop,(∀b,O b->H0 b≠none)->gw K O H ds vs
section
variable{K:ZI}{H0 H H1:Hp}{d:Dp}{v:V}{ds:List Dp}{vs:List V}{D p:zcl}
theorem a8.nil:a8 K H0 H [] []:=fun _ _=>gw.nil
theorem a8.cons(a:Own K H0 H d v)(b:a8 K H0 H ds vs):a8 K H0 H (d::ds) (v::vs):=fun O h=>gw.cons (a O h) (b O h)
theorem Own.int{i:Int}:Own K H0 H (.int i) (.int i):=fun _ _=>Fix.int
theorem Own.str{x:Str}:Own K H0 H (.str x) (.str x):=fun _ _=>Fix.str
theorem a8.same(f:a8 K H0 H ds vs)(s:aw H H1):a8 K H0 H1 ds vs:=fun O hO=>(f O hO).up (.of s)
theorem fN(hp:H p=none)(kc:∀b,H0 b≠none->H b≠none)(f:a8 K H0 H ds vs):Own K H0 (upd H p (.tup vs)) (.tup ds) (.ref p):=fun O hO=>by
 have np:¬O p:=fun z=>kc p (hO p z) hp;exact Fix.tup ao np ((f.same (aw.new hp _)) O hO)
end
theorem a8.up{K:ZI}{H0 H H1:Hp}{ds:List Dp}{vs:List V}{D:zcl}(f:a8 K H0 H ds vs)(u:bh D H H1)(hD:H0 D≠none):a8 K H0 H1 ds vs:=fun O hO=>by
 have:=f (fun b=>O b\/b=D) (fun b hb=>hb.elim (hO b) (fun e=>e▸hD));exact(this.up (bK.one u (.inr rfl))).sub fun b hb=>.inl hb
theorem a8.snoc{K:ZI}{H0 H:Hp}{d:Dp}{v:V}{ds:List Dp}{vs:List V}(b:a8 K H0 H ds vs)(a:Own K H0 H d v):a8 K H0 H (ds++[d]) (vs++[v]):=fun O h=>gw.snoc (b O h) (a O h)
theorem tf{X:Cx}{K:ZI}(h:X.K=K):L0 X (DT K):=h▸aF
theorem eO{X:Cx}{K:ZI}(h:X.K=K):L0 X (GZ K):=h▸aC
def Kept (D:zcl) (H H':Hp):Prop:=bh D H H'/\∀b,H b≠none->H' b≠none
theorem Kept.put{D q:zcl}{H H1:Hp}(k:Kept D H H1)(hq:H q=none)(o:HO):Kept D H (upd H1 q o):=⟨fun b u n e=>by rw[aR (au e hq)];exact k.1 b u n e,fun b hb=>by
 by_cases z:b=q
 ·rw[z,ao];simp
 ·rw[aR z];exact k.2 b hb⟩
theorem x5{K:ZI}{H:Hp}:∀(s:PG.aW) {v:V},Rep K H (du s) v->∃a ys,v=.ref a/\dq K H a (.str (jH s.wd)::ys):=by
 intro s v h;have key:∃ds,du s=.tup (.str (jH s.wd)::ds):=by
  cases s<;>exact⟨_,by rw[du];rfl⟩
 obtain⟨ds,e⟩:=key;rw[e,Rep.aK] at h;obtain⟨a,xs,rfl,q,r⟩:=h;rw[aG.aD] at r;obtain⟨v1,t1,rfl,e1,_⟩:=r;rw[Rep.bf] at e1;subst e1;exact⟨a,t1,rfl,q⟩
def aE:PG.aW->List (List PG.aW)
 |.ifs _ _ _ _ a b=>[a,b]
 |.fZ _ _ _ _ a=>[a]
 |_=>[]
def gy (s:PG.aW) (x:Int):Int:=match s with
 |.fZ k _ _ _ _=>k
 |_=>x
def lK (s:PG.aW) (x:Int):List Int:=match s with
 |.stop _=>[0]
 |.ifs _ _ _ _ a b=>[PG.aP a x,PG.aP b x]
 |.fZ k _ _ _ a=>[PG.aP a k,x]
 |_=>[x]
theorem EE(s:PG.aW)(x:Int):PG.dv s x=(s.row,s.wd,lK s x)::((aE s).flatMap fun b=>PG.aI b (gy s x)):=by
 cases s<;>simp[PG.dv,PG.aW.row,PG.aW.wd,lK,aE,gy]
def gO (r:PG.bW):Dp:=.tup [.int r.1,.str (jH r.2.1),.tup (r.2.2.map .int)]
section
variable(K:ZI)
def mq:Sp:=fun vs H Q _=>∃(b:zcl) (body:List PG.aW) (x:Int),vs=[.ref b,.int x]/\Rep K H (.lst (body.map du)) (.ref b)/\body.length<=100000/\Q (.int (PG.aP body x)) H
def x6:Sp:=fun vs H Q _=>∃(v:V) (st:PG.aW) (x:Int),vs=[v,.int x]/\Rep K H (du st) v/\Q (.int (gy st x)) H
def tj:Sp:=fun vs H Q _=>∃(v:V) (st:PG.aW) (H0:Hp),vs=[v]/\Rep K H0 (du st) v/\aw H0 H/\∀l us H',aw H H'->H l=none->H' l=some (.lst us)->aG K H0 ((aE st).map fun b=>.lst (b.map du)) us->Q (.ref l) H'
end
theorem gP{K:ZI}{H:Hp}:∀(s:PG.aW) {v:V},Rep K H (du s) v->∃a ys,v=.ref a/\dq K H a (.str (jH s.wd) :: .int s.row::ys):=by
 intro s v h;have key:∃ds,du s=.tup (.str (jH s.wd) :: .int s.row::ds):=by
  cases s<;>exact⟨_,by rw[du];rfl⟩
 obtain⟨ds,e⟩:=key;rw[e,Rep.aK] at h;obtain⟨a,xs,rfl,q,r⟩:=h;rw[aG.aD] at r;obtain⟨v1,t1,rfl,e1,r⟩:=r;rw[aG.aD] at r;obtain⟨v2,t2,rfl,e2,_⟩:=r;rw[Rep.bf] at e1;rw[Rep.ba] at e2;subst e1 e2;exact⟨a,t2,rfl,q⟩
section
variable(K:ZI)
def EF (st:PG.aW):Prop:=∀b∈aE st,b.length<=100000
def EG:Sp:=fun vs H Q _=>∃(v:V) (st:PG.aW) (x:Int),vs=[v,.int x]/\Rep K H (du st) v/\EF st/\∀u H',aw H H'->Rep K H' (.tup ((lK st x).map .int)) u->Q u H'
end
mutual
def Hr:Dp->Bool
 |.lst _=>false
 |.tup l=>rQ l
 |_=>true
def rQ:List Dp->Bool
 |[]=>true
 |d::r=>Hr d&&rQ r
end
section
variable{K:ZI}{H H':Hp}{tl:zcl}{xs:List V}
mutual
theorem x8(h:H tl=some (.lst xs))(u:bK (·=tl) H H'):∀(d:Dp) (v:V),Hr d=true->Rep K H d v->Rep K H' d v
 |.b4,v,_,r=>by rw[Rep.gS] at r ⊢;exact r
 |.bl b,v,_,r=>by rw[Rep.sX] at r ⊢;exact r
 |.int b,v,_,r=>by rw[Rep.ba] at r ⊢;exact r
 |.str b,v,_,r=>by rw[Rep.bf] at r ⊢;exact r
 |.lst l,v,e,_=>by rw[Hr] at e;cases e
 |.tup l,v,e,r=>by
  rw[Hr] at e;rw[Rep.aK] at r ⊢;obtain⟨a,ys,rfl,q,rs⟩:=r;refine⟨a,ys,rfl,?_,qu h u l ys e rs⟩;rcases q with (q |⟨o,q⟩) |q
  ·exact .inl (.inl (u _ _ (bX q h (by intro z;cases z)) q))
  ·exact .inl (.inr ⟨o,u _ _ (bX q h (by intro z;cases z)) q⟩)
  ·exact .inr q
theorem qu(h:H tl=some (.lst xs))(u:bK (·=tl) H H'):∀(ds:List Dp) (vs:List V),rQ ds=true->aG K H ds vs->aG K H' ds vs
 |[],vs,_,r=>by rw[aG.bD] at r ⊢;exact r
 |d::ds,vs,e,r=>by
  rw[rQ,zam] at e;rw[aG.aD] at r ⊢;obtain⟨v,t,rfl,r1,r2⟩:=r;exact⟨v,t,rfl,x8 h u d v e.1 r1,qu h u ds t e.2 r2⟩
end
theorem Hs(h:H tl=some (.lst xs)){ds:List Dp}{vs:List V}(e:rQ ds=true)(r:aG K H ds vs):gw K (·=tl) H ds vs:=fun _ u=>qu h u ds vs e r
theorem KZ(h:H tl=some (.lst xs)){d:Dp}{v:V}(e:Hr d=true)(r:Rep K H d v):Fix K (·=tl) H d v:=fun _ u=>x8 h u d v e r
end
theorem qv:∀l:List Int,rQ (l.map .int)=true
 |[]=>by simp[rQ]
 |i::r=>by rw[ZW,rQ,qv r];simp[Hr]
theorem EH(r:PG.bW):Hr (gO r)=true:=by simp[gO,Hr,rQ,qv]
theorem vx:∀l:List PG.bW,rQ (l.map gO)=true
 |[]=>by simp[rQ]
 |r::l=>by rw[ZW,rQ,EH,vx l];rfl
section
variable(K:ZI)
def sH (n:Nat):Sp:=fun vs H Q _=>∃(b:zcl) (body:List PG.aW) (x:Int),vs=[.ref b,.int x]/\Rep K H (.lst (body.map du)) (.ref b)/\PG.eT body<n/\(PG.fU body).length<=1000/\
 ∀l us H',aw H H'->H l=none->H' l=some (.lst us)->aG K H' ((PG.aI body x).map gO) us->Q (.ref l) H'
end
mutual
theorem kB:∀(s:PG.aW) (b:List PG.aW),b∈aE s->(PG.fU b).length+1<=(PG.jQ s).length/\PG.eT b+1<=PG.k6 s
 |.ifs k _ _ _ x y,b,h=>by
  simp only[aE,ZS,zar,or_false] at h;rw[PG.jQ,PG.k6];simp only[ZN,ZP];rcases h with rfl |rfl<;>lia
 |.fZ k _ _ _ x,b,h=>by
  simp only[aE,ZS,zar,or_false] at h;rw[PG.jQ,PG.k6];simp only[ZN];subst h;lia
 |.ask _ _,b,h=>by cases h
 |.put _ _ _,b,h=>by cases h
 |.say _ _,b,h=>by cases h
 |.bO _ _ _ _,b,h=>by cases h
 |.stop _,b,h=>by cases h
end
theorem qw:∀(l:List PG.aW) (s:PG.aW),s∈l->(PG.jQ s).length<=(PG.fU l).length/\PG.k6 s<=PG.eT l
 |[],s,h=>by cases h
 |a::r,s,h=>by
  rw[PG.fU,PG.eT,ZP];rcases ZS.mp h with rfl |h
  ·lia
  ·have:=qw r s h;lia
theorem Cr(s:PG.aW):1<=(PG.jQ s).length:=by cases s<;>simp[PG.jQ]
theorem dI:∀l:List PG.aW,l.length<=(PG.fU l).length
 |[]=>zac _
 |s::r=>by
  rw[PG.fU,ZP,ZN];have:=Cr s;have:=dI r;lia
section
variable(K:ZI)
def wm:Sp:=fun vs H Q _=>∃(v:V) (pr:PG.Prog),vs=[v]/\Rep K H (gN pr) v/\PG.eT pr.body<=3/\(PG.fU pr.body).length<=1000/\
 ∀l us H',aw H H'->H l=none->H' l=some (.lst us)->aG K H' ((PG.aI pr.body 0).map gO) us->Q (.ref l) H'
end
end L2
namespace L2
open PySem
theorem fJ:∀t:PM.Tr,(k5 t).deep<=PG.ju t+1
 |.num n=>by simp[k5,Dp.deep,Dp.fE]
 |.box n=>by simp[k5,Dp.deep,Dp.fE]
 |.bin o l r=>by
  have:=fJ l;have:=fJ r;simp only[k5,Dp.deep,Dp.fE,PG.ju];lia
abbrev S9:PG.aW->Prop:=PG.qt (fun _=>True) (fun e=>PG.ju e<=2) (fun _=>True)
abbrev Ny:List PG.aW->Prop:=PG.zo (fun _=>True) (fun e=>PG.ju e<=2) (fun _=>True)
mutual
theorem EI:∀s:PG.aW,S9 s->(du s).deep<=2*PG.k6 s+4
 |.ask k b,h=>by simp[du,Dp.deep,Dp.fE]
 |.put k b e,h=>by
  simp only[PG.qt] at h;have:=fJ e;simp only[du,Dp.deep,Dp.fE,PG.k6];lia
 |.say k e,h=>by
  simp only[PG.qt] at h;have:=fJ e;simp only[du,Dp.deep,Dp.fE,PG.k6];lia
 |.bO k sg l r,h=>by
  simp only[PG.qt] at h;have:=fJ l;have:=fJ r;simp only[du,Dp.deep,Dp.fE,PG.k6];lia
 |.stop k,h=>by simp[du,Dp.deep,Dp.fE]
 |.ifs k sg l r a b,h=>by
  simp only[PG.qt] at h;have:=fJ l;have:=fJ r;have:=jR a h.2.2.2.1;have:=jR b h.2.2.2.2;simp only[du,Dp.deep,Dp.fE,PG.k6];lia
 |.fZ k sg l r a,h=>by
  simp only[PG.qt] at h;have:=fJ l;have:=fJ r;have:=jR a h.2.2.2;simp only[du,Dp.deep,Dp.fE,PG.k6];lia
theorem jR:∀b:List PG.aW,Ny b->Dp.fE (rP b)<=2*PG.eT b+4
 |[],h=>by simp[rP,Dp.fE]
 |s::r,h=>by
  simp only[PG.zo] at h;have:=EI s h.1;have:=jR r h.2;simp only[rP,Dp.fE,PG.eT];lia
end
theorem tm:∀b:List PG.gf,Dp.fE (b.map lJ)<=1
 |[]=>by simp[Dp.fE]
 |s::r=>by
  have:=tm r;simp only[ZW,Dp.fE,lJ,Dp.deep];lia
theorem EJ:∀w:PG.Wd,(V.str (jH w)=V.str (ZJ "must"))↔w=.bO:=by
 intro w;cases w<;>decide +kernel
end L2
namespace L2
open PySem
def Nz:Option Nat->V
 |none=>.b4
 |some e=>.int e
def VX (A:Nat->zcl) (p:Nat):Option PG.Mt->Option V
 |none=>none
 |some (.back q)=>some (.int q)
 |some (.op _ _)=>some (.ref (A p))
structure QH(H:Hp)(d:zcl)(m:PG.Mm)(A:Nat->zcl)(Hx:Hp)(kvs:List (Key×V)):Prop where
 s:aw H Hx
 dn:H d=none
 dd:Hx d=some (.dK kvs)
 at_:∀p:Nat,b5 kvs (.inl (p:Int))=VX A p (m p)
 ls:∀p e f,m p=some (.op e f)->Hx (A p)=some (.lst [Nz e,Nz f])/\H (A p)=none
 inj:∀p q e f e' f',m p=some (.op e f)->m q=some (.op e' f')->A p=A q->p=q
section
variable{H Hx H':Hp}{d b:zcl}{m:PG.Mm}{A:Nat->zcl}{kvs:List (Key×V)}{o:HO}
theorem QH.put(t:QH H d m A Hx kvs)(hb:H b=none)(nd:b≠d)(nl:∀p e f,m p=some (.op e f)->A p≠b)(o:HO):QH H d m A (upd Hx b o) kvs:=
 ⟨fun z u e=>by rw[aR (au e hb)];exact t.s z u e,t.dn,by rw[aR nd.symm];exact t.dd,t.at_,fun p e f h=>⟨by rw[aR (nl p e f h)];exact(t.ls p e f h).1,(t.ls p e f h).2⟩,t.inj⟩
end
theorem Ac{kvs:List (Key×V)}{k:Key}{v:V}(h:k ∉ kvs.map (·.1)):putK kvs k v=kvs++[(k,v)]:=by
 unfold putK;rw[if_neg];intro z;rw[List.any_eq_true] at z;obtain⟨x,hx,e⟩:=z;exact h (zav.mpr ⟨x,hx,of_decide_eq_true e⟩)
theorem nH:∀(more kvs:List (Key×V)),((kvs++more).map (·.1)).Nodup->ko kvs more=kvs++more
 |[],kvs,_=>by simp[ko]
 |p::r,kvs,h=>by
  have hp:p.1 ∉ kvs.map (·.1):=fun z=>by
   rw[Z8,zbk] at h;exact h.2.2 _ z _ (by simp) rfl
  show ko (putK kvs p.1 p.2) r=_;rw[Ac hp,nH r _ (by rw[ZZ];exact h),ZZ];rfl
def bS (ss:List PG.aW) (vs:List V):List (Key×V):=zaw (fun s v=>(Sum.inl s.row,v)) ss vs
theorem je:∀(ss:List PG.aW) (vs:List V),vs.length=ss.length->(bS ss vs).map (·.1)=ss.map fun s=>(Sum.inl s.row:Key)
 |[],[],_=>rfl
 |[],_::_,h=>by simp at h
 |_::_,[],h=>by simp at h
 |s::ss,v::vs,h=>by
  show _::(bS ss vs).map (·.1)=_;rw[je ss vs (by simpa using h)];rfl
theorem qx:∀(ss tt:List PG.aW) (vs us:List V),vs.length=ss.length->bS (ss++tt) (vs++us)=bS ss vs++bS tt us
 |[],tt,[],us,_=>rfl
 |[],_,_::_,_,h=>by simp at h
 |_::_,_,[],_,h=>by simp at h
 |s::ss,tt,v::vs,us,h=>by
  show _::bS (ss++tt) (vs++us)=_::(bS ss vs++bS tt us);rw[qx ss tt vs us (by simpa using h)]
theorem tw{ss:List PG.aW}(h:ss.Pairwise fun a b=>a.row<b.row):(ss.map fun s=>(Sum.inl s.row:Key)).Nodup:=by
 refine zaF.mpr (h.imp fun {a b} Jt e=>?_);have:=Sum.inl.inj e;lia
theorem lL:∀(ss:List PG.aW) (vs:List V),vs.length=ss.length->ss.Pairwise (fun a b=>a.row<b.row)->∀i (hi:i<ss.length) v,vs[i]?=some v->b5 (bS ss vs) (.inl ss[i].row)=some v
 |[],_,_,_,i,hi,_,_=>by simp at hi
 |_::_,[],h,_,_,_,_,_=>by simp at h
 |s::ss,v::vs,h,hp,0,hi,u,hu=>by
  simp at hu;subst hu;show b5 ((_,v)::bS ss vs) _=_;exact b6 rfl
 |s::ss,v::vs,h,hp,i+1,hi,u,hu=>by
  rw[zaT] at hp;have lt:=hp.1 (ss[i]'(by simpa using hi)) (ZT _);show b5 ((.inl s.row,v)::bS ss vs) (.inl (ss[i]'(by simpa using hi)).row)=_;rw[bY (fun e=>by have e:=Sum.inl.inj e;lia)];exact lL ss vs (by simpa using h) hp.2 i (by simpa using hi) u (by simpa using hu)
theorem Ht(s:PG.aW):PG.cv s=s::(aE s).flatMap PG.ay:=by
 cases s<;>simp[PG.cv,aE]
section
variable(K:ZI)
def kC (n:Nat):Sp:=fun vs H Q _=>∃(b:zcl) (body:List PG.aW) (H0:Hp),vs=[.ref b]/\aw H0 H/\Rep K H0 (.lst (body.map du)) (.ref b)/\PG.eT body<n/\(PG.fU body).length<=1000/\
 ∀l us H',aw H H'->H l=none->H' l=some (.lst us)->aG K H0 ((PG.ay body).map du) us->Q (.ref l) H'
end
theorem jf:∀a b:List PG.aW,PG.ay (a++b)=PG.ay a++PG.ay b
 |[],b=>by simp[PG.ay]
 |s::r,b=>by
  show PG.ay (s::(r++b))=_;rw[PG.ay,PG.ay,jf r b,ZZ]
theorem EK(s:PG.aW):PG.ay [s]=PG.cv s:=by rw[PG.ay,PG.ay,Z9]
theorem dZ(b:List PG.aW):(PG.ay b).length=(PG.fU b).length:=by rw[<- PG.fA,ZL]
end L2
namespace HT
open PySem PySem.Spec PyProof.Rows
section
variable{prog:zcx}{w:zcn}{A:zcw}{E:zcm->zcv->Prop}{s:zcv}
theorem mD{t sl:zcl}{items:Array zcm}{vl vu:zcm}{lo hi:Option Int}{Q:zcm->zcv->Prop}(ht:IsTup s.heap t items)(hs:s.heap.IsSliceOf sl vl vu .none)(pl:IsPart vl lo)(pu:IsPart vu hi)
 (hw:fD items.size 0 lo=0/\fD items.size items.size hi=items.size) (h:Q (.ref t) s):wpAny (model prog w) A (getItem (.ref t) (.ref sl)) Q E s:=by
 have hj:fD items.size items.size hi<=items.size:=DP _ _ (ZQ _) hi;obtain⟨os,Kq,OU,M4⟩:=id hs;have Qi:s.TypeIs (.ref sl) "slice":=⟨os,Kq,OU⟩
 unfold getItem
 try with_reducible refine zcq ?_
 first |refine zco (zcp ?_) |skip
 refine zco (wpAny_sequenceKey ht.typeIs (by decide) ?_);refine zco (wpAny_callSpecial?_slot (name:=ZJ "__getitem__") ht.typeIs zaK
  (wpAny_call_entry zaK ht.typeIs entry_tuple_getitem ?_ (args_tuple_getitem _ _)))
 show wpAny _ _ (Builtin.Tuple.tupleItemsOf (.ref t) >>= _) _ _ s;refine zco (tupleItemsOf_ ht ?_);refine zco (wpAny_typeOf Qi ?_);rw[if_pos (by decide)];refine zco (jP hs pl pu ?_);have QI:((((fD items.size 0 lo:Nat):Int)==0&&(1:Int)==1&&(fD items.size items.size hi-fD items.size 0 lo)==items.size)=true):=by
  rw[hw.1,hw.2];simp
 show wpAny _ _ (if (((fD items.size 0 lo:Nat):Int)==0&&(1:Int)==1&&(fD items.size items.size hi-fD items.size 0 lo)==items.size)=true then _ else _) _ _ s;rw[if_pos QI];refine zco (m:=Builtin.Tuple.tupleIsExact _) ?_;unfold Builtin.Tuple.tupleIsExact;refine zco (wpAny_typeOf ht.typeIs (zcp ?_));rw[if_pos (by simp)]
 first
  |exact zco (wpAny_rule (zcp ⟨_,rfl,zcp h⟩))
  |exact zco (zcp (zcp ⟨_,rfl,zcp h⟩))
end
end HT
namespace L2
open PySem PySem.Spec PyProof.Rows
def NA (K:ZI):V->Option Int->Option Int->Hp->VK->Prop:=fun x lo hi H Q=>∃a xs,x=.ref a/\dq K H a xs/\
 ((HT.fD xs.length 0 lo=0/\HT.fD xs.length xs.length hi=xs.length)->Q (.ref a) H)/\
 (¬(HT.fD xs.length 0 lo=0/\HT.fD xs.length xs.length hi=xs.length)->∀p,H p=none->Q (.ref p) (upd H p (.tup (k4 xs lo hi))))
theorem Hu{X:Cx}:M5 X (NA X.K):=by
 intro pins s σ H x v vl vu lo hi sl Q I rx hs pl pu h;obtain⟨a,xs,rfl,hx,h1,h2⟩:=h;by_cases hw:HT.fD xs.length 0 lo=0/\HT.fD xs.length xs.length hi=xs.length
 ·cases rx;obtain⟨a0,r,ht,hz⟩:=I.tuple hx;have hlen:a0.toArray.size=xs.length:=by rw[ZY];exact r.length.symm
  refine⟨"tuple",_,zaK.lookup,ht.typeIs,?_⟩;exact HT.mD ht hs pl pu (by rw[hlen];exact hw) ⟨.ref a,H,I,rfl,h1 hw⟩
 ·exact Kr pins s σ H (.ref a) v vl vu lo hi sl Q I rx hs pl pu ⟨a,xs,rfl,hx,hw,h2 hw⟩
def jS {α β γ:Type} (R:α->β->γ->Prop):List α->List β->List γ->Prop
 |[],[],[]=>True
 |a::as,b::bs,c::cs=>R a b c/\jS R as bs cs
 |_,_,_=>False
section
variable{α β γ:Type}{R S:α->β->γ->Prop}
theorem jS.bD{bs:List β}{cs:List γ}:jS R [] bs cs↔bs=[]/\cs=[]:=by
 cases bs<;>cases cs<;>simp[jS]
theorem jS.aD{a:α}{as:List α}{bs:List β}{cs:List γ}:jS R (a::as) bs cs↔∃b NB c NC,bs=b::NB/\cs=c::NC/\R a b c/\jS R as NB NC:=by
 constructor
 ·intro h;cases bs with
  |nil=>simp[jS] at h
  |cons b bs=>
   cases cs with
   |nil=>simp[jS] at h
   |cons c cs=>exact⟨b,bs,c,cs,rfl,rfl,h.1,h.2⟩
 ·rintro ⟨b,NB,c,NC,rfl,rfl,h1,h2⟩
  exact⟨h1,h2⟩
theorem jS.length:∀ {as:List α} {bs:List β} {cs:List γ},jS R as bs cs->bs.length=as.length/\cs.length=as.length
 |[],_,_,h=>by obtain⟨rfl,rfl⟩:=jS.bD.mp h;exact⟨rfl,rfl⟩
 |a::as,_,_,h=>by
  obtain⟨b,NB,c,NC,rfl,rfl,_,h2⟩:=jS.aD.mp h;have:=jS.length h2;simp[this]
theorem jS.snoc:∀ {as:List α} {bs:List β} {cs:List γ} {a:α} {b:β} {c:γ},jS R as bs cs->R a b c->jS R (as++[a]) (bs++[b]) (cs++[c])
 |[],_,_,a,b,c,h,r=>by obtain⟨rfl,rfl⟩:=jS.bD.mp h;exact⟨r,trivial⟩
 |x::as,_,_,a,b,c,h,r=>by
  obtain⟨b',NB,c',NC,rfl,rfl,h1,h2⟩:=jS.aD.mp h;exact⟨h1,jS.snoc h2 r⟩
end
theorem jg{K:ZI}{a D:zcl}{xs:List V}{te:TE}{Q:VK}{r:St}{H:Hp}(Pv:Nat->List V->Hp->Prop)(hS:gQ K H a xs)(hl:xs.length<=16000000)(hD:H D=none)(h0:Pv 0 [] (upd H D (.lst [])))
 (step:∀i x ys H2,xs[i]?=some x->aw H H2->H2 D=some (.lst ys)->ys.length=i->Pv i ys H2->∀R:VK,(∀v H3,aw H2 H3->Pv (i+1) (ys++[v]) (upd H3 D (.lst (ys++[v])))->R v H3)->te (some x::r) H2 R)
 (q:∀ys H2,aw H H2->H2 D=some (.lst ys)->Pv xs.length ys H2->Q (.ref D) H2):mL (B3 K a) D (eR 0) rO te Q (none::r) (upd H D (.lst [])):=by
 refine⟨fun i m τ H2=>m=xs.length-i/\i<=xs.length/\(∃x,τ=x::r)/\aw H H2/\∃ys,H2 D=some (.lst ys)/\ys.length=i/\Pv i ys H2,⟨xs.length,by simp,zac _,⟨none,rfl⟩,aw.new hD _,[],ao,rfl,h0⟩,?_⟩
 rintro i m τ H2 ⟨rfl,hi,⟨x,rfl⟩,s2,ys,h2,ly,p2⟩
 by_cases uI:i<xs.length
 ·refine .inr ⟨⟨xs,xs[i],s2.seq hS,by simp[uI]⟩,fun τ' H'=>(∃x,τ'=x::r)/\aw H H'/\∃ys,H' D=some (.lst ys)/\ys.length=i+1/\Pv (i+1) ys H',fun τ' H' ⟨h1,h3,h4⟩=>⟨xs.length-(i+1),by lia,rfl,uI,h1,h3,h4⟩,fun y H' hy=>?_⟩;obtain⟨rfl,hy⟩:=hy;have ey:=hy _ (s2.seq hS);simp only[eR,zaV,rO];rw[if_pos trivial];refine step i y ys _ ey s2 h2 ly p2 _ fun v H3 s3 p3=>⟨ys,s3 _ _ h2,?_,⟨_,rfl⟩,?_,ys++[v],ao,by simp[ly],p3⟩
  ·have:zct=2 ^ 24:=rfl;lia
  ·intro b o e;rw[aR (au e hD)];exact s3 _ _ (s2 _ _ e)
 ·have e:i=xs.length:=by lia
  subst e;exact .inl ⟨⟨xs,s2.seq hS,ZQ _⟩,q ys H2 s2 h2 p2⟩
theorem Br:∀l:List Int,PyData.canLayAll0 (Dp.ka (l.map Dp.int))=true/\PyData.depthAll (Dp.ka (l.map Dp.int))=0
 |[]=>by simp[Dp.ka,PyData.canLayAll0,PyData.depthAll]
 |i::r=>by
  obtain⟨h1,h2⟩:=Br r;simp[Dp.ka,Dp.py,PyData.canLayAll0,PyData.depthAll,PyData.canLay0,PyData.depth,h1,h2]
theorem EL{K:ZI}{H:Hp}{fl:List PG.bW}{fv:List V}(g2:aG K H (fl.map gO) fv){i:Nat}{y:V}(hi:fv[i]?=some y)(li:i<fl.length) :
 ∃a p,y=.ref a/\dq K H a [.int fl[i].1,.str (jH fl[i].2.1),.ref p]/\dq K H p (fl[i].2.2.map V.int):=by
 obtain⟨v',zl,rv⟩:=g2.get (i:=i) (d:=gO fl[i]) (by rw[ZO,ZK li];rfl);rw[hi] at zl;cases zl;unfold gO at rv;rw[Rep.aK] at rv;obtain⟨a,xs,rfl,hx,rs⟩:=rv;rw[aG.aD] at rs;obtain⟨v1,t1,rfl,r1,rs⟩:=rs;rw[aG.aD] at rs;obtain⟨v2,t2,rfl,r2,rs⟩:=rs;rw[aG.aD] at rs;obtain⟨v3,t3,rfl,r3,rs⟩:=rs;rw[aG.bD] at rs;rw[Rep.ba] at r1;rw[Rep.bf] at r2;obtain⟨p,ys,rfl,hp,ry⟩:=Rep.aK.mp r3;subst r1 r2 rs;have key:∀ {l:List Int} {ys:List V},aG K H (l.map Dp.int) ys->ys=l.map V.int:=by
  intro l
  induction l with
  |nil=>intro ys h;rw[zaD,aG.bD] at h;exact h
  |cons i r ih=>
   intro ys h;rw[ZW,aG.aD] at h;obtain⟨v,t,rfl,h1,h2⟩:=h;rw[Rep.ba] at h1;rw[h1,ih h2];rfl
 rw[key ry] at hp;exact⟨a,p,rfl,hx,hp⟩
end L2
namespace L3
open PySem PyProof.Rows
theorem Hv:typeLookup (.type "list") "keys"=pure none:=by rw[typeLookup_type,builtinLookup_eq_fast];kernel_rfl
theorem HF:typeLookup (.type "list") "__getattr__"=pure none:=by rw[typeLookup_type,builtinLookup_eq_fast];kernel_rfl
section
variable{prog:zcx}{w:zcn}{A:zcw}{E:zcm->zcv->Prop}
theorem EM(a:zcl)(u:Tok){hp:Heap}{g:Array GenState}{d:Drawn}{tk:Nat}{os:OsState}{a0:Array zcm}{n:Nat}{sl:Array (Option zcm)}{Q:Fin->zcv->Prop}(hx:hp.get? a=some ⟨.type "list",none,.seq a0 n,sl⟩)(hA:A.handled=none)
 (h:∀h' HG e,Heap.NewAttrErr hp h' e (.ref a) "keys"->E (.ref e) ⟨h',g,d,HG,os⟩) :
 wpAny (model prog w) A (Builtin.«object.__getattribute__» ⟨[.ref a,.str "keys" u],[]⟩) Q E ⟨hp,g,d,tk,os⟩:=by
 have hT:(⟨hp,g,d,tk,os⟩:zcv).TypeIs (.ref a) "list":=⟨_,hx,rfl⟩
 have f4:=Hv;unfold Builtin.«object.__getattribute__»
 repeat (any_goals (first |assumption |wp_step))
 exact wpAny_raiseAttrError hA h (attrMsg_fits (by decide +kernel) (by size_fits))
theorem Cs(a:zcl){s:zcv}{a0:Array zcm}{n:Nat}{sl:Array (Option zcm)}{Q:Option zcm->zcv->Prop}(hx:s.heap.get? a=some ⟨.type "list",none,.seq a0 n,sl⟩)(hA:A.handled=none)
 (h:∀h' tk,(∀b ob,s.heap.get? b=some ob->h'.get? b=some ob)->Q none {s with heap:=h',toks:=tk}):wpAny (model prog w) A (getAttr? (.ref a) "keys") Q E s:=by
 obtain⟨hp,g,d,tk,os⟩:=s;have hT:∀HG,(⟨hp,g,d,HG,os⟩:zcv).TypeIs (.ref a) "list":=fun _=>⟨_,hx,rfl⟩
 have f1:=sub_AttributeError;have f2:=F.slot_list_getattribute.lookup;have f3:=F.slot_list_getattribute.bind (.ref a);have f5:=HF;unfold getAttr? getAttrBy? getAttrBy
 repeat (any_goals (first |assumption |exact hT _ |wp_step))
 all_goals
  refine codeAny_call_builtin F.slot_list_getattribute.plain F.entry_list_ga (F.slot_list_getattribute.check _ _ _ _ _ _ _ _ (show (⟨hp,g,d,tk+1,os⟩:zcv).TypeIs (.ref a) "list" from ⟨_,hx,rfl⟩) (F.args_list_getattribute_2 _ _) ?_)
 all_goals
  refine EM a tk hx hA fun h' HG e ne=>?_
 all_goals
  obtain⟨t',u',he⟩:=ne.there;show wpAny _ _ (getattributeRaised _ _ _ _ _ _ _) _ _ _;unfold getattributeRaised
  repeat (any_goals (first |assumption |wp_step))
 all_goals exact h _ _ ne.keeps
theorem kE:entryFor table "dict.update.loop"=some Builtin.«dict.update.loop»:=entryFor_of_tree (by kernel_rfl)
theorem eU:plainId "dict.update.loop"=true:=by decide +kernel
theorem x9{κ:Type}[DecidableEq κ](knd:KeyKind prog w κ)(d it l:zcl)(items:Array zcm)(res:zcm)(hA:A.handled=none)(Gy:it≠d){R:Result->zcv->Prop}:∀(r:List (zcl×κ×zcm×zcm)) (i:Nat) (j:Int) (u:Tok) (kvs:List (κ×zcm)) (s:zcv),
 items.toList.drop i=r.map (fun q=>Value.ref q.1)->(∀q∈r,s.heap.IsTuple q.1 #[q.2.2.1,q.2.2.2]/\knd.is q.2.1 q.2.2.1=true)->s.heap.IsListIter it l i->s.heap.IsList l items->s.heap.DictOf knd d kvs->kvs.length+r.length<=zct->
 (∀h' tk,h'.DictOf knd d (merged kvs (r.map fun q=>(q.2.1,q.2.2.2)))->(∀b o,b≠d->b≠it->s.heap.get? b=some o->h'.get? b=some o)->R (.ok (.ret res)) {s with heap:=h',toks:=tk})->
 codeAny (model prog w) A (.builtin "dict.update.loop" ⟨[.ref d,.ref it,.int j u,res],[]⟩) R s
 |[],i,j,u,kvs,s,hi,hp,hit,hl,hd,hz,hR=>by
  refine codeAny_builtin kE ?_;rw[Around.under_plainId eU _];show wpAny _ A.in1 (pyNext (.ref it) >>= _) _ _ s;refine zco (wpAny_pyNext_list_end hA hit hl (by rw[<- zaB];rw[zaD] at hi;exact zb3 (zca.mp hi)) fun h' ext=>?_);show wpAny _ _ (Builtin.Dict.addKeywords d [] >>= _) _ _ _;refine zco (zcp (zcp (hR h' s.toks ?_ fun b o _ h2 e=>?_)))
  ·obtain⟨o,es,ep,ho,rest⟩:=hd;exact⟨o,es,ep,ext d o Gy.symm ho,rest⟩
  ·exact ext b o h2 e
 |q::r,i,j,u,kvs,s,hi,hp,hit,hl,hd,hz,hR=>by
  have hx:items[i]?=some (Value.ref q.1):=by
   rw[<- zaB,<- zbT,hi];rfl
  refine codeAny_builtin kE ?_;rw[Around.under_plainId eU _];show wpAny _ A.in1 (pyNext (.ref it) >>= _) _ _ s;refine zco (wpAny_pyNext_list_item hit hl hx fun h' KR sb=>?_);obtain⟨⟨oq,QJ,QK,nq,VY⟩,kq⟩:=hp q (Z0 ..);have VZ:q.1≠it:=fun z=>by
   obtain⟨oi,K0,ND,_⟩:=hit;rw[z,K0] at QJ;cases QJ;rw[ND] at QK;exact absurd (Value.type.inj QK) (by decide)
  have NF:h'.get? q.1=some oq:=(sb.2 _ VZ).trans QJ;have AL:h'.DictOf knd d kvs:=by
   obtain⟨o,es,ep,ho,rest⟩:=hd;exact⟨o,es,ep,(sb.2 d Gy.symm).trans ho,rest⟩
  show wpAny _ A.in1 (holding [Value.ref q.1] _ >>= _) _ _ _;refine zco (zcq (zco (wpAny_tryCatch ?_)));unfold Builtin.Dict.pairItems;refine zco (wpAny_typeOf (T:="tuple") ⟨oq,NF,QK⟩ ?_);rw[if_pos (by decide)];refine zco (wpAny_seqItems (s:={s with heap:=h' }) NF VY (zcp ?_));show wpAny _ A.in1 (holding [q.2.2.1,q.2.2.2] (dictSet d q.2.2.1 q.2.2.2)) _ _ _;refine zcq (wpAny_dictSet_pairs (s:={s with heap:=h' }) kq AL (fun h2 hd2 K1=>?_) (by simp only[ZN] at hz;lia));refine zcp ⟨plainId_quiet eU _,?_⟩;refine x9 knd d it l items res hA Gy r (i+1) (j+1) _ _ _ ?_ (fun p QL=>?_) ?_ ?_ hd2 ?_ fun h3 tk QM keep=>hR h3 tk QM fun b o n1 n2 e=>keep b o n1 n2 ?_
  ·rw[<- zb4,hi];rfl
  ·obtain⟨⟨op,NG,QN,np,QO⟩,kp⟩:=hp p (ZV _ QL);refine⟨⟨op,?_,QN,np,QO⟩,kp⟩;have n1:p.1≠it:=fun z=>by
    obtain⟨oi,K0,ND,_⟩:=hit;rw[z,K0] at NG;cases NG;rw[ND] at QN;exact absurd (Value.type.inj QN) (by decide)
   have n2:p.1≠d:=fun z=>by
    obtain⟨od,_,_,QP,_,HH,_⟩:=hd;rw[z,QP] at NG;cases NG;rw[HH] at QO;cases QO
   exact(K1.2 _ n2).trans ((sb.2 _ n1).trans NG)
  ·obtain⟨oi,K0,rest⟩:=KR;exact⟨oi,(K1.2 _ Gy).trans K0,rest⟩
  ·obtain⟨ol,NH,QQ,nl,QR⟩:=hl;have n1:l≠it:=fun z=>by
    obtain⟨oi,K0,ND,_⟩:=hit;rw[z,K0] at NH;cases NH;rw[ND] at QQ;exact absurd (Value.type.inj QQ) (by decide)
   have n2:l≠d:=fun z=>by
    obtain⟨od,_,_,QP,_,HH,_⟩:=hd;rw[z,QP] at NH;cases NH;rw[HH] at QR;cases QR
   exact⟨ol,(K1.2 _ n2).trans ((sb.2 _ n1).trans NH),QQ,nl,QR⟩
  ·have:=stored_length_le kvs q.2.1 q.2.2.2;simp only[ZN] at hz;lia
  ·exact(K1.2 _ n1).trans ((sb.2 _ n2).trans e)
theorem dict_list{κ:Type}[DecidableEq κ](knd:KeyKind prog w κ)(l:zcl){s:zcv}{items:Array zcm}{n:Nat}{sl:Array (Option zcm)}{Q:zcm->zcv->Prop}(hA:A.handled=none)(r:List (zcl×κ×zcm×zcm))(hx:s.heap.get? l=some ⟨.type "list",none,.seq items n,sl⟩)
 (hi:items.toList=r.map (fun q=>Value.ref q.1)) (hp:∀q∈r,s.heap.IsTuple q.1 #[q.2.2.1,q.2.2.2]/\knd.is q.2.1 q.2.2.1=true) (hz:r.length<=zct)
 (h:∀h' tk,h'.DictOf knd s.heap.objs.size (merged [] (r.map fun q=>(q.2.1,q.2.2.2)))->(∀b o,s.heap.get? b=some o->h'.get? b=some o)->Q (.ref s.heap.objs.size) {s with heap:=h',toks:=tk}) :
 wpAny (model prog w) A (call (.type "dict") [.ref l]) Q E s:=by
 refine callType_codes (Q₁:=fun obj s₁=>obj=.ref s.heap.objs.size/\s₁={s with heap:=s.heap.push {cls:=.type "dict",data:=.dict #[]} }) F.kt_called_dict (F.kt_typeCall_dict_1 _) F.entry_dict_init (kt_code_dict_new _ ⟨rfl,rfl⟩) ?_
 rintro obj s₁ ⟨rfl,rfl⟩
 have Ae:(s.heap.push {cls:=.type "dict",data:=.dict #[]}).DictOf knd s.heap.objs.size []:=Heap.DictOf.new s.heap;have mM:∀b o,s.heap.get? b=some o->(s.heap.push {cls:=.type "dict",data:=.dict #[]}).get? b=some o:=fun b o e=>Heap.get?_push_of_some _ e;refine⟨Ae.typeIs,F.args_dict_init_2 _ _,?_⟩;unfold Builtin.«dict.__init__»;refine zco ?_;unfold Builtin.Dict.selfAndRest;refine zco (wpAny_notOrdered_dict Ae.typeIs ?_);show wpAny _ _ (pure (s.heap.objs.size,[Value.ref l])) _ _ _;refine zcp ?_;show wpAny _ _ (Builtin.Dict.updateFrom "dict.__init__" s.heap.objs.size (.ref l) [] .none) _ _ _;unfold Builtin.Dict.updateFrom;refine zco (wpAny_typeOf (T:="list") ⟨_,mM _ _ hx,rfl⟩ ?_);rw[if_pos (by decide)];refine zco (Cs (n:=n) (sl:=sl) l (mM _ _ hx) hA fun h2 QS mN=>?_);rw[if_pos (show (none:Option zcm).isNone=true from rfl)];refine zco (wpAny_rule ?_);have OV:h2.IsList l items:=⟨_,mN _ _ (mM _ _ hx),rfl,n,rfl⟩
 have hd2:h2.DictOf knd s.heap.objs.size []:=by
  obtain⟨o,es,ep,ho,rest⟩:=Ae;exact⟨o,es,ep,mN _ _ ho,rest⟩
 refine zco (wpAny_pyIter_list (s:={s with heap:=h2,toks:=QS}) OV ?_);have Bs:∀b o,h2.get? b=some o->(h2.push {cls:=.type "list_iterator",data:=.fields #[.ref l,.int 0 0]}).get? b=some o:=fun b o e=>Heap.get?_push_of_some _ e;have nd:h2.objs.size≠s.heap.objs.size:=by
  obtain⟨o,es,ep,ho,_⟩:=hd2;exact fun e=>absurd (Heap.lt_size ho) (by rw[e];exact zat _)
 refine zcp ⟨plainId_quiet eU _,?_⟩;refine x9 (A:=A.in1) knd s.heap.objs.size h2.objs.size l items .none hA nd r 0 0 _ [] _ (by simpa using hi) (fun q hq=>?_) ⟨_,Heap.get?_push_size _ rfl,rfl,rfl⟩ ?_ ?_ (by simpa using hz) fun h4 QT QU EN=>?_
 ·obtain⟨⟨o,ho,rest⟩,kq⟩:=hp q hq;exact⟨⟨o,Bs _ _ (mN _ _ (mM _ _ ho)),rest⟩,kq⟩
 ·obtain⟨o,ho,rest⟩:=OV;exact⟨o,Bs _ _ ho,rest⟩
 ·obtain⟨o,es,ep,ho,rest⟩:=hd2;exact⟨o,es,ep,Bs _ _ ho,rest⟩
 ·refine⟨rfl,h h4 QT QU fun b o e=>EN b o (fun z=>?_) (fun z=>?_) (Bs _ _ (mN _ _ (mM _ _ e)))⟩
  ·rw[z] at e;exact absurd (Heap.lt_size e) (zat _)
  ·have:=Heap.lt_size (mN _ _ (mM _ _ e));rw[z] at this;exact absurd this (zat _)
end
end L3
namespace L2
open PySem PyProof.Rows
theorem nI{X:Cx}(hc:X.calm=true):lC X (.type "dict") (fun xs H Q=>∃(a:zcl) (ps:List (zcl×Key×V)),xs=[.ref a]/\gQ X.K H a (ps.map fun q=>V.ref q.1)/\(∀q∈ps,dq X.K H q.1 [kV q.2.1,q.2.2])/\ps.length<=zct/\
 ∀p,H p=none->Q (.ref p) (upd H p (.dK (ko [] (ps.map fun q=>(q.2.1,q.2.2)))))):=by
 intro pins s σ H xs us Q I r h;obtain⟨a,ps,rfl,ha,hp,hz,q⟩:=h;obtain⟨u,rfl,ru⟩:=vals1 r;cases (show u=Value.ref a from ru);obtain⟨a0,v1,t1,_⟩:=I.list ha;obtain⟨⟨cls,Y2,dat,sl⟩,n,e1,Ta,Tb,HI⟩:=t1;simp only at Ta Tb HI;subst Ta Tb HI;have mk:∀(l:List (zcl×Key×V)) (us:List zcm),Vals (l.map fun q=>V.ref q.1) us->(∀q∈l,dq X.K H q.1 [kV q.2.1,q.2.2])->∃r:List (zcl×Key×zcm×zcm),us=r.map (fun q=>Value.ref q.1)/\r.length=l.length/\
  (∀q∈r,s.heap.IsTuple q.1 #[q.2.2.1,q.2.2.2]/\(bG X.prog X.w).is q.2.1 q.2.2.1=true)/\KV (l.map fun q=>(q.2.1,q.2.2)) (r.map fun q=>(q.2.1,q.2.2.2)):=by
  intro l
  induction l with
  |nil=>intro us v _;cases v;exact⟨[],rfl,rfl,fun _ z=>(by cases z),.nil⟩
  |cons x l ih=>
   intro us v hp;rw[ZW] at v;cases v with
   |cons v1 v2=>
    obtain⟨r,e,lr,hr,kv⟩:=ih _ v2 (fun q hq=>hp q (ZV _ hq));obtain⟨sV,w1,tu,_⟩:=I.tuple (hp x (Z0 ..));obtain⟨ku,vu,rfl,rk,rv⟩:=vals2 w1;cases v1;obtain⟨o,ho,V0,no,Wa⟩:=tu;refine⟨(x.1,x.2.1,ku,vu)::r,by rw[e];rfl,by simp[lr],fun q hq=>?_,.cons ⟨rfl,rv⟩ kv⟩;rcases ZS.mp hq with rfl |hq
    ·exact⟨⟨o,ho,V0,no,Wa⟩,vn rk⟩
    ·exact hr q hq
 obtain⟨r',er,lr,hr,kv⟩:=mk ps a0 v1 hp;refine L3.dict_list (bG X.prog X.w) a (I.ok.hd hc) r' e1 (by simpa using er) hr (by lia) fun h' tk dd keep=>?_;have hn:=I.dg.fresh (ZQ s.heap.objs.size);have hb:(s.heap.objs.size==sysModules)=false:=beq_eq_false_iff_ne.mpr (Ne.symm (Z3 I.big));refine⟨.ref s.heap.objs.size,_,I.laid keep (ZQ _) (z0 ?_ hb (kv.merge .nil) dd),rfl,q _ hn⟩;have h1:=jG (ps.map fun q=>(q.2.1,q.2.2)) [];rw[zaj,ZL] at h1;lia
end L2
namespace L3
open PySem PyProof.Rows
section
variable{prog:zcx}{w:zcn}{A:zcw}{E:zcm->zcv->Prop}{s:zcv}
theorem tx{j tp:zcl}{k:Nat}{a0:Array zcm}{v:zcm}{Q:zcm->zcv->Prop}(hj:s.heap.IsTupleIter j tp k)(ht:s.heap.IsTuple tp a0)(hv:a0[k]?=some v)
 (hQ:∀h',h'.IsTupleIter j tp (k+1)->Heap.SameBut j s.heap h'->Q v {s with heap:=h' }):wpAny (model prog w) A (Builtin.SmallTypes.nextOf (.ref j)) Q E s:=by
 obtain⟨oj,gj,cj,dj⟩:=id hj;obtain⟨ot,gt,_,nt,dt⟩:=ht;unfold Builtin.SmallTypes.nextOf;refine zco (wpAny_callSpecial?_slot (name:=ZJ "__next__") hj.typeIs F.slot_tuple_iterator_next (wpAny_call_entry F.slot_tuple_iterator_next hj.typeIs F.entry_tuple_iterator_next ?_ (F.args_tuple_iterator_next_1 _)));show wpAny _ _ (field (.ref j) 0 >>= _) _ _ s;refine zco (wpAny_field gj dj (x:=.ref tp) rfl ?_);show wpAny _ _ (if (Value.ref tp==Value.none)=true then _ else _) _ _ s;rw[if_neg (show ¬((Value.ref tp==Value.none)=true) from ZM)];show wpAny _ _ (field (.ref j) 1 >>= _) _ _ s;refine zco (wpAny_field gj dj (x:=.int k 0) rfl ?_);show wpAny _ _ (seqItems? (.ref tp) >>= _) _ _ s;refine zco (wpAny_seqItems gt dt ?_);simp only[zaa,hv];refine zco (wpAny_setField gj dj (by simp) (zcp ⟨v,rfl,zcp (hQ _ ?_ (Heap.SameBut.update ..))⟩));exact⟨_,Heap.get?_update_self _ gj (Obj.isFreed_of_fields (Obj.data_mapFields dj _)),(Obj.cls_mapFields ..).trans cj,by rw[Obj.data_mapFields dj];simp[rawInt]⟩
abbrev wu (h:Heap) (z ti to:zcl) (f g:zcm):Prop:=h.get? z=some {cls:=.type "zip",dict:=none,data:=.fields #[f,g,.bool false,.ref ti,.ref to],slots:=#[]}
theorem yb{z ti to T:zcl}{u:Tok}{o:Obj}{g:Bool}{R:Bool->zcv->Prop}(hz:wu s.heap z ti to (.int T u) (.bool g))(hT:s.heap.get? T=some o)
 (h:∀h₀,wu h₀ z ti to (.int T u) (.bool true)->Heap.SameBut z s.heap h₀->R false {s with heap:=h₀}):wpAny (model prog w) A (Builtin.SmallTypes.ownedTupleIsFree (.ref z)) R E s:=by
 unfold Builtin.SmallTypes.ownedTupleIsFree;refine zco (wpAny_field hz rfl (x:=.int T u) rfl ?_);show wpAny _ _ (loadIfAlive (T:Int).toNat >>= _) _ _ _;refine zco ?_;have alive:∀ {R:Option Obj->zcv->Prop},R (some o) s->wpAny (model prog w) A (loadIfAlive (T:Int).toNat) R E s:=fun h=>by
  rw[zaa];intro Γ p hp;unfold loadIfAlive;rw[Sem.wp_loadIfAlive,hT];exact h
 refine alive ?_;rw[if_neg (by simp)];refine zco (wpAny_field hz rfl (x:=.bool g) rfl ?_);cases g with
 |false=>
  rw[if_pos (by decide)];exact zco (wpAny_setField_rec hz (by simp) fun h₀ Bt sb=>zcp (h h₀ Bt sb))
 |true=>
  rw[if_neg (by decide)];exact zcp (h s.heap hz (Heap.SameBut.refl _ _))
theorem Af{z ti to j1 j2 l tp T:zcl}{xs ys:Array zcm}{i:Nat}{u:Tok}{o:Obj}{g:Bool}{x y:zcm}{Q:zcm->zcv->Prop}(hz:wu s.heap z ti to (.int T u) (.bool g))(hT:s.heap.get? T=some o)(hI:IsPair s.heap ti (.ref j1) (.ref j2))
 (h1:s.heap.IsListIter j1 l i) (h2:s.heap.IsTupleIter j2 tp i) (hl:s.heap.IsList l xs) (ht:s.heap.IsTuple tp ys) (zp:z≠j1) (HJ:z≠j2) (Ju:j1≠j2) (hx:xs[i]?=some x) (hy:ys[i]?=some y)
 (hQ:∀h',wu h' z ti to (.int T u) (.bool true)->h'.IsListIter j1 l (i+1)->h'.IsTupleIter j2 tp (i+1)->IsPair h' s.heap.objs.size x y->h'.objs.size=s.heap.objs.size+1->
  (∀c o,c≠z->c≠j1->c≠j2->s.heap.get? c=some o->h'.get? c=some o)->Q (.ref s.heap.objs.size) {s with heap:=h' }) :
 wpAny (model prog w) A (Builtin.«zip.__next__» ⟨[.ref z],[]⟩) (fun fin s'=>∃v,fin=.done (.ret v)/\Q v s') E s:=by
 have lz:l≠z:=fun e=>by
  obtain⟨q,gq,cq,_⟩:=hl;rw[e,hz] at gq;cases gq;exact absurd (Value.type.inj cq) (by decide)
 have Y3:l≠j1:=fun e=>by
  obtain⟨q,gq,cq,_⟩:=hl;obtain⟨r,gr,cr,_⟩:=h1;rw[e,gr] at gq;cases gq;rw[cr] at cq;exact absurd (Value.type.inj cq) (by decide)
 have tz:tp≠z:=fun e=>by
  obtain⟨q,gq,cq,_⟩:=ht;rw[e,hz] at gq;cases gq;exact absurd (Value.type.inj cq) (by decide)
 have QV:tp≠j1:=fun e=>by
  obtain⟨q,gq,cq,_⟩:=ht;obtain⟨r,gr,cr,_⟩:=h1;rw[e,gr] at gq;cases gq;rw[cr] at cq;exact absurd (Value.type.inj cq) (by decide)
 show wpAny _ _ (field (.ref z) 2 >>= _) _ _ _;refine zco (wpAny_field hz rfl (x:=.bool false) rfl ?_);show wpAny _ _ (field (.ref z) 3 >>= _) _ _ _;refine zco (wpAny_field hz rfl (x:=.ref ti) rfl ?_);refine zco (wpAny_seqItems hI rfl ?_);show wpAny _ _ (Builtin.SmallTypes.ownedTupleIsFree (.ref z) >>= _) _ _ _;refine zco (yb hz hT fun h₀ Bt mO=>?_);dsimp only;rw[if_neg ZM];refine zco ?_;simp only[List.forIn_toArray,zap,zaZ];refine zco (zco (zcq ?_));show wpAny _ _ (Builtin.SmallTypes.nextOf (.ref j1) >>= _) _ _ _;refine zco (wpAny_nextOf_list_item (s:={s with heap:=h₀}) (h1.extBut mO.extBut zp.symm) (hl.extBut mO.extBut lz) hx fun h₂ NI g7=>zcp ?_);refine zcp ?_;refine zco (zco (zcq ?_));show wpAny _ _ (Builtin.SmallTypes.nextOf (.ref j2) >>= _) _ _ _;have QW:h₂.IsTupleIter j2 tp i:=by
  obtain⟨q,gq,rest⟩:=h2;exact⟨q,g7.extBut _ _ Ju.symm (mO.extBut _ _ HJ.symm gq),rest⟩
 have QX:h₂.IsTuple tp ys:=(ht.extBut mO.extBut tz).extBut g7.extBut QV;refine zco (tx (s:={s with heap:=h₂}) QW QX hy fun h₃ NJ jw=>zcp ?_);refine zcp (zcp ?_);show wpAny _ _ (newTuple [x,y] >>= _) _ _ _;have hsz:h₃.objs.size=s.heap.objs.size:=by rw[jw.1,g7.1,mO.1]
 refine zco (wpAny_newTuple (s:={s with heap:=h₃}) ?_);refine zcp ⟨_,rfl,?_⟩;show Q (.ref h₃.objs.size) _;have hp:IsPair (h₃.push {cls:=.type "tuple",data:=.seq #[x,y]}) h₃.objs.size x y:=Heap.get?_push_size _ rfl;have HI:(h₃.push {cls:=.type "tuple",data:=.seq #[x,y]}).objs.size=h₃.objs.size+1:=Heap.size_push ..;rw[hsz] at hp HI ⊢;have up:∀c o,h₃.get? c=some o->(h₃.push {cls:=.type "tuple",data:=.seq #[x,y]}).get? c=some o:=fun c o e=>Heap.get?_push_of_some _ e;refine hQ _ (up _ _ (jw.extBut _ _ HJ (g7.extBut _ _ zp Bt))) ?_ ?_ hp HI fun c o c1 c2 c3 e=>up _ _ (jw.extBut _ _ c3 (g7.extBut _ _ c2 (mO.extBut _ _ c1 e)))
 ·obtain⟨q,gq,rest⟩:=NI;exact⟨q,up _ _ (jw.extBut _ _ Ju gq),rest⟩
 ·obtain⟨q,gq,rest⟩:=NJ;exact⟨q,up _ _ gq,rest⟩
theorem Ct{z ti to j1 j2 l T:zcl}{xs:Array zcm}{i:Nat}{u:Tok}{o:Obj}{g:Bool}{Q:Fin->zcv->Prop}(hA:A.handled=none)(hz:wu s.heap z ti to (.int T u) (.bool g))(hT:s.heap.get? T=some o)(hI:IsPair s.heap ti (.ref j1) (.ref j2))
 (h1:s.heap.IsListIter j1 l i) (hl:s.heap.IsList l xs) (zp:z≠j1) (hx:xs[i]?=none)
 (hE:∀h' e,(∀c o,c≠z->c≠j1->s.heap.get? c=some o->h'.get? c=some o)->(∃o,h'.get? e=some o/\o.cls=.type "StopIteration")->E (.ref e) {s with heap:=h' }) :
 wpAny (model prog w) A (Builtin.«zip.__next__» ⟨[.ref z],[]⟩) Q E s:=by
 have lz:l≠z:=fun e=>by
  obtain⟨q,gq,cq,_⟩:=hl;rw[e,hz] at gq;cases gq;exact absurd (Value.type.inj cq) (by decide)
 show wpAny _ _ (field (.ref z) 2 >>= _) _ _ _;refine zco (wpAny_field hz rfl (x:=.bool false) rfl ?_);show wpAny _ _ (field (.ref z) 3 >>= _) _ _ _;refine zco (wpAny_field hz rfl (x:=.ref ti) rfl ?_);refine zco (wpAny_seqItems hI rfl ?_);show wpAny _ _ (Builtin.SmallTypes.ownedTupleIsFree (.ref z) >>= _) _ _ _;refine zco (yb hz hT fun h₀ Bt mO=>?_);dsimp only;rw[if_neg ZM];refine zco ?_;simp only[List.forIn_toArray,zap,zaZ];refine zco (zco (zcq ?_));show wpAny _ _ (Builtin.SmallTypes.nextOf (.ref j1) >>= _) _ _ _;exact zco (wpAny_nextOf_list_end (s:={s with heap:=h₀}) hA (h1.extBut mO.extBut zp.symm) (hl.extBut mO.extBut lz) hx fun h₂ e g7 he=>hE h₂ e (fun c o c1 c2 q=>g7 _ _ c2 (mO.extBut _ _ c1 q)) he)
theorem Ag{z ti to j1 j2 l tp:zcl}{xs ys:Array zcm}{i:Nat}{a b x y:zcm}{Q:zcm->zcv->Prop}(hz:wu s.heap z ti to .none (.bool false))(hO:IsPair s.heap to a b)(hI:IsPair s.heap ti (.ref j1) (.ref j2))
 (h1:s.heap.IsListIter j1 l i) (h2:s.heap.IsTupleIter j2 tp i) (hl:s.heap.IsList l xs) (ht:s.heap.IsTuple tp ys) (zp:z≠j1) (HJ:z≠j2) (NK:z≠to) (EO:to≠j1) (ER:to≠j2) (Ju:j1≠j2) (HK:tp≠to) (hx:xs[i]?=some x) (hy:ys[i]?=some y)
 (hQ:∀h',wu h' z ti to (rawInt s.heap.objs.size) (.bool false)->h'.IsListIter j1 l (i+1)->h'.IsTupleIter j2 tp (i+1)->IsPair h' s.heap.objs.size x y->h'.objs.size=s.heap.objs.size+1->
  (∀c o,c≠z->c≠to->c≠j1->c≠j2->s.heap.get? c=some o->h'.get? c=some o)->Q (.ref s.heap.objs.size) {s with heap:=h' }) :
 wpAny (model prog w) A (Builtin.«zip.__next__» ⟨[.ref z],[]⟩) (fun fin s'=>∃v,fin=.done (.ret v)/\Q v s') E s:=by
 have lz:l≠z:=fun e=>by
  obtain⟨q,gq,cq,_⟩:=hl;rw[e,hz] at gq;cases gq;exact absurd (Value.type.inj cq) (by decide)
 have tz:tp≠z:=fun e=>by
  obtain⟨q,gq,cq,_⟩:=ht;rw[e,hz] at gq;cases gq;exact absurd (Value.type.inj cq) (by decide)
 have QV:tp≠j1:=fun e=>by
  obtain⟨q,gq,cq,_⟩:=ht;obtain⟨r,gr,cr,_⟩:=h1;rw[e,gr] at gq;cases gq;rw[cr] at cq;exact absurd (Value.type.inj cq) (by decide)
 show wpAny _ _ (field (.ref z) 2 >>= _) _ _ _;refine zco (wpAny_field hz rfl (x:=.bool false) rfl ?_);show wpAny _ _ (field (.ref z) 3 >>= _) _ _ _;refine zco (wpAny_field hz rfl (x:=.ref ti) rfl ?_);refine zco (wpAny_seqItems hI rfl ?_);show wpAny _ _ (Builtin.SmallTypes.ownedTupleIsFree (.ref z) >>= _) _ _ _;refine zco ?_;unfold Builtin.SmallTypes.ownedTupleIsFree;refine zco (wpAny_field hz rfl (x:=.none) rfl (zcp ?_));simp only[if_true];refine zco (wpAny_rule ?_);refine zco (wpAny_field hz rfl (x:=.ref to) rfl ?_);refine zco (wpAny_setField_rec hz (by simp) fun h₁ z₁ lM=>?_);replace z₁:wu h₁ z ti to .ellipsis (.bool false):=z₁;refine zco ?_;simp only[List.zipIdx_cons,List.zipIdx_nil,zap,zaZ];refine zco (zco (wpAny_onRaise ?_));show wpAny _ _ (Builtin.SmallTypes.nextOf (.ref j1) >>= _) _ _ _;refine zco (wpAny_nextOf_list_item (h1.extBut lM.extBut zp.symm) (hl.extBut lM.extBut lz) hx fun h₂ k₂ g7=>zcp ?_);have o₂:IsPair h₂ to a b:=g7.extBut _ _ EO (lM.extBut _ _ NK.symm hO);refine zco (wpAny_seqItems o₂ rfl ?_);refine zco (wpAny_updateSeq_pair o₂ fun h₃ o₃ jw=>?_);replace o₃:IsPair h₃ to x b:=o₃;refine zco (wpAny_letGo (zcp ?_));refine zco (zco (wpAny_onRaise ?_));show wpAny _ _ (Builtin.SmallTypes.nextOf (.ref j2) >>= _) _ _ _;have QW:h₃.IsTupleIter j2 tp i:=by
  obtain⟨q,gq,rest⟩:=h2;exact⟨q,jw.extBut _ _ ER.symm (g7.extBut _ _ Ju.symm (lM.extBut _ _ HJ.symm gq)),rest⟩
 have QX:h₃.IsTuple tp ys:=((ht.extBut lM.extBut tz).extBut g7.extBut QV).extBut jw.extBut HK;refine zco (tx QW QX hy fun h₄ k₄ yc=>zcp ?_);have o₄:IsPair h₄ to x b:=yc.extBut _ _ ER o₃;refine zco (wpAny_seqItems o₄ rfl ?_);refine zco (wpAny_updateSeq_pair o₄ fun h₅ o₅ yd=>?_);replace o₅:IsPair h₅ to x y:=o₅;refine zco (wpAny_letGo (zcp (zcp ?_)));refine zco (wpAny_seqItems o₅ rfl ?_);refine zco (wpAny_newTuple ?_);have hsz:h₅.objs.size=s.heap.objs.size:=by rw[yd.1,yc.1,jw.1,g7.1,lM.1]
 have z₅:wu h₅ z ti to .ellipsis (.bool false):=yd.extBut _ _ NK (yc.extBut _ _ HJ (jw.extBut _ _ NK (g7.extBut _ _ zp z₁)));have kp:∀c o,c≠z->c≠to->c≠j1->c≠j2->s.heap.get? c=some o->h₅.get? c=some o:=fun c o c1 c2 c3 c4 e=>yd.extBut _ _ c2 (yc.extBut _ _ c4 (jw.extBut _ _ c2 (g7.extBut _ _ c3 (lM.extBut _ _ c1 e))));have Tc:z<h₅.objs.size:=Heap.lt_size z₅;show wpAny _ _ (Builtin.SmallTypes.ownedTupleHandOut (.ref z) (.ref h₅.objs.size) >>= _) _ _ _;refine zco ?_;unfold Builtin.SmallTypes.ownedTupleHandOut;have z₆:wu (h₅.push {cls:=.type "tuple",data:=.seq #[x,y]}) z ti to .ellipsis (.bool false):=Heap.get?_push_of_some _ z₅;refine zco (wpAny_setField_rec z₆ (by simp) fun h₇ z₇ ES=>?_);replace z₇:wu h₇ z ti to (rawInt h₅.objs.size) (.bool false):=z₇;refine wpAny_setField_rec z₇ (by simp) fun h₈ z₈ ET=>?_;replace z₈:wu h₈ z ti to (rawInt h₅.objs.size) (.bool false):=z₈;have up:∀c o,c≠z->h₅.get? c=some o->h₈.get? c=some o:=fun c o c1 e=>ET.extBut _ _ c1 (ES.extBut _ _ c1 (Heap.get?_push_of_some _ e));have t₈:IsPair h₈ h₅.objs.size x y:=ET.extBut _ _ (za1 Tc) (ES.extBut _ _ (za1 Tc) (Heap.get?_push_size _ rfl));have n₈:h₈.objs.size=h₅.objs.size+1:=by rw[ET.1,ES.1,Heap.size_push]
 rw[hsz] at z₈ t₈ n₈;refine zcp ⟨_,rfl,?_⟩;show Q (.ref h₅.objs.size) _;rw[hsz];refine hQ h₈ z₈ ?_ ?_ t₈ n₈ fun c o c1 c2 c3 c4 e=>up c o c1 (kp c o c1 c2 c3 c4 e)
 ·obtain⟨q,gq,rest⟩:=k₂;exact⟨q,up _ _ zp.symm (yd.extBut _ _ EO.symm (yc.extBut _ _ Ju (jw.extBut _ _ EO.symm gq))),rest⟩
 ·obtain⟨q,gq,rest⟩:=k₄;exact⟨q,up _ _ HJ.symm (yd.extBut _ _ ER.symm gq),rest⟩
theorem Cu{z ti to j1 j2 l:zcl}{xs:Array zcm}{i:Nat}{Q:Fin->zcv->Prop}(hA:A.handled=none)(hz:wu s.heap z ti to .none (.bool false))(hI:IsPair s.heap ti (.ref j1) (.ref j2))
 (h1:s.heap.IsListIter j1 l i) (hl:s.heap.IsList l xs) (zp:z≠j1) (hx:xs[i]?=none)
 (hE:∀h' e,(∀c o,c≠z->c≠j1->s.heap.get? c=some o->h'.get? c=some o)->(∃o,h'.get? e=some o/\o.cls=.type "StopIteration")->E (.ref e) {s with heap:=h' }) :
 wpAny (model prog w) A (Builtin.«zip.__next__» ⟨[.ref z],[]⟩) Q E s:=by
 have lz:l≠z:=fun e=>by
  obtain⟨q,gq,cq,_⟩:=hl;rw[e,hz] at gq;cases gq;exact absurd (Value.type.inj cq) (by decide)
 show wpAny _ _ (field (.ref z) 2 >>= _) _ _ _;refine zco (wpAny_field hz rfl (x:=.bool false) rfl ?_);show wpAny _ _ (field (.ref z) 3 >>= _) _ _ _;refine zco (wpAny_field hz rfl (x:=.ref ti) rfl ?_);refine zco (wpAny_seqItems hI rfl ?_);show wpAny _ _ (Builtin.SmallTypes.ownedTupleIsFree (.ref z) >>= _) _ _ _;refine zco ?_;unfold Builtin.SmallTypes.ownedTupleIsFree;refine zco (wpAny_field hz rfl (x:=.none) rfl (zcp ?_));simp only[if_true];refine zco (wpAny_rule ?_);refine zco (wpAny_field hz rfl (x:=.ref to) rfl ?_);refine zco (wpAny_setField_rec hz (by simp) fun h₁ z₁ lM=>?_);replace z₁:wu h₁ z ti to .ellipsis (.bool false):=z₁;refine zco ?_;simp only[List.zipIdx_cons,List.zipIdx_nil,zap,zaZ];refine zco (zco (wpAny_onRaise ?_));show wpAny _ _ (Builtin.SmallTypes.nextOf (.ref j1) >>= _) _ _ _;refine zco (wpAny_nextOf_list_end hA (h1.extBut lM.extBut zp.symm) (hl.extBut lM.extBut lz) hx fun h₂ e g7 he=>?_);obtain⟨oe,ge,ce⟩:=he;have z₂:wu h₂ z ti to .ellipsis (.bool false):=g7 _ _ zp z₁;have ez:e≠z:=fun q=>by subst q;rw[z₂] at ge;cases ge;simp at ce
 exact wpAny_setField_rec z₂ (by simp) fun h₃ _ jw=>hE h₃ e (fun c o c1 c3 q=>jw.extBut _ _ c1 (g7 _ _ c3 (lM.extBut _ _ c1 q))) ⟨oe,jw.extBut _ _ ez ge,ce⟩
structure L9(z ti to j1 j2 l tp:zcl):Prop where
 Wb:z≠ti
 NK:z≠to
 zp:z≠j1
 HJ:z≠j2
 QY:ti≠to
 QZ:ti≠j1
 Q0:ti≠j2
 EO:to≠j1
 ER:to≠j2
 Ju:j1≠j2
 Q1:l≠to
 HK:tp≠to
structure Gz(h:Heap)(z ti to j1 j2 l tp:zcl)(xs ys:Array zcm)(i:Nat):Prop where
 zip:(∃a b,wu h z ti to .none (.bool false)/\IsPair h to a b)\/∃(T:zcl) (u:Tok) (a b:zcm) (g:Bool),wu h z ti to (.int T u) (.bool g)/\IsPair h T a b
 ins:IsPair h ti (.ref j1) (.ref j2)
 HP:h.IsListIter j1 l i
 Ma:h.IsTupleIter j2 tp i
 ls:h.IsList l xs
 tu:h.IsTuple tp ys
theorem kF{h:Heap}{a b:zcl}{o o':Obj}{c c':String}(e:h.get? a=some o)(e':h.get? b=some o')(hc:o.cls=.type c)(MD:o'.cls=.type c')(n:c≠c'):a≠b:=fun q=>by
 rw[q,e'] at e;cases e;rw[hc] at MD;exact n (Value.type.inj MD)
theorem EU{z ti to j1 j2 l tp:zcl}{xs ys:Array zcm}{i:Nat}{x y:zcm}{Q:Option zcm->zcv->Prop}(ap:L9 z ti to j1 j2 l tp)(st:Gz s.heap z ti to j1 j2 l tp xs ys i)(hx:xs[i]?=some x)(hy:ys[i]?=some y)
 (hQ:∀h',Gz h' z ti to j1 j2 l tp xs ys (i+1)->IsPair h' s.heap.objs.size x y->(∀c o,c≠z->c≠to->c≠j1->c≠j2->s.heap.get? c=some o->h'.get? c=some o)->Q (some (.ref s.heap.objs.size)) {s with heap:=h' }) :
 wpAny (model prog w) A (pyNext (.ref z)) Q E s:=by
 have zT:s.TypeIs (.ref z) "zip":=by
  rcases st.zip with ⟨a,b,hz,_⟩ |⟨T,u,a,b,g,hz,_⟩
  ·exact⟨_,hz,rfl⟩
  ·exact⟨_,hz,rfl⟩
 obtain⟨o1,g1,c1,_⟩:=st.HP;obtain⟨o2,g2,c2,_⟩:=st.Ma;obtain⟨ol,gl,cl,_⟩:=st.ls;obtain⟨ot,gt,ct,_⟩:=st.tu;obtain⟨oz,gz,cz⟩:=zT;have lk:∀h',(∀c o,c≠z->c≠to->c≠j1->c≠j2->s.heap.get? c=some o->h'.get? c=some o)->IsPair h' ti (.ref j1) (.ref j2)/\h'.IsList l xs/\h'.IsTuple tp ys:=fun h' k=>by
  refine⟨k _ _ ap.Wb.symm ap.QY ap.QZ ap.Q0 st.ins,?_,?_⟩
  ·obtain⟨q,gq,rest⟩:=st.ls;exact⟨q,k _ _ (kF gl gz cl cz (by decide)) ap.Q1 (kF gl g1 cl c1 (by decide)) (kF gl g2 cl c2 (by decide)) gq,rest⟩
  ·obtain⟨q,gq,rest⟩:=st.tu;exact⟨q,k _ _ (kF gt gz ct cz (by decide)) ap.HK (kF gt g1 ct c1 (by decide)) (kF gt g2 ct c2 (by decide)) gq,rest⟩
 unfold pyNext;refine zco (wpAny_attempt (wpAny_callSpecial?_slot (name:=ZJ "__next__") ⟨oz,gz,cz⟩ F.slot_zip_next (wpAny_call_entry F.slot_zip_next ⟨oz,gz,cz⟩ F.entry_zip_next ?_ (F.args_zip_next_1 _))));rcases st.zip with ⟨a,b,hz,hO⟩ |⟨T,u,a,b,g,hz,hT⟩
 ·refine Ag hz hO st.ins st.HP st.Ma st.ls st.tu ap.zp ap.HJ ap.NK ap.EO ap.ER ap.Ju ap.HK hx hy fun h' q1 q2 q3 q4 q5 q6=>zcp ?_;obtain⟨k1,k2,k3⟩:=lk h' q6;exact hQ h' ⟨.inr ⟨_,_,x,y,false,q1,q4⟩,k1,q2,q3,k2,k3⟩ q4 q6
 ·refine Af hz hT st.ins st.HP st.Ma st.ls st.tu ap.zp ap.HJ ap.Ju hx hy fun h' q1 q2 q3 q4 q5 q6=>zcp ?_;have Td:∀c o,c≠z->c≠to->c≠j1->c≠j2->s.heap.get? c=some o->h'.get? c=some o:=fun c o a1 _ a3 a4 e=>q6 c o a1 a3 a4 e;obtain⟨k1,k2,k3⟩:=lk h' Td;exact hQ h' ⟨.inr ⟨T,u,a,b,true,q1,q6 _ _ (kF hT gz rfl cz (by decide)) (kF hT g1 rfl c1 (by decide)) (kF hT g2 rfl c2 (by decide)) hT⟩,k1,q2,q3,k2,k3⟩ q4 Td
theorem HR{z ti to j1 j2 l tp:zcl}{xs ys:Array zcm}{i:Nat}{Q:Option zcm->zcv->Prop}(hA:A.handled=none)(ap:L9 z ti to j1 j2 l tp)(st:Gz s.heap z ti to j1 j2 l tp xs ys i)(hx:xs[i]?=none)
 (hQ:∀h',(∀c o,c≠z->c≠j1->s.heap.get? c=some o->h'.get? c=some o)->Q none {s with heap:=h' }):wpAny (model prog w) A (pyNext (.ref z)) Q E s:=by
 have zT:s.TypeIs (.ref z) "zip":=by
  rcases st.zip with ⟨a,b,hz,_⟩ |⟨T,u,a,b,g,hz,_⟩
  ·exact⟨_,hz,rfl⟩
  ·exact⟨_,hz,rfl⟩
 unfold pyNext;refine zco (wpAny_attempt (wpAny_callSpecial?_slot (name:=ZJ "__next__") zT F.slot_zip_next (wpAny_call_entry F.slot_zip_next zT F.entry_zip_next ?_ (F.args_zip_next_1 _))));rcases st.zip with ⟨a,b,hz,hO⟩ |⟨T,u,a,b,g,hz,hT⟩
 ·refine Cu hA hz st.ins st.HP st.ls ap.zp hx fun h' e k he=>?_;obtain⟨oe,ge,ce⟩:=he;refine zco (wpAny_isInstance (T:="StopIteration") (b:=true) ⟨oe,ge,ce⟩ isSubtype_stop ?_);exact zcp (hQ _ k)
 ·refine Ct hA hz hT st.ins st.HP st.ls ap.zp hx fun h' e k he=>?_;obtain⟨oe,ge,ce⟩:=he;refine zco (wpAny_isInstance (T:="StopIteration") (b:=true) ⟨oe,ge,ce⟩ isSubtype_stop ?_);exact zcp (hQ _ k)
theorem Gz.but{h h':Heap}{z ti to j1 j2 l tp d:zcl}{xs ys:Array zcm}{i:Nat}(st:Gz h z ti to j1 j2 l tp xs ys i)(sb:Heap.SameBut d h h')(dn:∀a o,h.get? a=some o->(∀es n,o.data≠.dict es n)->a≠d):Gz h' z ti to j1 j2 l tp xs ys i:=by
 have k:∀a o,h.get? a=some o->(∀es n,o.data≠.dict es n)->h'.get? a=some o:=fun a o e n=>sb.extBut _ _ (dn a o e n) e;refine⟨?_,k _ _ st.ins (by intro es n q;cases q),?_,?_,?_,?_⟩
 ·rcases st.zip with ⟨a,b,hz,hO⟩ |⟨T,u,a,b,g,hz,hT⟩
  ·exact .inl ⟨a,b,k _ _ hz (by intro es n q;cases q),k _ _ hO (by intro es n q;cases q)⟩
  ·exact .inr ⟨T,u,a,b,g,k _ _ hz (by intro es n q;cases q),k _ _ hT (by intro es n q;cases q)⟩
 ·obtain⟨o,go,hc,hd⟩:=st.HP;exact⟨o,k _ _ go (by intro es n q;rw[hd] at q;cases q),hc,hd⟩
 ·obtain⟨o,go,hc,hd⟩:=st.Ma;exact⟨o,k _ _ go (by intro es n q;rw[hd] at q;cases q),hc,hd⟩
 ·obtain⟨o,go,hc,n',hd⟩:=st.ls;exact⟨o,k _ _ go (by intro es n q;rw[hd] at q;cases q),hc,n',hd⟩
 ·obtain⟨o,go,hc,n',hd⟩:=st.tu;exact⟨o,k _ _ go (by intro es n q;rw[hd] at q;cases q),hc,n',hd⟩
theorem Bu{κ:Type}[DecidableEq κ](knd:KeyKind prog w κ)(d z ti to j1 j2 l tp:zcl)(xs ys:Array zcm)(res:zcm)(hA:A.handled=none)(ap:L9 z ti to j1 j2 l tp)(Te:d≠to){R:Result->zcv->Prop}:∀(r:List (κ×zcm×zcm)) (i:Nat) (j:Int) (u:Tok) (kvs:List (κ×zcm)) (s:zcv),
 xs.toList.drop i=r.map (·.2.1)->ys.toList.drop i=r.map (·.2.2)->(∀q∈r,knd.is q.1 q.2.1=true)->Gz s.heap z ti to j1 j2 l tp xs ys i->s.heap.DictOf knd d kvs->kvs.length+r.length<=zct->
 (∀h' tk,h'.DictOf knd d (merged kvs (r.map fun q=>(q.1,q.2.2)))->(∀b o,b≠d->b≠z->b≠to->b≠j1->b≠j2->s.heap.get? b=some o->h'.get? b=some o)->R (.ok (.ret res)) {s with heap:=h',toks:=tk})->
 codeAny (model prog w) A (.builtin "dict.update.loop" ⟨[.ref d,.ref z,.int j u,res],[]⟩) R s
 |[],i,j,u,kvs,s,hi,hk,hp,st,hd,hz,hR=>by
  refine codeAny_builtin kE ?_;rw[Around.under_plainId eU _];show wpAny _ A.in1 (pyNext (.ref z) >>= _) _ _ s;have dn:∀a o,s.heap.get? a=some o->(∀es n,o.data≠.dict es n)->a≠d:=fun a o e n q=>by
   obtain⟨od,_,_,NL,_,HH,_⟩:=hd;rw[q,NL] at e;cases e;exact n _ _ HH
  refine zco (HR hA ap st (by rw[<- zaB];rw[zaD] at hi;exact zb3 (zca.mp hi)) fun h' kp=>?_);show wpAny _ _ (Builtin.Dict.addKeywords d [] >>= _) _ _ _;refine zco (zcp (zcp (hR h' s.toks ?_ fun b o _ c1 _ c3 _ e=>kp b o c1 c3 e)));have dz:d≠z:=by
   rcases st.zip with ⟨a,b,gz,_⟩ |⟨T,u,a,b,g,gz,_⟩
   ·exact(dn _ _ gz (by intro es n q;cases q)).symm
   ·exact(dn _ _ gz (by intro es n q;cases q)).symm
  have dj:d≠j1:=by
   obtain⟨o,go,hc,AL⟩:=st.HP;exact(dn _ _ go (by intro es n q;rw[AL] at q;cases q)).symm
  obtain⟨o,es,ep,ho,rest⟩:=hd;exact⟨o,es,ep,kp d o dz dj ho,rest⟩
 |q::r,i,j,u,kvs,s,hi,hk,hp,st,hd,hz,hR=>by
  have hx:xs[i]?=some q.2.1:=by
   rw[<- zaB,<- zbT,hi];rfl
  have hy:ys[i]?=some q.2.2:=by
   rw[<- zaB,<- zbT,hk];rfl
  have dn:∀a o,s.heap.get? a=some o->(∀es n,o.data≠.dict es n)->a≠d:=fun a o e n q=>by
   obtain⟨od,_,_,NL,_,HH,_⟩:=hd;rw[q,NL] at e;cases e;exact n _ _ HH
  have dz:d≠z:=by
   rcases st.zip with ⟨a,b,gz,_⟩ |⟨T,u,a,b,g,gz,_⟩
   ·exact(dn _ _ gz (by intro es n q;cases q)).symm
   ·exact(dn _ _ gz (by intro es n q;cases q)).symm
  have Wc:d≠j1:=by
   obtain⟨o,go,hc,AL⟩:=st.HP;exact(dn _ _ go (by intro es n q;rw[AL] at q;cases q)).symm
  have We:d≠j2:=by
   obtain⟨o,go,hc,AL⟩:=st.Ma;exact(dn _ _ go (by intro es n q;rw[AL] at q;cases q)).symm
  refine codeAny_builtin kE ?_;rw[Around.under_plainId eU _];show wpAny _ A.in1 (pyNext (.ref z) >>= _) _ _ s;refine zco (EU ap st hx hy fun h' B5 pr kp=>?_);have AL:h'.DictOf knd d kvs:=by
   obtain⟨o,es,ep,ho,rest⟩:=hd;exact⟨o,es,ep,kp d o dz Te Wc We ho,rest⟩
  show wpAny _ A.in1 (holding [Value.ref s.heap.objs.size] _ >>= _) _ _ _;refine zco (zcq (zco (wpAny_tryCatch ?_)));unfold Builtin.Dict.pairItems;refine zco (wpAny_typeOf (T:="tuple") ⟨_,pr,rfl⟩ ?_);rw[if_pos (by decide)];refine zco (wpAny_seqItems (s:={s with heap:=h' }) pr rfl (zcp ?_));show wpAny _ A.in1 (holding [q.2.1,q.2.2] (dictSet d q.2.1 q.2.2)) _ _ _;refine zcq (wpAny_dictSet_pairs (s:={s with heap:=h' }) (hp q (Z0 ..)) AL (fun h2 hd2 K1=>?_) (by simp only[ZN] at hz;lia));refine zcp ⟨plainId_quiet eU _,?_⟩;refine Bu knd d z ti to j1 j2 l tp xs ys res hA ap Te r (i+1) (j+1) _ _ _ ?_ ?_ (fun p QL=>hp p (ZV _ QL)) (B5.but K1 fun a o e n w=>?_) hd2 ?_ fun h3 tk QM keep=>hR h3 tk QM fun b o n1 n2 n3 n4 n5 e=>keep b o n1 n2 n3 n4 n5 ?_
  ·rw[<- zb4,hi];rfl
  ·rw[<- zb4,hk];rfl
  ·obtain⟨od,_,_,NL,_,HH,_⟩:=AL;rw[w,NL] at e;cases e;exact n _ _ HH
  ·have:=stored_length_le kvs q.1 q.2.2;simp only[ZN] at hz;lia
  ·exact(K1.2 _ n1).trans (kp b o n2 n3 n4 n5 e)
theorem EW:typeLookup (.type "zip") "keys"=pure none:=by rw[typeLookup_type,builtinLookup_eq_fast];kernel_rfl
theorem EX:typeLookup (.type "zip") "__getattr__"=pure none:=by rw[typeLookup_type,builtinLookup_eq_fast];kernel_rfl
theorem wx:entryFor table "zip.__getattribute__"=some Builtin.«object.__getattribute__»:=entryFor_alias (id':="object.__getattribute__") (by kernel_rfl) (by first |rfl |decide +kernel) (by decide +kernel) (by kernel_rfl)
theorem Cv(a:zcl)(u:Tok){hp:Heap}{g:Array GenState}{d:Drawn}{tk:Nat}{os:OsState}{vs:Array zcm}{Q:Fin->zcv->Prop}(hx:hp.get? a=some ⟨.type "zip",none,.fields vs, #[]⟩)(hA:A.handled=none)
 (h:∀h' HG e,Heap.NewAttrErr hp h' e (.ref a) "keys"->E (.ref e) ⟨h',g,d,HG,os⟩) :
 wpAny (model prog w) A (Builtin.«object.__getattribute__» ⟨[.ref a,.str "keys" u],[]⟩) Q E ⟨hp,g,d,tk,os⟩:=by
 have hT:(⟨hp,g,d,tk,os⟩:zcv).TypeIs (.ref a) "zip":=⟨_,hx,rfl⟩
 have f4:=EW;unfold Builtin.«object.__getattribute__»
 repeat (any_goals (first |assumption |wp_step))
 exact wpAny_raiseAttrError hA h (attrMsg_fits (by decide +kernel) (by size_fits))
theorem Ah(a:zcl){s:zcv}{vs:Array zcm}{Q:Option zcm->zcv->Prop}(hx:s.heap.get? a=some ⟨.type "zip",none,.fields vs, #[]⟩)(hA:A.handled=none)
 (h:∀h' tk,(∀b ob,s.heap.get? b=some ob->h'.get? b=some ob)->Q none {s with heap:=h',toks:=tk}):wpAny (model prog w) A (getAttr? (.ref a) "keys") Q E s:=by
 obtain⟨hp,g,d,tk,os⟩:=s;have hT:∀HG,(⟨hp,g,d,HG,os⟩:zcv).TypeIs (.ref a) "zip":=fun _=>⟨_,hx,rfl⟩
 have f1:=sub_AttributeError;have f2:=F.slot_zip_getattribute.lookup;have f3:=F.slot_zip_getattribute.bind (.ref a);have f5:=EX;unfold getAttr? getAttrBy? getAttrBy
 repeat (any_goals (first |assumption |exact hT _ |wp_step))
 all_goals
  refine codeAny_call_builtin F.slot_zip_getattribute.plain wx (F.slot_zip_getattribute.check _ _ _ _ _ _ _ _ (show (⟨hp,g,d,tk+1,os⟩:zcv).TypeIs (.ref a) "zip" from ⟨_,hx,rfl⟩) (F.args_zip_getattribute_2 _ _) ?_)
 all_goals
  refine Cv a tk hx hA fun h' HG e ne=>?_
 all_goals
  obtain⟨t',u',he⟩:=ne.there;show wpAny _ _ (getattributeRaised _ _ _ _ _ _ _) _ _ _;unfold getattributeRaised
  repeat (any_goals (first |assumption |wp_step))
 all_goals exact h _ _ ne.keeps
end
abbrev zA (h:Heap) (l:zcl):Heap:=h.push {cls:=.type "list_iterator",data:=.fields #[.ref l,.int 0 0]}
abbrev zB (h:Heap) (l tp:zcl):Heap:=(zA h l).push {cls:=.type "tuple_iterator",data:=.fields #[.ref tp,.int 0 0]}
abbrev zC (h:Heap) (l tp:zcl):Heap:=(zB h l tp).push {cls:=.type "tuple",data:=.seq #[.ref h.objs.size,.ref (zA h l).objs.size]}
abbrev zD (h:Heap) (l tp:zcl):Heap:=(zC h l tp).push {cls:=.type "tuple",data:=.seq #[.none,.none]}
abbrev zE (h:Heap) (l tp:zcl):Heap:=(zD h l tp).push {cls:=.type "zip",data:=.fields #[.none,.bool false,.bool false,.ref (zB h l tp).objs.size,.ref (zC h l tp).objs.size]}
theorem EY(l tp:zcl)(xs ys:Array zcm):Meets (Builtin.«zip.__new__» ⟨[.type "zip",.ref l,.ref tp],[]⟩) (fun _ R s=>s.heap.IsList l xs/\s.heap.IsTuple tp ys/\R (.ok (.ret (.ref (zD s.heap l tp).objs.size))) {s with heap:=zE s.heap l tp}):=
 .of_wp fun prog w A R s h=>by
  obtain⟨hp,g,d,tk,os⟩:=s;obtain⟨g1,g2,h⟩:=h;have Wf:=sub_zip;have k1:Heap.IsList (Shared.heap ⟨hp,g,d,tk,os⟩) l xs:=g1;have k2:Heap.IsTuple (Shared.heap ⟨hp.push {cls:=.type "list_iterator",data:=.fields #[.ref l,.int 0 0]},g,d,tk,os⟩) tp ys:=by
   obtain⟨o,go,rest⟩:=g2;exact⟨o,Heap.get?_push_of_some _ go,rest⟩
  wp_walk using wpAny_pyIter_list k1,wpAny_pyIter_tuple k2
  exact⟨_,rfl,h⟩
section
variable{prog:zcx}{w:zcn}{A:zcw}{E:zcm->zcv->Prop}{s:zcv}
theorem HS(n l tp:Nat)(h1:l<n)(h2:tp<n):L9 (n+4) (n+2) (n+3) n (n+1) l tp:=by
 constructor<;>(show (_:Nat)≠_;lia)
theorem Ai{l tp:zcl}{xs ys:Array zcm}{Q:zcm->zcv->Prop}(hl:s.heap.IsList l xs)(ht:s.heap.IsTuple tp ys)
 (h:∀h',L9 (s.heap.objs.size+4) (s.heap.objs.size+2) (s.heap.objs.size+3) s.heap.objs.size (s.heap.objs.size+1) l tp->Gz h' (s.heap.objs.size+4) (s.heap.objs.size+2) (s.heap.objs.size+3) s.heap.objs.size (s.heap.objs.size+1) l tp xs ys 0->
  wu h' (s.heap.objs.size+4) (s.heap.objs.size+2) (s.heap.objs.size+3) .none (.bool false)->(∀c o,s.heap.get? c=some o->h'.get? c=some o)->Q (.ref (s.heap.objs.size+4)) {s with heap:=h' }) :
 wpAny (model prog w) A (call (.type "zip") [.ref l,.ref tp]) Q E s:=by
 refine callType_new F.called_zip (by decide) (F.typeCall_zip_2 _ _) (F.newCall_zip_2 _ _) (fun obj=>F.args_object_init_3 obj _ _) F.entry_zip_new (EY l tp xs ys) ⟨hl,ht,?_⟩;have z1:(zA s.heap l).objs.size=s.heap.objs.size+1:=Heap.size_push ..;have z2:(zB s.heap l tp).objs.size=s.heap.objs.size+2:=by rw[Heap.size_push,z1]
 have z3:(zC s.heap l tp).objs.size=s.heap.objs.size+3:=by rw[Heap.size_push,z2]
 have z4:(zD s.heap l tp).objs.size=s.heap.objs.size+4:=by rw[Heap.size_push,z3]
 have g5:(zE s.heap l tp).get? (zD s.heap l tp).objs.size=some _:=Heap.get?_push_size _ rfl;have g4:(zE s.heap l tp).get? (zC s.heap l tp).objs.size=some _:=Heap.get?_push_of_some _ (Heap.get?_push_size _ rfl);have g3:(zE s.heap l tp).get? (zB s.heap l tp).objs.size=some _:=Heap.get?_push_of_some _ (Heap.get?_push_of_some _ (Heap.get?_push_size _ rfl));have g2:(zE s.heap l tp).get? (zA s.heap l).objs.size=some _:=Heap.get?_push_of_some _ (Heap.get?_push_of_some _ (Heap.get?_push_of_some _ (Heap.get?_push_size _ rfl)));have g1:(zE s.heap l tp).get? s.heap.objs.size=some _:=Heap.get?_push_of_some _ (Heap.get?_push_of_some _ (Heap.get?_push_of_some _ (Heap.get?_push_of_some _ (Heap.get?_push_size _ rfl))));have up:∀c o,s.heap.get? c=some o->(zE s.heap l tp).get? c=some o:=fun c o e=>Heap.get?_push_of_some _ (Heap.get?_push_of_some _ (Heap.get?_push_of_some _ (Heap.get?_push_of_some _ (Heap.get?_push_of_some _ e))));show _/\_;rw[z2,z3,z4] at g5;rw[z1,z2] at g3;rw[z3] at g4;rw[z1] at g2;rw[z4];obtain⟨ol,gl,rl⟩:=id hl;obtain⟨ot,gt,rt⟩:=id ht;have ll:=Heap.lt_size gl;have lt:=Heap.lt_size gt;refine⟨⟨_,g5,rfl⟩,h _ (HS _ _ _ ll lt) ⟨.inl ⟨_,_,g5,g4⟩,g3,⟨_,g1,rfl,rfl⟩,⟨_,g2,rfl,rfl⟩,⟨ol,up _ _ gl,rl⟩,⟨ot,up _ _ gt,rt⟩⟩ g5 up⟩
theorem EZ{κ:Type}[DecidableEq κ](knd:KeyKind prog w κ)(z ti to j1 j2 l tp:zcl){xs ys:Array zcm}{Q:zcm->zcv->Prop}(hA:A.handled=none)(ap:L9 z ti to j1 j2 l tp)(st:Gz s.heap z ti to j1 j2 l tp xs ys 0)(gz:wu s.heap z ti to .none (.bool false))(r:List (κ×zcm×zcm))
 (hi:xs.toList=r.map (·.2.1)) (hk:ys.toList=r.map (·.2.2)) (hp:∀q∈r,knd.is q.1 q.2.1=true) (hz:r.length<=zct) (Q1:to<s.heap.objs.size)
 (h:∀h' tk,h'.DictOf knd s.heap.objs.size (merged [] (r.map fun q=>(q.1,q.2.2)))->(∀b o,b≠z->b≠to->b≠j1->b≠j2->s.heap.get? b=some o->h'.get? b=some o)->Q (.ref s.heap.objs.size) {s with heap:=h',toks:=tk}) :
 wpAny (model prog w) A (call (.type "dict") [.ref z]) Q E s:=by
 refine callType_codes (Q₁:=fun obj s₁=>obj=.ref s.heap.objs.size/\s₁={s with heap:=s.heap.push {cls:=.type "dict",data:=.dict #[]} }) F.kt_called_dict (F.kt_typeCall_dict_1 _) F.entry_dict_init (kt_code_dict_new _ ⟨rfl,rfl⟩) ?_
 rintro obj s₁ ⟨rfl,rfl⟩
 have Ae:(s.heap.push {cls:=.type "dict",data:=.dict #[]}).DictOf knd s.heap.objs.size []:=Heap.DictOf.new s.heap;have mM:∀b o,s.heap.get? b=some o->(s.heap.push {cls:=.type "dict",data:=.dict #[]}).get? b=some o:=fun b o e=>Heap.get?_push_of_some _ e;refine⟨Ae.typeIs,F.args_dict_init_2 _ _,?_⟩;unfold Builtin.«dict.__init__»;refine zco ?_;unfold Builtin.Dict.selfAndRest;refine zco (wpAny_notOrdered_dict Ae.typeIs ?_);show wpAny _ _ (pure (s.heap.objs.size,[Value.ref z])) _ _ _;refine zcp ?_;show wpAny _ _ (Builtin.Dict.updateFrom "dict.__init__" s.heap.objs.size (.ref z) [] .none) _ _ _;unfold Builtin.Dict.updateFrom;refine zco (wpAny_typeOf (T:="zip") ⟨_,mM _ _ gz,rfl⟩ ?_);rw[if_pos (by decide)];refine zco (Ah z (mM _ _ gz) hA fun h2 QS mN=>?_);rw[if_pos (show (none:Option zcm).isNone=true from rfl)];refine zco (wpAny_rule ?_);have up:∀b o,s.heap.get? b=some o->h2.get? b=some o:=fun b o e=>mN _ _ (mM _ _ e);have hd2:h2.DictOf knd s.heap.objs.size []:=by
  obtain⟨o,es,ep,ho,rest⟩:=Ae;exact⟨o,es,ep,mN _ _ ho,rest⟩
 refine zco (wpAny_pyIter_zip (s:={s with heap:=h2,toks:=QS}) (up _ _ gz) ?_);refine zcp ⟨plainId_quiet eU _,?_⟩;have vd:Gz h2 z ti to j1 j2 l tp xs ys 0:=by
  refine⟨?_,up _ _ st.ins,?_,?_,?_,?_⟩
  ·rcases st.zip with ⟨a,b,e1,e2⟩ |⟨T,u,a,b,g,e1,e2⟩
   ·exact .inl ⟨a,b,up _ _ e1,up _ _ e2⟩
   ·exact .inr ⟨T,u,a,b,g,up _ _ e1,up _ _ e2⟩
  ·obtain⟨o,go,rest⟩:=st.HP;exact⟨o,up _ _ go,rest⟩
  ·obtain⟨o,go,rest⟩:=st.Ma;exact⟨o,up _ _ go,rest⟩
  ·obtain⟨o,go,rest⟩:=st.ls;exact⟨o,up _ _ go,rest⟩
  ·obtain⟨o,go,rest⟩:=st.tu;exact⟨o,up _ _ go,rest⟩
 refine Bu (A:=A.in1) knd s.heap.objs.size z ti to j1 j2 l tp xs ys .none hA ap (za1 Q1) r 0 0 _ [] _ (by simpa using hi) (by simpa using hk) hp vd hd2 (by simpa using hz) fun h4 QT QU EN=>?_;refine⟨rfl,h h4 QT QU fun b o n1 n2 n3 n4 e=>EN b o (fun w=>?_) n1 n2 n3 n4 (up _ _ e)⟩;rw[w] at e;exact absurd (Heap.lt_size e) (zat _)
end
end L3
namespace L2
open PySem PyProof.Rows
theorem Aj(c n k:Nat)(h:c<n):c≠n+k:=by lia
def Tf (K:ZI) (t:TA):TE:=fun σ H Q=>t σ H fun xs H1=>∃(a b:zcl) (ks:List Key) (vs:List V),xs=[.ref a,.ref b]/\gQ K H1 a (ks.map kV)/\dq K H1 b vs/\vs.length=ks.length/\∀p,H1 p=none->Q (.ref p) (upd H1 p (.dK (ko [] (ks.zip vs))))
theorem Ak{X:Cx}(hc:X.calm=true){ea eb:Expr}{p1 p2 NM Cw:Pos}{t:TA}(Wg:Gl X "dict")(Wh:X.mg "dict"=none)(Wi:Gl X "zip")(Th:X.mg "zip"=none)(ha:PA X [ea,eb] t)
 (he:zcr [ea,eb] X.env=(false,eval ea X.env)::zcr [eb] X.env:=by rfl) (A2:(backTo Cw (zcr [eb] X.env)).any (·.1)=false:=by rfl)
 (OY:zcr [.Call (.Name "zip" p2) [ea,eb] [] Cw] X.env=(false,eval (.Call (.Name "zip" p2) [ea,eb] [] Cw) X.env)::zcr [] X.env:=by rfl) :
 PE X (.Call (.Name "dict" p1) [.Call (.Name "zip" p2) [ea,eb] [] Cw] [] NM) (Tf X.K t):=by
 intro pins s σ H Q I h;refine wpAny_Call_Name_kw (nE I Wg Wh PyProof.Rows.Boot.«dict» ?_ (by decide) (by decide));refine zaH ?_ OY rfl;rw[OY];show wpAny _ _ (spliced ((false,eval (.Call (.Name "zip" p2) [ea,eb] [] Cw) X.env)::backTo NM (zcr [] X.env))) _ _ s;refine Calls.spliced_cons ?_;refine wpAny_Call_Name_kw (nE I Wi Th PyProof.Rows.Boot.«zip» ?_ (by decide) (by decide));refine zaH (eP (ha Cw pins s σ H _ I h) fun us s1 zqz=>?_) he A2;obtain⟨xs,H1,I1,r1,q1⟩:=zqz;obtain⟨a,b,ks,vs,rfl,Wj,Wk,lk,q⟩:=q1;obtain⟨u1,u2,rfl,Wl,Wm⟩:=vals2 r1;cases (show u1=Value.ref a from Wl);cases (show u2=Value.ref b from Wm);obtain⟨Q2,v1,t1,z1⟩:=I1.list Wj;obtain⟨sV,v2,t2,z2⟩:=I1.tuple Wk;have mk:∀(ks:List Key) (vs:List V) (NN K2:List zcm),Vals (ks.map kV) NN->Vals vs K2->vs.length=ks.length->∃r:List (Key×zcm×zcm),NN=r.map (·.2.1)/\K2=r.map (·.2.2)/\(∀q∈r,(bG X.prog X.w).is q.1 q.2.1=true)/\KV (ks.zip vs) (r.map fun q=>(q.1,q.2.2))/\r.length=ks.length:=by
  intro ks
  induction ks with
  |nil=>
   intro vs NN K2 w1 w2 l;have:vs=[]:=List.length_eq_zero_iff.mp l;subst this;cases w1;cases w2;exact⟨[],rfl,rfl,fun _ z=>(by cases z),.nil,rfl⟩
  |cons k ks ih=>
   intro vs NN K2 w1 w2 l;cases vs with
   |nil=>simp at l
   |cons v vs=>
    rw[ZW] at w1;cases w1 with
    |@cons _ ku _ Wn Wo Wq=>
     cases w2 with
     |@cons _ vu _ Wr Ws Wt=>
      obtain⟨r,e1,e2,h3,h4,h5⟩:=ih vs Wn Wr Wq Wt (by simpa using l);refine⟨(k,ku,vu)::r,by rw[e1];rfl,by rw[e2];rfl,fun q hq=>?_,.cons ⟨rfl,Ws⟩ h4,by simp[h5]⟩;rcases ZS.mp hq with rfl |hq
      ·exact vn Wo
      ·exact h3 q hq
 obtain⟨r,e1,e2,Wu,kv,lr⟩:=mk ks vs Q2 sV v1 v2 lk;rw[ZL] at z1;refine L3.Ai t1.isList (show s1.heap.IsTuple b sV.toArray from t2) fun h' ap st gz keep=>?_;refine Calls.spliced_nil ?_;have big:(s1.heap.objs.size+4:Nat)<h'.objs.size:=Heap.lt_size gz;have hle:s1.heap.objs.size<=h'.objs.size:=by lia
 refine L3.EZ (s:={s1 with heap:=h' }) (bG X.prog X.w) _ _ _ _ _ a b (I1.ok.hd hc) ap st gz r (by simpa using e1) (by simpa using e2) Wu (by lia) (show (s1.heap.objs.size+3:Nat)<h'.objs.size by lia) fun h2 tk dd mN=>?_;have hn:=I1.dg.fresh hle;have hb:(h'.objs.size==sysModules)=false:=beq_eq_false_iff_ne.mpr (Ne.symm (Z3 (Z7 I1.big hle)));refine⟨.ref h'.objs.size,_,I1.laid (fun c o e=>mN c o ?_ ?_ ?_ ?_ (keep c o e)) hle (z0 ?_ hb (kv.merge .nil) dd),rfl,q _ hn⟩
 ·have lc:(c:Nat)<s1.heap.objs.size:=Heap.lt_size e;exact Aj _ _ _ lc
 ·have lc:(c:Nat)<s1.heap.objs.size:=Heap.lt_size e;exact Aj _ _ _ lc
 ·have lc:(c:Nat)<s1.heap.objs.size:=Heap.lt_size e;exact Z3 lc
 ·have lc:(c:Nat)<s1.heap.objs.size:=Heap.lt_size e;exact Aj _ _ _ lc
 ·have h1:=jG (ks.zip vs) [];rw[zaj,List.length_zip] at h1;lia
section
variable{K:ZI}{H H':Hp}{p C dx:zcl}{fs:List (Str×V)}
mutual
theorem mv(h:H p=some (.ins C dx fs))(u:bK (·=p) H H'):∀(d:Dp) (v:V),Rep K H d v->Rep K H' d v
 |.b4,v,r=>by rw[Rep.gS] at r ⊢;exact r
 |.bl b,v,r=>by rw[Rep.sX] at r ⊢;exact r
 |.int b,v,r=>by rw[Rep.ba] at r ⊢;exact r
 |.str b,v,r=>by rw[Rep.bf] at r ⊢;exact r
 |.lst l,v,r=>by
  rw[Rep.bH] at r ⊢;obtain⟨a,ys,rfl,q,rs⟩:=r;refine⟨a,ys,rfl,?_,jT h u l ys rs⟩;rcases q with (q |⟨o,q⟩) |q
  ·exact .inl (.inl (u _ _ (bX q h (by intro z;cases z)) q))
  ·exact .inl (.inr ⟨o,u _ _ (bX q h (by intro z;cases z)) q⟩)
  ·exact .inr q
 |.tup l,v,r=>by
  rw[Rep.aK] at r ⊢;obtain⟨a,ys,rfl,q,rs⟩:=r;refine⟨a,ys,rfl,?_,jT h u l ys rs⟩;rcases q with (q |⟨o,q⟩) |q
  ·exact .inl (.inl (u _ _ (bX q h (by intro z;cases z)) q))
  ·exact .inl (.inr ⟨o,u _ _ (bX q h (by intro z;cases z)) q⟩)
  ·exact .inr q
theorem jT(h:H p=some (.ins C dx fs))(u:bK (·=p) H H'):∀(ds:List Dp) (vs:List V),aG K H ds vs->aG K H' ds vs
 |[],vs,r=>by rw[aG.bD] at r ⊢;exact r
 |d::ds,vs,r=>by
  rw[aG.aD] at r ⊢;obtain⟨v,t,rfl,r1,r2⟩:=r;exact⟨v,t,rfl,mv h u d v r1,jT h u ds t r2⟩
end
end
theorem nJ{K:ZI}{a D:zcl}{xs:List V}{te:TE}{Q:VK}{r:St}{H:Hp}(kf:Nat->Key×V)(hS:gQ K H a xs)(hl:xs.length<=16000000)(hD:H D=none)
 (step:∀i x H2,xs[i]?=some x->aw H H2->∀R:VK,(∀p,H2 p=none->R (.ref p) (upd H2 p (.tup [kV (kf i).1,(kf i).2])))->te (some x::r) H2 R)
 (q:∀(ps:List (zcl×Key×V)) H2,aw H H2->H2 D=some (.lst (ps.map fun q=>V.ref q.1))->(∀q∈ps,H2 q.1=some (.tup [kV q.2.1,q.2.2]))->ps.map (·.2)=(zaq xs.length).map kf->Q (.ref D) H2) :
 mL (B3 K a) D (eR 0) rO te Q (none::r) (upd H D (.lst [])):=by
 refine jg (K:=K) (fun i ys H2=>∃ps:List (zcl×Key×V),ys=ps.map (fun q=>V.ref q.1)/\(∀q∈ps,H2 q.1=some (.tup [kV q.2.1,q.2.2]))/\ps.map (·.2)=(zaq i).map kf) hS hl hD ⟨[],rfl,fun _ z=>(by cases z),rfl⟩ ?_ ?_
 ·rintro i x ys H2 hx s2 K3 ly ⟨ps,rfl,HU,ep⟩ R hR
  refine step i x H2 hx s2 R fun p hp=>hR _ _ (aw.new hp _) ⟨ps++[(p,kf i)],by simp,fun q hq=>?_,by rw[Z8,ep,zbU,Z8];rfl⟩;have pD:D≠p:=au K3 hp;rcases Z1.mp hq with hq |hq
  ·have e:=HU q hq;rw[aR (bX e K3 (by intro z;cases z))];exact aw.new hp _ _ _ e
  ·rw[ZU.mp hq];show upd (upd H2 p _) D _ p=_;rw[aR pD.symm,ao]
 ·rintro ys H2 s2 K3 ⟨ps,rfl,HU,ep⟩
  exact q ps H2 s2 K3 HU ep
theorem mw{K:ZI}{a D:zcl}{xs:List V}{te:TE}{Q:VK}{r:St}{H:Hp}(f:Nat->V)(hS:gQ K H a xs)(hl:xs.length<=16000000)(hD:H D=none)
 (step:∀i x H2,xs[i]?=some x->aw H H2->∀R:VK,R (f i) H2->te (some x::r) H2 R)
 (q:∀H2,aw H H2->H2 D=some (.lst ((zaq xs.length).map f))->Q (.ref D) H2):mL (B3 K a) D (eR 0) rO te Q (none::r) (upd H D (.lst [])):=by
 refine jg (K:=K) (fun i ys H2=>ys=(zaq i).map f) hS hl hD rfl ?_ ?_
 ·rintro i x ys H2 hx s2 K3 ly rfl R hR
  exact step i x H2 hx s2 R (hR _ _ (aw.refl _) (by rw[zbU,Z8];rfl))
 ·rintro ys H2 s2 K3 rfl
  exact q H2 s2 K3
structure ur(K:ZI)(C:zcl)(H:Hp)(p:zcl)(pr:PG.Prog):Prop where
 at_:∃(dx nl sd fa va st wy:zcl) (us ws:List V),H p=some (.ins C dx [("names",.ref nl),("sizes",.ref sd),("first",.ref fa),("statements",.ref st),("ways",.ref wy)])/\H dx=some (.own p)/\
  H nl=some (.lst (pr.ar.map fun b=>.str (S b.name)))/\H sd=some (.dK (pr.ar.map fun b=>(.inr (S b.name),.int b.size)))/\
  H fa=some (.tup [.int (PG.aP pr.body 0),.ref va])/\H va=some (.tup (pr.ar.map fun b=>.int b.first))/\
  us.length=(PG.ay pr.body).length/\H st=some (.dK (bS (PG.ay pr.body) us))/\aG K H ((PG.ay pr.body).map du) us/\
  ws.length=(PG.aI pr.body 0).length/\H wy=some (.dK (zaw (fun r v=>(Sum.inl r.1,v)) (PG.aI pr.body 0) ws))/\∀i (hi:i<(PG.aI pr.body 0).length),∃q,ws[i]?=some (.ref q)/\dq K H q ((PG.aI pr.body 0)[i].2.2.map V.int)
section
variable(K:ZI)(C:zcl)
def HV:Sp:=fun vs H Q _=>∃(p dx:zcl) (v:V) (pr:PG.Prog),vs=[.ref p,v]/\H p=some (.ins C dx [])/\H dx=some (.own p)/\Rep K H (gN pr) v/\PG.eT pr.body<=3/\(PG.fU pr.body).length<=1000/\(PG.ay pr.body).Pairwise (fun a b=>a.row<b.row)/\(pr.ar.map (·.name)).Nodup/\pr.ar.length<=10/\
 ∀H',bh p H H'->ur K C H' p pr->Q .b4 H'
end
end L2
namespace L2
open PySem
def K4 (kvs:List (Key×V)) (x:W):Int:=match b5 kvs (.inr (S x)) with
 |some (.int i)=>i
 |_=>0
def zr (kvs:List (Key×V)):PM.Tr->Prop
 |.num n=>n.natAbs<=2 ^ 12
 |.box x=>∃i:Int,b5 kvs (.inr (S x))=some (.int i)/\i.natAbs<=2 ^ 12
 |.bin o l r=>(o=[43]\/o=[45]\/o=[42])/\zr kvs l/\zr kvs r
theorem Al{kvs:List (Key×V)}{x:W}{i:Int}(h:b5 kvs (.inr (S x))=some (.int i)):K4 kvs x=i:=by
 unfold K4;rw[h]
theorem jU{kvs:List (Key×V)}:∀ {t:PM.Tr},zr kvs t->(eJ (K4 kvs) t).natAbs<=2 ^ (14*2 ^ PG.ju t)
 |.num n,h=>by
  rw[zr] at h;rw[eJ];simp only[PG.ju];exact Z5 h (zak (by decide) (by decide))
 |.box x,h=>by
  rw[zr] at h;obtain⟨i,e,hi⟩:=h;rw[eJ,Al e];simp only[PG.ju];exact Z5 hi (zak (by decide) (by decide))
 |.bin o l r,h=>by
  rw[zr] at h;have hl:=jU h.2.1;have hr:=jU h.2.2;have one:∀a b:Nat,1<=2 ^ max a b:=fun a b=>Nat.one_le_two_pow;have ml:(eJ (K4 kvs) l).natAbs<=2 ^ (14*2 ^ max (PG.ju l) (PG.ju r)):=Z5 hl (zak (by decide) (zcb _ (zak (by decide) (Nat.le_max_left _ _))));have mr:(eJ (K4 kvs) r).natAbs<=2 ^ (14*2 ^ max (PG.ju l) (PG.ju r)):=Z5 hr (zak (by decide) (zcb _ (zak (by decide) (Nat.le_max_right _ _))));rw[PG.ju,show 14*2 ^ (max (PG.ju l) (PG.ju r)+1)=14*2 ^ max (PG.ju l) (PG.ju r)+14*2 ^ max (PG.ju l) (PG.ju r) by rw[Nat.pow_succ];lia];have Y4:14<=14*2 ^ max (PG.ju l) (PG.ju r):=Nat.le_mul_of_pos_right _ (one _ _);generalize 14*2 ^ max (PG.ju l) (PG.ju r)=k at *;have two:2<=2 ^ k:=Z5 (by decide:2<=2 ^ 1) (zak (by decide) (by lia));rw[Nat.pow_add];have b2:2*2 ^ k<=2 ^ k*2 ^ k:=Nat.mul_le_mul_right _ two;have ab:=Z5 (Nat.add_le_add ml mr) (by rw[<- Nat.two_mul];exact b2);rw[eJ];split
  ·exact Z5 (Int.natAbs_add_le _ _) ab
  ·split
   ·rw[Int.sub_eq_add_neg];refine Z5 (Int.natAbs_add_le _ _) ?_;rw[Int.natAbs_neg];exact ab
   ·rw[Int.natAbs_mul];exact zb5 ml mr
theorem wz{a:Int}{d:Nat}(h:a.natAbs<=2 ^ (14*2 ^ d))(hd:d<=6):a.natAbs<2 ^ 4000:=by
 refine za7 h (Nat.pow_lt_pow_right (by decide) ?_);have:2 ^ d<=2 ^ 6:=zak (by decide) hd;lia
section
variable(K:ZI)
def O0 (n:Nat):Sp:=fun vs H Q _=>∃(v:V) (d:zcl) (tr:PM.Tr) (kvs:List (Key×V)),vs=[v,.ref d]/\Rep K H (k5 tr) v/\H d=some (.dK kvs)/\zr kvs tr/\PG.ju tr<n/\PG.ju tr<=6/\∀H',aw H H'->Q (.int (eJ (K4 kvs) tr)) H'
end
theorem ur.mono{K:ZI}{C p:zcl}{H H':Hp}{pr:PG.Prog}(c:ur K C H p pr)(s:aw H H'):ur K C H' p pr:=by
 obtain⟨dx,nl,sd,fa,va,st,wy,us,ws,h1,h2,h3,h4,h5,h6,h7,h8,h9,K5,Cy,K6⟩:=c.at_;exact⟨⟨dx,nl,sd,fa,va,st,wy,us,ws,s _ _ h1,s _ _ h2,s _ _ h3,s _ _ h4,s _ _ h5,s _ _ h6,h7,s _ _ h8,h9.mono s,K5,s _ _ Cy,fun i hi=>let ⟨q,e,r⟩:=K6 i hi;⟨q,e,s.bB r⟩⟩⟩
theorem jV{α β:Type}(g:α->β)(d:α)(l:List α):(zaq l.length).map (fun i=>g (l.getD i d))=l.map g:=by
 apply zbp
 ·simp
 ·intro i h1 h2;simp at h1 h2;simp[h2]
def bU (bs:List PG.gf) (vs:List V):List (Key×V):=zaw (fun b v=>(Sum.inr (S b.name),v)) bs vs
theorem tD:∀(bs:List PG.gf) (vs:List V),(bs.map fun b=>(Sum.inr (S b.name):Key)).zip vs=bU bs vs
 |[],vs=>by simp[bU]
 |b::bs,[]=>by simp[bU]
 |b::bs,v::vs=>by
  show _::(bs.map fun b=>(Sum.inr (S b.name):Key)).zip vs=_::bU bs vs;rw[tD bs vs]
theorem rj:∀(bs:List PG.gf) (vs:List V),vs.length=bs.length->(bU bs vs).map (·.1)=bs.map fun b=>(Sum.inr (S b.name):Key)
 |[],[],_=>rfl
 |[],_::_,h=>by simp at h
 |_::_,[],h=>by simp at h
 |b::bs,v::vs,h=>by
  show _::(bU bs vs).map (·.1)=_;rw[rj bs vs (by simpa using h)];rfl
theorem names_nodup{bs:List PG.gf}(nb:(bs.map (·.name)).Nodup):(bs.map fun b=>(Sum.inr (S b.name):Key)).Nodup:=by
 refine zaF.mpr ((zaF.mp nb).imp fun {a b} Jt e=>Jt ?_);exact oU.mp (Sum.inr.inj e)
theorem i7:∀(bs:List PG.gf) (vs:List V),vs.length=bs.length->(bs.map (·.name)).Nodup->∀i (hi:i<bs.length) v,vs[i]?=some v->b5 (bU bs vs) (.inr (S bs[i].name))=some v
 |[],_,_,_,i,hi,_,_=>by simp at hi
 |_::_,[],h,_,_,_,_,_=>by simp at h
 |b::bs,v::vs,h,nb,0,hi,u,hu=>by
  simp at hu;subst hu;show b5 ((_,v)::bU bs vs) _=_;exact b6 rfl
 |b::bs,v::vs,h,nb,i+1,hi,u,hu=>by
  rw[ZW,za6] at nb;have mem:(bs[i]'(by simpa using hi)).name∈bs.map (·.name):=zav.mpr ⟨_,ZT _,rfl⟩;show b5 ((.inr (S b.name),v)::bU bs vs) (.inr (S (bs[i]'(by simpa using hi)).name))=_;rw[bY (fun e=>by have e:=oU.mp (Sum.inr.inj e);exact nb.1 (e▸mem))];exact i7 bs vs (by simpa using h) nb.2 i (by simpa using hi) u (by simpa using hu)
section
variable(K:ZI)(C:zcl)
def Cz:Sp:=fun vs H Q _=>∃(p a:zcl) (pr:PG.Prog) (us:List V),vs=[.ref p,.ref a]/\ur K C H p pr/\dq K H a us/\us.length=pr.ar.length/\(pr.ar.map (·.name)).Nodup/\pr.ar.length<=10/\
 ∀d H',aw H H'->H d=none->H' d=some (.dK (bU pr.ar us))->Q (.ref d) H'
def CA:Sp:=fun vs H Q _=>∃(p d:zcl) (pr:PG.Prog) (kvs:List (Key×V)) (us:List V),vs=[.ref p,.ref d]/\ur K C H p pr/\H d=some (.dK kvs)/\us.length=pr.ar.length/\(∀i (hi:i<pr.ar.length),b5 kvs (.inr (S pr.ar[i].name))=us[i]?)/\pr.ar.length<=10/\
 ∀a H',aw H H'->dq K H' a us->Q (.ref a) H'
def E1:Sp:=fun vs H Q _=>∃(p:zcl) (pr:PG.Prog) (row:Int),vs=[.ref p,.int row]/\ur K C H p pr/\(PG.ay pr.body).Pairwise (fun a b=>a.row<b.row)/\
 ((row=0/\Q (.str "end") H)\/(row≠0/\∃i,∃hi:i<(PG.ay pr.body).length,(PG.ay pr.body)[i].row=row/\Q (.str (jH (PG.ay pr.body)[i].wd)) H))
end
def jx:PG.aW->Option (W×PM.Tr×PM.Tr)
 |.bO _ sg l r=>some (sg,l,r)
 |.ifs _ sg l r _ _=>some (sg,l,r)
 |.fZ _ sg l r _=>some (sg,l,r)
 |_=>none
def fS (sg:W) (a b:Int):Bool:=if sg=[60] then decide (a<b) else decide (a=b)
def wv (bs:List PG.gf) (vals:List Int) (e:PM.Tr):Int:=eJ (K4 (bU bs (vals.map V.int))) e
abbrev ye (bs:List PG.gf) (vals:List Int) (e:PM.Tr):Prop:=zr (bU bs (vals.map V.int)) e/\PG.ju e<=2
theorem tE{K:ZI}{H:Hp}{st:PG.aW}{v:V}{sg:W}{l r:PM.Tr}(h:Rep K H (du st) v)(c:jx st=some (sg,l,r)):∃a w0 vl vr ys,v=.ref a/\dq K H a (w0 :: .int st.row :: .str (S sg)::vl::vr::ys)/\Rep K H (k5 l) vl/\Rep K H (k5 r) vr:=by
 have key:∃w ds,du st=.tup (.str w :: .int st.row :: .str (S sg)::k5 l::k5 r::ds):=by
  cases st<;>simp only[jx,zaf.injEq,Prod.mk.injEq,reduceCtorEq] at c<;>obtain⟨rfl,rfl,rfl⟩:=c<;>exact⟨_,_,by rw[du];rfl⟩
 obtain⟨w0,ds,e⟩:=key;rw[e,Rep.aK] at h;obtain⟨a,xs,rfl,q,rs⟩:=h;rw[aG.aD] at rs;obtain⟨v0,t0,rfl,_,rs⟩:=rs;rw[aG.aD] at rs;obtain⟨v1,t1,rfl,e1,rs⟩:=rs;rw[aG.aD] at rs;obtain⟨v2,t2,rfl,e2,rs⟩:=rs;rw[aG.aD] at rs;obtain⟨v3,t3,rfl,e3,rs⟩:=rs;rw[aG.aD] at rs;obtain⟨v4,t4,rfl,e4,rs⟩:=rs;rw[Rep.ba] at e1;rw[Rep.bf] at e2;subst e1 e2;exact⟨a,v0,v3,v4,t4,rfl,q,e3,e4⟩
def bZ (K:ZI) (H:Hp) (sa:zcl) (row:Int) (vals:List Int):Prop:=∃va,dq K H sa [.int row,.ref va]/\dq K H va (vals.map V.int)
theorem bZ.mono{K:ZI}{H H':Hp}{sa:zcl}{row:Int}{vals:List Int}(h:bZ K H sa row vals)(s:aw H H'):bZ K H' sa row vals:=let ⟨va,h1,h2⟩:=h;⟨va,s.bB h1,s.bB h2⟩
structure CB(pr:PG.Prog):Prop where
 pw:(PG.ay pr.body).Pairwise (fun a b=>a.row<b.row)
 nb:(pr.ar.map (·.name)).Nodup
 vy:pr.ar.length<=10
 pos:∀s∈PG.ay pr.body,0<s.row
section
variable(K:ZI)(C:zcl)
def HW:Sp:=fun vs H Q _=>∃(p sa:zcl) (pr:PG.Prog) (vals:List Int) (i:Nat) (hi:i<(PG.ay pr.body).length) (sg:W) (l r:PM.Tr),vs=[.ref p,.ref sa]/\ur K C H p pr/\CB pr/\bZ K H sa (PG.ay pr.body)[i].row vals/\vals.length=pr.ar.length/\jx (PG.ay pr.body)[i]=some (sg,l,r)/\ye pr.ar vals l/\ye pr.ar vals r/\
 ∀H',aw H H'->Q (.bl (fS sg (wv pr.ar vals l) (wv pr.ar vals r))) H'
end
theorem vz:∀(fl:List PG.bW) (vs:List V),vs.length=fl.length->fl.Pairwise (fun a b=>a.1<b.1)->∀i (hi:i<fl.length) v,vs[i]?=some v->b5 (zaw (fun r v=>((Sum.inl r.1:Key),v)) fl vs) (.inl fl[i].1)=some v
 |[],_,_,_,i,hi,_,_=>by simp at hi
 |_::_,[],h,_,_,_,_,_=>by simp at h
 |s::ss,v::vs,h,hp,0,hi,u,hu=>by
  simp at hu;subst hu;rw[zbY];exact b6 rfl
 |s::ss,v::vs,h,hp,i+1,hi,u,hu=>by
  rw[zaT] at hp;have lt:=hp.1 (ss[i]'(by simpa using hi)) (ZT _);rw[zbY];show b5 _ (Sum.inl (ss[i]'(by simpa using hi)).1:Key)=_;rw[bY (fun e=>by have e:=Sum.inl.inj e;lia)];exact vz ss vs (by simpa using h) hp.2 i (by simpa using hi) u (by simpa using hu)
theorem gA(b:List PG.aW)(i:Nat)(hi:i<(PG.ay b).length):∃hf:i<(PG.aI b 0).length,(PG.aI b 0)[i].1=(PG.ay b)[i].row/\(PG.aI b 0)[i].2.1=(PG.ay b)[i].wd:=by
 have e:((PG.aI b 0).map fun r=>(r.1,r.2.1))=(PG.ay b).map fun x=>(x.row,x.wd):=by rw[PG.dH,PG.fA]
 have l:=congrArg zad e;rw[ZL,ZL] at l;have hf:i<(PG.aI b 0).length:=by lia
 refine⟨hf,?_⟩;have h1:((PG.aI b 0).map fun r=>(r.1,r.2.1))[i]?=((PG.ay b).map fun x=>(x.row,x.wd))[i]?:=by rw[e]
 rw[ZO,ZO,ZK hf,ZK hi] at h1;have h1:=zaf.inj h1;exact⟨congrArg Prod.fst h1,congrArg Prod.snd h1⟩
theorem CD{b:List PG.aW}(pw:(PG.ay b).Pairwise fun a b=>a.row<b.row):(PG.aI b 0).Pairwise fun a b=>a.1<b.1:=by
 have e:((PG.aI b 0).map fun r=>(r.1,r.2.1))=(PG.ay b).map fun x=>(x.row,x.wd):=by rw[PG.dH,PG.fA]
 have h:((PG.ay b).map fun x=>(x.row,x.wd)).Pairwise fun a b=>a.1<b.1:=zaF.mpr pw;rw[<- e,zaF] at h;exact h
theorem ur.way{K:ZI}{C p:zcl}{H:Hp}{pr:PG.Prog}(c:ur K C H p pr)(ok:CB pr)(i:Nat)(hi:i<(PG.ay pr.body).length)(hf:i<(PG.aI pr.body 0).length):∃dx fs wy q,H p=some (.ins C dx fs)/\fs.lookup (ZJ "ways")=some (V.ref wy)/\oQ H wy (.int (PG.ay pr.body)[i].row) (some (.ref q))/\dq K H q ((PG.aI pr.body 0)[i].2.2.map V.int):=by
 obtain⟨dx,nl,sd,fa,va,st,wy,us,ws,h1,h2,h3,h4,h5,h6,h7,h8,h9,K5,Cy,K6⟩:=c.at_;obtain⟨q,e,hq⟩:=K6 i hf;obtain⟨Y5,e1,_⟩:=gA pr.body i hi;have g:=vz _ _ K5 (CD ok.pw) i hf _ e;rw[e1] at g;exact⟨dx,_,wy,q,h1,rfl,.inl ⟨_,.inl _,.inl Cy,rfl,g.symm⟩,hq⟩
def oV (K:ZI) (H:Hp):Option (Int×List Int)->V->Prop
 |none,v=>v=.b4
 |some x,v=>∃a,v=.ref a/\bZ K H a x.1 x.2
def cL (bs:List PG.gf) (st:PG.aW) (ws:List Int) (vals:List Int):Option (Int×List Int):=match jx st with
 |none=>none
 |some (sg,l,r)=>if fS sg (wv bs vals l) (wv bs vals r) then some (ws.getD 0 0,vals) else if st.wd=.bO then none else some (ws.getD 1 0,vals)
section
variable(K:ZI)(C:zcl)
def CF:Sp:=fun vs H Q _=>∃(p sa:zcl) (pr:PG.Prog) (vals:List Int) (i:Nat) (hi:i<(PG.ay pr.body).length) (hf:i<(PG.aI pr.body 0).length) (sg:W) (l r:PM.Tr),vs=[.ref p,.ref sa]/\ur K C H p pr/\CB pr/\bZ K H sa (PG.ay pr.body)[i].row vals/\vals.length=pr.ar.length/\jx (PG.ay pr.body)[i]=some (sg,l,r)/\ye pr.ar vals l/\ye pr.ar vals r/\
 0<(PG.aI pr.body 0)[i].2.2.length/\((PG.ay pr.body)[i].wd≠.bO->1<(PG.aI pr.body 0)[i].2.2.length)/\
 ∀v H',aw H H'->oV K H' (cL pr.ar (PG.ay pr.body)[i] (PG.aI pr.body 0)[i].2.2 vals) v->Q v H'
end
open PyProof.Rows
def HX:V->List V->Hp->VK->Prop:=fun x vs H Q=>∃(l:zcl) (ss:List Str) (y:Str) (j:Nat),x=.ref l/\vs=[.str y]/\H l=some (.lst (ss.map V.str))/\ss[j]?=some y/\(∀m,m<j->ss[m]?≠some y)/\Q (.int j) H
theorem vA{X:Cx}:Qr X "list.index" HX:=by
 intro pins s σ H x vs v us Q I rx rv h;obtain⟨l,ss,y,j,rfl,rfl,hH,hj,Qj,q⟩:=h;cases rx;obtain⟨u,rfl,ru⟩:=rv.one;obtain⟨t,rfl⟩:=(show ∃t,u=Value.str y t from ru)
 obtain⟨z,a0,n,r,hl,e⟩:=I.Cd hH;rw[ZL] at z hl;have line:zct=2 ^ 24:=rfl;have get:∀m (hm:m<a0.length),∃t',a0[m]=Value.str (ss[m]'(by lia)) t':=fun m hm=>by
  obtain⟨w',hw,zW⟩:=r.get (i:=m) (show (ss.map V.str)[m]?=some (V.str (ss[m]'(by lia))) by rw[ZO,ZK (by lia)];rfl);rw[ZK hm] at hw;cases hw;exact zW
 have lj:j<ss.length:=(ZR.mp hj).1;have ej:ss[j]=y:=(ZR.mp hj).2
 let e0:zcm->Bool:=fun v=>match v with
  |.str a _=>a==y
  |_=>false
 refine call_meets F.slot_list_index ⟨_,e,rfl⟩ F.entry_list_index (F.args_list_index_2 _ _)
  (SeqAt.list_indexAt l a0.toArray n none #[] (.str y t) e0 j (by rw[ZY];lia) (by lia) ?_ ?_) ⟨e,?_,?_⟩
 ·obtain⟨t',et⟩:=get j (by lia);show e0 a0[j]=true;rw[et,ej];simp[e0]
 ·intro m hm lt;have Wv:m<a0.length:=by simpa using hm
  obtain⟨t',et⟩:=get m Wv;show e0 a0[m]=false;rw[et];have:=Qj m lt;rw[ZK (by lia)] at this;simp only[e0];exact beq_eq_false_iff_ne.mpr fun w=>this (by rw[w])
 ·intro v hv;rw[List.mem_toArray] at hv;obtain⟨m,hm,rfl⟩:=zaX.mp hv;obtain⟨t',et⟩:=get m hm;rw[et];exact SeqAt.EqAt.str_str _ _ _ _
 ·exact⟨.int j,H,I.tok _,⟨_,rfl⟩,q⟩
def ck (bs:List PG.gf) (x:W):Nat:=(bs.map (·.name)).idxOf x
def kG (bs:List PG.gf) (vals:List Int) (x:W) (v:Int):List Int:=vals.set (ck bs x) v
def c0 (bs:List PG.gf) (x:W):Int:=((bs[ck bs x]?).map (·.size)).getD 1
def gn (bs:List PG.gf) (st:PG.aW) (ws vals:List Int) (GA:Int):Option (Int×List Int)×Option Int:=match st with
 |.ask _ b=>(some (ws.getD 0 0,kG bs vals b (GA%c0 bs b)),none)
 |.put _ b e=>(some (ws.getD 0 0,kG bs vals b (wv bs vals e%c0 bs b)),none)
 |.say _ e=>(some (ws.getD 0 0,vals),some (wv bs vals e))
 |.stop _=>(some (ws.getD 0 0,vals),none)
 |st=>(cL bs st ws vals,none)
def E2 (bs:List PG.gf) (vals:List Int):PG.aW->Prop
 |.ask _ b=>b∈bs.map (·.name)
 |.put _ b e=>b∈bs.map (·.name)/\ye bs vals e
 |.say _ e=>ye bs vals e
 |.bO _ _ l r=>ye bs vals l/\ye bs vals r
 |.ifs _ _ l r _ _=>ye bs vals l/\ye bs vals r
 |.fZ _ _ l r _=>ye bs vals l/\ye bs vals r
 |.stop _=>True
def E3:Option Int->V
 |none=>.b4
 |some n=>.int n
theorem hJ{bs:List PG.gf}{x:W}(h:x∈bs.map (·.name)):∃hi:ck bs x<bs.length,bs[ck bs x].name=x:=by
 have l:ck bs x<(bs.map (·.name)).length:=List.idxOf_lt_length_iff.mpr h;have e:(bs.map (·.name))[ck bs x]=x:=List.getElem_idxOf l;rw[ZL] at l;rw[zaQ] at e;exact⟨l,e⟩
theorem Am{bs:List PG.gf}{vs:List V}(l:vs.length=bs.length)(nb:(bs.map (·.name)).Nodup){x:W}(h:x∈bs.map (·.name))(v:V)(i:Nat)(hi:i<bs.length) :
 b5 (putK (bU bs vs) (.inr (S x)) v) (.inr (S bs[i].name))=(vs.set (ck bs x) v)[i]?:=by
 obtain⟨hx,ex⟩:=hJ h;rw[xT];by_cases e:i=ck bs x
 ·subst e;rw[if_pos (by rw[ex]),zbn (by lia)]
 ·have ne:bs[i].name≠x:=fun z=>e (by
   have p1:=zbf.mp nb;rw[<- ex] at z;rcases Nat.lt_trichotomy i (ck bs x) with lt |eq |gt
   ·exact absurd (by rw[zaQ,zaQ];exact z) (p1 i (ck bs x) (by simpa using hi) (by simpa using hx) lt)
   ·exact eq
   ·exact absurd (by rw[zaQ,zaQ];exact z.symm) (p1 (ck bs x) i (by simpa using hx) (by simpa using hi) gt))
  rw[if_neg (fun z=>ne (oU.mp (Sum.inr.inj z))),zbs (fun z=>e z.symm)];have li:i<vs.length:=by lia
  rw[i7 bs vs l nb i hi vs[i] (ZK li),ZK li]
theorem yh{bs:List PG.gf}(nb:(bs.map (·.name)).Nodup){x:W}(h:x∈bs.map (·.name)):b5 (bs.map fun b=>((Sum.inr (S b.name):Key),V.int b.size)) (.inr (S x))=some (.int (c0 bs x)):=by
 obtain⟨hx,ex⟩:=hJ h;have e:(bs.map fun b=>((Sum.inr (S b.name):Key),V.int b.size))=bU bs (bs.map fun b=>V.int b.size):=by
  unfold bU;rw[List.zipWith_map_right,List.zipWith_self]
 rw[e];have:=i7 bs (bs.map fun b=>V.int b.size) (by simp) nb (ck bs x) hx (.int bs[ck bs x].size) (by rw[ZO,ZK hx];rfl);rw[ex] at this;rw[this];unfold c0;rw[ZK hx];rfl
section
variable(K:ZI)(C:zcl)
def E4:Sp:=fun vs H Q _=>∃(p sa:zcl) (fv:V) (pr:PG.Prog) (vals:List Int) (GA:Int) (i:Nat) (hi:i<(PG.ay pr.body).length) (hf:i<(PG.aI pr.body 0).length),vs=[.ref p,.ref sa,fv]/\ur K C H p pr/\CB pr/\(∀b∈pr.ar,0<b.size)/\bZ K H sa (PG.ay pr.body)[i].row vals/\vals.length=pr.ar.length/\
 ((PG.ay pr.body)[i].wd=.ask->fv=.int GA)/\E2 pr.ar vals (PG.ay pr.body)[i]/\0<(PG.aI pr.body 0)[i].2.2.length/\((PG.ay pr.body)[i].wd=.ifs\/(PG.ay pr.body)[i].wd=.fZ->1<(PG.aI pr.body 0)[i].2.2.length)/\
 ∀q sv H',aw H H'->dq K H' q [sv,E3 (gn pr.ar (PG.ay pr.body)[i] (PG.aI pr.body 0)[i].2.2 vals GA).2]->oV K H' (gn pr.ar (PG.ay pr.body)[i] (PG.aI pr.body 0)[i].2.2 vals GA).1 sv->Q (.ref q) H'
end
open PySem.Spec
def NO (K:ZI):V->Option Int->Option Int->Hp->VK->Prop:=fun x lo hi H Q=>∃a xs,x=.ref a/\dq K H a xs/\∀p H',aw H H'->dq K H' p (k4 xs lo hi)->Q (.ref p) H'
theorem HY{X:Cx}:M5 X (NO X.K):=by
 intro pins s σ H x v vl vu lo hi sl Q I rx hs pl pu h;obtain⟨a,xs,rfl,hx,q⟩:=h;refine Hu pins s σ H _ v vl vu lo hi sl Q I rx hs pl pu ⟨a,xs,rfl,hx,fun e=>q _ _ (aw.refl _) ?_,fun _ p hp=>q _ _ (aw.new hp _) (.of ao)⟩;have:k4 xs lo hi=xs:=by
  unfold k4;rw[e.1,e.2];simp
 rw[this];exact hx
def Bv:Option (Int×List Int)->Dp
 |none=>.b4
 |some x=>.tup [.int x.1,.tup (x.2.map Dp.int)]
theorem qy{K:ZI}{H:Hp}:∀l:List Int,aG K H (l.map Dp.int) (l.map V.int)
 |[]=>by rw[zaD,zaD,aG.bD]
 |x::r=>by rw[ZW,ZW,aG.aD];exact⟨_,_,rfl,by rw[Rep.ba],qy r⟩
theorem oW{K:ZI}{H:Hp}{a:zcl}{row:Int}{vals:List Int}(h:bZ K H a row vals):Rep K H (.tup [.int row,.tup (vals.map Dp.int)]) (.ref a):=by
 obtain⟨va,h1,h2⟩:=h;rw[Rep.aK];refine⟨a,_,rfl,h1,?_⟩;rw[aG.aD];refine⟨_,_,rfl,by rw[Rep.ba],?_⟩;rw[aG.aD];refine⟨_,_,rfl,?_,by rw[aG.bD]⟩;rw[Rep.aK];exact⟨va,_,rfl,h2,qy _⟩
def Q3:PG.aW->Prop
 |.bO _ sg _ _=>sg∈PG.zm
 |.ifs _ sg _ _ _ _=>sg∈PG.zm
 |.fZ _ sg _ _ _=>sg∈PG.zm
 |_=>True
theorem qz{H H':Hp}{b:zcl}(s:aw H H')(h:H' b=none):H b=none:=by
 cases z:H b with
 |none=>rfl
 |some o=>rw[s _ _ z] at h;cases h
theorem dq.NP{K:ZI}{H H':Hp}{D a:zcl}{xs ys:List V}(h:dq K H a xs)(hD:H D=some (.lst ys))(u:bh D H H'):dq K H' a xs:=by
 rcases h with (q |⟨o,q⟩) |q
 ·exact .inl (.inl (u _ _ (bX q hD (by intro z;cases z)) q))
 ·exact .inl (.inr ⟨o,u _ _ (bX q hD (by intro z;cases z)) q⟩)
 ·exact .inr q
theorem wA{bs:List PG.gf}{vals:List Int}(lv:vals.length=bs.length)(nb:(bs.map (·.name)).Nodup)(hv:∀v∈vals,v.natAbs<=2 ^ 12):∀e:PM.Tr,PG.gK bs e->zr (bU bs (vals.map V.int)) e
 |.num n,h=>by rw[PG.gK] at h;rw[zr];lia
 |.box x,h=>by
  rw[PG.gK] at h;rw[zr];obtain⟨hx,ex⟩:=hJ h;have li:ck bs x<vals.length:=by lia
  refine⟨vals[ck bs x],?_,hv _ (ZT li)⟩;have:=i7 bs (vals.map V.int) (by simpa using lv) nb (ck bs x) hx (.int vals[ck bs x]) (by rw[ZO,ZK li];rfl);rw[ex] at this;exact this
 |.bin o l r,h=>by
  rw[PG.gK] at h;rw[zr];exact⟨by simpa using h.1,wA lv nb hv l h.2.1,wA lv nb hv r h.2.2⟩
theorem tF{bs:List PG.gf}{vals:List Int}(lv:vals.length=bs.length)(nb:(bs.map (·.name)).Nodup)(hv:∀v∈vals,v.natAbs<=2 ^ 12){st:PG.aW}(h:PG.qt (·∈bs.map (·.name)) (fun e=>PG.gK bs e/\PG.ju e<=2) (·∈PG.zm) st):E2 bs vals st/\Q3 st:=by
 have k:∀e,(PG.gK bs e/\PG.ju e<=2)->ye bs vals e:=fun e h=>⟨wA lv nb hv e h.1,h.2⟩
 cases st<;>rw[PG.qt] at h
 ·exact⟨h,trivial⟩
 ·exact⟨⟨h.1,k _ h.2⟩,trivial⟩
 ·exact⟨k _ h,trivial⟩
 ·exact⟨⟨k _ h.2.1,k _ h.2.2⟩,h.1⟩
 ·exact⟨trivial,trivial⟩
 ·exact⟨⟨k _ h.2.1,k _ h.2.2.1⟩,h.1⟩
 ·exact⟨⟨k _ h.2.1,k _ h.2.2.1⟩,h.1⟩
section
variable{K:ZI}{H H':Hp}{p C dx a:zcl}{fs:List (Str×V)}{xs:List V}
theorem dq.ins(h:dq K H a xs)(hp:H p=some (.ins C dx fs))(u:bh p H H'):dq K H' a xs:=by
 rcases h with (q |⟨o,q⟩) |q
 ·exact .inl (.inl (u _ _ (bX q hp (by intro z;cases z)) q))
 ·exact .inl (.inr ⟨o,u _ _ (bX q hp (by intro z;cases z)) q⟩)
 ·exact .inr q
theorem gQ.ins(h:gQ K H a xs)(hp:H p=some (.ins C dx fs))(u:bh p H H'):gQ K H' a xs:=by
 rcases h with (q |⟨o,q⟩) |q
 ·exact .inl (.inl (u _ _ (bX q hp (by intro z;cases z)) q))
 ·exact .inl (.inr ⟨o,u _ _ (bX q hp (by intro z;cases z)) q⟩)
 ·exact .inr q
theorem bZ.ins{row:Int}{vals:List Int}(h:bZ K H a row vals)(hp:H p=some (.ins C dx fs))(u:bh p H H'):bZ K H' a row vals:=let ⟨va,h1,h2⟩:=h;⟨va,h1.ins hp u,h2.ins hp u⟩
theorem ur.ins{CC ch:zcl}{pr:PG.Prog}(c:ur K CC H ch pr)(hp:H p=some (.ins C dx fs))(n:ch≠p)(u:bh p H H'):ur K CC H' ch pr:=by
 obtain⟨dx,nl,sd,fa,va,st,wy,us,ws,h1,h2,h3,h4,h5,h6,h7,h8,h9,K5,Cy,K6⟩:=c.at_;have k:∀ {b:zcl} {o:HO},H b=some o->(∀C dx fs,o≠.ins C dx fs)->H' b=some o:=fun e no=>u _ _ (bX e hp (no _ _ _)) e;exact⟨⟨dx,nl,sd,fa,va,st,wy,us,ws,u _ _ n h1,k h2 (by intro _ _ _ z;cases z),k h3 (by intro _ _ _ z;cases z),k h4 (by intro _ _ _ z;cases z),k h5 (by intro _ _ _ z;cases z),k h6 (by intro _ _ _ z;cases z),h7,k h8 (by intro _ _ _ z;cases z),jT hp (bK.one u rfl) _ _ h9,K5,k Cy (by intro _ _ _ z;cases z),fun i hi=>let ⟨q,e,r⟩:=K6 i hi;⟨q,e,r.ins hp u⟩⟩⟩
end
theorem E5{tc:TT}{tb:TS}{D:Ends}{σ:St}{H:Hp}(h:∀B:TS,(∀D σ H,tb D σ H->B D σ H)->zG tc B D σ H):zG tc tb D σ H:=h tb fun _ _ _ x=>x
theorem Bw{f:Str}{y:V}:∀ {fs:List (Str×V)} {n:Nat},fs.length<=n->(fY f y fs).length<=n+1
 |[],n,h=>by simp[fY]
 |(g,x)::r,n,h=>by
  unfold fY;split
  ·simp only[ZN] at h ⊢;lia
  ·obtain⟨m,rfl⟩:∃m,n=m+1:=⟨n-1,by simp only[ZN] at h;lia⟩
   have:=Bw (f:=f) (y:=y) (fs:=r) (n:=m) (by simp only[ZN] at h;lia);simp only[ZN];lia
def Q4:PG.sZ->List V
 |.on=>[.str "on"]
 |.out=>[.str "out"]
 |.bO r=>[.str "must",.int r]
 |.fin=>[.str "end"]
def E6 (K:ZI) (H:Hp):Option PG.sZ->V->Prop
 |none,v=>v=.b4
 |some e,v=>∃a,v=.ref a/\dq K H a (Q4 e)
theorem E6.ins{K:ZI}{H H':Hp}{p C dx:zcl}{fs:List (Str×V)}{e:Option PG.sZ}{v:V}(h:E6 K H e v)(hp:H p=some (.ins C dx fs))(u:bh p H H'):E6 K H' e v:=by
 cases e with
 |none=>exact h
 |some x=>obtain⟨a,e,q⟩:=h;exact⟨a,e,q.ins hp u⟩
def O1 (ch fl:zcl) (n:Nat) (sa:zcl) (ev:V):List (Str×V):=[("chart",.ref ch),("figures",.ref fl),("taken",.int n),("standing",.ref sa),("end",ev)]
structure Q5(K:ZI)(CC CW:zcl)(H:Hp)(wk ch fl:zcl)(pr:PG.Prog)(mC:List Int)(n:Nat)(row:Int)(vals:List Int)(e:Option PG.sZ):Prop where
 at_:∃(dx sa:zcl) (ev:V),H wk=some (.ins CW dx (O1 ch fl n sa ev))/\bZ K H sa row vals/\E6 K H e ev
 Ww:ur K CC H ch pr
 Wx:gQ K H fl (mC.map V.int)
 Ti:ch≠wk
theorem Q5.put{K:ZI}{CC CW:zcl}{H:Hp}{wk ch fl dx sa O3:zcl}{pr:PG.Prog}{mC:List Int}{n n':Nat}{row NQ:Int}{vals Jv:List Int}{e e':Option PG.sZ}{ev O4:V}(h:Q5 K CC CW H wk ch fl pr mC n row vals e)(hw:H wk=some (.ins CW dx (O1 ch fl n sa ev)))
 (hs:bZ K H O3 NQ Jv) (he:E6 K H e' O4):Q5 K CC CW (upd H wk (.ins CW dx (O1 ch fl n' O3 O4))) wk ch fl pr mC n' NQ Jv e':=by
 have u:bh wk H (upd H wk (.ins CW dx (O1 ch fl n' O3 O4))):=(bh.refl _ _).put _;exact⟨⟨dx,O3,O4,ao,hs.ins hw u,he.ins hw u⟩,h.Ww.ins hw h.Ti u,h.Wx.ins hw u,h.Ti⟩
def HZ (b:List PG.aW) (row:Int):PG.aW:=((PG.ay b)[PG.Hq b row]?).getD (.stop 0)
def K7 (b:List PG.aW) (row:Int):List Int:=(((PG.aI b 0)[PG.Hq b row]?).map (·.2.2)).getD []
def oX (b:List PG.aW) (row:Int):Bool:=decide ((HZ b row).wd=.ask)
def jW (pr:PG.Prog) (row:Int) (vals:List Int) (f:Int):Option (Int×List Int)×Option Int:=gn pr.ar (HZ pr.body row) (K7 pr.body row) vals f
theorem oY{b:List PG.aW}(pw:(PG.ay b).Pairwise (fun a b=>a.row<b.row))(i:Nat)(hi:i<(PG.ay b).length):HZ b (PG.ay b)[i].row=(PG.ay b)[i]:=by
 unfold HZ;rw[PG.Bo pw i hi,ZK hi];rfl
theorem Ia{b:List PG.aW}(pw:(PG.ay b).Pairwise (fun a b=>a.row<b.row))(i:Nat)(hi:i<(PG.ay b).length)(hf:i<(PG.aI b 0).length):K7 b (PG.ay b)[i].row=(PG.aI b 0)[i].2.2:=by
 unfold K7;rw[PG.Bo pw i hi,ZK hf];rfl
structure yi(pr:PG.Prog)(row:Int)(vals:List Int):Prop where
 row:row=0\/∃i,∃hi:i<(PG.ay pr.body).length,(PG.ay pr.body)[i].row=row
 len:vals.length=pr.ar.length
 small:∀v∈vals,v.natAbs<=2 ^ 12
structure iO(pr:PG.Prog):Prop where
 ok:CB pr
 dep:PG.eT pr.body<=3
 vy:(PG.fU pr.body).length<=1000
 own:PG.zo (·∈pr.ar.map (·.name)) (fun e=>PG.gK pr.ar e/\PG.ju e<=2) (·∈PG.zm) pr.body
 size:∀b∈pr.ar,2<=b.size/\b.size<=10/\0<=b.first/\b.first<b.size
theorem Bx{pr:PG.Prog}{w:Int}(h:w=0\/w=0\/∃t∈PG.ay pr.body,t.row=w):w=0\/∃i,∃hi:i<(PG.ay pr.body).length,(PG.ay pr.body)[i].row=w:=by
 rcases h with h |h |⟨t,ht,e⟩
 ·exact .inl h
 ·exact .inl h
 ·obtain⟨i,hi,e2⟩:=zaX.mp ht;exact .inr ⟨i,hi,by rw[e2];exact e⟩
theorem iO.first{pr:PG.Prog}(d:iO pr):yi pr (PG.aP pr.body 0) (pr.ar.map (·.first)):=by
 refine⟨Bx (.inr ?_),by simp,fun v hv=>?_⟩
 ·rcases PG.lH pr.body 0 with e |e
  ·exact .inl e
  ·exact .inr e
 ·obtain⟨b,hb,rfl⟩:=zav.mp hv;have:=d.size b hb;lia
theorem yj{pr:PG.Prog}(d:iO pr){x:W}(h:x∈pr.ar.map (·.name)):2<=c0 pr.ar x/\c0 pr.ar x<=10:=by
 obtain⟨hx,_⟩:=hJ h;unfold c0;rw[ZK hx];have:=d.size _ (ZT hx);exact⟨this.1,this.2.1⟩
theorem yi.step{pr:PG.Prog}(d:iO pr){i:Nat}(hi:i<(PG.ay pr.body).length)(hf:i<(PG.aI pr.body 0).length){vals:List Int}{f:Int}(lv:vals.length=pr.ar.length)(sm:∀v∈vals,v.natAbs<=2 ^ 12){x:Int×List Int}{s:Option Int}
 (h:gn pr.ar (PG.ay pr.body)[i] (PG.aI pr.body 0)[i].2.2 vals f=(some x,s)):yi pr x.1 x.2:=by
 have E7:=PG.gu pr.body _ d.own (ZT hi);obtain⟨w0,w1⟩:=PG.fV pr.body 0 _ (ZT hf);have Wy:=PG.lI pr.body 0 _ (ZT hf);obtain⟨_,_,ew⟩:=gA pr.body i hi;rw[ew] at w1;generalize (PG.aI pr.body 0)[i].2.2=ws at *;generalize (PG.ay pr.body)[i]=st at *;have r0:∀j,j<ws.length->ws.getD j 0=0\/∃i,∃hi:i<(PG.ay pr.body).length,(PG.ay pr.body)[i].row=ws.getD j 0:=fun j hj=>by
  rw[ZX,ZK hj];exact Bx (Wy _ (ZT hj))
 have set:∀(b:W) (z:Int),b∈pr.ar.map (·.name)->(kG pr.ar vals b (z%c0 pr.ar b)).length=pr.ar.length/\∀v∈kG pr.ar vals b (z%c0 pr.ar b),v.natAbs<=2 ^ 12:=fun b z hb=>by
  unfold kG;refine⟨by rw[zbS];exact lv,fun v hv=>?_⟩;rcases List.mem_or_eq_of_mem_set hv with hv |rfl
  ·exact sm v hv
  ·have:=yj d hb;have m1:=zaU z (b:=c0 pr.ar b) (by lia);have m2:=zaJ z (b:=c0 pr.ar b) (by lia);lia
 have cs:cL pr.ar st ws vals=some x->(st.wd=.bO\/st.wd=.ifs\/st.wd=.fZ)->yi pr x.1 x.2:=by
  intro e hw;unfold cL at e;split at e
  ·cases e
  ·split at e
   ·cases e;exact⟨r0 0 w0,lv,sm⟩
   ·split at e
    ·cases e
    ·rename_i nm;cases e;exact⟨r0 1 (w1 (hw.resolve_left nm)),lv,sm⟩
 have rm:∀(y:Int×List Int) (s':Option Int),(some y,s')=(some x,s)->yi pr y.1 y.2->yi pr x.1 x.2:=fun y s' e h=>by cases e;exact h
 cases st<;>rw[PG.qt] at E7
 ·exact rm _ _ h ⟨r0 0 w0,(set _ _ E7).1,(set _ _ E7).2⟩
 ·exact rm _ _ h ⟨r0 0 w0,(set _ _ E7.1).1,(set _ _ E7.1).2⟩
 ·exact rm _ _ h ⟨r0 0 w0,lv,sm⟩
 ·exact cs (congrArg Prod.fst h) (.inl rfl)
 ·exact rm _ _ h ⟨r0 0 w0,lv,sm⟩
 ·exact cs (congrArg Prod.fst h) (.inr (.inl rfl))
 ·exact cs (congrArg Prod.fst h) (.inr (.inr rfl))
section
variable{K:ZI}{H H1:Hp}{p:zcl}{vs:List V}{ds:List Dp}
theorem gT(e:upd H p (.tup vs)=H1)(hp:H p=none):aw H H1:=e▸aw.new hp _
theorem gL(e:upd H p (.lst vs)=H1)(hp:H p=none):aw H H1:=e▸aw.new hp _
theorem Wz(e:upd H p (.tup vs)=H1)(hp:H p=none)(hr:aG K H ds vs):Rep K H1 (.tup ds) (.ref p):=e▸Rep.new hp hr
theorem WA(e:upd H p (.lst vs)=H1)(hp:H p=none)(hr:aG K H ds vs):Rep K H1 (.lst ds) (.ref p):=e▸Rep.QE hp hr
theorem K8(e:upd H p (.lst vs)=H1):H1 p=some (.lst vs):=e▸ao
theorem Tj(e:upd H p (.tup vs)=H1):H1 p=some (.tup vs):=e▸ao
end
theorem WB{K:ZI}{H:Hp}{x:Int}:Rep K H (.int x) (.int x):=Rep.ba.mpr rfl
section
variable{prog:zcx}{w:zcn}
def qA (prog:zcx) (w:zcn) (h:Heap) (x:Key×List Key) (a:zcl):Prop:=∃(o:Obj) (n:Nat) (u:zcm) (b:zcl),h.get? a=some o/\o.cls=.type "tuple"/\o.data=.seq #[u,.ref b] n/\oG x.1 u=true/\IsTupleKey (bG prog w) h x.2 b
theorem qA.ty{s:zcv}{x:Key×List Key}{a:zcl}(h:qA prog w s.heap x a):s.TypeIs (.ref a) "tuple":=let ⟨o,_,_,_,e,c,_⟩:=h;⟨o,e,c⟩
def E8 (w:zcn) (prog:zcx) (x:Key×List Key):Int:=reduceHash (Builtin.Tuple.tupleHashOf [JQ w x.1,tupleKeyHash (bG prog w) x.2])
theorem qA.one{h:Heap}{a:zcl}{x y:Key×List Key}(hx:qA prog w h x a)(hy:qA prog w h y a):x=y:=by
 obtain⟨o,n,u,b,e,_,d,i,t⟩:=hx;obtain⟨o',n',u',b',e',_,d',i',t'⟩:=hy;rw[e] at e';cases e';rw[d] at d'
 injection d' with d1 _
 have d1:=congrArg zce d1;simp only[List.cons.injEq,Value.ref.injEq,and_true] at d1;obtain⟨rfl,rfl⟩:=d1;exact Prod.ext ((bG prog w).inj _ _ _ i i') (t.inj t')
theorem qA.kp{h h':Heap}{x:Key×List Key}{a d:zcl}{o:Obj}{es ep}(hx:qA prog w h x a)(ho:h.get? d=some o)(hd:o.data=.dict es ep)(hs:Heap.SameBut d h h'):qA prog w h' x a:=by
 obtain⟨o',n,u,b,e,c,d',i,t⟩:=hx;have ne:a≠d:=fun z=>by
  rw[z,ho] at e;cases e;rw[hd] at d';cases d'
 exact⟨o',n,u,b,(hs.2 a ne).trans e,c,d',i,t.keeps ho hd hs⟩
variable{A:zcw}{E:zcm->zcv->Prop}{s:zcv}
theorem Ib{x:Key×List Key}{a:zcl}{Q:Int->zcv->Prop}(hu:A.units+8<cLine)(hk:qA prog w s.heap x a)(h:Q (E8 w prog x) {s with toks:=s.toks+(x.2.length+3)}) :
 wpAny (model prog w) A (pyHash (.ref a)) Q E s:=by
 have ty:=hk.ty;obtain⟨o,n,u,b,e,c,d,i,t⟩:=hk;refine PySem.W.pyHash_slot (T:="tuple") ty F.slot_tuple_hash F.entry_tuple_hash (F.args_tuple_hash_1 _) (beq_builtin_none _) (.inr (by lia)) ((show wpAny _ _ (Builtin.Tuple.tupleItemsOf (.ref a) >>= _) _ _ s from ?_));refine zco (wpAny_tupleItemsOf e d (zco ?_));rw[<- zbC];show wpAny _ _ (forIn [u,Value.ref b] #[] _) _ _ s;rw[zap];refine zco (zco ((bG prog w).pyHash i (zcp ?_)));show wpAny _ _ (forIn [Value.ref b] _ _) _ _ _;rw[zap];refine zco (zco (wpAny_pyHash_tuple (ks:=x.2) (by show A.units+1<cLine;lia) (show IsTupleKey (bG prog w) _ x.2 b from t) (zcp ?_)));show wpAny _ _ (forIn ([]:List zcm) _ _) _ _ _;rw[zaZ];refine zcp ?_;show wpAny _ _ (retInt (Builtin.Tuple.tupleHashOf [JQ w x.1,tupleKeyHash (bG prog w) x.2])) _ _ _;refine zco (wpAny_mkInt (zcp ⟨_,_,rfl,?_⟩));rw[show s.toks+(x.2.length+3)=s.toks+1+(x.2.length+1)+1 by lia] at h;exact h
theorem NR{x y:Key×List Key}{a b:zcl}{Q:Bool->zcv->Prop}(hu:A.units+8<cLine)(hx:qA prog w s.heap x a)(hy:qA prog w s.heap y b)(h:Q (decide (x=y)) s):wpAny (model prog w) A (eqBool (.ref a) (.ref b)) Q E s:=by
 unfold eqBool
 try with_reducible refine zcq ?_
 show wpAny _ _ (if (Value.ref a==Value.ref b)=true then _ else _) Q E s;by_cases Jt:(Value.ref a==Value.ref b)=true
 ·rw[if_pos Jt];have e:a=b:=by have:=eq_of_beq Jt;injection this
  subst e;cases hx.one hy;exact zco (wpAny_rule (zcp (by simpa using h)))
 ·rw[if_neg Jt];refine zco (wpAny_richCompare_same_room (op:=.Eq) hx.ty hy.ty F.slot_tuple_eq (wpAny_call_entry F.slot_tuple_eq hx.ty F.entry_tuple_eq ?_ (F.args_tuple_eq_2 _ _)) (by lia));have WC:=hy.ty;obtain⟨o1,n1,u1,b1,e1,c1,d1,i1,t1⟩:=hx;obtain⟨o2,n2,u2,b2,e2,c2,d2,i2,t2⟩:=hy;show wpAny _ _ (isInstance (.ref b) (.type "tuple") >>= _) _ _ s;refine zco (wpAny_isInstance WC isSubtype_tuple_tuple ?_);simp only[zaW,Z2,if_false];refine zco (wpAny_tupleItemsOf e1 d1 (zco (wpAny_tupleItemsOf e2 d2 (zco ?_))));show wpAny _ _ (forIn [(u1,u2),(Value.ref b1,Value.ref b2)] _ _) _ _ s;have fin:∀c:Bool,c=decide (x=y)->∃v,(Fin.done (Flow.ret (Value.bool c)))=Fin.done (Flow.ret v)/\v≠Value.notImplemented/\wpAny (model prog w) A (truthOfDropped v) Q E s:=fun c hc=>⟨_,rfl,(fun z=>nomatch z),wpAny_truthy_bool (hc▸h)⟩
  rw[zap];refine zco (zco ((bG prog w).eqBool (a:=x.1) (b:=y.1) i1 i2 ?_));by_cases k1:x.1=y.1
  ·rw[decide_eq_true k1];simp only[zaW,Z2,if_false];refine zcp ?_;show wpAny _ _ (forIn [(Value.ref b1,Value.ref b2)] _ _) _ _ s;rw[zap];refine zco (zco (wpAny_eqBool_tuple (x:=x.2) (y:=y.2) (by show A.units+1<cLine;lia) t1 t2 ?_));by_cases k2:x.2=y.2
   ·rw[decide_eq_true k2];simp only[zaW,Z2,if_false];refine zcp ?_;show wpAny _ _ (forIn ([]:List (zcm×zcm)) _ _) _ _ s;rw[zaZ];exact zcp (zcp (fin true (decide_eq_true (Prod.ext k1 k2)).symm))
   ·rw[decide_eq_false k2];simp only[Bool.not_false,if_true];exact zco (zcp (zcp (zcp (zcp (fin false (decide_eq_false fun z=>k2 (congrArg Prod.snd z)).symm)))))
  ·rw[decide_eq_false k1];simp only[Bool.not_false,if_true];exact zco (zcp (zcp (zcp (zcp (fin false (decide_eq_false fun z=>k1 (congrArg Prod.fst z)).symm)))))
theorem An(m:Nat){l:List Key}{b:zcl}{Q:Bool->zcv->Prop}(hk:IsTupleKey (bG prog w) s.heap l b)(h:Q true s):wpAny (model prog w) A (eqIsQuiet (m+1) (.ref b)) Q E s:=by
 have ty:=hk.typeIs;obtain⟨o,a0,n,e,_,d,hi⟩:=hk;unfold eqIsQuiet;refine zco (wpAny_specialOf ty F.slot_tuple_eq.lookup ((show wpAny _ _ (isInstance (.ref b) (.type "tuple") >>= _) _ _ s from ?_)));refine zco (wpAny_isInstance ty isSubtype_tuple_tuple ?_);simp only[zaW,Z2,if_false];refine zco (wpAny_seqItems e d (zco ((show wpAny _ _ (forIn a0 _ _) _ _ s from ?_))));rw[<- zbC];have all:=hi.byValue;generalize a0.toList=vs at all;refine wpAny_forIn_list _ (fun r (c:Option Bool×Unit) s'=>c.1=none/\s'=s/\∀v∈r,carriedByValue v=true) _ (fun v r c s' hv=>?_) (fun c s' hv=>?_) _ _ ⟨rfl,rfl,all⟩
 ·obtain⟨_,rfl,hv⟩:=hv;rw[eqIsQuiet_byValue _ (hv v (Z0 ..))];refine zco (zcp ?_);simp only[zaW,Z2,if_false];exact zcp ⟨rfl,rfl,fun z hz=>hv z (ZV _ hz)⟩
 ·obtain⟨c1,c2⟩:=c;obtain⟨hc,rfl,_⟩:=hv;cases (show c1=none from hc);exact zcp h
theorem E9{x:Key×List Key}{a:zcl}{Q:Bool->zcv->Prop}(hk:qA prog w s.heap x a)(h:Q true s):wpAny (model prog w) A (eqIsQuiet 8 (.ref a)) Q E s:=by
 have ty:=hk.ty;obtain⟨o,n,u,b,e,c,d,i,t⟩:=hk;unfold eqIsQuiet;refine zco (wpAny_specialOf ty F.slot_tuple_eq.lookup ((show wpAny _ _ (isInstance (.ref a) (.type "tuple") >>= _) _ _ s from ?_)));refine zco (wpAny_isInstance ty isSubtype_tuple_tuple ?_);simp only[zaW,Z2,if_false];refine zco (wpAny_seqItems e d (zco ?_));have key:∀ {z:zcm} {k:Key} {m:Nat},oG k z=true->eqIsQuiet m z=pure true:=fun {z k m} hz=>eqIsQuiet_byValue m ((bG prog w).byValue k z hz);show wpAny _ _ (forIn #[u,Value.ref b] _ _) _ _ s;rw[<- zbC];show wpAny _ _ (forIn [u,Value.ref b] _ _) _ _ s;rw[zap,key i];refine zco (zco (zcp ?_));simp only[zaW,Z2,if_false];refine zcp ?_;show wpAny _ _ (forIn [Value.ref b] _ _) _ _ s;rw[zap];refine zco (zco (An 6 t ?_));simp only[zaW,Z2,if_false];refine zcp ?_;show wpAny _ _ (forIn ([]:List zcm) _ _) _ _ s;rw[zaZ];exact zcp (zcp h)
end
def K9 (prog:zcx) (w:zcn):HeapKind prog w (Key×List Key) where
 is:=qA prog w
 hash:=E8 w prog
 draws:=fun x=>x.2.length+3
 room:=fun A=>A.units+8<cLine
 inj:=fun hx hy=>hx.one hy
 keeps:=fun hx ho hd hs=>hx.kp ho hd hs
 pyHash:=fun hu hk h=>Ib hu hk h
 eqBool:=fun hu hx hy h=>NR hu hx hy h
 quiet:=fun hk h=>E9 hk h
def tN (b:Bool):Int:=if b then 1 else 0
theorem Ld{a b:Bool}:(tN a==tN b)=(a==b):=by cases a<;>cases b<;>rfl
structure KH(κ:Type)[DecidableEq κ] where
 knd:∀(P:zcx) (w:zcn),HeapKind P w κ
 on:ZI->Hp->κ->zcl->Prop
 up:∀ {K:ZI} {H H':Hp} {x:κ} {a:zcl},(∀b ys,dq K H b ys->dq K H' b ys)->on K H x a->on K H' x a
 of:∀ {X:Cx} {pins:List (zcl×Obj)} {σ:St} {H:Hp} {s:zcv} {x:κ} {a:zcl},Inv X pins σ H s->on X.K H x a->(knd X.prog X.w).is s.heap x a
 room:∀ {P:zcx} {w:zcn} {A:zcw},A.units+16<cLine->(knd P w).room A.in1
section
variable{κ:Type}[DecidableEq κ](J:KH κ)
def jh (P:zcx) (w:zcn) (a:zcl) (xs:List (κ×zcl×zcm)):Heap->Prop:=fun h=>∃o es ep,h.get? a=some o/\o.ExactDict/\o.data=.dict es ep/\es.toList=xs.map (entryOfKey (J.knd P w))
abbrev KS (K:ZI) (H:Hp):List (κ×V)->List (κ×zcl×zcm)->Prop:=Paired fun p q=>p.1=q.1/\J.on K H p.1 q.2.1/\RelV p.2 q.2.2
structure DS(P:zcx)(w:zcn)(K:ZI)(H:Hp)(a:zcl)(kvs:List (κ×V)):Prop where
 len:kvs.length<=zct
 sys:(a==sysModules)=false
 at_:∃xs,H a=some (.ext (jh J P w a xs))/\KS J K H kvs xs/\(xs.map (·.1)).Nodup
variable{J}
section
variable{K:ZI}{H H':Hp}{kvs:List (κ×V)}{xs:List (κ×zcl×zcm)}
theorem KS.val(r:KS J K H kvs xs)(k:κ):k0 (b5 kvs k) ((atKey xs k).map (·.2)):=by
 induction r with
 |nil=>exact True.intro
 |@cons p q ps qs h t ih=>
  by_cases e:p.1=k
  ·rw[b6 e,show atKey (q::qs) k=some q.2 by simp[atKey,h.1.symm.trans e]];exact h.2.2
  ·have e':¬q.1=k:=fun z=>e (h.1.trans z);rw[bY e,show atKey (q::qs) k=atKey qs k by simp[atKey,e']];exact ih
theorem KS.put(r:KS J K H kvs xs)(k:κ){b:zcl}{y:V}{u:zcm}(hb:J.on K H k b)(ry:RelV y u):KS J K H (putK kvs k y) (storedH xs k b u):=by
 have e:(kvs.any fun kv=>decide (kv.1=k))=(atKey xs k).isSome:=by rw[jb,(r.val k).mn,zbj]
 unfold putK storedH;rw[e];by_cases q:(atKey xs k).isSome=true
 ·rw[if_pos q,if_pos q];clear e q
  induction r with
  |nil=>exact .nil
  |@cons p q ps qs h t ih=>
   refine .cons ?_ ih;dsimp only;unfold putAt;by_cases e:p.1=k
   ·rw[if_pos e];rw[if_pos (h.1.symm.trans e)];exact⟨h.1,h.2.1,ry⟩
   ·rw[if_neg e];rw[if_neg fun z=>e (h.1.trans z)];exact h
 ·rw[if_neg q,if_neg q];exact Paired.snoc r ⟨rfl,hb,ry⟩
theorem KS.up(r:KS J K H kvs xs)(t:∀b ys,dq K H b ys->dq K H' b ys):KS J K H' kvs xs:=Paired.Dn r fun _ _ z=>⟨z.1,J.up t z.2.1,z.2.2⟩
end
section
variable{X:Cx}{pins:List (zcl×Obj)}{σ:St}{H:Hp}{s:zcv}{a b:zcl}{v:V}{u r:zcm}{A:zcw}{E:zcm->zcv->Prop}{kvs:List (κ×V)}{k:κ}
theorem yk(I:Inv X pins σ H s){xs:List (κ×zcl×zcm)}(e:H a=some (.ext (jh J X.prog X.w a xs)))(r:KS J X.K H kvs xs)(nd:(xs.map (·.1)).Nodup):s.heap.DictOfH (J.knd X.prog X.w) a xs:=by
 obtain⟨⟨o,es,ep,h1,h2,h3,h4⟩, -⟩:=(show cJ X.prog X.w H s.heap a (.ext (jh J X.prog X.w a xs)) from I.dg a _ e)
 refine⟨o,es,ep,h1,h2,h3,h4,?_,nd⟩;clear h4 nd e
 induction r with
 |nil=>intro x hx;cases hx
 |@cons p q ps qs hq t ih=>
  intro x hx;rcases ZS.mp hx with rfl |hx
  ·exact J.of I (hq.1▸hq.2.1)
  ·exact ih x hx
theorem NS{Q:zcm->zcv->Prop}(hu:A.units+16<cLine)(I:Inv X pins σ H s)(d:DS J X.prog X.w X.K H a kvs)(hk:J.on X.K H k b)(h:∀s',Inv X pins σ H s'->Q (.bool (b5 kvs k).isSome) s') :
 wpAny (model X.prog X.w) A (compareOp .In (.ref b) (.ref a)) Q E s:=by
 obtain⟨z,sy,xs,e,r,nd⟩:=d;refine wpAny_in_heap (knd:=J.knd X.prog X.w) (J.room hu) (J.of I hk) sy (yk I e r nd) ?_;have q:=(r.val k).mn;rw[zbj] at q;rw[<- q];exact h _ (I.tok _)
theorem Fb{Q:zcm->zcv->Prop}(hu:A.units+16<cLine)(I:Inv X pins σ H s)(d:DS J X.prog X.w X.K H a kvs)(hk:J.on X.K H k b)(h:∀s',Inv X pins σ H s'->Q (.bool (!(b5 kvs k).isSome)) s') :
 wpAny (model X.prog X.w) A (compareOp .NotIn (.ref b) (.ref a)) Q E s:=by
 obtain⟨z,sy,xs,e,r,nd⟩:=d;refine PyProof.Rows.wpAny_notIn_heap (knd:=J.knd X.prog X.w) (J.room hu) (J.of I hk) sy (yk I e r nd) ?_;have q:=(r.val k).mn;rw[zbj] at q;rw[<- q];exact h _ (I.tok _)
theorem Lg{Q:zcm->zcv->Prop}(hu:A.units+16<cLine)(I:Inv X pins σ H s)(d:DS J X.prog X.w X.K H a kvs)(hk:J.on X.K H k b)(l:b5 kvs k=some v)(h:∀w' s',Inv X pins σ H s'->RelV v w'->Q w' s') :
 wpAny (model X.prog X.w) A (getItem (.ref a) (.ref b)) Q E s:=by
 obtain⟨z,sy,xs,e,r,nd⟩:=d;obtain⟨w',hw,zW⟩:=k0.some_of (v:=v) (o:=(atKey xs k).map (·.2)) (by rw[<- l];exact r.val k);obtain⟨p,hp,qe⟩:=zaI.mp hw;refine wpAny_getItem_heap (knd:=J.knd X.prog X.w) (J.room hu) (J.of I hk) (yk I e r nd) hp ?_;rw[qe];exact h w' _ (I.tok _) zW
theorem dq.ext{K:ZI}{H:Hp}{a c:zcl}{φ:Heap->Prop}{o:HO}{ys:List V}(h:dq K H c ys)(e:H a=some (.ext φ)):dq K (upd H a o) c ys:=by
 rcases h with (q |⟨o',q⟩) |q
 ·exact .inl (.inl (by rw[aR (bX q e (by intro z;cases z))];exact q))
 ·exact .inl (.inr ⟨o',by rw[aR (bX q e (by intro z;cases z))];exact q⟩)
 ·exact .inr q
theorem Lh{Q:Unit->zcv->Prop}(hu:A.units+16<cLine)(I:Inv X pins σ H s)(d:DS J X.prog X.w X.K H a kvs)(hk:J.on X.K H k b)(l:kvs.length<zct)(rv:RelV v r)
 (h:∀s' H',Inv X pins σ H' s'->DS J X.prog X.w X.K H' a (putK kvs k v)->(∃φ,H'=upd H a (.ext φ))->Q () s') :
 wpAny (model X.prog X.w) A (setItem (.ref a) (.ref b) r) Q E s:=by
 obtain⟨z,sy,xs,e,rel,nd⟩:=d;have hz:xs.length<=zct:=by rw[<- Paired.length rel];exact z
 have hl:(putK kvs k v).length<=zct:=by have:=gZ kvs k v;lia
 refine wpAny_setItem_heap (knd:=J.knd X.prog X.w) (hsz:=hz) (J.room hu) (J.of I hk) (yk I e rel nd) fun h' L6 hs=>?_;obtain⟨q,es,ep,hq,h2,h3,h4,_,h5⟩:=L6;have ph:jh J X.prog X.w a (storedH xs k b r) h':=⟨q,es,ep,hq,h2,h3,h4⟩
 refine h _ (upd H a (.ext (jh J X.prog X.w a (storedH xs k b r)))) (sr I (by rw[e];exact True.intro) hs ⟨q,hq⟩ ⟨ph,⟨q,hq⟩,fun g1 g2 p1 kp=>?_⟩) ⟨hl,sy,_,ao,(rel.put k hk rv).up fun c ys ec=>ec.ext e,h5⟩ ⟨_,rfl⟩;obtain⟨o,es,ep,h1,h2,h3,h4⟩:=p1;exact⟨o,es,ep,kp o h1,h2,h3,h4⟩
end
theorem DS.Q6{P:zcx}{w:zcn}{K:ZI}{H H':Hp}{a:zcl}{kvs:List (κ×V)}(d:DS J P w K H a kvs)(e:∀o,H a=some o->H' a=some o)(t:∀b ys,dq K H b ys->dq K H' b ys):DS J P w K H' a kvs:=⟨d.len,d.sys,let ⟨xs,h,r,nd⟩:=d.at_;⟨xs,e _ h,r.up t,nd⟩⟩
theorem DS.mono{P:zcx}{w:zcn}{K:ZI}{H H':Hp}{a:zcl}{kvs:List (κ×V)}(d:DS J P w K H a kvs)(s:aw H H'):DS J P w K H' a kvs:=d.Q6 (fun o h=>s _ _ h) fun b ys q=>s.bB q
section
variable{X:Cx}{o i value:Expr}{pos pos':Pos}{td ty tv:TE}
def Ao (J:KH κ) (P:zcx) (w:zcn):TE:=fun _ H Q=>∀p,H p=none->(p==sysModules)=false->Q (.ref p) (upd H p (.ext (jh J P w p [])))
theorem Fc{P:zcx}{w:zcn}{K:ZI}{H:Hp}{p:zcl}(h:(p==sysModules)=false):DS J P w K (upd H p (.ext (jh J P w p []))) p []:=⟨zac _,h,[],ao,.nil,zb6⟩
theorem ym:PE X (.Dict [] [] pos) (Ao J X.prog X.w):=fun pins s σ H Q I h=>by
 have big:=I.big;refine wpAny_Dict_empty ⟨.ref s.heap.objs.size,_,I.laid (a:=s.heap.objs.size) (o:=.ext (jh J X.prog X.w s.heap.objs.size [])) (t':=s.toks) (fun _ _ q=>Heap.get?_push_of_some _ q) (ZQ _) ⟨⟨_, #[],0,Heap.get?_push_size _ rfl,⟨rfl,rfl,rfl⟩,rfl,rfl⟩,⟨_,Heap.get?_push_size _ rfl⟩,fun g1 g2 p1 kp=>?_⟩,rfl,h _ (I.dg.fresh (ZQ _)) (beq_eq_false_iff_ne.mpr (Ne.symm (Z3 big)))⟩;obtain⟨ob,es,ep,h1,h2,h3,h4⟩:=p1;exact⟨ob,es,ep,kp ob h1,h2,h3,h4⟩
theorem Fd(hu:X.A.units+16<cLine):oF X (compareOp .In) (fun x y H Q=>∃(a b:zcl) (kvs:List (κ×V)) (k:κ),x=.ref b/\y=.ref a/\DS J X.prog X.w X.K H a kvs/\J.on X.K H k b/\Q (.bl (b5 kvs k).isSome) H):=by
 intro pins s σ H x y v u Q I rx ry h;obtain⟨a,b,kvs,k,rfl,rfl,d,hk,q⟩:=h;cases rx;cases ry;exact NS hu I d hk fun s' I'=>⟨.bl (b5 kvs k).isSome,H,I',rfl,q⟩
theorem vB(hu:X.A.units+16<cLine):oF X (compareOp .NotIn) (fun x y H Q=>∃(a b:zcl) (kvs:List (κ×V)) (k:κ),x=.ref b/\y=.ref a/\DS J X.prog X.w X.K H a kvs/\J.on X.K H k b/\Q (.bl (!(b5 kvs k).isSome)) H):=by
 intro pins s σ H x y v u Q I rx ry h;obtain⟨a,b,kvs,k,rfl,rfl,d,hk,q⟩:=h;cases rx;cases ry;exact Fb hu I d hk fun s' I'=>⟨.bl (!(b5 kvs k).isSome),H,I',rfl,q⟩
def Ap (J:KH κ) (P:zcx) (w:zcn) (K:ZI) (td ty tv:TE):TS:=fun D σ H=>tv σ H fun v H1=>td σ H1 fun x H2=>ty σ H2 fun y H3=>∃(a b:zcl) (kvs:List (κ×V)) (k:κ),x=.ref a/\y=.ref b/\DS J P w K H3 a kvs/\J.on K H3 k b/\kvs.length<zct/\
 ∀H4,DS J P w K H4 a (putK kvs k v)->(∃φ,H4=upd H3 a (.ext φ))->D.nx σ H4
theorem tG(hu:X.A.units+16<cLine)(ho:PE X o td)(hi:PE X i ty)(hv:PE X value tv)(hs:swapsWith value (some (.Subscript o i pos')) pos.line X.env=pure false):PS X (.Assign [.Subscript o i pos'] value pos) (Ap J X.prog X.w X.K td ty tv):=by
 intro pins s σ H D I h;refine wpAny_Assign_Subscript (eP (hv pins s σ H _ I h) fun r s1 zqz=>?_) hs;obtain⟨v,H1,I1,rv,q1⟩:=zqz;refine eP (ho pins s1 σ H1 _ I1 q1) fun u s2 zqz=>?_;obtain⟨x,H2,I2,rx,q2⟩:=zqz;refine eP (hi pins s2 σ H2 _ I2 q2) fun iv s3 zqz=>?_;obtain⟨y,H3,I3,ry,a,b,kvs,k,ex,ey,d,hk,l,q3⟩:=zqz;subst ex ey;cases rx;cases ry;exact Lh hu I3 d hk l rv fun s4 H4 I4 d4 e4=>⟨σ,H4,I4,q3 H4 d4 e4⟩
def Aq (J:KH κ) (P:zcx) (w:zcn) (K:ZI) (td ty:TE):TE:=fun σ H Q=>td σ H fun x H1=>ty σ H1 fun y H2=>∃(a b:zcl) (kvs:List (κ×V)) (k:κ) (v:V),x=.ref a/\y=.ref b/\DS J P w K H2 a kvs/\J.on K H2 k b/\b5 kvs k=some v/\Q v H2
theorem Fe(hu:X.A.units+16<cLine)(ho:PE X o td)(hi:PE X i ty)(hs:Kz i):PE X (.Subscript o i pos) (Aq J X.prog X.w X.K td ty):=by
 intro pins s σ H Q I h;refine A9 PySem.F.slot_dict_getitem.lookup hs (eP (ho pins s σ H _ I h) fun u s1 zqz=>?_);obtain⟨x,H1,I1,rx,q1⟩:=zqz;refine eP (hi pins s1 σ H1 _ I1 q1) fun iv s2 zqz=>?_;obtain⟨y,H2,I2,ry,a,b,kvs,k,v,ex,ey,d,hk,l,q2⟩:=zqz;subst ex ey;cases rx;cases ry;have dd:=d;obtain⟨z,sy,xs,e,r,nd⟩:=dd;exact⟨(yk I2 e r nd).typeIs,Lg hu I2 d hk l fun w' s3 I3 zW=>⟨v,H2,I3,zW,q2⟩⟩
end
end
abbrev wB:=Key×List Key
def WD (K:ZI) (H:Hp) (x:wB) (a:zcl):Prop:=∃b,dq K H a [kV x.1,.ref b]/\dq K H b (x.2.map kV)
def qf:KH wB where
 knd:=K9
 on:=WD
 up:=fun t ⟨b,h1,h2⟩=>⟨b,t _ _ h1,t _ _ h2⟩
 of:=fun {X pins σ H s x a} I ⟨c,h1,h2⟩=>by
  obtain⟨i1,r1,⟨o1,e1,c1,n1,d1⟩,_⟩:=I.tuple h1;obtain⟨i2,r2,⟨o2,e2,c2,n2,d2⟩,_⟩:=I.tuple h2;obtain⟨u1,u2,rfl,q1,q2⟩:=vals2 r1;cases (show u2=Value.ref c from q2);exact⟨o1,n1,u1,c,e1,c1,d1,vn (P:=X.prog) (w:=X.w) q1,o2,i2.toArray,n2,e2,c2,d2,by simpa using qm r2⟩
 room:=fun {P w A} h=>by show A.units+1+8<cLine;lia
def yn (h:Heap) (d:zcl) (es:Array DictEntry) (ep:Nat):Prop:=∃o,h.get? d=some o/\o.ExactDict/\o.data=.dict es ep
section
variable{prog:zcx}{w:zcn}{A:zcw}{E:zcm->zcv->Prop}{s:zcv}{d it:zcl}{es:Array DictEntry}{ep i:Nat}
theorem yn.ty(x:yn s.heap d es ep):s.TypeIs (.ref d) "dict":=let ⟨o,g,c,_⟩:=x;⟨o,g,c.1⟩
theorem Ff{Q:zcm->zcv->Prop}(hd:(d==sysModules)=false)(x:yn s.heap d es ep)
 (q:Q (.ref s.heap.objs.size) {s with heap:=s.heap.push {cls:=.type "dict_keyiterator",data:=.fields #[.ref d,.int 0 0,.int es.size 0,.int ep 0]} }):wpAny (model prog w) A (pyIter (.ref d)) Q E s:=by
 have Q7:=x.ty;obtain⟨od,gd,cd,dd⟩:=x;refine wpAny_pyIter_slot Q7 F.slot_dict_iter (wpAny_call_entry F.slot_dict_iter Q7 F.entry_dict_iter ?_ (F.args_dict_iter_1 _));unfold Builtin.«dict.__iter__» Builtin.Dict.dictSlotNone;refine zco (zco (wpAny_notOrdered_dict Q7 ?_));show wpAny _ _ (pure (Value.ref d)) _ _ s;refine zcp ?_;show wpAny _ _ (Builtin.Dict.showsAll d >>= _) _ _ s;unfold Builtin.Dict.showsAll;rw[if_neg (by rw[hd];exact ZM)];refine zco (zcp (zco (wpAny_dictEntries gd dd (zco (wpAny_dictEpoch gd dd ?_)))));refine zco (wpAny_newObj_type (zcp ⟨_,rfl, "dict_keyiterator",_,⟨_,Heap.get?_push_size _ rfl,rfl⟩,F.slot_dict_keyiterator_next.lookup,?_⟩));simpa[rawInt] using q
theorem Fg{Q:Option zcm->zcv->Prop}(x:s.heap.IsKeyIter it d i es.size ep)(y:yn s.heap d es ep)(li:i<es.size)
 (q:∀h',h'.IsKeyIter it d (i+1) es.size ep->Heap.SameBut it s.heap h'->Q (some es[i].key) {s with heap:=h' }):wpAny (model prog w) A (pyNext (.ref it)) Q E s:=by
 have GB:=x.typeIs;obtain⟨oi,gi,ci,di⟩:=id x;obtain⟨od,gd,_,dd⟩:=id y;have ow:Builtin.Dict_items.ownsTuple "dict_keyiterator"=false:=by decide
 unfold pyNext;refine zco (wpAny_attempt (wpAny_callSpecial?_slot (name:=ZJ "__next__") GB F.slot_dict_keyiterator_next (wpAny_call_entry F.slot_dict_keyiterator_next GB F.entry_dict_keyiterator_next ?_ (F.args_dict_keyiterator_next_1 _))));refine zco (zcp (zco (zco ?_)));refine zco (wpAny_typeNameOfWhole_keyiter GB (zcp (zco (wpAny_fieldsOf gi di ?_))));simp only[ow,Z2,if_false];show wpAny _ _ (if (Value.ref d==Value.none)=true then _ else _) _ _ s;rw[if_neg (show ¬((Value.ref d==Value.none)=true) from ZM)];refine zco (zcp (zco (wpAny_dictEntries gd dd ?_)));rw[if_neg (by simp)];refine zco (zcp (zco (wpAny_dictEpoch gd dd ?_)));rw[if_neg (by simp)];refine zcp ?_;simp only[show ¬((i:Int)<0) from by lia,if_false,zaa,zbG li];refine zco (zco (wpAny_typeNameOfWhole_keyiter GB (zcp (zco (wpAny_isOneOf_keyiter GB ?_)))));show wpAny _ _ (setField (.ref it) 1 (rawInt ((i:Int)+1)) >>= _) _ _ s;refine zco (wpAny_setField gi di (by simp) ?_);have z:(s.heap.update it (Obj.mapFields (·.setIfInBounds 1 (rawInt ((i:Int)+1))))).IsKeyIter it d (i+1) es.size ep:=
  ⟨_,Heap.get?_update_self _ gi (Obj.isFreed_of_fields (Obj.data_mapFields di _)),(Obj.cls_mapFields ..).trans ci,by rw[Obj.data_mapFields di];simp[rawInt]⟩
 refine zco (zcq (zco (wpAny_isOneOf_keyiter (s:={s with heap:=s.heap.update it (Obj.mapFields (·.setIfInBounds 1 (rawInt ((i:Int)+1))))}) z.typeIs ?_)));show wpAny _ _ (pure es[i].key) _ _ _;exact zcp (zcp ⟨_,rfl,zcp (q _ z (Heap.SameBut.update ..))⟩)
theorem Ic{Q:Option zcm->zcv->Prop}(hA:A.handled=none)(x:s.heap.IsKeyIter it d i es.size ep)(y:yn s.heap d es ep)(li:es.size<=i)
 (q:∀h',Heap.ExtBut it s.heap h'->Q none {s with heap:=h' }):wpAny (model prog w) A (pyNext (.ref it)) Q E s:=by
 have GB:=x.typeIs;obtain⟨oi,gi,ci,di⟩:=id x;obtain⟨od,gd,_,dd⟩:=id y;have ow:Builtin.Dict_items.ownsTuple "dict_keyiterator"=false:=by decide
 unfold pyNext;refine zco (wpAny_attempt (wpAny_callSpecial?_slot (name:=ZJ "__next__") GB F.slot_dict_keyiterator_next (wpAny_call_entry F.slot_dict_keyiterator_next GB F.entry_dict_keyiterator_next ?_ (F.args_dict_keyiterator_next_1 _))));refine zco (zcp (zco (zco ?_)));refine zco (wpAny_typeNameOfWhole_keyiter GB (zcp (zco (wpAny_fieldsOf gi di ?_))));simp only[ow,Z2,if_false];show wpAny _ _ (if (Value.ref d==Value.none)=true then _ else _) _ _ s;rw[if_neg (show ¬((Value.ref d==Value.none)=true) from ZM)];refine zco (zcp (zco (wpAny_dictEntries gd dd ?_)));rw[if_neg (by simp)];refine zco (zcp (zco (wpAny_dictEpoch gd dd ?_)));rw[if_neg (by simp)];refine zcp ?_;simp only[show ¬((i:Int)<0) from by lia,if_false,zaa,Array.getElem?_eq_none li];refine zco (zco (wpAny_typeNameOfWhole_keyiter GB (zcp ?_)));show wpAny _ _ (setField (.ref it) 0 .none >>= _) _ _ s;refine zco (wpAny_setField gi di (by simp) ?_);show wpAny _ _ (newExc (.type "StopIteration") [] >>= _) _ _ _;refine zco ?_;simp only[newExc,newTuple];refine zco (wpAny_newObj_type (zco (m:=firstArgMember _ _) (wpAny_of_eq (a:=Value.none) (by first |rfl |(simp only[firstArgMember];rfl)) (wpAny_newObj_type ?_ (by size_fits)))) (by size_fits));simp only[raiseNew];refine zco (wpAny_handled ?_);rw[show A.in1.handled=none from hA];refine zco (zcp (wpAny_throw (zco ?_)));refine wpAny_isInstance (T:="StopIteration") (b:=true) ⟨_,Heap.get?_push_size _ rfl,rfl⟩ isSubtype_stop ?_;exact zcp (q _ (((Heap.SameBut.update ..).extBut.push _).push _))
end
end L2
namespace PG
section
variable{β:Type}(ask:Int->Bool)(step:Int->List Int->Int->Option (Int×List Int)×Option Int)(tg:Int×List Int->List β)
abbrev b3:=Int×List Int
def Co (x:b3×List Int):Option (b3×List Int):=if x.1.1=0 then none else match take1 (ask x.1.1) x.2 with
 |none=>none
 |some (f,r)=>(step x.1.1 x.1.2 f).1.map fun y=>(y,r)
inductive Met:b3×List Int->β->Prop
 |here {s t}:t∈tg s.1->Met s t
 |on {s s' t}:Co ask step s=some s'->Met s' t->Met s t
variable{ask step tg}
theorem vC{s:b3}{l:List Int}(h0:s.1≠0)(ha:ask s.1=false):Co ask step (s,l)=(step s.1 s.2 0).1.map fun y=>(y,l):=by
 unfold Co;rw[if_neg h0];simp only[take1,ha,Z2,if_false]
theorem Fh{s:b3}{l:List Int}(h0:s.1=0):Co ask step (s,l)=none:=by
 unfold Co;rw[if_pos h0]
structure MI(ask:Int->Bool)(step:Int->List Int->Int->Option (Int×List Int)×Option Int)(tg:Int×List Int->List β)(s0:b3×List Int)(ms:List β)(seen:List b3)(s:b3×List Int):Prop where
 a:∀t,Met ask step tg s0 t->t∈ms\/Met ask step tg s t
 b:∀t∈ms,Met ask step tg s0 t
 c:∀t,Met ask step tg s t->Met ask step tg s0 t
 d:∀x∈seen,(∀t∈tg x,t∈ms)/\x.1≠0/\ask x.1=false/\∀y,(step x.1 x.2 0).1=some y->y∈seen\/y=s.1
variable{s0 s s':b3×List Int}{ms Q8:List β}{seen:List b3}
theorem MI.next(h:MI ask step tg s0 ms seen s)(hm:∀t,t∈Q8↔t∈ms\/t∈tg s.1)(hn:Co ask step s=some s'\/Co ask step s=none/\s'=s) :
 (∀t,Met ask step tg s0 t->t∈Q8\/Met ask step tg s' t)/\(∀t∈Q8,Met ask step tg s0 t)/\∀t,Met ask step tg s' t->Met ask step tg s0 t:=by
 refine⟨fun t m=>?_,fun t m=>?_,fun t m=>?_⟩
 ·rw[hm];rcases h.a t m with z |z
  ·exact .inl (.inl z)
  ·rcases hn with hn |⟨hn,rfl⟩
   ·cases z with
    |here z=>exact .inl (.inr z)
    |on e z=>rw[hn] at e;cases e;exact .inr z
   ·exact .inr z
 ·rcases(hm t).mp m with z |z
  ·exact h.b t z
  ·exact h.c t (.here z)
 ·rcases hn with hn |⟨hn,rfl⟩
  ·exact h.c t (.on hn m)
  ·exact h.c t m
structure Seg(ask:Int->Bool)(step:Int->List Int->Int->Option (Int×List Int)×Option Int)(s:b3)(g:List b3):Prop where
 head:g[0]?=some s
 mid:∀i (h:i+1<g.length),g[i].1≠0/\ask g[i].1=false/\(step g[i].1 g[i].2 0).1=some g[i+1]
 last:∀x,g.getLast?=some x->x.1=0\/ask x.1=true\/(step x.1 x.2 0).1=none\/∃y∈g,(step x.1 x.2 0).1=some y
section
variable{s:b3}{g:List b3}{l:List Int}
theorem Seg.nx(h:Seg ask step s g)(i:Nat)(hi:i+1<g.length):Co ask step (g[i],l)=some (g[i+1],l):=by
 obtain⟨h0,ha,e⟩:=h.mid i hi;rw[vC h0 ha,e];rfl
theorem Seg.all(h:Seg ask step s g){t:β}(m:Met ask step tg (s,l) t):(∃x∈g,t∈tg x)\/∃x s',g.getLast?=some x/\x.1≠0/\ask x.1=true/\Co ask step (x,l)=some s'/\Met ask step tg s' t:=by
 have key:∀s' t,Met ask step tg s' t->s'.2=l->s'.1∈g->(∃x∈g,t∈tg x)\/∃x s',g.getLast?=some x/\x.1≠0/\ask x.1=true/\Co ask step (x,l)=some s'/\Met ask step tg s' t:=by
  intro s' t m
  induction m with
  |here m=>exact fun _ q=>.inl ⟨_,q,m⟩
  |@on a b t e mm ih=>
   intro el q;obtain⟨a1,a2⟩:=a;simp only at el q;subst el;obtain⟨i,hi,rfl⟩:=zaX.mp q;by_cases hl:i+1<g.length
   ·rw[h.nx i hl] at e;cases e;exact ih rfl (ZT hl)
   ·have ei:g.length-1=i:=by lia
    have hx:g.getLast?=some g[i]:=by rw[List.getLast?_eq_getElem?,ei,ZK hi]
    by_cases h0:g[i].1=0
    ·rw[Fh h0] at e;cases e
    cases ha:ask g[i].1 with
    |true=>exact .inr ⟨_,_,hx,h0,ha,e,mm⟩
    |false=>
     rw[vC h0 ha] at e;rcases h.last _ hx with z |z |z |⟨y,hy,z⟩
     ·exact absurd z h0
     ·rw[ha] at z;cases z
     ·rw[z] at e;cases e
     ·rw[z] at e;cases e;exact ih rfl hy
 refine key _ _ m rfl ?_;exact List.mem_iff_getElem?.mpr ⟨0,h.head⟩
end
structure TI(ask:Int->Bool)(step:Int->List Int->Int->Option (Int×List Int)×Option Int)(s:b3)(g:List b3)(o:Option b3):Prop where
 nil:g=[]->o=some s
 head:g≠[]->g[0]?=some s
 mid:∀i (h:i+1<g.length),g[i].1≠0/\ask g[i].1=false/\(step g[i].1 g[i].2 0).1=some g[i+1]
 last:∀x,g.getLast?=some x->x.1≠0/\ask x.1=false/\(step x.1 x.2 0).1=o
end
theorem vD{α:Type}[DecidableEq α]:∀(xs ys:List α),xs.Nodup->(∀x∈xs,x∈ys)->xs.length<=ys.length
 |[],ys,_,_=>zac _
 |x::r,ys,h,q=>by
  obtain⟨nx,nr⟩:=za6.mp h;have hx:=q x (Z0 ..);have:=vD r (ys.erase x) nr fun y hy=>(List.mem_erase_of_ne (fun e:y=x=>nx (e▸hy))).mpr (q y (ZV _ hy));have l:=List.length_erase_of_mem hx;have p:=List.length_pos_of_mem hx;simp only[ZN];lia
def qB:List Int->List (List Int)
 |[]=>[[]]
 |s::r=>(zaq s.toNat).flatMap fun (v:Nat)=>(qB r).map fun t=>((v:Int)::t)
def mE:List Int->List Int->Prop
 |[],[]=>True
 |s::r,v::t=>(0<=v/\v<s)/\mE r t
 |[],_::_=>False
 |_::_,[]=>False
theorem mE.mem:∀ {ss vs:List Int},mE ss vs->vs∈qB ss
 |[],[],_=>by simp[qB]
 |s::r,v::t,h=>by
  rw[mE] at h;simp only[qB,List.mem_flatMap,List.mem_range,zav];exact⟨v.toNat,by lia,t,h.2.mem,by rw[zcc h.1.1]⟩
 |[],v::t,h=>by rw[mE] at h;exact h.elim
 |s::r,[],h=>by rw[mE] at h;exact h.elim
theorem mE.set:∀ {ss vs:List Int} (i:Nat) (v:Int),mE ss vs->(∀s,ss[i]?=some s->0<=v/\v<s)->mE ss (vs.set i v)
 |[],[],i,v,h,_=>h
 |s::r,u::t,0,v,h,q=>by
  rw[mE] at h;rw[List.set_cons_zero,mE];exact⟨q s rfl,h.2⟩
 |s::r,u::t,i+1,v,h,q=>by
  rw[mE] at h;rw[List.set_cons_succ,mE];exact⟨h.1,h.2.set i v fun z hz=>q z (by simpa using hz)⟩
 |[],u::t,i,v,h,q=>by rw[mE] at h;exact h.elim
 |s::r,[],i,v,h,q=>by rw[mE] at h;exact h.elim
def univ (rows ss:List Int):List b3:=(0::rows).flatMap fun r=>(qB ss).map fun v=>(r,v)
theorem Fi{rows ss:List Int}{s:b3}(h:s.1=0\/s.1∈rows)(q:mE ss s.2):s∈univ rows ss:=by
 simp only[univ,List.mem_flatMap,zav,ZS];exact⟨s.1,h,s.2,q.mem,rfl⟩
theorem Fj(rows ss:List Int):(univ rows ss).length=(rows.length+1)*(qB ss).length:=by
 have k:∀l:List Int,(l.flatMap fun r=>(qB ss).map fun v=>((r,v):b3)).length=l.length*(qB ss).length:=fun l=>by
  induction l with
  |nil=>simp
  |cons a r ih=>rw[List.flatMap_cons,ZP,ih];simp[Nat.succ_mul,Nat.add_comm]
 rw[univ,k];simp
end PG
namespace L2
open PySem
def FH (K:ZI) (x:Str) (st:Stmt) (f:zcl):Prop:=zai K zcs x=some (some (.ref f))/\∃fd,Df K x x st f fd
theorem FH.of{K:ZI}{x:Str}{st:Stmt}{f:zcl}{oc:zcm}{od an:Option zcl}{Gx:Array (Option zcm)}{kV doc pm fq ct:zcm}(a:zai K zcs x=some (some (.ref f)))(l:K.lookup f=some ⟨oc,od,.func (zao x x (fL st) (eL st) (aJ st) .none kV doc pm an fq ct),Gx⟩)
 (c:za0 K fq x=true) (k:zay K (.ref f)=true):FH K x st f:=⟨a,_,we l c k⟩
theorem Mb{α:Type}{P:List α->Prop}(h:∀a,P [a])(us:List α)(e:us.length=1):P us:=match us,e with |[a],_=>h a
theorem uM{α:Type}{P:List α->Prop}(h:∀a b,P [a,b])(us:List α)(e:us.length=2):P us:=match us,e with |[a,b],_=>h a b
theorem Li{α:Type}{P:List α->Prop}(h:∀a b c,P [a,b,c])(us:List α)(e:us.length=3):P us:=match us,e with |[a,b,c],_=>h a b c
theorem nK{K:ZI}{mg:Str->Option zcm}{h:Heap}{x:Str}{st:Stmt}{f:zcl}{ps:List Str}(X:K.In h)(G:h.Ns zcs mg)(q:FH K x st f)
 (b:∀(kV doc pm:zcm) (an:Option zcl) (fq ct:zcm) (us:List zcm),us.length=ps.length->bindArgs (zao x x (fL st) (eL st) (aJ st) .none kV doc pm an fq ct) ⟨us,[]⟩=pure (ps.zip us)):∃fd,cy K mg x st ps f fd:=
 let ⟨a,fd,F⟩:=q
 ⟨fd,F,F.binds b,zbo X G a⟩
theorem Jw{A:zcw}{k:Nat}(hr:gJ k A):A.units+16<cLine:=by have:=EB hr;lia
theorem Fl{CX:Cb}{P:zcx}{w:zcn}{K:ZI}{mg:Str->Option zcm}{base:Heap}{N:List Str}{qual:Str}{scope:Scope}{f:zcl}{cd:zcm}{A:zcw}{outer:List Env}{s:zcv}{H:Hp}{E:XK}:(uJ CX P w K mg base N qual scope f cd A outer s H E).prog=P:=rfl
theorem Fm{CX:Cb}{P:zcx}{w:zcn}{K:ZI}{mg:Str->Option zcm}{base:Heap}{N:List Str}{qual:Str}{scope:Scope}{f:zcl}{cd:zcm}{A:zcw}{outer:List Env}{s:zcv}{H:Hp}{E:XK}:(uJ CX P w K mg base N qual scope f cd A outer s H E).w=w:=rfl
theorem oZ{tt:TT}{a b:TS}{D:Ends}{σ:St}{H:Hp}(h:∀U:St->Hp->Prop,(∀σ' H',U σ' H'↔a D σ' H')->tt σ H fun c H1=>if c=true then U σ H1 else b D σ H1):GO tt a b D σ H:=h (a D) fun _ _=>Iff.rfl
def yo:PG.Tg->List Key
 |.row k=>[.inr "row",.inl k]
 |.side k b=>[.inr "side",.inl k,.inl (tN b)]
 |.bO k=>[.inr "must",.inl k]
 |.fin=>[.inr "end"]
theorem CG{a b:PG.Tg}(h:yo a=yo b):a=b:=by
 have s1:(ZJ "row":Str)≠ZJ "must":=by decide +kernel
 cases a<;>cases b<;>simp only[yo,List.cons.injEq,Sum.inl.injEq,Sum.inr.injEq,and_true,reduceCtorEq,and_false] at h
 ·rw[h.2]
 ·exact absurd h.1 s1
 ·obtain⟨_,rfl,e⟩:=h;have e:=(beq_iff_eq (α:=Int)).mpr e;rw[Ld] at e;rw[beq_iff_eq.mp e]
 ·exact absurd h.1.symm s1
 ·rw[h.2]
 ·rfl
def lN (s:PG.b3):wB:=(.inl s.1,s.2.map .inl)
theorem yq{a b:PG.b3}(h:lN a=lN b):a=b:=by
 obtain⟨a1,a2⟩:=a;obtain⟨b1,b2⟩:=b;simp only[lN,Prod.mk.injEq,Sum.inl.injEq] at h;obtain⟨rfl,h⟩:=h;have h:=(List.map_inj_right (fun x y (e:(Sum.inl x:Key)=.inl y)=>Sum.inl.inj e)).mp h;rw[h]
theorem CH(l:List Int):(l.map (Sum.inl:Int->Key)).map kV=l.map V.int:=by rw[zax];rfl
theorem vE{K:ZI}{H:Hp}{a:zcl}{s:PG.b3}(h:bZ K H a s.1 s.2):qf.on K H (lN s) a:=let ⟨b,h1,h2⟩:=h;⟨b,h1,by rw[lN,CH];exact h2⟩
def o6 (l:List PG.b3):List (wB×V):=l.map fun s=>(lN s,V.bl true)
theorem tH(l:List PG.b3)(s:PG.b3):(b5 (o6 l) (lN s)).isSome=decide (s∈l):=by
 induction l with
 |nil=>rfl
 |cons a r ih=>
  rw[o6,ZW];by_cases e:a=s
  ·rw[b6 (by rw[e]),e];simp
  ·rw[bY (fun z=>e (yq z))];refine(show _=_ from ih).trans ?_;simp[Ne.symm e]
theorem CI{l:List PG.b3}{s:PG.b3}(h:s ∉ l):putK (o6 l) (lN s) (.bl true)=o6 (l++[s]):=by
 unfold putK;rw[jb,tH,decide_eq_false h,if_neg ZM];simp[o6]
section
variable{κ:Type}[DecidableEq κ]{J:KH κ}{P:zcx}{w:zcn}{K:ZI}{H H':Hp}{a b p C dx:zcl}{kvs:List (κ×V)}{φ:Heap->Prop}{fs:List (Str×V)}{xs:List V}
theorem DS.CJ(d:DS J P w K H a kvs):∃φ,H a=some (.ext φ):=let ⟨xs,h,_⟩:=d.at_;⟨_,h⟩
theorem DS.ins(d:DS J P w K H a kvs)(hp:H p=some (.ins C dx fs))(u:bh p H H'):DS J P w K H' a kvs:=by
 obtain⟨φ,e⟩:=d.CJ;exact d.Q6 (fun o h=>u _ _ (bX e hp (by intro z;cases z)) h) fun b ys q=>q.ins hp u
theorem dq.wC(h:dq K H a xs)(hb:H b=some (.ext φ))(u:bh b H H'):dq K H' a xs:=by
 rcases h with (q |⟨o',q⟩) |q
 ·exact .inl (.inl (u _ _ (bX q hb (by intro z;cases z)) q))
 ·exact .inl (.inr ⟨o',u _ _ (bX q hb (by intro z;cases z)) q⟩)
 ·exact .inr q
theorem DS.other(d:DS J P w K H a kvs)(hb:H b=some (.ext φ))(n:a≠b)(u:bh b H H'):DS J P w K H' a kvs:=d.Q6 (fun o h=>u _ _ n h) fun c ys q=>q.wC hb u
end
def iA (pr:PG.Prog):List Int:=pr.ar.map (·.size)
def By (pr:PG.Prog):List Int:=(PG.ay pr.body).map (·.row)
def cM (pr:PG.Prog):Nat:=(PG.univ (By pr) (iA pr)).length
structure gc(pr:PG.Prog)(s:PG.b3):Prop where
 ok:yi pr s.1 s.2
 inv:PG.mE (iA pr) s.2
theorem gc.mem{pr:PG.Prog}{s:PG.b3}(h:gc pr s):s∈PG.univ (By pr) (iA pr):=by
 refine PG.Fi ?_ h.inv;rcases h.ok.row with e |⟨i,hi,e⟩
 ·exact .inl e
 ·exact .inr (zav.mpr ⟨_,ZT hi,e⟩)
theorem o7{pr:PG.Prog}{l:List PG.b3}(nd:l.Nodup)(h:∀s∈l,gc pr s):l.length<=cM pr:=PG.vD l _ nd fun s hs=>(h s hs).mem
theorem mE.first:∀ {bs:List PG.gf},(∀b∈bs,2<=b.size/\b.size<=10/\0<=b.first/\b.first<b.size)->PG.mE (bs.map (·.size)) (bs.map (·.first))
 |[],_=>trivial
 |b::r,h=>by
  simp only[ZW,PG.mE];have:=h b (Z0 ..);exact⟨⟨by lia,by lia⟩,mE.first fun x hx=>h x (ZV _ hx)⟩
theorem gc.first{pr:PG.Prog}(d:iO pr):gc pr (PG.aP pr.body 0,pr.ar.map (·.first)):=⟨d.first,mE.first d.size⟩
theorem mE.kG{pr:PG.Prog}(d:iO pr){vals:List Int}(h:PG.mE (iA pr) vals){b:W}(hb:b∈pr.ar.map (·.name))(z:Int):PG.mE (iA pr) (kG pr.ar vals b (z%c0 pr.ar b)):=by
 refine h.set _ _ fun s hs=>?_;obtain⟨hx,_⟩:=hJ hb;have e:c0 pr.ar b=s:=by
  unfold c0;rw[iA,ZO,ZK hx] at hs;rw[ZK hx];exact zaf.inj hs
 have:=yj d hb;rw[e] at this ⊢;exact⟨zaU z (by lia),zaJ z (by lia)⟩
theorem mE.step{pr:PG.Prog}(d:iO pr){st:PG.aW}(ok:PG.qt (·∈pr.ar.map (·.name)) (fun e=>PG.gK pr.ar e/\PG.ju e<=2) (·∈PG.zm) st){ws vals:List Int}{f:Int}(h:PG.mE (iA pr) vals){x:PG.b3}(e:(gn pr.ar st ws vals f).1=some x):PG.mE (iA pr) x.2:=by
 have cs:cL pr.ar st ws vals=some x->PG.mE (iA pr) x.2:=by
  intro e;unfold cL at e;split at e
  ·cases e
  ·split at e
   ·cases e;exact h
   ·split at e
    ·cases e
    ·cases e;exact h
 cases st<;>rw[PG.qt] at ok
 ·cases e;exact mE.kG d h ok _
 ·cases e;exact mE.kG d h ok.1 _
 ·cases e;exact h
 ·exact cs e
 ·cases e;exact h
 ·exact cs e
 ·exact cs e
theorem pf{pr:PG.Prog}(ok:CB pr){i:Nat}(hi:i<(PG.ay pr.body).length)(hf:i<(PG.aI pr.body 0).length)(vals:List Int)(f:Int):jW pr (PG.ay pr.body)[i].row vals f=gn pr.ar (PG.ay pr.body)[i] (PG.aI pr.body 0)[i].2.2 vals f:=by
 unfold jW;rw[oY ok.pw i hi,Ia ok.pw i hi hf]
theorem gc.next{pr:PG.Prog}(d:iO pr){s x:PG.b3}(h:gc pr s)(h0:s.1≠0){f:Int}(e:(jW pr s.1 s.2 f).1=some x):gc pr x:=by
 obtain⟨row,vals⟩:=s;obtain⟨i,hi,rfl⟩:=h.ok.row.resolve_left h0;obtain⟨hf,_,_⟩:=gA pr.body i hi;rw[pf d.ok hi hf] at e;refine⟨?_,mE.step d (PG.gu pr.body _ d.own (ZT hi)) h.inv e⟩;rcases hs:gn pr.ar (PG.ay pr.body)[i] (PG.aI pr.body 0)[i].2.2 vals f with ⟨o,sd⟩
 rw[hs] at e;exact yi.step d hi hf h.ok.len h.ok.small (by rw[hs];exact congrArg (·,sd) e)
theorem gc.nx{pr:PG.Prog}(d:iO pr){s s':PG.b3×List Int}(h:gc pr s.1)(e:PG.Co (oX pr.body) (jW pr) s=some s'):gc pr s'.1:=by
 unfold PG.Co at e;split at e
 ·cases e
 ·rename_i h0;split at e
  ·cases e
  ·obtain⟨y,hy,rfl⟩:=zaI.mp e;exact h.next d h0 hy
section
variable(P:zcx)(w:zcn)(K:ZI)(CC:zcl)
def vF (H:Hp) (g:List PG.b3) (us:List V):Prop:=Paired (fun (s:PG.b3) v=>∃a,v=.ref a/\bZ K H a s.1 s.2) g us
end
open PyProof.Rows
theorem yr{J:It}{D:zcl}{g:TG}{te:TE}{Q:VK}{τ0:St}{H:Hp}(G:St->Prop)(xs:List V)(Pv:Nat->List V->Hp->Prop)
 (go:∀i H2,aw H H2->i<xs.length->J.go i H2) (stop:∀H2,aw H H2->J.stop xs.length H2) (B1:∀i H2 x H3,aw H H2->i<xs.length->J.B1 i H2 x H3->H3=H2/\xs[i]?=some x)
 (hl:xs.length<=16000000) (hD:H D=none) (g0:G τ0) (h0:Pv 0 [] (upd H D (.lst [])))
 (step:∀i x ys τ H2,xs[i]?=some x->G τ->aw H H2->H2 D=some (.lst ys)->ys.length=i->Pv i ys H2->∀R:St->VK,(∀τ' v H3,G τ'->aw H2 H3->Pv (i+1) (ys++[v]) (upd H3 D (.lst (ys++[v])))->R τ' v H3)->g x τ H2 fun τ' H'=>te τ' H' (R τ'))
 (q:∀ys H2,aw H H2->H2 D=some (.lst ys)->ys.length=xs.length->Pv xs.length ys H2->Q (.ref D) H2):mL J D g rO te Q τ0 (upd H D (.lst [])):=by
 refine⟨fun i m τ H2=>m=xs.length-i/\i<=xs.length/\G τ/\aw H H2/\∃ys,H2 D=some (.lst ys)/\ys.length=i/\Pv i ys H2,⟨xs.length,by simp,zac _,g0,aw.new hD _,[],ao,rfl,h0⟩,?_⟩
 rintro i m τ H2 ⟨rfl,hi,gt,s2,ys,h2,ly,p2⟩
 by_cases uI:i<xs.length
 ·refine .inr ⟨go i H2 s2 uI,fun τ' H'=>G τ'/\aw H H'/\∃ys,H' D=some (.lst ys)/\ys.length=i+1/\Pv (i+1) ys H',fun τ' H' ⟨h1,h3,h4⟩=>⟨xs.length-(i+1),by lia,rfl,uI,h1,h3,h4⟩,fun y H' hy=>?_⟩;obtain⟨rfl,ey⟩:=B1 i H2 y H' s2 uI hy;simp only[rO,if_true];refine step i y ys τ _ ey gt s2 h2 ly p2 (fun τ' v H4=>_) fun τ' v H3 WE s3 p3=>⟨ys,s3 _ _ h2,?_,WE,?_,ys++[v],ao,by simp[ly],p3⟩
  ·have:zct=2 ^ 24:=rfl;lia
  ·intro b o e;rw[aR (au e hD)];exact s3 _ _ (s2 _ _ e)
 ·have e:i=xs.length:=by lia
  subst e;exact .inl ⟨stop H2 s2,q ys H2 s2 h2 ly p2⟩
theorem CK{K:ZI}{a D:zcl}{xs:List V}{g:TG}{te:TE}{Q:VK}{τ0:St}{H:Hp}(G:St->Prop)(Pv:Nat->List V->Hp->Prop)(hS:dq K H a xs)
 (hl:xs.length<=16000000) (hD:H D=none) (g0:G τ0) (h0:Pv 0 [] (upd H D (.lst [])))
 (step:∀i x ys τ H2,xs[i]?=some x->G τ->aw H H2->H2 D=some (.lst ys)->ys.length=i->Pv i ys H2->∀R:St->VK,(∀τ' v H3,G τ'->aw H2 H3->Pv (i+1) (ys++[v]) (upd H3 D (.lst (ys++[v])))->R τ' v H3)->g x τ H2 fun τ' H'=>te τ' H' (R τ'))
 (q:∀ys H2,aw H H2->H2 D=some (.lst ys)->ys.length=xs.length->Pv xs.length ys H2->Q (.ref D) H2):mL (PZ K a) D g rO te Q τ0 (upd H D (.lst [])):=
 yr G xs Pv (fun i H2 s2 h=>⟨xs,xs[i],s2.bB hS,by simp[h]⟩) (fun H2 s2=>⟨xs,s2.bB hS,ZQ _⟩) (fun i H2 x H3 s2 h y=>⟨y.1,y.2 _ (s2.bB hS)⟩) hl hD g0 h0 step q
open PySem.Spec
def vG (a:zcl) (o:Obj):HO:=.ext fun h=>h.get? a=some o
def wo (H:Hp) (a:zcl):Hp:=fun b=>if b=a then none else H b
theorem pq{H:Hp}{a:zcl}:wo H a a=none:=if_pos rfl
theorem px{H:Hp}{a b:zcl}(h:b≠a):wo H a b=H b:=if_neg h
section
variable{P:zcx}{w:zcn}{H:Hp}{h:Heap}{a:zcl}{o:Obj}
theorem vG.get(x:nv P w H h)(e:H a=some (vG a o)):h.get? a=some o:=(x a _ e).1
theorem vG.ok{H':Hp}(e:h.get? a=some o):cJ P w H' h a (vG a o):=⟨e,⟨o,e⟩,fun _ _ p k=>k _ p⟩
end
theorem bZ.Tn{K:ZI}{H H':Hp}{D a:zcl}{row:Int}{vals:List Int}{ys:List V}(h:bZ K H a row vals)(hD:H D=some (.lst ys))(u:bh D H H'):bZ K H' a row vals:=let ⟨va,h1,h2⟩:=h;⟨va,h1.NP hD u,h2.NP hD u⟩
theorem Bz{K:ZI}{H H':Hp}{g:List PG.b3}{us:List V}(h:vF K H g us)(f:∀a row vals,bZ K H a row vals->bZ K H' a row vals):vF K H' g us:=Paired.Dn h fun _ _ ⟨a,e,q⟩=>⟨a,e,f _ _ _ q⟩
theorem yt{K:ZI}{H:Hp}:∀ {g:List PG.b3} {us:List V} {x:PG.b3} {a:zcl},vF K H g us->bZ K H a x.1 x.2->vF K H (g++[x]) (us++[.ref a])
 |[],_,_,_,h,q=>by cases h;exact .cons ⟨_,rfl,q⟩ .nil
 |_::_,_,_,_,h,q=>by
  cases h with
  |cons a b=>exact .cons a (yt b q)
abbrev xC:=List (PG.b3×List Int)
def Ar (led:PG.b3->List PG.b3):Nat->xC->PG.b3->List Int->xC×Option (List PG.b3)
 |0,f,_,_=>(f,none)
 |n+1,f,s,g=>if s∈f.map (·.1) then (f,none) else match led s with
  |[t]=>Ar led n (f++[(s,g)]) t g
  |l=>(f++[(s,g)],some l)
def vH (K:ZI) (H:Hp) (f:xC) (kvs:List (wB×V)):Prop:=Paired (fun (x:PG.b3×List Int) (kv:wB×V)=>kv.1=lN x.1/\∃a,kv.2=.ref a/\dq K H a (x.2.map V.int)) f kvs
section
variable{K:ZI}{H H':Hp}
theorem vH.To:∀ {f:xC} {kvs:List (wB×V)},vH K H f kvs->∀s:PG.b3,(b5 kvs (lN s)).isSome=decide (s∈f.map (·.1))
 |[],_,h,s=>by cases h;rfl
 |x::r,_,h,s=>by
  cases h with
  |@cons _ kv _ _ a b=>
   obtain⟨k,v⟩:=kv;obtain⟨e,_⟩:=a;simp only at e;subst e;by_cases z:x.1=s
   ·rw[b6 (by rw[z]),ZW,z];simp
   ·rw[bY (fun y=>z (yq y)),vH.To b s,ZW];simp[Ne.symm z]
theorem vH.put{f:xC}{kvs:List (wB×V)}(h:vH K H f kvs){s:PG.b3}{g:List Int}{a:zcl}(n:s ∉ f.map (·.1))(q:dq K H a (g.map V.int)):vH K H (f++[(s,g)]) (putK kvs (lN s) (.ref a)):=by
 unfold putK;rw[jb,h.To,decide_eq_false n,if_neg ZM];exact Paired.snoc h ⟨rfl,a,rfl,q⟩
end
theorem Fn{H H':Hp}{D:zcl}(u:bh D H H'):aw (wo H D) H':=fun b o e=>by
 by_cases z:b=D
 ·subst z;rw[pq] at e;cases e
 ·rw[px z] at e;exact u b o z e
theorem Lj{H:Hp}{D:zcl}{o:HO}:wo (upd H D o) D=wo H D:=funext fun b=>by
 by_cases z:b=D
 ·subst z;rw[pq,pq]
 ·rw[px z,px z,aR z]
theorem BA{H H':Hp}{D:zcl}(s:aw H H'):aw (wo H D) (wo H' D):=fun b o e=>by
 by_cases z:b=D
 ·subst z;rw[pq] at e;cases e
 ·rw[px z] at e ⊢;exact s b o e
theorem NT{H:Hp}{D:zcl}:aw (wo H D) H:=Fn (.refl _ _)
section
variable{K:ZI}{H H':Hp}{p:zcl}{φ:Heap->Prop}
mutual
theorem wD(h:H p=some (.ext φ))(u:bh p H H'):∀(d:Dp) (v:V),Rep K H d v->Rep K H' d v
 |.b4,v,r=>by rw[Rep.gS] at r ⊢;exact r
 |.bl b,v,r=>by rw[Rep.sX] at r ⊢;exact r
 |.int b,v,r=>by rw[Rep.ba] at r ⊢;exact r
 |.str b,v,r=>by rw[Rep.bf] at r ⊢;exact r
 |.lst l,v,r=>by
  rw[Rep.bH] at r ⊢;obtain⟨a,ys,rfl,q,rs⟩:=r;refine⟨a,ys,rfl,?_,pE h u l ys rs⟩;rcases q with (q |⟨o,q⟩) |q
  ·exact .inl (.inl (u _ _ (bX q h (by intro z;cases z)) q))
  ·exact .inl (.inr ⟨o,u _ _ (bX q h (by intro z;cases z)) q⟩)
  ·exact .inr q
 |.tup l,v,r=>by
  rw[Rep.aK] at r ⊢;obtain⟨a,ys,rfl,q,rs⟩:=r;exact⟨a,ys,rfl,q.wC h u,pE h u l ys rs⟩
theorem pE(h:H p=some (.ext φ))(u:bh p H H'):∀(ds:List Dp) (vs:List V),aG K H ds vs->aG K H' ds vs
 |[],vs,r=>by rw[aG.bD] at r ⊢;exact r
 |d::ds,vs,r=>by
  rw[aG.aD] at r ⊢;obtain⟨v,t,rfl,r1,r2⟩:=r;exact⟨v,t,rfl,wD h u d v r1,pE h u ds t r2⟩
end
theorem ur.ext{C ch:zcl}{pr:PG.Prog}(c:ur K C H ch pr)(h:H p=some (.ext φ))(u:bh p H H'):ur K C H' ch pr:=by
 obtain⟨dx,nl,sd,fa,va,st,wy,us,ws,h1,h2,h3,h4,h5,h6,h7,h8,h9,K5,Cy,K6⟩:=c.at_;have k:∀ {b:zcl} {o:HO},H b=some o->(∀ψ,o≠.ext ψ)->H' b=some o:=fun {b o} e n=>u _ _ (bX e h (n φ)) e;exact⟨⟨dx,nl,sd,fa,va,st,wy,us,ws,k h1 (fun _ z=>by cases z),k h2 (fun _ z=>by cases z),k h3 (fun _ z=>by cases z),k h4 (fun _ z=>by cases z),k h5 (fun _ z=>by cases z),k h6 (fun _ z=>by cases z),h7,k h8 (fun _ z=>by cases z),pE h u _ _ h9,K5,k Cy (fun _ z=>by cases z),fun i hi=>let ⟨q,e,r⟩:=K6 i hi;⟨q,e,r.wC h u⟩⟩⟩
end
end L2
namespace L2
open PySem PySem.Spec PyProof.Rows
def BB (g:List Int):Option (List PG.b3)->List (List Int×List PG.b3)
 |none=>[]
 |some l=>[(g,l)]
def BC (led:PG.b3->List PG.b3) (n:Nat):xC->xC->xC×List (List Int×List PG.b3)
 |f,[]=>(f,[])
 |f,(s,g)::r=>((BC led n (Ar led n f s g).1 r).1,BB g (Ar led n f s g).2++(BC led n (Ar led n f s g).1 r).2)
section
variable{led:PG.b3->List PG.b3}{S:PG.b3->Prop}
structure Ie(S:PG.b3->Prop)(f:xC):Prop where
 nd:(f.map (·.1)).Nodup
 Q9:∀x∈f,S x.1
theorem Ie.put{f:xC}{s:PG.b3}{g:List Int}(h:Ie S f)(n:s ∉ f.map (·.1))(hs:S s):Ie S (f++[(s,g)]):=by
 refine⟨?_,fun x hx=>?_⟩
 ·rw[Z8];exact zbk.mpr ⟨h.nd,by simp,fun a ha b hb=>by rw[ZW,zaD,ZU] at hb;rw[hb];exact fun y=>n (by rw[<- show a=s from y];exact ha)⟩
 ·rcases Z1.mp hx with hx |hx
  ·exact h.Q9 x hx
  ·rw[ZU.mp hx];exact hs
structure Ra(S:PG.b3->Prop)(m:Nat)(as:List (List Int×List PG.b3)):Prop where
 Q9:∀a∈as,∀x∈a.2,S x
 len:∀a∈as,a.1.length<=m
theorem Ra.nil{S:PG.b3->Prop}{m:Nat}:Ra S m []:=⟨fun a h=>(by cases h),fun a h=>(by cases h)⟩
theorem Fo(li:∀s,S s->∀x∈led s,S x){m:Nat}:∀(n:Nat) (f:xC) (s:PG.b3) (g:List Int),Ie S f->S s->g.length<=m->Ie S (Ar led n f s g).1/\Ra S m (BB g (Ar led n f s g).2)/\f.length+(BB g (Ar led n f s g).2).length<=(Ar led n f s g).1.length
 |0,f,s,g,h,_,_=>⟨h,.nil,ZQ _⟩
 |n+1,f,s,g,h,hs,hg=>by
  rw[Ar];split
  ·exact⟨h,.nil,ZQ _⟩
  ·rename_i hn;have h1:=h.put (g:=g) hn hs;split
   ·rename_i t e;have:=Fo li n (f++[(s,g)]) t g h1 (li s hs t (by rw[e];exact ZU.mpr rfl)) hg;refine⟨this.1,this.2.1,?_⟩;have:=this.2.2;rw[ZP,zbb] at this;lia
   ·refine⟨h1,⟨fun a ha x hx=>?_,fun a ha=>?_⟩,?_⟩
    ·rw[ZU.mp ha] at hx;exact li s hs x hx
    ·rw[ZU.mp ha];exact hg
    ·rw[ZP];exact ZQ _
end
section
variable{K:ZI}{H H':Hp}
theorem qC{α β:Type}{R:α->β->Prop}:∀ {as:List α} {us:List β} {i:Nat} {v:β},Paired R as us->us[i]?=some v->∃a,as[i]?=some a/\R a v
 |[],_,_,_,h,e=>by cases h;simp at e
 |_::_,_,0,_,h,e=>by
  cases h with
  |cons a b=>cases e;exact⟨_,rfl,a⟩
 |_::_,_,i+1,_,h,e=>by
  cases h with
  |cons a b=>
   obtain⟨x,e1,e2⟩:=qC (i:=i) b (by simpa using e);exact⟨x,by simpa using e1,e2⟩
end
end L2
namespace PG
theorem vI:∀(ss:List Int),(∀s∈ss,s<=4)->(qB ss).length<=4 ^ ss.length
 |[],_=>by simp[qB]
 |s::r,h=>by
  have ih:=vI r fun x hx=>h x (ZV _ hx);have hs:=h s (Z0 ..);have k:∀n:Nat,((zaq n).flatMap fun (v:Nat)=>(qB r).map fun t=>((v:Int)::t)).length=n*(qB r).length:=fun n=>by
   induction n with
   |zero=>simp
   |succ n ih=>rw[zbU,zbx,ZP,ih];simp[Nat.succ_mul]
  rw[qB,k,ZN,Nat.pow_succ,Nat.mul_comm (4 ^ r.length)];exact zb5 (by lia) ih
end PG
namespace L2
open PySem PySem.Spec PyProof.Rows
def gB (s:PG.b3):Dp:=.tup [.int s.1,.tup (s.2.map Dp.int)]
theorem sI:∀l:List PG.b3,PyData.canLayAll0 (Dp.ka (l.map gB))=true/\PyData.depthAll (Dp.ka (l.map gB))<=2
 |[]=>by simp[Dp.ka,PyData.canLayAll0,PyData.depthAll]
 |s::r=>by
  obtain⟨h1,h2⟩:=sI r;obtain⟨i1,i2⟩:=Br s.2;have k:(gB s).py.canLay0=true/\(gB s).py.depth<=2:=by
   unfold gB;simp only[Dp.py,Dp.ka,PyData.canLay0,PyData.canLayAll0,PyData.depth,PyData.depthAll,i1,i2,zbE,Bool.true_and,true_and];lia
  rw[ZW,Dp.ka,PyData.canLayAll0,PyData.depthAll,h1,k.1];refine⟨rfl,?_⟩;have:=k.2;lia
theorem tI{K:ZI}{H:Hp}:∀ {g:List PG.b3} {us:List V},vF K H g us->aG K H (g.map gB) us
 |[],_,h=>by cases h;exact .nil
 |s::r,_,h=>by
  cases h with
  |cons a b=>
   obtain⟨x,rfl,va,h1,h2⟩:=a;exact .cons (Rep.aK.mpr ⟨x,_,rfl,h1,.cons WB (.cons (Rep.aK.mpr ⟨va,_,rfl,h2,qy _⟩) .nil)⟩) (tI b)
theorem Fp{pr:PG.Prog}{n:Nat}(h1:(PG.fU pr.body).length<=n)(h2:∀b∈pr.ar,b.size<=4)(h3:pr.ar.length<=3):cM pr<=(n+1)*64:=by
 unfold cM;rw[PG.Fj];have l1:(By pr).length+1<=n+1:=by unfold By;rw[ZL,dZ];lia
 have l2:=PG.vI (iA pr) fun s hs=>by
  obtain⟨b,hb,rfl⟩:=zav.mp hs;exact h2 b hb
 have l3:4 ^ (iA pr).length<=4 ^ 3:=zak (by decide) (by unfold iA;rw[ZL];exact h3);exact zb5 l1 (Z5 l2 l3)
def EV (ps:List (zcl×V)) (es:Array DictEntry):Prop:=Paired (fun (p:zcl×V) (e:DictEntry)=>e.key=.ref p.1/\RelV p.2 e.val) ps es.toList
theorem EV.size{ps:List (zcl×V)}{es:Array DictEntry}(h:EV ps es):es.size=ps.length:=by rw[<- za4];exact(Paired.length h).symm
theorem EV.at{ps:List (zcl×V)}{es:Array DictEntry}(h:EV ps es){i:Nat}(hi:i<es.size):∃b v,ps[i]?=some (b,v)/\es[i].key=.ref b/\RelV v es[i].val:=by
 obtain⟨⟨b,v⟩,e,e2⟩:=qC h (i:=i) (v:=es[i]) (by rw[zaB,zbG hi]);exact⟨b,v,e,e2.1,e2.2⟩
def Mc (d:zcl) (o:Obj) (ps:List (zcl×V)):It:=
 ⟨fun i H=>H d=some (vG d o)/\i<ps.length,fun i H x H'=>H'=H/\∃b v,x=.ref b/\ps[i]?=some (b,v),fun i H=>H d=some (vG d o)/\ps.length<=i⟩
theorem CL{P:zcx}{w:zcn}{K:ZI}{tg:Expr}{d it:zcl}{o:Obj}{ps:List (zcl×V)}{es:Array DictEntry}{ep:Nat}(hx:o.ExactDict)(hd:o.data=.dict es ep)(ev:EV ps es) :
 Turn P w K tg (Mc d o ps) [it] it (fun i h=>h.IsKeyIter it d i es.size ep) where
 mem:=by simp
 obj:=fun i h st b hb=>by
  obtain⟨oi,eo,c,dd⟩:=st;have z:b=it:=by simpa using hb
  subst z;exact⟨oi,eo,fun v z=>by rw[dd] at z;cases z⟩
 keep:=fun i h h' st k=>st.at fun o x=>k it (by simp) o x
 item:=by
  intro X hP hw hK hc i pins s σ H E I hf st hg;subst hP hw hK;obtain⟨hH,hi⟩:=hg;rw[<- ev.size] at hi;obtain⟨f0,f1,f2,f3,f4,f5⟩:=hf it (by simp);obtain⟨b,v,e1,e2,_⟩:=ev.at hi;refine Fg st ⟨o,vG.get I.dg hH,hx,hd⟩ hi fun h' B5 sb=>?_;obtain⟨oi,eo,c,dd⟩:=id B5;refine⟨_,rfl,AU (s:={s with heap:=h' }) (n:="dict_keyiterator") eo c dd (by decide) ⟨.ref b,H,I.turned (t':=s.toks) (fun b o hb e=>sb.extBut b o hb e) f0 f1 f3 f4 f5,e2,⟨rfl,b,v,rfl,e1⟩,B5,fun b hb=>(hf b hb).1⟩⟩
 done:=by
  intro X hP hw hK hc i pins s σ H E I hf st hg;subst hP hw hK;obtain⟨hH,hi⟩:=hg;rw[<- ev.size] at hi;obtain⟨f0,f1,f2,f3,f4,f5⟩:=hf it (by simp);exact Ic (I.ok.hd hc) st ⟨o,vG.get I.dg hH,hx,hd⟩ hi fun h' eb=>⟨rfl,I.turned (t':=s.toks) (fun b o hb e=>eb b o hb e) f0 f1 f3 f4 f5⟩
 self:=fun _ _ _ _ _ st h=>wpAny_pyIter_keyiter st h
section
variable{κ:Type}[DecidableEq κ](J:KH κ)
structure Fz(P:zcx)(w:zcn)(K:ZI)(H:Hp)(d:zcl)(kvs:List (κ×V))(o:Obj):Prop where
 len:kvs.length<=zct
 sys:(d==sysModules)=false
 at_:∃xs,(∀h:Heap,h.get? d=some o->jh J P w d xs h)/\KS J K H kvs xs/\(xs.map (·.1)).Nodup
def Lk (K:ZI) (H:Hp) (kvs:List (κ×V)) (ps:List (zcl×V)):Prop:=Paired (fun (kv:κ×V) (p:zcl×V)=>J.on K H kv.1 p.1/\p.2=kv.2) kvs ps
def Jx (P:zcx) (w:zcn) (K:ZI) (tl:TE):TI:=fun σ H R=>tl σ H fun x H1=>∃d kvs,x=.ref d/\DS J P w K H1 d kvs/\∀o ps,Fz J P w K H1 d kvs o->Lk J K H1 kvs ps->R (Mc d o ps) (upd H1 d (vG d o))
variable{J}
theorem Jy{P:zcx}{w:zcn}{K:ZI}{H:Hp}:∀ {kvs:List (κ×V)} {xs:List (κ×zcl×zcm)},KS J K H kvs xs->∃ps,Lk J K H kvs ps/\Paired (fun (p:zcl×V) (e:DictEntry)=>e.key=.ref p.1/\RelV p.2 e.val) ps (xs.map (entryOfKey (J.knd P w)))
 |[],_,h=>by cases h;exact⟨[],.nil,.nil⟩
 |(k,v)::r,_,h=>by
  cases h with
  |cons a b=>
   obtain⟨ps,p1,p2⟩:=Jy (P:=P) (w:=w) b;exact⟨(_,v)::ps,.cons ⟨a.2.1,rfl⟩ p1,.cons ⟨rfl,a.2.2⟩ p2⟩
section
variable{X:Cx}{tg l e e1 e2:Expr}{es:List Expr}{tl te to:TE}{ta:TA}{pins:List (zcl×Obj)}{σ:St}{H:Hp}{s:zcv}{apos xQ:Pos}
theorem freeze{d:zcl}{kvs:List (κ×V)}(I:Inv X pins σ H s)(ds:DS J X.prog X.w X.K H d kvs):∃o es ep ps,s.heap.get? d=some o/\o.ExactDict/\o.data=.dict es ep/\EV ps es/\Fz J X.prog X.w X.K H d kvs o/\Lk J X.K H kvs ps/\Inv X pins σ (upd H d (vG d o)) s:=by
 obtain⟨z,sy,xs,e,rel,nd⟩:=ds;obtain⟨⟨o,es,ep,h1,h2,h3,h4⟩, -⟩:=(show cJ X.prog X.w H s.heap d (.ext (jh J X.prog X.w d xs)) from I.dg d _ e)
 obtain⟨ps,p1,p2⟩:=Jy (P:=X.prog) (w:=X.w) rel;refine⟨o,es,ep,ps,h1,h2,h3,?_,⟨z,sy,xs,fun h eh=>⟨o,es,ep,eh,h2,h3,h4⟩,rel,nd⟩,p1,sr (h':=s.heap) (t':=s.toks) I (by rw[e];exact True.intro) ⟨rfl,fun _ _=>rfl⟩ ⟨o,h1⟩ (vG.ok h1)⟩;unfold EV;rw[h4];exact p2
theorem Fq(hl:PE X l tl):PI X tg l (Jx J X.prog X.w X.K tl):=by
 intro pins s σ H R I h;refine eP (hl pins s σ H _ I h) fun v s1 zqz=>?_;obtain⟨x,H1,I1,r1,q1⟩:=zqz;obtain⟨d,kvs,rfl,ds,q⟩:=q1;cases r1;obtain⟨o,es,ep,ps,h1,h2,h3,ev,fz,po,I2⟩:=freeze I1 ds;refine Ff ds.sys ⟨o,h1,h2,h3⟩ ?_;have I3:=I2.kept (t':=s1.toks) (h':=s1.heap.push {cls:=.type "dict_keyiterator",data:=.fields #[.ref d,.int 0 0,.int es.size 0,.int ep 0]}) fun b o e=>Heap.get?_push_of_some _ e;refine⟨s1.heap.objs.size,[s1.heap.objs.size],_,Mc d o ps,_,rfl,I3,CL h2 h3 ev,⟨_,Heap.get?_push_size _ rfl,rfl,rfl⟩,fun b hb=>?_,q o ps fz po⟩;have e:b=s1.heap.objs.size:=by simpa using hb
 subst e;exact I2.B2 (ZQ _) (I2.dg.fresh (ZQ _))
end
end
theorem Fs{wi:TI}{g:TG}{tb:TS}{D:Ends}{σ:St}{H:Hp} (h:∀U:It->Hp->Prop,(∀J H1,(∃W:Nat->Nat->St->Hp->Prop,(∃m,W 0 m σ H1)/\∀i m σ H,W i m σ H->
 (J.stop i H/\D.nx σ H)\/(J.go i H/\∃N:St->Hp->Prop,(∀σ' H',N σ' H'->∃m',m'<m/\W (i+1) m' σ' H')/\∀x H',J.B1 i H x H'->g x σ H' fun σ2 H2=>tb {D with nx:=N,ct:=N,bk:=D.nx} σ2 H2))->U J H1)->wi σ H U):GQ wi g tb D σ H:=h _ fun _ _ x=>x
theorem Ig{d:zcl}{o:Obj}{ps:List (zcl×V)}{g:TG}{tb:TS}{D:Ends}{σ:St}{H:Hp}(Pv:Nat->St->Hp->Prop)(h0:Pv 0 σ H)(hl:∀i σ H,i<=ps.length->Pv i σ H->H d=some (vG d o))
 (hs:∀i b v σ H,ps[i]?=some (b,v)->Pv i σ H->g (.ref b) σ H fun σ2 H2=>tb {D with nx:=Pv (i+1),ct:=Pv (i+1),bk:=D.nx} σ2 H2) (hd:∀σ H,Pv ps.length σ H->D.nx σ H) :
 ∃W:Nat->Nat->St->Hp->Prop,(∃m,W 0 m σ H)/\∀i m σ H,W i m σ H->
  ((Mc d o ps).stop i H/\D.nx σ H)\/((Mc d o ps).go i H/\∃N:St->Hp->Prop,(∀σ' H',N σ' H'->∃m',m'<m/\W (i+1) m' σ' H')/\∀x H',(Mc d o ps).B1 i H x H'->g x σ H' fun σ2 H2=>tb {D with nx:=N,ct:=N,bk:=D.nx} σ2 H2):=by
 refine⟨fun i m σ H=>m=ps.length-i/\i<=ps.length/\Pv i σ H,⟨ps.length,by simp,zac _,h0⟩,?_⟩
 rintro i m σ H ⟨rfl,hi,p⟩
 have q:=hl i σ H hi p;by_cases uI:i<ps.length
 ·refine .inr ⟨⟨q,uI⟩,Pv (i+1),fun σ' H' p'=>⟨ps.length-(i+1),by lia,rfl,uI,p'⟩,fun x H' y=>?_⟩;obtain⟨rfl,b,v,rfl,e⟩:=y;exact hs i b v σ H' e p
 ·have e:i=ps.length:=by lia
  subst e;exact .inl ⟨⟨q,ZQ _⟩,hd σ H p⟩
section
variable(P:zcx)(w:zcn)(K:ZI)(CC:zcl)
def Ft (H:Hp):Option (List Int)->Option V->Prop
 |none,r=>r=none
 |some g,r=>∃a,r=some (.ref a)/\dq K H a (g.map V.int)
def Fu (H:Hp) (M:PG.Tg->Option (List Int)) (kvs:List (List Key×V)):Prop:=∀t,Ft K H (M t) (b5 kvs (yo t))
end
section
variable{K:ZI}{H H':Hp}
theorem Fu.put{M:PG.Tg->Option (List Int)}{kvs:List (List Key×V)}{t:PG.Tg}{g:List Int}{a:zcl}(h:Fu K H M kvs)(n:M t=none)(q:dq K H a (g.map V.int)):Fu K H (fun u=>(M u).or (if u=t then some g else none)) (putK kvs (yo t) (.ref a)):=fun u=>by
 show Ft K H ((M u).or (if u=t then some g else none)) _;rw[xT];by_cases e:u=t
 ·subst e;rw[n,if_pos rfl,if_pos rfl];exact⟨a,rfl,q⟩
 ·rw[if_neg e,if_neg (fun z=>e (CG z)),Option.or_none];exact h u
end
theorem Ih{α β γ:Type}(F:α->β->γ->Prop->Prop):∃X:α->β->γ->Prop,(∀a b c,(∀zq,F a b c zq->zq)->X a b c)/\∀a b c,X a b c->∀zq,F a b c zq->zq:=⟨fun a b c=>∀zq,F a b c zq->zq,fun _ _ _ h=>h,fun _ _ _ h=>h⟩
section
variable{X:Cx}{k n:Nat}{f:zcl}{fd:zcu}{ps:List Str}{sp:Sp}{x:Str}{st:Stmt}{e:Expr}{es:List Expr}{t:TA}{te:TE}{p pos pos':Pos}
theorem dA(F:bw X.prog X.w X.K X.mg X.base eM k f fd ps sp)(D:cy X.K X.mg x st ps f fd)(hr:gJ n X.A)(ha:PA X (e::es) t)(h:k<=n:=by first |decide |omega)(hg:Gl X x:=by rfl)(GW:(x==("__debug__":Str))=false:=by decide)
 (he:zcr (e::es) X.env=(false,eval e X.env)::zcr es X.env:=by rfl) (A2:(backTo pos (zcr es X.env)).any (·.1)=false:=by rfl):PE X (.Call (.Name x p) (e::es) [] pos) (DK sp [] E0 t):=
 GV F (hr.mono h) hg D.m D.F.kp D.b .nil A8 ha GW he A2
theorem eV(i:Nat)(hN:X.N.Nodup)(he:PE X e te)(hi:X.N[i]?=some x:=by rfl)(hx:Loc X.env.scope x:=by exact zau rfl)(hs:swapsWith e (some (.Name x pos')) pos.line X.env=pure false:=by rfl)(hf:X.fn x=true\/X.env.scope.names.lookup x=some .local:=by first |exact .inl rfl |exact .inr rfl |assumption) :
 PS X (.Assign [.Name x pos'] e pos) (B0 te (eR i)):=zF hN hi hx he hs hf
theorem zt(i:Nat)(hN:X.N.Nodup)(hi:X.N[i]?=some x:=by rfl)(hx:Loc X.env.scope x:=by exact zau rfl)(hf:X.fn x=true\/X.env.scope.names.lookup x=some .local:=by first |exact .inl rfl |exact .inr rfl |assumption):PG X (.Name x pos) (eR i):=cT hN hi hx hf
theorem bo(i:Nat)(hr:PA X es t)(hN:X.N[i]?=some x:=by rfl)(hv:Mv X.env.scope x:=by first |exact zau rfl |exact zbJ (zau rfl) |exact zbJ (zbJ rfl))(hd:(x==("__debug__":Str))=false:=by decide)(zj:(x==("__classdict__":Str))=false:=by decide):PA X (.Name x pos::es) (DJ (fj i) t):=ae (pv i hN hv hd zj) hr ky
end
def nA (a:Int):List Int->Int
 |[]=>a
 |d::r=>nA (10*a+d+1) r
def Dg (g:List Int):Prop:=∀d∈g,0<=d/\d<=9
section
variable(led:PG.b3->List PG.b3)(s0:PG.b3)
inductive Cm:PG.b3->List Int->Prop
 |start:Cm s0 []
 |one {s t g}:Cm s g->led s=[t]->Cm t g
 |many {s t g} {i:Nat}:Cm s g->(led s).length≠1->(led s)[i]?=some t->Cm t (g++[(i:Int)])
end
section
variable{led:PG.b3->List PG.b3}{s0:PG.b3}
theorem Cm.Q9{S:PG.b3->Prop}(li:∀s,S s->∀x∈led s,S x)(h0:S s0){s:PG.b3}{g:List Int}(h:Cm led s0 s g):S s:=by
 induction h with
 |start=>exact h0
 |one _ e ih=>exact li _ ih _ (by rw[e];exact ZU.mpr rfl)
 |many _ _ e ih=>exact li _ ih _ (zaL e)
structure BI(led:PG.b3->List PG.b3)(s0:PG.b3)(k:Nat)(f l:xC)(as:List (List Int×List PG.b3)):Prop where
 Tp:f.Pairwise fun x y=>nA 0 x.2<=nA 0 y.2
 fl:∀x∈f,∀y∈l,nA 0 x.2<=nA 0 y.2
 ll:l.Pairwise fun x y=>nA 0 x.2<nA 0 y.2
 al:∀a∈as,∀y∈l,nA 0 a.1<nA 0 y.2
 aa:as.Pairwise fun a b=>nA 0 a.1<nA 0 b.1
 fk:∀x∈f,x.2.length<=k
 lk:∀x∈l,x.2.length=k
 ak:∀a∈as,a.1.length=k
 sf:∀x∈f,Cm led s0 x.1 x.2
 sl:∀x∈l,Cm led s0 x.1 x.2
 sa:∀a∈as,∃s,Cm led s0 s a.1/\a.2=led s/\(led s).length≠1
 c1:∀x∈f,∀t,led x.1=[t]->(∃y∈f,y.1=t/\nA 0 y.2<=nA 0 x.2)\/(t,x.2)∈l
 c2:∀x∈f,(led x.1).length≠1->∀(i:Nat) t,(led x.1)[i]?=some t->(∃y∈f,y.1=t/\nA 0 y.2<=nA 0 (x.2++[(i:Int)]))\/(t,x.2++[(i:Int)])∈l\/(x.2,led x.1)∈as
 st:(∃y∈f,y.1=s0/\nA 0 y.2<=0)\/(s0,[])∈l
section
variable{k:Nat}{f r:xC}{s:PG.b3}{g:List Int}{as:List (List Int×List PG.b3)}
theorem BI.skip(h:BI led s0 k f ((s,g)::r) as)(hs:s∈f.map (·.1)):BI led s0 k f r as:=by
 obtain⟨y,hy,ey⟩:=zav.mp hs;have ny:=h.fl y hy (s,g) (Z0 ..);refine⟨h.Tp,fun x hx z hz=>h.fl x hx z (ZV _ hz),(zaT.mp h.ll).2,fun a ha z hz=>h.al a ha z (ZV _ hz),h.aa,h.fk,fun x hx=>h.lk x (ZV _ hx),h.ak,h.sf,fun x hx=>h.sl x (ZV _ hx),h.sa,fun x hx t e=>?_,fun x hx n i t e=>?_,?_⟩
 ·rcases h.c1 x hx t e with z |z
  ·exact .inl z
  ·rcases ZS.mp z with z |z
   ·cases z;exact .inl ⟨y,hy,ey,ny⟩
   ·exact .inr z
 ·rcases h.c2 x hx n i t e with z |z |z
  ·exact .inl z
  ·rcases ZS.mp z with z |z
   ·cases z;exact .inl ⟨y,hy,ey,ny⟩
   ·exact .inr (.inl z)
  ·exact .inr (.inr z)
 ·rcases h.st with z |z
  ·exact .inl z
  ·rcases ZS.mp z with z |z
   ·cases z;exact .inl ⟨y,hy,ey,ny⟩
   ·exact .inr z
theorem BI.put(h:BI led s0 k f ((s,g)::r) as){l:xC}{bs:List (List Int×List PG.b3)}(hl:l=r/\bs=[(g,led s)]/\(led s).length≠1\/∃t,led s=[t]/\l=(t,g)::r/\bs=[]):BI led s0 k (f++[(s,g)]) l (as++bs):=by
 have hg:=Z0 (a:=(s,g)) (l:=r);obtain⟨gr,rr⟩:=zaT.mp h.ll;have inr:∀x∈r,x∈l:=fun x hx=>by
  rcases hl with ⟨rfl,_⟩ |⟨t,_,rfl,_⟩
  ·exact hx
  ·exact ZV _ hx
 have Rb:∀x∈l,x∈r\/x.2=g/\led s=[x.1]:=fun x hx=>by
  rcases hl with ⟨rfl,_⟩ |⟨t,e,rfl,_⟩
  ·exact .inl hx
  ·rcases ZS.mp hx with rfl |hx
   ·exact .inr ⟨rfl,e⟩
   ·exact .inl hx
 have bin:∀a∈bs,a=(g,led s)/\l=r/\(led s).length≠1:=fun a ha=>by
  rcases hl with ⟨e,rfl,n⟩ |⟨t,e,rfl,rfl⟩
  ·exact⟨ZU.mp ha,e,n⟩
  ·cases ha
 have nf:∀x∈f++[(s,g)],nA 0 x.2<=nA 0 g:=fun x hx=>by
  rcases Z1.mp hx with hx |hx
  ·exact h.fl x hx _ hg
  ·rw[ZU.mp hx];exact zaS _
 have ng:∀y∈l,nA 0 g<=nA 0 y.2:=fun y hy=>by
  rcases Rb y hy with z |⟨z,_⟩
  ·exact Int.le_of_lt (gr y z)
  ·rw[z];exact zaS _
 have me:(s,g)∈f++[(s,g)]:=Z4 _ (ZU.mpr rfl);have up:∀ {P:PG.b3×List Int->Prop},(∃y∈f,P y)->∃y∈f++[(s,g)],P y:=fun ⟨y,hy,p⟩=>⟨y,zab _ hy,p⟩
 refine⟨zas.mpr ⟨h.Tp,zbi _ _,fun x hx y hy=>?_⟩,fun x hx y hy=>zcg (nf x hx) (ng y hy),?_,?_,?_,?_,?_,?_,?_,?_,?_,fun x hx t e=>?_,fun x hx n i t e=>?_,?_⟩
 ·rw[ZU.mp hy];exact h.fl x hx _ hg
 ·rcases hl with ⟨rfl,_⟩ |⟨t,_,rfl,_⟩
  ·exact rr
  ·exact zaT.mpr ⟨fun y hy=>gr y hy,rr⟩
 ·intro a ha y hy;rcases Z1.mp ha with ha |ha
  ·exact Int.lt_of_lt_of_le (h.al a ha _ hg) (ng y hy)
  ·obtain⟨rfl,rfl,_⟩:=bin a ha;exact gr y hy
 ·refine zas.mpr ⟨h.aa,?_,fun a ha b hb=>?_⟩
  ·rcases hl with ⟨_,rfl,_⟩ |⟨_,_,_,rfl⟩
   ·exact zbi _ _
   ·exact .nil
  ·rw[(bin b hb).1];exact h.al a ha _ hg
 ·intro x hx;rcases Z1.mp hx with hx |hx
  ·exact h.fk x hx
  ·rw[ZU.mp hx];exact zcf (h.lk _ hg)
 ·intro x hx;rcases Rb x hx with z |⟨z,_⟩
  ·exact h.lk x (ZV _ z)
  ·rw[z];exact h.lk _ hg
 ·intro a ha;rcases Z1.mp ha with ha |ha
  ·exact h.ak a ha
  ·rw[(bin a ha).1];exact h.lk _ hg
 ·intro x hx;rcases Z1.mp hx with hx |hx
  ·exact h.sf x hx
  ·rw[ZU.mp hx];exact h.sl _ hg
 ·intro x hx;rcases Rb x hx with z |⟨z,e⟩
  ·exact h.sl x (ZV _ z)
  ·rw[z];exact .one (h.sl _ hg) e
 ·intro a ha;rcases Z1.mp ha with ha |ha
  ·exact h.sa a ha
  ·obtain⟨rfl,_,n⟩:=bin a ha;exact⟨s,h.sl _ hg,rfl,n⟩
 ·rcases Z1.mp hx with hx |hx
  ·rcases h.c1 x hx t e with z |z
   ·exact .inl (up z)
   ·rcases ZS.mp z with z |z
    ·cases z;exact .inl ⟨_,me,rfl,zaS _⟩
    ·exact .inr (inr _ z)
  ·rw[ZU.mp hx] at e ⊢;rcases hl with ⟨_,_,n⟩ |⟨t',e',rfl,_⟩
   ·exact absurd (by rw[show led s=[t] from e];rfl) n
   ·rw[show led s=[t] from e] at e';cases e';exact .inr (Z0 ..)
 ·rcases Z1.mp hx with hx |hx
  ·rcases h.c2 x hx n i t e with z |z |z
   ·exact .inl (up z)
   ·rcases ZS.mp z with z |z
    ·cases z;exact .inl ⟨_,me,rfl,zaS _⟩
    ·exact .inr (.inl (inr _ z))
   ·exact .inr (.inr (zab _ z))
  ·rw[ZU.mp hx] at n ⊢;rcases hl with ⟨_,rfl,_⟩ |⟨t',e',_⟩
   ·exact .inr (.inr (Z4 _ (ZU.mpr rfl)))
   ·exact absurd (by rw[show led s=[t'] from e'];rfl) n
 ·rcases h.st with z |z
  ·exact .inl (up z)
  ·rcases ZS.mp z with z |z
   ·cases z;exact .inl ⟨_,me,rfl,zaS _⟩
   ·exact .inr (inr _ z)
end
variable{S:PG.b3->Prop}{M:Nat}
theorem BI.Ar(li:∀s,S s->∀x∈led s,S x)(hM:∀f:xC,Ie S f->f.length<=M){k:Nat}:∀(n:Nat) (f r:xC) (s:PG.b3) (g:List Int) (as:List (List Int×List PG.b3)),M<f.length+n->Ie S f->S s->BI led s0 k f ((s,g)::r) as->BI led s0 k (Ar led n f s g).1 r (as++BB g (Ar led n f s g).2)
 |0,f,r,s,g,as,hn,o,_,_=>absurd (hM f o) (by lia)
 |n+1,f,r,s,g,as,hn,o,hs,h=>by
  rw[L2.Ar];split
  ·rename_i rR;show BI led s0 k f r (as++[]);rw[Z9];exact h.skip rR
  ·rename_i rR;have o1:=o.put (g:=g) rR hs;split
   ·rename_i t e;have h2:=h.put (l:=(t,g)::r) (bs:=[]) (.inr ⟨t,e,rfl,rfl⟩);rw[Z9] at h2;exact BI.Ar li hM n _ r t g as (by rw[ZP,zbb];lia) o1 (li s hs t (by rw[e];exact ZU.mpr rfl)) h2
   ·rename_i l1 ne;refine h.put (.inl ⟨rfl,rfl,fun z=>?_⟩);obtain⟨t,e⟩:=List.length_eq_one_iff.mp z;exact ne t e
theorem BI.all(li:∀s,S s->∀x∈led s,S x)(hM:∀f:xC,Ie S f->f.length<=M){k n:Nat}(hn:M<n):∀(l f:xC) (as:List (List Int×List PG.b3)),Ie S f->(∀x∈l,S x.1)->BI led s0 k f l as->BI led s0 k (BC led n f l).1 [] (as++(BC led n f l).2)
 |[],f,as,_,_,h=>by
  show BI led s0 k f [] (as++[]);rw[Z9];exact h
 |(s,g)::r,f,as,o,hl,h=>by
  have h1:=BI.Ar li hM n f r s g as (by lia) o (hl _ (Z0 ..)) h;have o1:=(Fo li (m:=g.length) n f s g o (hl _ (Z0 ..)) (ZQ _)).1;have:=BI.all li hM hn r _ _ o1 (fun x hx=>hl x (ZV _ hx)) h1;rw[ZZ] at this;exact this
end
theorem CM{D:zcl}{n:Nat}{te:TE}{Q:VK}{r:St}{H:Hp}(Pv:Nat->List V->Hp->Prop)(hl:n<=16000000)(hD:H D=none)(h0:Pv 0 [] (upd H D (.lst [])))
 (step:∀(i:Nat) ys H2,i<n->aw H H2->H2 D=some (.lst ys)->ys.length=i->Pv i ys H2->∀R:VK,(∀v H3,aw H2 H3->Pv (i+1) (ys++[v]) (upd H3 D (.lst (ys++[v])))->R v H3)->te (some (.int i)::r) H2 R)
 (q:∀ys H2,aw H H2->H2 D=some (.lst ys)->ys.length=n->Pv n ys H2->Q (.ref D) H2):mL (Dz 0 n) D (eR 0) rO te Q (none::r) (upd H D (.lst [])):=by
 have ln:((zaq n).map fun i:Nat=>V.int i).length=n:=by rw[ZL,zbl]
 refine yr (fun τ=>∃x,τ=x::r) ((zaq n).map fun i:Nat=>V.int i) Pv (fun i H2 _ hi=>by rw[ln] at hi;exact hi) (fun H2 _=>by rw[ln];exact ZQ n) (fun i H2 x H3 _ hi y=>?_) (by rw[ln];exact hl) hD ⟨_,rfl⟩ h0 (fun i x ys τ H2 hx ⟨z,e⟩ s2 h2 ly p2 R hR=>?_) (by rw[ln];exact q)
 ·rw[ln] at hi;obtain⟨rfl,rfl⟩:=y;refine⟨rfl,?_⟩;rw[ZO,zcd hi,Int.zero_add];rfl
 ·have hi:=(ZR.mp hx).1;rw[ln] at hi;rw[ZO,zcd hi] at hx;cases hx;subst e;exact step i ys H2 hi s2 h2 ly p2 (R (some (.int i)::r)) fun v H3 s3 p3=>hR _ v H3 ⟨_,rfl⟩ s3 p3
def Fv (N:zcl->Prop) (H:Hp) (P:List Int->Prop) (us:List V):Prop:=∀u∈us,∃a mC,u=.ref a/\N a/\H a=some (.lst (mC.map V.int))/\Dg mC/\P mC
theorem Fv.snoc{N:zcl->Prop}{H:Hp}{P:List Int->Prop}{us:List V}(h:Fv N H P us){a:zcl}{mC:List Int}(n:N a)(y:H a=some (.lst (mC.map V.int)))(d:Dg mC)(p:P mC):Fv N H P (us++[.ref a]):=fun u hu=>by
 rcases Z1.mp hu with hu |hu
 ·exact h u hu
 ·rw[ZU.mp hu];exact⟨a,mC,rfl,n,y,d,p⟩
end L2
namespace PG
open PM
structure Dk where
 cs:List Int
 gs:List Bool
 pos:Int
 left:Int
 row:Int
 gap:Int
def draw (d:Dk) (many:Int):Int×Dk:=
 if d.cs=[] then ((d.pos*d.pos*7+d.pos/3)%many,{d with pos:=d.pos+1})
 else if d.gs.getD (d.pos%d.cs.length).toNat false=true then (d.cs.getD (d.pos%d.cs.length).toNat 0%many,{d with pos:=d.pos+1,cs:=d.cs.set (d.pos%d.cs.length).toNat (d.cs.getD (d.pos%d.cs.length).toNat 0/many)})
 else ((d.cs.getD (d.pos%d.cs.length).toNat 0%2147483629+62233*(d.pos+1))*48271%2147483629*((d.cs.getD (d.pos%d.cs.length).toNat 0%2147483629+62233*(d.pos+1))*48271%2147483629)%2147483587*69621%2147483579/8%many,{d with pos:=d.pos+1})
structure dJ(d d':Dk):Prop where
 left:d'.left=d.left
 row:d'.row=d.row
 gap:d'.gap=d.gap
theorem dJ.refl{d:Dk}:dJ d d:=⟨rfl,rfl,rfl⟩
theorem dJ.trans{a b c:Dk}(h:dJ a b)(h2:dJ b c):dJ a c:=⟨h2.left.trans h.left,h2.row.trans h.row,h2.gap.trans h.gap⟩
theorem qD(d:Dk)(many:Int):dJ d (draw d many).2:=by
 unfold draw;split
 ·exact⟨rfl,rfl,rfl⟩
 ·split<;>exact⟨rfl,rfl,rfl⟩
theorem BD(d:Dk){many:Int}(h:0<many):0<=(draw d many).1/\(draw d many).1<many:=by
 have k:∀x:Int,0<=x%many/\x%many<many:=fun x=>⟨zaU _ (by lia),zaJ _ h⟩
 unfold draw;split
 ·exact k _
 ·split<;>exact k _
def k7 (ns:List W):Nat->Dk->Tr×Dk
 |0,d=>match draw d 6 with
  |(k,d1)=>if k<2\/ns=[] then match draw d1 4 with
     |(a,d2)=>match draw d2 10 with
      |(b,d3)=>match draw d3 6 with
       |(c,d4)=>(.num (pick 0 [a,b,999] (pick (0:Int) [0,0,0,1,1,2] c)),d4)
   else match draw d1 ns.length with
    |(j,d2)=>(.box (pick [] ns j),d2)
 |n+1,d=>match draw d 6 with
  |(k,d1)=>if k<2\/ns=[] then match draw d1 4 with
     |(a,d2)=>match draw d2 10 with
      |(b,d3)=>match draw d3 6 with
       |(c,d4)=>(.num (pick 0 [a,b,999] (pick (0:Int) [0,0,0,1,1,2] c)),d4)
   else if k<5 then match draw d1 ns.length with
    |(j,d2)=>(.box (pick [] ns j),d2)
   else match draw d1 3 with
    |(g,d2)=>match k7 ns n d2 with
     |(l,d3)=>match k7 ns n d3 with
      |(r,d4)=>(.bin (pick [] [[43],[45],[42]] g) l r,d4)
def eK (st:Dk->aW×Dk):Nat->Dk->List aW×Dk
 |0,d=>([],d)
 |k+1,d=>if d.left>0 then ((st d).1::(eK st k (st d).2).1,(eK st k (st d).2).2) else eK st k d
def cV (st:Dk->aW×Dk) (d:Dk):List aW×Dk:=eK st (draw d 5).1.toNat (draw d 5).2
def gC (d:Dk):Dk:={d with row:=d.row+(if d.gap=1 then 0 else 1)}
def bI (d:Dk):Dk:=
 if d.gap>1 then match draw {d with left:=d.left-1,row:=d.row+1} d.gap with
  |(x,d1)=>{d1 with row:=d1.row+x}
 else {d with left:=d.left-1,row:=d.row+1}
def wF (st:Option (Dk->aW×Dk)) (row kind:Int) (sg:W) (l r:Tr) (d:Dk):aW×Dk:=
 match st with
 |none=>(.bO row sg l r,d)
 |some st=>if kind<9 then (.bO row sg l r,d) else match cV st d with
  |(a,d1)=>if kind<11 then (.fZ row sg l r a,gC d1) else match draw d1 2 with
   |(t,d2)=>if t=1 then match cV st (gC d2) with
      |(b,d3)=>(.ifs row sg l r a b,gC d3)
    else (.ifs row sg l r a [],gC d2)
def jI (st:Option (Dk->aW×Dk)) (ns:List W) (row kind:Int) (d:Dk):aW×Dk:=
 match draw d 2 with
 |(g,d1)=>match k7 ns 1 d1 with
  |(l,d2)=>match k7 ns 1 d2 with
   |(r,d3)=>wF st row kind (pick [] zm g) l r d3
def mP (st:Option (Dk->aW×Dk)) (ns:List W) (d:Dk):aW×Dk:=
 match draw (bI d) 13 with
 |(kind,d1)=>if kind<3/\ns≠[] then match draw d1 ns.length with
    |(j,d2)=>(.ask (bI d).row (pick [] ns j),d2)
  else if kind<5/\ns≠[] then match draw d1 ns.length with
   |(j,d2)=>match k7 ns 1 d2 with
    |(e,d3)=>(.put (bI d).row (pick [] ns j) e,d3)
  else if kind<7 then match k7 ns 1 d1 with
   |(e,d2)=>(.say (bI d).row e,d2)
  else if kind=7 then match draw d1 3 with
   |(z,d2)=>if z=0 then (.stop (bI d).row,d2) else jI st ns (bI d).row kind d2
  else jI st ns (bI d).row kind d1
def fW (ns:List W):Nat->Dk->aW×Dk
 |0,d=>mP none ns d
 |n+1,d=>mP (some (fW ns n)) ns d
def jy:List W:=[[97],[97,98],[98]]
def fO:List W->Dk->List gf×Dk
 |[],d=>([],d)
 |n::r,d=>match draw d 4 with
  |(j,d1)=>match draw d1 (pick 2 [2,2,3,4] j) with
   |(f,d2)=>match fO r d2 with
    |(bs,d3)=>(⟨n,pick 2 [2,2,3,4] j,f⟩::bs,d3)
def wG (most:Int) (d:Dk):Prog×Dk:=
 match draw d 4 with
 |(m,d1)=>match fO (jy.take m.toNat) d1 with
  |(bs,d2)=>match draw d2 4 with
   |(g,d3)=>match cV (fW (bs.map (·.name)) 3) {d3 with gap:=pick 0 [0,0,1,30] g,left:=most,row:=bs.length} with
    |(a,d4)=>match cV (fW (bs.map (·.name)) 3) d4 with
     |(b,d5)=>match cV (fW (bs.map (·.name)) 3) d5 with
      |(c,d6)=>(⟨bs,a++b++c⟩,d6)
def qE (sc:List Int):Dk:=⟨sc.map fun c=>if c ≥ 10 ^ 18 then c-10 ^ 18 else c,sc.map fun c=>decide (c ≥ 10 ^ 18),0,0,0,0⟩
theorem br{d d':Dk}{many x:Int}(h:draw d many=(x,d')):dJ d d':=by have:=qD d many;rw[h] at this;exact this
theorem bE{d d':Dk}{many x:Int}(h:draw d many=(x,d'))(p:0<many):0<=x/\x<many:=by have:=BD d p;rw[h] at this;exact this
theorem gD{α:Type}{l:List α}(d:α){i:Int}(h0:0<=i)(h1:i<l.length):pick d l i∈l:=by
 unfold pick;rw[ZX,ZK (by lia)];exact ZT _
abbrev pF (bs:List gf):List W:=bs.map (·.name)
theorem Ii{bs:List gf}{a b c:Int}(ha:0<=a/\a<4)(hb:0<=b/\b<10)(hc:0<=c/\c<6):gK bs (.num (pick 0 [a,b,999] (pick (0:Int) [0,0,0,1,1,2] c))):=by
 have h1:=gD (0:Int) (l:=[0,0,0,1,1,2]) hc.1 hc.2;generalize (pick 0 [0,0,0,1,1,2] c:Int)=j at *;have hj:0<=j/\j<3:=by
  simp only[ZS,zar,or_false] at h1;lia
 have h2:=gD (0:Int) (l:=[a,b,999]) hj.1 hj.2;generalize (pick 0 [a,b,999] j:Int)=v at *;rw[gK];simp only[ZS,zar,or_false] at h2;lia
structure yu(bs:List gf)(n:Nat)(d:Dk)(x:Tr×Dk):Prop where
 own:gK bs x.1
 dep:ju x.1<=n
 same:dJ d x.2
theorem BE{bs:List gf}{n:Nat}{d d1:Dk}(s:dJ d d1):yu bs n d (match draw d1 4 with
 |(a,d2)=>match draw d2 10 with
  |(b,d3)=>match draw d3 6 with
   |(c,d4)=>(.num (pick 0 [a,b,999] (pick (0:Int) [0,0,0,1,1,2] c)),d4)):=by
 rcases h2:draw d1 4 with ⟨a,d2⟩
 rcases h3:draw d2 10 with ⟨b,d3⟩
 rcases h4:draw d3 6 with ⟨c,d4⟩
 simp only[h3,h4];exact⟨Ii (bE h2 (by decide)) (bE h3 (by decide)) (bE h4 (by decide)),zac _,((s.trans (br h2)).trans (br h3)).trans (br h4)⟩
theorem BF{bs:List gf}{n:Nat}{d d1:Dk}(s:dJ d d1)(h:pF bs≠[]):yu bs n d (match draw d1 (pF bs).length with
 |(j,d2)=>(.box (pick [] (pF bs) j),d2)):=by
 rcases h2:draw d1 (pF bs).length with ⟨j,d2⟩
 have p:(0:Int)<(pF bs).length:=by have:=za5.mpr h;lia
 exact⟨gD [] (bE h2 p).1 (bE h2 p).2,zac _,s.trans (br h2)⟩
theorem ji(bs:List gf):∀(n:Nat) (d:Dk),yu bs n d (k7 (pF bs) n d)
 |0,d=>by
  rw[k7];rcases h1:draw d 6 with ⟨k,d1⟩
  simp only;split
  ·exact BE (br h1)
  ·rename_i h;exact BF (br h1) fun z=>h (.inr z)
 |n+1,d=>by
  rw[k7];rcases h1:draw d 6 with ⟨k,d1⟩
  simp only;split
  ·exact BE (br h1)
  ·rename_i h;split
   ·exact BF (br h1) fun z=>h (.inr z)
   ·rcases h2:draw d1 3 with ⟨g,d2⟩
    simp only;have l:=ji bs n d2;rcases h3:k7 (pF bs) n d2 with ⟨a,d3⟩
    rw[h3] at l;have r:=ji bs n d3;simp only;rcases h4:k7 (pF bs) n d3 with ⟨b,d4⟩
    rw[h4] at r;refine⟨⟨gD [] (bE h2 (by decide)).1 (bE h2 (by decide)).2,l.own,r.own⟩,?_,(((br h1).trans (br h2)).trans l.same).trans r.same⟩;have:=l.dep;have:=r.dep;show max (ju a) (ju b)+1<=n+1;simp only at *;lia
structure fF(d:Dk)(l:List aW)(d':Dk):Prop where
 rows:∀s∈l,d.row<s.row/\s.row<=d'.row
 pw:l.Pairwise fun a b=>a.row<b.row
 up:d.row<=d'.row
 cnt:(l.length:Int)=d.left-d'.left
 nn:0<=d'.left
 gap:d'.gap=d.gap
abbrev WG (bs:List gf):aW->Prop:=qt (·∈pF bs) (fun e=>gK bs e/\ju e<=2) (·∈zm)
abbrev Tq (bs:List gf):List aW->Prop:=zo (·∈pF bs) (fun e=>gK bs e/\ju e<=2) (·∈zm)
structure mQ(bs:List gf)(n:Nat)(d:Dk)(x:aW×Dk):Prop where
 l:fF d (cv x.1) x.2
 dep:k6 x.1<=n
 own:WG bs x.1
structure Jz(bs:List gf)(n:Nat)(d:Dk)(x:List aW×Dk):Prop where
 l:fF d (ay x.1) x.2
 dep:eT x.1<=n
 own:Tq bs x.1
theorem fF.nil{d d':Dk}(s:dJ d d')(h:0<=d.left):fF d [] d':=⟨fun s h=>(by cases h),.nil,by rw[s.row];exact zaS _,by rw[s.left];simp,by rw[s.left];exact h,s.gap⟩
theorem fF.app{d d1 d2:Dk}{a b:List aW}(h:fF d a d1)(q:fF d1 b d2):fF d (a++b) d2:=by
 refine⟨fun s hs=>?_,zas.mpr ⟨h.pw,q.pw,fun s hs t ht=>?_⟩,zcg h.up q.up,?_,q.nn,q.gap.trans h.gap⟩
 ·rcases Z1.mp hs with hs |hs
  ·have:=h.rows s hs;have:=q.up;lia
  ·have:=q.rows s hs;have:=h.up;lia
 ·have:=h.rows s hs;have:=q.rows t ht;lia
 ·have:=h.cnt;have:=q.cnt;rw[ZP];lia
theorem fF.pre{d d0 d1:Dk}{a:List aW}(h:fF d0 a d1)(s:dJ d d0):fF d a d1:=⟨fun x hx=>by have:=h.rows x hx;rw[s.row] at this;exact this,h.pw,by have:=h.up;rw[s.row] at this;exact this,by rw[<- s.left];exact h.cnt,h.nn,h.gap.trans s.gap⟩
theorem fF.post{d d1 d2:Dk}{a:List aW}(h:fF d a d1)(e1:d2.left=d1.left)(e2:d1.row<=d2.row)(e3:d2.gap=d1.gap):fF d a d2:=⟨fun x hx=>by have:=h.rows x hx;lia,h.pw,by have:=h.up;lia,by rw[e1];exact h.cnt,by rw[e1];exact h.nn,e3.trans h.gap⟩
theorem fF.NU{d d1 d2:Dk}{a:List aW}(h:fF d a d1)(s:dJ d1 d2):fF d a d2:=h.post s.left (by rw[s.row];exact zaS _) s.gap
theorem kH{d d1:Dk}{a:List aW}(h:fF d a d1):fF d a (gC d1):=h.post rfl (by unfold gC;simp only;split<;>lia) rfl
abbrev cU (d:Dk):Prop:=d.gap=0\/d.gap=1\/d.gap=30
theorem lO{bs:List gf}{n:Nat}{st:Dk->aW×Dk}(qd:∀d:Dk,d.left>0->cU d->mQ bs n d (st d)):∀(k:Nat) (d:Dk),0<=d.left->cU d->Jz bs n d (eK st k d)
 |0,d,h,_=>⟨.nil .refl h,zac _,trivial⟩
 |k+1,d,h,g=>by
  rw[eK];split
  ·rename_i hl;have a:=qd d hl g;have b:=lO qd k (st d).2 a.l.nn (by unfold cU;rw[a.l.gap];exact g);refine⟨a.l.app b.l,?_,a.own,b.own⟩;have:=a.dep;have:=b.dep;show max (k6 (st d).1) (eT (eK st k (st d).2).1)<=n;lia
  ·exact lO qd k d h g
theorem hV{bs:List gf}{n:Nat}{st:Dk->aW×Dk}(qd:∀d:Dk,d.left>0->cU d->mQ bs n d (st d))(d:Dk)(h:0<=d.left)(g:cU d):Jz bs n d (cV st d):=by
 have s:=qD d 5;have b:=lO qd (draw d 5).1.toNat (draw d 5).2 (by rw[s.left];exact h) (by unfold cU;rw[s.gap];exact g);exact⟨b.l.pre s,b.dep,b.own⟩
theorem qF{d:Dk}(g:cU d):(bI d).left=d.left-1/\(bI d).gap=d.gap/\d.row<(bI d).row:=by
 unfold bI;split
 ·rename_i hg;rcases h:draw {d with left:=d.left-1,row:=d.row+1} d.gap with ⟨x,d1⟩
  have s:=br h;have:=bE h (by lia);have s1:=s.left;have s2:=s.row;have s3:=s.gap;simp only at *;exact⟨s1,s3,by lia⟩
 ·exact⟨rfl,rfl,by simp only;lia⟩
theorem jX{d d':Dk}{s:aW}(g:cU d)(hl:0<d.left)(e:cv s=[s])(hr:s.row=(bI d).row)(q:dJ (bI d) d'):fF d (cv s) d':=by
 obtain⟨h1,h2,h3⟩:=qF g;have q1:=q.left;have q2:=q.row;rw[e];refine⟨fun x hx=>?_,zbi _ _,by lia,?_,by lia,q.gap.trans h2⟩
 ·rw[ZU.mp hx,hr];lia
 ·simp only[zbb];lia
theorem qG{d d1 d2:Dk}{s:aW}{l:List aW}(g:cU d)(e:cv s=s::l)(hr:s.row=(bI d).row)(q:dJ (bI d) d1)(b:fF d1 l d2):fF d (cv s) d2:=by
 obtain⟨h1,h2,h3⟩:=qF g;have q1:=q.left;have q2:=q.row;have b1:=b.up;have b2:=b.cnt;rw[e];refine⟨fun x hx=>?_,zaT.mpr ⟨fun x hx=>?_,b.pw⟩,by lia,?_,b.nn,b.gap.trans (q.gap.trans h2)⟩
 ·rcases ZS.mp hx with rfl |hx
  ·rw[hr];lia
  ·have:=b.rows x hx;lia
 ·have:=b.rows x hx;lia
 ·rw[ZN];lia
theorem yu.two{bs:List gf}{d:Dk}{x:Tr×Dk}(h:yu bs 1 d x):gK bs x.1/\ju x.1<=2:=⟨h.own,Z5 h.dep (by decide)⟩
theorem CN{bs:List gf}{n:Nat}{st:Option (Dk->aW×Dk)}(qd:∀s,st=some s->∃m,n=m+1/\∀d:Dk,d.left>0->cU d->mQ bs m d (s d)){d0 d:Dk}{kind:Int}{sg:W}{l r:Tr}(g:cU d0)(hl:0<d0.left)(q:dJ (bI d0) d)(h1:sg∈zm)(h2:gK bs l/\ju l<=2)(h3:gK bs r/\ju r<=2):mQ bs n d0 (wF st (bI d0).row kind sg l r d):=by
 have bO:mQ bs n d0 (.bO (bI d0).row sg l r,d):=⟨jX g hl rfl rfl q,zac _,h1,h2,h3⟩
 unfold wF;cases st with
 |none=>exact bO
 |some s=>
  obtain⟨m,rfl,hs⟩:=qd s rfl;simp only;split
  ·exact bO
  ·obtain⟨e1,e2,e3⟩:=qF g;have l0:0<=d.left:=by have:=q.left;lia
   have g0:cU d:=by unfold cU;rw[q.gap,e2];exact g
   have a:=hV hs d l0 g0;rcases ha:cV s d with ⟨xs,d1⟩
   rw[ha] at a;simp only;have da:=a.dep;simp only at da;split
   ·exact⟨qG g rfl rfl q (kH a.l),by show eT xs+1<=m+1;lia,h1,h2,h3,a.own⟩
   ·rcases ht:draw d1 2 with ⟨t,d2⟩
    simp only;have a2:=a.l.NU (br ht);split
    ·have a3:=kH a2;have b:=hV hs (gC d2) a3.nn (by unfold cU;rw[a3.gap,q.gap,e2];exact g);rcases hb:cV s (gC d2) with ⟨ys,d3⟩
     rw[hb] at b;have db:=b.dep;simp only at db;simp only;exact⟨qG g rfl rfl q (kH (a3.app b.l)),by show max (eT xs) (eT ys)+1<=m+1;lia,h1,h2,h3,a.own,b.own⟩
    ·have a3:=kH a2;refine⟨qG (l:=ay xs++ay []) g rfl rfl q (by rw[ay,Z9];exact a3),?_,h1,h2,h3,a.own,trivial⟩;show max (eT xs) (eT [])+1<=m+1;rw[eT];lia
theorem rn{bs:List gf}{n:Nat}{st:Option (Dk->aW×Dk)}(qd:∀s,st=some s->∃m,n=m+1/\∀d:Dk,d.left>0->cU d->mQ bs m d (s d)){d0 d:Dk}{kind:Int}(g:cU d0)(hl:0<d0.left)(q:dJ (bI d0) d):mQ bs n d0 (jI st (pF bs) (bI d0).row kind d):=by
 unfold jI;rcases h1:draw d 2 with ⟨z,d1⟩
 simp only;have a:=ji bs 1 d1;rcases h2:k7 (pF bs) 1 d1 with ⟨l,d2⟩
 rw[h2] at a;simp only;have b:=ji bs 1 d2;rcases h3:k7 (pF bs) 1 d2 with ⟨r,d3⟩
 rw[h3] at b;exact CN qd g hl (((q.trans (br h1)).trans a.same).trans b.same) (gD [] (bE h1 (by decide)).1 (bE h1 (by decide)).2) a.two b.two
theorem tJ{bs:List gf}{n:Nat}{st:Option (Dk->aW×Dk)}(qd:∀s,st=some s->∃m,n=m+1/\∀d:Dk,d.left>0->cU d->mQ bs m d (s d)){d:Dk}(hl:0<d.left)(g:cU d):mQ bs n d (mP st (pF bs) d):=by
 have nm:∀ {d1 d2:Dk} {j:Int},pF bs≠[]->draw d1 (pF bs).length=(j,d2)->pick [] (pF bs) j∈pF bs:=fun {d1 d2 j} ne e=>by
  have p:(0:Int)<(pF bs).length:=by have:=za5.mpr ne;lia
  exact gD [] (bE e p).1 (bE e p).2
 unfold mP;rcases h1:draw (bI d) 13 with ⟨kind,d1⟩
 have q1:=br h1;simp only;split
 ·rename_i c;rcases h2:draw d1 (pF bs).length with ⟨j,d2⟩
  exact⟨jX g hl rfl rfl (q1.trans (br h2)),zac _,nm c.2 h2⟩
 ·split
  ·rename_i c;rcases h2:draw d1 (pF bs).length with ⟨j,d2⟩
   simp only;have a:=ji bs 1 d2;rcases h3:k7 (pF bs) 1 d2 with ⟨e,d3⟩
   rw[h3] at a;exact⟨jX g hl rfl rfl ((q1.trans (br h2)).trans a.same),zac _,nm c.2 h2,a.two⟩
  ·split
   ·have a:=ji bs 1 d1;rcases h3:k7 (pF bs) 1 d1 with ⟨e,d3⟩
    rw[h3] at a;exact⟨jX g hl rfl rfl (q1.trans a.same),zac _,a.two⟩
   ·split
    ·rcases h2:draw d1 3 with ⟨z,d2⟩
     simp only;split
     ·exact⟨jX g hl rfl rfl (q1.trans (br h2)),zac _,trivial⟩
     ·exact rn qd g hl (q1.trans (br h2))
    ·exact rn qd g hl q1
theorem kJ(bs:List gf):∀(n:Nat) (d:Dk),d.left>0->cU d->mQ bs n d (fW (pF bs) n d)
 |0,d,h,g=>tJ (fun s e=>by cases e) h g
 |n+1,d,h,g=>tJ (fun s e=>by cases e;exact⟨n,rfl,kJ bs n⟩) h g
theorem tK:∀(ns:List W) (d:Dk),((fO ns d).1.map (·.name))=ns/\(∀b∈(fO ns d).1,2<=b.size/\b.size<=4/\0<=b.first/\b.first<b.size)
 |[],d=>⟨rfl,fun b h=>by cases h⟩
 |n::r,d=>by
  rw[fO];rcases h1:draw d 4 with ⟨j,d1⟩
  simp only;have pj:=gD (2:Int) (l:=[2,2,3,4]) (bE h1 (by decide)).1 (bE h1 (by decide)).2;generalize (pick 2 [2,2,3,4] j:Int)=sz at *;have hs:2<=sz/\sz<=4:=by
   simp only[ZS,zar,or_false] at pj;lia
  rcases h2:draw d1 sz with ⟨f,d2⟩
  simp only;obtain⟨a,b⟩:=tK r d2;rcases h3:fO r d2 with ⟨bs,d3⟩
  rw[h3] at a b;simp only at a b ⊢;refine⟨by rw[ZW,a],fun x hx=>?_⟩;rcases ZS.mp hx with rfl |hx
  ·have:=bE h2 (by lia);exact⟨hs.1,hs.2,this.1,this.2⟩
  ·exact b x hx
structure Ij(most:Int)(pr:Prog):Prop where
 pw:(ay pr.body).Pairwise fun a b=>a.row<b.row
 pos:∀s∈ay pr.body,0<s.row
 vy:((ay pr.body).length:Int)<=most
 dep:eT pr.body<=3
 own:Tq pr.ar pr.body
 nb:(pr.ar.map (·.name)).Nodup
 len:pr.ar.length<=3
 size:∀b∈pr.ar,2<=b.size/\b.size<=4/\0<=b.first/\b.first<b.size
theorem wH{nm:W->Prop}{ex:Tr->Prop}{sg:W->Prop}:∀(a b:List aW),zo nm ex sg a->zo nm ex sg b->zo nm ex sg (a++b)
 |[],b,_,h=>h
 |s::r,b,h,h2=>⟨h.1,wH r b h.2 h2⟩
theorem jf:∀(a b:List aW),ay (a++b)=ay a++ay b
 |[],b=>rfl
 |s::r,b=>by
  show cv s++ay (r++b)=(cv s++ay r)++ay b;rw[jf r b,ZZ]
theorem CO{most:Int}(hm:0<=most)(d:Dk):Ij most (wG most d).1:=by
 unfold wG;rcases h1:draw d 4 with ⟨m,d1⟩
 simp only;obtain⟨a,b⟩:=tK (jy.take m.toNat) d1;rcases h2:fO (jy.take m.toNat) d1 with ⟨bs,d2⟩
 rw[h2] at a b;simp only at a b ⊢;rcases h3:draw d2 4 with ⟨j,d3⟩
 simp only;have pj:=gD (0:Int) (l:=[0,0,1,30]) (bE h3 (by decide)).1 (bE h3 (by decide)).2;generalize (pick 0 [0,0,1,30] j:Int)=gp at *;have g0:cU {d3 with gap:=gp,left:=most,row:=bs.length}:=by
  show gp=0\/gp=1\/gp=30;simp only[ZS,zar,or_false] at pj;lia
 generalize Ll:({d3 with gap:=gp,left:=most,row:=bs.length}:Dk)=d0 at *;have el:d0.left=most:=by rw[<- Ll]
 have er:d0.row=bs.length:=by rw[<- Ll]
 have x:=hV (kJ bs 3) d0 (by rw[el];exact hm) g0;rcases k1:cV (fW (pF bs) 3) d0 with ⟨xa,d4⟩
 rw[k1] at x;simp only;have y:=hV (kJ bs 3) d4 x.l.nn (by unfold cU;rw[x.l.gap];exact g0);rcases k2:cV (fW (pF bs) 3) d4 with ⟨xb,d5⟩
 rw[k2] at y;simp only;have z:=hV (kJ bs 3) d5 y.l.nn (by unfold cU;rw[y.l.gap,x.l.gap];exact g0);rcases k3:cV (fW (pF bs) 3) d5 with ⟨xc,d6⟩
 rw[k3] at z;simp only;have l:=(x.l.app y.l).app z.l;rw[<- jf,<- jf] at l;have dx:=x.dep;have dy:=y.dep;have dz:=z.dep;refine⟨l.pw,fun s hs=>?_,?_,?_,wH _ _ (wH _ _ x.own y.own) z.own,?_,?_,b⟩
 ·have:=(l.rows s hs).1;rw[er] at this;lia
 ·have:=l.cnt;have:=l.nn;rw[el] at *;simp only;lia
 ·show eT (xa++xb++xc)<=3;rw[sY,sY];simp only at dx dy dz;lia
 ·rw[a];exact(by decide:jy.Nodup).sublist (List.take_sublist _ _)
 ·have:=congrArg zad a;rw[ZL,zaP] at this;have:jy.length=3:=rfl;lia
theorem aV{d d':Dk}{many x:Int}(h:draw d many=(x,d')):d'.pos=d.pos+1:=by
 unfold draw at h;split at h
 ·cases h;rfl
 ·split at h<;>cases h<;>rfl
theorem sJ(ns:List W):∀(n:Nat) (d:Dk),(k7 ns n d).2.pos+2<=d.pos+6*2 ^ n
 |0,d=>by
  rw[k7];rcases h1:draw d 6 with ⟨k,d1⟩
  have p1:=aV h1;simp only;split
  ·rcases h2:draw d1 4 with ⟨a,d2⟩
   have p2:=aV h2;simp only;rcases h3:draw d2 10 with ⟨b,d3⟩
   have p3:=aV h3;simp only;rcases h4:draw d3 6 with ⟨c,d4⟩
   have p4:=aV h4;simp only;lia
  ·rcases h2:draw d1 ns.length with ⟨a,d2⟩
   have p2:=aV h2;simp only;lia
 |n+1,d=>by
  rw[k7];have pw:1<=2 ^ n:=Nat.one_le_two_pow;have pe:(2:Int) ^ (n+1)=2*2 ^ n:=by rw[Int.pow_succ,Int.mul_comm]
  have pc:((2 ^ n:Nat):Int)=(2:Int) ^ n:=by simp
  rcases h1:draw d 6 with ⟨k,d1⟩
  have p1:=aV h1;simp only;split
  ·rcases h2:draw d1 4 with ⟨a,d2⟩
   have p2:=aV h2;simp only;rcases h3:draw d2 10 with ⟨b,d3⟩
   have p3:=aV h3;simp only;rcases h4:draw d3 6 with ⟨c,d4⟩
   have p4:=aV h4;simp only;rw[pe];generalize (2:Int) ^ n=z at *;lia
  ·split
   ·rcases h2:draw d1 ns.length with ⟨a,d2⟩
    have p2:=aV h2;simp only;rw[pe];generalize (2:Int) ^ n=z at *;lia
   ·rcases h2:draw d1 3 with ⟨g,d2⟩
    have p2:=aV h2;simp only;have l:=sJ ns n d2;rcases h3:k7 ns n d2 with ⟨a,d3⟩
    rw[h3] at l;simp only at l ⊢;have r:=sJ ns n d3;rcases h4:k7 ns n d3 with ⟨b,d4⟩
    rw[h4] at r;simp only at r ⊢;rw[pe];generalize (2:Int) ^ n=z at *;lia
theorem jY{ns:List W}{d d':Dk}{t:Tr}(h:k7 ns 1 d=(t,d')):d'.pos<=d.pos+10:=by
 have:=sJ ns 1 d;rw[h] at this;simp only at this;have e:(2:Int) ^ 1=2:=rfl;rw[e] at this;lia
def sB:Nat->Int
 |0=>30
 |n+1=>30+8*sB n
theorem qH:∀n,0<=sB n
 |0=>by decide
 |n+1=>by have:=qH n;rw[sB];lia
theorem nM{st:Dk->aW×Dk}{c:Int}(hc:0<=c)(h:∀d,(st d).2.pos<=d.pos+c):∀(k:Nat) (d:Dk),(eK st k d).2.pos<=d.pos+k*c
 |0,d=>by rw[eK];simp
 |k+1,d=>by
  rw[eK];have e:((k+1:Nat):Int)*c=k*c+c:=by rw[Int.natCast_succ,zcj,zck]
  rw[e];split
  ·have:=nM hc h k (st d).2;have:=h d;simp only;lia
  ·have:=nM hc h k d;lia
theorem kK{st:Dk->aW×Dk}{c:Int}(hc:0<=c)(h:∀d,(st d).2.pos<=d.pos+c)(d:Dk):(cV st d).2.pos<=d.pos+1+4*c:=by
 unfold cV;rcases h1:draw d 5 with ⟨k,d1⟩
 have p:=aV h1;have q:=bE h1 (by decide);have:=nM hc h k.toNat d1;simp only;have:(k.toNat:Int)*c<=4*c:=zbu (by lia) hc;lia
theorem Fw{st:Option (Dk->aW×Dk)}{c:Int}(hc:0<=c)(h:∀s,st=some s->∀d,(s d).2.pos<=d.pos+c)(row kind:Int)(sg:W)(l r:Tr)(d:Dk):(wF st row kind sg l r d).2.pos<=d.pos+3+8*c:=by
 unfold wF;cases st with
 |none=>simp only;lia
 |some s=>
  simp only;split
  ·simp only;lia
  ·have a:=kK hc (h s rfl) d;rcases ha:cV s d with ⟨x,d1⟩
   rw[ha] at a;simp only at a ⊢;split
   ·show d1.pos<=_;lia
   ·rcases ht:draw d1 2 with ⟨t,d2⟩
    have p:=aV ht;simp only;split
    ·have b:=kK hc (h s rfl) (gC d2);rcases hb:cV s (gC d2) with ⟨y,d3⟩
     rw[hb] at b;have e:(gC d2).pos=d2.pos:=rfl;show d3.pos<=_;simp only at b;lia
    ·show d2.pos<=_;lia
theorem tL{st:Option (Dk->aW×Dk)}{c:Int}(hc:0<=c)(h:∀s,st=some s->∀d,(s d).2.pos<=d.pos+c)(ns:List W)(row kind:Int)(d:Dk):(jI st ns row kind d).2.pos<=d.pos+24+8*c:=by
 unfold jI;rcases h1:draw d 2 with ⟨z,d1⟩
 have p1:=aV h1;simp only;rcases h2:k7 ns 1 d1 with ⟨l,d2⟩
 have p2:=jY h2;simp only;rcases h3:k7 ns 1 d2 with ⟨r,d3⟩
 have p3:=jY h3;simp only;have:=Fw hc h row kind (pick [] zm z) l r d3;lia
theorem tM(d:Dk):(bI d).pos<=d.pos+1:=by
 unfold bI;split
 ·rcases h:draw {d with left:=d.left-1,row:=d.row+1} d.gap with ⟨x,d1⟩
  have p:=aV h;simp only at *;lia
 ·simp only;lia
theorem vJ{st:Option (Dk->aW×Dk)}{c:Int}(hc:0<=c)(h:∀s,st=some s->∀d,(s d).2.pos<=d.pos+c)(ns:List W)(d:Dk):(mP st ns d).2.pos<=d.pos+27+8*c:=by
 unfold mP;have p0:=tM d;rcases h1:draw (bI d) 13 with ⟨kind,d1⟩
 have p1:=aV h1;simp only;split
 ·rcases h2:draw d1 ns.length with ⟨j,d2⟩
  have p2:=aV h2;simp only;lia
 ·split
  ·rcases h2:draw d1 ns.length with ⟨j,d2⟩
   have p2:=aV h2;simp only;rcases h3:k7 ns 1 d2 with ⟨e,d3⟩
   have p3:=jY h3;simp only;lia
  ·split
   ·rcases h3:k7 ns 1 d1 with ⟨e,d3⟩
    have p3:=jY h3;simp only;lia
   ·split
    ·rcases h2:draw d1 3 with ⟨z,d2⟩
     have p2:=aV h2;simp only;split
     ·simp only;lia
     ·have:=tL hc h ns (bI d).row kind d2;lia
    ·have:=tL hc h ns (bI d).row kind d1;lia
theorem mx(ns:List W):∀(n:Nat) (d:Dk),(fW ns n d).2.pos<=d.pos+sB n
 |0,d=>by
  have:=vJ (st:=none) (c:=0) (zaS _) (fun s e=>by cases e) ns d;rw[fW,sB];lia
 |n+1,d=>by
  have:=vJ (st:=some (fW ns n)) (qH n) (fun s e=>by cases e;exact mx ns n) ns d;rw[fW,sB];lia
theorem Lm(ns:List W):pF (ns.map fun n=>⟨n,0,0⟩)=ns:=by
 unfold pF;rw[zax];exact List.map_id _
theorem Fx(ns:List W)(n:Nat)(d:Dk):dJ d (k7 ns n d).2:=by
 have:=(ji (ns.map fun n=>⟨n,0,0⟩) n d).same;rw[Lm] at this;exact this
theorem qI{ns:List W}{n:Nat}{d d':Dk}{t:Tr}(h:k7 ns n d=(t,d')):dJ d d':=by have:=Fx ns n d;rw[h] at this;exact this
theorem nO{st:Dk->aW×Dk}(h:∀d,(st d).2.gap=d.gap):∀(k:Nat) (d:Dk),(eK st k d).2.gap=d.gap
 |0,d=>rfl
 |k+1,d=>by
  rw[eK];split
  ·exact(nO h k (st d).2).trans (h d)
  ·exact nO h k d
theorem kL{st:Dk->aW×Dk}(h:∀d,(st d).2.gap=d.gap)(d:Dk):(cV st d).2.gap=d.gap:=(nO h _ _).trans (qD d 5).gap
theorem Fy{st:Option (Dk->aW×Dk)}(h:∀s,st=some s->∀d,(s d).2.gap=d.gap)(row kind:Int)(sg:W)(l r:Tr)(d:Dk):(wF st row kind sg l r d).2.gap=d.gap:=by
 unfold wF;cases st with
 |none=>rfl
 |some s=>
  simp only;split
  ·rfl
  ·have a:=kL (h s rfl) d;rcases ha:cV s d with ⟨x,d1⟩
   rw[ha] at a;simp only at a ⊢;split
   ·exact a
   ·rcases ht:draw d1 2 with ⟨t,d2⟩
    have p:=(br ht).gap;simp only;split
    ·have b:=kL (h s rfl) (gC d2);rcases hb:cV s (gC d2) with ⟨y,d3⟩
     rw[hb] at b;exact b.trans (p.trans a)
    ·exact p.trans a
theorem tO{st:Option (Dk->aW×Dk)}(h:∀s,st=some s->∀d,(s d).2.gap=d.gap)(ns:List W)(row kind:Int)(d:Dk):(jI st ns row kind d).2.gap=d.gap:=by
 unfold jI;rcases h1:draw d 2 with ⟨z,d1⟩
 simp only;rcases h2:k7 ns 1 d1 with ⟨l,d2⟩
 simp only;rcases h3:k7 ns 1 d2 with ⟨r,d3⟩
 simp only;rw[Fy h,(qI h3).gap,(qI h2).gap,(br h1).gap]
theorem tP(d:Dk):(bI d).gap=d.gap:=by
 unfold bI;split
 ·rcases h:draw {d with left:=d.left-1,row:=d.row+1} d.gap with ⟨x,d1⟩
  exact(br h).gap
 ·rfl
theorem vK{st:Option (Dk->aW×Dk)}(h:∀s,st=some s->∀d,(s d).2.gap=d.gap)(ns:List W)(d:Dk):(mP st ns d).2.gap=d.gap:=by
 unfold mP;have p0:=tP d;rcases h1:draw (bI d) 13 with ⟨kind,d1⟩
 have p1:=(br h1).gap.trans p0;simp only;split
 ·rcases h2:draw d1 ns.length with ⟨j,d2⟩
  exact(br h2).gap.trans p1
 ·split
  ·rcases h2:draw d1 ns.length with ⟨j,d2⟩
   simp only;rcases h3:k7 ns 1 d2 with ⟨e,d3⟩
   exact(qI h3).gap.trans ((br h2).gap.trans p1)
  ·split
   ·rcases h3:k7 ns 1 d1 with ⟨e,d3⟩
    exact(qI h3).gap.trans p1
   ·split
    ·rcases h2:draw d1 3 with ⟨z,d2⟩
     simp only;split
     ·exact(br h2).gap.trans p1
     ·rw[tO h];exact(br h2).gap.trans p1
    ·rw[tO h];exact p1
theorem my(ns:List W):∀(n:Nat) (d:Dk),(fW ns n d).2.gap=d.gap
 |0,d=>vK (fun s e=>by cases e) ns d
 |n+1,d=>vK (fun s e=>by cases e;exact my ns n) ns d
end PG
namespace L2
open PySem PySem.Spec PyProof.Rows
structure fG(H:Hp)(D C G:zcl)(d:PG.Dk):Prop where
 dB:H D=some (.lst [.ref C,.int d.pos,.ref G,.int d.left,.int d.row,.int d.gap])
 cs:H C=some (.lst (d.cs.map V.int))
 gs:H G=some (.lst (d.gs.map V.bl))
 Ln:D≠C
 Md:D≠G
 Me:C≠G
 len:d.cs.length<=63
 gl:d.gs.length=d.cs.length
 pos:0<=d.pos
abbrev O2 (D C:zcl):zcl->Prop:=fun b=>b=D\/b=C
section
variable{H H':Hp}{D C G:zcl}{d:PG.Dk}
theorem fG.same(h:fG H D C G d)(s:aw H H'):fG H' D C G d:=⟨s _ _ h.dB,s _ _ h.cs,s _ _ h.gs,h.Ln,h.Md,h.Me,h.len,h.gl,h.pos⟩
theorem fG.put(h:fG H D C G d){d':PG.Dk}(u:bh D H H')(y:H' D=some (.lst [.ref C,.int d'.pos,.ref G,.int d'.left,.int d'.row,.int d'.gap]))(e1:d'.cs=d.cs)(e2:d'.gs=d.gs)(p:0<=d'.pos):fG H' D C G d':=by
 refine⟨y,?_,?_,h.Ln,h.Md,h.Me,?_,?_,p⟩
 ·rw[e1];exact u _ _ h.Ln.symm h.cs
 ·rw[e2];exact u _ _ h.Md.symm h.gs
 ·rw[e1];exact h.len
 ·rw[e1,e2];exact h.gl
theorem fG.dD(h:fG H D C G d):H D≠none:=by rw[h.dB];simp
theorem fG.dC(h:fG H D C G d):H C≠none:=by rw[h.cs];simp
end
structure dO(D C:zcl)(H H':Hp):Prop where
 u:bK (O2 D C) H H'
 kc:∀b,H b≠none->H' b≠none
section
variable{K:ZI}{H0 H H1 H2:Hp}{D C:zcl}
theorem dO.refl:dO D C H H:=⟨.refl,fun _ h=>h⟩
theorem dO.trans(a:dO D C H H1)(b:dO D C H1 H2):dO D C H H2:=⟨a.u.trans b.u,fun z h=>b.kc z (a.kc z h)⟩
theorem dO.of(s:aw H H1):dO D C H H1:=⟨.of s,fun b h=>by
 cases e:H b with
 |none=>exact absurd e h
 |some o=>rw[s b o e];simp⟩
theorem dO.put(o:HO){p:zcl}(hp:p=D\/p=C):dO D C H (upd H p o):=⟨bK.refl.put hp o,fun b h=>by
 by_cases z:b=p
 ·subst z;rw[ao];simp
 ·rw[aR z];exact h⟩
theorem dO.get(a:dO D C H H1){b:zcl}{o:HO}(h:H b=some o)(n1:b≠D)(n2:b≠C):H1 b=some o:=a.u b o (fun z=>z.elim n1 n2) h
theorem Own.chg{d:Dp}{v:V}(f:Own K H0 H d v)(c:dO D C H H1)(hD:H0 D≠none)(hC:H0 C≠none):Own K H0 H1 d v:=fun O hO=>by
 have:=f (fun b=>O b\/O2 D C b) fun b hb=>by
  rcases hb with hb |rfl |rfl
  ·exact hO b hb
  ·exact hD
  ·exact hC
 exact(this.up (c.u.mono fun b hb=>.inr hb)).sub fun b hb=>.inl hb
theorem a8.chg{ds:List Dp}{vs:List V}(f:a8 K H0 H ds vs)(c:dO D C H H1)(hD:H0 D≠none)(hC:H0 C≠none):a8 K H0 H1 ds vs:=fun O hO=>by
 have:=f (fun b=>O b\/O2 D C b) fun b hb=>by
  rcases hb with hb |rfl |rfl
  ·exact hO b hb
  ·exact hD
  ·exact hC
 exact(this.up (c.u.mono fun b hb=>.inr hb)).sub fun b hb=>.inl hb
end
section
variable(K:ZI)
def Lo:Sp:=fun vs H Q _=>∃(D C G:zcl) (d:PG.Dk) (many:Int),vs=[.ref D,.int many]/\fG H D C G d/\0<many/\many<=1000/\d.pos<=2 ^ 50/\
 ∀x d' H',PG.draw d many=(x,d')->dO D C H H'->fG H' D C G d'->Q (.int x) H'
def Lp:Sp:=fun vs H Q _=>∃(a:zcl) (ns:List Int),vs=[.ref a]/\gQ K H a (ns.map V.int)/\ns.length<=63/\
 ∀D C G H',aw H H'->H D=none->H C=none->fG H' D C G (PG.qE ns)->Q (.ref D) H'
def pG (H:Hp) (N:zcl) (ns:List PM.W):Prop:=H N=some (.lst (ns.map fun n=>V.str (L2.S n)))
def FA (n:Nat):Sp:=fun vs H Q _=>∃(D C G N:zcl) (d:PG.Dk) (ns:List PM.W) (k:Nat),vs=[.ref D,.ref N,.int k]/\k<n/\d.pos+6*2 ^ k<=2 ^ 50/\fG H D C G d/\pG H N ns/\N≠D/\N≠C/\ns.length<=10/\
 ∀t d' v H',PG.k7 ns k d=(t,d')->dO D C H H'->fG H' D C G d'->Own K H H' (k5 t) v->Q v H'
def BG (n:Nat):Sp:=fun vs H Q _=>∃(D C G N:zcl) (d:PG.Dk) (ns:List PM.W) (m:Nat),vs=[.ref D,.ref N,.int (3-(m:Int))]/\m<n/\m<=3/\d.pos+PG.sB m<=2 ^ 49/\PG.cU d/\fG H D C G d/\pG H N ns/\N≠D/\N≠C/\ns.length<=10/\
 ∀s d' v H',PG.fW ns m d=(s,d')->dO D C H H'->fG H' D C G d'->Own K H H' (du s) v->Q v H'
def JA (n:Nat):Sp:=fun vs H Q _=>∃(D C G N:zcl) (d:PG.Dk) (ns:List PM.W) (m:Nat),vs=[.ref D,.ref N,.int (3-(m:Int))]/\m<n/\m<=3/\d.pos+1+4*PG.sB m<=2 ^ 49/\PG.cU d/\fG H D C G d/\pG H N ns/\N≠D/\N≠C/\ns.length<=10/\
 ∀b d' l us H',PG.cV (PG.fW ns m) d=(b,d')->dO D C H H'->fG H' D C G d'->H l=none->H' l=some (.lst us)->a8 K H H' (b.map du) us->Q (.ref l) H'
def Ik:Sp:=fun vs H Q _=>∃(D C G:zcl) (d:PG.Dk) (most:Int),vs=[.ref D,.int most]/\fG H D C G d/\0<=most/\d.pos<=2 ^ 48/\
 ∀pr d' v H',PG.wG most d=(pr,d')->dO D C H H'->fG H' D C G d'->Own K H H' (gN pr) v->Q v H'
end
theorem sN{l:List Int}{c:Int}(x:Int)(h0:0<=c)(h1:c<l.length):xP (l.map V.int) c=some (V.int (PG.pick x l c)):=by
 obtain⟨j,rfl⟩:∃j:Nat,c=j:=⟨c.toNat,by lia⟩
 have hj:j<l.length:=by lia
 refine aq ?_;unfold PG.pick;rw[ZO,zaa,ZX,ZK hj];rfl
theorem wI{ns:List PM.W}{c:Int}(h0:0<=c)(h1:c<ns.length):xP (ns.map fun n=>V.str (L2.S n)) c=some (V.str (L2.S (PG.pick [] ns c))):=by
 obtain⟨j,rfl⟩:∃j:Nat,c=j:=⟨c.toNat,by lia⟩
 have hj:j<ns.length:=by lia
 refine aq ?_;unfold PG.pick;rw[ZO,zaa,ZX,ZK hj];rfl
theorem FC{z:Int}(h0:0<=z)(h3:z<3):∃c,xP (ZJ "+-*").cps.toList z=some c/\V.str ⟨#[c]⟩=V.str (L2.S (PG.pick [] [[43],[45],[42]] z)):=by
 have z3:z=0\/z=1\/z=2:=by lia
 rcases z3 with rfl |rfl |rfl
 ·exact⟨43,aq (j:=0) (by decide +kernel),rfl⟩
 ·exact⟨45,aq (j:=1) (by decide +kernel),rfl⟩
 ·exact⟨42,aq (j:=2) (by decide +kernel),rfl⟩
theorem Lq{z:Int}(h0:0<=z)(h3:z<2):∃c,xP (ZJ "<=").cps.toList z=some c/\V.str ⟨#[c]⟩=V.str (L2.S (PG.pick [] PG.zm z)):=by
 have z3:z=0\/z=1:=by lia
 rcases z3 with rfl |rfl
 ·exact⟨60,aq (j:=0) (by decide +kernel),rfl⟩
 ·exact⟨61,aq (j:=1) (by decide +kernel),rfl⟩
inductive Sn where
 |ask (s:PG.b3) |say (n:Int) (s:PG.b3) |fin |bO |round
def uN:Sn->Dp
 |.ask s=>.tup [.tup [.str "ask"],Bv (some s)]
 |.say n s=>.tup [.tup [.str "say",.int n],Bv (some s)]
 |.fin=>.tup [.tup [.str "end"],.b4]
 |.bO=>.tup [.tup [.str "must"],.b4]
 |.round=>.tup [.tup [.str "round"],.b4]
def jZ (pr:PG.Prog) (s:PG.b3):Option Sn:=if s.1=0 then some .fin else if oX pr.body s.1=true then some (.ask s) else match jW pr s.1 s.2 0 with
 |(none,_)=>some .bO
 |(some y,some n)=>some (.say n y)
 |(some _,none)=>none
def yv (pr:PG.Prog) (s:PG.b3):PG.b3:=(jW pr s.1 s.2 0).1.getD s
def xD (pr:PG.Prog):Nat->List PG.b3->PG.b3->Sn
 |0,_,_=>.round
 |n+1,gone,s=>if s∈gone then .round else match jZ pr s with
  |some x=>x
  |none=>xD pr n (gone++[s]) (yv pr s)
theorem yx{pr:PG.Prog}{s:PG.b3}(h:jZ pr s=none):s.1≠0/\oX pr.body s.1=false/\(jW pr s.1 s.2 0).1=some (yv pr s)/\(jW pr s.1 s.2 0).2=none:=by
 unfold jZ at h;split at h
 ·cases h
 ·rename_i h0;split at h
  ·cases h
  ·rename_i ha;unfold yv;rcases e:jW pr s.1 s.2 0 with ⟨o,sd⟩
   rw[e] at h;cases o with
   |none=>cases h
   |some y=>
    cases sd with
    |none=>exact⟨h0,by simpa using ha,rfl,rfl⟩
    |some n=>cases h
theorem gc.Ts{pr:PG.Prog}(d:iO pr){s:PG.b3}(h:gc pr s)(e:jZ pr s=none):gc pr (yv pr s):=by
 obtain⟨h0,_,h1,_⟩:=yx e;exact h.next d h0 h1
section
variable(P:zcx)(w:zcn)(K:ZI)(CC CW:zcl)
def FD:Sp:=fun vs H Q _=>∃(ch sa:zcl) (pr:PG.Prog) (s:PG.b3),vs=[.ref ch,.ref sa]/\ur K CC H ch pr/\iO pr/\bZ K H sa s.1 s.2/\gc pr s/\∀H',aw H H'->Q (.bl (jZ pr s).isNone) H'
def FE:Sp:=fun vs H Q _=>∃(ch sa:zcl) (pr:PG.Prog) (s:PG.b3) (x:Sn),vs=[.ref ch,.ref sa]/\ur K CC H ch pr/\iO pr/\bZ K H sa s.1 s.2/\gc pr s/\jZ pr s=some x/\∀v H',aw H H'->Rep K H' (uN x) v->Q v H'
def Tt (H:Hp) (wt sg:zcl) (pr:PG.Prog):Prop:=∃dx ch,H wt=some (.ins CW dx [("chart",.ref ch),("sights",.ref sg)])/\H dx=some (.own wt)/\ur K CC H ch pr/\DS qf P w K H sg []
def FF:Sp:=fun vs H Q _=>∃(p dx:zcl) (v:V) (pr:PG.Prog),vs=[.ref p,v]/\H p=some (.ins CW dx [])/\H dx=some (.own p)/\Rep K H (gN pr) v/\iO pr/\∀sg H',bh p H H'->H sg=none->Tt P w K CC CW H' p sg pr->Q .b4 H'
def BH:Sp:=fun vs H Q _=>∃(p sg sa:zcl) (pr:PG.Prog) (s:PG.b3),vs=[.ref p,.ref sa]/\Tt P w K CC CW H p sg pr/\iO pr/\bZ K H sa s.1 s.2/\gc pr s/\cM pr<=20000/\
 ∀v H',bh sg H H'->Rep K H' (uN (xD pr (cM pr+1) [] s)) v->Q v H'
def As:Sp:=fun vs H Q _=>∃(v:V) (sa:zcl) (pr:PG.Prog) (s:PG.b3),vs=[v,.ref sa]/\Rep K H (gN pr) v/\iO pr/\bZ K H sa s.1 s.2/\gc pr s/\cM pr<=20000/\
 ∀v H',aw H H'->Rep K H' (uN (xD pr (cM pr+1) [] s)) v->Q v H'
end
def dM (K:ZI) (H:Hp) (ss:List PG.aW) (fl:List PG.bW) (ps:List V):Prop:=∀(i:Nat) (s:PG.aW) (f:PG.bW),ss[i]?=some s->fl[i]?=some f->∃p u wl,ps[i]?=some (.ref p)/\dq K H p [u,.ref wl]/\Rep K H (du s) u/\H wl=some (.lst (f.2.2.map V.int))
structure Il(K:ZI)(H:Hp)(md:zcl)(pr:PG.Prog):Prop where
 at_:∃(F N Z fa:zcl) (ps:List V),H md=some (.lst [.ref F,.ref N,.ref Z,.ref fa])/\ps.length=(PG.ay pr.body).length/\H F=some (.dK (bS (PG.ay pr.body) ps))/\dM K H (PG.ay pr.body) (PG.aI pr.body 0) ps/\H N=some (.lst (pr.ar.map fun b=>V.str (S b.name)))/\H Z=some (.lst (pr.ar.map fun b=>V.int b.size))/\bZ K H fa (PG.aP pr.body 0) (pr.ar.map (·.first))
theorem dM.mono{K:ZI}{H H':Hp}{ss:List PG.aW}{fl:List PG.bW}{ps:List V}(h:dM K H ss fl ps)(s:aw H H'):dM K H' ss fl ps:=fun i x f e1 e2=>by
 obtain⟨p,u,wl,h1,h2,h3,h4⟩:=h i x f e1 e2;exact⟨p,u,wl,h1,s.bB h2,h3.mono s,s _ _ h4⟩
theorem Il.mono{K:ZI}{H H':Hp}{md:zcl}{pr:PG.Prog}(h:Il K H md pr)(s:aw H H'):Il K H' md pr:=by
 obtain⟨F,N,Z,fa,ps,h1,h2,h3,h4,h5,h6,h7⟩:=h.at_;exact⟨⟨F,N,Z,fa,ps,s _ _ h1,h2,s _ _ h3,h4.mono s,s _ _ h5,s _ _ h6,h7.mono s⟩⟩
section
variable(K:ZI)
def Im (n:Nat):Sp:=fun vs H Q _=>∃(v:V) (N va:zcl) (bs:List PG.gf) (vals:List Int) (e:PM.Tr),vs=[v,.ref N,.ref va]/\Rep K H (k5 e) v/\H N=some (.lst (bs.map fun b=>V.str (S b.name)))/\dq K H va (vals.map V.int)/\vals.length=bs.length/\(bs.map (·.name)).Nodup/\(∀x,zr (bU bs (vals.map V.int)) (.box x)->x∈bs.map (·.name))/\zr (bU bs (vals.map V.int)) e/\PG.ju e<n/\PG.ju e<=2/\
 ∀H',aw H H'->Q (.int (wv bs vals e)) H'
def FG:Sp:=fun vs H Q _=>∃(md sa:zcl) (pr:PG.Prog) (vals:List Int) (i:Nat) (hi:i<(PG.ay pr.body).length) (sg:W) (l r:PM.Tr),vs=[.ref md,.ref sa]/\Il K H md pr/\iO pr/\bZ K H sa (PG.ay pr.body)[i].row vals/\gc pr ((PG.ay pr.body)[i].row,vals)/\jx (PG.ay pr.body)[i]=some (sg,l,r)/\
 ∀H',aw H H'->Q (.bl (fS sg (wv pr.ar vals l) (wv pr.ar vals r))) H'
def Io:Sp:=fun vs H Q _=>∃(md sa:zcl) (pr:PG.Prog) (s:PG.b3),vs=[.ref md,.ref sa]/\Il K H md pr/\iO pr/\bZ K H sa s.1 s.2/\gc pr s/\
 ((s.1=0->Q (.str "end") H)/\∀i (hi:i<(PG.ay pr.body).length),(PG.ay pr.body)[i].row=s.1->Q (.str (jH (PG.ay pr.body)[i].wd)) H)
def Ip:Sp:=fun vs H Q _=>∃(md sa:zcl) (pr:PG.Prog) (s:PG.b3),vs=[.ref md,.ref sa,.b4]/\Il K H md pr/\iO pr/\bZ K H sa s.1 s.2/\gc pr s/\s.1≠0/\oX pr.body s.1=false/\
 ∀l sv H',aw H H'->H' l=some (.lst [sv,E3 (jW pr s.1 s.2 0).2])->oV K H' (jW pr s.1 s.2 0).1 sv->Q (.ref l) H'
def Iq:Sp:=fun vs H Q _=>∃(md sa:zcl) (pr:PG.Prog) (s:PG.b3),vs=[.ref md,.ref sa]/\Il K H md pr/\iO pr/\bZ K H sa s.1 s.2/\gc pr s/\cM pr<=20000/\
 ∀v H',aw H H'->Rep K H' (uN (xD pr (cM pr+1) [] s)) v->Q v H'
end
theorem FI{bs:List PG.gf}{vs:List V}:∀ {x:W} {v:V},b5 (bU bs vs) (.inr (S x))=some v->x∈bs.map (·.name):=by
 induction bs generalizing vs with
 |nil=>intro x v h;unfold bU at h;rw[List.zipWith_nil_left] at h;cases h
 |cons b r ih=>
  intro x v h;cases vs with
  |nil=>unfold bU at h;rw[List.zipWith_nil_right] at h;cases h
  |cons y ys=>
   rw[show bU (b::r) (y::ys)=(Sum.inr (S b.name),y)::bU r ys from rfl] at h;by_cases e:(Sum.inr (S b.name):Key)=.inr (S x)
   ·have:b.name=x:=oU.mp (Sum.inr.inj e);rw[<- this];exact Z0 ..
   ·rw[bY e] at h;exact ZV _ (ih h)
def Ir (K:ZI):R2:=fun x y H Q=>∃d es,Rep K H d x/\Rep K H (.lst es) y/\d.py.canLay0=true/\PyData.canLayAll0 (Dp.ka es)=true/\d.py.depth<=60/\Q (.bl (!(Dp.ka es).any fun e=>PyData.eqv e d.py)) H
theorem CQ{X:Cx}(hu:X.A.units+64<cLine):oF X (compareOp .NotIn) (Ir X.K):=by
 intro pins s σ H x y v u Q I rx ry h;obtain⟨d,es,h1,h2,c1,c2,hd,q⟩:=h;obtain⟨as,ra⟩:=jd I h1 rx;obtain⟨bs,rb⟩:=jd I h2 ry;rw[show (Dp.lst es).py=PyData.list (Dp.ka es) from by rw[Dp.py]] at rb;exact SeqAt.notIn_list_reads rb ra c2 c1 (by have:=zbI (PyData.depthAll (Dp.ka es)) d.py.depth;lia) ⟨.bl _,H,I,rfl,q⟩
theorem dM.app{K:ZI}{H:Hp}{s1 s2:List PG.aW}{f1 f2:List PG.bW}{p1 p2:List V}(h1:dM K H s1 f1 p1)(h2:dM K H s2 f2 p2)(l1:p1.length=s1.length)(l2:f1.length=s1.length):dM K H (s1++s2) (f1++f2) (p1++p2):=fun i s f e1 e2=>by
 by_cases h:i<s1.length
 ·rw[zan h] at e1;rw[zan (by lia)] at e2;obtain⟨p,u,wl,a,b⟩:=h1 i s f e1 e2;exact⟨p,u,wl,by rw[zan (by lia)];exact a,b⟩
 ·rw[zag (by lia)] at e1;rw[zag (by lia),l2] at e2;obtain⟨p,u,wl,a,b⟩:=h2 _ s f e1 e2;exact⟨p,u,wl,by rw[zag (by lia),l1];exact a,b⟩
theorem dM.nil{K:ZI}{H:Hp}:dM K H [] [] []:=fun i s f e=>by simp at e
theorem dM.one{K:ZI}{H:Hp}{s:PG.aW}{f:PG.bW}{p wl:zcl}{u:V}(h1:dq K H p [u,.ref wl])(h2:Rep K H (du s) u)(h3:H wl=some (.lst (f.2.2.map V.int))):dM K H [s] [f] [.ref p]:=fun i x g e1 e2=>by
 cases i with
 |zero=>cases e1;cases e2;exact⟨p,u,wl,rfl,h1,h2,h3⟩
 |succ i=>simp at e1
section
variable(K:ZI)
def tQ (n:Nat):Sp:=fun vs H Q _=>∃(b F:zcl) (x:Int) (body:List PG.aW) (H0:Hp) (kvs:List (Key×V)),vs=[.ref b,.int x,.ref F]/\Rep K H0 (.lst (body.map du)) (.ref b)/\H0 F=none/\aw H0 H/\H F=some (.dK kvs)/\(∀s∈PG.ay body,∀kv∈kvs,kv.1≠.inl s.row)/\(PG.ay body).Pairwise (fun a b=>a.row<b.row)/\kvs.length+(PG.ay body).length<=1000/\PG.eT body<n/\
 ∀ps H',bh F H H'->ps.length=(PG.ay body).length->H' F=some (.dK (kvs++bS (PG.ay body) ps))->dM K (wo H' F) (PG.ay body) (PG.aI body x) ps->Q (.ref F) H'
end
theorem FJ{X:Cx}{tg l:Expr}{tl:TE}{K:ZI}(e:X.K=K)(hl:PE X l tl):PI X tg l (vb K tl):=e▸cg hl
theorem CS{vs:List zcm}{ns:List Int}(h:IntsAre vs ns):Vals (ns.map V.int) vs:=by
 induction h with
 |nil=>exact .nil
 |cons _ _ _ ih=>exact .cons ⟨_,rfl⟩ ih
theorem ints_of{vs:List zcm}{ns:List Int}(l:vs.length=ns.length)(h:∀(j:Nat) (v:zcm),vs[j]?=some v->∀n:Int,ns[j]?=some n->∃t:PySem.Tok,v=Value.int n t):IntsAre vs ns:=by
 induction vs generalizing ns with
 |nil=>cases ns with
  |nil=>exact .nil
  |cons _ _=>cases l
 |cons v r ih=>cases ns with
  |nil=>cases l
  |cons n m=>
   obtain⟨t,rfl⟩:=h 0 v rfl n rfl;exact .cons _ _ (ih (Nat.succ.inj l) fun j v e n e2=>h (j+1) v e n e2)
theorem wJ{prog:zcx}{w:zcn}{A:zcw}{E:zcm->zcv->Prop}{s:zcv}{d:zcl}{n:Nat}{P:Nat->zcm->Prop}{OK:Heap->Prop}{R:List zcm->zcv->Prop}(C:PySem.W.KdlSrc prog w "dict" d d n P OK)(hh:A.handled=none)(ok:OK s.heap)(hn:n<=zct)
 (h:∀(h':Heap) (tk:Nat) (acc:Array zcm),(∀b o,s.heap.get? b=some o->h'.get? b=some o)->s.heap.objs.size<h'.objs.size->ItemsOf P acc n->R acc.toList {s with heap:=h',toks:=tk}):wpAny (model prog w) A (collect (.ref d)) R E s:=by
 have lt:=C.there _ ok;unfold collect;refine zco (wpAny_runValue (codeAny_builtin entry_proto_collect' ?_));rw[Around.under_plainId PySem.F.plain_proto_collect _];show wpAny _ A.in1 (newList [] >>= fun l=>again (.builtin "list.__iadd__" ⟨[l,.ref d],[]⟩)) _ _ s;refine zco (wpAny_newObj_type (zcp ⟨plainId_quiet zbO _,codeAny_builtin entry_list_iadd' ?_⟩));rw[Around.under_plainId zbO _];show wpAny _ A.in1 (Builtin.List.listExtendWith (.ref s.heap.objs.size) (.ref d) (.ref s.heap.objs.size)) _ _ _;have key:=PySem.W.kdl_extend (A:=A) (s:={s with heap:=s.heap.push {cls:=.type "list",data:=.seq ([]:List zcm).toArray} }) (R:=fun (q:Result) (s':zcv)=>q=.ok (.ret (.ref s.heap.objs.size))/\wpAny (model prog w) A (load s.heap.objs.size >>= fun o=>match o.data with |.seq xs _=>pure xs.toList |_=>unsupported "internal:collect") R E s') C hh (C.keep _ _ ok fun b _ o e=>Heap.get?_push_of_some _ e) s.heap.objs.size (za1 lt.1) (za1 lt.2) (.ref s.heap.objs.size) 0 (Heap.get?_push_size _ rfl)
  (fun h' tk acc c k g it=>⟨rfl,zco (wpAny_load g (zcp (h h' tk acc (fun b o e=>k b o (Z3 (Heap.lt_size e)) (Heap.get?_push_of_some _ e)) (Heap.lt_size g) it)))⟩) hn
 refine wpAny_mono key (fun fin s' x=>?_) fun e s' x=>by cases x.1
 cases fin with
 |done f=>
  obtain⟨e,x⟩:=x;cases e;exact x
 |again c=>
  refine⟨x.1,codeAny_mono x.2 fun q s2 y=>?_⟩;obtain⟨e,y⟩:=y;cases e;exact y
theorem Iu{kvs:List (Key×V)}{vs:List (Key×zcm)}(r:KV kvs vs):kvs.map (·.1)=vs.map (·.1):=by
 unfold KV at r
 induction r with
 |nil=>rfl
 |cons h _ ih=>rw[ZW,ZW,h.1,ih]
theorem wK{X:Cx}(hc:X.calm=true):lC X (.builtin "sorted") (fun xs H Q=>∃(a:zcl) (kvs:List (Key×V)) (ns:List Int),xs=[.ref a]/\H a=some (.dK kvs)/\kvs.map (·.1)=ns.map Sum.inl/\ns.Pairwise (·<=·)/\ns.length<64/\∀l,H l=none->Q (.ref l) (upd H l (.lst (ns.map V.int)))):=by
 intro pins s σ H xs us Q I r h;obtain⟨a,kvs,ns,rfl,ha,hk,pw,hl,q⟩:=h;obtain⟨u,rfl,ru⟩:=vals1 r;cases (show u=Value.ref a from ru);obtain⟨z,hd,vs,rel,dd⟩:=Jj I.dg ha;have hA:X.A.handled=none:=I.ok.hd hc;obtain⟨ep,dat⟩:=dd.dictAt;have ln:kvs.length=ns.length:=by have:=congrArg zad hk;simpa using this
 have lv:vs.length=ns.length:=by rw[<- rel.length,ln]
 refine Calls.call_function_entry kind_sorted plain_sorted entry_sorted (args_sorted1 _) ?_;unfold Builtin.«sorted»;refine zco (m:=checkCount "sorted" 1 1 _) (zcp ?_);refine zco (wJ (A:=X.A.in1) (PySem.W.kdl_dict (knd:=bG X.prog X.w) (kvs:=vs) (ep:=ep) hd) hA dat (by rw[lv];have:zct=2 ^ 24:=rfl;lia) fun h' tk acc kp uI NV=>?_);have al:acc.toList.length=ns.length:=by rw[za4,NV.1,lv]
 have hI:IntsAre acc.toList ns:=by
  refine ints_of al fun j v e n e2=>?_;obtain⟨k,x,e3,ki⟩:=NV.2 j v (by rw[<- zaB];exact e);have ej:(vs.map (·.1))[j]?=some (.inl n):=by
   rw[show vs.map (·.1)=ns.map Sum.inl from by rw[<- hk];exact(Iu rel).symm,ZO,e2];rfl
  rw[ZO,e3] at ej;cases ej;rcases cI (show oG (.inl n) v=true from ki) with ⟨i,t,e4,e5⟩ |⟨x,t,e4,e5⟩
  ·cases e4;exact⟨t,e5⟩
  ·cases e4
 refine zco (wpAny_newList ?_ (by rw[al];have:zct=2 ^ 24:=rfl;lia));have MB:(h'.push (seqObj "list" acc.toList.toArray 0)).get? h'.objs.size=some (seqObj "list" acc.toList.toArray 0):=Heap.get?_push_size _ rfl;refine zco (zcq (wpAny_call_entry slot_list_sort ⟨_,MB,rfl⟩ entry_list_sort (list_sort_tree MB hI (by rw[al];exact hl) fun out WH a1 a2 a3=>⟨_,rfl,?_⟩) (args_list_sort _)));have e:=List.Perm.eq_of_pairwise (fun a b _ _ x y=>Int.le_antisymm x y) a3 pw a2;subst e;have hle:s.heap.objs.size<=h'.objs.size:=zbr uI;have old:∀b o,s.heap.get? b=some o->(sortedHeap (h'.push (seqObj "list" acc.toList.toArray 0)) h'.objs.size acc.toList out).get? b=some o:=fun b o e=>by
  have h1:=kp b o e;have h2:=Heap.lt_size h1;rw[sortedHeap_old (Z3 h2) (by rw[size_push'];lia),Heap.get?_push_ne _ _ _ (Z3 h2)];exact h1
 obtain⟨My,WI⟩:=sortedHeap_at (out:=out) MB;exact zcp ⟨_,rfl,.ref h'.objs.size,_,I.laid (t':=tk) old hle (show cJ X.prog X.w _ _ _ (.lst (WH.map V.int)) from ⟨by rw[ZL];have:zct=2 ^ 24:=rfl;lia,out.toList,My,CS a1,by simpa[seqObj] using WI⟩),rfl,q _ (I.dg.fresh hle)⟩
section
variable(K:ZI)
def Iw:Sp:=fun vs H Q _=>∃(v:V) (pr:PG.Prog),vs=[v]/\Rep K H (gN pr) v/\iO pr/\∀md H',aw H H'->Il K H' md pr->Q (.ref md) H'
end
def Lr (K:ZI):R2:=fun x y H Q=>∃l,Rep K H (.tup l) x/\Rep K H (.tup l) y/\(Dp.tup l).deep<=60/\Q (.bl true) H
theorem Iy{X:Cx}(hu:X.A.units+64<cLine):oF X (compareOp .Eq) (Lr X.K):=by
 intro pins s σ H x y v u Q I rx ry h;obtain⟨l,h1,h2,hd,q⟩:=h;rw[Rep.aK] at h1 h2;obtain⟨p,xs,rfl,q1,w1⟩:=h1;obtain⟨p',S4,rfl,q2,w2⟩:=h2;cases (show v=Value.ref p from rx);cases (show u=Value.ref p' from ry);obtain⟨a0,v1,t1,_⟩:=I.tuple q1;obtain⟨its',v2,t2,_⟩:=I.tuple q2;unfold Dp.deep at hd;have items:=oT I w1 w2 v1 v2 (A:=X.A.in1) (by show X.A.units+1+_<_;lia);have n1:a0.length=its'.length:=by rw[<- v1.length,<- v2.length,w1.length,w2.length]
 refine SeqAt.eq_tupleAt (e:=fun _=>true) t1 t2 (by lia) (fun j h1 h2=>items j a0[j] its'[j] (by simp at h1;simp[h1]) (by simp at h2;simp[h2])) ?_;rw[all_true];have:(a0.toArray.size==its'.toArray.size)=true:=by simp[n1]
 rw[this];exact⟨.bl true,H,I,rfl,q⟩
mutual
theorem NW{nm:PM.W->Prop}{ex:PM.Tr->Prop}{sg:PM.W->Prop}(he:∀e,ex e->PG.ju e<=2):∀s:PG.aW,PG.qt nm ex sg s->S9 s
 |.ask k b,h=>by simp only[PG.qt] at h ⊢
 |.put k b e,h=>by simp only[PG.qt] at h ⊢;exact⟨trivial,he _ h.2⟩
 |.say k e,h=>by simp only[PG.qt] at h ⊢;exact he _ h
 |.bO k sg l r,h=>by simp only[PG.qt] at h ⊢;exact⟨trivial,he _ h.2.1,he _ h.2.2⟩
 |.stop k,h=>by simp only[PG.qt]
 |.ifs k sg l r a b,h=>by simp only[PG.qt] at h ⊢;exact⟨trivial,he _ h.2.1,he _ h.2.2.1,yy he a h.2.2.2.1,yy he b h.2.2.2.2⟩
 |.fZ k sg l r a,h=>by simp only[PG.qt] at h ⊢;exact⟨trivial,he _ h.2.1,he _ h.2.2.1,yy he a h.2.2.2⟩
theorem yy{nm:PM.W->Prop}{ex:PM.Tr->Prop}{sg:PM.W->Prop}(he:∀e,ex e->PG.ju e<=2):∀b:List PG.aW,PG.zo nm ex sg b->Ny b
 |[],h=>by simp only[PG.zo]
 |s::r,h=>by simp only[PG.zo] at h ⊢;exact⟨NW he s h.1,yy he r h.2⟩
end
theorem Iz{pr:PG.Prog}(dr:iO pr):(Dp.tup [.lst (pr.ar.map lJ),.lst (pr.body.map du)]).deep<=60:=by
 have h1:=jR _ (yy (fun _ h=>h.2) _ dr.own);have h2:=dr.dep;have h3:=tm pr.ar;rw[dY] at h1;simp only[Dp.deep,Dp.fE];lia
theorem IA{pr:PG.Prog}(h:PG.Ij 16 pr):cM pr<=1088:=by
 exact Fp (n:=16) (by rw[<- dZ];have:=h.vy;lia) (fun b hb=>(h.size b hb).2.1) h.len
theorem NX{pr:PG.Prog}(h:PG.Ij 16 pr):iO pr:=⟨⟨h.pw,h.nb,Z5 h.len (by decide),h.pos⟩,Z5 h.dep (by decide),by rw[<- dZ];have:=h.vy;lia,h.own,fun b hb=>⟨(h.size b hb).1,zcg (h.size b hb).2.1 (by decide),(h.size b hb).2.2⟩⟩
theorem BJ(s:PG.b3):(gB s).py.canLay0=true/\(gB s).py.depth<=2:=by
 obtain⟨h1,h2⟩:=sI [s];rw[ZW,zaD,Dp.ka,Dp.ka] at h1 h2;simp only[PyData.canLayAll0,PyData.depthAll,zbE] at h1 h2;exact⟨h1,by lia⟩
theorem qJ(x:Sn):SeqAt.shaped (uN x).py=true:=by
 cases x with
 |ask s=>
  obtain⟨h1,h2⟩:=BJ s;simp only[uN,Bv,gB] at h1 h2 ⊢;simp only[SeqAt.shaped,Dp.py,Dp.ka,PyData.canLay0,PyData.canLayAll0,PyData.depth,PyData.depthAll,zam,decide_eq_true_eq] at h1 h2 ⊢;exact⟨⟨⟨by decide +kernel,trivial⟩,h1,trivial⟩,by lia⟩
 |say n s=>
  obtain⟨h1,h2⟩:=BJ s;simp only[uN,Bv,gB] at h1 h2 ⊢;simp only[SeqAt.shaped,Dp.py,Dp.ka,PyData.canLay0,PyData.canLayAll0,PyData.depth,PyData.depthAll,zam,decide_eq_true_eq] at h1 h2 ⊢;exact⟨⟨⟨by decide +kernel,trivial,trivial⟩,h1,trivial⟩,by lia⟩
 |fin=>decide +kernel
 |bO=>decide +kernel
 |round=>decide +kernel
end L2
section
set_option maxHeartbeats 4000000
namespace Ls
open PySem L2
def top (i:Nat):Stmt:=PySem.Challenge.pw_everyrow_k57_seen_from_standings.main.body.getD i (.Pass ⟨0,0,0,0⟩)
abbrev Au:Stmt:=top 2
abbrev jj:Stmt:=top 3
abbrev lP:Stmt:=top 4
abbrev jJ:Stmt:=top 5
abbrev qK:Stmt:=top 6
abbrev lQ:Stmt:=top 7
abbrev iB:Stmt:=top 8
abbrev wL:Stmt:=top 10
abbrev qL:Stmt:=top 13
abbrev nP:Stmt:=top 14
abbrev nQ:Stmt:=top 15
abbrev wM:Stmt:=top 16
abbrev qM:Stmt:=top 18
abbrev fT:Stmt:=top 19
abbrev lR:Stmt:=top 21
abbrev lS:Stmt:=top 23
abbrev qN:Stmt:=top 24
abbrev lT:Stmt:=top 26
abbrev lU:Stmt:=top 27
abbrev jk:Stmt:=top 28
abbrev dR:Stmt:=top 29
abbrev gE:Stmt:=top 30
abbrev kM:Stmt:=top 31
abbrev lV:Stmt:=top 32
abbrev lW:Stmt:=top 33
abbrev kN:Stmt:=top 34
abbrev kO:Stmt:=top 35
abbrev lX:Stmt:=top 36
abbrev lY:Stmt:=top 37
abbrev lZ:Stmt:=top 38
abbrev FK:Stmt:=top 39
abbrev cA:Stmt:=inClass (top 12) 0
abbrev cB:Stmt:=inClass (top 22) 0
abbrev bt:Stmt:=inClass (top 22) 1
theorem BK:aZ ["program"] ["program"] (aJ Au):=⟨rfl,rfl,rfl,by decide +kernel,rfl,by decide +kernel,by decide +kernel⟩
theorem kZ:aZ ["body", "behind", "told", "place", "statement", "after", "inner"] ["body", "behind"] (aJ jj):=⟨rfl,rfl,rfl,by decide +kernel,rfl,by decide +kernel,by decide +kernel⟩
theorem pH:aZ ["body", "behind"] ["body", "behind"] (aJ lP):=⟨rfl,rfl,rfl,by decide +kernel,rfl,by decide +kernel,by decide +kernel⟩
theorem l7:aZ ["statement", "after"] ["statement", "after"] (aJ jJ):=⟨rfl,rfl,rfl,by decide +kernel,rfl,by decide +kernel,by decide +kernel⟩
theorem tR:aZ ["statement", "after", "word"] ["statement", "after"] (aJ qK):=⟨rfl,rfl,rfl,by decide +kernel,rfl,by decide +kernel,by decide +kernel⟩
theorem pJ:aZ ["statement"] ["statement"] (aJ lQ):=⟨rfl,rfl,rfl,by decide +kernel,rfl,by decide +kernel,by decide +kernel⟩
theorem j0:aZ ["body", "found", "statement", "inner"] ["body"] (aJ iB):=⟨rfl,rfl,rfl,by decide +kernel,rfl,by decide +kernel,by decide +kernel⟩
theorem yz:aZ ["e", "values", "kind", "left", "right"] ["e", "values"] (aJ wL):=⟨rfl,rfl,rfl,by decide +kernel,rfl,by decide +kernel,by decide +kernel⟩
theorem tS:aZ ["chart", "row"] ["chart", "row"] (aJ qL):=⟨rfl,rfl,rfl,by decide +kernel,rfl,by decide +kernel,by decide +kernel⟩
theorem rq:aZ ["chart", "parts"] ["chart", "parts"] (aJ nP):=⟨rfl,rfl,rfl,by decide +kernel,rfl,by decide +kernel,by decide +kernel⟩
theorem rz:aZ ["chart", "named"] ["chart", "named"] (aJ nQ):=⟨rfl,rfl,rfl,by decide +kernel,rfl,by decide +kernel,by decide +kernel⟩
theorem yE:aZ ["chart", "standing", "statement", "values", "left", "right"] ["chart", "standing"] (aJ wM):=⟨rfl,rfl,rfl,by decide +kernel,rfl,by decide +kernel,by decide +kernel⟩
theorem tT:aZ ["chart", "standing", "figure", "row", "statement", "word", "values", "said"] ["chart", "standing", "figure"] (aJ qM):=⟨rfl,rfl,rfl,by decide +kernel,rfl,by decide +kernel,by decide +kernel⟩
theorem iE:aZ ["chart", "standing", "row"] ["chart", "standing"] (aJ fT):=⟨rfl,rfl,rfl,by decide +kernel,rfl,by decide +kernel,by decide +kernel⟩
theorem pK:aZ ["program", "standing"] ["program", "standing"] (aJ lR):=⟨rfl,rfl,rfl,by decide +kernel,rfl,by decide +kernel,by decide +kernel⟩
theorem pL:aZ ["chart", "standing", "word"] ["chart", "standing"] (aJ lS):=⟨rfl,rfl,rfl,by decide +kernel,rfl,by decide +kernel,by decide +kernel⟩
theorem tU:aZ ["chart", "standing", "word", "told"] ["chart", "standing"] (aJ qN):=⟨rfl,rfl,rfl,by decide +kernel,rfl,by decide +kernel,by decide +kernel⟩
theorem pM:aZ ["deck", "many", "at", "place", "found", "number"] ["deck", "many"] (aJ lT):=⟨rfl,rfl,rfl,by decide +kernel,rfl,by decide +kernel,by decide +kernel⟩
theorem pN:aZ ["script", "great"] ["script"] (aJ lU):=⟨rfl,rfl,rfl,by decide +kernel,rfl,by decide +kernel,by decide +kernel⟩
theorem iD:aZ ["deck", "names", "deep", "kind", "sign", "one"] ["deck", "names", "deep"] (aJ jk):=⟨rfl,rfl,rfl,by decide +kernel,rfl,by decide +kernel,by decide +kernel⟩
theorem fX:aZ ["deck", "names", "deep", "k", "kind", "sign", "one", "other", "first", "second"] ["deck", "names", "deep"] (aJ dR):=⟨rfl,rfl,rfl,by decide +kernel,rfl,by decide +kernel,by decide +kernel⟩
theorem jl:aZ ["deck", "names", "deep", "found", "k"] ["deck", "names", "deep"] (aJ gE):=⟨rfl,rfl,rfl,by decide +kernel,rfl,by decide +kernel,by decide +kernel⟩
theorem mR:aZ ["deck", "most", "boxes", "name", "size", "names", "body"] ["deck", "most"] (aJ kM):=⟨rfl,rfl,rfl,by decide +kernel,rfl,by decide +kernel,by decide +kernel⟩
theorem pO:aZ ["body", "then", "found", "at", "statement", "row", "later", "inner"] ["body", "then", "found"] (aJ lV):=⟨rfl,rfl,rfl,by decide +kernel,rfl,by decide +kernel,by decide +kernel⟩
theorem pP:aZ ["program", "boxes", "body", "first", "flat"] ["program"] (aJ lW):=⟨rfl,rfl,rfl,by decide +kernel,rfl,by decide +kernel,by decide +kernel⟩
theorem mS:aZ ["e", "names", "values", "one", "other"] ["e", "names", "values"] (aJ kN):=⟨rfl,rfl,rfl,by decide +kernel,rfl,by decide +kernel,by decide +kernel⟩
theorem mT:aZ ["made", "standing", "statement", "apart"] ["made", "standing"] (aJ kO):=⟨rfl,rfl,rfl,by decide +kernel,rfl,by decide +kernel,by decide +kernel⟩
theorem pQ:aZ ["made", "standing"] ["made", "standing"] (aJ lX):=⟨rfl,rfl,rfl,by decide +kernel,rfl,by decide +kernel,by decide +kernel⟩
theorem pR:aZ ["made", "standing", "figure", "statement", "ways", "values", "at", "number"] ["made", "standing", "figure"] (aJ lY):=⟨rfl,rfl,rfl,by decide +kernel,rfl,by decide +kernel,by decide +kernel⟩
theorem pS:aZ ["made", "standing", "gone", "word", "there", "said"] ["made", "standing"] (aJ lZ):=⟨rfl,rfl,rfl,by decide +kernel,rfl,by decide +kernel,by decide +kernel⟩
theorem FL:aZ ["script", "program", "made", "rows", "cell", "number", "values", "standing", "found", "due"] ["script"] (aJ FK):=⟨rfl,rfl,rfl,by decide +kernel,rfl,by decide +kernel,by decide +kernel⟩
theorem mU:aZ ["self", "program", "boxes", "body"] ["self", "program"] (aJ cA):=⟨rfl,rfl,rfl,by decide +kernel,rfl,by decide +kernel,by decide +kernel⟩
theorem mV:aZ ["self", "program"] ["self", "program"] (aJ cB):=⟨rfl,rfl,rfl,by decide +kernel,rfl,by decide +kernel,by decide +kernel⟩
theorem iF:aZ ["self", "standing", "passed", "here", "told", "each"] ["self", "standing"] (aJ bt):=⟨rfl,rfl,rfl,by decide +kernel,rfl,by decide +kernel,by decide +kernel⟩
set_option genInjectivity false in
structure Ad where
 l9:zcl
 kP:zcu
 cN:zcl
 cW:zcu
 cK:zcl
 cD:zcu
 eC:zcl
 eW:zcu
 i8:zcl
 jm:zcu
 eX:zcl
 fB:zcu
 bJ:zcl
 bL:zcu
 kQ:zcl
 j3:zcu
 j4:zcl
 kR:zcu
 jn:zcl
 jz:zcu
 jo:zcl
 jA:zcu
 pT:zcl
 pU:zcu
 j5:zcl
 kS:zcu
 cO:zcl
 dE:zcu
 hX:zcl
 iP:zcu
 hZ:zcl
 iQ:zcu
 j6:zcl
 kT:zcu
 ia:zcl
 iR:zcu
 ib:zcl
 iS:zcu
 cP:zcl
 cX:zcu
 bu:zcl
 bF:zcu
 cn:zcl
 cQ:zcu
 gF:zcl
 gV:zcu
 eY:zcl
 fC:zcu
 ic:zcl
 iT:zcu
 dS:zcl
 eE:zcu
 gG:zcl
 gW:zcu
 ig:zcl
 iU:zcu
 ij:zcl
 iV:zcu
 ik:zcl
 iW:zcu
 BL:zcl
 qO:zcu
 cE:zcl
 jK:zcu
 cF:zcl
 jL:zcu
 a9:zcl
 dF:zcu
 aN:zcl
 bM:zcl
set_option genInjectivity false in
structure Tx(K:ZI)(mg:Str->Option zcm)(t:Ad):Prop where
 wN:cy K mg "flow" Au ["program"] t.l9 t.kP
 eZ:cy K mg "flow_of_body" jj ["body", "behind"] t.cN t.cW
 dP:cy K mg "first_row" lP ["body", "behind"] t.cK t.cD
 gX:cy K mg "behind_body" jJ ["statement", "after"] t.eC t.eW
 mz:cy K mg "ways_of" qK ["statement", "after"] t.i8 t.jm
 il:cy K mg "bodies_in" lQ ["statement"] t.eX t.fB
 eA:cy K mg "statements_in" iB ["body"] t.bJ t.bL
 iX:cy K mg "worth" wL ["e", "values"] t.kQ t.j3
 i9:cy K mg "word_at" qL ["chart", "row"] t.j4 t.kR
 jq:cy K mg "by_names" nP ["chart", "parts"] t.jn t.jz
 kU:cy K mg "in_order" nQ ["chart", "named"] t.jo t.jA
 pV:cy K mg "holds" wM ["chart", "standing"] t.pT t.pU
 j7:cy K mg "step_by" qM ["chart", "standing", "figure"] t.j5 t.kS
 dU:cy K mg "behind_condition" fT ["chart", "standing"] t.cO t.dE
 ip:cy K mg "seen_from" lR ["program", "standing"] t.hX t.iP
 jB:cy K mg "is_unseen" lS ["chart", "standing"] t.hZ t.iQ
 mB:cy K mg "seen_at" qN ["chart", "standing"] t.j6 t.kT
 aX:cy K mg "_law_draw" lT ["deck", "many"] t.ia t.iR
 iq:cy K mg "_law_deck" lU ["script"] t.ib t.iS
 bQ:cy K mg "_law_small_e" jk ["deck", "names", "deep"] t.cP t.cX
 cG:cy K mg "_law_small_statement" dR ["deck", "names", "deep"] t.bu t.bF
 bN:cy K mg "_law_small_body" gE ["deck", "names", "deep"] t.cn t.cQ
 gH:cy K mg "_law_small" kM ["deck", "most"] t.gF t.gV
 fc:cy K mg "_law_flat" lV ["body", "then", "found"] t.eY t.fC
 jC:cy K mg "_law_made" lW ["program"] t.ic t.iT
 cH:cy K mg "_law_worth" kN ["e", "names", "values"] t.dS t.eE
 iY:cy K mg "_law_holds" kO ["made", "standing"] t.gG t.gW
 jD:cy K mg "_law_word" lX ["made", "standing"] t.ig t.iU
 jE:cy K mg "_law_step" lY ["made", "standing", "figure"] t.ij t.iV
 iu:cy K mg "_law_seen" lZ ["made", "standing"] t.ik t.iW
 BM:cy K mg "law" FK ["script"] t.BL t.qO
 iZ:Df K "__init__" "Chart.__init__" cA t.cE t.jK
 wO:Binds K t.jK ["self", "program"] []
 i3:Df K "__init__" "Watch.__init__" cB t.cF t.jL
 wQ:Binds K t.jL ["self", "program"] []
 dW:Df K "sight_from" "Watch.sight_from" bt t.a9 t.dF
 nR:Binds K t.dF ["self", "standing"] []
 nT:Meth K t.bM "sight_from" t.a9
 cR:De K t.aN
 FN:mg "Chart"=some (.ref t.aN)
 tV:Mk K t.aN t.cE
 fe:gg K t.aN "names"
 fh:gg K t.aN "sizes"
 jr:gg K t.aN "first"
 bV:gg K t.aN "statements"
 eF:gg K t.aN "ways"
 fK:De K t.bM
 FO:mg "Watch"=some (.ref t.bM)
 tW:Mk K t.bM t.cF
 dN:gg K t.bM "chart"
 cw:gg K t.bM "sights"
 wR:∃u,mg "END"=some u/\RelV (.int 0) u
 mW:mg "len"=none
 pW:mg "range"=none
 pX:mg "int"=none
 Av:mg "bool"=none
 qP:mg "dict"=none
 wU:mg "list"=none
 i4:mg "tuple"=none
 gI:mg "isinstance"=none
 ma:mg "enumerate"=none
 FP:mg "zip"=none
 tX:mg "sorted"=none
 FQ:mg "abs"=none
end Ls
end
section
set_option maxHeartbeats 4000000
namespace Ls
open PySem L2
local macro_rules | `(tactic|walk_at "rd")=>`(tactic|((try dsimp only[DE,DM,Du,MG,I0,SK,J9,Dx,ML,Qp,M6,Qk,DR,vZ,DL,Ko,xM,A1,AZ,Qd,rU,Nq,vb,AV,Jc,Jb,Dw,Ja,Kf,Dy,Ke,Kg,Jm,GN,GO,Bc,Jn,Ef,Eg,Eh,Ei,Ej,Ek,El,Em,En,Eo,Bl,Bm,Bn,Bp,Bq,KU,Nl,Kc,Dv,B0,eR,Jo,Jp,zaV,Be,Bf,Er,Bh,Bi,xW,Ao,Ap,Aq,Bj,Jq,Np,Ez,Es,Et,PV,za9,zbc,ZN,zaj,Eu,Ew,Fl,Fm,Bg]);(try simp only[DE,DM,Du,MG,I0,SK,J9,Dx,ML,Qp,M6,Qk,DR,vZ,DL,Ko,xM,A1,AZ,Qd,rU,Nq,vb,AV,Jc,Jb,Dw,Ja,KA,KC,Kf,Dy,Ke,Kg,Jm,GN,GO,Bc,Jn,Ef,Eg,Eh,Ei,Ej,Ek,El,Em,En,Eo,Bl,Bm,Bn,Bp,Bq,KU,Nl,Kc,Dv,B0,eR,Nk,QD,Jo,Jp,Nm,G8,Ep,KD,KG,zaV,Be,Bf,Er,Bh,Bi,xW,Ao,Ap,Aq,Bj,Jq,Np,Ez,Es,Et,PV,Z9,za9,zbc,Hh,Hi,true_and,and_true,ZN,zaj,Hj,Eu,Ew,Fl,Fm,Bg,Int.reduceLT,Int.reduceLE,Nat.reduceLeDiff,Nat.reduceAdd,and_self])))
section
variable{P:zcx}{w:zcn}{K:ZI}{mg:Str->Option zcm}{base:Heap}{t:Ad}
theorem yH{ss:List PG.aW}{vs:List V}(l:vs.length=ss.length):(zaq ss.length).map (fun i=>((Sum.inl (ss.getD i (.stop 0)).row:Key),vs.getD i .b4))=bS ss vs:=by
 apply zbp
 ·simp[bS,l]
 ·intro i h1 h2;simp at h1;simp[bS,h1,l]
theorem wV{fl:List PG.bW}{vs:List V}(l:vs.length=fl.length):(zaq fl.length).map (fun i=>((Sum.inl (fl.getD i (0,.stop,[])).1:Key),vs.getD i .b4))=zaw (fun r v=>(Sum.inl r.1,v)) fl vs:=by
 apply zbp
 ·simp[l]
 ·intro i h1 h2;simp at h1;simp[h1,l]
theorem yI{fl:List PG.bW}{vs:List V}(l:vs.length=fl.length):(zaw (fun r v=>((Sum.inl r.1:Key),v)) fl vs).map (·.1)=fl.map fun r=>(Sum.inl r.1:Key):=by
 apply zbp
 ·simp[l]
 ·intro i h1 h2;simp
theorem BN{K:ZI}{H:Hp}:∀ {fl:List PG.bW} {us:List V},aG K H (fl.map gO) us->∃ws:List V,ws.length=fl.length/\∀i (hi:i<fl.length),∃a q,us[i]?=some (.ref a)/\ws[i]?=some (.ref q)/\dq K H a [.int fl[i].1,.str (jH fl[i].2.1),.ref q]/\dq K H q (fl[i].2.2.map V.int)
 |[],us,_=>⟨[],rfl,fun i hi=>by simp at hi⟩
 |r::fl,us,h=>by
  have h0:=h;rw[ZW,aG.aD] at h;obtain⟨v,tl,rfl,h1,h2⟩:=h;obtain⟨ws,l,hw⟩:=BN h2;obtain⟨a,q,e,s1,s2⟩:=EL h0 (i:=0) (y:=v) rfl (by simp);refine⟨.ref q::ws,by simp[l],fun i hi=>?_⟩;cases i with
  |zero=>exact⟨a,q,by rw[e];rfl,rfl,s1,s2⟩
  |succ i=>
   obtain⟨a',q',e1,e2,e3,e4⟩:=hw i (by simpa using hi);exact⟨a',q',by simpa using e1,by simpa using e2,by simpa using e3,by simpa using e4⟩
theorem Aw{b:List PG.aW}(pw:(PG.ay b).Pairwise fun a b=>a.row<b.row):((PG.aI b 0).map fun r=>(Sum.inl r.1:Key)).Nodup:=by
 have e:(PG.aI b 0).map (fun r=>(Sum.inl r.1:Key))=(PG.ay b).map fun s=>(Sum.inl s.row:Key):=by
  have h:((PG.aI b 0).map fun r=>(r.1,r.2.1))=(PG.ay b).map fun x=>(x.row,x.wd):=by rw[PG.dH,PG.fA]
  have h2:=congrArg (List.map fun r:Int×PG.Wd=>(Sum.inl r.1:Key)) h;rw[zax,zax] at h2;exact h2
 rw[e];exact tw pw
theorem pY{K:ZI}{H:Hp}{B:zcl}{bs:List PG.gf}(r:Rep K H (.lst (bs.map lJ)) (.ref B)):∃xs,gQ K H B xs/\xs.length=bs.length/\∀i x,xs[i]?=some x->∃a,x=.ref a/\dq K H a [.str (S (bs.getD i ⟨[],0,0⟩).name),.int (bs.getD i ⟨[],0,0⟩).size,.int (bs.getD i ⟨[],0,0⟩).first]:=by
 rw[Rep.bH] at r;obtain⟨_,xs,e,q,rs⟩:=r;cases e;have lx:xs.length=bs.length:=by rw[rs.length,ZL]
 refine⟨xs,q,lx,fun i x hx=>?_⟩;have li:i<bs.length:=by have:=(ZR.mp hx).1;lia
 obtain⟨v,hv,rv⟩:=rs.get (i:=i) (d:=lJ bs[i]) (by rw[ZO,ZK li];rfl);rw[hx] at hv;cases hv;have eg:bs.getD i ⟨[],0,0⟩=bs[i]:=by rw[ZX,ZK li];rfl
 rw[eg];simp only[lJ,Rep.aK,aG.aD,aG.bD,Rep.bf,Rep.ba] at rv;obtain⟨a,ys,rfl,hS,_,_,rfl,rfl,_,_,rfl,rfl,_,_,rfl,rfl,rfl⟩:=rv;exact⟨a,rfl,hS⟩
theorem nU{kvs:List (Key×V)}(h:(kvs.map (·.1)).Nodup):ko [] kvs=kvs:=by
 have:=nH kvs [] (by simpa using h);simpa using this
theorem uO(T:Tx K mg t)(b7:bw P w K mg base eM 1 t.cK t.cD ["body", "behind"] (mq K))(cx:bw P w K mg base eM 6 t.bJ t.bL ["body"] (kC K 4))(tY:bw P w K mg base eM 7 t.l9 t.kP ["program"] (wm K)) :
 bw P w K mg base eM 8 t.cE t.jK ["self", "program"] (HV K t.aN):=by
 refine T.iZ.j9 mU (fun vs H Q E h=>?_) (fun fq A outer s H vs Q E hr h=>?_)
 ·obtain⟨_,_,_,_,rfl,_⟩:=h;rfl
 obtain⟨p,dx,v,pr,rfl,hp,JB,rp,hd,hf,pw,nb,lb,q⟩:=h;have nd:=mU.nd;obtain⟨FR,tZ,t7⟩:=T.wR;refine⟨_,[some (.ref p),some v,none,none],(ai (eV 2 nd (ax aC (pv 1) ag ah))
 (ai (eV 3 nd (ax aC (pv 1) ag ah))
 (ai (nG (pv 0) (eN (own:=["box"]) (ix:=[]) rfl (by rfl) (by rfl) (cg (pv 2)) (fun _ _ _ _=>(cT (i:=0) (by show List.Nodup (["box"]:List Str);decide +kernel) rfl (zau rfl))) (fun _ _ _ _=>cZ) (fun _ _ _ _=>(ax (eO (K:=K) rfl) (pv 0) ag ah))) rfl)
 (ai (nG (pv 0) (bT (nI rfl) rfl T.qP PyProof.Rows.Boot.«dict» (ae (eN (own:=["box"]) (ix:=[]) rfl (by rfl) (by rfl) (cg (pv 2)) (fun _ _ _ _=>(cT (i:=0) (by show List.Nodup (["box"]:List Str);decide +kernel) rfl (zau rfl))) (fun _ _ _ _=>cZ) (fun _ _ _ _=>(aT (ae (ax (eO (K:=K) rfl) (pv 0) ag ah) (ae (ax (eO (K:=K) rfl) (pv 0) ag ah) aj aH) aH)))) aj gU)) rfl)
 (ai (nG (pv 0) (aT (ae (dA b7 T.dP hr (bo 3 (ae (rZ rfl tZ t7) aj ky))) (ae (bT fI rfl T.i4 PyProof.Rows.Boot.«tuple» (ae (eN (own:=["box"]) (ix:=[]) rfl (by rfl) (by rfl) (cg (pv 2)) (fun _ _ _ _=>(cT (i:=0) (by show List.Nodup (["box"]:List Str);decide +kernel) rfl (zau rfl))) (fun _ _ _ _=>cZ) (fun _ _ _ _=>(ax (eO (K:=K) rfl) (pv 0) ag ah))) aj gU)) aj bC) bC)) rfl)
 (ai (nG (pv 0) (bT (nI rfl) rfl T.qP PyProof.Rows.Boot.«dict» (ae (eN (own:=["statement"]) (ix:=[]) rfl (by rfl) (by rfl) (cg (dA cx T.eA hr (bo 3 aj))) (fun _ _ _ _=>(cT (i:=0) (by show List.Nodup (["statement"]:List Str);decide +kernel) rfl (zau rfl))) (fun _ _ _ _=>cZ) (fun _ _ _ _=>(aT (ae (ax (eO (K:=K) rfl) (pv 0) ag ah) (bo 0 aj) aH)))) aj gU)) rfl)
 (az (nG (pv 0) (bT (nI rfl) rfl T.qP PyProof.Rows.Boot.«dict» (ae (eN (own:=["told"]) (ix:=[]) rfl (by rfl) (by rfl) (cg (dA tY T.wN hr (bo 1 aj))) (fun _ _ _ _=>(cT (i:=0) (by show List.Nodup (["told"]:List Str);decide +kernel) rfl (zau rfl))) (fun _ _ _ _=>cZ) (fun _ _ _ _=>(aT (ae (ax (eO (K:=K) rfl) (pv 0) ag ah) (ae (ax (eO (K:=K) rfl) (pv 0) ag ah) aj aH) aH)))) aj gU)) rfl)))))))),rfl,?_⟩
 have line:zct=2 ^ 24:=rfl;have Rc:=rp;unfold gN at Rc;rw[Rep.aK] at Rc;obtain⟨pa,Tu,rfl,Dh,sP⟩:=Rc;rw[aG.aD] at sP;obtain⟨v1,t1,rfl,IB,sP⟩:=sP;rw[aG.aD] at sP;obtain⟨v2,t2,rfl,IC,sP⟩:=sP;obtain⟨bb,_,rfl,_⟩:=Rep.bH.mp IC;obtain⟨bx,_,rfl,_⟩:=Rep.bH.mp IB;refine av fun U1 fi=>?_;walk_at "rd";refine aA Dh (v:=.ref bx) (aq (j:=0) rfl) ((fi _ _).mpr (av fun U2 iw=>?_));clear fi;walk_at "rd";refine aA Dh (v:=.ref bb) (aq (j:=1) rfl) ((iw _ _).mpr (av fun U3 jO=>?_));clear iw;walk_at "rd";simp only[xM,gm];walk_at "rd";obtain⟨Y6,Tv,WJ,g1⟩:=pY IB;refine⟨⟨_,Tv⟩,fun D1 FT=>mw (K:=K) (r:=[]) (fun i=>.str (S (pr.ar.getD i ⟨[],0,0⟩).name)) Tv (by lia) FT (fun i x H2 hx s2 R hR=>?_) (fun H2 s2 h2=>⟨p,_,dx,[],rfl,s2 _ _ hp,T.cR,T.fe,by decide,(jO _ _).mpr (av fun U4 mX=>?_)⟩)⟩
 ·obtain⟨a,rfl,ha⟩:=g1 i x hx;walk_at "rd";exact aA (s2.bB ha) (v:=.str (S (pr.ar.getD i ⟨[],0,0⟩).name)) (aq (j:=0) rfl) hR
 clear jO;rw[WJ,jV (fun b:PG.gf=>V.str (S b.name))] at h2;have qe:=s2 _ _ hp;have n1:D1≠p:=(au hp FT).symm;have u3:bK (·=p) H (upd H2 p (.ins t.aN dx [("names",.ref D1)])):=(bK.of s2).trans (bK.refl.put (O:=(·=p)) rfl _);have JC:(upd H2 p (.ins t.aN dx [("names",.ref D1)])) p=some (.ins t.aN dx [("names",.ref D1)]):=ao;have d1:(upd H2 p (.ins t.aN dx [("names",.ref D1)])) D1=some (.lst (pr.ar.map fun b=>.str (S b.name))):=by rw[aR n1];exact h2
 rw[show fY (ZJ "names") (V.ref D1) []=[(ZJ "names",V.ref D1)] from rfl];generalize upd H2 p (.ins t.aN dx [("names",.ref D1)])=H3 at *;walk_at "rd";simp only[xM,gm];walk_at "rd";have WK:=mv hp u3 _ _ IB;obtain⟨Y7,Tw,WL,g3⟩:=pY WK;refine⟨⟨_,Tw⟩,fun D2 Rf=>nJ (K:=K) (r:=[]) (fun i=>(.inr (S (pr.ar.getD i ⟨[],0,0⟩).name),.int (pr.ar.getD i ⟨[],0,0⟩).size)) Tw (by lia) Rf (fun i x H2 hx s2 R hR=>?_) (fun ps H4 s4 h4 HU ep=>⟨D2,ps,rfl,.of h4,fun q hq=>.of (HU q hq),?_,fun D3 NY=>⟨p,_,dx,_,rfl,aw.new NY _ _ _ (s4 _ _ JC),T.cR,T.fh,by simp,(mX _ _).mpr (av fun U5 uc=>?_)⟩⟩)⟩
 ·obtain⟨a,rfl,ha⟩:=g3 i x hx;walk_at "rd";exact aA (s2.bB ha) (v:=.str (S (pr.ar.getD i ⟨[],0,0⟩).name)) (aq (j:=0) rfl) (aA (s2.bB ha) (v:=.int (pr.ar.getD i ⟨[],0,0⟩).size) (aq (j:=1) rfl) hR)
 ·have:=congrArg zad ep;simp only[ZL,zbl] at this;lia
 clear mX;have ek:ps.map (fun q=>(q.2.1,q.2.2))=pr.ar.map fun b=>(Sum.inr (S b.name),V.int b.size):=by
  rw[show (fun q:zcl×Key×V=>(q.2.1,q.2.2))=(·.2) from rfl,ep,WL,jV (fun b:PG.gf=>((Sum.inr (S b.name):Key),V.int b.size))]
 have nk:((pr.ar.map fun b=>((Sum.inr (S b.name):Key),V.int b.size)).map (·.1)).Nodup:=by
  rw[zax];refine zaF.mpr ((zaF.mp nb).imp fun {a b} Jt e=>Jt ?_);exact oU.mp (Sum.inr.inj e)
 rw[ek,nU nk,show fY (ZJ "sizes") (V.ref D3) [(ZJ "names",V.ref D1)]=[(ZJ "names",V.ref D1),(ZJ "sizes",V.ref D3)] from rfl];have Tz:=s4.trans (aw.new NY (.dK (pr.ar.map fun b=>(Sum.inr (S b.name),V.int b.size))));have d3:(upd H4 D3 (.dK (pr.ar.map fun b=>(Sum.inr (S b.name),V.int b.size)))) D3=some (.dK (pr.ar.map fun b=>(Sum.inr (S b.name),V.int b.size))):=ao;generalize upd H4 D3 (.dK (pr.ar.map fun b=>(Sum.inr (S b.name),V.int b.size)))=H5 at *;have n3:D3≠p:=bX d3 (Tz _ _ JC) (by intro z;cases z);have u6:bK (·=p) H3 (upd H5 p (.ins t.aN dx [(ZJ "names",V.ref D1),(ZJ "sizes",V.ref D3)])):=(bK.of Tz).trans (bK.refl.put (O:=(·=p)) rfl _);have ID:(upd H5 p (.ins t.aN dx [(ZJ "names",V.ref D1),(ZJ "sizes",V.ref D3)])) p=some (.ins t.aN dx [(ZJ "names",V.ref D1),(ZJ "sizes",V.ref D3)]):=ao;have d3:(upd H5 p (.ins t.aN dx [(ZJ "names",V.ref D1),(ZJ "sizes",V.ref D3)])) D3=some (.dK (pr.ar.map fun b=>(Sum.inr (S b.name),V.int b.size))):=by rw[aR n3];exact d3
 generalize upd H5 p (.ins t.aN dx [(ZJ "names",V.ref D1),(ZJ "sizes",V.ref D3)])=H6 at *;have d1:=u6 _ _ n1 d1;have u6:=u3.trans u6;have WM:=mv hp u6 _ _ IB;have WN:=mv hp u6 _ _ IC;walk_at "rd";simp only[xM,gm];walk_at "rd";have Y8:=dI pr.body;obtain⟨Y9,TB,WO,g6⟩:=pY WM;refine⟨bb,pr.body,0,rfl,WN,by lia,⟨_,TB⟩,fun D4 WQ=>mw (K:=K) (r:=[]) (fun i=>.int (pr.ar.getD i ⟨[],0,0⟩).first) TB (by lia) WQ (fun i x H2 hx s2 R hR=>?_) (fun H7 s7 h7=>⟨D4,_,rfl,.inl ⟨.of h7,fun D5 TC D6 O5=>⟨p,_,dx,_,rfl,aw.new O5 _ _ _ (aw.new TC _ _ _ (s7 _ _ ID)),T.cR,T.jr,by simp,(uc _ _).mpr (av fun U6 wW=>?_)⟩⟩⟩)⟩
 ·obtain⟨a,rfl,ha⟩:=g6 i x hx;walk_at "rd";exact aA (s2.bB ha) (v:=.int (pr.ar.getD i ⟨[],0,0⟩).first) (aq (j:=2) rfl) hR
 clear uc;rw[show fY (ZJ "first") (V.ref D6) [(ZJ "names",V.ref D1),(ZJ "sizes",V.ref D3)]=[(ZJ "names",V.ref D1),(ZJ "sizes",V.ref D3),(ZJ "first",V.ref D6)] from rfl];rw[WO,jV (fun b:PG.gf=>V.int b.first)] at O5 ⊢;have s8:=s7.trans ((aw.new TC (.tup (pr.ar.map fun b=>V.int b.first))).trans (aw.new O5 (.tup [V.int (PG.aP pr.body 0),V.ref D5])));have d5:(upd (upd H7 D5 (.tup (pr.ar.map fun b=>V.int b.first))) D6 (.tup [V.int (PG.aP pr.body 0),V.ref D5])) D5=some (.tup (pr.ar.map fun b=>V.int b.first)):=aw.new O5 _ _ _ ao;have d6:(upd (upd H7 D5 (.tup (pr.ar.map fun b=>V.int b.first))) D6 (.tup [V.int (PG.aP pr.body 0),V.ref D5])) D6=some (.tup [V.int (PG.aP pr.body 0),V.ref D5]):=ao;generalize upd (upd H7 D5 (.tup (pr.ar.map fun b=>V.int b.first))) D6 (.tup [V.int (PG.aP pr.body 0),V.ref D5])=H8 at *;have zu:=s8 _ _ ID;have n5:D5≠p:=bX d5 zu (by intro z;cases z);have n6:D6≠p:=bX d6 zu (by intro z;cases z);have u9:bK (·=p) H6 (upd H8 p (.ins t.aN dx [(ZJ "names",V.ref D1),(ZJ "sizes",V.ref D3),(ZJ "first",V.ref D6)])):=(bK.of s8).trans (bK.refl.put (O:=(·=p)) rfl _);have xE:(upd H8 p (.ins t.aN dx [(ZJ "names",V.ref D1),(ZJ "sizes",V.ref D3),(ZJ "first",V.ref D6)])) p=some (.ins t.aN dx [(ZJ "names",V.ref D1),(ZJ "sizes",V.ref D3),(ZJ "first",V.ref D6)]):=ao;have d5:(upd H8 p (.ins t.aN dx [(ZJ "names",V.ref D1),(ZJ "sizes",V.ref D3),(ZJ "first",V.ref D6)])) D5=some (.tup (pr.ar.map fun b=>V.int b.first)):=by rw[aR n5];exact d5
 have d6:(upd H8 p (.ins t.aN dx [(ZJ "names",V.ref D1),(ZJ "sizes",V.ref D3),(ZJ "first",V.ref D6)])) D6=some (.tup [V.int (PG.aP pr.body 0),V.ref D5]):=by rw[aR n6];exact d6
 generalize upd H8 p (.ins t.aN dx [(ZJ "names",V.ref D1),(ZJ "sizes",V.ref D3),(ZJ "first",V.ref D6)])=H9 at *;have d1:=u9 _ _ n1 d1;have d3:=u9 _ _ n3 d3;have u9:=u6.trans u9;have WR:=mv hp u9 _ _ IC;walk_at "rd";simp only[xM,gm];walk_at "rd";refine⟨bb,pr.body,H9,rfl,aw.refl _,WR,by lia,hf,fun O6 us Lu wX Rg GC Mf=>?_⟩;have sl:=dZ pr.body;have IE:us.length=(PG.ay pr.body).length:=by rw[Mf.length,ZL]
 refine⟨O6,rfl,⟨_,.of GC⟩,fun D7 WS=>nJ (K:=K) (r:=[]) (fun i=>(.inl ((PG.ay pr.body).getD i (.stop 0)).row,us.getD i .b4)) (.of GC) (by lia) WS (fun i x H2 hx s2 R hR=>?_) (fun ps TF TH Cy HU ep=>⟨D7,ps,rfl,.of Cy,fun q hq=>.of (HU q hq),?_,fun D8 TJ=>⟨p,_,dx,_,rfl,aw.new TJ _ _ _ (TH _ _ (wX _ _ xE)),T.cR,T.bV,by simp,(wW _ _).mpr ?_⟩⟩)⟩
 ·have li:i<(PG.ay pr.body).length:=by have:=(ZR.mp hx).1;lia
  obtain⟨v',zl,rv⟩:=Mf.get (i:=i) (d:=du (PG.ay pr.body)[i]) (by rw[ZO,ZK li];rfl);rw[hx] at zl;cases zl;have e1:(PG.ay pr.body).getD i (.stop 0)=(PG.ay pr.body)[i]:=by rw[ZX,ZK li];rfl
  have e2:us.getD i .b4=x:=by rw[ZX,hx];rfl
  rw[e1,e2] at hR;obtain⟨sa,ys,rfl,hs⟩:=gP _ rv;walk_at "rd";exact aA ((wX.trans s2).bB hs) (v:=.int (PG.ay pr.body)[i].row) (aq (j:=1) rfl) hR
 ·have:=congrArg zad ep;simp only[ZL,zbl] at this;lia
 clear wW;have ek:ps.map (fun q=>(q.2.1,q.2.2))=bS (PG.ay pr.body) us:=by
  rw[show (fun q:zcl×Key×V=>(q.2.1,q.2.2))=(·.2) from rfl,ep,IE,yH IE]
 have nk:((bS (PG.ay pr.body) us).map (·.1)).Nodup:=by
  rw[je _ _ IE];exact tw pw
 rw[ek,nU nk,show fY (ZJ "statements") (V.ref D8) [(ZJ "names",V.ref D1),(ZJ "sizes",V.ref D3),(ZJ "first",V.ref D6)]=[(ZJ "names",V.ref D1),(ZJ "sizes",V.ref D3),(ZJ "first",V.ref D6),(ZJ "statements",V.ref D8)] from rfl];have GD:=(wX.trans TH).trans (aw.new TJ (.dK (bS (PG.ay pr.body) us)));have d8:(upd TF D8 (.dK (bS (PG.ay pr.body) us))) D8=some (.dK (bS (PG.ay pr.body) us)):=ao;generalize upd TF D8 (.dK (bS (PG.ay pr.body) us))=O7 at *;have Rh:=GD _ _ xE;have n8:D8≠p:=bX d8 Rh (by intro z;cases z);have IF:bK (·=p) H9 (upd O7 p (.ins t.aN dx [(ZJ "names",V.ref D1),(ZJ "sizes",V.ref D3),(ZJ "first",V.ref D6),(ZJ "statements",V.ref D8)])):=(bK.of GD).trans (bK.refl.put (O:=(·=p)) rfl _);have Lv:(upd O7 p (.ins t.aN dx [(ZJ "names",V.ref D1),(ZJ "sizes",V.ref D3),(ZJ "first",V.ref D6),(ZJ "statements",V.ref D8)])) p=some (.ins t.aN dx [(ZJ "names",V.ref D1),(ZJ "sizes",V.ref D3),(ZJ "first",V.ref D6),(ZJ "statements",V.ref D8)]):=ao;have d8:(upd O7 p (.ins t.aN dx [(ZJ "names",V.ref D1),(ZJ "sizes",V.ref D3),(ZJ "first",V.ref D6),(ZJ "statements",V.ref D8)])) D8=some (.dK (bS (PG.ay pr.body) us)):=by rw[aR n8];exact d8
 generalize upd O7 p (.ins t.aN dx [(ZJ "names",V.ref D1),(ZJ "sizes",V.ref D3),(ZJ "first",V.ref D6),(ZJ "statements",V.ref D8)])=Za at *;have d1:=IF _ _ n1 d1;have d3:=IF _ _ n3 d3;have d5:=IF _ _ n5 d5;have d6:=IF _ _ n6 d6;have WT:=jT xE IF _ _ Mf;have IF:=u9.trans IF;have Ri:=mv hp IF _ _ rp;walk_at "rd";simp only[xM,gm];walk_at "rd";refine⟨_,pr,rfl,Ri,hd,hf,fun WU fv Zb TK WV TL TM=>?_⟩;obtain⟨ws,Rj,TN⟩:=BN TM;have WW:fv.length=(PG.aI pr.body 0).length:=by rw[TM.length,ZL]
 have Zc:(PG.aI pr.body 0).length=(PG.ay pr.body).length:=by
  have h1:=congrArg zad (PG.dH pr.body 0);rw[ZL] at h1;lia
 refine⟨WU,rfl,⟨_,.of TL⟩,fun D9 WX=>nJ (K:=K) (r:=[]) (fun i=>(.inl ((PG.aI pr.body 0).getD i (0,.stop,[])).1,ws.getD i .b4)) (.of TL) (by lia) WX (fun i x H2 hx s2 R hR=>?_) (fun ps TQ Rk WY HU ep=>⟨D9,ps,rfl,.of WY,fun q hq=>.of (HU q hq),?_,fun Lw Lx=>⟨p,_,dx,_,rfl,aw.new Lx _ _ _ (Rk _ _ (TK _ _ Lv)),T.cR,T.eF,by simp,?_⟩⟩)⟩
 ·have li:i<(PG.aI pr.body 0).length:=by have:=(ZR.mp hx).1;lia
  obtain⟨a,qq,e1,e2,q1,q2⟩:=TN i li;rw[hx] at e1;cases e1;have g1:(PG.aI pr.body 0).getD i (0,.stop,[])=(PG.aI pr.body 0)[i]:=by rw[ZX,ZK li];rfl
  have g2:ws.getD i .b4=V.ref qq:=by rw[ZX,e2];rfl
  rw[g1,g2] at hR;walk_at "rd";exact aA (s2.bB q1) (v:=.int (PG.aI pr.body 0)[i].1) (aq (j:=0) rfl) (aA (s2.bB q1) (v:=.ref qq) (aq (j:=2) rfl) hR)
 ·have:=congrArg zad ep;simp only[ZL,zbl] at this;lia
 have ek:ps.map (fun q=>(q.2.1,q.2.2))=zaw (fun r v=>(Sum.inl r.1,v)) (PG.aI pr.body 0) ws:=by
  rw[show (fun q:zcl×Key×V=>(q.2.1,q.2.2))=(·.2) from rfl,ep,WW,wV Rj]
 have nk:((zaw (fun r v=>((Sum.inl r.1:Key),v)) (PG.aI pr.body 0) ws).map (·.1)).Nodup:=by
  rw[yI Rj];exact Aw pw
 rw[ek,nU nk,show fY (ZJ "ways") (V.ref Lw) [(ZJ "names",V.ref D1),(ZJ "sizes",V.ref D3),(ZJ "first",V.ref D6),(ZJ "statements",V.ref D8)]=[(ZJ "names",V.ref D1),(ZJ "sizes",V.ref D3),(ZJ "first",V.ref D6),(ZJ "statements",V.ref D8),(ZJ "ways",V.ref Lw)] from rfl];have TR:=(TK.trans Rk).trans (aw.new Lx (.dK (zaw (fun r v=>(Sum.inl r.1,v)) (PG.aI pr.body 0) ws)));have NZ:=Rk.trans (aw.new Lx (.dK (zaw (fun r v=>(Sum.inl r.1,v)) (PG.aI pr.body 0) ws)));have TU:(upd TQ Lw (.dK (zaw (fun r v=>(Sum.inl r.1,v)) (PG.aI pr.body 0) ws))) Lw=some (.dK (zaw (fun r v=>(Sum.inl r.1,v)) (PG.aI pr.body 0) ws)):=ao;generalize upd TQ Lw (.dK (zaw (fun r v=>(Sum.inl r.1,v)) (PG.aI pr.body 0) ws))=TV at *;have Ly:=TR _ _ Lv;have WZ:Lw≠p:=bX TU Ly (by intro z;cases z);have put:∀fs,bK (·=p) TV (upd TV p (.ins t.aN dx fs)):=fun fs=>bK.refl.put (O:=(·=p)) rfl _;have uE:=fun fs=>(bK.of TR).trans (put fs);have uA:=fun fs=>IF.trans (uE fs);refine q _ (fun b o n e=>uA _ b o n e) ⟨⟨dx,D1,D3,D6,D5,D8,Lw,us,ws,ao,uA _ _ _ (bX JB hp (by intro z;cases z)) JB,uE _ _ _ n1 d1,uE _ _ _ n3 d3,uE _ _ _ n6 d6,uE _ _ _ n5 d5,IE,uE _ _ _ n8 d8,jT Lv (uE _) _ _ WT,Rj,put _ _ _ WZ TU,fun i hi=>?_⟩⟩;obtain⟨a,qq,e1,e2,q1,q2⟩:=TN i hi;refine⟨qq,e2,?_⟩;have q2:=NZ.bB q2;rcases q2 with (q2 |⟨o,q2⟩) |q2
 ·exact .inl (.inl (put _ _ _ (bX q2 Ly (by intro z;cases z)) q2))
 ·exact .inl (.inr ⟨o,put _ _ _ (bX q2 Ly (by intro z;cases z)) q2⟩)
 ·exact .inr q2
theorem FU(T:Tx K mg t){n:Nat}(jF:bw P w K mg base eM n t.kQ t.j3 ["e", "values"] (O0 K n)) :
 bw P w K mg base eM (n+1) t.kQ t.j3 ["e", "values"] (O0 K (n+1)):=by
 refine T.iX.F.j9 yz (fun vs H Q E h=>?_) (fun fq A outer s H vs Q E hr h=>?_)
 ·obtain⟨_,_,_,_,rfl,_⟩:=h;rfl
 obtain⟨v,d,tr,kv,rfl,hv,hd,ok,ht,h6,q⟩:=h;have nd:=yz.nd;have hu:=dX hr;refine⟨_,[some v,some (.ref d),none,none,none],(ai (eV 2 nd (ax aC (pv 0) ag ah))
 (ai (bq (aL bR (pv 2) aU (aQ _))
 (az (aM (ax aC (pv 0) ag ah)))
 aS)
 (ai (bq (aL bR (pv 2) aU (aQ _))
 (az (aM (fw hu (pv 1) (ax aC (pv 0) ag ah) (fun _ _=>rfl))))
 aS)
 (ai (eV 3 nd (dA jF T.iX hr (ae (ax aC (pv 0) ag ah) (bo 1 aj) aH)))
 (ai (eV 4 nd (dA jF T.iX hr (ae (ax aC (pv 0) ag ah) (bo 1 aj) aH)))
 (ai (bq (aL bR (pv 2) aU (aQ _))
 (az (aM (a7 fQ (pv 3) (pv 4))))
 aS)
 (ai (bq (aL bR (pv 2) aU (aQ _))
 (az (aM (a7 qh (pv 3) (pv 4))))
 aS)
 (az (aM (a7 Bb (pv 3) (pv 4))))))))))),rfl,?_⟩
 have n1:¬("box":Str) = "number":=by decide +kernel
 cases tr with
 |num m=>
  unfold k5 at hv;simp only[Rep.aK,aG.aD,aG.bD,Rep.bf,Rep.ba] at hv;obtain⟨a,xs,rfl,hS,_,_,rfl,rfl,_,_,rfl,rfl,rfl⟩:=hv;walk_at "rd";refine aA hS rfl ?_;walk_at "rd";rw[if_pos trivial];exact aA hS rfl (q _ (aw.refl _))
 |box x=>
  unfold k5 at hv;simp only[Rep.aK,aG.aD,aG.bD,Rep.bf,Rep.ba] at hv;obtain⟨a,xs,rfl,hS,_,_,rfl,rfl,_,_,rfl,rfl,rfl⟩:=hv;walk_at "rd";refine aA hS rfl ?_;walk_at "rd";rw[if_neg n1,if_pos trivial];obtain⟨i,e,_⟩:=ok;have q:=q _ (aw.refl _);rw[eJ,Al e] at q;exact aA hS rfl ⟨d,.int i,rfl,oQ.s hd e,q⟩
 |bin o l r=>
  unfold k5 at hv;simp only[Rep.aK,aG.aD,aG.bD,Rep.bf,Rep.ba] at hv;obtain⟨a,xs,rfl,hS,_,_,rfl,rfl,vl,_,rfl,hl,vr,_,rfl,Rl,rfl⟩:=hv;obtain⟨ho,ol,or'⟩:=ok;have n2:¬S o = "number":=by rcases ho with rfl |rfl |rfl<;>decide +kernel
  have n3:¬S o = "box":=by rcases ho with rfl |rfl |rfl<;>decide +kernel
  have e1:(S o = "+")↔o=[43]:=by rw[show ("+":Str)=S [43] from rfl,oU]
  have e2:(S o = "-")↔o=[45]:=by rw[show ("-":Str)=S [45] from rfl,oU]
  walk_at "rd";refine aA hS rfl ?_;walk_at "rd";rw[if_neg n2,if_neg n3];have wl:=jU ol;have wr:=jU or';rw[PG.ju] at ht h6;refine aA hS rfl ⟨vl,d,l,kv,rfl,hl,hd,ol,by lia,by lia,fun H1 s1=>?_⟩;refine aA (s1.bB hS) rfl ⟨vr,d,r,kv,rfl,Rl.mono s1,s1 _ _ hd,or',by lia,by lia,fun H2 s2=>?_⟩;walk_at "rd";have q:=q _ (s1.trans s2);rw[eJ] at q;refine fR (fun c=>?_) (fun c=>?_)
  ·rw[if_pos (e1.mp c)] at q;exact q
  rw[if_neg (fun z=>c (e1.mpr z))] at q;refine fR (fun c=>?_) (fun c=>?_)
  ·rw[if_pos (e2.mp c)] at q;exact q
  rw[if_neg (fun z=>c (e2.mpr z))] at q;exact⟨⟨wz wl (by lia),wz wr (by lia)⟩,q⟩
theorem qQ(T:Tx K mg t):∀n,bw P w K mg base eM n t.kQ t.j3 ["e", "values"] (O0 K n)
 |0=>by
  have no:∀vs H Q E,¬O0 K 0 vs H Q E:=fun vs H Q E h=>by obtain⟨_,_,_,_,_,_,_,_,h,_⟩:=h;lia
  exact⟨fun vs H Q E h=>absurd h (no vs H Q E),fun A outer s H args us vs Q E _ _ _ _ h=>absurd h (no vs H Q E)⟩
 |n+1=>FU T (qQ T n)
theorem rA(T:Tx K mg t):bw P w K mg base eM 1 t.jn t.jz ["chart", "parts"] (Cz K t.aN):=by
 refine T.jq.F.j9 rq (fun vs H Q E h=>?_) (fun fq A outer s H vs Q E hr h=>?_)
 ·obtain⟨_,_,_,_,rfl,_⟩:=h;rfl
 obtain⟨p,a,pr,us,rfl,co,ha,lu,nb,lb,q⟩:=h;have nd:=rq.nd;refine⟨_,[some (.ref p),some (.ref a)],(az (aM (Ak rfl rfl T.qP rfl T.FP (ae (eG (pv 0) rfl) (bo 1 aj) sF)))),rfl,?_⟩;obtain⟨dx,nl,sd,fa,va,st,wy,uu,ws,h1,h2,h3,_⟩:=co.at_;walk_at "rd";simp only[Tf];walk_at "rd";refine⟨p,_,dx,_,.ref nl,rfl,h1,T.cR,T.fe,rfl,?_⟩;refine⟨nl,a,pr.ar.map fun b=>.inr (S b.name),us,rfl,?_,ha,by rw[ZL];exact lu,fun d hd=>?_⟩
 ·rw[zax];exact .of h3
 ·rw[tD,nH _ [] (by rw[za9,rj _ _ lu];exact names_nodup nb),za9];exact q d _ (aw.new hd _) hd ao
theorem yJ(T:Tx K mg t):bw P w K mg base eM 1 t.jo t.jA ["chart", "named"] (CA K t.aN):=by
 refine T.kU.F.j9 rz (fun vs H Q E h=>?_) (fun fq A outer s H vs Q E hr h=>?_)
 ·obtain⟨_,_,_,_,_,rfl,_⟩:=h;rfl
 obtain⟨p,d,pr,kvs,us,rfl,co,hd,lu,hv,lb,q⟩:=h;have nd:=rz.nd;have hu:=dX hr;refine⟨_,[some (.ref p),some (.ref d)],(az (aM (bT fI rfl T.i4 PyProof.Rows.Boot.«tuple» (ae (eN (own:=["name"]) (ix:=[1]) rfl (by rfl) (by rfl) (cg (eG (pv 0) rfl)) (fun _ _ _ _=>(cT (i:=0) (by show List.Nodup (["name", "named"]:List Str);decide +kernel) rfl (zau rfl))) (fun _ _ _ _=>cZ) (fun _ _ _ _=>(fw hu (pv 1) (pv 0) (fun _ _=>rfl)))) aj gU)))),rfl,?_⟩;obtain⟨dx,nl,sd,fa,va,st,wy,uu,ws,h1,h2,h3,_⟩:=co.at_;walk_at "rd";simp only[gm];walk_at "rd";have ln:(pr.ar.map fun b=>V.str (S b.name)).length=pr.ar.length:=ZL ..;refine⟨p,_,dx,_,.ref nl,rfl,h1,T.cR,T.fe,rfl,nl,rfl,⟨_,.of h3⟩,fun D hD=>?_⟩;refine mw (K:=K) (r:=[some (V.ref d)]) (fun i=>us.getD i .b4) (.of h3) (by rw[ln];lia) hD (fun i x H2 hx s2 R hR=>?_) (fun H2 s2 h2=>⟨D,_,rfl,.inl ⟨.of h2,fun l hl=>?_⟩⟩)
 ·have li:i<pr.ar.length:=by have:=(ZR.mp hx).1;rw[ln] at this;exact this
  rw[ZO,ZK li] at hx;cases hx;have g:=hv i li;have TX:i<us.length:=by lia
  rw[ZK TX] at g;have e:us.getD i .b4=us[i]:=by rw[ZX,ZK TX];rfl
  rw[e] at hR;walk_at "rd";exact⟨d,us[i],rfl,oQ.s (s2 _ _ hd) g,hR⟩
 ·have e:(zaq (pr.ar.map fun b=>V.str (S b.name)).length).map (fun i=>us.getD i .b4)=us:=by
   rw[ln,<- lu];have:=jV (fun v:V=>v) V.b4 us;rw[List.map_id'] at this;exact this
  rw[e];exact q l _ (s2.trans (aw.new hl _)) (.of ao)
theorem nV(T:Tx K mg t):bw P w K mg base eM 1 t.j4 t.kR ["chart", "row"] (E1 K t.aN):=by
 refine T.i9.F.j9 tS (fun vs H Q E h=>?_) (fun fq A outer s H vs Q E hr h=>?_)
 ·obtain⟨_,_,_,rfl,_⟩:=h;rfl
 obtain⟨p,pr,row,rfl,co,pw,q⟩:=h;have nd:=tS.nd;have hu:=dX hr;obtain⟨FR,tZ,t7⟩:=T.wR;refine⟨_,[some (.ref p),some (.int row)],(ai (bq (aL bR (pv 1) (rZ rfl tZ t7) (aQ _))
 (az (aM aU))
 aS)
 (az (aM (ax aC (fw hu (eG (pv 0) rfl) (pv 1) (fun _ _=>rfl)) ag ah)))),rfl,?_⟩
 obtain⟨dx,nl,sd,fa,va,st,wy,uu,ws,h1,h2,h3,h4,h5,h6,h7,h8,h9,_⟩:=co.at_;walk_at "rd";rcases q with ⟨rfl,q⟩ |⟨n0,i,hi,er,q⟩
 ·exact(if_pos rfl).mpr q
 ·refine(if_neg n0).mpr ⟨p,_,dx,_,.ref st,rfl,h1,T.cR,T.bV,rfl,?_⟩;have li:i<uu.length:=by lia
  obtain⟨v,hv,rv⟩:=h9.get (i:=i) (d:=du (PG.ay pr.body)[i]) (by rw[ZO,ZK hi];rfl);have g:=lL _ _ h7 pw i hi v hv;obtain⟨sa,ys,rfl,hs⟩:=gP _ rv;rw[er] at g;exact⟨st,.ref sa,rfl,.inl ⟨_,.inl row,.inl h8,rfl,g.symm⟩,aA hs (v:=.str (jH (PG.ay pr.body)[i].wd)) (aq (j:=0) rfl) q⟩
theorem yK(T:Tx K mg t):bw P w K mg base eM 4 t.pT t.pU ["chart", "standing"] (HW K t.aN):=by
 have nW:=rA (P:=P) (w:=w) (base:=base) T;have jF:=qQ (P:=P) (w:=w) (base:=base) T 3;refine T.pV.F.j9 yE (fun vs H Q E h=>?_) (fun fq A outer s H vs Q E hr h=>?_)
 ·obtain⟨_,_,_,_,_,_,_,_,_,rfl,_⟩:=h;rfl
 obtain⟨p,sa,pr,vals,i,hi,sg,l,r,rfl,co,ok,⟨va,Di,zv⟩,lv,cp,tl,tr,q⟩:=h;have nd:=yE.nd;have hu:=dX hr;refine⟨_,[some (.ref p),some (.ref sa),none,none,none,none],(ai (eV 2 nd (fw hu (eG (pv 0) rfl) (ax aC (pv 1) ag ah) (fun _ _=>rfl)))
 (ai (eV 3 nd (dA nW T.jq hr (bo 0 (ae (ax aC (pv 1) ag ah) aj aH))))
 (ai (eV 4 nd (dA jF T.iX hr (ae (ax aC (pv 2) ag ah) (bo 3 aj) aH)))
 (ai (eV 5 nd (dA jF T.iX hr (ae (ax aC (pv 2) ag ah) (bo 3 aj) aH)))
 (ai (bq (aL bR (ax aC (pv 2) ag ah) aU (aQ _))
 (az (aM (dQ qW (pv 4) (pv 5) (aQ _))))
 aS)
 (az (aM (dQ bR (pv 4) (pv 5) (aQ _))))))))),rfl,?_⟩
 obtain⟨dx,nl,sd,fa,wa,st,wy,uu,ws,h1,h2,h3,h4,h5,h6,h7,h8,h9,_⟩:=co.at_;have li:i<uu.length:=by lia
 obtain⟨v,hv,rv⟩:=h9.get (i:=i) (d:=du (PG.ay pr.body)[i]) (by rw[ZO,ZK hi];rfl);have g:=lL _ _ h7 ok.pw i hi v hv;obtain⟨ta,w0,vl,vr,ys,rfl,hs,rl,rr⟩:=tE rv cp;generalize (PG.ay pr.body)[i]=sm at *;have e1:(V.str (S sg)=V.str (ZJ "<"))↔sg=[60]:=by rw[show (ZJ "<":Str)=S [60] from rfl,V.str.injEq,oU]
 refine av fun U1 fi=>?_;walk_at "rd";refine⟨p,_,dx,_,.ref st,rfl,h1,T.cR,T.bV,rfl,?_⟩;refine aA Di (v:=.int sm.row) (aq (j:=0) rfl) ⟨st,.ref ta,rfl,.inl ⟨_,.inl sm.row,.inl h8,rfl,g.symm⟩,(fi _ _).mpr (av fun U2 iw=>?_)⟩;clear fi;walk_at "rd";refine aA Di (v:=.ref va) (aq (j:=1) rfl) ⟨p,va,pr,vals.map V.int,rfl,co,zv,by rw[ZL];exact lv,ok.nb,ok.vy,fun d H2 s2 hd2 y2=>(iw _ _).mpr (av fun U3 jO=>?_)⟩;clear iw;walk_at "rd";refine aA (s2.bB hs) (v:=vl) (aq (j:=3) rfl) ⟨vl,d,l,_,rfl,rl.mono s2,y2,tl.1,by have:=tl.2;lia,by have:=tl.2;lia,fun H3 s3=>(jO _ _).mpr (av fun U4 mX=>?_)⟩;clear jO;walk_at "rd";refine aA ((s2.trans s3).bB hs) (v:=vr) (aq (j:=4) rfl) ⟨vr,d,r,_,rfl,rr.mono (s2.trans s3),s3 _ _ y2,tr.1,by have:=tr.2;lia,by have:=tr.2;lia,fun H4 s4=>(mX _ _).mpr ?_⟩;clear mX;have q:=q _ ((s2.trans s3).trans s4);unfold fS at q;walk_at "rd";refine aA (((s2.trans s3).trans s4).bB hs) (v:=.str (S sg)) (aq (j:=2) rfl) ⟨rfl,fR (fun e=>?_) (fun e=>?_)⟩
 ·rw[if_pos (e1.mp e)] at q;exact q
 ·rw[if_neg (fun z=>e (e1.mpr z))] at q;exact q
theorem mF(T:Tx K mg t):bw P w K mg base eM 5 t.cO t.dE ["chart", "standing"] (CF K t.aN):=by
 have wY:=yK (P:=P) (w:=w) (base:=base) T;have j8:=nV (P:=P) (w:=w) (base:=base) T;refine T.dU.F.j9 iE (fun vs H Q E h=>?_) (fun fq A outer s H vs Q E hr h=>?_)
 ·obtain⟨_,_,_,_,_,_,_,_,_,_,rfl,_⟩:=h;rfl
 obtain⟨p,sa,pr,vals,i,hi,hf,sg,l,r,rfl,co,ok,rS,lv,cp,tl,tr,w0,w1,q⟩:=h;have nd:=iE.nd;have hu:=dX hr;refine⟨_,[some (.ref p),some (.ref sa),none],(ai (eV 2 nd (ax aC (pv 1) ag ah))
 (ai (bq (nF (dA wY T.pV hr (bo 0 (bo 1 aj))))
 (az (aM (aT (ae (ax aC (fw hu (eG (pv 0) rfl) (pv 2) (fun _ _=>rfl)) ag ah) (ae (ax aC (pv 1) ag ah) aj aH) aH))))
 aS)
 (ai (bq (aL bR (dA j8 T.i9 hr (bo 0 (bo 2 aj))) aU (aQ _))
 (az (aM eQ))
 aS)
 (az (aM (aT (ae (ax aC (fw hu (eG (pv 0) rfl) (pv 2) (fun _ _=>rfl)) ag ah) (ae (ax aC (pv 1) ag ah) aj aH) aH))))))),rfl,?_⟩
 obtain⟨va,Di,zv⟩:=id rS;have W0:=ok.pos _ (ZT hi);refine av fun U1 fi=>?_;walk_at "rd";refine aA Di (v:=.int (PG.ay pr.body)[i].row) (aq (j:=0) rfl) ((fi _ _).mpr ?_);clear fi;walk_at "rd";refine⟨p,sa,pr,vals,i,hi,sg,l,r,rfl,co,ok,rS,lv,cp,tl,tr,fun H2 s2=>?_⟩;obtain⟨dx,fs,wy,wq,g1,g2,g3,g4⟩:=(co.mono s2).way ok i hi hf;have qq:∀(j:Nat) (x:Int),(PG.aI pr.body 0)[i].2.2[j]?=some x->xP ((PG.aI pr.body 0)[i].2.2.map V.int) (j:Int)=some (V.int x):=fun j x e=>aq (by rw[ZO,e];rfl);have back:∀(x:Int) (H3:Hp),aw H2 H3->∀pp,H3 pp=none->oV K (upd H3 pp (.tup [V.int x,V.ref va])) (some (x,vals)) (.ref pp):=fun x H3 s3 pp CT=>⟨pp,rfl,va,.of ao,((s2.trans s3).trans (aw.new CT _)).bB zv⟩
 unfold cL at q;rw[cp] at q;simp only at q;refine⟨_,rfl,fR (fun e=>?_) (fun e=>?_)⟩
 ·rw[if_pos e] at q;have e0:(PG.aI pr.body 0)[i].2.2[0]?=some ((PG.aI pr.body 0)[i].2.2.getD 0 0):=by rw[ZX,ZK w0];rfl
  refine⟨p,_,dx,fs,.ref wy,rfl,g1,T.cR,T.eF,g2,wy,.ref wq,rfl,g3,aA g4 (v:=.int ((PG.aI pr.body 0)[i].2.2.getD 0 0)) (qq 0 _ e0) (aA (s2.bB Di) (v:=.ref va) (aq (j:=1) rfl) fun pp CT=>?_)⟩;exact q _ _ (s2.trans (aw.new CT _)) (back _ _ (aw.refl _) pp CT)
 ·rw[if_neg e] at q;refine⟨p,pr,_,rfl,co.mono s2,ok.pw,.inr ⟨by lia,i,hi,rfl,rfl,fR (fun e2=>?_) (fun e2=>?_)⟩⟩
  ·have ew:(PG.ay pr.body)[i].wd=.bO:=(EJ _).mp e2;rw[if_pos ew] at q;exact q _ _ s2 rfl
  ·have ew:(PG.ay pr.body)[i].wd≠.bO:=fun z=>e2 ((EJ _).mpr z);rw[if_neg ew] at q;have w1:=w1 ew;have e1:(PG.aI pr.body 0)[i].2.2[1]?=some ((PG.aI pr.body 0)[i].2.2.getD 1 0):=by rw[ZX,ZK w1];rfl
   refine⟨p,_,dx,fs,.ref wy,rfl,g1,T.cR,T.eF,g2,wy,.ref wq,rfl,g3,aA g4 (v:=.int ((PG.aI pr.body 0)[i].2.2.getD 1 0)) (qq 1 _ e1) (aA (s2.bB Di) (v:=.ref va) (aq (j:=1) rfl) fun pp CT=>?_)⟩;exact q _ _ (s2.trans (aw.new CT _)) (back _ _ (aw.refl _) pp CT)
theorem BO:∀w:PG.Wd,L4 (V.str (jH w)) [V.str (ZJ "must"),V.str (ZJ "if"),V.str (ZJ "while")]=decide (w=.bO\/w=.ifs\/w=.fZ):=by
 intro w;cases w<;>decide +kernel
theorem Ax:∀w:PG.Wd,(jH w=ZJ "ask")↔w=.ask:=by
 intro w;cases w<;>decide +kernel
theorem N0:∀w:PG.Wd,(jH w=ZJ "put")↔w=.put:=by
 intro w;cases w<;>decide +kernel
theorem FV:∀w:PG.Wd,(jH w=ZJ "say")↔w=.say:=by
 intro w;cases w<;>decide +kernel
theorem oV.mono{H H':Hp}{o:Option (Int×List Int)}{v:V}(h:oV K H o v)(s:aw H H'):oV K H' o v:=by
 cases o with
 |none=>exact h
 |some x=>obtain⟨a,e,sa⟩:=h;exact⟨a,e,sa.mono s⟩
theorem cond_of{bs:List PG.gf}{vals:List Int}{st:PG.aW}(h:st.wd=.bO\/st.wd=.ifs\/st.wd=.fZ)(po:E2 bs vals st):∃sg l r,jx st=some (sg,l,r)/\ye bs vals l/\ye bs vals r/\∀ws GA,gn bs st ws vals GA=(cL bs st ws vals,none):=by
 cases st<;>simp only[PG.aW.wd,reduceCtorEq,or_self,or_false,false_or] at h<;>exact⟨_,_,_,rfl,po.1,po.2,fun _ _=>rfl⟩
theorem Lz{st:PG.aW}(h:st.wd=.ask):∃k b,st=.ask k b:=by
 cases st<;>first |exact⟨_,_,rfl⟩ |cases h
theorem FW{st:PG.aW}(h:st.wd=.put):∃k b e,st=.put k b e:=by
 cases st<;>first |exact⟨_,_,_,rfl⟩ |cases h
theorem Ay{st:PG.aW}(h:st.wd=.say):∃k e,st=.say k e:=by
 cases st<;>first |exact⟨_,_,rfl⟩ |cases h
theorem IG{st:PG.aW}(h0:¬(st.wd=.bO\/st.wd=.ifs\/st.wd=.fZ))(h1:st.wd≠.ask)(h2:st.wd≠.put)(h3:st.wd≠.say):∃k,st=.stop k:=by
 cases st<;>simp only[PG.aW.wd,reduceCtorEq,or_self,or_false,false_or,not_true,not_false_iff,ne_eq] at h0 h1 h2 h3<;>exact⟨_,rfl⟩
theorem CU{H:Hp}{k:Int}{b:W}{v:V}(h:Rep K H (du (.ask k b)) v):∃a,v=.ref a/\dq K H a [.str "ask",.int k,.str (S b)]:=by
 simp only[du,Rep.aK,aG.aD,aG.bD,Rep.bf,Rep.ba] at h;obtain⟨a,ys,rfl,hS,_,_,rfl,rfl,_,_,rfl,rfl,_,_,rfl,rfl,rfl⟩:=h;exact⟨a,rfl,hS⟩
theorem vL{H:Hp}{k:Int}{b:W}{e:PM.Tr}{v:V}(h:Rep K H (du (.put k b e)) v):∃a u,v=.ref a/\dq K H a [.str "put",.int k,.str (S b),u]/\Rep K H (k5 e) u:=by
 simp only[du,Rep.aK,aG.aD,aG.bD,Rep.bf,Rep.ba] at h;obtain⟨a,ys,rfl,hS,_,_,rfl,rfl,_,_,rfl,rfl,_,_,rfl,rfl,u,_,rfl,ru,rfl⟩:=h;exact⟨a,u,rfl,hS,ru⟩
theorem vM{H:Hp}{k:Int}{e:PM.Tr}{v:V}(h:Rep K H (du (.say k e)) v):∃a u,v=.ref a/\dq K H a [.str "say",.int k,u]/\Rep K H (k5 e) u:=by
 simp only[du,Rep.aK,aG.aD,aG.bD,Rep.bf,Rep.ba] at h;obtain⟨a,ys,rfl,hS,_,_,rfl,rfl,_,_,rfl,rfl,u,_,rfl,ru,rfl⟩:=h;exact⟨a,u,rfl,hS,ru⟩
theorem vY(vals:List Int)(j:Nat)(x:Int):(vals.map V.int).set j (.int x)=(vals.set j x).map V.int:=by
 rw[zch]
theorem qR{bs:List PG.gf}(bp:∀b∈bs,0<b.size)(x:W):0<c0 bs x:=by
 unfold c0;cases e:bs[ck bs x]? with
 |none=>decide
 |some b=>exact bp b (zaL e)
theorem ud(T:Tx K mg t):bw P w K mg base eM 6 t.j5 t.kS ["chart", "standing", "figure"] (E4 K t.aN):=by
 have nX:=mF (P:=P) (w:=w) (base:=base) T;have nW:=rA (P:=P) (w:=w) (base:=base) T;have Az:=yJ (P:=P) (w:=w) (base:=base) T;have jF:=qQ (P:=P) (w:=w) (base:=base) T 3;refine T.j7.F.j9 tT (fun vs H Q E h=>?_) (fun fq A outer s H vs Q E hr h=>?_)
 ·obtain⟨_,_,_,_,_,_,_,_,_,rfl,_⟩:=h;rfl
 obtain⟨p,sa,fv,pr,vals,GA,i,hi,hf,rfl,co,ok,bp,rS,lv,W2,po,w0,w1,q⟩:=h;have nd:=tT.nd;have hu:=dX hr;refine⟨_,[some (.ref p),some (.ref sa),some fv,none,none,none,none,none],(ai (eV 3 nd (ax aC (pv 1) ag ah))
 (ai (eV 4 nd (fw hu (eG (pv 0) rfl) (pv 3) (fun _ _=>rfl)))
 (ai (eV 5 nd (ax aC (pv 4) ag ah))
 (ai (bq (aL ql (pv 5) (aT (eB (vs:=[.str "must",.str "if",.str "while"]) (by kernel_rfl))) rfl)
 (az (aM (aT (ae (dA nX T.dU hr (bo 0 (bo 1 aj))) (ae eQ aj aB) bC))))
 aS)
 (ai (eV 6 nd (dA nW T.jq hr (bo 0 (ae (ax aC (pv 1) ag ah) aj aH))))
 (ai (eV 7 nd eQ)
 (ai (bq (aL bR (pv 5) aU (aQ _))
 (az (oR hu (pv 6) (ax aC (pv 4) ag ah) (a7 gM (pv 2) (fw hu (eG (pv 0) rfl) (ax aC (pv 4) ag ah) (fun _ _=>rfl))) rfl))
 (az (bq (aL bR (pv 5) aU (aQ _))
 (az (oR hu (pv 6) (ax aC (pv 4) ag ah) (a7 gM (dA jF T.iX hr (ae (ax aC (pv 4) ag ah) (bo 6 aj) aH)) (fw hu (eG (pv 0) rfl) (ax aC (pv 4) ag ah) (fun _ _=>rfl))) rfl))
 (az (bq (aL bR (pv 5) aU (aQ _))
 (az (eV 7 nd (dA jF T.iX hr (ae (ax aC (pv 4) ag ah) (bo 6 aj) aH))))
 aS)))))
 (az (aM (aT (ae (aT (ae (ax aC (fw hu (eG (pv 0) rfl) (pv 3) (fun _ _=>rfl)) ag ah) (ae (dA Az T.kU hr (bo 0 (bo 6 aj))) aj bC) aH)) (bo 7 aj) eI))))))))))),rfl,?_⟩
 obtain⟨va,Di,zv⟩:=id rS;obtain⟨dx,nl,sd,fa,Zd,st,wy,uu,ws,h1,h2,h3,h4,h5,h6,h7,h8,h9,_⟩:=co.at_;have li:i<uu.length:=by lia
 obtain⟨v,hv,rv⟩:=h9.get (i:=i) (d:=du (PG.ay pr.body)[i]) (by rw[ZO,ZK hi];rfl);have g:=lL _ _ h7 ok.pw i hi v hv;have sel:∃ta ds,v=.ref ta/\dq K H ta (.str (jH (PG.ay pr.body)[i].wd)::ds):=by
  generalize (PG.ay pr.body)[i]=sm at rv;cases sm<;>(rw[du,Rep.aK] at rv;obtain⟨ta,ys,rfl,hs,rs⟩:=rv;rw[aG.aD] at rs;obtain⟨v0,t0,rfl,e0,rs⟩:=rs;rw[Rep.bf] at e0;subst e0;exact⟨ta,_,rfl,hs⟩)
 obtain⟨ta,ds,rfl,hs⟩:=sel;refine av fun U1 fi=>?_;walk_at "rd";refine aA Di (v:=.int (PG.ay pr.body)[i].row) (aq (j:=0) rfl) ((fi _ _).mpr (av fun U2 iw=>?_));clear fi;walk_at "rd";refine⟨p,_,dx,_,.ref st,rfl,h1,T.cR,T.bV,rfl,⟨st,.ref ta,rfl,.inl ⟨_,.inl _,.inl h8,rfl,g.symm⟩,(iw _ _).mpr (av fun U3 jO=>?_)⟩⟩;clear iw;walk_at "rd";refine aA hs (v:=.str (jH (PG.ay pr.body)[i].wd)) (aq (j:=0) rfl) ((jO _ _).mpr ?_);clear jO;refine av fun U4 mX=>?_;walk_at "rd";intro z hz;have sz:=aw.new hz (HO.tup [V.str (ZJ "must"),V.str (ZJ "if"),V.str (ZJ "while")]);refine⟨z,_,rfl,.inr (.of ao),rfl,rfl,_,rfl,fR (fun e=>?_) (fun e=>?_)⟩
 ·have e:=e;simp only[Z2,if_false,BO,decide_eq_true_eq] at e;obtain⟨sg,l,r,cp,tl,tr,es⟩:=cond_of e po;rw[es] at q;refine⟨p,sa,pr,vals,i,hi,hf,sg,l,r,rfl,co.mono sz,ok,rS.mono sz,lv,cp,tl,tr,w0,fun nm=>w1 (by rcases e with e |e |e;exact absurd e nm;exact .inl e;exact .inr e),fun v H2 s2 os pp CT=>?_⟩;exact q pp v _ ((sz.trans s2).trans (aw.new CT _)) (.of ao) (oV.mono os (aw.new CT _))
 have e0:=e;simp only[Z2,if_false,BO,decide_eq_true_eq] at e0;refine(mX _ _).mpr (av fun U5 uc=>?_);clear mX e;walk_at "rd";refine aA (sz.bB Di) (v:=.ref va) (aq (j:=1) rfl) ⟨p,va,pr,vals.map V.int,rfl,co.mono sz,sz.bB zv,by rw[ZL];exact lv,ok.nb,ok.vy,fun d H2 W4 hd2 y2=>(uc _ _).mpr (av fun U6 wW=>?_)⟩;clear uc;have s2:=sz.trans W4;have hd:=sz.free hd2;walk_at "rd";refine(wW _ _).mpr (av fun U7 GF=>?_);clear wW;have fin:∀(H5:Hp) (kvs:List (Key×V)) (us:List Int) (sd:Option Int),aw H H5->H5 d=some (.dK kvs)->us.length=pr.ar.length->(∀i (hi:i<pr.ar.length),b5 kvs (.inr (S pr.ar[i].name))=(us.map V.int)[i]?)->
  gn pr.ar (PG.ay pr.body)[i] (PG.aI pr.body 0)[i].2.2 vals GA=(some ((PG.aI pr.body 0)[i].2.2.getD 0 0,us),sd)->
  U7 [some (.ref p),some (.ref sa),some fv,some (.int (PG.ay pr.body)[i].row),some (.ref ta),some (.str (jH (PG.ay pr.body)[i].wd)),some (.ref d),some (E3 sd)] H5:=by
  intro H5 kvs us Ze s5 W5 lu look es;rw[es] at q;refine(GF _ _).mpr ?_;clear GF;walk_at "rd";obtain⟨dx,fs,wy,wq,g1,g2,g3,g4⟩:=(co.mono s5).way ok i hi hf;have e0:(PG.aI pr.body 0)[i].2.2[0]?=some ((PG.aI pr.body 0)[i].2.2.getD 0 0):=by rw[ZX,ZK w0];rfl
  have qq:xP ((PG.aI pr.body 0)[i].2.2.map V.int) ((0:Nat):Int)=some (V.int ((PG.aI pr.body 0)[i].2.2.getD 0 0)):=aq (by rw[ZO,e0];rfl);refine⟨p,_,dx,fs,.ref wy,rfl,g1,T.cR,T.eF,g2,wy,.ref wq,rfl,g3,aA g4 (v:=.int ((PG.aI pr.body 0)[i].2.2.getD 0 0)) qq ?_⟩;refine⟨p,d,pr,kvs,us.map V.int,rfl,co.mono s5,W5,by rw[ZL];exact lu,look,ok.vy,fun a H6 s6 sq p1 TY p2 qe=>?_⟩;exact q p2 _ _ (((s5.trans s6).trans (aw.new TY _)).trans (aw.new qe _)) (.of ao) ⟨p1,rfl,a,(aw.new qe _).bB (.of ao),((aw.new TY _).trans (aw.new qe _)).bB sq⟩
 have N1:(bU pr.ar (vals.map V.int)).length<zct:=by
  have line:zct=2 ^ 24:=rfl;have:=ok.vy;unfold bU;rw[zby];lia
 have keep:∀i (hi:i<pr.ar.length),b5 (bU pr.ar (vals.map V.int)) (.inr (S pr.ar[i].name))=(vals.map V.int)[i]?:=fun i hi=>by
  have li:i<(vals.map V.int).length:=by rw[ZL];lia
  rw[i7 pr.ar (vals.map V.int) (by rw[ZL];exact lv) ok.nb i hi _ (ZK li),ZK li]
 have put:∀(b:W),b∈pr.ar.map (·.name)->∀(x:Int),(kG pr.ar vals b x).length=pr.ar.length/\∀i (hi:i<pr.ar.length),b5 (putK (bU pr.ar (vals.map V.int)) (.inr (S b)) (.int x)) (.inr (S pr.ar[i].name))=((kG pr.ar vals b x).map V.int)[i]?:=fun b hb x=>by
  refine⟨by unfold kG;rw[zbS];exact lv,fun i hi=>?_⟩;rw[Am (by rw[ZL];exact lv) ok.nb hb,vY];rfl
 have N2:∀H3 o,aw H H3->aw H (upd H3 d o):=fun H3 o s3=>((bh.of s3:bh d H H3).put o).same hd;walk_at "rd";refine fR (fun e=>?_) (fun e=>?_)
 ·obtain⟨k,b,GG⟩:=Lz ((Ax _).mp e);have rv:=rv;rw[GG] at rv po;obtain⟨_,ee,hT⟩:=CU rv;cases ee;have W6:=W2 ((Ax _).mp e);subst W6;obtain⟨l1,l2⟩:=put b po (GA%c0 pr.ar b);refine⟨p,_,dx,_,.ref sd,rfl,s2 _ _ h1,T.cR,T.fh,rfl,aA (s2.bB hT) (v:=.str (S b)) (aq (j:=2) rfl) ⟨sd,.int (c0 pr.ar b),rfl,.inl ⟨_,.inr (S b),.inl (s2 _ _ h4),rfl,(yh ok.nb po).symm⟩,?_⟩⟩;refine⟨_,_,rfl,rfl,qR bp b,aA (s2.bB hT) (v:=.str (S b)) (aq (j:=2) rfl) ⟨d,_,rfl,.inl ⟨_,.inr (S b),y2,rfl,N1,rfl⟩,?_⟩⟩;exact fin _ _ _ none (N2 _ _ s2) ao l1 l2 (by rw[GG];rfl)
 refine fR (fun e2=>?_) (fun e2=>?_)
 ·obtain⟨k,b,tr,GG⟩:=FW ((N0 _).mp e2);have rv:=rv;rw[GG] at rv po;obtain⟨_,u,ee,hT,ru⟩:=vL rv;cases ee;obtain⟨l1,l2⟩:=put b po.1 (wv pr.ar vals tr%c0 pr.ar b);refine aA (s2.bB hT) (v:=u) (aq (j:=3) rfl) ⟨u,d,tr,_,rfl,ru.mono s2,y2,po.2.1,by have:=po.2.2;lia,by have:=po.2.2;lia,fun H3 N3=>?_⟩;have s3:=s2.trans N3;refine⟨p,_,dx,_,.ref sd,rfl,s3 _ _ h1,T.cR,T.fh,rfl,aA (s3.bB hT) (v:=.str (S b)) (aq (j:=2) rfl) ⟨sd,.int (c0 pr.ar b),rfl,.inl ⟨_,.inr (S b),.inl (s3 _ _ h4),rfl,(yh ok.nb po.1).symm⟩,?_⟩⟩;refine⟨_,_,rfl,rfl,qR bp b,aA (s3.bB hT) (v:=.str (S b)) (aq (j:=2) rfl) ⟨d,_,rfl,.inl ⟨_,.inr (S b),N3 _ _ y2,rfl,N1,rfl⟩,?_⟩⟩;exact fin _ _ _ none (N2 _ _ s3) ao l1 l2 (by rw[GG];rfl)
 refine fR (fun e3=>?_) (fun e3=>?_)
 ·obtain⟨k,tr,GG⟩:=Ay ((FV _).mp e3);have rv:=rv;rw[GG] at rv po;obtain⟨_,u,ee,hT,ru⟩:=vM rv;cases ee;refine aA (s2.bB hT) (v:=u) (aq (j:=2) rfl) ⟨u,d,tr,_,rfl,ru.mono s2,y2,po.1,by have:=po.2;lia,by have:=po.2;lia,fun H3 N3=>?_⟩;exact fin _ _ _ (some _) (s2.trans N3) (N3 _ _ y2) lv keep (by rw[GG];rfl)
 obtain⟨k,GG⟩:=IG e0 (fun z=>e ((Ax _).mpr z)) (fun z=>e2 ((N0 _).mpr z)) (fun z=>e3 ((FV _).mpr z));exact fin _ _ _ none s2 y2 lv keep (by rw[GG];rfl)
theorem qS:∀s:PG.aW,(V.str (jH s.wd)=V.str (ZJ "while"))↔s.wd=.fZ:=by
 intro s;cases s<;>simp only[PG.aW.wd]<;>decide +kernel
theorem wZ:∀s:PG.aW,(V.str (jH s.wd)=V.str (ZJ "if"))↔s.wd=.ifs:=by
 intro s;cases s<;>simp only[PG.aW.wd]<;>decide +kernel
theorem BP:∀s:PG.aW,(V.str (jH s.wd)=V.str (ZJ "stop"))↔s.wd=.stop:=by
 intro s;cases s<;>simp only[PG.aW.wd]<;>decide +kernel
theorem BQ{K:ZI}{H:Hp}{d0 d1 d2 d3 d4 d5:Dp}{xs:List V}{ds:List Dp}(h:aG K H (d0::d1::d2::d3::d4::d5::ds) xs):∃v0 v1 v2 v3 v4 v5 r,xs=v0::v1::v2::v3::v4::v5::r/\Rep K H d5 v5/\aG K H ds r:=by
 rw[aG.aD] at h;obtain⟨v0,t0,rfl,_,h⟩:=h;rw[aG.aD] at h;obtain⟨v1,t1,rfl,_,h⟩:=h;rw[aG.aD] at h;obtain⟨v2,t2,rfl,_,h⟩:=h;rw[aG.aD] at h;obtain⟨v3,t3,rfl,_,h⟩:=h;rw[aG.aD] at h;obtain⟨v4,t4,rfl,_,h⟩:=h;rw[aG.aD] at h;obtain⟨v5,t5,rfl,e5,h⟩:=h;exact⟨v0,v1,v2,v3,v4,v5,t5,rfl,e5,h⟩
theorem kW(T:Tx K mg t):bw P w K mg base eM 1 t.cK t.cD ["body", "behind"] (mq K):=by
 refine T.dP.F.j9 pH (fun vs H Q E h=>?_) (fun fq A outer s H vs Q E hr h=>?_)
 ·obtain⟨_,_,_,rfl,_⟩:=h;rfl
 obtain⟨b,body,x,rfl,rb,lb,q⟩:=h;have nd:=pH.nd;refine⟨_,[some (V.ref b),some (V.int x)],(ai (bq (DF (pv 0) (fun _=>rfl))
 (az (aM (ax aC (ax aF (pv 0) ag ah) ag ah)))
 aS)
 (az (aM (pv 1)))),rfl,?_⟩
 walk_at "rd";rw[Rep.bH] at rb;obtain⟨_,xs,e,hx,rs⟩:=rb;cases e;have line:zct=2 ^ 24:=rfl;cases body with
 |nil=>
  rw[zaD,aG.bD] at rs;subst rs;exact⟨false,.inl ⟨_,hx,rfl⟩,q⟩
 |cons st r=>
  rw[ZW,aG.aD] at rs;obtain⟨v,t,rfl,rv,rs⟩:=rs;obtain⟨a,ys,rfl,hs⟩:=gP st rv;refine⟨true,.inl ⟨_,hx,rfl⟩,?_⟩;refine(if_pos rfl).mpr (aO (v:=.ref a) hx (aq (j:=0) rfl) ?_);exact aA hs (v:=.int st.row) (aq (j:=1) rfl) q
theorem uh(T:Tx K mg t):bw P w K mg base eM 1 t.eC t.eW ["statement", "after"] (x6 K):=by
 refine T.gX.F.j9 l7 (fun vs H Q E h=>?_) (fun fq A outer s H vs Q E hr h=>?_)
 ·obtain⟨_,_,_,rfl,_⟩:=h;rfl
 obtain⟨v,st,x,rfl,rv,q⟩:=h;have nd:=l7.nd;refine⟨_,[some v,some (V.int x)],(ai (bq (aL bR (ax aC (pv 0) ag ah) aU (aQ _))
 (az (aM (ax aC (pv 0) ag ah)))
 aS)
 (az (aM (pv 1)))),rfl,?_⟩
 obtain⟨a,ys,rfl,hs⟩:=gP st rv;walk_at "rd";refine aA hs (aq (j:=0) rfl) ⟨rfl,fR (fun e=>?_) (fun e=>?_)⟩
 ·have ew:=(qS st).mp e;refine aA hs (v:=.int st.row) (aq (j:=1) rfl) ?_;cases st<;>first |exact q |cases ew
 ·have ew:st.wd≠.fZ:=fun z=>e ((qS st).mpr z);cases st<;>first |exact q |exact absurd rfl ew
theorem pZ(T:Tx K mg t):bw P w K mg base eM 1 t.eX t.fB ["statement"] (tj K):=by
 refine T.il.F.j9 pJ (fun vs H Q E h=>?_) (fun fq A outer s H vs Q E hr h=>?_)
 ·obtain⟨_,_,_,rfl,_⟩:=h;rfl
 obtain⟨v,st,H0,rfl,rv,s0,q⟩:=h;have nd:=pJ.nd;refine⟨_,[some v],(ai (bq (aL bR (ax aC (pv 0) ag ah) aU (aQ _))
 (az (aM (bA (ae (ax aC (pv 0) ag ah) (ae (ax aC (pv 0) ag ah) aj aH) aH))))
 aS)
 (ai (bq (aL bR (ax aC (pv 0) ag ah) aU (aQ _))
 (az (aM (bA (ae (ax aC (pv 0) ag ah) aj aH))))
 aS)
 (az (aM (bA aj))))),rfl,?_⟩
 obtain⟨a,ys,rfl,hs⟩:=gP st rv;have hs:=s0.bB hs;walk_at "rd";refine aA hs (aq (j:=0) rfl) ⟨rfl,fR (fun e=>?_) (fun e=>aA hs (aq (j:=0) rfl) ⟨rfl,fR (fun e2=>?_) (fun e2=>?_)⟩)⟩
 ·have ew:=(wZ st).mp e;cases st<;>first |(exfalso;cases ew;done) |skip
  rename_i k sg l r x y;rw[du,Rep.aK] at rv;obtain⟨_,xs,e0,hx,rs⟩:=rv;cases e0;obtain⟨v0,v1,v2,v3,v4,v5,rr,rfl,r5,rs⟩:=BQ rs;rw[aG.aD] at rs;obtain⟨v6,t6,rfl,r6,_⟩:=rs;refine aA (s0.bB hx) (v:=v5) (aq (j:=5) rfl) (aA (s0.bB hx) (v:=v6) (aq (j:=6) rfl) fun p hp=>?_);rw[dY] at r5 r6;exact q p _ _ (aw.new hp _) hp ao (.cons r5 (.cons r6 .nil))
 ·have ew:=(qS st).mp e2;cases st<;>first |(exfalso;cases ew;done) |skip
  rename_i k sg l r x;rw[du,Rep.aK] at rv;obtain⟨_,xs,e0,hx,rs⟩:=rv;cases e0;obtain⟨v0,v1,v2,v3,v4,v5,rr,rfl,r5,rs⟩:=BQ rs;refine aA (s0.bB hx) (v:=v5) (aq (j:=5) rfl) fun p hp=>?_;rw[dY] at r5;exact q p _ _ (aw.new hp _) hp ao (.cons r5 .nil)
 ·intro p hp;have e1:st.wd≠.ifs:=fun z=>e ((wZ st).mpr z);have W7:st.wd≠.fZ:=fun z=>e2 ((qS st).mpr z);refine q p [] _ (aw.new hp _) hp ao ?_;cases st<;>first |exact .nil |exact absurd rfl e1 |exact absurd rfl W7
theorem AA(T:Tx K mg t):bw P w K mg base eM 2 t.i8 t.jm ["statement", "after"] (EG K):=by
 have b7:bw P w K mg base eM 1 t.cK t.cD ["body", "behind"] (mq K):=kW T;refine T.mz.F.j9 tR (fun vs H Q E h=>?_) (fun fq A outer s H vs Q E hr h=>?_)
 ·obtain⟨_,_,_,rfl,_⟩:=h;rfl
 obtain⟨v,st,x,rfl,rv,hl,q⟩:=h;have nd:=tR.nd;obtain⟨FR,tZ,t7⟩:=T.wR;refine⟨_,[some v,some (V.int x),none],(ai (eV 2 nd (ax aC (pv 0) ag ah))
 (ai (bq (aL bR (pv 2) aU (aQ _))
 (az (aM (aT (ae (rZ rfl tZ t7) aj ky))))
 aS)
 (ai (bq (aL bR (pv 2) aU (aQ _))
 (az (aM (aT (ae (dA b7 T.dP hr (ae (ax aC (pv 0) ag ah) (bo 1 aj) aH)) (ae (dA b7 T.dP hr (ae (ax aC (pv 0) ag ah) (bo 1 aj) aH)) aj bC) bC))))
 aS)
 (ai (bq (aL bR (pv 2) aU (aQ _))
 (az (aM (aT (ae (dA b7 T.dP hr (ae (ax aC (pv 0) ag ah) (ae (ax aC (pv 0) ag ah) aj aH) aH)) (bo 1 aj) bC))))
 aS)
 (az (aM (aT (bo 1 aj)))))))),rfl,?_⟩
 obtain⟨a,ys,rfl,hs⟩:=gP st rv;refine av fun U1 fi=>?_;walk_at "rd";refine aA hs (aq (j:=0) rfl) ((fi _ _).mpr ?_);walk_at "rd";have FX:∀b∈aE st,b.length<=100000:=hl;refine fR (fun e=>?_) (fun e=>fR (fun e1=>?_) (fun e1=>fR (fun e2=>?_) (fun e2=>?_)))
 ·have ew:=(BP st).mp (by rw[e]);cases st<;>first |(exfalso;cases ew;done) |skip
  intro p hp;exact q _ _ (aw.new hp _) (Rep.new hp (.cons (Rep.ba.mpr rfl) .nil))
 ·have ew:=(wZ st).mp (by rw[e1]);cases st<;>first |(exfalso;cases ew;done) |skip
  rename_i k sg l r y z;rw[du,Rep.aK] at rv;obtain⟨_,xs,e0,hx,rs⟩:=rv;cases e0;obtain⟨v0,v1,v2,v3,v4,v5,rr,rfl,r5,rs⟩:=BQ rs;rw[aG.aD] at rs;obtain⟨v6,t6,rfl,r6,_⟩:=rs;rw[dY] at r5 r6;obtain⟨a5,_,rfl,_⟩:=Rep.bH.mp r5;obtain⟨a6,_,rfl,_⟩:=Rep.bH.mp r6;refine aA hx (v:=.ref a5) (aq (j:=5) rfl) ⟨a5,y,x,rfl,r5,FX y (by simp[aE]),aA hx (v:=.ref a6) (aq (j:=6) rfl) ⟨a6,z,x,rfl,r6,FX z (by simp[aE]),fun p hp=>?_⟩⟩;exact q _ _ (aw.new hp _) (Rep.new hp (.cons (Rep.ba.mpr rfl) (.cons (Rep.ba.mpr rfl) .nil)))
 ·have ew:=(qS st).mp (by rw[e2]);cases st<;>first |(exfalso;cases ew;done) |skip
  rename_i k sg l r y;rw[du,Rep.aK] at rv;obtain⟨_,xs,e0,hx,rs⟩:=rv;cases e0;obtain⟨v0,v1,v2,v3,v4,v5,rr,rfl,r5,rs⟩:=BQ rs;rw[dY] at r5;obtain⟨a5,_,rfl,_⟩:=Rep.bH.mp r5;refine aA hx (v:=.ref a5) (aq (j:=5) rfl) (aA hs (v:=.int k) (aq (j:=1) rfl) ⟨a5,y,k,rfl,r5,FX y (by simp[aE]),fun p hp=>?_⟩);exact q _ _ (aw.new hp _) (Rep.new hp (.cons (Rep.ba.mpr rfl) (.cons (Rep.ba.mpr rfl) .nil)))
 ·intro p hp;have n1:st.wd≠.stop:=fun z=>e (V.str.inj ((BP st).mpr z));have n2:st.wd≠.ifs:=fun z=>e1 (V.str.inj ((wZ st).mpr z));have n3:st.wd≠.fZ:=fun z=>e2 (V.str.inj ((qS st).mpr z));have ew:lK st x=[x]:=by
   cases st<;>first |rfl |exact absurd rfl n1 |exact absurd rfl n2 |exact absurd rfl n3
  rw[ew] at q;exact q _ _ (aw.new hp _) (Rep.new hp (.cons (Rep.ba.mpr rfl) .nil))
theorem FY{K:ZI}{Oo:zcl->Prop}{H:Hp}{ds es:List Dp}{vs us:List V}(a:gw K Oo H ds vs)(b:gw K Oo H es us):gw K Oo H (ds++es) (vs++us):=fun H2 u=>(a H2 u).append (b H2 u)
theorem vN{K:ZI}{H:Hp}:∀(n:Nat) {ds:List PG.aW} {vs:List V},aG K H (ds.map du) vs->aG K H ((ds.drop n).map du) (vs.drop n)
 |0,_,_,h=>h
 |n+1,[],vs,h=>by
  rw[zaD,aG.bD] at h;subst h;exact .nil
 |n+1,d::ds,vs,h=>by
  rw[ZW,aG.aD] at h;obtain⟨v,t,rfl,_,h⟩:=h;exact vN n h
theorem FZ(T:Tx K mg t){n:Nat}(js:bw P w K mg base eM (n+2) t.cN t.cW ["body", "behind"] (sH K n)) :
 bw P w K mg base eM (n+3) t.cN t.cW ["body", "behind"] (sH K (n+1)):=by
 have b7:bw P w K mg base eM 1 t.cK t.cD ["body", "behind"] (mq K):=kW T;have CV:bw P w K mg base eM 2 t.i8 t.jm ["statement", "after"] (EG K):=AA T;have mf:bw P w K mg base eM 1 t.eX t.fB ["statement"] (tj K):=pZ T;have uP:bw P w K mg base eM 1 t.eC t.eW ["statement", "after"] (x6 K):=uh T;refine T.eZ.F.j9 kZ (fun vs H Q E h=>?_) (fun fq A outer s H vs Q E hr h=>?_)
 ·obtain⟨_,_,_,rfl,_⟩:=h;rfl
 obtain⟨b,body,x,rfl,rb,hd,hf,q⟩:=h;have nd:=kZ.nd;refine⟨_,[some (V.ref b),some (V.int x),none,none,none,none,none],(ai (eV 2 nd (bA aj))
 (ai (kg PassesOwn.never rfl (Hn rfl T.ma (bo 0 aj)) (zz rfl (gY (zt 3 nd) (gY (zt 4 nd) se)))
 (ai (eV 5 nd (dA b7 T.dP hr (ae (ja mi (pv 0) (kl (a7 fQ (pv 3) ag)) kh) (bo 1 aj) aH)))
 (ai (gR (oP zah zaN zaO i6 (pv 2) (ae (aT (ae (ax aC (pv 4) ag ah) (ae (ax aC (pv 4) ag ah) (ae (dA CV T.mz hr (bo 4 (bo 5 aj))) aj bC) aH) aH)) aj eI)))
 (az (kg PassesOwn.never rfl (cg (dA mf T.il hr (bo 4 aj))) (zt 6 nd)
 (az (gR (oP zah zbK zbL vj (pv 2) (ae (dA js T.eZ hr (bo 6 (ae (dA uP T.gX hr (bo 4 (bo 5 aj))) aj bC))) aj bC)))))))))
 (az (aM (pv 2))))),rfl,?_⟩
 have line:zct=2 ^ 24:=rfl;rw[Rep.bH] at rb;obtain⟨_,xs,e,hx,rs⟩:=rb;cases e;have lx:xs.length=body.length:=by rw[rs.length,ZL]
 have lb:=dI body;refine av fun U1 fi=>?_;walk_at "rd";intro tl O8;have s1:=aw.new O8 (.lst []);have y1:(upd H tl (.lst [])) tl=some (.lst []):=ao;generalize upd H tl (.lst [])=H1 at *;refine(fi _ _).mpr (av fun U2 iw=>?_);clear fi;walk_at "rd";obtain⟨Pv,rT⟩:∃Pv:Nat->St->Hp->Prop,∀i σ H2,Pv i σ H2↔∃(z3 z4 z5 z6:Option V) (pre:List PG.bW) (us:List V),σ=[some (V.ref b),some (V.int x),some (V.ref tl),z3,z4,z5,z6]/\aw H H2/\H2 tl=some (.lst us)/\gw K (·=tl) H2 (pre.map gO) us/\us.length=pre.length/\pre++PG.aI (body.drop i) x=PG.aI body x:=⟨_,fun _ _ _=>Iff.rfl⟩
 refine⟨_,rfl,⟨xs,s1.seq hx⟩,EC (K:=K) (a:=b) (xs:=xs) Pv ((rT _ _ _).mpr ⟨none,none,none,none,[],[],rfl,s1,y1,.nil,rfl,rfl⟩) (fun i σ H2 _ hv=>?_) ?_ ?_⟩
 ·obtain⟨_,_,_,_,_,_,_,s2,_⟩:=(rT _ _ _).mp hv;exact s2.seq hx
 ·intro i y σ H2 tp hi hv O9;obtain⟨z3,z4,z5,z6,pre,us,rfl,s2,y2,f2,lu,ep⟩:=(rT _ _ _).mp hv;clear hv;have done:=fun σ H7=>(rT (i+1) σ H7).mpr;have li:i<body.length:=by have:=(ZR.mp hi).1;lia
  obtain⟨v,hv,rv⟩:=rs.get (i:=i) (d:=du body[i]) (by rw[ZO,ZK li];rfl);rw[hi] at hv;cases hv;have ed:body.drop i=body[i]::body.drop (i+1):=zaA li;rw[ed,PG.aI,EE] at ep;have mem:body[i]∈body:=ZT li;obtain⟨fm,dm⟩:=qw body _ mem;generalize qd:body[i]=st at *;have s3:=s2.trans (aw.new O9 (.tup [V.int i,y]));have n3:tl≠tp:=au y2 O9;have y3:=aw.new O9 (.tup [V.int i,y]) _ _ y2;have f3:=f2.up (.of (aw.new O9 (.tup [V.int i,y])));have t3:(upd H2 tp (.tup [V.int i,y])) tp=some (.tup [V.int i,y]):=ao;generalize upd H2 tp (.tup [V.int i,y])=H3 at *;obtain⟨sa,ys,rfl,hs⟩:=gP st rv;refine⟨tp,_,rfl,.of t3,rfl,_,_,rfl,_,_,rfl,rfl,?_⟩;refine av fun U3 jO=>?_;walk_at "rd";refine⟨_,rfl,b,_,rfl,s3.seq hx,fun p4 F0=>?_⟩;have ec:k4 xs (some ((i:Int)+1)) none=xs.drop (i+1):=by
   unfold k4;rw[HT.oM,show (i:Int)+1=((i+1:Nat):Int) by lia,HT.sk];rw[show min (i+1) xs.length=i+1 by lia];exact zaR (by rw[zaC];lia)
  rw[ec];have s4:=s3.trans (aw.new F0 (.lst (xs.drop (i+1))));have y4:=aw.new F0 (.lst (xs.drop (i+1))) _ _ y3;have f4:=f3.up (.of (aw.new F0 (.lst (xs.drop (i+1)))));have l4:(upd H3 p4 (.lst (xs.drop (i+1)))) p4=some (.lst (xs.drop (i+1))):=ao;generalize upd H3 p4 (.lst (xs.drop (i+1)))=H4 at *;have W8:Rep K H4 (.lst ((body.drop (i+1)).map du)) (.ref p4):=Rep.bH.mpr ⟨p4,_,rfl,.of l4,vN (i+1) (rs.mono s4)⟩;refine⟨p4,body.drop (i+1),x,rfl,W8,by rw[zaC];lia,(jO _ _).mpr (av fun U4 mX=>?_)⟩;clear jO;generalize PG.aP (body.drop (i+1)) x=af at *;have TZ:=(show dq K H4 sa _ from s4.bB hs)
  walk_at "rd";refine⟨.inl ⟨rfl,_,.of y4⟩,aA TZ (v:=.int st.row) (aq (j:=1) rfl) (aA TZ (v:=.str (jH st.wd)) (aq (j:=0) rfl) ?_)⟩;have sh:EF st:=fun bb L5=>by
   have:=(kB st bb L5).1;have:=dI bb;lia
  refine⟨.ref sa,st,af,rfl,rv.mono s4,sh,fun u H5 s5 ru p6 ID=>?_⟩;have y5:=s5 _ _ y4;have f5:=f4.up (.of s5);have fu:Fix K (·=tl) H5 (.tup ((lK st af).map .int)) u:=KZ y5 (by rw[Hr];exact qv _) ru;have n6:p6≠tl:=(au y5 ID).symm;have s6:=aw.new ID (.tup [V.int st.row,V.str (jH st.wd),u]);have ft:Fix K (·=tl) (upd H5 p6 (.tup [V.int st.row,V.str (jH st.wd),u])) (gO (st.row,st.wd,lK st af)) (.ref p6):=Fix.tup ao n6 (.cons .int (.cons .str (.cons (fu.up (.of s6)) .nil)));have f6:=f5.up (.of s6);have y6:=s6 _ _ y5;have Rm:=(s4.trans s5).trans s6;generalize upd H5 p6 (.tup [V.int st.row,V.str (jH st.wd),u])=H6 at *;have W9:pre.length<=1000:=by
   have h1:=congrArg zad ep;have h2:=congrArg zad (PG.dH body x);simp only[ZP,ZL,ZN] at h1 h2;lia
  refine⟨tl,us,_,rfl,rfl,y6,by lia,?_⟩;have s7:aw H (upd H6 tl (.lst (us++[V.ref p6]))):=fun z o e=>by rw[aR (au e O8)];exact Rm z o e
  have f7:=(f6.snoc ft).up (bK.refl.put (O:=(·=tl)) rfl (.lst (us++[V.ref p6])));have y7:(upd H6 tl (.lst (us++[V.ref p6]))) tl=some (.lst (us++[V.ref p6])):=ao;generalize upd H6 tl (.lst (us++[V.ref p6]))=H7 at *;refine(mX _ _).mpr ?_;clear mX;refine lG fun U hU=>?_;walk_at "rd";refine⟨.ref sa,st,H,rfl,rv,s7,fun l8 bv H8 s8 T1 y8 r8=>⟨l8,rfl,⟨bv,.of y8⟩,hU _ _ ?_⟩⟩;have Rn:bv.length=(aE st).length:=by rw[r8.length,ZL]
  have Xa:l8≠tl:=fun z=>by rw[z,y7] at T1;cases T1
  obtain⟨Pw,JD⟩:∃Pw:Nat->St->Hp->Prop,∀j σ H9,Pw j σ H9↔∃(z6:Option V) (us:List V) (yM:List PG.bW),σ=[some (V.ref b),some (V.int x),some (V.ref tl),some (V.int i),some (V.ref sa),some (V.int af),z6]/\aw H H9/\(∀z o,z≠tl->H8 z=some o->H9 z=some o)/\H9 tl=some (.lst us)/\gw K (·=tl) H9 (yM.map gO) us/\us.length=yM.length/\
   yM++((aE st).drop j).flatMap (fun bb=>PG.aI bb (gy st af))=pre++(st.row,st.wd,lK st af)::(aE st).flatMap (fun bb=>PG.aI bb (gy st af)):=⟨_,fun _ _ _=>Iff.rfl⟩
  refine lA (K:=K) (a:=l8) (xs:=bv) Pw ((JD _ _ _).mpr ⟨z6,_,pre++[(st.row,st.wd,lK st af)],rfl,s7.trans s8,fun z o _ e=>e,s8 _ _ y7,by rw[Z8];exact f7.up (.of s8),by simp[lu],by simp⟩) (fun j σ H9 _ hv=>?_) ?_ ?_
  ·obtain⟨_,_,_,_,_,k9,_⟩:=(JD _ _ _).mp hv;exact .of (k9 _ _ Xa y8)
  ·intro j y σ H9 hj hv;obtain⟨Xb,Dj,yM,rfl,s9,k9,y9,f9,Ro,e9⟩:=(JD _ _ _).mp hv;clear hv;have lj:j<(aE st).length:=by have:=(ZR.mp hj).1;lia
   obtain⟨v,hv,rb⟩:=r8.get (i:=j) (d:=.lst ((aE st)[j].map du)) (by rw[ZO,ZK lj];rfl);rw[hj] at hv;cases hv;have mj:(aE st)[j]∈aE st:=ZT lj;obtain⟨fb,db⟩:=kB st _ mj;have ej:(aE st).drop j=(aE st)[j]::(aE st).drop (j+1):=zaA lj;rw[ej,List.flatMap_cons] at e9;generalize (aE st)[j]=bb at *;obtain⟨ab,_,rfl,_⟩:=Rep.bH.mp rb;walk_at "rd";refine⟨.inl ⟨rfl,_,.of y9⟩,.ref sa,st,af,rfl,rv.mono s9,?_⟩;refine⟨ab,bb,_,rfl,rb.mono s9,by lia,by lia,fun O6 IH Lu wX Rg GC Mf=>?_⟩;have N4:=wX _ _ y9;have Xc:=f9.up (.of wX);have Xd:gw K (·=tl) Lu ((PG.aI bb (gy st af)).map gO) IH:=Hs N4 (vx _) Mf;have O6:IH.length=(PG.aI bb (gy st af)).length:=by rw[Mf.length,ZL]
   have Zf:yM.length+(PG.aI bb (gy st af)).length<=2000:=by
    have h1:=congrArg zad e9;have h2:=congrArg zad ep;have h3:=congrArg zad (PG.dH body x);simp only[ZP,ZL,ZN] at h1 h2 h3;lia
   refine⟨tl,_,Dj,IH,rfl,rfl,N4,GC,by lia,?_⟩;refine(JD _ _ _).mpr ⟨_,Dj++IH,yM++PG.aI bb (gy st af),rfl,fun z o e=>?_,fun z o nz e=>?_,ao,?_,by simp[Ro,O6],by rw[<- e9];simp⟩
   ·rw[aR (au e O8)];exact wX _ _ (s9 _ _ e)
   ·rw[aR nz];exact wX _ _ (k9 z o nz e)
   ·rw[Z8];exact(FY Xc Xd).up (bK.refl.put (O:=(·=tl)) rfl _)
  ·intro σ H9 hv;obtain⟨Xb,Dj,yM,rfl,s9,k9,y9,f9,Ro,e9⟩:=(JD _ _ _).mp hv;rw[Rn,zbd,List.flatMap_nil,Z9] at e9;refine done _ _ ⟨_,_,_,_,yM,Dj,rfl,s9,y9,f9,Ro,?_⟩;rw[e9,<- ep];simp
 ·intro σ H2 hv;obtain⟨z3,z4,z5,z6,pre,us,rfl,s2,y2,f2,lu,ep⟩:=(rT _ _ _).mp hv;rw[lx,zbd,PG.aI,Z9] at ep;refine(iw _ _).mpr ?_;walk_at "rd";rw[ep] at f2;exact q tl us H2 s2 O8 y2 f2.KY
theorem vO(T:Tx K mg t):∀n,bw P w K mg base eM (n+2) t.cN t.cW ["body", "behind"] (sH K n)
 |0=>by
  have no:∀vs H Q E,¬sH K 0 vs H Q E:=fun vs H Q E h=>by obtain⟨_,_,_,_,_,h,_⟩:=h;lia
  exact⟨fun vs H Q E h=>absurd h (no vs H Q E),fun A outer s H args us vs Q E _ _ _ _ h=>absurd h (no vs H Q E)⟩
 |n+1=>FZ T (vO T n)
theorem II(T:Tx K mg t):bw P w K mg base eM 7 t.l9 t.kP ["program"] (wm K):=by
 have js:=vO (P:=P) (w:=w) (base:=base) T 4;refine T.wN.F.j9 BK (fun vs H Q E h=>?_) (fun fq A outer s H vs Q E hr h=>?_)
 ·obtain⟨_,_,rfl,_⟩:=h;rfl
 obtain⟨v,pr,rfl,rp,hd,hf,q⟩:=h;have nd:=BK.nd;obtain⟨FR,tZ,t7⟩:=T.wR;refine⟨_,[some v],(az (aM (dA js T.eZ hr (ae (ax aC (pv 0) ag ah) (ae (rZ rfl tZ t7) aj ky) aH)))),rfl,?_⟩;unfold gN at rp;rw[Rep.aK] at rp;obtain⟨a,xs,rfl,hx,rs⟩:=rp;rw[aG.aD] at rs;obtain⟨v1,t1,rfl,r1,rs⟩:=rs;rw[aG.aD] at rs;obtain⟨v2,t2,rfl,r2,rs⟩:=rs;obtain⟨b,_,rfl,_⟩:=Rep.bH.mp r2;walk_at "rd";refine aA hx (v:=.ref b) (aq (j:=1) rfl) ?_;exact⟨b,pr.body,0,rfl,r2,by lia,hf,fun l us H' s' hl y r=>q l us H' s' hl y r⟩
theorem F2(T:Tx K mg t){n:Nat}(cx:bw P w K mg base eM (n+2) t.bJ t.bL ["body"] (kC K n)) :
 bw P w K mg base eM (n+3) t.bJ t.bL ["body"] (kC K (n+1)):=by
 have mf:bw P w K mg base eM 1 t.eX t.fB ["statement"] (tj K):=pZ T;refine T.eA.F.j9 j0 (fun vs H Q E h=>?_) (fun fq A outer s H vs Q E hr h=>?_)
 ·obtain⟨_,_,_,rfl,_⟩:=h;rfl
 obtain⟨b,body,H0,rfl,s0,rb,hd,hf,q⟩:=h;have nd:=j0.nd;refine⟨_,[some (V.ref b),none,none,none],(ai (eV 1 nd (bA aj))
 (ai (kg PassesOwn.never rfl (cg (pv 0)) (zt 2 nd)
 (ai (gR (oP zah zaN zaO i6 (pv 1) (bo 2 aj)))
 (az (kg PassesOwn.never rfl (cg (dA mf T.il hr (bo 2 aj))) (zt 3 nd)
 (az (gR (oP zah zbK zbL vj (pv 1) (ae (dA cx T.eA hr (bo 3 aj)) aj bC))))))))
 (az (aM (pv 1))))),rfl,?_⟩
 have line:zct=2 ^ 24:=rfl;rw[Rep.bH] at rb;obtain⟨_,xs,e,hx,rs⟩:=rb;cases e;have lx:xs.length=body.length:=by rw[rs.length,ZL]
 have lb:=dI body;have sl:=dZ body;refine av fun U1 fi=>?_;walk_at "rd";intro d Ll;have s1:=aw.new Ll (.lst []);have y1:(upd H d (.lst [])) d=some (.lst []):=ao;generalize upd H d (.lst [])=H1 at *;refine(fi _ _).mpr (av fun U2 iw=>?_);clear fi;refine lG fun U hU=>?_;walk_at "rd";refine⟨⟨xs,(s0.trans s1).seq hx⟩,hU _ _ ?_⟩;clear hU;obtain⟨Pv,rT,jv⟩:=Ih fun (i:Nat) (σ:St) (H3:Hp) zq=>∀(z2 z3:Option V) (us:List V),σ=[some (V.ref b),some (V.ref d),z2,z3]->aw H H3->us.length=(PG.ay (body.take i)).length->H3 d=some (.lst us)->aG K H0 ((PG.ay (body.take i)).map du) us->zq;refine lA (K:=K) (a:=b) (xs:=xs) Pv ((rT _ _ _ fun _ zk=>zk none none [] rfl s1 rfl y1 .nil)) (fun i σ H3 _ hv=>?_) ?_ ?_
 ·refine jv _ _ _ hv _ fun _ _ _ _ s3 _ _ _=>?_;exact(s0.trans s3).seq hx
 ·intro i y σ H3 hi hv;refine jv _ _ _ hv _ fun z2 z3 us Rp s3 lu y3 r3=>?_;subst Rp;clear hv;have done:=fun σ H7=>rT (i+1) σ H7;have li:i<body.length:=by have:=(ZR.mp hi).1;lia
  obtain⟨v,hv,rv⟩:=rs.get (i:=i) (d:=du body[i]) (by rw[ZO,ZK li];rfl);rw[hi] at hv;cases hv;have mem:body[i]∈body:=ZT li;obtain⟨fm,dm⟩:=qw body _ mem;have et:PG.ay (body.take (i+1))=PG.ay (body.take i)++body[i]::(aE body[i]).flatMap PG.ay:=by
   rw[zbq li,jf,EK,Ht]
  rw[et] at done;have eb:PG.ay body=(PG.ay (body.take i)++body[i]::(aE body[i]).flatMap PG.ay)++PG.ay (body.drop (i+1)):=by
   rw[<- et,<- jf,zb7]
  rw[eb] at sl;have sl:(PG.ay (body.take i)++body[i]::(aE body[i]).flatMap PG.ay).length<=1000:=by
   rw[ZP] at sl;lia
  generalize body[i]=st at *;generalize PG.ay (body.take i)=pre at *;simp only[eR,zaV];refine av fun U3 jO=>?_;walk_at "rd";refine⟨.inl ⟨rfl,_,.of y3⟩,d,us,y,rfl,rfl,y3,by simp only[ZP,ZN] at sl;lia,(jO _ _).mpr ?_⟩;clear jO;have y4:(upd H3 d (.lst (us++[y]))) d=some (.lst (us++[y])):=ao;have s4:aw H (upd H3 d (.lst (us++[y]))):=fun z o e=>by rw[aR (au e Ll)];exact s3 z o e
  generalize upd H3 d (.lst (us++[y]))=H4 at *;refine lG fun U hU=>?_;walk_at "rd";refine⟨y,st,H0,rfl,rv,s0.trans s4,fun p bv H5 T2 hp h5 rc=>⟨p,rfl,⟨_,.of h5⟩,hU _ _ ?_⟩⟩;clear hU;have s5:=s4.trans T2;have y5:=T2 _ _ y4;have Xe:p≠d:=(au y4 hp).symm;have Rn:bv.length=(aE st).length:=by rw[rc.length,ZL]
  obtain⟨Pw,JD,LA⟩:=Ih fun (j:Nat) (σ:St) (H6:Hp) zq=>∀(z3:Option V) (Dj:List V),σ=[some (V.ref b),some (V.ref d),some y,z3]->aw H H6->H6 p=some (.lst bv)->Dj.length=(pre++st::((aE st).take j).flatMap PG.ay).length->H6 d=some (.lst Dj)->aG K H0 ((pre++st::((aE st).take j).flatMap PG.ay).map du) Dj->zq;refine lA (K:=K) (a:=p) (xs:=bv) Pw ((JD _ _ _ fun _ zk=>zk z3 (us++[y]) rfl s5 h5 (by simp[lu]) y5 ?_)) (fun j σ H6 _ hv=>?_) ?_ ?_
  ·rw[List.take_zero,List.flatMap_nil,Z8];exact r3.append (.cons rv .nil)
  ·refine LA _ _ _ hv _ fun _ _ _ _ h6 _ _ _=>?_;exact .of h6
  ·intro j y' σ H6 hj hv;refine LA _ _ _ hv _ fun Xf Dj Rp s6 h6 Rq y6 r6=>?_;subst Rp;clear hv;have JE:=fun σ H7=>JD (j+1) σ H7;have lj:j<(aE st).length:=by have:=(ZR.mp hj).1;lia
   obtain⟨v,hv,T3⟩:=rc.get (i:=j) (d:=.lst ((aE st)[j].map du)) (by rw[ZO,ZK lj];rfl);rw[hj] at hv;cases hv;have mj:(aE st)[j]∈aE st:=ZT lj;obtain⟨fb,db⟩:=kB st _ mj;have ej:((aE st).take (j+1)).flatMap PG.ay=((aE st).take j).flatMap PG.ay++PG.ay (aE st)[j]:=by
    rw[zbq lj,zbx];simp
   have ea:(aE st).flatMap PG.ay=((aE st).take j).flatMap PG.ay++PG.ay (aE st)[j]++((aE st).drop (j+1)).flatMap PG.ay:=by
    rw[<- ej,<- zbx,zb7]
   rw[ej] at JE;rw[ea] at sl;generalize (aE st)[j]=bb at *;generalize ((aE st).take j).flatMap PG.ay=mid at *;generalize ((aE st).drop (j+1)).flatMap PG.ay=rest at *;have Zg:(pre++st::mid).length+(PG.ay bb).length<=1000:=by
    simp only[ZP,ZN] at sl ⊢;lia
   obtain⟨ab,_,rfl,_⟩:=Rep.bH.mp T3;simp only[eR,zaV];walk_at "rd";refine⟨.inl ⟨rfl,_,.of y6⟩,ab,bb,H0,rfl,s0.trans s6,T3,by lia,by lia,fun d2 K2 H7 s7 hd2 y7 r7=>?_⟩;have l2:K2.length=(PG.ay bb).length:=by rw[r7.length,ZL]
   refine⟨d,d2,_,_,rfl,rfl,s7 _ _ y6,y7,by lia,?_⟩;refine JE _ _ (fun _ zk=>zk _ (Dj++K2) rfl (fun z o e=>by rw[aR (au e Ll)];exact s7 _ _ (s6 z o e)) (by rw[aR Xe];exact s7 _ _ h6) (by simp only[ZP,ZN] at *;lia) ao ?_);rw[show pre++st::(mid++PG.ay bb)=(pre++st::mid)++PG.ay bb by simp,Z8];exact r6.append r7
  ·intro σ H6 hv;refine LA _ _ _ hv _ fun Xf Dj Rr s6 h6 Rq y6 r6=>?_;subst Rr;rw[Rn,za2] at Rq r6;exact done _ _ (fun _ zk=>zk _ _ Dj rfl s6 Rq y6 r6)
 ·intro σ H3 hv;refine jv _ _ _ hv _ fun z2 z3 us Rr s3 lu y3 r3=>?_;subst Rr;rw[lx,za2] at lu r3;refine(iw _ _).mpr ?_;walk_at "rd";exact q d us H3 s3 Ll y3 r3
theorem vP(T:Tx K mg t):∀n,bw P w K mg base eM (n+2) t.bJ t.bL ["body"] (kC K n)
 |0=>by
  have no:∀vs H Q E,¬kC K 0 vs H Q E:=fun vs H Q E h=>by obtain⟨_,_,_,_,_,_,h,_⟩:=h;lia
  exact⟨fun vs H Q E h=>absurd h (no vs H Q E),fun A outer s H args us vs Q E _ _ _ _ h=>absurd h (no vs H Q E)⟩
 |n+1=>F2 T (vP T n)
theorem i5(T:Tx K mg t):bw P w K mg base eM 1 t.ia t.iR ["deck", "many"] Lo:=by
 refine T.aX.F.j9 pM (fun vs H Q E h=>?_) (fun fq A outer s H vs Q E hr h=>?_)
 ·obtain⟨_,_,_,_,_,rfl,_⟩:=h;rfl
 obtain⟨D,C,G,d,many,rfl,dk,hm,Th,CY,q⟩:=h;have nd:=pM.nd;have hu:=dX hr;refine⟨_,[some (V.ref D),some (V.int many),none,none,none,none],(ai (eV 2 nd (ax aF (pv 0) ag ah))
 (ai (fP (a7 fQ (pv 2) ag) (iz (pv 0) ag set_list))
 (ai (bq (aL (vt (dX hr)) (ax aF (pv 0) ag ah) (bA aj) (aQ _))
 (az (aM (a7 gM (a7 fQ (a7 lD (a7 lD (pv 2) (pv 2)) ag) (a7 oK (pv 2) ag)) (pv 1))))
 aS)
 (ai (eV 3 nd (a7 gM (pv 2) (dG cY rfl T.mW PyProof.Rows.Boot.«len» (ae (ax aF (pv 0) ag ah) aj aH))))
 (ai (bq (nF (ax aF (ax aF (pv 0) ag ah) (pv 3) iN))
 (ai (eV 4 nd (a7 gM (ax aF (ax aF (pv 0) ag ah) (pv 3) iN) (pv 1)))
 (ai (fP (a7 oK (ax aF (ax aF (pv 0) ag ah) (pv 3) iN) (pv 1)) (iz (ax aF (pv 0) ag ah) (pv 3) set_list))
 (az (aM (pv 4)))))
 aS)
 (ai (eV 5 nd (a7 gM (a7 lD (a7 fQ (a7 gM (ax aF (ax aF (pv 0) ag ah) (pv 3) iN) ag) (a7 lD ag (a7 fQ (pv 2) ag))) ag) ag))
 (ai (eV 5 nd (a7 gM (a7 lD (pv 5) (pv 5)) ag))
 (az (aM (a7 gM (a7 oK (a7 gM (a7 lD (pv 5) ag) ag) ag) (pv 1))))))))))),rfl,?_⟩
 have line:zct=2 ^ 24:=rfl;refine av fun U1 fi=>?_;walk_at "rd";refine aO (.of dk.dB) (aq (j:=1) rfl) ((fi _ _).mpr (av fun U2 iw=>?_));clear fi;walk_at "rd";refine⟨D,_,1,1,rfl,rfl,dk.dB,rfl,?_⟩;have u1:bh D H (upd H D (.lst [.ref C,.int (d.pos+1),.ref G,.int d.left,.int d.row,.int d.gap])):=(bh.refl D H).put _;have y1:(upd H D (.lst [.ref C,.int (d.pos+1),.ref G,.int d.left,.int d.row,.int d.gap])) D=_:=ao;have c1:dO D C H (upd H D (.lst [.ref C,.int (d.pos+1),.ref G,.int d.left,.int d.row,.int d.gap])):=dO.put _ (.inl rfl);show U2 _ (upd H D (.lst [.ref C,.int (d.pos+1),.ref G,.int d.left,.int d.row,.int d.gap]));generalize upd H D (.lst [.ref C,.int (d.pos+1),.ref G,.int d.left,.int d.row,.int d.gap])=H1 at *;have p0:=dk.pos;have rV:fG H1 D C G {d with pos:=d.pos+1}:=dk.put u1 y1 rfl rfl (show 0<=d.pos+1 by lia);refine(iw _ _).mpr (av fun U3 jO=>?_);clear iw;walk_at "rd";refine aO (.of rV.dB) (aq (j:=0) rfl) fun p hp=>?_;have s2:=aw.new hp (.lst []);have y2:(upd H1 p (.lst [])) p=_:=ao;have mY:=rV.same s2;have c2:=c1.trans (dO.of s2);generalize upd H1 p (.lst [])=H2 at *;have cm:B7 d.pos d.pos:=mulL (by lia) (by lia);refine⟨C,p,_,rfl,rfl,.of mY.cs,.of y2,?_⟩;unfold PG.draw at q;cases hc:d.cs with
 |nil=>
  rw[if_pos hc] at q;refine(if_pos (by simp[hc])).mpr ⟨cm,mulR (by decide) (by decide),hm,q _ _ H2 rfl c2 mY⟩
 |cons z zs=>
  have ne:d.cs≠[]:=by rw[hc];simp
  rw[<- hc];refine(if_neg (by simp[hc])).mpr ((jO _ _).mpr (av fun U4 mX=>?_));clear jO;rw[if_neg ne] at q;have lp:0<d.cs.length:=za5.mpr ne;have m1:=zaU d.pos (b:=(d.cs.length:Int)) (by lia);have m2:=zaJ d.pos (b:=(d.cs.length:Int)) (by lia);walk_at "rd";refine aO (.of mY.dB) (aq (j:=0) rfl) ⟨C,_,rfl,.inl (.of mY.cs),?_⟩;rw[ZL];refine⟨by show (0:Int)<_;simp only;lia,(mX _ _).mpr (av fun U5 uc=>?_)⟩;clear mX;obtain⟨k,ek⟩:∃k:Nat,d.pos%(d.cs.length:Int)=(k:Int):=⟨_,(zcc m1).symm⟩
  simp only[ek,zaa] at q ⊢;have lk:k<d.cs.length:=by lia
  have gk:k<d.gs.length:=by rw[dk.gl];exact lk
  have eg:d.gs.getD k false=d.gs[k]:=by rw[ZX,ZK gk];rfl
  have ec:d.cs.getD k 0=d.cs[k]:=by rw[ZX,ZK lk];rfl
  rw[eg,ec] at q;have iC:(d.cs.map V.int)[k]?=some (V.int d.cs[k]):=by rw[ZO,ZK lk];rfl
  have iG:(d.gs.map V.bl)[k]?=some (V.bl d.gs[k]):=by rw[ZO,ZK gk];rfl
  walk_at "rd";refine aO (.of mY.dB) (aq (j:=2) rfl) (aO (.of mY.gs) (aq iG) ⟨_,rfl,?_⟩);by_cases hg:d.gs[k]=true
  ·rw[if_pos hg] at q;refine(if_pos hg).mpr (aO (.of mY.dB) (aq (j:=0) rfl) (aO (.of mY.cs) (aq iC) ⟨_,_,rfl,rfl,hm,aO (.of mY.dB) (aq (j:=0) rfl) (aO (.of mY.cs) (aq iC) ⟨_,_,rfl,rfl,?_,aO (.of mY.dB) (aq (j:=0) rfl) ⟨C,_,k,k,rfl,rfl,mY.cs,(by unfold GY;rw[ZL];simp;lia),?_⟩⟩)⟩))
   ·exact⟨hm,by lia⟩
   ·have cC:dO D C H2 (upd H2 C (.lst ((d.cs.set k (d.cs[k]/many)).map V.int))):=dO.put _ (.inr rfl);have uC:bh C H2 (upd H2 C (.lst ((d.cs.set k (d.cs[k]/many)).map V.int))):=(bh.refl _ _).put _;rw[<- zch];exact q _ _ _ rfl (c2.trans cC) ⟨uC _ _ dk.Ln mY.dB,ao,uC _ _ dk.Me.symm mY.gs,dk.Ln,dk.Md,dk.Me,by simpa using dk.len,by simpa using dk.gl,rV.pos⟩
  ·rw[if_neg hg] at q;refine(if_neg hg).mpr ((uc _ _).mpr (av fun U6 wW=>?_));clear uc;walk_at "rd";refine aO (.of mY.dB) (aq (j:=0) rfl) (aO (.of mY.cs) (aq iC) ⟨_,_,rfl,rfl,(by decide:(0:Int)<2147483629),mulL (by decide) (by decide),_,_,rfl,rfl,_,_,rfl,rfl,mulR (by decide) (by decide),_,_,rfl,rfl,(by decide:(0:Int)<2147483629),(wW _ _).mpr (av fun U7 GF=>?_)⟩);clear wW;simp only[];have b1:=zaU ((d.cs[k]%2147483629+62233*(d.pos+1))*48271) (b:=2147483629) (by decide);have b2:=zaJ ((d.cs[k]%2147483629+62233*(d.pos+1))*48271) (b:=2147483629) (by decide);generalize (d.cs[k]%2147483629+62233*(d.pos+1))*48271%2147483629=n1 at *;walk_at "rd";refine⟨mulL (by lia) (by lia),(GF _ _).mpr ?_⟩;walk_at "rd";exact⟨mulR (by decide) (by decide),hm,q _ _ H2 rfl c2 mY⟩
theorem vQ{K:ZI}{a D:zcl}{ns:List Int}{te:TE}{Q:VK}{r:St}{H:Hp}(f:Int->V)(hS:gQ K H a (ns.map V.int))(hl:ns.length<=16000000)(hD:H D=none)
 (step:∀z H2,aw H H2->∀R:VK,R (f z) H2->te (some (.int z)::r) H2 R)
 (q:∀H2,aw H H2->H2 D=some (.lst (ns.map f))->Q (.ref D) H2):mL (B3 K a) D (eR 0) rO te Q (none::r) (upd H D (.lst [])):=by
 refine jg (fun i ys _=>ys=(ns.take i).map f) hS (by rw[ZL];exact hl) hD (by simp) (fun i x ys H2 hx s2 h2 ly p2 R hR=>?_) (fun ys H2 s2 h2 p2=>q H2 s2 ?_)
 ·rw[ZO] at hx;obtain⟨z,hz,rfl⟩:=zaI.mp hx;refine step z H2 s2 R (hR _ _ (.refl _) ?_);show ys++[f z]=(ns.take (i+1)).map f;rw[p2,zb8,hz,Z8];rfl
 ·have p2:ys=(ns.take (ns.map V.int).length).map f:=p2;rw[ZL,za2] at p2;rw[<- p2];exact h2
theorem w4(T:Tx K mg t):bw P w K mg base eM 1 t.ib t.iS ["script"] (Lp K):=by
 refine T.iq.F.j9 pN (fun vs H Q E h=>?_) (fun fq A outer s H vs Q E hr h=>?_)
 ·obtain⟨_,_,rfl,_⟩:=h;rfl
 obtain⟨a,ns,rfl,hS,Mg,q⟩:=h;have nd:=pN.nd;have hu:=dX hr;refine⟨_,[some (V.ref a),none],(ai (wg (i:=1) nd rfl (zau rfl) (own:=["cell"]) (ix:=[]) rfl (by rfl) (by rfl) (cg (ja mi (pv 0) kh (kl ag))) (fun _ _ _ _=>(cT (i:=0) (by show List.Nodup (["cell"]:List Str);decide +kernel) rfl (zau rfl))) (fun _ _ _ _=>cZ) (fun _ _ _ _=>(dQ Je (pv 0) (a7 zJ ag ag) (aQ _))))
 (az (aM (bA (ae (eN (own:=["cell"]) (ix:=[]) rfl (by rfl) (by rfl) (cg (ja mi (pv 0) kh (kl ag))) (fun _ _ _ _=>(cT (i:=0) (by show List.Nodup (["cell"]:List Str);decide +kernel) rfl (zau rfl))) (fun _ _ _ _=>cZ) (fun _ _ _ _=>(a7 qh (pv 0) (a7 lD (a7 zJ ag ag) (bT eS rfl T.pX PyProof.Rows.Boot.«int» (ae (dQ Je (pv 0) (a7 zJ ag ag) (aQ _)) aj kz)))))) (ae ag (bo 1 (ae ag (ae ag (ae ag aj aB) aB) aB)) aB) gU))))),rfl,?_⟩
 have line:zct=2 ^ 24:=rfl;have N5:MS 10 18:=⟨by decide,by decide,by decide⟩
 have Zh:(10:Int) ^ Int.toNat 18=10 ^ 18:=rfl;refine av fun U1 fi=>?_;walk_at "rd";simp only[gm];walk_at "rd";refine⟨_,rfl,a,_,rfl,hS,fun S Xg=>⟨S,rfl,?_⟩⟩;rw[Js ns Mg];have s1:=aw.new Xg (.lst (ns.map V.int));have y1:(upd H S (.lst (ns.map V.int))) S=_:=ao;generalize upd H S (.lst (ns.map V.int))=H1 at *;refine⟨⟨_,.of y1⟩,fun G hG=>vQ (fun z=>V.bl (decide (z ≥ 10 ^ 18))) (.of y1) (by lia) hG (fun z H2 s2 R hR=>?_) (fun H2 s2 y2=>(fi _ _).mpr ?_)⟩
 ·walk_at "rd";exact⟨N5,hR⟩
 clear fi;have Zi:H G=none:=qz s1 hG;have sG:aw H H2:=s1.trans s2;walk_at "rd";simp only[gm];walk_at "rd";refine⟨_,rfl,a,_,rfl,sG.seq hS,fun S3 Xh=>⟨S3,rfl,?_⟩⟩;rw[Js ns Mg];have s3:=aw.new Xh (.lst (ns.map V.int));have y3:(upd H2 S3 (.lst (ns.map V.int))) S3=_:=ao;generalize upd H2 S3 (.lst (ns.map V.int))=H3 at *;refine⟨⟨_,.of y3⟩,fun C hC=>vQ (fun z=>V.int (if z ≥ 10 ^ 18 then z-10 ^ 18 else z)) (.of y3) (by lia) hC (fun z H4 s4 R hR=>?_) (fun H4 s4 y4 D hD=>?_)⟩
 ·walk_at "rd";by_cases hz:z ≥ (10:Int) ^ 18
  ·rw[show decide ((10:Int) ^ Int.toNat 18<=z)=true from decide_eq_true hz];rw[if_pos hz] at hR;refine⟨N5,N5,true,rfl,mulR (by decide) (by decide),?_⟩;rw[if_pos rfl,zbX];exact hR
  ·rw[show decide ((10:Int) ^ Int.toNat 18<=z)=false from decide_eq_false hz];rw[if_neg hz] at hR;refine⟨N5,N5,false,rfl,mulR (by decide) (by decide),?_⟩;rw[if_neg ZM,Int.mul_zero,Int.sub_zero];exact hR
 ·have mG:=sG.trans (s3.trans s4);have T4:=(s3.trans s4) _ _ y2;have sD:=aw.new hD (.lst [V.ref C,V.int 0,V.ref G,V.int 0,V.int 0,V.int 0]);refine q D C G _ (mG.trans sD) (qz mG hD) (qz (sG.trans s3) hC) ⟨ao,?_,?_,(au y4 hD).symm,(au T4 hD).symm,(au (s3 _ _ y2) hC).symm,?_,?_,zaS _⟩
  ·rw[sD _ _ y4];unfold PG.qE;simp only[zax];rfl
  ·rw[sD _ _ T4];unfold PG.qE;simp only[zax];rfl
  ·unfold PG.qE;simp only[ZL];exact Mg
  ·unfold PG.qE;simp only[ZL]
theorem LB(T:Tx K mg t){n:Nat}(cS:bw P w K mg base eM (n+1) t.cP t.cX ["deck", "names", "deep"] (FA K n)) :
 bw P w K mg base eM (n+2) t.cP t.cX ["deck", "names", "deep"] (FA K (n+1)):=by
 have aY:=i5 (P:=P) (w:=w) (base:=base) T;refine T.bQ.F.j9 iD (fun vs H Q E h=>?_) (fun fq A outer s H vs Q E hr h=>?_)
 ·obtain⟨_,_,_,_,_,_,_,rfl,_⟩:=h;rfl
 obtain⟨D,C,G,N,d,ns,k,rfl,hk,CY,dk,hN,rW,rX,hl,q⟩:=h;have nd:=iD.nd;have hu:=dX hr;refine⟨_,[some (V.ref D),some (V.ref N),some (V.int k),none,none,none],(ai (eV 3 nd (dA aY T.aX hr (bo 0 (ae ag aj aB))))
 (ai (bq (PW.pt (pw_or (aL qW (pv 3) ag (aQ _)) (pw_or1 (aL (vt (dX hr)) (pv 1) (bA aj) (aQ _)))))
 (az (aM (aT (ae aU (ae (ax aF (bA (ae (dA aY T.aX hr (bo 0 (ae ag aj aB))) (ae (dA aY T.aX hr (bo 0 (ae ag aj aB))) (ae ag aj aB) bC) bC)) (ax aF (bA (eB (vs:=[.int 0,.int 0,.int 0,.int 1,.int 1,.int 2]) (by kernel_rfl))) (dA aY T.aX hr (bo 0 (ae ag aj aB))) fM) KJ) aj aH) aB))))
 aS)
 (ai (bq (PW.pt (pw_or (aL qW (pv 3) ag (aQ _)) (pw_or1 (aL bR (pv 2) ag (aQ _)))))
 (az (aM (aT (ae aU (ae (ax aF (pv 1) (dA aY T.aX hr (bo 0 (ae (dG cY rfl T.mW PyProof.Rows.Boot.«len» (bo 1 aj)) aj bC))) fM) aj aH) aB))))
 aS)
 (ai (eV 4 nd (ax DU aU (dA aY T.aX hr (bo 0 (ae ag aj aB))) fM))
 (ai (eV 5 nd (dA cS T.bQ hr (bo 0 (bo 1 (ae (a7 qh (pv 2) ag) aj wj)))))
 (az (aM (aT (bo 4 (bo 5 (ae (dA cS T.bQ hr (bo 0 (bo 1 (ae (a7 qh (pv 2) ag) aj wj)))) aj bC))))))))))),rfl,?_⟩
 have line:zct=2 ^ 24:=rfl;have pw:(0:Int)<2 ^ k:=Int.pow_pos (by decide);obtain⟨pk,T5⟩:∃pk:Int,pk=2 ^ k:=⟨_,rfl⟩
 rw[<- T5] at CY pw;refine av fun U1 fi=>?_;walk_at "rd";refine⟨D,C,G,d,6,rfl,dk,by decide,by decide,by lia,fun kd d1 H1 e1 c1 rV=>(fi _ _).mpr (av fun U2 iw=>?_)⟩;clear fi;have b1:=PG.bE e1 (by decide);have p1:=PG.aV e1;have Pa:=c1.get hN rW rX;have uv:=dk.dD;have uy:=dk.dC;refine oZ fun X1 Pb=>?_;have num:(kd<2\/ns=[])->∀H2,aw H1 H2->X1 [some (V.ref D),some (V.ref N),some (V.int k),some (V.int kd),none,none] H2:=by
  intro hn H2 s2;refine(Pb _ _).mpr ?_;walk_at "rd";refine⟨D,C,G,d1,4,rfl,rV.same s2,by decide,by decide,by lia,fun a d2 H3 e2 c3 rD=>?_⟩;have p2:=PG.aV e2;refine⟨D,C,G,d2,10,rfl,rD,by decide,by decide,by lia,fun b d3 H4 e3 c4 CZ p5 F3 p6 ID=>?_⟩;have p3:=PG.aV e3;have s5:=aw.new F3 (.lst [V.int a,V.int b,V.int 999]);have y5:(upd H4 p5 (.lst [V.int a,V.int b,V.int 999])) p5=_:=ao;have n5:p5≠D/\p5≠C:=⟨(au CZ.dB F3).symm,(au CZ.cs F3).symm⟩
  have C0:=CZ.same s5;generalize upd H4 p5 (.lst [V.int a,V.int b,V.int 999])=H5 at *;have s6:=aw.new ID (.lst [V.int 0,V.int 0,V.int 0,V.int 1,V.int 1,V.int 2]);have y6:(upd H5 p6 (.lst [V.int 0,V.int 0,V.int 0,V.int 1,V.int 1,V.int 2])) p6=_:=ao;have n6:p6≠D/\p6≠C:=⟨(au C0.dB ID).symm,(au C0.cs ID).symm⟩
  have C1:=C0.same s6;have y5:=s6 _ _ y5;generalize upd H5 p6 (.lst [V.int 0,V.int 0,V.int 0,V.int 1,V.int 1,V.int 2])=H6 at *;refine⟨D,C,G,d3,6,rfl,C1,by decide,by decide,by lia,fun c d4 H7 e4 c7 F4=>?_⟩;have bc:=PG.bE e4 (by decide);have kj:=PG.gD (0:Int) (l:=[0,0,0,1,1,2]) bc.1 bc.2;have hj:0<=PG.pick (0:Int) [0,0,0,1,1,2] c/\PG.pick (0:Int) [0,0,0,1,1,2] c<3:=by
   generalize PG.pick (0:Int) [0,0,0,1,1,2] c=j at *;simp only[ZS,zar,or_false] at kj;lia
  refine aO (.of (c7.get y6 n6.1 n6.2)) (sN (l:=[0,0,0,1,1,2]) 0 bc.1 bc.2) (aO (.of (c7.get y5 n5.1 n5.2)) (sN (l:=[a,b,999]) 0 hj.1 hj.2) fun p8 zu=>?_);have cc:dO D C H H7:=c1.trans ((dO.of s2).trans (c3.trans (c4.trans ((dO.of s5).trans ((dO.of s6).trans c7)))));have s8:=aw.new zu (.tup [V.str (ZJ "number"),V.int (PG.pick 0 [a,b,999] (PG.pick 0 [0,0,0,1,1,2] c))]);refine q (.num (PG.pick 0 [a,b,999] (PG.pick 0 [0,0,0,1,1,2] c))) d4 _ _ ?_ (cc.trans (dO.of s8)) (F4.same s8) (fN zu cc.kc (a8.cons Own.str (a8.cons Own.int a8.nil)));cases k<;>(rw[PG.k7];simp only[e1];rw[if_pos hn];simp only[e2,e3,e4])
 have rest:¬(kd<2\/ns=[])->∀H2,aw H1 H2->U2 [some (V.ref D),some (V.ref N),some (V.int k),some (V.int kd),none,none] H2:=by
  intro hn H2 s2;have ne:ns≠[]:=fun z=>hn (.inr z);have lp:0<ns.length:=za5.mpr ne;have mY:=rV.same s2;have Pc:=s2 _ _ Pa;refine(iw _ _).mpr (av fun U3 jO=>?_);clear iw;refine oZ fun X2 Pd=>?_;have box:(kd<5\/k=0)->X2 [some (V.ref D),some (V.ref N),some (V.int k),some (V.int kd),none,none] H2:=by
   intro hb;refine(Pd _ _).mpr ?_;walk_at "rd";refine⟨N,_,rfl,.inl (.of Pc),?_⟩;rw[ZL];refine⟨D,C,G,d1,ns.length,rfl,mY,by lia,by lia,by lia,fun j d2 H3 e2 c3 rD=>?_⟩;have bj:=PG.bE e2 (by lia);refine aO (.of (c3.get Pc rW rX)) (wI bj.1 bj.2) fun p8 zu=>?_;have cc:dO D C H H3:=c1.trans ((dO.of s2).trans c3);have s8:=aw.new zu (.tup [V.str (ZJ "box"),V.str (L2.S (PG.pick [] ns j))]);refine q (.box (PG.pick [] ns j)) d2 _ _ ?_ (cc.trans (dO.of s8)) (rD.same s8) (fN zu cc.kc (a8.cons Own.str (a8.cons Own.str a8.nil)));cases k with
   |zero=>rw[PG.k7];simp only[e1];rw[if_neg hn];simp only[e2]
   |succ k=>rw[PG.k7];simp only[e1];rw[if_neg hn,if_pos (hb.resolve_right (by lia))];simp only[e2]
  walk_at "rd";refine fR (fun h5=>(if_pos trivial).mpr (box (.inl h5))) (fun h5=>?_);refine fR (fun hz=>box (.inr (by lia))) (fun hz=>(jO _ _).mpr (av fun U4 mX=>?_));clear jO;obtain⟨k1,rfl⟩:∃k1,k=k1+1:=⟨k-1,by lia⟩
  have pe:pk=2*2 ^ k1:=by rw[T5,Int.pow_succ,Int.mul_comm]
  have Zj:(0:Int)<2 ^ k1:=Int.pow_pos (by decide);walk_at "rd";refine⟨D,C,G,d1,3,rfl,mY,by decide,by decide,by lia,fun g d2 H3 e2 c3 rD=>?_⟩;have bg:=PG.bE e2 (by decide);have p2:=PG.aV e2;obtain⟨c,hc,ec⟩:=FC bg.1 bg.2;refine⟨_,_,c,rfl,rfl,by decide,hc,?_⟩;rw[ec];refine(mX _ _).mpr (av fun U5 uc=>?_);clear mX;have T6:=c3.get Pc rW rX;walk_at "rd";refine⟨D,C,G,N,d2,ns,k1,by simp,by lia,by lia,rD,T6,rW,rX,hl,fun l d3 v1 H4 e3 c4 CZ o4=>(uc _ _).mpr ?_⟩;clear uc;have p3:=PG.sJ ns k1 d2;rw[e3] at p3;simp only at p3;have Mh:=c4.get T6 rW rX;walk_at "rd";refine⟨D,C,G,N,d3,ns,k1,by simp,by lia,by lia,CZ,Mh,rW,rX,hl,fun r d4 v2 H5 e4 c5 C0 o5 p8 zu=>?_⟩;have Rt:dO D C H H3:=c1.trans ((dO.of s2).trans c3);have cc:=Rt.trans (c4.trans c5);have s8:=aw.new zu (.tup [V.str (L2.S (PG.pick [] [[43],[45],[42]] g)),v1,v2]);have o1:Own K H H5 (k5 l) v1:=(o4.back fun b h=>Rt.kc b h).chg c5 uv uy;have o2:Own K H H5 (k5 r) v2:=o5.back fun b h=>(Rt.trans c4).kc b h;refine q (.bin (PG.pick [] [[43],[45],[42]] g) l r) d4 _ _ ?_ (cc.trans (dO.of s8)) (C0.same s8) (fN zu cc.kc (a8.cons Own.str (a8.cons o1 (a8.cons o2 a8.nil))));rw[PG.k7];simp only[e1];rw[if_neg hn,if_neg h5];simp only[e2,e3,e4]
 walk_at "rd";refine fR (fun h2=>(if_pos trivial).mpr (num (.inl h2) H1 (.refl _))) (fun h2 p hp=>?_);have s2:=aw.new hp (.lst []);refine⟨N,p,_,rfl,rfl,.of (s2 _ _ Pa),.of ao,?_⟩;cases hc:ns with
 |nil=>exact(if_pos rfl).mpr (num (.inr hc) _ s2)
 |cons z zs=>exact(if_neg (by simp)).mpr (rest (fun y=>y.elim h2 fun y=>by rw[hc] at y;cases y) _ s2)
theorem BR(T:Tx K mg t):∀n,bw P w K mg base eM (n+1) t.cP t.cX ["deck", "names", "deep"] (FA K n)
 |0=>T.bQ.F.j9 iD (fun vs H Q E h=>by obtain⟨_,_,_,_,_,_,_,_,h,_⟩:=h;exact absurd h (zbV _)) (fun fq A outer s H vs Q E hr h=>by obtain⟨_,_,_,_,_,_,_,_,h,_⟩:=h;exact absurd h (zbV _))
 |n+1=>LB T (BR T n)
theorem nY{H:Hp}{D C G:zcl}{d d':PG.Dk}(dk:fG H D C G d)(p:d'.pos=d.pos)(e1:d'.cs=d.cs)(e2:d'.gs=d.gs):fG (upd H D (.lst [.ref C,.int d.pos,.ref G,.int d'.left,.int d'.row,.int d'.gap])) D C G d'/\dO D C H (upd H D (.lst [.ref C,.int d.pos,.ref G,.int d'.left,.int d'.row,.int d'.gap])):=
 ⟨dk.put ((bh.refl D H).put _) (by rw[ao,p]) e1 e2 (by rw[p];exact dk.pos),dO.put _ (.inl rfl)⟩
theorem F5(T:Tx K mg t){n:Nat}(kX:bw P w K mg base eM (2*n+2) t.bu t.bF ["deck", "names", "deep"] (BG K n)) :
 bw P w K mg base eM (2*n+3) t.cn t.cQ ["deck", "names", "deep"] (JA K n):=by
 have aY:=i5 (P:=P) (w:=w) (base:=base) T;refine T.bN.F.j9 jl (fun vs H Q E h=>?_) (fun fq A outer s H vs Q E hr h=>?_)
 ·obtain⟨_,_,_,_,_,_,_,rfl,_⟩:=h;rfl
 obtain⟨D,C,G,N,d,ns,m,rfl,hm,T7,CY,IJ,dk,hN,rW,rX,hl,q⟩:=h;have nd:=jl.nd;have hu:=dX hr;refine⟨_,[some (V.ref D),some (V.ref N),some (V.int (3-(m:Int))),none,none],(ai (eV 3 nd (bA aj))
 (ai (kg PassesOwn.never rfl (qg rfl T.pW (ae (dA aY T.aX hr (bo 0 (ae ag aj aB))) aj bC)) (zt 4 nd)
 (az (bq (aL DD (ax aF (pv 0) ag ah) ag (aQ _))
 (az (gR (oP zah zaN zaO i6 (pv 3) (ae (dA kX T.cG hr (bo 0 (bo 1 (bo 2 aj)))) aj bC))))
 aS)))
 (az (aM (pv 3))))),rfl,?_⟩
 have line:zct=2 ^ 24:=rfl;have sb:=PG.qH m;refine av fun U1 fi=>?_;walk_at "rd";intro L hL;refine(fi _ _).mpr (av fun U2 iw=>?_);clear fi;have s1:=aw.new hL (.lst []);have rV:=dk.same s1;have Pe:(upd H L (.lst [])) L=some (.lst []):=ao;have nL:L≠D/\L≠C/\L≠N:=⟨(au dk.dB hL).symm,(au dk.cs hL).symm,(au hN hL).symm⟩
 have Pa:pG (upd H L (.lst [])) N ns:=s1 _ _ hN;have c1:dO D C H (upd H L (.lst [])):=dO.of s1;generalize upd H L (.lst [])=H1 at *;have uv:=dk.dD;have uy:=dk.dC;refine x3 fun U hU=>?_;walk_at "rd";refine⟨D,C,G,d,5,rfl,rV,by decide,by decide,by lia,fun kn d1 H2 e1 c2 mY=>?_⟩;have b1:=PG.bE e1 (by decide);have p1:=PG.aV e1;refine⟨_,rfl,by lia,by lia,hU _ _ ?_⟩;clear hU;obtain⟨k,rfl⟩:∃k:Nat,kn=k:=⟨kn.toNat,by lia⟩
 rw[zaa];have Xi:=c1.trans c2;have Pc:=c2.get Pa rW rX;have Xj:=c2.get Pe nL.1 nL.2.1;obtain⟨Pv,rT,jv⟩:=Ih fun (i:Nat) (σ:St) (Hx:Hp) zq=>∀(z4:Option V) (dx:PG.Dk) (bs:List PG.aW) (us:List V),σ=[some (V.ref D),some (V.ref N),some (V.int (3-(m:Int))),some (V.ref L),z4]->fG Hx D C G dx->Hx L=some (.lst us)->a8 K H1 Hx (bs.map du) us->us.length=bs.length->bs.length<=i->dx.pos<=d1.pos+i*PG.sB m->dx.gap=d.gap->(∀b o,H b=some o->b≠D->b≠C->Hx b=some o)->(∀b,H1 b≠none->Hx b≠none)->(∀r d',PG.eK (PG.fW ns m) (k-i) dx=(r,d')->PG.eK (PG.fW ns m) k d1=(bs++r,d'))->zq;refine ve (lo:=0) (n:=k) Pv (rT _ _ _ fun _ zk=>zk _ d1 [] [] rfl mY Xj a8.nil rfl (ZQ _) (by simp) (PG.br e1).gap (fun b o e n1 n2=>Xi.get e n1 n2) c2.kc (fun r d' e=>by simpa using e)) (fun i σ Hx hi hv=>?_) (fun σ Hx hv=>?_)
 ·refine jv _ _ _ hv _ fun z4 dx bs us ze C3 N6 ox lu lb Dh gx kx uQ ex=>?_;subst ze;clear hv;have Xk:=kx _ _ hN rW rX;simp only[eR,zaV];walk_at "rd";refine aO (.of C3.dB) (aq (j:=3) rfl) ⟨_,_,rfl,rfl,?_⟩;refine⟨_,rfl,?_⟩;have kb:k<=4:=by lia
  have im:(i:Int)*PG.sB m+PG.sB m<=4*PG.sB m:=by
   have:=zbu (show ((i:Int)+1)<=4 by lia) sb;rw[zcj,zck] at this;exact this
  have ie:((i+1:Nat):Int)*PG.sB m=i*PG.sB m+PG.sB m:=by rw[Int.natCast_succ,zcj,zck]
  have ks:k-i=(k-(i+1))+1:=by lia
  by_cases Pf:dx.left>0
  ·refine(if_pos (decide_eq_true Pf)).mpr ⟨.inl ⟨rfl,_,.of N6⟩,D,C,G,N,dx,ns,m,rfl,hm,T7,by lia,(by unfold PG.cU;rw[gx];exact IJ),C3,Xk,rW,rX,hl,fun s d' v H3 e3 c3 rD o3=>?_⟩;have Ru:=c3.get N6 nL.1 nL.2.1;refine⟨L,us,v,rfl,rfl,Ru,by lia,?_⟩;have uL:bh L H3 (upd H3 L (.lst (us++[v]))):=(bh.refl _ _).put _;have nS:G≠L:=au dk.gs hL;have dL:H1 L≠none:=by rw[Pe];simp
   have p3:=PG.mx ns m dx;rw[e3] at p3;have lt:∀(ds:List Dp) (vs:List V),a8 K H1 H3 ds vs->a8 K H1 (upd H3 L (.lst (us++[v]))) ds vs:=fun ds vs f O hO=>by
    have:=f (fun b=>O b\/b=L) fun b hb=>by
     rcases hb with hb |rfl
     ·exact hO b hb
     ·exact dL
    exact(this.up (bK.one uL (.inr rfl))).sub fun b hb=>.inl hb
   refine rT _ _ _ fun _ zk=>zk _ d' (bs++[s]) (us++[v]) rfl ⟨uL _ _ nL.1.symm rD.dB,uL _ _ nL.2.1.symm rD.cs,uL _ _ nS rD.gs,rD.Ln,rD.Md,rD.Me,rD.len,rD.gl,rD.pos⟩ ao ?_ (by simp[lu]) (by simp;lia) (by simp only at p3;lia) (by have:=PG.my ns m dx;rw[e3] at this;exact this.trans gx) (fun b o e n1 n2=>?_) (fun b h=>?_) (fun r d2 er=>?_)
   ·rw[Z8];exact lt _ _ (a8.snoc (ox.chg c3 (by rw[rV.dB];simp) (by rw[rV.cs];simp)) (o3.back uQ))
   ·exact uL _ _ (au e hL) (c3.get (kx b o e n1 n2) n1 n2)
   ·by_cases z:b=L
    ·rw[z,ao];simp
    ·rw[aR z];exact c3.kc b (uQ b h)
   ·rw[ZZ];refine ex ([s]++r) d2 ?_;rw[ks,PG.eK,if_pos Pf,e3,er];rfl
  ·refine(if_neg (by rw[decide_eq_false Pf];exact ZM)).mpr (rT _ _ _ fun _ zk=>zk _ dx bs us rfl C3 N6 ox lu (by lia) (by lia) gx kx uQ fun r d2 er=>?_);refine ex r d2 ?_;rw[ks,PG.eK,if_neg Pf];exact er
 ·refine jv _ _ _ hv _ fun z4 dx bs us ze C3 N6 ox lu lb Dh gx kx uQ ex=>?_;subst ze;refine(iw _ _).mpr ?_;walk_at "rd";have e2:=ex [] dx (by rw[zci];rfl);rw[Z9] at e2;refine q bs dx L us Hx ?_ ⟨fun b o n e=>kx b o e (fun z=>n (.inl z)) (fun z=>n (.inr z)),fun b h=>uQ b (c1.kc b h)⟩ C3 hL N6 (fun O hO=>ox O fun b hb=>c1.kc b (hO b hb));unfold PG.cV;rw[e1,zaa];exact e2
theorem w5{K:ZI}{H:Hp}{D C G:zcl}{dd:PG.Dk}(dk:fG H D C G dd)(M:Hp->Prop)(h:∀H',dO D C H H'->fG H' D C G (PG.gC dd)->M H') :
 DT K (V.ref D) (V.int 4) H fun x H1=>DT K (V.ref D) (V.int 5) H1 fun T8 H1=>zK T8 (V.int 1)=true/\∃b,[V.bl !decide (T8=V.int 1)]=[V.bl b]/\GR (fun i j=>V.int (i+j)) x (V.int (if b=true then 1 else 0)) H1 fun x H1=>Jg (V.ref D) (V.int 4) x H1 M:=by
 refine aO (.of dk.dB) (aq (j:=4) rfl) (aO (.of dk.dB) (aq (j:=5) rfl) ⟨rfl,_,rfl,_,_,rfl,rfl,D,_,4,4,rfl,rfl,dk.dB,rfl,?_⟩);obtain⟨rV,c1⟩:=nY (d':=PG.gC dd) dk rfl rfl rfl;have e:dd.row+(if (!decide (V.int dd.gap=V.int 1))=true then 1 else 0)=(PG.gC dd).row:=by
  unfold PG.gC;by_cases h1:dd.gap=1
  ·simp[h1]
  ·simp[h1]
 show M (upd H D (.lst [.ref C,.int dd.pos,.ref G,.int dd.left,.int (dd.row+(if (!decide (V.int dd.gap=V.int 1))=true then 1 else 0)),.int dd.gap]));rw[e];exact h _ c1 rV
theorem qa{K:ZI}{H Ha Hb:Hp}{L:zcl}{ds:List Dp}{us:List V}(ob:a8 K Ha Hb ds us)(y:Hb L=some (.lst us))(hL:Ha L=none)(kc:∀b,H b≠none->Ha b≠none):Own K H Hb (.lst ds) (.ref L):=fun O hO=>Fix.lst y (fun z=>kc _ (hO _ z) hL) (ob O fun b hb=>kc b (hO b hb))
theorem LC(T:Tx K mg t){n:Nat}(cu:bw P w K mg base eM (2*n+3) t.cn t.cQ ["deck", "names", "deep"] (JA K n)) :
 bw P w K mg base eM (2*n+4) t.bu t.bF ["deck", "names", "deep"] (BG K (n+1)):=by
 have aY:=i5 (P:=P) (w:=w) (base:=base) T;have cS:=BR (P:=P) (w:=w) (base:=base) T 2;refine T.cG.F.j9 fX (fun vs H Q E h=>?_) (fun fq A outer s H vs Q E hr h=>?_)
 ·obtain⟨_,_,_,_,_,_,_,rfl,_⟩:=h;rfl
 obtain⟨D,C,G,N,d,ns,m,rfl,hm,T7,CY,IJ,dk,hN,rW,rX,hl,q⟩:=h;have nd:=fX.nd;have hu:=dX hr;refine⟨_,[some (V.ref D),some (V.ref N),some (V.int (3-(m:Int))),none,none,none,none,none,none,none],(ai (fP (a7 qh (ax aF (pv 0) ag ah) ag) (iz (pv 0) ag set_list))
 (ai (fP (a7 fQ (ax aF (pv 0) ag ah) ag) (iz (pv 0) ag set_list))
 (ai (bq (aL DD (ax aF (pv 0) ag ah) ag (aQ _))
 (az (fP (a7 fQ (ax aF (pv 0) ag ah) (dA aY T.aX hr (bo 0 (ae (ax aF (pv 0) ag ah) aj aH)))) (iz (pv 0) ag set_list)))
 aS)
 (ai (eV 3 nd (ax aF (pv 0) ag ah))
 (ai (eV 4 nd (dA aY T.aX hr (bo 0 (ae ag aj aB))))
 (ai (bq (PW.pt (pw_and (aL qW (pv 4) ag (aQ _)) (pw_and1 (aL (vq (dX hr)) (pv 1) (bA aj) (aQ _)))))
 (az (aM (aT (ae aU (bo 3 (ae (ax aF (pv 1) (dA aY T.aX hr (bo 0 (ae (dG cY rfl T.mW PyProof.Rows.Boot.«len» (bo 1 aj)) aj bC))) fM) aj aH)) aB))))
 aS)
 (ai (bq (PW.pt (pw_and (aL qW (pv 4) ag (aQ _)) (pw_and1 (aL (vq (dX hr)) (pv 1) (bA aj) (aQ _)))))
 (az (aM (aT (ae aU (bo 3 (ae (ax aF (pv 1) (dA aY T.aX hr (bo 0 (ae (dG cY rfl T.mW PyProof.Rows.Boot.«len» (bo 1 aj)) aj bC))) fM) (ae (dA cS T.bQ hr (bo 0 (bo 1 (ae ag aj aB)))) aj bC) aH)) aB))))
 aS)
 (ai (bq (aL qW (pv 4) ag (aQ _))
 (az (aM (aT (ae aU (bo 3 (ae (dA cS T.bQ hr (bo 0 (bo 1 (ae ag aj aB)))) aj bC)) aB))))
 aS)
 (ai (bq (PW.pt (pw_and (aL bR (pv 4) ag (aQ _)) (pw_and1 (aL bR (dA aY T.aX hr (bo 0 (ae ag aj aB))) ag (aQ _)))))
 (az (aM (aT (ae aU (bo 3 aj) aB))))
 aS)
 (ai (eV 5 nd (ax DU aU (dA aY T.aX hr (bo 0 (ae ag aj aB))) fM))
 (ai (eV 6 nd (dA cS T.bQ hr (bo 0 (bo 1 (ae ag aj aB)))))
 (ai (eV 7 nd (dA cS T.bQ hr (bo 0 (bo 1 (ae ag aj aB)))))
 (ai (bq (PW.pt (pw_or (aL qW (pv 4) ag (aQ _)) (pw_or1 (aL bR (pv 2) ag (aQ _)))))
 (az (aM (aT (ae aU (bo 3 (bo 5 (bo 6 (bo 7 aj)))) aB))))
 aS)
 (ai (eV 8 nd (dA cu T.bN hr (bo 0 (bo 1 (ae (a7 fQ (pv 2) ag) aj wj)))))
 (ai (bq (aL qW (pv 4) ag (aQ _))
 (ai (fP (a7 fQ (ax aF (pv 0) ag ah) (bT eS rfl T.pX PyProof.Rows.Boot.«int» (ae (dQ DC (ax aF (pv 0) ag ah) ag (aQ _)) aj kz))) (iz (pv 0) ag set_list))
 (az (aM (aT (ae aU (bo 3 (bo 5 (bo 6 (bo 7 (bo 8 aj))))) aB)))))
 aS)
 (ai (eV 9 nd (bA aj))
 (ai (bq (aL bR (dA aY T.aX hr (bo 0 (ae ag aj aB))) ag (aQ _))
 (ai (fP (a7 fQ (ax aF (pv 0) ag ah) (bT eS rfl T.pX PyProof.Rows.Boot.«int» (ae (dQ DC (ax aF (pv 0) ag ah) ag (aQ _)) aj kz))) (iz (pv 0) ag set_list))
 (az (eV 9 nd (dA cu T.bN hr (bo 0 (bo 1 (ae (a7 fQ (pv 2) ag) aj wj)))))))
 aS)
 (ai (fP (a7 fQ (ax aF (pv 0) ag ah) (bT eS rfl T.pX PyProof.Rows.Boot.«int» (ae (dQ DC (ax aF (pv 0) ag ah) ag (aQ _)) aj kz))) (iz (pv 0) ag set_list))
 (az (aM (aT (ae aU (bo 3 (bo 5 (bo 6 (bo 7 (bo 8 (bo 9 aj)))))) aB)))))))))))))))))))))),rfl,?_⟩
 have line:zct=2 ^ 24:=rfl;have uv:=dk.dD;have uy:=dk.dC;obtain⟨st,qd,Xl,rm⟩:∃st:Option (PG.Dk->PG.aW×PG.Dk),PG.fW ns m d=PG.mP st ns d/\(m=0->st=none)/\∀m',m=m'+1->st=some (PG.fW ns m'):=by
  cases m with
  |zero=>exact⟨none,rfl,fun _=>rfl,fun m' e=>by lia⟩
  |succ m=>exact⟨some (PG.fW ns m),rfl,fun e=>by lia,fun m' e=>by rw[show m=m' by lia]⟩
 rw[qd] at q;have Zk:30<=PG.sB m:=by
  cases m with
  |zero=>exact zaS _
  |succ m=>have:=PG.qH m;rw[PG.sB];lia
 refine av fun U1 fi=>?_;walk_at "rd";refine aO (.of dk.dB) (aq (j:=3) rfl) ⟨_,_,rfl,rfl,D,_,3,3,rfl,rfl,dk.dB,rfl,?_⟩;obtain⟨rV,c1⟩:=nY (d':={d with left:=d.left-1}) dk rfl rfl rfl;show U1 _ (upd H D (.lst [.ref C,.int d.pos,.ref G,.int (d.left-1),.int d.row,.int d.gap]));generalize upd H D (.lst [.ref C,.int d.pos,.ref G,.int (d.left-1),.int d.row,.int d.gap])=H1 at *;refine(fi _ _).mpr (av fun U2 iw=>?_);clear fi;walk_at "rd";refine aO (.of rV.dB) (aq (j:=4) rfl) ⟨_,_,rfl,rfl,D,_,4,4,rfl,rfl,rV.dB,rfl,?_⟩;obtain⟨mY,c2⟩:=nY (d':={d with left:=d.left-1,row:=d.row+1}) rV rfl rfl rfl;show U2 _ (upd H1 D (.lst [.ref C,.int d.pos,.ref G,.int (d.left-1),.int (d.row+1),.int d.gap]));have c2:dO D C H (upd H1 D (.lst [.ref C,.int d.pos,.ref G,.int (d.left-1),.int (d.row+1),.int d.gap])):=c1.trans c2;generalize upd H1 D (.lst [.ref C,.int d.pos,.ref G,.int (d.left-1),.int (d.row+1),.int d.gap])=H2 at *;refine(iw _ _).mpr (av fun U3 jO=>?_);clear iw;have head:∀H3,dO D C H H3->fG H3 D C G (PG.bI d)->U3 [some (V.ref D),some (V.ref N),some (V.int (3-(m:Int))),none,none,none,none,none,none,none] H3:=by
  intro H3 c3 rD;have ph:=PG.tM d;have gh:=PG.tP d;refine(jO _ _).mpr (av fun U4 mX=>?_);clear jO;walk_at "rd";refine aO (.of rD.dB) (aq (j:=4) rfl) ((mX _ _).mpr (av fun U5 uc=>?_));clear mX;unfold PG.mP at q;generalize PG.bI d=dh at *;walk_at "rd";refine⟨D,C,G,dh,13,rfl,rD,by decide,by decide,by lia,fun kd d4 H4 e4 c4 CZ=>(uc _ _).mpr (av fun U6 wW=>?_)⟩;clear uc;have p4:=PG.aV e4;have g4:=(PG.br e4).gap;have Pg:=c3.trans c4;have Mh:=Pg.get hN rW rX;simp only[e4] at q;clear rD c3 c4;have Ph:ns≠[]->(0:Int)<ns.length:=fun ne=>by have:=za5.mpr ne;lia
  refine oZ fun X1 Pb=>?_;have ask:kd<3/\ns≠[]->∀H5,aw H4 H5->X1 [some (V.ref D),some (V.ref N),some (V.int (3-(m:Int))),some (V.int dh.row),some (V.int kd),none,none,none,none,none] H5:=by
   intro hc H5 s5;rw[if_pos hc] at q;have LD:=s5 _ _ Mh;refine(Pb _ _).mpr ?_;walk_at "rd";refine⟨N,_,rfl,.inl (.of LD),?_⟩;rw[ZL];refine⟨D,C,G,d4,ns.length,rfl,CZ.same s5,Ph hc.2,by lia,by lia,fun j d6 H6 e6 c6 C1=>?_⟩;have bj:=PG.bE e6 (Ph hc.2);refine aO (.of (c6.get LD rW rX)) (wI bj.1 bj.2) fun p7 Mi=>?_;have cc:=Pg.trans ((dO.of s5).trans c6);have s7:=aw.new Mi (.tup [V.str (ZJ "ask"),V.int dh.row,V.str (L2.S (PG.pick [] ns j))]);refine q (.ask dh.row (PG.pick [] ns j)) d6 _ _ ?_ (cc.trans (dO.of s7)) (C1.same s7) (fN Mi cc.kc (a8.cons Own.str (a8.cons Own.int (a8.cons Own.str a8.nil))));simp only[e6]
  have r1:¬(kd<3/\ns≠[])->∀H5,aw H4 H5->U6 [some (V.ref D),some (V.ref N),some (V.int (3-(m:Int))),some (V.int dh.row),some (V.int kd),none,none,none,none,none] H5:=by
   intro hc H5 s5;rw[if_neg hc] at q;clear ask Pb hc;have LD:=s5 _ _ Mh;have C0:=CZ.same s5;have Rv:=Pg.trans (dO.of s5);clear Mh CZ Pg s5 H4;refine(wW _ _).mpr (av fun U7 GF=>?_);clear wW;refine oZ fun X2 Pd=>?_;have put:kd<5/\ns≠[]->∀H6,aw H5 H6->X2 [some (V.ref D),some (V.ref N),some (V.int (3-(m:Int))),some (V.int dh.row),some (V.int kd),none,none,none,none,none] H6:=by
    intro hc H6 s6;rw[if_pos hc] at q;have N7:=s6 _ _ LD;refine(Pd _ _).mpr ?_;walk_at "rd";refine⟨N,_,rfl,.inl (.of N7),?_⟩;rw[ZL];refine⟨D,C,G,d4,ns.length,rfl,C0.same s6,Ph hc.2,by lia,by lia,fun j d7 H7 e7 c7 F4=>?_⟩;have bj:=PG.bE e7 (Ph hc.2);have p7:=PG.aV e7;have N8:=c7.get N7 rW rX;refine aO (.of N8) (wI bj.1 bj.2) ⟨D,C,G,N,d7,ns,1,rfl,by decide,by have e:(2:Int) ^ 1=2:=rfl;rw[e];lia,F4,N8,rW,rX,hl,fun e d8 v H8 e8 c8 uz o8 p9 xE=>?_⟩;have JF:=Rv.trans ((dO.of s6).trans c7);have cc:=JF.trans c8;have s9:=aw.new xE (.tup [V.str (ZJ "put"),V.int dh.row,V.str (L2.S (PG.pick [] ns j)),v]);refine q (.put dh.row (PG.pick [] ns j) e) d8 _ _ ?_ (cc.trans (dO.of s9)) (uz.same s9) (fN xE cc.kc (a8.cons Own.str (a8.cons Own.int (a8.cons Own.str (a8.cons (o8.back JF.kc) a8.nil)))));simp only[e7,e8]
   have r2:¬(kd<5/\ns≠[])->∀H6,aw H5 H6->U7 [some (V.ref D),some (V.ref N),some (V.int (3-(m:Int))),some (V.int dh.row),some (V.int kd),none,none,none,none,none] H6:=by
    intro hc H6 s6;rw[if_neg hc] at q;clear put Pd hc;have N7:=s6 _ _ LD;have C1:=C0.same s6;have Mj:=Rv.trans (dO.of s6);clear LD C0 Rv s6 H5;refine(GF _ _).mpr (av fun U8 T9=>?_);clear GF;walk_at "rd";refine fR (fun h7=>?_) (fun h7=>?_)
    ·rw[if_pos h7] at q;refine⟨D,C,G,N,d4,ns,1,rfl,by decide,by have e:(2:Int) ^ 1=2:=rfl;rw[e];lia,C1,N7,rW,rX,hl,fun e d8 v H8 e8 c8 uz o8 p9 xE=>?_⟩;have cc:=Mj.trans c8;have s9:=aw.new xE (.tup [V.str (ZJ "say"),V.int dh.row,v]);refine q (.say dh.row e) d8 _ _ ?_ (cc.trans (dO.of s9)) (uz.same s9) (fN xE cc.kc (a8.cons Own.str (a8.cons Own.int (a8.cons (o8.back Mj.kc) a8.nil))));simp only[e8]
    ·rw[if_neg h7] at q;refine(T9 _ _).mpr (av fun U9 Ua=>?_);clear T9;have cond:∀(d5:PG.Dk) (H7:Hp),dO D C H H7->fG H7 D C G d5->d5.pos<=d.pos+3->d5.gap=d.gap->(∀s d' v H',PG.jI st ns dh.row kd d5=(s,d')->dO D C H H'->fG H' D C G d'->Own K H H' (du s) v->Q v H')->U9 [some (V.ref D),some (V.ref N),some (V.int (3-(m:Int))),some (V.int dh.row),some (V.int kd),none,none,none,none,none] H7:=by
      intro d5 H7 JF F4 p5 g5 q;clear Mj C1 N7;have N8:=JF.get hN rW rX;unfold PG.jI at q;refine(Ua _ _).mpr (av fun V1 yO=>?_);clear Ua;walk_at "rd";refine⟨D,C,G,d5,2,rfl,F4,by decide,by decide,by lia,fun z d8 H8 e8 c8 uz=>?_⟩;have bz:=PG.bE e8 (by decide);have p8:=PG.aV e8;have g8:=(PG.br e8).gap;obtain⟨c,hc,ec⟩:=Lq bz.1 bz.2;refine⟨_,_,c,rfl,rfl,by decide,hc,?_⟩;rw[ec];refine(yO _ _).mpr (av fun V2 Dl=>?_);clear yO;have Rw:=c8.get N8 rW rX;walk_at "rd";refine⟨D,C,G,N,d8,ns,1,rfl,by decide,by have e:(2:Int) ^ 1=2:=rfl;rw[e];lia,uz,Rw,rW,rX,hl,fun l d9 v1 H9 e9 c9 Ml o9=>(Dl _ _).mpr (av fun V3 Dm=>?_)⟩;clear Dl;have p9:=PG.jY e9;have g9:=(PG.qI e9).gap;have Rx:=c9.get Rw rW rX;walk_at "rd";refine⟨D,C,G,N,d9,ns,1,rfl,by decide,by have e:(2:Int) ^ 1=2:=rfl;rw[e];lia,Ml,Rx,rW,rX,hl,fun r da v2 Ha ea ca Pj oa=>(Dm _ _).mpr (av fun V4 F6=>?_)⟩;clear Dm;have pa:=PG.jY ea;have ga:=(PG.qI ea).gap;simp only[e8,e9,ea] at q;have Pk:dO D C H Ha:=JF.trans (c8.trans (c9.trans ca));have o1:Own K H Ha (k5 l) v1:=(o9.back (JF.trans c8).kc).chg ca uv uy;have o2:Own K H Ha (k5 r) v2:=oa.back (JF.trans (c8.trans c9)).kc;have N9:=ca.get Rx rW rX;have ga:da.gap=d.gap:=by rw[ga,g9,g8,g5]
      have pa:da.pos<=d.pos+24:=by lia
      clear p8 p9 g8 g9 Rw Rx N8 F4 uz Ml JF c8 c9 ca o9 oa e8 e9 ea hc ec;generalize PG.pick [] PG.zm z=sg at *;refine oZ fun X3 Ub=>?_;have bO:(kd<9\/m=0)->X3 [some (V.ref D),some (V.ref N),some (V.int (3-(m:Int))),some (V.int dh.row),some (V.int kd),some (V.str (S sg)),some v1,some v2,none,none] Ha:=by
       intro hc;refine(Ub _ _).mpr ?_;walk_at "rd";intro p hp;have s9:=aw.new hp (.tup [V.str (ZJ "must"),V.int dh.row,V.str (S sg),v1,v2]);refine q (.bO dh.row sg l r) da _ _ ?_ (Pk.trans (dO.of s9)) (Pj.same s9) (fN hp Pk.kc (a8.cons Own.str (a8.cons Own.int (a8.cons Own.str (a8.cons o1 (a8.cons o2 a8.nil))))));unfold PG.wF;rcases hc with hc |hc
       ·cases st with
        |none=>rfl
        |some s=>simp only;rw[if_pos hc]
       ·rw[Xl hc]
      walk_at "rd";refine fR (fun h9=>(if_pos trivial).mpr (bO (.inl h9))) (fun h9=>fR (fun h3=>bO (.inr (by lia))) (fun h3=>(F6 _ _).mpr (av fun V5 JG=>?_)));clear F6 bO Ub;obtain⟨m',rfl⟩:∃m',m=m'+1:=⟨m-1,by lia⟩
      have Xm:=rm m' rfl;subst Xm;have QC:=PG.qH m';have Uc:d.pos+(30+8*PG.sB m')<=2 ^ 49:=CY;unfold PG.wF at q;simp only at q;rw[if_neg h9] at q;have Ud:∀dd:PG.Dk,dd.gap=d.gap->PG.cU dd:=fun dd e=>by unfold PG.cU;rw[e];exact IJ
      have Oa:(3-((m'+1:Nat):Int)+1)=3-(m':Int):=by lia
      walk_at "rd";rw[Oa];refine⟨D,C,G,N,da,ns,m',rfl,by lia,by lia,by lia,Ud da ga,Pj,N9,rW,rX,hl,fun a db L1 NN Hb eb cb Mn Xn Pe ob=>(JG _ _).mpr (av fun V6 JH=>?_)⟩;clear JG;have pb:=PG.kK QC (PG.mx ns m') da;have gb:=PG.kL (PG.my ns m') da;rw[eb] at pb gb;simp only at pb gb;simp only[eb] at q;walk_at "rd";have Pl:=Pk.trans cb;have Ue:=o1.chg cb uv uy;have Ug:=o2.chg cb uv uy;have oL:Own K H Hb (.lst (a.map du)) (.ref L1):=qa ob Pe Xn Pk.kc;refine fR (fun Cy=>w5 Mn _ fun Hc cc Ry p hp=>?_) (fun Cy=>(JH _ _).mpr (av fun V7 Pm=>?_))
      ·rw[if_pos Cy] at q;have Uh:=Pl.trans cc;have s9:=aw.new hp (.tup [V.str (ZJ "while"),V.int dh.row,V.str (S sg),v1,v2,V.ref L1]);refine q (.fZ dh.row sg l r a) _ _ _ rfl (Uh.trans (dO.of s9)) (Ry.same s9) ?_;rw[du,dY];exact fN hp Uh.kc (a8.cons Own.str (a8.cons Own.int (a8.cons Own.str (a8.cons (Ue.chg cc uv uy) (a8.cons (Ug.chg cc uv uy) (a8.cons (oL.chg cc uv uy) a8.nil))))))
      rw[if_neg Cy] at q;clear JH;walk_at "rd";intro L2 Ui;refine(Pm _ _).mpr (av fun V8 Xo=>?_);clear Pm;have wX:=aw.new Ui (.lst []);have GC:(upd Hb L2 (.lst [])) L2=_:=ao;have Rz:=Mn.same wX;have Xp:dO D C Hb (upd Hb L2 (.lst [])):=dO.of wX;generalize upd Hb L2 (.lst [])=Hc at *;have fin:∀(xs:List PG.aW) (de:PG.Dk) (He:Hp) (L3:zcl),dO D C Hb He->fG He D C G de->Own K H He (.lst (xs.map du)) (.ref L3)->(∀v H',dO D C H H'->fG H' D C G (PG.gC de)->Own K H H' (du (.ifs dh.row sg l r a xs)) v->Q v H')->V8 [some (V.ref D),some (V.ref N),some (V.int (3-((m'+1:Nat):Int))),some (V.int dh.row),some (V.int kd),some (V.str (S sg)),some v1,some v2,some (V.ref L1),some (V.ref L3)] He:=by
       intro xs de He L3 ce Ob oe q;have RA:=Pl.trans ce;refine(Xo _ _).mpr (av fun V9 Xq=>?_);walk_at "rd";refine w5 Ob _ fun Hf cf Oc=>(Xq _ _).mpr ?_;walk_at "rd";intro p hp;have s9:=aw.new hp (.tup [V.str (ZJ "if"),V.int dh.row,V.str (S sg),v1,v2,V.ref L1,V.ref L3]);have Uj:=RA.trans cf;refine q _ _ (Uj.trans (dO.of s9)) (Oc.same s9) ?_;rw[du,dY,dY];exact fN hp Uj.kc (a8.cons Own.str (a8.cons Own.int (a8.cons Own.str (a8.cons ((Ue.chg ce uv uy).chg cf uv uy) (a8.cons ((Ug.chg ce uv uy).chg cf uv uy) (a8.cons ((oL.chg ce uv uy).chg cf uv uy) (a8.cons (oe.chg cf uv uy) a8.nil)))))))
      walk_at "rd";refine⟨D,C,G,db,2,rfl,Rz,by decide,by decide,by lia,fun tt dd Hd ed cd Uk=>⟨rfl,?_⟩⟩;have pd:=PG.aV ed;have gd:=(PG.br ed).gap;simp only[ed] at q;have Pn:=Xp.trans cd;by_cases ht:tt=1
      ·subst ht;rw[if_pos rfl] at q;refine(if_pos rfl).mpr (w5 Uk _ fun He ce Ob=>?_);rw[Oa];have Xr:=(cb.trans (Pn.trans ce)).get N9 rW rX;refine⟨D,C,G,N,PG.gC dd,ns,m',rfl,by lia,by lia,by show dd.pos+1+4*PG.sB m'<=2 ^ 49;lia,Ud _ (by show dd.gap=d.gap;rw[gd,gb,ga]),Ob,Xr,rW,rX,hl,fun b df L3 Zl Hf ef cf Oc Xs Ru Xt=>?_⟩;simp only[ef] at q;exact fin b df Hf L3 ((Pn.trans ce).trans cf) Oc (qa Xt Ru Xs (Pl.trans (Pn.trans ce)).kc) fun v H'=>q _ _ v H' rfl
      ·rw[if_neg ht] at q;refine(if_neg (by intro y;cases y;exact ht rfl)).mpr (fin [] dd Hd L2 Pn Uk ?_ fun v H'=>q _ _ v H' rfl);exact(qa (ds:=[]) (us:=[]) a8.nil GC Ui Pl.kc).chg cd uv uy
     have Ul:d4.gap=d.gap:=by rw[g4,gh]
     walk_at "rd";refine fR (fun RB=>?_) (fun RB=>(if_neg ZM).mpr (cond d4 H6 Mj C1 (by lia) Ul (fun s d' v H' e=>q s d' v H' (by rw[if_neg RB];exact e))));rw[if_pos RB] at q;refine⟨D,C,G,d4,3,rfl,C1,by decide,by decide,by lia,fun z d8 H8 e8 c8 uz=>?_⟩;simp only[e8] at q;have p8:=PG.aV e8;have g8:=(PG.br e8).gap;refine⟨rfl,?_⟩;by_cases hz:z=0
     ·subst hz;rw[if_pos rfl] at q;refine(if_pos rfl).mpr fun p9 xE=>?_;have cc:=Mj.trans c8;have s9:=aw.new xE (.tup [V.str (ZJ "stop"),V.int dh.row]);exact q (.stop dh.row) d8 _ _ rfl (cc.trans (dO.of s9)) (uz.same s9) (fN xE cc.kc (a8.cons Own.str (a8.cons Own.int a8.nil)))
     ·rw[if_neg hz] at q;exact(if_neg (by intro y;cases y;exact hz rfl)).mpr (cond d8 H8 (Mj.trans c8) uz (by lia) (by rw[g8,Ul]) q)
   walk_at "rd";refine fR (fun h5 p hp=>?_) (fun h5=>(if_neg ZM).mpr (r2 (fun z=>h5 z.1) H5 (.refl _)));have s6:=aw.new hp (.lst []);refine⟨N,p,_,rfl,rfl,.of (s6 _ _ LD),.of ao,?_⟩;cases hc:ns with
   |nil=>exact(if_neg (by simp)).mpr (r2 (fun z=>z.2 hc) _ s6)
   |cons z zs=>exact(if_pos (by simp)).mpr (put ⟨h5,by rw[hc];simp⟩ _ s6)
  walk_at "rd";refine fR (fun h3 p hp=>?_) (fun h3=>(if_neg ZM).mpr (r1 (fun z=>h3 z.1) H4 (.refl _)));have s6:=aw.new hp (.lst []);refine⟨N,p,_,rfl,rfl,.of (s6 _ _ Mh),.of ao,?_⟩;cases hc:ns with
  |nil=>exact(if_neg (by simp)).mpr (r1 (fun z=>z.2 hc) _ s6)
  |cons z zs=>exact(if_pos (by simp)).mpr (ask ⟨h3,by rw[hc];simp⟩ _ s6)
 walk_at "rd";refine aO (.of mY.dB) (aq (j:=5) rfl) ⟨_,_,rfl,rfl,?_⟩;refine⟨_,rfl,?_⟩;have gl:d.gap<=30:=by rcases IJ with h |h |h<;>rw[h]<;>decide
 by_cases hg:d.gap>1
 ·refine(if_pos (decide_eq_true hg)).mpr (aO (.of mY.dB) (aq (j:=4) rfl) (aO (.of mY.dB) (aq (j:=5) rfl) ⟨D,C,G,_,d.gap,rfl,mY,by lia,by lia,by simp only;lia,fun x d3 H3 e3 c3 rD=>⟨_,_,rfl,rfl,D,_,4,4,rfl,rfl,rD.dB,rfl,?_⟩⟩));obtain⟨CZ,c4⟩:=nY (d':={d3 with row:=d3.row+x}) rD rfl rfl rfl;have er:d3.row=d.row+1:=(PG.br e3).row;have eh:PG.bI d={d3 with row:=d3.row+x}:=by
   unfold PG.bI;rw[if_pos hg,e3]
  show U3 _ (upd H3 D (.lst [.ref C,.int d3.pos,.ref G,.int d3.left,.int (d.row+1+x),.int d3.gap]));rw[<- er];exact head _ (c2.trans (c3.trans c4)) (by rw[eh];exact CZ)
 ·refine(if_neg (by rw[decide_eq_false hg];exact ZM)).mpr (head H2 c2 ?_);have eh:PG.bI d={d with left:=d.left-1,row:=d.row+1}:=by
   unfold PG.bI;rw[if_neg hg]
  rw[eh];exact mY
theorem BS(T:Tx K mg t):∀n,bw P w K mg base eM (2*n+2) t.bu t.bF ["deck", "names", "deep"] (BG K n)
 |0=>by
  have no:∀vs H Q E,¬BG K 0 vs H Q E:=fun vs H Q E h=>by obtain⟨_,_,_,_,_,_,_,_,h,_⟩:=h;lia
  exact⟨fun vs H Q E h=>absurd h (no vs H Q E),fun A outer s H args us vs Q E _ _ _ _ h=>absurd h (no vs H Q E)⟩
 |n+1=>LC T (F5 T (BS T n))
theorem nZ{st:PG.Dk->PG.aW×PG.Dk}:∀(k:Nat) (d:PG.Dk),(PG.eK st k d).1.length<=k
 |0,d=>ZQ _
 |k+1,d=>by
  rw[PG.eK];split
  ·have:=nZ (st:=st) k (st d).2;simp only[ZN];lia
  ·have:=nZ (st:=st) k d;lia
theorem og{st:PG.Dk->PG.aW×PG.Dk}{d d':PG.Dk}{b:List PG.aW}(h:PG.cV st d=(b,d')):b.length<=4:=by
 have:=nZ (st:=st) (PG.draw d 5).1.toNat (PG.draw d 5).2;have e:=congrArg (fun x=>x.1) h;unfold PG.cV at e;simp only at e;rw[e] at this;have:=PG.BD d (many:=5) (by decide);lia
theorem ui{K:ZI}{H0 H:Hp}{ds:List Dp}{us:List V}(o:a8 K H0 H ds us):us.length=ds.length:=(o (fun _=>False) fun _ h=>h.elim).KY.length
theorem Od(xs:List V)(j:Nat):k4 xs none (some (j:Int))=xs.take j:=by
 unfold k4;rw[HT.oM,HT.sk,zb2,Nat.sub_zero];by_cases h:j<=xs.length
 ·rw[Nat.min_eq_left h]
 ·rw[Nat.min_eq_right (by lia),za2,zaR (by lia)]
theorem uR(T:Tx K mg t):bw P w K mg base eM 12 t.gF t.gV ["deck", "most"] (Ik K):=by
 have aY:=i5 (P:=P) (w:=w) (base:=base) T;have cu:=F5 (P:=P) (w:=w) (base:=base) T (BS (P:=P) (w:=w) (base:=base) T 4);refine T.gH.F.j9 mR (fun vs H Q E h=>?_) (fun fq A outer s H vs Q E hr h=>?_)
 ·obtain⟨_,_,_,_,_,rfl,_⟩:=h;rfl
 obtain⟨D,C,G,d,most,rfl,dk,hm,CY,q⟩:=h;have nd:=mR.nd;have hu:=dX hr;refine⟨_,[some (V.ref D),some (V.int most),none,none,none,none,none],(ai (eV 2 nd (bA aj))
 (ai (kg PassesOwn.never rfl (cg (ja mi (bA (eB (vs:=[.str "a",.str "ab",.str "b"]) (by kernel_rfl))) kh (kl (dA aY T.aX hr (bo 0 (ae ag aj aB)))))) (zt 3 nd)
 (ai (eV 4 nd (ax aF (bA (eB (vs:=[.int 2,.int 2,.int 3,.int 4]) (by kernel_rfl))) (dA aY T.aX hr (bo 0 (ae ag aj aB))) fM))
 (az (gR (oP zah zaN zaO i6 (pv 2) (ae (aT (bo 3 (bo 4 (ae (dA aY T.aX hr (bo 0 (bo 4 aj))) aj bC)))) aj eI))))))
 (ai (fP (ax aF (bA (eB (vs:=[.int 0,.int 0,.int 1,.int 30]) (by kernel_rfl))) (dA aY T.aX hr (bo 0 (ae ag aj aB))) fM) (iz (pv 0) ag set_list))
 (ai (fP (pv 1) (iz (pv 0) ag set_list))
 (ai (fP (dG cY rfl T.mW PyProof.Rows.Boot.«len» (bo 2 aj)) (iz (pv 0) ag set_list))
 (ai (wg (i:=5) nd rfl (zau rfl) (own:=["box"]) (ix:=[]) rfl (by rfl) (by rfl) (cg (pv 2)) (fun _ _ _ _=>(cT (i:=0) (by show List.Nodup (["box"]:List Str);decide +kernel) rfl (zau rfl))) (fun _ _ _ _=>cZ) (fun _ _ _ _=>(ax (eO (K:=K) rfl) (pv 0) ag ah)))
 (ai (eV 6 nd (a7 km (a7 km (dA cu T.bN hr (bo 0 (bo 5 (ae ag aj aB)))) (dA cu T.bN hr (bo 0 (bo 5 (ae ag aj aB))))) (dA cu T.bN hr (bo 0 (bo 5 (ae ag aj aB))))))
 (az (aM (aT (bo 2 (bo 6 aj)))))))))))),rfl,?_⟩
 have line:zct=2 ^ 24:=rfl;have uv:=dk.dD;have uy:=dk.dC;refine av fun U1 fi=>?_;walk_at "rd";intro B hB;refine(fi _ _).mpr (av fun U2 iw=>?_);clear fi;have s1:=aw.new hB (.lst []);have rV:=dk.same s1;have Um:(upd H B (.lst [])) B=some (.lst []):=ao;have nB:B≠D/\B≠C/\G≠B:=⟨(au dk.dB hB).symm,(au dk.cs hB).symm,au dk.gs hB⟩
 have c1:dO D C H (upd H B (.lst [])):=dO.of s1;generalize upd H B (.lst [])=H1 at *;refine lG fun U hU=>?_;walk_at "rd";intro A0 RC;have s2:=aw.new RC (.lst [V.str (ZJ "a"),V.str (ZJ "ab"),V.str (ZJ "b")]);have Xu:(upd H1 A0 (.lst [V.str (ZJ "a"),V.str (ZJ "ab"),V.str (ZJ "b")])) A0=_:=ao;have mY:=rV.same s2;have Xv:=s2 _ _ Um;have Uo:A0≠D/\A0≠C:=⟨(au rV.dB RC).symm,(au rV.cs RC).symm⟩
 generalize upd H1 A0 (.lst [V.str (ZJ "a"),V.str (ZJ "ab"),V.str (ZJ "b")])=H2 at *;refine⟨D,C,G,d,4,rfl,mY,by decide,by decide,by lia,fun mm d1 H3 e1 c3 rD=>⟨_,rfl,A0,_,rfl,.of (c3.get Xu Uo.1 Uo.2),fun S1 LF=>⟨S1,rfl,⟨_,.of ao⟩,hU _ _ ?_⟩⟩⟩;clear hU;have bm:=PG.bE e1 (by decide);have p1:=PG.aV e1;obtain⟨m,rfl⟩:∃m:Nat,mm=m:=⟨mm.toNat,by lia⟩
 rw[Od,show [V.str (ZJ "a"),V.str (ZJ "ab"),V.str (ZJ "b")]=PG.jy.map (fun n=>V.str (S n)) from rfl,<- List.map_take];have Zm:(PG.jy.take m).length<=3:=Z5 (by rw[zaP];exact zbI _ _) (ZQ 3);unfold PG.wG at q;simp only[e1,zaa] at q;generalize PG.jy.take m=ns at *;have s4:=aw.new LF (.lst (ns.map fun n=>V.str (S n)));have Xw:(upd H3 S1 (.lst (ns.map fun n=>V.str (S n)))) S1=_:=ao;have Up:=c3.get Xv nB.1 nB.2.1;have RD:S1≠D/\S1≠C/\S1≠B:=⟨(au rD.dB LF).symm,(au rD.cs LF).symm,(au Up LF).symm⟩
 have CZ:=rD.same s4;have Xx:=s4 _ _ Up;have Uq:dO D C H1 (upd H3 S1 (.lst (ns.map fun n=>V.str (S n)))):=(dO.of s2).trans (c3.trans (dO.of s4));generalize upd H3 S1 (.lst (ns.map fun n=>V.str (S n)))=H4 at *;have Xy:H1 B≠none:=by rw[Um];simp
 have FT:=rV.dD;have Ur:=rV.dC;have up:∀(Hx:Hp) (ys:List V) (ds:List Dp) (vs:List V),a8 K H1 Hx ds vs->a8 K H1 (upd Hx B (.lst ys)) ds vs:=fun Hx ys ds vs f=>f.up ((bh.refl B Hx).put _) Xy;obtain⟨Pv,rT,jv⟩:=Ih fun (i:Nat) (σ:St) (Hx:Hp) zq=>∀(z3 z4:Option V) (dx:PG.Dk) (bs:List PG.gf) (us:List V),σ=[some (V.ref D),some (V.int most),some (V.ref B),z3,z4,none,none]->fG Hx D C G dx->Hx B=some (.lst us)->a8 K H1 Hx (bs.map lJ) us->us.length=bs.length->bs.length<=i->dx.pos<=d1.pos+2*i->Hx S1=some (.lst (ns.map fun n=>V.str (S n)))->(∀b o,H b=some o->b≠D->b≠C->Hx b=some o)->(∀b,H1 b≠none->Hx b≠none)->(∀r d',PG.fO (ns.drop i) dx=(r,d')->PG.fO ns d1=(bs++r,d'))->zq;refine lA (K:=K) (a:=S1) (xs:=ns.map fun n=>V.str (S n)) Pv (rT _ _ _ fun _ zk=>zk _ _ d1 [] [] rfl CZ Xx a8.nil rfl (ZQ _) (by lia) Xw (fun b o e n1 n2=>Uq.get (s1 _ _ e) n1 n2) Uq.kc (fun r d' e=>by simpa using e)) (fun i σ Hx _ hv=>?_) (fun i y σ Hx hi hv=>?_) (fun σ Hx hv=>?_)
 ·refine jv _ _ _ hv _ fun _ _ _ _ _ _ _ _ _ _ _ _ y _ _ _=>.of y
 ·refine jv _ _ _ hv _ fun z3 z4 dx bs us ze C3 Oe ox lu lb Dh Us kx uQ ex=>?_;subst ze;clear hv;rw[ZO] at hi;obtain⟨nm,OZ,rfl⟩:=zaI.mp hi;have li:=(ZR.mp OZ).1;have dr:ns.drop i=nm::ns.drop (i+1):=by rw[zaA li,(ZR.mp OZ).2]
  simp only[eR,zaV];refine av fun V1 yO=>?_;walk_at "rd";intro p5 F3;have s5:=aw.new F3 (.lst [V.int 2,V.int 2,V.int 3,V.int 4]);have y5:(upd Hx p5 (.lst [V.int 2,V.int 2,V.int 3,V.int 4])) p5=_:=ao;have n5:p5≠D/\p5≠C:=⟨(au C3.dB F3).symm,(au C3.cs F3).symm⟩
  have C0:=C3.same s5;generalize upd Hx p5 (.lst [V.int 2,V.int 2,V.int 3,V.int 4])=H5 at *;refine⟨D,C,G,dx,4,rfl,C0,by decide,by decide,by lia,fun j d6 H6 e6 c6 C1=>?_⟩;have bj:=PG.bE e6 (by decide);have p6:=PG.aV e6;refine aO (.of (c6.get y5 n5.1 n5.2)) (sN (l:=[2,2,3,4]) 2 bj.1 bj.2) ((yO _ _).mpr ?_);clear yO;have pj:=PG.gD (2:Int) (l:=[2,2,3,4]) bj.1 bj.2;rw[dr] at ex;have ex:∀r d',(match PG.draw d6 (PG.pick 2 [2,2,3,4] j) with |(f,d2)=>match PG.fO (ns.drop (i+1)) d2 with |(bs,d3)=>((⟨nm,PG.pick 2 [2,2,3,4] j,f⟩:PG.gf)::bs,d3))=(r,d')->PG.fO ns d1=(bs++r,d'):=fun r d' e=>ex r d' (by rw[PG.fO];simp only[e6];exact e);generalize (PG.pick 2 [2,2,3,4] j:Int)=sz at *;have hsz:2<=sz/\sz<=4:=by
   simp only[ZS,zar,or_false] at pj;lia
  have Ut:=c6.get (s5 _ _ Oe) nB.1 nB.2.1;walk_at "rd";refine⟨.inl ⟨rfl,_,.of Ut⟩,D,C,G,d6,sz,rfl,C1,by lia,by lia,by lia,fun f d7 H7 e7 c7 F4 p8 zu=>?_⟩;have p7:=PG.aV e7;have s8:=aw.new zu (.tup [V.str (S nm),V.int sz,V.int f]);have Xz:=c7.get Ut nB.1 nB.2.1;have Uu:dO D C Hx H7:=(dO.of s5).trans (c6.trans c7);have RE:∀b,H1 b≠none->H7 b≠none:=fun b h=>Uu.kc b (uQ b h);have o8:Own K H1 (upd H7 p8 (.tup [V.str (S nm),V.int sz,V.int f])) (lJ ⟨nm,sz,f⟩) (.ref p8):=fN zu RE (a8.cons Own.str (a8.cons Own.int (a8.cons Own.int a8.nil)));have Po:dO D C Hx (upd H7 p8 (.tup [V.str (S nm),V.int sz,V.int f])):=Uu.trans (dO.of s8);have uz:=F4.same s8;have RF:=s8 _ _ Xz;generalize upd H7 p8 (.tup [V.str (S nm),V.int sz,V.int f])=H8 at *;refine⟨B,us,.ref p8,rfl,rfl,RF,by lia,?_⟩;have uB:bh B H8 (upd H8 B (.lst (us++[.ref p8]))):=(bh.refl _ _).put _;refine rT _ _ _ fun _ zk=>zk _ _ d7 (bs++[⟨nm,sz,f⟩]) (us++[.ref p8]) rfl ⟨uB _ _ nB.1.symm uz.dB,uB _ _ nB.2.1.symm uz.cs,uB _ _ nB.2.2 uz.gs,uz.Ln,uz.Md,uz.Me,uz.len,uz.gl,uz.pos⟩ ao ?_ (by simp[lu]) (by simp;lia) (by lia) (uB _ _ RD.2.2 (Po.get Us RD.1 RD.2.1)) (fun b o e n1 n2=>uB _ _ (au e hB) (Po.get (kx b o e n1 n2) n1 n2)) (fun b h=>?_) (fun r d2 er=>?_)
  ·rw[Z8];exact up _ _ _ _ (a8.snoc (ox.chg Po FT Ur) o8)
  ·by_cases z:b=B
   ·rw[z,ao];simp
   ·rw[aR z];exact Po.kc b (uQ b h)
  ·rw[ZZ];refine ex ([⟨nm,sz,f⟩]++r) d2 ?_;simp only[e7,er];rfl
 ·refine jv _ _ _ hv _ fun z3 z4 dx bs us ze C3 Oe ox lu lb Dh Us kx uQ ex=>?_;subst ze;clear hv;have e2:=ex [] dx (by rw[ZL,zbd];rfl);rw[Z9] at e2;simp only[e2] at q;rw[ZL] at lb Dh;refine(iw _ _).mpr (av fun U3 jO=>?_);clear iw;walk_at "rd";intro p5 F3;have s5:=aw.new F3 (.lst [V.int 0,V.int 0,V.int 1,V.int 30]);have y5:(upd Hx p5 (.lst [V.int 0,V.int 0,V.int 1,V.int 30])) p5=_:=ao;have n5:p5≠D/\p5≠C:=⟨(au C3.dB F3).symm,(au C3.cs F3).symm⟩
  have C0:=C3.same s5;generalize upd Hx p5 (.lst [V.int 0,V.int 0,V.int 1,V.int 30])=H5 at *;refine⟨D,C,G,dx,4,rfl,C0,by decide,by decide,by lia,fun j d6 H6 e6 c6 C1=>?_⟩;have bj:=PG.bE e6 (by decide);have p6:=PG.aV e6;refine aO (.of (c6.get y5 n5.1 n5.2)) (sN (l:=[0,0,1,30]) 0 bj.1 bj.2) ⟨D,_,5,5,rfl,rfl,C1.dB,rfl,?_⟩;have pj:=PG.gD (0:Int) (l:=[0,0,1,30]) bj.1 bj.2;simp only[e6] at q;generalize (PG.pick 0 [0,0,1,30] j:Int)=gp at *;have XA:gp=0\/gp=1\/gp=30:=by
   simp only[ZS,zar,or_false] at pj;lia
  obtain⟨F4,c7⟩:=nY (d':={d6 with gap:=gp}) C1 rfl rfl rfl;show U3 _ (upd H6 D (.lst [.ref C,.int d6.pos,.ref G,.int d6.left,.int d6.row,.int gp]));have XB:dO D C Hx (upd H6 D (.lst [.ref C,.int d6.pos,.ref G,.int d6.left,.int d6.row,.int gp])):=(dO.of s5).trans (c6.trans c7);generalize upd H6 D (.lst [.ref C,.int d6.pos,.ref G,.int d6.left,.int d6.row,.int gp])=H7 at *;refine(jO _ _).mpr (av fun U4 mX=>?_);clear jO;walk_at "rd";refine⟨D,_,3,3,rfl,rfl,F4.dB,rfl,?_⟩;obtain⟨uz,c8⟩:=nY (d':={d6 with gap:=gp,left:=most}) F4 rfl rfl rfl;show U4 _ (upd H7 D (.lst [.ref C,.int d6.pos,.ref G,.int most,.int d6.row,.int gp]));have Uv:dO D C Hx (upd H7 D (.lst [.ref C,.int d6.pos,.ref G,.int most,.int d6.row,.int gp])):=XB.trans c8;generalize upd H7 D (.lst [.ref C,.int d6.pos,.ref G,.int most,.int d6.row,.int gp])=H8 at *;refine(mX _ _).mpr (av fun U5 uc=>?_);clear mX;have RF:=Uv.get Oe nB.1 nB.2.1;walk_at "rd";refine⟨B,us,rfl,.inl (.of RF),D,_,4,4,rfl,rfl,uz.dB,rfl,?_⟩;rw[lu];obtain⟨Ml,c9⟩:=nY (d':={d6 with gap:=gp,left:=most,row:=bs.length}) uz rfl rfl rfl;show U5 _ (upd H8 D (.lst [.ref C,.int d6.pos,.ref G,.int most,.int bs.length,.int gp]));have RG:dO D C Hx (upd H8 D (.lst [.ref C,.int d6.pos,.ref G,.int most,.int bs.length,.int gp])):=Uv.trans c9;generalize upd H8 D (.lst [.ref C,.int d6.pos,.ref G,.int most,.int bs.length,.int gp])=H9 at *;have p9:({d6 with gap:=gp,left:=most,row:=(bs.length:Int)}:PG.Dk).pos=d6.pos:=rfl;have g9:PG.cU ({d6 with gap:=gp,left:=most,row:=(bs.length:Int)}:PG.Dk):=XA;generalize ({d6 with gap:=gp,left:=most,row:=(bs.length:Int)}:PG.Dk)=d9 at *;refine(uc _ _).mpr (av fun U6 wW=>?_);clear uc;have Uw:=RG.get Oe nB.1 nB.2.1;have o9:=ox.chg RG FT Ur;walk_at "rd";simp only[gm];walk_at "rd";refine⟨⟨us,.of Uw⟩,fun N hN=>?_⟩;refine jg (K:=K) (r:=[]) (fun i ys _=>ys=(bs.take i).map fun b=>V.str (S b.name)) (.of Uw) (by lia) hN (by simp) (fun i x ys Lu hx wX _ ly zw R hR=>?_) (fun ys HA sA XC pA=>(wW _ _).mpr (av fun U7 GF=>?_))
  ·have li:i<bs.length:=by have:=(ZR.mp hx).1;lia
   obtain⟨v',zl,r⟩:=((o9 (fun _=>False) fun _ h=>h.elim).KY.mono wX).get (i:=i) (d:=lJ bs[i]) (by rw[ZO,ZK li];rfl);rw[hx] at zl;cases zl;obtain⟨tp,tv,rfl,tq,tr⟩:=Rep.aK.mp r;obtain⟨x1,t1,rfl,r1,_⟩:=aG.aD.mp tr;cases Rep.bf.mp r1;walk_at "rd";refine aA tq (aq (j:=0) rfl) (hR _ _ (.refl _) ?_);show ys++[V.str (S bs[i].name)]=(bs.take (i+1)).map fun b=>V.str (S b.name);rw[zw,zb8,ZK li,Z8];rfl
  clear wW;rw[lu,za2] at pA;have Ux:pG HA N (bs.map (·.name)):=by
   unfold pG;rw[XC,pA,zax];rfl
  have nN:N≠D/\N≠C:=⟨(au Ml.dB hN).symm,(au Ml.cs hN).symm⟩
  have RH:=Ml.same sA;have Zn:PG.sB 3=17550:=rfl;have RI:(bs.map (·.name)).length<=10:=by rw[ZL];lia
  have JI:=fun dd:PG.Dk=>PG.kK (PG.qH 3) (PG.mx (bs.map (·.name)) 3) dd;have Uy:=fun dd:PG.Dk=>PG.kL (PG.my (bs.map (·.name)) 3) dd;have g3:∀ {dd:PG.Dk},dd.gap=d9.gap->PG.cU dd:=fun {dd} e=>by unfold PG.cU;rw[e];exact g9
  walk_at "rd";refine⟨D,C,G,N,d9,bs.map (·.name),3,rfl,by decide,by decide,by lia,g9,RH,Ux,nN.1,nN.2,RI,fun a da La ua Ha ea ca Pj Uz XD oa=>?_⟩;have pa:=JI d9;have ga:=Uy d9;rw[ea] at pa ga;simp only at pa ga;simp only[ea] at q;have N9:pG Ha N (bs.map (·.name)):=ca.get Ux nN.1 nN.2;refine⟨D,C,G,N,da,bs.map (·.name),3,rfl,by decide,by decide,by lia,g3 ga,Pj,N9,nN.1,nN.2,RI,fun b db Lb ub Hb eb cb Mn Zo XE ob=>?_⟩;have pb:=JI da;have gb:=Uy da;rw[eb] at pb gb;simp only at pb gb;simp only[eb] at q;have XF:pG Hb N (bs.map (·.name)):=cb.get N9 nN.1 nN.2;have UA:La≠D/\La≠C:=⟨(au RH.dB Uz).symm,(au RH.cs Uz).symm⟩
  have RJ:=cb.get XD UA.1 UA.2;have la:ua.length<=4:=by rw[ui oa,ZL];exact og ea
  have Zp:ub.length<=4:=by rw[ui ob,ZL];exact og eb
  refine⟨La,Lb,ua,ub,rfl,rfl,RJ,XE,by lia,fun Lc RK=>?_⟩;have sc:=aw.new RK (.lst (ua++ub));have XG:(upd Hb Lc (.lst (ua++ub))) Lc=_:=ao;have UB:Lc≠D/\Lc≠C:=⟨(au Mn.dB RK).symm,(au Mn.cs RK).symm⟩
  have Ry:=Mn.same sc;have XH:pG (upd Hb Lc (.lst (ua++ub))) N (bs.map (·.name)):=sc _ _ XF;have cc:dO D C Hb (upd Hb Lc (.lst (ua++ub))):=dO.of sc;generalize upd Hb Lc (.lst (ua++ub))=Hc at *;refine⟨D,C,G,N,db,bs.map (·.name),3,rfl,by decide,by decide,by lia,g3 (gb.trans ga),Ry,XH,nN.1,nN.2,RI,fun e de Le ue He ee ce Ob Zq XI oe=>?_⟩;simp only[ee] at q;have Zr:ue.length<=4:=by rw[ui oe,ZL];exact og ee
  refine⟨Lc,Le,_,_,rfl,rfl,ce.get XG UB.1 UB.2,XI,by rw[ZP];lia,fun Lf UC=>(GF _ _).mpr ?_⟩;clear GF;have sf:=aw.new UC (.lst (ua++ub++ue));have XJ:(upd He Lf (.lst (ua++ub++ue))) Lf=_:=ao;have Oc:=Ob.same sf;have cf:dO D C He (upd He Lf (.lst (ua++ub++ue))):=dO.of sf;generalize upd He Lf (.lst (ua++ub++ue))=Hf at *;walk_at "rd";intro pp CT;have sp:=aw.new CT (.tup [V.ref B,V.ref Lf]);have XM:dO D C H Hx:=⟨fun b o n e=>kx b o e (fun z=>n (.inl z)) (fun z=>n (.inr z)),fun b h=>uQ b (c1.kc b h)⟩
  have UD:=RG.trans (dO.of sA);have Mo:=XM.trans UD;have XN:=ce.trans cf;have UE:=cc.trans XN;have UG:=cb.trans UE;have RL:=ca.trans UG;have oB:Own K H Hf (.lst (bs.map lJ)) (.ref B):=(qa (fun O hO=>ox O fun b hb=>c1.kc b (hO b hb)) Oe hB fun _ h=>h).chg (UD.trans RL) uv uy;have XO:a8 K H Hf (a.map du) ua:=a8.chg (fun O hO=>oa O fun b hb=>Mo.kc b (hO b hb)) UG uv uy;have XQ:a8 K H Hf (b.map du) ub:=a8.chg (fun O hO=>ob O fun z hb=>(Mo.trans ca).kc z (hO z hb)) UE uv uy;have XR:a8 K H Hf (e.map du) ue:=a8.chg (fun O hO=>oe O fun z hb=>(Mo.trans (ca.trans (cb.trans cc))).kc z (hO z hb)) cf uv uy;have RA:=Mo.trans (ca.trans (cb.trans (cc.trans ce)));have oL:Own K H Hf (.lst ((a++b++e).map du)) (.ref Lf):=fun O hO=>Fix.lst XJ (fun z=>RA.kc _ (hO _ z) UC) fun H2 u=>by
   rw[Z8,Z8];exact((XO O hO H2 u).append (XQ O hO H2 u)).append (XR O hO H2 u)
  exact q _ _ _ _ rfl ((Mo.trans RL).trans (dO.of sp)) (Oc.same sp) (fN CT (Mo.trans RL).kc (a8.cons oB (a8.cons oL a8.nil)))
theorem Of:∀w:PG.Wd,L4 (V.str (jH w)) [V.str (ZJ "put"),V.str (ZJ "if"),V.str (ZJ "while"),V.str (ZJ "stop")]=decide (w=.put\/w=.ifs\/w=.fZ\/w=.stop):=by
 intro w;cases w<;>decide +kernel
theorem JJ:∀w:PG.Wd,(jH w=ZJ "must")↔w=.bO:=by
 intro w;cases w<;>decide +kernel
theorem F7{pr:PG.Prog}(dr:iO pr){i:Nat}(hi:i<(PG.ay pr.body).length)(hf:i<(PG.aI pr.body 0).length){vals:List Int} :
 jZ pr ((PG.ay pr.body)[i].row,vals)=if (PG.ay pr.body)[i].wd=.ask then some (.ask ((PG.ay pr.body)[i].row,vals)) else match gn pr.ar (PG.ay pr.body)[i] (PG.aI pr.body 0)[i].2.2 vals 0 with
  |(none,_)=>some .bO
  |(some y,some n)=>some (.say n y)
  |(some _,none)=>none:=by
 have F8:(PG.ay pr.body)[i].row≠0:=by have:=dr.ok.pos _ (ZT hi);lia
 unfold jZ;rw[if_neg F8,pf dr.ok hi hf];have ea:oX pr.body (PG.ay pr.body)[i].row=decide ((PG.ay pr.body)[i].wd=.ask):=by unfold oX;rw[oY dr.ok.pw i hi]
 simp only[ea,decide_eq_true_eq]
 try rfl
theorem w6(T:Tx K mg t):bw P w K mg base eM 5 t.hZ t.iQ ["chart", "standing"] (FD K t.aN):=by
 have j8:=nV (P:=P) (w:=w) (base:=base) T;have wY:=yK (P:=P) (w:=w) (base:=base) T;refine T.jB.F.j9 pL (fun vs H Q E h=>?_) (fun fq A outer s H vs Q E hr h=>?_)
 ·obtain⟨_,_,_,_,rfl,_⟩:=h;rfl
 obtain⟨ch,sa,pr,⟨row,vals⟩,rfl,co,dr,rS,si,q⟩:=h;have nd:=pL.nd;refine⟨_,[some (.ref ch),some (.ref sa),none],(ai (eV 2 nd (dA j8 T.i9 hr (bo 0 (ae (ax aC (pv 1) ag ah) aj aH))))
 (ai (bq (aL bR (pv 2) aU (aQ _))
 (az (aM (dA wY T.pV hr (bo 0 (bo 1 aj)))))
 aS)
 (az (aM (dQ ql (pv 2) (aT (eB (vs:=[.str "put",.str "if",.str "while",.str "stop"]) (by kernel_rfl))) rfl))))),rfl,?_⟩
 obtain⟨va,rm,vd⟩:=id rS;refine av fun U1 fi=>?_;walk_at "rd";refine aA rm (v:=.int row) (aq (j:=0) rfl) ?_;rcases si.ok.row with h0 |⟨i,hi,er⟩
 ·replace h0:row=0:=h0;subst h0;refine⟨ch,pr,0,rfl,co,dr.ok.pw,.inl ⟨rfl,(fi _ _).mpr (av fun U2 iw=>?_)⟩⟩;walk_at "rd";refine(if_neg (by decide +kernel)).mpr ((iw _ _).mpr ?_);walk_at "rd";intro p hp;refine⟨p,_,rfl,.inr (.of ao),rfl,rfl,?_⟩;have:=q _ (aw.new hp (.tup [V.str (ZJ "put"),V.str (ZJ "if"),V.str (ZJ "while"),V.str (ZJ "stop")]));unfold jZ at this;rw[if_pos rfl] at this;rw[show (L4 (V.str (ZJ "end")) [V.str (ZJ "put"),V.str (ZJ "if"),V.str (ZJ "while"),V.str (ZJ "stop")])=false by decide +kernel];exact this
 replace er:(PG.ay pr.body)[i].row=row:=er;subst er;have F8:(PG.ay pr.body)[i].row≠0:=by have:=dr.ok.pos _ (ZT hi);lia
 obtain⟨hf,ek,ew⟩:=gA pr.body i hi;obtain⟨po,so⟩:=tF si.ok.len dr.ok.nb si.ok.small (PG.gu pr.body _ dr.own (ZT hi));rw[F7 dr hi hf] at q;refine⟨ch,pr,_,rfl,co,dr.ok.pw,.inr ⟨F8,i,hi,rfl,(fi _ _).mpr (av fun U2 iw=>?_)⟩⟩;clear fi;walk_at "rd";refine fR (fun e=>?_) (fun e=>(iw _ _).mpr ?_)
 ·have e:=(JJ _).mp e;obtain⟨sg,l,r,cp,tl,tr,es⟩:=cond_of (.inl e) po;refine⟨ch,sa,pr,vals,i,hi,sg,l,r,rfl,co,dr.ok,rS,si.ok.len,cp,tl,tr,fun H' s'=>?_⟩;rw[if_neg (by rw[e];decide),es] at q;have:=q H' s';unfold cL at this;simp only[cp] at this;cases hc:fS sg (wv pr.ar vals l) (wv pr.ar vals r) with
  |true=>rw[hc,if_pos rfl] at this;exact this
  |false=>rw[hc,if_neg ZM,if_pos e] at this;exact this
 ·have e:(PG.ay pr.body)[i].wd≠.bO:=fun z=>e ((JJ _).mpr z);walk_at "rd";intro p hp;refine⟨p,_,rfl,.inr (.of ao),rfl,rfl,?_⟩;have:=q _ (aw.new hp (.tup [V.str (ZJ "put"),V.str (ZJ "if"),V.str (ZJ "while"),V.str (ZJ "stop")]));rw[Of];have eo:(if (PG.ay pr.body)[i].wd=.ask then some (Sn.ask ((PG.ay pr.body)[i].row,vals)) else match gn pr.ar (PG.ay pr.body)[i] (PG.aI pr.body 0)[i].2.2 vals 0 with
   |(none,_)=>some Sn.bO
   |(some y,some n)=>some (.say n y)
   |(some _,none)=>none).isNone=decide ((PG.ay pr.body)[i].wd=.put\/(PG.ay pr.body)[i].wd=.ifs\/(PG.ay pr.body)[i].wd=.fZ\/(PG.ay pr.body)[i].wd=.stop):=by
   generalize (PG.ay pr.body)[i]=sm at *;cases sm with
   |ask=>rfl
   |put=>rfl
   |say=>rfl
   |bO=>exact absurd rfl e
   |stop=>rfl
   |ifs k sg l r a b=>
    simp only[gn,cL,jx,PG.aW.wd];cases fS sg (wv pr.ar vals l) (wv pr.ar vals r)<;>rfl
   |fZ k sg l r a=>
    simp only[gn,cL,jx,PG.aW.wd];cases fS sg (wv pr.ar vals l) (wv pr.ar vals r)<;>rfl
  rw[<- eo];exact this
theorem AB(T:Tx K mg t):bw P w K mg base eM 7 t.j6 t.kT ["chart", "standing"] (FE K t.aN):=by
 have j8:=nV (P:=P) (w:=w) (base:=base) T;have qT:=ud (P:=P) (w:=w) (base:=base) T;refine T.mB.F.j9 tU (fun vs H Q E h=>?_) (fun fq A outer s H vs Q E hr h=>?_)
 ·obtain⟨_,_,_,_,_,rfl,_⟩:=h;rfl
 obtain⟨ch,sa,pr,⟨row,vals⟩,x,rfl,co,dr,rS,si,ob,q⟩:=h;have nd:=tU.nd;refine⟨_,[some (.ref ch),some (.ref sa),none,none],(ai (eV 2 nd (dA j8 T.i9 hr (bo 0 (ae (ax aC (pv 1) ag ah) aj aH))))
 (ai (bq (aL bR (pv 2) aU (aQ _))
 (az (aM (aT (ae (aT (ae aU aj aB)) (bo 1 aj) eI))))
 aS)
 (ai (bq (aL bR (pv 2) aU (aQ _))
 (ai (eV 3 nd (dA qT T.j7 hr (bo 0 (bo 1 (ae eQ aj aB)))))
 (az (aM (aT (ae (aT (ae aU (ae (ax aC (pv 3) ag ah) aj aH) aB)) (ae (ax aC (pv 3) ag ah) aj aH) eI)))))
 aS)
 (az (aM (aT (ae (aT (bo 2 aj)) (ae eQ aj aB) eI))))))),rfl,?_⟩
 obtain⟨va,rm,vd⟩:=id rS;refine av fun U1 fi=>?_;walk_at "rd";refine aA rm (v:=.int row) (aq (j:=0) rfl) ?_;rcases si.ok.row with h0 |⟨i,hi,er⟩
 ·replace h0:row=0:=h0;subst h0;have ex:x=.fin:=by
   unfold jZ at ob;rw[if_pos rfl] at ob;cases ob;rfl
  subst ex;refine⟨ch,pr,0,rfl,co,dr.ok.pw,.inl ⟨rfl,(fi _ _).mpr (av fun U2 iw=>?_)⟩⟩;walk_at "rd";refine(if_neg (by decide +kernel)).mpr ((iw _ _).mpr (av fun U3 jO=>?_));walk_at "rd";refine(if_neg (by decide +kernel)).mpr ((jO _ _).mpr ?_);walk_at "rd";intro p hp p2 qe;have s1:=aw.new hp (.tup [V.str (ZJ "end")]);have s2:=aw.new qe (.tup [V.ref p,V.b4]);refine q _ _ (s1.trans s2) (Rep.aK.mpr ⟨p2,_,rfl,.of ao,.cons (Rep.aK.mpr ⟨p,_,rfl,.of (s2 _ _ ao),.cons (Rep.bf.mpr rfl) .nil⟩) (.cons (Rep.gS.mpr rfl) .nil)⟩)
 replace er:(PG.ay pr.body)[i].row=row:=er;subst er;have F8:(PG.ay pr.body)[i].row≠0:=by have:=dr.ok.pos _ (ZT hi);lia
 obtain⟨hf,ek,ew⟩:=gA pr.body i hi;obtain⟨w0,w1⟩:=PG.fV pr.body 0 _ (ZT hf);rw[ew] at w1;obtain⟨po,so⟩:=tF si.ok.len dr.ok.nb si.ok.small (PG.gu pr.body _ dr.own (ZT hi));have bp:∀b∈pr.ar,0<b.size:=fun b hb=>by have:=dr.size b hb;lia
 rw[F7 dr hi hf] at ob;refine⟨ch,pr,_,rfl,co,dr.ok.pw,.inr ⟨F8,i,hi,rfl,(fi _ _).mpr (av fun U2 iw=>?_)⟩⟩;clear fi;walk_at "rd";refine fR (fun e=>?_) (fun e=>(iw _ _).mpr (av fun U3 jO=>?_))
 ·have e:=(Ax _).mp e;rw[if_pos e] at ob;cases ob;intro p hp p2 qe;have s1:=aw.new hp (.tup [V.str (ZJ "ask")]);have s2:=aw.new qe (.tup [V.ref p,V.ref sa]);exact q _ _ (s1.trans s2) (Rep.aK.mpr ⟨p2,_,rfl,.of ao,.cons (Rep.aK.mpr ⟨p,_,rfl,.of (s2 _ _ ao),.cons (Rep.bf.mpr rfl) .nil⟩) (.cons (oW (rS.mono (s1.trans s2))) .nil)⟩)
 clear iw;have e:(PG.ay pr.body)[i].wd≠.ask:=fun z=>e ((Ax _).mpr z);rw[if_neg e] at ob;walk_at "rd";refine fR (fun e2=>?_) (fun e2=>(jO _ _).mpr ?_)
 ·have e2:=(FV _).mp e2;obtain⟨k,ee,es⟩:=Ay e2;refine⟨ch,sa,.b4,pr,vals,0,i,hi,hf,rfl,co,dr.ok,bp,rS,si.ok.len,fun z=>absurd z e,po,w0,w1,fun q1 sv H2 s2 k1 o1=>?_⟩;rw[es] at ob k1 o1;simp only[gn] at ob k1 o1;cases ob;obtain⟨ya,rfl,JK⟩:=o1;refine aA k1 (aq (j:=1) rfl) fun p hp=>?_;have s3:=aw.new hp (.tup [V.str (ZJ "say"),V.int (wv pr.ar vals ee)]);refine aA (s3.bB k1) (aq (j:=0) rfl) fun p2 qe=>?_;have s4:=aw.new qe (.tup [V.ref p,V.ref ya]);exact q _ _ (s2.trans (s3.trans s4)) (Rep.aK.mpr ⟨p2,_,rfl,.of ao,.cons (Rep.aK.mpr ⟨p,_,rfl,.of (s4 _ _ ao),.cons (Rep.bf.mpr rfl) (.cons (Rep.ba.mpr rfl) .nil)⟩) (.cons (oW (JK.mono (s3.trans s4))) .nil)⟩)
 ·have e2:(PG.ay pr.body)[i].wd≠.say:=fun z=>e2 ((FV _).mpr z);have em:(PG.ay pr.body)[i].wd=.bO/\x=.bO:=by
   generalize (PG.ay pr.body)[i]=sm at *;cases sm with
   |ask=>exact absurd rfl e
   |put=>cases ob
   |say=>exact absurd rfl e2
   |bO k sg l r=>
    refine⟨rfl,?_⟩;simp only[gn,cL,jx,PG.aW.wd] at ob;cases hc:fS sg (wv pr.ar vals l) (wv pr.ar vals r)<;>rw[hc] at ob<;>cases ob
    rfl
   |stop=>cases ob
   |ifs k sg l r a b=>
    simp only[gn,cL,jx,PG.aW.wd] at ob;cases hc:fS sg (wv pr.ar vals l) (wv pr.ar vals r)<;>rw[hc] at ob<;>cases ob
   |fZ k sg l r a=>
    simp only[gn,cL,jx,PG.aW.wd] at ob;cases hc:fS sg (wv pr.ar vals l) (wv pr.ar vals r)<;>rw[hc] at ob<;>cases ob
  obtain⟨em,rfl⟩:=em;rw[em];walk_at "rd";intro p hp p2 qe;have s1:=aw.new hp (.tup [V.str (jH .bO)]);have s2:=aw.new qe (.tup [V.ref p,V.b4]);exact q _ _ (s1.trans s2) (Rep.aK.mpr ⟨p2,_,rfl,.of ao,.cons (Rep.aK.mpr ⟨p,_,rfl,.of (s2 _ _ ao),.cons (Rep.bf.mpr rfl) .nil⟩) (.cons (Rep.gS.mpr rfl) .nil)⟩)
theorem uS(T:Tx K mg t)(b7:bw P w K mg base eM 1 t.cK t.cD ["body", "behind"] (mq K))(cx:bw P w K mg base eM 6 t.bJ t.bL ["body"] (kC K 4))(tY:bw P w K mg base eM 7 t.l9 t.kP ["program"] (wm K)) :
 bw P w K mg base eM 10 t.cF t.jL ["self", "program"] (FF P w K t.aN t.bM):=by
 have w8:=uO (P:=P) (w:=w) (base:=base) T b7 cx tY;refine T.i3.j9 mV (fun vs H Q E h=>?_) (fun fq A outer s H vs Q E hr h=>?_)
 ·obtain⟨_,_,_,_,rfl,_⟩:=h;rfl
 obtain⟨wt,dx,v,pr,rfl,hw,JB,rp,dr,q⟩:=h;have nd:=mV.nd;refine⟨_,[some (.ref wt),some v],(ai (nG (pv 0) (A3 T.tV w8 (hr.mono (by first|decide|omega)) rfl T.FN T.wO .nil A8 (bo 1 aj)) rfl)
 (az (nG (pv 0) (ym (J:=qf)) rfl))),rfl,?_⟩
 refine av fun U1 fi=>?_;walk_at "rd";intro x RM hx RN ne;have s1:aw H (upd (upd H RM (.own x)) x (.ins t.aN RM [])):=(aw.new RN _).trans (aw.new (by rw[aR ne.symm];exact hx) _);have UH:wt≠x:=au hw hx;refine⟨x,RM,v,pr,rfl,ao,by rw[aR ne];exact ao,rp.mono s1,dr.dep,dr.vy,dr.ok.pw,dr.ok.nb,dr.ok.vy,fun H2 u2 co=>⟨rfl,?_⟩⟩;have s2:aw H H2:=((bh.of s1).trans u2).same hx;have Pp:=s2 _ _ hw;refine⟨wt,_,dx,_,rfl,Pp,T.fK,T.dN,by decide,(fi _ _).mpr ?_⟩;clear fi;have u3:bh wt H2 (upd H2 wt (.ins t.bM dx (fY (ZJ "chart") (V.ref x) []))):=(bh.refl _ _).put _;have UI:(upd H2 wt (.ins t.bM dx (fY (ZJ "chart") (V.ref x) []))) wt=_:=ao;have XS:=co.ins Pp UH.symm u3;generalize upd H2 wt (.ins t.bM dx (fY (ZJ "chart") (V.ref x) []))=H3 at *;walk_at "rd";intro D hD yD;have d4:=Fc (J:=qf) (P:=P) (w:=w) (K:=K) (H:=H3) yD;have s4:=aw.new hD (.ext (jh qf P w D []));have RO:=s4 _ _ UI;have XT:=XS.mono s4;have XU:D≠wt:=(au UI hD).symm;have uH:bh wt H (upd H3 D (.ext (jh qf P w D []))):=(bh.of s2).trans (u3.trans (bh.of s4));have XW:H D=none:=by
  cases y:H D with
  |none=>rfl
  |some o=>have:=((bh.of s2).trans u3) D o XU y;rw[hD] at this;cases this
 generalize upd H3 D (.ext (jh qf P w D []))=H4 at *;refine⟨wt,_,dx,_,rfl,RO,T.fK,T.cw,za7 (Bw (ZQ 0)) (by decide),?_⟩;have u5:bh wt H4 (upd H4 wt (.ins t.bM dx (fY (ZJ "sights") (V.ref D) (fY (ZJ "chart") (V.ref x) [])))):=(bh.refl _ _).put _;have UJ:dx≠wt:=bX JB hw (by intro z;cases z);refine q D _ (uH.trans u5) XW ⟨dx,x,by rw[ao];rfl,?_,XT.ins RO UH.symm u5,d4.ins RO u5⟩;exact u5 _ _ UJ (uH _ _ UJ JB)
theorem w9(T:Tx K mg t)(b7:bw P w K mg base eM 1 t.cK t.cD ["body", "behind"] (mq K))(cx:bw P w K mg base eM 6 t.bJ t.bL ["body"] (kC K 4))(tY:bw P w K mg base eM 7 t.l9 t.kP ["program"] (wm K))(oh:bw P w K mg base eM 8 t.a9 t.dF ["self", "standing"] (BH P w K t.aN t.bM)) :
 bw P w K mg base eM 12 t.hX t.iP ["program", "standing"] (As K):=by
 have xf:=uS (P:=P) (w:=w) (base:=base) T b7 cx tY;refine T.ip.F.j9 pK (fun vs H Q E h=>?_) (fun fq A outer s H vs Q E hr h=>?_)
 ·obtain⟨_,_,_,_,rfl,_⟩:=h;rfl
 obtain⟨v,sa,pr,s0,rfl,rp,dr,rS,si,F9,q⟩:=h;have nd:=pK.nd;refine⟨_,[some v,some (.ref sa)],(az (aM (GX (A3 T.tW xf (hr.mono (by first|decide|omega)) rfl T.FO T.wQ .nil A8 (bo 0 aj)) T.fK T.nT oh (hr.mono (by first|decide|omega)) T.nR .nil A8 (bo 1 aj)))),rfl,?_⟩;walk_at "rd";intro p dx hp JB ne;have s1:aw H (upd (upd H dx (.own p)) p (.ins t.bM dx [])):=(aw.new JB _).trans (aw.new (by rw[aR ne.symm];exact hp) _);refine⟨p,dx,v,pr,rfl,ao,by rw[aR ne];exact ao,rp.mono s1,dr,fun sg H2 u2 Nx wo=>⟨rfl,?_⟩⟩;have s2:aw H H2:=((bh.of s1).trans u2).same hp;obtain⟨Og,ch,Pp,_⟩:=id wo;have RQ:H sg=none:=s1.free Nx;exact⟨p,Og,_,rfl,Pp,rfl,p,sg,sa,pr,s0,rfl,wo,dr,rS.mono s2,si,F9,fun v H3 u3 r3=>q v H3 (fun b o e=>u3 b o (au e RQ) (s2 b o e)) r3⟩
theorem mH(T:Tx K mg t):bw P w K mg base eM 8 t.a9 t.dF ["self", "standing"] (BH P w K t.aN t.bM):=by
 have yP:=w6 (P:=P) (w:=w) (base:=base) T;have C4:=AB (P:=P) (w:=w) (base:=base) T;have qT:=ud (P:=P) (w:=w) (base:=base) T;refine T.dW.j9 iF (fun vs H Q E h=>?_) (fun fq A outer s H vs Q E hr h=>?_)
 ·obtain⟨_,_,_,_,_,rfl,_⟩:=h;rfl
 obtain⟨wt,sg,sa,pr,s0,rfl,wo,dr,rS,si,F9,q⟩:=h;have nd:=iF.nd;have hu:=dX hr;obtain⟨dx,ch,hw,JB,co,UK⟩:=wo;refine⟨_,[some (.ref wt),some (.ref sa),none,none,none,none],(ai (eV 2 nd (ym (J:=qf)))
 (ai (eV 3 nd (pv 1))
 (ai (xK PassesOwn.never (PW.pt (pw_and (aL (vB (J:=qf) (Jw hr)) (pv 3) (eG (pv 0) rfl) rfl) (pw_and (aL (vB (J:=qf) (Jw hr)) (pv 3) (pv 2) rfl) (pw_and1 (nF (dA yP T.jB hr (ae (eG (pv 0) rfl) (bo 3 aj) sF)))))))
 (ai (tG (J:=qf) (Jw hr) (pv 2) (pv 3) AS rfl)
 (az (eV 3 nd (ax aC (dA qT T.j7 hr (ae (eG (pv 0) rfl) (bo 3 (ae eQ aj aB)) sF)) ag ah)))))
 (ai (bq (aL (Fd (J:=qf) (Jw hr)) (pv 3) (eG (pv 0) rfl) rfl)
 (az (eV 4 nd (Fe (J:=qf) (Jw hr) (eG (pv 0) rfl) (pv 3) iN)))
 (az (bq (aL (Fd (J:=qf) (Jw hr)) (pv 3) (pv 2) rfl)
 (az (eV 4 nd (aT (ae (aT (ae aU aj aB)) (ae eQ aj aB) eI))))
 (az (eV 4 nd (dA C4 T.mB hr (ae (eG (pv 0) rfl) (bo 3 aj) sF)))))))
 (ai (kg PassesOwn.never rfl (Fq (J:=qf) (pv 2)) (zt 5 nd)
 (az (tG (J:=qf) (Jw hr) (eG (pv 0) rfl) (pv 5) (pv 4) rfl)))
 (ai (tG (J:=qf) (Jw hr) (eG (pv 0) rfl) (pv 3) (pv 4) rfl)
 (az (aM (pv 4))))))))),rfl,?_⟩
 have line:zct=2 ^ 24:=rfl;refine av fun U1 fi=>?_;walk_at "rd";intro D hD yD;refine(fi _ _).mpr (av fun U2 iw=>?_);clear fi;have d1:=Fc (J:=qf) (P:=P) (w:=w) (K:=K) (H:=H) yD;have s1:=aw.new hD (.ext (jh qf P w D []));generalize upd H D (.ext (jh qf P w D []))=H1 at *;walk_at "rd";refine(iw _ _).mpr (av fun U3 jO=>?_);clear iw;obtain⟨φD,eD⟩:=d1.CJ;obtain⟨φg,eg⟩:=UK.CJ;have Pq:sg≠D:=au eg hD;have Pr:wt≠D:=au hw hD;have UL:wt≠sg:=bX hw eg (by intro z;cases z);have RR:=co.mono s1;have Oh:=UK.mono s1;have RT:=rS.mono s1;have RU:=s1 _ _ hw;have fin:∀(ha:zcl) (cur:PG.b3) (gone:List PG.b3) (Hx:Hp),bh D H1 Hx->DS qf P w K Hx D (o6 gone)->bZ K Hx ha cur.1 cur.2->gc pr cur->gone.length<=cM pr->xD pr (cM pr+1) [] s0=xD pr (cM pr+1-gone.length) gone cur->(cur∈gone\/∃x,jZ pr cur=some x)->U3 [some (.ref wt),some (.ref sa),some (.ref D),some (.ref ha),none,none] Hx:=by
  intro ha cur gone Hx ux dD stx six vy es hc;have Oi:DS qf P w K Hx sg []:=Oh.other eD Pq ux;have LG:=ux _ _ Pr RU;have Pt:=RR.ext eD ux;have kD:∀b o,H b=some o->Hx b=some o:=fun b o e=>ux b o (au e hD) (s1 b o e);refine(jO _ _).mpr (av fun U4 mX=>?_);clear jO;have keep:∀(v:V) (Hy:Hp),aw Hx Hy->Rep K Hy (uN (xD pr (cM pr+1) [] s0)) v->U4 [some (.ref wt),some (.ref sa),some (.ref D),some (.ref ha),some v,none] Hy:=by
   intro v Hy sy rv;have UM:=dD.mono sy;have XX:=Oi.mono sy;have XY:=sy _ _ LG;have JK:=stx.mono sy;have XZ:∀b o,H b=some o->Hy b=some o:=fun b o e=>sy _ _ (kD b o e);clear dD Oi LG Pt stx ux;refine(mX _ _).mpr (av fun U5 uc=>?_);clear mX;refine Fs fun U hU=>?_;simp only[Jx];walk_at "rd";refine⟨D,_,rfl,UM,fun o ps fz po=>hU _ _ ?_⟩;clear hU;obtain⟨φy,RV⟩:=UM.CJ;have uF:bh D Hy (upd Hy D (vG D o)):=(bh.refl _ _).put _;have RW:∀a xs,dq K Hy a xs->dq K (upd Hy D (vG D o)) a xs:=fun a xs h=>h.wC RV uF;have X0:(upd Hy D (vG D o)) D=some (vG D o):=ao;have X4:=wD RV uF _ _ rv;have Oj:=uF _ _ Pr XY;have UN:=XX.other RV Pq uF;have RX:bZ K (upd Hy D (vG D o)) ha cur.1 cur.2:=by
    obtain⟨va,k1,k2⟩:=JK;exact⟨va,RW _ _ k1,RW _ _ k2⟩
   have X5:∀b o',H b=some o'->(upd Hy D (vG D o)) b=some o':=fun b o' e=>uF _ _ (au e hD) (XZ b o' e);have C5:ps.length=gone.length:=by have:=Paired.length po;rw[o6,ZL] at this;exact this.symm
   have X6:∀i b w',ps[i]?=some (b,w')->∃k,qf.on K (upd Hy D (vG D o)) k b:=fun i b w' hi=>by
    obtain⟨kv,Pu,on,_⟩:=qC po hi;exact⟨_,qf.up RW on⟩
   generalize upd Hy D (vG D o)=Hz at *;obtain⟨φz,Px⟩:=UN.CJ;obtain⟨Pv,rT,jv⟩:=Ih fun (i:Nat) (σ:St) (Hw:Hp) zq=>∀(z:Option V) (kvs:List (wB×V)),σ=[some (.ref wt),some (.ref sa),some (.ref D),some (.ref ha),some v,z]->bh sg Hz Hw->DS qf P w K Hw sg kvs->kvs.length<=i->zq;refine Ig (d:=D) (o:=o) (ps:=ps) Pv (rT _ _ _ fun _ zk=>zk none [] rfl (.refl _ _) UN (ZQ _)) (fun i σ Hw _ hv=>?_) (fun i b w' σ Hw hi hv=>?_) (fun σ Hw hv=>?_)
   ·exact jv _ _ _ hv _ fun _ _ _ u _ _=>u _ _ Pq.symm X0
   ·refine jv _ _ _ hv _ fun z kvs ze uw dw lw=>?_;subst ze;clear hv;obtain⟨k,on⟩:=X6 i b w' hi;have li:=(ZR.mp hi).1;have X7:=qf.up (fun c ys q=>dq.wC q Px uw) on;simp only[eR,zaV];walk_at "rd";refine⟨wt,_,dx,_,.ref sg,rfl,uw _ _ UL Oj,T.fK,T.cw,rfl,sg,b,kvs,k,rfl,rfl,dw,X7,by lia,fun H4 d4 e4=>rT _ _ _ fun _ zk=>zk _ _ rfl ?_ d4 (Z5 (gZ _ _ _) (by lia))⟩;obtain⟨φ,rfl⟩:=e4;exact uw.put _
   ·refine jv _ _ _ hv _ fun z kvs ze uw dw lw=>?_;subst ze;clear hv;refine(uc _ _).mpr (av fun U6 wW=>?_);clear uc;walk_at "rd";have vd:bZ K Hw ha cur.1 cur.2:=by
     obtain⟨va,k1,k2⟩:=RX;exact⟨va,k1.wC Px uw,k2.wC Px uw⟩
    refine⟨wt,_,dx,_,.ref sg,rfl,uw _ _ UL Oj,T.fK,T.cw,rfl,sg,ha,kvs,lN cur,rfl,rfl,dw,vE vd,by lia,fun H4 d4 e4=>(wW _ _).mpr ?_⟩;clear wW;obtain⟨φ,rfl⟩:=e4;have u4:=uw.put (.ext φ);walk_at "rd";exact q v _ (fun b o' n e=>u4 b o' n (X5 b o' e)) (wD Px u4 _ _ X4)
  walk_at "rd";refine⟨wt,_,dx,_,.ref sg,rfl,LG,T.fK,T.cw,rfl,sg,ha,[],lN cur,rfl,rfl,Oi,vE stx,?_⟩;refine(if_neg ZM).mpr ?_;refine⟨D,ha,_,lN cur,rfl,rfl,dD,vE stx,?_⟩;rw[tH];obtain⟨n,en⟩:∃n,cM pr+1-gone.length=n+1:=⟨cM pr-gone.length,by lia⟩
  have e2:xD pr (n+1) gone cur=if cur∈gone then .round else match jZ pr cur with |some x=>x |none=>xD pr n (gone++[cur]) (yv pr cur):=rfl
  rw[en,e2] at es;by_cases rR:cur∈gone
  ·rw[if_pos rR] at es;rw[decide_eq_true rR];refine(if_pos rfl).mpr fun p hp p2 qe=>?_;have Ga:=aw.new hp (.tup [V.str (ZJ "round")]);have zx:=aw.new qe (.tup [V.ref p,V.b4]);refine keep _ _ (Ga.trans zx) ?_;rw[es];exact Rep.aK.mpr ⟨p2,_,rfl,.of ao,.cons (Rep.aK.mpr ⟨p,_,rfl,.of (zx _ _ ao),.cons (Rep.bf.mpr rfl) .nil⟩) (.cons (Rep.gS.mpr rfl) .nil)⟩
  ·rw[if_neg rR] at es;rw[decide_eq_false rR];obtain⟨x,hx⟩:=hc.resolve_left rR;simp only[hx] at es;refine(if_neg ZM).mpr ⟨wt,_,dx,_,.ref ch,rfl,LG,T.fK,T.dN,rfl,ch,ha,pr,cur,x,rfl,Pt,dr,stx,six,hx,fun v Hy sy rv=>keep v Hy sy ?_⟩;rw[es];exact rv
 refine E5 fun Bd JI=>?_;walk_at "rd";obtain⟨Iv,Ol,LH⟩:=Ih fun (m:Nat) (σ:St) (Hx:Hp) zq=>∀(ha:zcl) (cur:PG.b3) (gone:List PG.b3),σ=[some (.ref wt),some (.ref sa),some (.ref D),some (.ref ha),none,none]->bh D H1 Hx->DS qf P w K Hx D (o6 gone)->bZ K Hx ha cur.1 cur.2->gc pr cur->gone.Nodup->(∀x∈gone,gc pr x)->xD pr (cM pr+1) [] s0=xD pr (cM pr+1-gone.length) gone cur->m=cM pr-gone.length->zq;refine⟨Iv,⟨_,Ol _ _ _ fun _ zk=>zk sa s0 [] rfl (.refl _ _) d1 RT si zb6 (fun x h=>by cases h) rfl rfl⟩,?_⟩;intro m σ Hx hv;refine LH _ _ _ hv _ fun ha cur gone ze ux Og stx six Om Oq es em=>?_;subst ze em;clear hv;have vy:=o7 Om Oq;have Oi:DS qf P w K Hx sg []:=Oh.other eD Pq ux;have LG:=ux _ _ Pr RU;have Pt:=RR.ext eD ux;walk_at "rd";refine⟨wt,_,dx,_,.ref sg,rfl,LG,T.fK,T.cw,rfl,sg,ha,[],lN cur,rfl,rfl,Oi,vE stx,?_⟩;refine(if_pos rfl).mpr ?_;refine⟨D,ha,_,lN cur,rfl,rfl,Og,vE stx,?_⟩;rw[tH];by_cases rR:cur∈gone
 ·rw[decide_eq_true rR];exact fin ha cur gone Hx ux Og stx six vy es (.inl rR)
 rw[decide_eq_false rR];refine(if_pos rfl).mpr ⟨wt,_,dx,_,.ref ch,rfl,LG,T.fK,T.dN,rfl,ch,ha,pr,cur,rfl,Pt,dr,stx,six,fun H4 s4=>⟨_,rfl,?_⟩⟩;have UO:bh D H1 H4:=ux.trans (.of s4);have RY:=Og.mono s4;have LI:=stx.mono s4;cases ho:jZ pr cur with
 |some x=>exact(if_neg (by simp)).mpr (fin ha cur gone H4 UO RY LI six vy es (.inr ⟨x,ho⟩))
 |none=>
  have Ot:(gone++[cur]).Nodup:=zbk.mpr ⟨Om,by simp,fun a ha b hb=>by rw[ZU.mp hb];exact fun z=>rR (z▸ha)⟩;have in1:∀x∈gone++[cur],gc pr x:=fun x hx=>by
   rcases Z1.mp hx with hx |hx
   ·exact Oq x hx
   ·rw[ZU.mp hx];exact six
  have LJ:=o7 Ot in1;have l1:(gone++[cur]).length=gone.length+1:=by simp
  obtain⟨h0,GH,qd,Zs⟩:=yx ho;refine(if_pos rfl).mpr ⟨Iv (cM pr-(gone++[cur]).length),fun σ' H' h=>⟨_,by lia,h⟩,JI _ _ _ (av fun V1 yO=>?_)⟩;clear fin JI;walk_at "rd";refine⟨D,ha,_,lN cur,rfl,rfl,RY,vE LI,by rw[o6,ZL];lia,fun H6 d6 e6=>(yO _ _).mpr ?_⟩;clear yO;obtain⟨φ6,e6⟩:=e6;obtain⟨φ4,UP⟩:=RY.CJ;have RZ:bh D H4 H6:=by rw[e6];exact(bh.refl _ _).put _
  rw[CI rR] at d6;have R1:=UO.trans RZ;have X8:=R1 _ _ Pr RU;have X9:=RR.ext eD R1;have R3:bZ K H6 ha cur.1 cur.2:=by
   obtain⟨va,k1,k2⟩:=LI;exact⟨va,k1.wC UP RZ,k2.wC UP RZ⟩
  clear e6;obtain⟨row,vals⟩:=cur;obtain⟨i,hi,er⟩:=six.ok.row.resolve_left h0;replace er:(PG.ay pr.body)[i].row=row:=er;subst er;obtain⟨hf,ek,ew⟩:=gA pr.body i hi;obtain⟨w0,w1⟩:=PG.fV pr.body 0 _ (ZT hf);rw[ew] at w1;obtain⟨po,so⟩:=tF six.ok.len dr.ok.nb six.ok.small (PG.gu pr.body _ dr.own (ZT hi));have bp:∀b∈pr.ar,0<b.size:=fun b hb=>by have:=dr.size b hb;lia
  have ea:oX pr.body (PG.ay pr.body)[i].row=decide ((PG.ay pr.body)[i].wd=.ask):=by unfold oX;rw[oY dr.ok.pw i hi]
  have e:(PG.ay pr.body)[i].wd≠.ask:=fun z=>by
   rw[ea,decide_eq_true z] at GH;cases GH
  walk_at "rd";refine⟨wt,_,dx,_,.ref ch,rfl,X8,T.fK,T.dN,rfl,ch,ha,.b4,pr,vals,0,i,hi,hf,rfl,X9,dr.ok,bp,R3,six.ok.len,fun z=>absurd z e,po,w0,w1,fun q1 sv H7 s7 k1 o1=>?_⟩;rw[<- pf dr.ok hi hf] at k1 o1;refine aA k1 (v:=sv) (aq (j:=0) rfl) ?_;rw[qd] at o1;obtain⟨ya,rfl,JK⟩:=o1;refine Ol _ _ _ fun _ zk=>zk ya _ (gone++[((PG.ay pr.body)[i].row,vals)]) rfl (R1.trans (.of s7)) (d6.mono s7) JK (six.Ts dr ho) Ot in1 ?_ rfl;rw[es,show cM pr+1-gone.length=(cM pr+1-(gone++[((PG.ay pr.body)[i].row,vals)]).length)+1 by rw[l1];rw[l1] at LJ;lia,xD,if_neg rR];simp only[ho]
theorem Gb{bs:List PG.gf}(nb:(bs.map (·.name)).Nodup){b:W}(hb:b∈bs.map (·.name)):(bs.map fun b=>S b.name)[ck bs b]?=some (S b)/\∀m,m<ck bs b->(bs.map fun b=>S b.name)[m]?≠some (S b):=by
 obtain⟨hx,ex⟩:=hJ hb;refine⟨by rw[ZO,ZK hx];show some (S bs[ck bs b].name)=_;rw[ex],fun m hm e=>?_⟩;have lm:m<bs.length:=by lia
 rw[ZO,ZK lm] at e;have e:=oU.mp (zaf.inj e);have p1:=zbf.mp nb m (ck bs b) (by simpa using lm) (by simpa using hx) hm;rw[zaQ,zaQ] at p1;exact p1 (e.trans ex.symm)
theorem Ou(T:Tx K mg t){n:Nat}(dc:bw P w K mg base eM n t.dS t.eE ["e", "names", "values"] (Im K n)) :
 bw P w K mg base eM (n+1) t.dS t.eE ["e", "names", "values"] (Im K (n+1)):=by
 refine T.cH.F.j9 mS (fun vs H Q E h=>?_) (fun fq A outer s H vs Q E hr h=>?_)
 ·obtain⟨_,_,_,_,_,_,rfl,_⟩:=h;rfl
 obtain⟨v,N,va,bs,vals,tr,rfl,hv,hN,zv,lv,nb,AD,ok,ht,h6,q⟩:=h;have nd:=mS.nd;have hu:=dX hr;refine⟨_,[some v,some (.ref N),some (.ref va),none,none],(ai (bq (aL bR (ax aC (pv 0) ag ah) aU (aQ _))
 (az (aM (ax aC (pv 0) ag ah)))
 aS)
 (ai (bq (aL bR (ax aC (pv 0) ag ah) aU (aQ _))
 (az (aM (ax aC (pv 2) (oP zah zbP zbQ vA (pv 1) (ae (ax aC (pv 0) ag ah) aj aH)) fM)))
 aS)
 (ai (eV 3 nd (dA dc T.cH hr (ae (ax aC (pv 0) ag ah) (bo 1 (bo 2 aj)) aH)))
 (ai (eV 4 nd (dA dc T.cH hr (ae (ax aC (pv 0) ag ah) (bo 1 (bo 2 aj)) aH)))
 (ai (bq (aL bR (ax aC (pv 0) ag ah) aU (aQ _))
 (az (aM (a7 Bb (pv 3) (pv 4))))
 aS)
 (az (aM (a7 fQ (pv 3) (a7 lD (pv 4) (ax aF (bA (ae (MO Kl ag) (ae ag aj aB) Nn)) (bT eS rfl T.pX PyProof.Rows.Boot.«int» (ae (dQ bR (ax aC (pv 0) ag ah) aU (aQ _)) aj kz)) fM)))))))))),rfl,?_⟩
 have n1:¬("box":Str) = "number":=by decide +kernel
 cases tr with
 |num m=>
  unfold k5 at hv;simp only[Rep.aK,aG.aD,aG.bD,Rep.bf,Rep.ba] at hv;obtain⟨a,xs,rfl,hS,_,_,rfl,rfl,_,_,rfl,rfl,rfl⟩:=hv;walk_at "rd";refine aA hS rfl ⟨rfl,?_⟩;rw[if_pos rfl];exact aA hS rfl (q _ (aw.refl _))
 |box x=>
  unfold k5 at hv;simp only[Rep.aK,aG.aD,aG.bD,Rep.bf,Rep.ba] at hv;obtain⟨a,xs,rfl,hS,_,_,rfl,rfl,_,_,rfl,rfl,rfl⟩:=hv;have UQ:=AD x ok;obtain⟨hx,ex⟩:=hJ UQ;obtain⟨ni,nn⟩:=Gb nb UQ;have lj:ck bs x<vals.length:=by lia
  have gv:(vals.map V.int)[ck bs x]?=some (V.int vals[ck bs x]):=by rw[ZO,ZK lj];rfl
  have ew:wv bs vals (.box x)=vals[ck bs x]:=by
   have:=i7 bs (vals.map V.int) (by rw[ZL];exact lv) nb (ck bs x) hx _ gv;rw[ex] at this;unfold wv;rw[eJ,Al this]
  rw[ew] at q;walk_at "rd";refine aA hS rfl ⟨rfl,?_⟩;rw[if_neg (fun z=>n1 (V.str.inj z))];refine aA hS rfl ⟨rfl,?_⟩;rw[if_pos rfl];refine⟨.inl ⟨rfl,_,.of hN⟩,aA hS rfl ⟨N,bs.map fun b=>S b.name,S x,ck bs x,rfl,rfl,by rw[zax];exact hN,ni,nn,aA zv (aq gv) (q _ (aw.refl _))⟩⟩
 |bin o l r=>
  unfold k5 at hv;simp only[Rep.aK,aG.aD,aG.bD,Rep.bf,Rep.ba] at hv;obtain⟨a,xs,rfl,hS,_,_,rfl,rfl,vl,_,rfl,hl,vr,_,rfl,Rl,rfl⟩:=hv;obtain⟨ho,ol,or'⟩:=ok;have n2:¬S o = "number":=by rcases ho with rfl |rfl |rfl<;>decide +kernel
  have n3:¬S o = "box":=by rcases ho with rfl |rfl |rfl<;>decide +kernel
  have wl:=jU ol;have wr:=jU or';rw[PG.ju] at ht h6;walk_at "rd";refine aA hS rfl ⟨rfl,?_⟩;rw[if_neg (fun z=>n2 (V.str.inj z))];refine aA hS rfl ⟨rfl,?_⟩;rw[if_neg (fun z=>n3 (V.str.inj z))];refine aA hS rfl ⟨vl,N,va,bs,vals,l,rfl,hl,hN,zv,lv,nb,AD,ol,by lia,by lia,fun H1 s1=>?_⟩;refine aA (s1.bB hS) rfl ⟨vr,N,va,bs,vals,r,rfl,Rl.mono s1,s1 _ _ hN,s1.bB zv,lv,nb,AD,or',by lia,by lia,fun H2 s2=>?_⟩;have GD:=s1.trans s2;refine aA (GD.bB hS) rfl ⟨rfl,?_⟩;have q2:∀H',aw H2 H'->Q (.int (wv bs vals (.bin o l r))) H':=fun H' s'=>q H' (GD.trans s');have ew:wv bs vals (.bin o l r)=if o=[43] then wv bs vals l+wv bs vals r else if o=[45] then wv bs vals l-wv bs vals r else wv bs vals l*wv bs vals r:=by
   unfold wv;rw[eJ]
  rw[ew] at q2;have ll:(wv bs vals l).natAbs<2 ^ 4000:=wz wl (by lia);have lr:(wv bs vals r).natAbs<2 ^ 4000:=wz wr (by lia);rcases ho with rfl |rfl |rfl
  ·refine(if_neg (by decide +kernel)).mpr ⟨1,rfl,fun p hp=>?_⟩;have sp:=aw.new hp (.lst [V.int (-1),V.int 1]);refine aA (sp.bB (GD.bB hS)) rfl ⟨rfl,_,rfl,?_⟩;rw[show decide (V.str (S [43])=V.str (ZJ "+"))=true by decide +kernel];refine aO (.of ao) (aq (j:=1) rfl) ⟨_,_,rfl,rfl,mulR (by decide) (by decide),_,_,rfl,rfl,?_⟩;have:=q2 _ sp;rw[if_pos rfl] at this;simp only[zbX];exact this
  ·refine(if_neg (by decide +kernel)).mpr ⟨1,rfl,fun p hp=>?_⟩;have sp:=aw.new hp (.lst [V.int (-1),V.int 1]);refine aA (sp.bB (GD.bB hS)) rfl ⟨rfl,_,rfl,?_⟩;rw[show decide (V.str (S [45])=V.str (ZJ "+"))=false by decide +kernel];refine aO (.of ao) (aq (j:=0) rfl) ⟨_,_,rfl,rfl,mulR (by decide) (by decide),_,_,rfl,rfl,?_⟩;have:=q2 _ sp;rw[if_neg (by decide),if_pos rfl,Int.sub_eq_add_neg] at this;simp only[Int.mul_neg,zbX];exact this
  ·refine(if_pos (by decide +kernel)).mpr ⟨_,_,rfl,rfl,⟨ll,lr⟩,?_⟩;have:=q2 _ (aw.refl _);rw[if_neg (by decide),if_neg (by decide)] at this;exact this
theorem AE(T:Tx K mg t):∀n,bw P w K mg base eM n t.dS t.eE ["e", "names", "values"] (Im K n)
 |0=>by
  have no:∀vs H Q E,¬Im K 0 vs H Q E:=fun vs H Q E h=>by obtain⟨_,_,_,_,_,_,_,_,_,_,_,_,_,_,h,_⟩:=h;lia
  exact⟨fun vs H Q E h=>absurd h (no vs H Q E),fun A outer s H args us vs Q E _ _ _ _ h=>absurd h (no vs H Q E)⟩
 |n+1=>Ou T (AE T n)
theorem AF{H:Hp}{a:zcl}{kvs:List (Key×V)}{n:Int}{v:V}(e:H a=some (.dK kvs))(h:b5 kvs (.inl n)=some v):oQ H a (.int n) (some v):=by
 have:=oQ.k (k:=.inl n) e;rw[h] at this;exact this
theorem Gd{K:ZI}{H:Hp}{md:zcl}{pr:PG.Prog}(m:Il K H md pr)(dr:iO pr){i:Nat}(hi:i<(PG.ay pr.body).length)(hf:i<(PG.aI pr.body 0).length):∃(F N Z fa:zcl) (kvs:List (Key×V)) (p wl:zcl) (u:V),H md=some (.lst [.ref F,.ref N,.ref Z,.ref fa])/\H F=some (.dK kvs)/\b5 kvs (.inl (PG.ay pr.body)[i].row)=some (.ref p)/\dq K H p [u,.ref wl]/\Rep K H (du (PG.ay pr.body)[i]) u/\H wl=some (.lst ((PG.aI pr.body 0)[i].2.2.map V.int))/\H N=some (.lst (pr.ar.map fun b=>V.str (S b.name)))/\H Z=some (.lst (pr.ar.map fun b=>V.int b.size)):=by
 obtain⟨F,N,Z,fa,ps,h1,h2,h3,h4,h5,h6,h7⟩:=m.at_;obtain⟨p,u,wl,g1,g2,g3,g4⟩:=h4 i _ _ (ZK hi) (ZK hf);exact⟨F,N,Z,fa,_,p,wl,u,h1,h3,lL _ ps h2 dr.ok.pw i hi _ g1,g2,g3,g4,h5,h6⟩
theorem xg(T:Tx K mg t):bw P w K mg base eM 1 t.ig t.iU ["made", "standing"] (Io K):=by
 refine T.jD.F.j9 pQ (fun vs H Q E h=>?_) (fun fq A outer s H vs Q E hr h=>?_)
 ·obtain⟨_,_,_,_,rfl,_⟩:=h;rfl
 obtain⟨md,sa,pr,⟨row,vals⟩,rfl,m,dr,rS,si,q0,q1⟩:=h;have nd:=pQ.nd;have hu:=dX hr;refine⟨_,[some (.ref md),some (.ref sa)],(ai (bq (aL bR (ax aC (pv 1) ag ah) ag (aQ _))
 (az (aM aU))
 aS)
 (az (aM (ax aC (ax aC (fw hu (ax aF (pv 0) ag ah) (ax aC (pv 1) ag ah) (fun _ _=>rfl)) ag ah) ag ah)))),rfl,?_⟩
 obtain⟨va,rm,vd⟩:=id rS;refine av fun U1 fi=>?_;walk_at "rd";refine aA rm (v:=.int row) (aq (j:=0) rfl) ⟨rfl,?_⟩;rcases si.ok.row with h0 |⟨i,hi,er⟩
 ·replace h0:row=0:=h0;subst h0;exact(if_pos rfl).mpr (q0 rfl)
 replace er:(PG.ay pr.body)[i].row=row:=er;subst er;have F8:(PG.ay pr.body)[i].row≠0:=by have:=dr.ok.pos _ (ZT hi);lia
 obtain⟨hf,ek,ew⟩:=gA pr.body i hi;obtain⟨F,N,Z,fa,kvs,p,wl,u,h1,h2,h3,h4,h5,h6,h7,h8⟩:=Gd m dr hi hf;refine(if_neg (fun z=>F8 (V.int.inj z))).mpr ((fi _ _).mpr ?_);walk_at "rd";obtain⟨ta,ys,rfl,BU⟩:=x5 _ h5;exact aO (.of h1) (aq (j:=0) rfl) (aA rm (v:=.int (PG.ay pr.body)[i].row) (aq (j:=0) rfl) ⟨F,.ref p,rfl,AF h2 h3,aA h4 (aq (j:=0) rfl) (aA BU (aq (j:=0) rfl) (q1 i hi rfl))⟩)
theorem Ov{st:PG.aW}{sg:W}{l r:PM.Tr}{nm:W->Prop}{ex:PM.Tr->Prop}(h:PG.qt nm ex (·∈PG.zm) st)(c:jx st=some (sg,l,r)):sg=[60]\/sg=[61]:=by
 cases st<;>simp only[jx,zaf.injEq,Prod.mk.injEq,reduceCtorEq] at c<;>obtain⟨rfl,_⟩:=c<;>simpa[PG.zm] using h.1
theorem uT(T:Tx K mg t):bw P w K mg base eM 5 t.gG t.gW ["made", "standing"] (FG K):=by
 have dc:=AE (P:=P) (w:=w) (base:=base) T 3;refine T.iY.F.j9 mT (fun vs H Q E h=>?_) (fun fq A outer s H vs Q E hr h=>?_)
 ·obtain⟨_,_,_,_,_,_,_,_,_,rfl,_⟩:=h;rfl
 obtain⟨md,sa,pr,vals,i,hi,sg,l,r,rfl,m,dr,rS,si,cp,q⟩:=h;have nd:=mT.nd;have hu:=dX hr;refine⟨_,[some (.ref md),some (.ref sa),none,none],(ai (eV 2 nd (ax aC (fw hu (ax aF (pv 0) ag ah) (ax aC (pv 1) ag ah) (fun _ _=>rfl)) ag ah))
 (ai (eV 3 nd (a7 qh (dA dc T.cH hr (ae (ax aC (pv 2) ag ah) (ae (ax aF (pv 0) ag ah) (ae (ax aC (pv 1) ag ah) aj aH) aH) aH)) (dA dc T.cH hr (ae (ax aC (pv 2) ag ah) (ae (ax aF (pv 0) ag ah) (ae (ax aC (pv 1) ag ah) aj aH) aH) aH))))
 (az (aM (ax aF (bA (ae (dQ DD (pv 3) ag (aQ _)) (ae (dQ bR (pv 3) ag (aQ _)) aj kz) kz)) (bT eS rfl T.pX PyProof.Rows.Boot.«int» (ae (dQ bR (ax aC (pv 2) ag ah) aU (aQ _)) aj kz)) fM))))),rfl,?_⟩
 obtain⟨va,rm,vd⟩:=id rS;obtain⟨hf,ek,ew⟩:=gA pr.body i hi;obtain⟨F,N,Z,fa,kvs,p,wl,u,h1,h2,h3,h4,h5,h6,h7,h8⟩:=Gd m dr hi hf;have j9:=PG.gu pr.body _ dr.own (ZT hi);obtain⟨po,so⟩:=tF si.ok.len dr.ok.nb si.ok.small j9;have Nx:=Ov j9 cp;have AD:∀x,zr (bU pr.ar (vals.map V.int)) (.box x)->x∈pr.ar.map (·.name):=fun x ⟨_,e,_⟩=>FI e;have Mp:ye pr.ar vals l/\ye pr.ar vals r:=by
  obtain⟨Zt,l',r',UR,tl,tr,_⟩:=cond_of (st:=(PG.ay pr.body)[i]) (by
   generalize (PG.ay pr.body)[i]=sm at cp;cases sm<;>first |exact .inl rfl |exact .inr (.inl rfl) |exact .inr (.inr rfl) |cases cp) po
  rw[cp] at UR;cases UR;exact⟨tl,tr⟩
 obtain⟨ta,w0,vl,vr,ys,rfl,BU,rl,rr⟩:=tE h5 cp;refine av fun U1 fi=>?_;walk_at "rd";refine aO (.of h1) (aq (j:=0) rfl) (aA rm (v:=.int (PG.ay pr.body)[i].row) (aq (j:=0) rfl) ⟨F,.ref p,rfl,AF h2 h3,aA h4 (aq (j:=0) rfl) ((fi _ _).mpr (av fun U2 iw=>?_))⟩);clear fi;walk_at "rd";refine aA BU (aq (j:=4) rfl) (aO (.of h1) (aq (j:=1) rfl) (aA rm (v:=.ref va) (aq (j:=1) rfl) ⟨vr,N,va,pr.ar,vals,r,rfl,rr,h7,vd,si.ok.len,dr.ok.nb,AD,Mp.2.1,by have:=Mp.2.2;lia,Mp.2.2,fun H1 s1=>?_⟩));refine aA (s1.bB BU) (aq (j:=3) rfl) (aO (.of (s1 _ _ h1)) (aq (j:=1) rfl) (aA (s1.bB rm) (v:=.ref va) (aq (j:=1) rfl) ⟨vl,N,va,pr.ar,vals,l,rfl,rl.mono s1,s1 _ _ h7,s1.bB vd,si.ok.len,dr.ok.nb,AD,Mp.1.1,by have:=Mp.1.2;lia,Mp.1.2,fun H2 s2=>?_⟩));have GD:=s1.trans s2;refine⟨_,_,rfl,rfl,(iw _ _).mpr ?_⟩;clear iw;walk_at "rd";intro p2 qe;have sp:=aw.new qe (.lst [V.bl (decide (0<wv pr.ar vals r-wv pr.ar vals l)),V.bl (decide (wv pr.ar vals r-wv pr.ar vals l=0))]);have q2:=q _ (GD.trans sp);refine aA (sp.bB (GD.bB BU)) (aq (j:=2) rfl) ⟨rfl,_,rfl,?_⟩;rcases Nx with rfl |rfl
 ·rw[show decide (V.str (S [60])=V.str (ZJ "="))=false by decide +kernel];refine aO (.of ao) (aq (j:=0) rfl) ?_;rw[show fS [60] (wv pr.ar vals l) (wv pr.ar vals r)=decide (0<wv pr.ar vals r-wv pr.ar vals l) by
   unfold fS;rw[if_pos rfl];exact decide_eq_decide.mpr ⟨fun h=>by lia,fun h=>by lia⟩] at q2
  exact q2
 ·rw[show decide (V.str (S [61])=V.str (ZJ "="))=true by decide +kernel];refine aO (.of ao) (aq (j:=1) rfl) ?_;rw[show fS [61] (wv pr.ar vals l) (wv pr.ar vals r)=decide (wv pr.ar vals r-wv pr.ar vals l=0) by
   unfold fS;rw[if_neg (by decide)];exact decide_eq_decide.mpr ⟨fun h=>by lia,fun h=>by lia⟩] at q2
  exact q2
theorem Ow:∀w:PG.Wd,L4 (V.str (jH w)) [V.str (ZJ "ask"),V.str (ZJ "put")]=decide (w=.ask\/w=.put):=by
 intro w;cases w<;>decide +kernel
theorem LK:∀w:PG.Wd,(jH w=ZJ "stop")↔w=.stop:=by
 intro w;cases w<;>decide +kernel
theorem LL:∀w:PG.Wd,(jH w=ZJ "must")↔w=.bO:=by
 intro w;cases w<;>decide +kernel
theorem xh(T:Tx K mg t):bw P w K mg base eM 6 t.ij t.iV ["made", "standing", "figure"] (Ip K):=by
 have dc:=AE (P:=P) (w:=w) (base:=base) T 3;have xi:=uT (P:=P) (w:=w) (base:=base) T;refine T.jE.F.j9 pR (fun vs H Q E h=>?_) (fun fq A outer s H vs Q E hr h=>?_)
 ·obtain⟨_,_,_,_,rfl,_⟩:=h;rfl
 obtain⟨md,sa,pr,⟨row,vals⟩,rfl,m,dr,rS,si,h0,GH,q⟩:=h;have nd:=pR.nd;have hu:=dX hr;refine⟨_,[some (.ref md),some (.ref sa),some .b4,none,none,none,none,none],(ai (fP (fw hu (ax aF (pv 0) ag ah) (ax aC (pv 1) ag ah) (fun _ _=>rfl)) (zz rfl (gY (zt 3 nd) (gY (zt 4 nd) se))))
 (ai (eV 5 nd (bT oO rfl T.wU PyProof.Rows.Boot.«list» (ae (ax aC (pv 1) ag ah) aj aH)))
 (ai (bq (aL ql (ax aC (pv 3) ag ah) (bA (eB (vs:=[.str "ask",.str "put"]) (by kernel_rfl))) rfl)
 (ai (eV 6 nd (oP zah zbP zbQ vA (ax aF (pv 0) ag ah) (ae (ax aC (pv 3) ag ah) aj aH)))
 (ai (eV 7 nd (pv 2))
 (ai (bq (aL bR (ax aC (pv 3) ag ah) aU (aQ _))
 (az (eV 7 nd (dA dc T.cH hr (ae (ax aC (pv 3) ag ah) (ae (ax aF (pv 0) ag ah) (ae (ax aC (pv 1) ag ah) aj aH) aH) aH))))
 aS)
 (ai (fP (a7 gM (pv 7) (ax aF (ax aF (pv 0) ag ah) (pv 6) iN)) (iz (pv 5) (pv 6) set_list))
 (az (aM (bA (ae (aT (ae (ax aF (pv 4) ag ah) (ae (bT fI rfl T.i4 PyProof.Rows.Boot.«tuple» (bo 5 aj)) aj bC) aH)) (ae eQ aj aB) eI))))))))
 aS)
 (ai (bq (aL bR (ax aC (pv 3) ag ah) aU (aQ _))
 (az (aM (bA (ae (aT (ae (ax aF (pv 4) ag ah) (ae (ax aC (pv 1) ag ah) aj aH) aH)) (ae (dA dc T.cH hr (ae (ax aC (pv 3) ag ah) (ae (ax aF (pv 0) ag ah) (ae (ax aC (pv 1) ag ah) aj aH) aH) aH)) aj bC) eI))))
 aS)
 (ai (bq (PW.pt (pw_or (aL bR (ax aC (pv 3) ag ah) aU (aQ _)) (pw_or1 (nF (dA xi T.iY hr (bo 0 (bo 1 aj)))))))
 (az (aM (bA (ae (aT (ae (ax aF (pv 4) ag ah) (ae (ax aC (pv 1) ag ah) aj aH) aH)) (ae eQ aj aB) eI))))
 aS)
 (ai (bq (aL bR (ax aC (pv 3) ag ah) aU (aQ _))
 (az (aM (bA (eB (vs:=[.b4,.b4]) (by kernel_rfl)))))
 aS)
 (az (aM (bA (ae (aT (ae (ax aF (pv 4) ag ah) (ae (ax aC (pv 1) ag ah) aj aH) aH)) (ae eQ aj aB) eI)))))))))),rfl,?_⟩
 obtain⟨va,rm,vd⟩:=id rS;obtain⟨i,hi,er⟩:=si.ok.row.resolve_left h0;replace er:(PG.ay pr.body)[i].row=row:=er;subst er;obtain⟨hf,ek,ew⟩:=gA pr.body i hi;obtain⟨w0,w1⟩:=PG.fV pr.body 0 _ (ZT hf);rw[ew] at w1;obtain⟨F,N,Z,fa,kvs,p,wl,u,h1,h2,h3,h4,h5,h6,h7,h8⟩:=Gd m dr hi hf;have j9:=PG.gu pr.body _ dr.own (ZT hi);obtain⟨po,so⟩:=tF si.ok.len dr.ok.nb si.ok.small j9;have AD:∀x,zr (bU pr.ar (vals.map V.int)) (.box x)->x∈pr.ar.map (·.name):=fun x ⟨_,e,_⟩=>FI e;have bp:∀b∈pr.ar,0<b.size:=fun b hb=>by have:=dr.size b hb;lia
 have ea:oX pr.body (PG.ay pr.body)[i].row=decide ((PG.ay pr.body)[i].wd=.ask):=by unfold oX;rw[oY dr.ok.pw i hi]
 have na:(PG.ay pr.body)[i].wd≠.ask:=fun z=>by
  have GH:oX pr.body (PG.ay pr.body)[i].row=false:=GH;rw[ea,decide_eq_true z] at GH;cases GH
 simp only[pf dr.ok hi hf] at q;obtain⟨ta,ys,rfl,BU⟩:=x5 _ h5;have hv:gQ K H wl ((PG.aI pr.body 0)[i].2.2.map V.int):=.of h6;have JL:=si.ok.len;obtain⟨ws,Ya⟩:∃ws,(PG.aI pr.body 0)[i].2.2=ws:=⟨_,rfl⟩
 rw[Ya] at q h6 hv w0 w1;have i0:(ws.map V.int)[0]?=some (V.int (ws.getD 0 0)):=by
  rw[ZO,ZX,ZK w0];rfl
 refine av fun U1 fi=>?_;walk_at "rd";refine aO (.of h1) (aq (j:=0) rfl) (aA rm (v:=.int (PG.ay pr.body)[i].row) (aq (j:=0) rfl) ⟨F,.ref p,rfl,AF h2 h3,p,_,rfl,h4,rfl,_,_,rfl,_,_,rfl,rfl,(fi _ _).mpr (av fun U2 iw=>?_)⟩);clear fi;simp only[zaV];walk_at "rd";refine aA rm (v:=.ref va) (aq (j:=1) rfl) ⟨va,_,rfl,.inr vd,fun L hL=>(iw _ _).mpr (av fun U3 jO=>?_)⟩;clear iw;have sL:=aw.new hL (.lst (vals.map V.int));have yL:(upd H L (.lst (vals.map V.int))) L=_:=ao;have Yb:=rS.mono sL;have mm:=m.mono sL;generalize upd H L (.lst (vals.map V.int))=H1 at *;have way:∀(k:Int) (sd:V) (Hx:Hp) (pt:zcl),aw H Hx->Hx pt=none->(∀l sv H',aw H H'->H' l=some (.lst [sv,sd])->oV K H' (some (k,vals)) sv->Q (.ref l) H')->∀(l:zcl),(upd Hx pt (.tup [V.int k,V.ref va])) l=none->Q (.ref l) (upd (upd Hx pt (.tup [V.int k,V.ref va])) l (.lst [V.ref pt,sd])):=by
  intro k sd Hx pt sx Yc q l hl;have s1:=aw.new Yc (.tup [V.int k,V.ref va]);have s2:=aw.new hl (.lst [V.ref pt,sd]);exact q l (.ref pt) _ (sx.trans (s1.trans s2)) ao ⟨pt,rfl,va,.of (s2 _ _ ao),(sx.trans (s1.trans s2)).bB vd⟩
 have Ox:=sL.bB BU;walk_at "rd";refine aA Ox (aq (j:=0) rfl) fun pz Yd=>⟨pz,_,rfl,.inl (.of ao),rfl,rfl,_,rfl,?_⟩
 have sz:=aw.new Yd (.lst [V.str (ZJ "ask"),V.str (ZJ "put")]);have zy:=sL.trans sz;have Ye:=sz _ _ yL;generalize upd H1 pz (.lst [V.str (ZJ "ask"),V.str (ZJ "put")])=Hz at *;rw[Ow];by_cases hp:(PG.ay pr.body)[i].wd=.put
 ·refine(if_pos (decide_eq_true (.inr hp))).mpr ?_;obtain⟨k,b,tr,es⟩:=FW hp;rw[es] at h5 q po;obtain⟨_,u,ee,hT,ru⟩:=vL h5;cases ee;have R4:=zy.bB hT;obtain⟨hx,ex⟩:=hJ po.1;obtain⟨ni,nn⟩:=Gb dr.ok.nb po.1;have lj:ck pr.ar b<vals.length:=by lia
  have Yf:(pr.ar.map fun b=>V.int b.size)[ck pr.ar b]?=some (V.int (c0 pr.ar b)):=by
   unfold c0;rw[ZO,ZK hx];rfl
  have US:=zy _ _ h1;refine aO (.of US) (aq (j:=1) rfl) ⟨.inl ⟨rfl,_,.of (zy _ _ h7)⟩,aA R4 (aq (j:=2) rfl) ⟨N,pr.ar.map fun b=>S b.name,S b,ck pr.ar b,rfl,rfl,by rw[zax];exact zy _ _ h7,ni,nn,aA R4 (aq (j:=0) rfl) ⟨rfl,(if_pos rfl).mpr (aA R4 (aq (j:=3) rfl) (aO (.of US) (aq (j:=1) rfl) (aA (zy.bB rm) (v:=.ref va) (aq (j:=1) rfl) ⟨u,N,va,pr.ar,vals,tr,rfl,ru.mono zy,zy _ _ h7,zy.bB vd,JL,dr.ok.nb,AD,po.2.1,by have:=po.2.2;lia,po.2.2,fun H4 s4=>?_⟩)))⟩⟩⟩;have mG:=zy.trans s4;refine aO (.of (mG _ _ h1)) (aq (j:=2) rfl) (aO (.of (mG _ _ h8)) (aq Yf) ⟨_,_,rfl,rfl,qR bp b,L,_,ck pr.ar b,ck pr.ar b,rfl,rfl,s4 _ _ Ye,(by unfold GY;rw[ZL];simp;lia),?_⟩);rw[show ((vals.map V.int).set (ck pr.ar b) (V.int (wv pr.ar vals tr%c0 pr.ar b)))=(kG pr.ar vals b (wv pr.ar vals tr%c0 pr.ar b)).map V.int from by unfold kG;rw[zch]];have u5:bh L H4 (upd H4 L (.lst ((kG pr.ar vals b (wv pr.ar vals tr%c0 pr.ar b)).map V.int))):=(bh.refl _ _).put _;have y5:(upd H4 L (.lst ((kG pr.ar vals b (wv pr.ar vals tr%c0 pr.ar b)).map V.int))) L=_:=ao;have Oy:aw H (upd H4 L (.lst ((kG pr.ar vals b (wv pr.ar vals tr%c0 pr.ar b)).map V.int))):=fun z o e=>u5 z o (au e hL) (mG z o e);generalize upd H4 L (.lst ((kG pr.ar vals b (wv pr.ar vals tr%c0 pr.ar b)).map V.int))=H5 at *;refine aO (.of (Oy _ _ h6)) (aq i0) ⟨L,_,rfl,.inl ⟨.of y5,fun t1 Yg t2 Yh l3 Yi=>?_⟩⟩;have s6:=aw.new Yg (.tup ((kG pr.ar vals b (wv pr.ar vals tr%c0 pr.ar b)).map V.int));have s7:=aw.new Yh (.tup [V.int (ws.getD 0 0),V.ref t1]);have s8:=aw.new Yi (.lst [V.ref t2,V.b4]);exact q l3 (.ref t2) _ (Oy.trans (s6.trans (s7.trans s8))) ao ⟨t2,rfl,t1,.of (s8 _ _ ao),.of (s8 _ _ (s7 _ _ ao))⟩
 refine(if_neg (by rw[decide_eq_false (fun z=>z.elim na hp)];exact ZM)).mpr ((jO _ _).mpr (av fun U4 mX=>?_));clear jO;have R5:=sz.bB Ox;walk_at "rd";refine aA R5 (aq (j:=0) rfl) ⟨rfl,?_⟩;by_cases hs:(PG.ay pr.body)[i].wd=.say
 ·refine(if_pos (by rw[hs];rfl)).mpr ?_;obtain⟨k,e,es⟩:=Ay hs;rw[es] at h5 q po;obtain⟨_,u,ee,hT,ru⟩:=vM h5;cases ee;refine aO (.of (zy _ _ h6)) (aq i0) (aA (zy.bB rm) (v:=.ref va) (aq (j:=1) rfl) fun p4 F0=>?_);have s4:=aw.new F0 (.tup [V.int (ws.getD 0 0),V.ref va]);have y4:(upd Hz p4 (.tup [V.int (ws.getD 0 0),V.ref va])) p4=_:=ao;have mG:=zy.trans s4;generalize upd Hz p4 (.tup [V.int (ws.getD 0 0),V.ref va])=H4 at *;refine aA (mG.bB hT) (aq (j:=2) rfl) (aO (.of (mG _ _ h1)) (aq (j:=1) rfl) (aA (mG.bB rm) (v:=.ref va) (aq (j:=1) rfl) ⟨u,N,va,pr.ar,vals,e,rfl,ru.mono mG,mG _ _ h7,mG.bB vd,JL,dr.ok.nb,AD,po.1,by have:=po.2;lia,po.2,fun H5 s5 l6 Yj=>?_⟩));have s6:=aw.new Yj (.lst [V.ref p4,V.int (wv pr.ar vals e)]);exact q l6 (.ref p4) _ (mG.trans (s5.trans s6)) ao ⟨p4,rfl,va,.of ((s5.trans s6) _ _ y4),(mG.trans (s5.trans s6)).bB vd⟩
 refine(if_neg (fun z=>hs ((FV _).mp (V.str.inj z)))).mpr ((mX _ _).mpr (av fun U5 uc=>?_));clear mX;walk_at "rd";refine aA R5 (aq (j:=0) rfl) ⟨rfl,?_⟩;have R6:=zy.bB rm;by_cases ht:(PG.ay pr.body)[i].wd=.stop
 ·refine(if_pos (by rw[ht];rfl)).mpr ((if_pos trivial).mpr (aO (.of (zy _ _ h6)) (aq i0) (aA R6 (v:=.ref va) (aq (j:=1) rfl) fun p4 F0 l5 LM=>?_)));obtain⟨k,es⟩:∃k,(PG.ay pr.body)[i]=.stop k:=by
   generalize (PG.ay pr.body)[i]=sm at ht;cases sm<;>first |exact⟨_,rfl⟩ |cases ht
  rw[es] at q;exact way _ V.b4 Hz p4 zy F0 q l5 LM
 have UT:(PG.ay pr.body)[i].wd=.bO\/(PG.ay pr.body)[i].wd=.ifs\/(PG.ay pr.body)[i].wd=.fZ:=by
  generalize (PG.ay pr.body)[i]=sm at na hp hs ht;cases sm<;>first |exact absurd rfl na |exact absurd rfl hp |exact absurd rfl hs |exact absurd rfl ht |exact .inl rfl |exact .inr (.inl rfl) |exact .inr (.inr rfl)
 obtain⟨sg,l,r,cp,tl,tr,es⟩:=cond_of UT po;rw[es] at q;unfold cL at q;simp only[cp] at q;refine(if_neg (fun z=>ht ((LK _).mp (V.str.inj z)))).mpr ⟨md,sa,pr,vals,i,hi,sg,l,r,rfl,mm.mono sz,dr,Yb.mono sz,si,cp,fun H4 s4=>⟨_,rfl,?_⟩⟩;have mG:=zy.trans s4;cases zj:fS sg (wv pr.ar vals l) (wv pr.ar vals r) with
 |true=>
  rw[zj,if_pos rfl] at q;exact(if_pos rfl).mpr (aO (.of (mG _ _ h6)) (aq i0) (aA (mG.bB rm) (v:=.ref va) (aq (j:=1) rfl) fun p4 F0 l5 LM=>way _ V.b4 H4 p4 mG F0 q l5 LM))
 |false=>
  rw[zj,if_neg ZM] at q;refine(if_neg ZM).mpr ((uc _ _).mpr (av fun U6 wW=>?_));clear uc;walk_at "rd";refine aA (s4.bB R5) (aq (j:=0) rfl) ⟨rfl,?_⟩;by_cases hm:(PG.ay pr.body)[i].wd=.bO
  ·rw[if_pos hm] at q;refine(if_pos (by rw[hm];rfl)).mpr fun l5 LM=>?_;have s5:=aw.new LM (.lst [V.b4,V.b4]);exact q l5 .b4 _ (mG.trans s5) ao rfl
  ·rw[if_neg hm] at q;refine(if_neg (fun z=>hm ((LL _).mp (V.str.inj z)))).mpr ((wW _ _).mpr ?_);have Yk:=w1 (UT.resolve_left hm);have i1:(ws.map V.int)[1]?=some (V.int (ws.getD 1 0)):=by
    rw[ZO,ZX,ZK Yk];rfl
   walk_at "rd";exact aO (.of (mG _ _ h6)) (aq i1) (aA (mG.bB rm) (v:=.ref va) (aq (j:=1) rfl) fun p4 F0 l5 LM=>way _ V.b4 H4 p4 mG F0 q l5 LM)
theorem yQ:∀a b:List Int,PyData.eqvAll (Dp.ka (a.map Dp.int)) (Dp.ka (b.map Dp.int))=decide (a=b)
 |[],[]=>rfl
 |[],_::_=>rfl
 |_::_,[]=>rfl
 |x::r,y::t=>by
  rw[ZW,ZW,Dp.ka,Dp.ka,PyData.eqvAll,yQ r t];have:PyData.eqv (Dp.int x).py (Dp.int y).py=decide (x=y):=by simp[Dp.py,PyData.eqv];rfl
  rw[this];by_cases e:x=y
  ·by_cases e2:r=t
   ·simp[e,e2]
   ·simp[e,e2]
  ·simp[e]
theorem IK(a b:PG.b3):PyData.eqv (gB a).py (gB b).py=decide (a=b):=by
 obtain⟨a1,a2⟩:=a;obtain⟨b1,b2⟩:=b;have h1:PyData.eqv (Dp.int a1).py (Dp.int b1).py=decide (a1=b1):=by simp[Dp.py,PyData.eqv];rfl
 have h2:PyData.eqv (Dp.tup (a2.map Dp.int)).py (Dp.tup (b2.map Dp.int)).py=decide (a2=b2):=by rw[Dp.py,Dp.py,PyData.eqv];exact yQ a2 b2
 unfold gB;rw[Dp.py,Dp.py,PyData.eqv,Dp.ka,Dp.ka,Dp.ka,Dp.ka,Dp.ka,PyData.eqvAll,PyData.eqvAll,h1,h2];by_cases e:a1=b1
 ·by_cases e2:a2=b2
  ·simp[e,e2,PyData.eqvAll,Dp.ka]
  ·simp[e,e2]
 ·simp[e]
theorem IL(l:List PG.b3)(t:PG.b3):((Dp.ka (l.map gB)).any fun e=>PyData.eqv e (gB t).py)=decide (t∈l):=by
 induction l with
 |nil=>rfl
 |cons a r ih=>
  rw[ZW,Dp.ka,zbe,ih,IK];by_cases e:a=t
  ·simp[e]
  ·simp[e,Ne.symm e]
theorem xj(T:Tx K mg t):bw P w K mg base eM 7 t.ik t.iW ["made", "standing"] (Iq K):=by
 have yS:=xg (P:=P) (w:=w) (base:=base) T;have yT:=xh (P:=P) (w:=w) (base:=base) T;refine T.iu.F.j9 pS (fun vs H Q E h=>?_) (fun fq A outer s H vs Q E hr h=>?_)
 ·obtain⟨_,_,_,_,rfl,_⟩:=h;rfl
 obtain⟨md,sa,pr,s0,rfl,mm,dr,rS,si,F9,q⟩:=h;have nd:=pS.nd;have hu:=dX hr;refine⟨_,[some (.ref md),some (.ref sa),none,none,none,none],(ai (eV 2 nd (bA aj))
 (ai (xK PassesOwn.never (aL (CQ (EB hr)) (pv 1) (pv 2) rfl)
 (ai (gR (oP zah zaN zaO i6 (pv 2) (bo 1 aj)))
 (ai (eV 3 nd (dA yS T.jD hr (bo 0 (bo 1 aj))))
 (ai (bq (aL bR (pv 3) aU (aQ _))
 (az (aM (aT (ae (aT (ae aU aj aB)) (ae eQ aj aB) eI))))
 aS)
 (ai (bq (aL bR (pv 3) aU (aQ _))
 (az (aM (aT (ae (aT (ae aU aj aB)) (bo 1 aj) eI))))
 aS)
 (ai (fP (dA yT T.jE hr (bo 0 (bo 1 (ae eQ aj aB)))) (KW rfl (gY (zt 4 nd) (gY (zt 5 nd) se))))
 (ai (bq (aL Km (pv 4) eQ (aQ _))
 (az (aM (aT (ae (aT (ae aU aj aB)) (ae eQ aj aB) eI))))
 aS)
 (ai (bq (aL GS (pv 5) eQ (aQ _))
 (az (aM (aT (ae (aT (ae aU (bo 5 aj) aB)) (bo 4 aj) eI))))
 aS)
 (az (eV 1 nd (pv 4)))))))))))
 (az (aM (aT (ae (aT (ae aU aj aB)) (ae eQ aj aB) eI)))))),rfl,?_⟩
 have line:zct=2 ^ 24:=rfl;refine av fun U1 fi=>?_;walk_at "rd";intro Gl hG;refine(fi _ _).mpr (av fun U2 iw=>?_);clear fi;have s1:=aw.new hG (.lst []);have y1:(upd H Gl (.lst [])) Gl=some (.lst []):=ao;generalize upd H Gl (.lst [])=H1 at *;refine E5 fun Bd JI=>?_;walk_at "rd";obtain⟨Iv,Ol,LH⟩:=Ih fun (m:Nat) (σ:St) (Hx:Hp) zq=>∀(ha:zcl) (cur:PG.b3) (gone:List PG.b3) (us:List V) (z3 z4 z5:Option V),σ=[some (.ref md),some (.ref ha),some (.ref Gl),z3,z4,z5]->aw H Hx->Hx Gl=some (.lst us)->vF K Hx gone us->bZ K Hx ha cur.1 cur.2->gc pr cur->gone.Nodup->(∀x∈gone,gc pr x)->xD pr (cM pr+1) [] s0=xD pr (cM pr+1-gone.length) gone cur->m=cM pr+1-gone.length->zq;refine⟨Iv,⟨_,Ol _ _ _ fun _ zk=>zk sa s0 [] [] _ _ _ rfl s1 y1 .nil (rS.mono s1) si zb6 (fun x h=>by cases h) rfl rfl⟩,?_⟩;intro m σ Hx hv;refine LH _ _ _ hv _ fun ha cur gone us z3 z4 z5 ze sx yG R7 stx six Om Oq es em=>?_;subst ze em;clear hv;have vy:=o7 Om Oq;obtain⟨n,en⟩:∃n,cM pr+1-gone.length=n+1:=⟨cM pr-gone.length,by lia⟩
 have e2:xD pr (n+1) gone cur=if cur∈gone then .round else match jZ pr cur with |some x=>x |none=>xD pr n (gone++[cur]) (yv pr cur):=rfl
 rw[en,e2] at es;have rG:Rep K Hx (.lst (gone.map gB)) (.ref Gl):=Rep.bH.mpr ⟨Gl,us,rfl,.of yG,tI R7⟩;have rC:Rep K Hx (gB cur) (.ref ha):=oW stx;have cC:=(sI [cur])
 have R8:(gB cur).py.canLay0=true/\(gB cur).py.depth<=2:=by
  obtain⟨h1,h2⟩:=cC;rw[ZW,zaD,Dp.ka,Dp.ka] at h1 h2;simp only[PyData.canLayAll0,PyData.depthAll,zbE] at h1 h2;exact⟨h1,by lia⟩
 have IE:us.length=gone.length:=by have:=(tI R7).length;rw[ZL] at this;exact this
 walk_at "rd";refine⟨_,_,rC,rG,R8.1,(sI gone).1,by have:=R8.2;lia,?_⟩;rw[IL];by_cases rR:cur∈gone
 ·rw[if_pos rR] at es;rw[decide_eq_true rR];refine⟨_,rfl,(if_neg (by decide)).mpr ((iw _ _).mpr ?_)⟩;walk_at "rd";intro p hp p2 qe;have Ga:=aw.new hp (.tup [V.str (ZJ "round")]);have zx:=aw.new qe (.tup [V.ref p,V.b4]);refine q _ _ (sx.trans (Ga.trans zx)) ?_;rw[es];exact Rep.aK.mpr ⟨p2,_,rfl,.of ao,.cons (Rep.aK.mpr ⟨p,_,rfl,.of (zx _ _ ao),.cons (Rep.bf.mpr rfl) .nil⟩) (.cons (Rep.gS.mpr rfl) .nil)⟩
 rw[if_neg rR] at es;rw[decide_eq_false rR];refine⟨_,rfl,(if_pos rfl).mpr ⟨fun σ' H'=>∃m',m'<cM pr+1-gone.length/\Iv m' σ' H',fun σ' H' h=>h,JI _ _ _ (av fun V1 yO=>?_)⟩⟩;clear JI iw rG rC cC R8;walk_at "rd";refine⟨.inl ⟨rfl,_,.of yG⟩,Gl,us,.ref ha,rfl,rfl,yG,by lia,(yO _ _).mpr (av fun V2 Dl=>?_)⟩;clear yO;have u2:bh Gl Hx (upd Hx Gl (.lst (us++[.ref ha]))):=(bh.refl _ _).put _;have y2:(upd Hx Gl (.lst (us++[.ref ha]))) Gl=_:=ao;have s2:aw H (upd Hx Gl (.lst (us++[.ref ha]))):=fun z o e=>u2 z o (au e hG) (sx z o e);have IM:=stx.Tn yG u2;have R9:=yt (x:=cur) (Bz R7 fun _ _ _ h=>h.Tn yG u2) IM;generalize upd Hx Gl (.lst (us++[.ref ha]))=H2 at *;have UU:=mm.mono s2;have told:∀(w0:Str) (x:Sn),uN x=.tup [.tup [.str w0],.b4]->xD pr (cM pr+1) [] s0=x->∀Hy,aw H Hy->∀p,Hy p=none->∀p2,(upd Hy p (.tup [V.str w0])) p2=none->Q (.ref p2) (upd (upd Hy p (.tup [V.str w0])) p2 (.tup [V.ref p,V.b4])):=by
  intro w0 x ex e Hy sy p hp p2 qe;have Ga:=aw.new hp (.tup [V.str w0]);have zx:=aw.new qe (.tup [V.ref p,V.b4]);refine q _ _ (sy.trans (Ga.trans zx)) ?_;rw[e,ex];exact Rep.aK.mpr ⟨p2,_,rfl,.of ao,.cons (Rep.aK.mpr ⟨p,_,rfl,.of (zx _ _ ao),.cons (Rep.bf.mpr rfl) .nil⟩) (.cons (Rep.gS.mpr rfl) .nil)⟩
 walk_at "rd";refine⟨md,ha,pr,cur,rfl,UU,dr,IM,six,fun h0=>(Dl _ _).mpr ?_,fun i hi er=>(Dl _ _).mpr (av fun V3 Dm=>?_)⟩
 ·have eo:jZ pr cur=some .fin:=by unfold jZ;rw[if_pos h0]
  rw[eo] at es;refine av fun V3 Dm=>?_;walk_at "rd";exact(if_pos trivial).mpr (told "end" .fin rfl es H2 s2)
 clear Dl;have F8:cur.1≠0:=by rw[<- er];have:=dr.ok.pos _ (ZT hi);lia
 have Yl:¬jH (PG.ay pr.body)[i].wd=ZJ "end":=by
  generalize (PG.ay pr.body)[i]=sm;cases sm<;>(simp only[PG.aW.wd];decide +kernel)
 have ea:oX pr.body cur.1=decide ((PG.ay pr.body)[i].wd=.ask):=by rw[<- er];unfold oX;rw[oY dr.ok.pw i hi]
 walk_at "rd";refine(if_neg Yl).mpr ((Dm _ _).mpr (av fun V4 F6=>?_));clear Dm;walk_at "rd";refine fR (fun e=>fun p hp p2 qe=>?_) (fun e=>(F6 _ _).mpr (av fun V5 JG=>?_))
 ·have e:=(Ax _).mp e;have eo:jZ pr cur=some (.ask cur):=by unfold jZ;rw[if_neg F8,ea,if_pos (decide_eq_true e)]
  rw[eo] at es;have Ga:=aw.new hp (.tup [V.str (ZJ "ask")]);have zx:=aw.new qe (.tup [V.ref p,V.ref ha]);refine q _ _ (s2.trans (Ga.trans zx)) ?_;rw[es];exact Rep.aK.mpr ⟨p2,_,rfl,.of ao,.cons (Rep.aK.mpr ⟨p,_,rfl,.of (zx _ _ ao),.cons (Rep.bf.mpr rfl) .nil⟩) (.cons (oW (IM.mono (Ga.trans zx))) .nil)⟩
 clear F6;have GH:oX pr.body cur.1=false:=by rw[ea];exact decide_eq_false fun z=>e ((Ax _).mpr z)
 have eo:jZ pr cur=match jW pr cur.1 cur.2 0 with |(none,_)=>some Sn.bO |(some y,some n)=>some (.say n y) |(some _,none)=>none:=by
  unfold jZ;rw[if_neg F8,GH,if_neg ZM]
  try rfl
 walk_at "rd";refine⟨md,ha,pr,cur,rfl,UU,dr,IM,six,F8,GH,fun l sv H4 s4 y4 o4=>⟨l,_,rfl,.of y4,rfl,_,_,rfl,_,_,rfl,rfl,(JG _ _).mpr (av fun V6 JH=>?_)⟩⟩;clear JG;simp only[zaV];have mG:=s2.trans s4;rcases qd:jW pr cur.1 cur.2 0 with ⟨o,sd⟩
 rw[qd] at eo o4;cases o with
 |none=>
  rw[eo] at es;cases (show sv=.b4 from o4);walk_at "rd";exact(if_pos trivial).mpr (told "must" .bO rfl es H4 mG)
 |some y=>
  obtain⟨ya,rfl,JK⟩:=o4;walk_at "rd";refine(if_neg (by intro z;cases z)).mpr ((JH _ _).mpr (av fun V7 Pm=>?_));clear JH;cases sd with
  |some nn=>
   rw[eo] at es;walk_at "rd";refine fR (fun z=>by cases z) (fun _ p hp p2 qe=>?_);have Ga:=aw.new hp (.tup [V.str (ZJ "say"),V.int nn]);have zx:=aw.new qe (.tup [V.ref p,V.ref ya]);refine q _ _ (mG.trans (Ga.trans zx)) ?_;rw[es];exact Rep.aK.mpr ⟨p2,_,rfl,.of ao,.cons (Rep.aK.mpr ⟨p,_,rfl,.of (zx _ _ ao),.cons (Rep.bf.mpr rfl) (.cons (Rep.ba.mpr rfl) .nil)⟩) (.cons (oW (JK.mono (Ga.trans zx))) .nil)⟩
  |none=>
   rw[eo] at es;have Ot:(gone++[cur]).Nodup:=zbk.mpr ⟨Om,by simp,fun a ha b hb=>by rw[ZU.mp hb];exact fun z=>rR (z▸ha)⟩;have in1:∀x∈gone++[cur],gc pr x:=fun x hx=>by
    rcases Z1.mp hx with hx |hx
    ·exact Oq x hx
    ·rw[ZU.mp hx];exact six
   have LJ:=o7 Ot in1;have l1:(gone++[cur]).length=gone.length+1:=by simp
   have UW:yv pr cur=y:=by unfold yv;rw[qd];rfl
   walk_at "rd";refine fR (fun _=>(Pm _ _).mpr ?_) (fun z=>absurd rfl z);walk_at "rd";refine⟨_,?_,Ol _ _ _ fun _ zk=>zk ya y (gone++[cur]) _ _ _ _ rfl mG (s4 _ _ y2) (Bz R9 fun _ _ _ h=>h.mono s4) JK (by rw[<- UW];exact six.Ts dr eo) Ot in1 ?_ rfl⟩
   ·rw[l1] at LJ ⊢;lia
   ·rw[es,UW,show cM pr+1-(gone++[cur]).length=n by rw[l1];lia]
theorem IP(s:PG.aW):∃ds,du s=.tup (.str (jH s.wd) :: .int s.row::ds)/\(Dp.str (jH s.wd) :: .int s.row::ds).drop 5=(aE s).map (fun b=>Dp.lst (b.map du))/\ds.length<=6:=by
 cases s with
 |ask k b=>exact⟨_,rfl,rfl,by simp⟩
 |put k b e=>exact⟨_,rfl,rfl,by simp⟩
 |say k e=>exact⟨_,rfl,rfl,by simp⟩
 |bO k sg l r=>exact⟨_,rfl,rfl,by simp⟩
 |stop k=>exact⟨_,rfl,rfl,by simp⟩
 |ifs k sg l r a b=>exact⟨[.str (S sg),k5 l,k5 r,.lst (rP a),.lst (rP b)],rfl,by rw[dY,dY];rfl,by simp⟩
 |fZ k sg l r a=>exact⟨[.str (S sg),k5 l,k5 r,.lst (rP a)],rfl,by rw[dY];rfl,by simp⟩
theorem uj{K:ZI}{H:Hp}:∀(n:Nat) {ds:List Dp} {vs:List V},aG K H ds vs->aG K H (ds.drop n) (vs.drop n)
 |0,_,_,r=>r
 |n+1,[],vs,r=>by cases aG.bD.mp r;exact .nil
 |n+1,d::ds,vs,r=>by
  obtain⟨v,t,rfl,_,r2⟩:=aG.aD.mp r;exact uj n r2
theorem Ge{K:ZI}{H:Hp}(s:PG.aW){v:V}(r:Rep K H (du s) v):∃a ys,v=.ref a/\dq K H a (.str (jH s.wd) :: .int s.row::ys)/\ys.length<=6/\aG K H ((aE s).map fun b=>Dp.lst (b.map du)) ((V.str (jH s.wd) :: .int s.row::ys).drop 5):=by
 obtain⟨ds,e,ed,hl⟩:=IP s;rw[e] at r;obtain⟨a,full,rfl,hS,rf⟩:=Rep.aK.mp r;have rd:=uj 5 rf;rw[ed] at rd;obtain⟨v0,t0,rfl,r0,Ym⟩:=aG.aD.mp rf;obtain⟨v1,t1,rfl,r1,Yn⟩:=aG.aD.mp Ym;cases Rep.bf.mp r0;cases Rep.ba.mp r1;exact⟨a,t1,rfl,hS,by rw[Yn.length];exact hl,rd⟩
theorem Gf{s:PG.aW}{c:List PG.aW}{j:Nat}(h:(aE s)[j]?=some c):(PG.ay c).length<=(PG.cv s).length:=by
 cases s with
 |ask |put |say |bO |stop=>simp[aE] at h
 |ifs k sg l r a b=>
  have:c=a\/c=b:=by simpa[aE] using zaL h
  rw[PG.cv,ZN,ZP];rcases this with rfl |rfl<;>lia
 |fZ k sg l r a=>
  have:c=a:=by simpa[aE] using zaL h
  rw[PG.cv,ZN,this];lia
theorem Oz(xs:List V)(j:Nat):k4 xs (some (j:Int)) none=xs.drop j:=by
 unfold k4;rw[HT.oM,HT.sk];by_cases h:j<=xs.length
 ·rw[Nat.min_eq_left h,zaR (by rw[zaC];lia)]
 ·rw[Nat.min_eq_right (by lia),zbZ (by lia),zbZ (by lia),List.take_nil]
theorem uk{K:ZI}{H:Hp}:∀(n:Nat) {ds:List PG.aW} {vs:List V},aG K H (ds.map du) vs->aG K H ((ds.drop n).map du) (vs.drop n)
 |0,_,_,r=>r
 |n+1,[],vs,r=>by cases aG.bD.mp r;exact .nil
 |n+1,d::ds,vs,r=>by
  obtain⟨v,t,rfl,_,r2⟩:=aG.aD.mp r;exact uk n r2
theorem Gg{K:ZI}{H:Hp}(s:PG.aW){v:V}(r:Rep K H (du s) v):∃a ys,v=.ref a/\dq K H a (.str (jH s.wd) :: .int s.row::ys):=by
 cases s<;>(simp only[du,Rep.aK,aG.aD,Rep.bf,Rep.ba] at r;obtain⟨a,ys,rfl,hS,_,_,rfl,rfl,_,_,rfl,rfl,_⟩:=r;exact⟨a,_,rfl,hS⟩)
theorem qU{K:ZI}{a D:zcl}{xs:List V}{te:TE}{Q:VK}{r:St}{H:Hp}{ss:List PG.aW}(hS:gQ K H a xs)(rs:aG K H (ss.map du) xs)(hl:xs.length<=16000000)(hD:H D=none)
 (step:∀(p:zcl) (w0:V) (k:Int) (ys:List V) H2,dq K H2 p (w0 :: .int k::ys)->∀R:VK,R (.int k) H2->te (some (.ref p)::r) H2 R)
 (q:∀H2,aw H H2->H2 D=some (.lst ((ss.map (·.row)).map V.int))->Q (.ref D) H2):mL (B3 K a) D (eR 0) rO te Q (none::r) (upd H D (.lst [])):=by
 have lx:xs.length=ss.length:=by rw[rs.length,ZL]
 refine jg (fun i ys _=>ys=((ss.take i).map (·.row)).map V.int) hS hl hD (by simp) (fun i x ys H2 hx s2 h2 ly p2 R hR=>?_) (fun ys H2 s2 h2 p2=>q H2 s2 ?_)
 ·have li:i<ss.length:=by have:=(ZR.mp hx).1;lia
  obtain⟨v',zl,rv⟩:=rs.get (i:=i) (d:=du ss[i]) (by rw[ZO,ZK li];rfl);rw[hx] at zl;cases zl;obtain⟨p,zs,rfl,hp⟩:=Gg _ rv;refine step p _ _ _ H2 (s2.bB hp) R (hR _ _ (.refl _) ?_);show ys++[V.int ss[i].row]=((ss.take (i+1)).map (·.row)).map V.int;rw[p2,zb8,ZK li,Z8,Z8];rfl
 ·have p2:ys=((ss.take xs.length).map (·.row)).map V.int:=p2;rw[lx,za2] at p2;rw[<- p2];exact h2
theorem yU(ss:List PG.aW)(x:Int):((ss.map (·.row)).map V.int++[V.int x])[0]?=some (V.int (PG.aP ss x)):=by
 cases ss<;>rfl
theorem BV:∀ {b:List PG.aW} {s:PG.aW},s∈b->PG.k6 s<=PG.eT b
 |x::r,s,h=>by
  rw[PG.eT];rcases ZS.mp h with rfl |h
  ·exact Nat.le_max_left _ _
  ·exact Z5 (BV h) (Nat.le_max_right _ _)
theorem C6(b:List PG.aW)(x:Int):(PG.aI b x).length=(PG.ay b).length:=by
 have h1:=congrArg zad (PG.dH b x);have h2:=congrArg zad (PG.fA b);rw[ZL] at h1 h2;rw[h1,<- h2]
theorem IQ{kvs:List (Key×V)}{sp:List PG.aW}{ps:List V}{s:PG.aW}{v:V}(l:ps.length=sp.length)(h1:∀kv∈kvs,kv.1≠.inl s.row)(h2:∀t∈sp,t.row<s.row):putK (kvs++bS sp ps) (.inl s.row) v=kvs++bS (sp++[s]) (ps++[v]):=by
 rw[qx sp [s] ps [v] l,<- ZZ];unfold putK;rw[if_neg]
 ·rfl
 ·intro z;obtain⟨kv,Pu,e⟩:=List.any_eq_true.mp z;have e:kv.1=.inl s.row:=by simpa using e
  rcases Z1.mp Pu with hk |hk
  ·exact h1 kv hk e
  ·have hm:kv.1∈(bS sp ps).map (·.1):=zav.mpr ⟨kv,hk,rfl⟩;rw[je sp ps l,e] at hm;obtain⟨t,ht,et⟩:=zav.mp hm;have:=h2 t ht;have et:t.row=s.row:=Sum.inl.inj et;lia
theorem JM:∀w:PG.Wd,(jH w=ZJ "if")↔w=.ifs:=by
 intro w;cases w<;>decide +kernel
theorem OA:∀w:PG.Wd,(jH w=ZJ "while")↔w=.fZ:=by
 intro w;cases w<;>decide +kernel
theorem OB:∀w:PG.Wd,(jH w=ZJ "stop")↔w=.stop:=by
 intro w;cases w<;>decide +kernel
theorem Gh(s:PG.aW):∃r,PG.cv s=s::r:=by cases s<;>exact⟨_,rfl⟩
theorem qV{a:List PG.aW}{zs:List V}{y:Int}(h:zs[0]?=some (V.int y)):((a.map (·.row)).map V.int++zs)[0]?=some (V.int (PG.aP a y)):=by
 cases a with
 |nil=>exact h
 |cons s r=>rfl
theorem IS(T:Tx K mg t){n:Nat}(iy:bw P w K mg base eM (n+1) t.eY t.fC ["body", "then", "found"] (tQ K n)) :
 bw P w K mg base eM (n+2) t.eY t.fC ["body", "then", "found"] (tQ K (n+1)):=by
 refine T.fc.F.j9 pO (fun vs H Q E h=>?_) (fun fq A outer s H vs Q E hr h=>?_)
 ·obtain⟨_,_,_,_,_,_,rfl,_⟩:=h;rfl
 obtain⟨b,F,x,body,H0,kvs,rfl,rb,OC,s0,hF,hk,pw,hl,hd,q⟩:=h;have nd:=pO.nd;have hu:=dX hr;refine⟨_,[some (V.ref b),some (V.int x),some (V.ref F),none,none,none,none,none],(ai (kg PassesOwn.never rfl (qg rfl T.pW (ae (dG cY rfl T.mW PyProof.Rows.Boot.«len» (bo 0 aj)) aj bC)) (zt 3 nd)
 (ai (eV 4 nd (ax aF (pv 0) (pv 3) iN))
 (ai (eV 5 nd (ax aC (pv 4) ag ah))
 (ai (eV 6 nd (a7 km (eN (own:=["one"]) (ix:=[]) rfl (by rfl) (by rfl) (cg (ja mi (pv 0) (kl (a7 fQ (pv 3) ag)) kh)) (fun _ _ _ _=>(cT (i:=0) (by show List.Nodup (["one"]:List Str);decide +kernel) rfl (zau rfl))) (fun _ _ _ _=>cZ) (fun _ _ _ _=>(ax (eO (K:=K) rfl) (pv 0) ag ah))) (bA (bo 1 aj))))
 (ai (wg (i:=7) nd rfl (zau rfl) (own:=["part"]) (ix:=[]) rfl (by rfl) (by rfl) (Kh (ja HY (pv 4) (kl ag) kh)) (fun _ _ _ _=>(cT (i:=0) (by show List.Nodup (["part"]:List Str);decide +kernel) rfl (zau rfl))) (fun _ _ _ _=>cZ) (fun _ _ _ _=>(eN (own:=["one"]) (ix:=[]) rfl (by rfl) (by rfl) (FJ (K:=K) rfl (pv 0)) (fun _ _ _ _=>(cT (i:=0) (by show List.Nodup (["one"]:List Str);decide +kernel) rfl (zau rfl))) (fun _ _ _ _=>cZ) (fun _ _ _ _=>(ax (eO (K:=K) rfl) (pv 0) ag ah)))))
 (az (bq (aL bR (ax aC (pv 4) ag ah) aU (aQ _))
 (ai (oR hu (pv 2) (pv 5) (aT (bo 4 (ae (bA (ae (ax aF (a7 km (ax aF (pv 7) ag ah) (pv 6)) ag ah) (ae (ax aF (a7 km (ax aF (pv 7) ag ah) (pv 6)) ag ah) aj aH) aH)) aj Aa))) rfl)
 (ai (gR (dA iy T.fc hr (ae (ax aC (pv 4) ag ah) (ae (ax aF (pv 6) ag ah) (bo 2 aj) aH) aH)))
 (az (gR (dA iy T.fc hr (ae (ax aC (pv 4) ag ah) (ae (ax aF (pv 6) ag ah) (bo 2 aj) aH) aH))))))
 (az (bq (aL bR (ax aC (pv 4) ag ah) aU (aQ _))
 (ai (oR hu (pv 2) (pv 5) (aT (bo 4 (ae (bA (ae (ax aF (a7 km (ax aF (pv 7) ag ah) (bA (bo 5 aj))) ag ah) (ae (ax aF (pv 6) ag ah) aj aH) aH)) aj Aa))) rfl)
 (az (gR (dA iy T.fc hr (ae (ax aC (pv 4) ag ah) (bo 5 (bo 2 aj)) aH)))))
 (az (oR hu (pv 2) (pv 5) (aT (bo 4 (ae (bA (ae (ax aF (bA (ae (ax aF (pv 6) ag ah) (ae ag aj aB) aH)) (bT eS rfl T.pX PyProof.Rows.Boot.«int» (ae (dQ bR (ax aC (pv 4) ag ah) aU (aQ _)) aj kz)) fM) aj aH)) aj Aa))) rfl)))))))))))
 (az (aM (pv 2)))),rfl,?_⟩
 have line:zct=2 ^ 24:=rfl;rw[Rep.bH] at rb;obtain⟨_,xs,e,hx,rs⟩:=rb;cases e;have lx:xs.length=body.length:=by rw[rs.length,ZL]
 have lb:body.length<=(PG.ay body).length:=by
  rw[dZ];exact dI body
 refine av fun U1 fi=>?_;refine x3 fun U hU=>?_;walk_at "rd";refine⟨b,xs,rfl,.inl (s0.seq hx),_,rfl,by lia,by lia,hU _ _ ?_⟩;clear hU;rw[zaa];obtain⟨Pv,rT,jv⟩:=Ih fun (i:Nat) (σ:St) (Hx:Hp) zq=>∀(z3 z4 z5 z6 z7:Option V) (sp:List PG.aW) (fp:List PG.bW) (ps:List V),σ=[some (V.ref b),some (V.int x),some (V.ref F),z3,z4,z5,z6,z7]->bh F H Hx->sp++PG.ay (body.drop i)=PG.ay body->fp++PG.aI (body.drop i) x=PG.aI body x->ps.length=sp.length->fp.length=sp.length->Hx F=some (.dK (kvs++bS sp ps))->dM K (wo Hx F) sp fp ps->zq;refine ve (lo:=0) (n:=xs.length) Pv (rT _ _ _ fun _ zk=>zk _ _ _ _ _ [] [] [] rfl (.refl _ _) rfl rfl rfl rfl (by rw[hF];simp[bS]) .nil) (fun i σ Hx hi hv=>?_) (fun σ Hx hv=>?_)
 ·refine jv _ _ _ hv _ fun z3 z4 z5 z6 z7 sp fp ps ze ux es ef C5 lfp yF fk=>?_;subst ze;clear hv;have li:i<body.length:=by lia
  have OD:aw H0 Hx:=fun z o e=>ux z o (au e OC) (s0 z o e);obtain⟨v,hv,rv⟩:=rs.get (i:=i) (d:=du body[i]) (by rw[ZO,ZK li];rfl);have ed:PG.ay (body.drop i)=PG.cv body[i]++PG.ay (body.drop (i+1)):=by rw[zaA li,PG.ay]
  have UX:PG.aI (body.drop i) x=PG.dv body[i] (PG.aP (body.drop (i+1)) x)++PG.aI (body.drop (i+1)) x:=by rw[zaA li,PG.aI]
  simp only[eR,zaV];refine av fun V1 yO=>?_;walk_at "rd";rw[Int.zero_add];refine aO (OD.seq hx) (aq hv) ((yO _ _).mpr (av fun V2 Dl=>?_));clear yO;obtain⟨ta,ts,rfl,BU,Zu,OE⟩:=Ge _ rv;walk_at "rd";refine aA (OD.bB BU) (aq (j:=1) rfl) ((Dl _ _).mpr (av fun V3 Dm=>?_));clear Dl;walk_at "rd";simp only[gm];walk_at "rd";refine⟨_,rfl,b,xs,rfl,OD.seq hx,fun S1 LF=>⟨S1,rfl,?_⟩⟩;rw[show ((i:Int)+1)=((i+1:Nat):Int) by lia,Oz];have s1:=aw.new LF (.lst (xs.drop (i+1)));have y1:(upd Hx S1 (.lst (xs.drop (i+1)))) S1=_:=ao;have UY:=OD.trans s1;generalize upd Hx S1 (.lst (xs.drop (i+1)))=H1 at *;refine⟨⟨_,.of y1⟩,fun D1 FT=>qU (ss:=body.drop (i+1)) (.of y1) ((uk (i+1) rs).mono UY) (by rw[zaC];lia) FT (fun p w0 k ys H2 hp R hR=>?_) (fun H2 s2 OF p3 JC=>?_)⟩
  ·walk_at "rd";exact aA hp (aq (j:=1) rfl) hR
  have s3:=aw.new JC (.lst [V.int x]);have y3:(upd H2 p3 (.lst [V.int x])) p3=_:=ao;have OG:=s1.trans (s2.trans s3);have LN:=s3 _ _ OF;generalize upd H2 p3 (.lst [V.int x])=H3 at *;refine⟨D1,p3,_,_,rfl,rfl,LN,y3,by rw[ZL,ZL,zaC];simp only[ZN,zaj];lia,fun Lt Py=>(Dm _ _).mpr (av fun V4 F6=>?_)⟩;clear Dm;have s4:=aw.new Py (.lst (((body.drop (i+1)).map (·.row)).map V.int++[V.int x]));have Pz:(upd H3 Lt (.lst (((body.drop (i+1)).map (·.row)).map V.int++[V.int x]))) Lt=_:=ao;have Sa:=OG.trans s4;generalize upd H3 Lt (.lst (((body.drop (i+1)).map (·.row)).map V.int++[V.int x]))=H4 at *;have fo:=yU (body.drop (i+1)) x;obtain⟨y,ey⟩:∃y,PG.aP (body.drop (i+1)) x=y:=⟨_,rfl⟩
  rw[ey] at fo;have mG:=OD.trans Sa;clear s1 s2 s3 s4 y1 y3 OF LN OG UY LF FT JC;walk_at "rd";simp only[gm,MM];walk_at "rd";refine⟨_,rfl,ta,_,rfl,mG.bB BU,fun pI H5 s5 kI=>⟨pI,rfl,⟨_,kI⟩,fun D2 Rf=>?_⟩⟩;rw[show (5:Int)=((5:Nat):Int) from rfl,Oz] at kI;have Oy:=mG.trans s5;generalize UZ:(V.str (jH body[i].wd)::V.int body[i].row::ts).drop 5=us at *;have IE:us.length=(aE body[i]).length:=by rw[OE.length,ZL]
  have Yo:us.length<=10:=by rw[<- UZ,zaC];simp only[ZN];lia
  refine CK (K:=K) (fun τ=>∃z,τ=[z]) (fun j ys H6=>∀k c,k<j->(aE body[i])[k]?=some c->∃l,ys[k]?=some (.ref l)/\l≠D2/\H6 l=some (.lst ((c.map (·.row)).map V.int))) kI (by lia) Rf ⟨_,rfl⟩ (fun k c hk=>absurd hk (zbV _)) (fun j v ys τ H6 hv hτ s6 yD ly p6 R hR=>?_) (fun ys H6 s6 Sb ly Sd=>(F6 _ _).mpr ?_)
  ·obtain⟨z,rfl⟩:=hτ;have lj:j<(aE body[i]).length:=by have:=(ZR.mp hv).1;lia
   obtain⟨v',zl,rc⟩:=OE.get (i:=j) (d:=Dp.lst (((aE body[i])[j]).map du)) (by rw[ZO,ZK lj];rfl);rw[hv] at zl;cases zl;have U0:=rc.mono (Oy.trans s6);rw[Rep.bH] at U0;obtain⟨lc,cs,rfl,Va,Vb⟩:=U0;simp only[eR,zaV,gm];walk_at "rd";have lcs:cs.length<=1000:=by
    have h1:=Gf (ZK lj);have h2:(aE body[i])[j].length<=(PG.ay (aE body[i])[j]).length:=by rw[dZ];exact dI _
    have h3:=congrArg zad es;rw[Vb.length,ZL];rw[ed,ZP,ZP] at h3;lia
   refine⟨⟨cs,Va⟩,fun D3 NY=>qU (ss:=(aE body[i])[j]) Va Vb (by lia) NY (fun p w0 k zs H7 hp R2 Yp=>?_) (fun H7 s7 LN=>hR _ _ _ ⟨_,rfl⟩ s7 fun k c hk hc=>?_)⟩
   ·walk_at "rd";exact aA hp (aq (j:=1) rfl) Yp
   ·have Vc:D3≠D2:=(au yD NY).symm;by_cases e:k=j
    ·subst e;rw[ZK lj] at hc;cases hc;exact⟨D3,by rw[zag (by lia),ly,zci];rfl,Vc,by rw[aR Vc];exact LN⟩
    ·obtain⟨l,h1,h2,h3⟩:=p6 k c (by lia) hc;exact⟨l,by rw[zan (by lia)];exact h1,h2,by rw[aR h2];exact s7 _ _ h3⟩
  clear F6;have IT:=Oy.trans s6;have uH:bh F H H6:=ux.trans (bh.of (Sa.trans (s5.trans s6)));have JN:aw Hx H6:=Sa.trans (s5.trans s6);have PB:=JN _ _ yF;have Yq:dM K (wo H6 F) sp fp ps:=fk.mono (BA JN);have AG:=(s5.trans s6) _ _ Pz;rw[ey] at UX;rw[ed] at es;rw[UX] at ef;have Se:PG.k6 body[i]<n+1:=za7 (BV (ZT li)) hd;have Sf:=pw;rw[<- es] at Sf;obtain⟨_,Yr,Ys⟩:=zas.mp Sf;obtain⟨Zv,_,_⟩:=zas.mp Yr;have Yt:∀t∈PG.cv body[i],t∈PG.ay body:=fun t ht=>by rw[<- es];exact Z4 _ (zab _ ht)
  have JO:body[i]∈PG.cv body[i]:=by obtain⟨r,e⟩:=Gh body[i];rw[e];exact Z0 ..
  have Yu:∀kv∈kvs,kv.1≠.inl body[i].row:=hk _ (Yt _ JO);have Yv:∀t∈sp,t.row<body[i].row:=fun t ht=>Ys t ht _ (zab _ JO);have keys:∀(S1:List PG.aW) (P1:List V) (t:PG.aW),P1.length=S1.length->(∀u∈S1,u.row<t.row)->t∈PG.ay body->∀kv∈kvs++bS S1 P1,kv.1≠.inl t.row:=fun S1 P1 t l1 h1 h2 kv Pu e=>by
   rcases Z1.mp Pu with h |h
   ·exact hk t h2 kv h e
   ·have hm:kv.1∈(bS S1 P1).map (·.1):=zav.mpr ⟨kv,h,rfl⟩;rw[je S1 P1 l1,e] at hm;obtain⟨u,Sg,eu⟩:=zav.mp hm;have:=h1 u Sg;have eu:u.row=t.row:=Sum.inl.inj eu;lia
  have LO:∀(j:Nat) (v:V),us[j]?=some v->(V.str (jH body[i].wd)::V.int body[i].row::ts)[5+j]?=some v:=fun j v h=>by rw[<- UZ,List.getElem?_drop] at h;exact h
  have Vd:kvs.length+sp.length+(PG.cv body[i]).length<=1000:=by
   have:=congrArg zad es;rw[ZP,ZP] at this;lia
  have IU:=IT.bB BU;have Zw:=rv.mono IT;have put:∀(p wl:zcl) (LP:List Int) (H7:Hp) (f:PG.bW),aw H6 H7->H7 p=some (.tup [V.ref ta,V.ref wl])->H7 wl=some (.lst (LP.map V.int))->f.2.2=LP->zZ H7 F (V.int body[i].row) (V.ref p) (upd H7 F (.dK (kvs++bS (sp++[body[i]]) (ps++[V.ref p]))))/\bh F H (upd H7 F (.dK (kvs++bS (sp++[body[i]]) (ps++[V.ref p]))))/\dM K (wo (upd H7 F (.dK (kvs++bS (sp++[body[i]]) (ps++[V.ref p])))) F) (sp++[body[i]]) (fp++[f]) (ps++[V.ref p])/\aw H0 (upd H7 F (.dK (kvs++bS (sp++[body[i]]) (ps++[V.ref p])))):=by
   intro p wl LP H7 f s7 yp yw Yw;have Sh:=s7 _ _ PB;have u8:bh F H7 (upd H7 F (.dK (kvs++bS (sp++[body[i]]) (ps++[V.ref p])))):=(bh.refl _ _).put _;have Yx:bh F H H7:=uH.trans (bh.of s7);refine⟨?_,Yx.trans u8,?_,fun z o e=>u8 z o (au e OC) ((IT.trans s7) z o e)⟩
   ·have:=zZ.k (k:=.inl body[i].row) (v:=V.ref p) Sh (by rw[ZP];unfold bS;rw[zby];lia);rw[IQ C5 Yu Yv] at this;exact this
   ·rw[Lj];have np:p≠F:=bX yp Sh (by intro z;cases z);have nw:wl≠F:=bX yw Sh (by intro z;cases z);have Yy:aw H0 (wo H7 F):=fun z o e=>by rw[px (au e OC)];exact(IT.trans s7) z o e
    exact(Yq.mono (BA s7)).app (dM.one (.of (by rw[px np];exact yp)) (rv.mono Yy) (by rw[px nw,Yw];exact yw)) C5 lfp
  walk_at "rd";refine aA IU (aq (j:=0) rfl) ⟨rfl,?_⟩;have C7:(((body.drop (i+1)).map (·.row)).map V.int++[V.int x])[0]?=some (V.int y):=fo;generalize body[i]=st at *;have fin:∀(qs:List V) (fr:List PG.bW) (He:Hp),bh F H He->qs.length=(PG.cv st).length->fr=PG.dv st y->He F=some (.dK (kvs++bS (sp++PG.cv st) (ps++qs)))->dM K (wo He F) (sp++PG.cv st) (fp++fr) (ps++qs)->Pv (i+1) [some (V.ref b),some (V.int x),some (V.ref F),some (V.int i),some (V.ref ta),some (V.int st.row),some (V.ref Lt),some (V.ref D2)] He:=by
   intro qs fr He ue lq Yz Si Sj;subst Yz;refine rT _ _ _ fun _ zk=>zk _ _ _ _ _ (sp++PG.cv st) (fp++PG.dv st y) (ps++qs) rfl ue (by rw[ZZ];exact es) (by rw[ZZ];exact ef) (by rw[ZP,ZP,C5,lq]) ?_ Si Sj;have h1:=congrArg zad (PG.vv st y);have h2:=congrArg zad (PG.vw st);rw[ZL] at h1 h2;rw[ZP,ZP,lfp,h1,<- h2]
  have sub:∀(cl:zcl) (c:List PG.aW) (z:Int) (S1 S2:List PG.aW) (F1:List PG.bW) (P1:List V) (He:Hp) (R:V->Hp->Prop),sp++PG.cv st=S1++(PG.ay c++S2)->P1.length=S1.length->F1.length=S1.length->PG.eT c<n->Rep K H0 (.lst (c.map du)) (.ref cl)->bh F H He->aw H0 He->He F=some (.dK (kvs++bS S1 P1))->dM K (wo He F) S1 F1 P1->(∀qs Hf,bh F H Hf->aw H0 Hf->qs.length=(PG.ay c).length->Hf F=some (.dK (kvs++bS (S1++PG.ay c) (P1++qs)))->dM K (wo Hf F) (S1++PG.ay c) (F1++PG.aI c z) (P1++qs)->aw (wo He F) Hf->R (.ref F) Hf)->tQ K n [.ref cl,.int z,.ref F] He R E0:=by
   intro cl c z S1 S2 F1 P1 He R e1 l1 l2 YA rc ue Ve Si Sj hR;have YB:(S1++(PG.ay c++S2)).Pairwise fun a b=>a.row<b.row:=by
    rw[<- e1];have:=Sf;rw[<- ZZ] at this;exact(zas.mp this).1
   obtain⟨_,pB,pC⟩:=zas.mp YB;have YC:∀t∈PG.ay c,t∈PG.ay body:=fun t ht=>by
    rw[<- es,<- ZZ,e1];exact zab _ (Z4 _ (zab _ ht))
   have lc:=congrArg zad e1;simp only[ZP] at lc;refine⟨cl,F,z,c,H0,_,rfl,rc,OC,Ve,Si,fun t ht=>keys S1 P1 t l1 (fun u Sg=>pC u Sg t (zab _ ht)) (YC t ht),(zas.mp pB).1,?_,YA,fun qs Hf uf lq yf ff=>?_⟩
   ·rw[ZP];unfold bS;rw[zby];lia
   ·refine hR qs Hf (ue.trans uf) (fun w o e=>uf w o (au e OC) (Ve w o e)) lq ?_ ?_ (Fn uf)
    ·rw[yf,qx S1 _ P1 _ l1,ZZ]
    ·exact(Sj.mono fun w o e=>by
      by_cases hw:w=F
      ·subst hw;rw[pq] at e;cases e
      ·rw[px hw] at e ⊢;exact uf w o hw e).app ff l1 l2
  by_cases PC:st.wd=.ifs
  ·obtain⟨k,sg,l,r,a,c,rfl⟩:∃k sg l r a c,st=.ifs k sg l r a c:=by cases st<;>first |exact⟨_,_,_,_,_,_,rfl⟩ |cases PC
   obtain⟨la,Sk,YD,Sl⟩:=Sd 0 a (by rw[IE];exact Nat.zero_lt_two) rfl;obtain⟨lc,YE,Zx,YF⟩:=Sd 1 c (by rw[IE];exact Nat.one_lt_two) rfl;obtain⟨va,zv,ra⟩:=OE.get (i:=0) (d:=Dp.lst (a.map du)) rfl;obtain⟨vc,YG,rc⟩:=OE.get (i:=1) (d:=Dp.lst (c.map du)) rfl;have OH:=ra;rw[Rep.bH] at OH;obtain⟨al,_,rfl,_⟩:=OH;have Vf:=rc;rw[Rep.bH] at Vf;obtain⟨cl,_,rfl,_⟩:=Vf;have Zy:a.length<=1000/\c.length<=1000:=by
    have h2:a.length<=(PG.ay a).length:=by rw[dZ];exact dI _
    have h3:c.length<=(PG.ay c).length:=by rw[dZ];exact dI _
    rw[PG.cv,ZN,ZP] at Vd;lia
   have Zz:(((body.drop (i+1)).map (·.row)).map V.int++[V.int x]).length<=2000:=by
    rw[ZP,ZL,ZL,zaC];simp only[ZN,zaj];lia
   refine(if_pos rfl).mpr (aO (.of Sb) (aq Sk) ⟨la,Lt,_,_,rfl,rfl,Sl,AG,by rw[ZL,ZL];lia,fun q7 YH=>?_⟩);have s7:=aw.new YH (.lst ((a.map (·.row)).map V.int++(((body.drop (i+1)).map (·.row)).map V.int++[V.int x])));have y7:(upd H6 q7 (.lst ((a.map (·.row)).map V.int++(((body.drop (i+1)).map (·.row)).map V.int++[V.int x])))) q7=_:=ao;generalize upd H6 q7 (.lst ((a.map (·.row)).map V.int++(((body.drop (i+1)).map (·.row)).map V.int++[V.int x])))=H7 at *;refine aO (.of y7) (aq (qV C7)) (aO (.of (s7 _ _ Sb)) (aq YE) ⟨lc,Lt,_,_,rfl,rfl,s7 _ _ YF,s7 _ _ AG,by rw[ZL,ZL];lia,fun q8 Sm=>?_⟩);have s8:=aw.new Sm (.lst ((c.map (·.row)).map V.int++(((body.drop (i+1)).map (·.row)).map V.int++[V.int x])));have y8:(upd H7 q8 (.lst ((c.map (·.row)).map V.int++(((body.drop (i+1)).map (·.row)).map V.int++[V.int x])))) q8=_:=ao;generalize upd H7 q8 (.lst ((c.map (·.row)).map V.int++(((body.drop (i+1)).map (·.row)).map V.int++[V.int x])))=H8 at *;refine aO (.of y8) (aq (qV C7)) fun p9 xE zw LQ=>?_;have s9:=aw.new xE (.lst [V.int (PG.aP a y),V.int (PG.aP c y)]);have y9:(upd H8 p9 (.lst [V.int (PG.aP a y),V.int (PG.aP c y)])) p9=_:=ao;generalize upd H8 p9 (.lst [V.int (PG.aP a y),V.int (PG.aP c y)])=H9 at *;have wX:=aw.new LQ (.tup [V.ref ta,V.ref p9]);have GC:(upd H9 zw (.tup [V.ref ta,V.ref p9])) zw=_:=ao;have So:=wX _ _ y9;have LR:aw H6 (upd H9 zw (.tup [V.ref ta,V.ref p9])):=s7.trans (s8.trans (s9.trans wX));generalize upd H9 zw (.tup [V.ref ta,V.ref p9])=Lu at *;have Sq:Lt≠F:=bX AG PB (by intro z;cases z);obtain⟨q1,q2,q3,q4⟩:=put zw p9 [PG.aP a y,PG.aP c y] Lu (k,.ifs,[PG.aP a y,PG.aP c y]) LR GC So rfl;refine⟨F,_,rfl,q1,aA (q4.bB BU) (aq (j:=5) (LO 0 _ zv)) (aO (.of (by rw[aR Sq];exact LR _ _ AG)) (aq C7) (sub al a y (sp++[PG.aW.ifs k sg l r a c]) (PG.ay c) (fp++[(k,.ifs,[PG.aP a y,PG.aP c y])]) (ps++[.ref zw]) _ _ ?_ (by simp[C5]) (by simp[lfp]) ?_ ra q2 q4 ao q3 fun qs Hf uf Sr lq yf ff sf=>?_))⟩
   ·rw[PG.cv,ZZ];rfl
   ·rw[PG.k6] at Se;lia
   refine aA (Sr.bB BU) (aq (j:=6) (LO 1 _ YG)) (aO (.of (sf _ _ (by rw[px Sq,aR Sq];exact LR _ _ AG))) (aq C7) (sub cl c y (sp++[PG.aW.ifs k sg l r a c]++PG.ay a) [] _ _ Hf _ ?_ (by simp[C5,lq]) (by simp[lfp,C6]) ?_ rc uf Sr yf ff fun YI Hg ug ZA YJ yg fg _=>fin (.ref zw::(qs++YI)) _ Hg ug ?_ rfl ?_ ?_))
   ·rw[PG.cv,Z9,ZZ,ZZ];rfl
   ·rw[PG.k6] at Se;lia
   ·rw[PG.cv,ZN,ZN,ZP,ZP,lq,YJ]
   ·rw[yg,PG.cv];simp only[ZZ,zbc,za9]
   ·simp only[ZZ,zbc,za9] at fg;rw[PG.cv,PG.dv];exact fg
  by_cases Ss:st.wd=.fZ
  ·obtain⟨k,sg,l,r,a,rfl⟩:∃k sg l r a,st=.fZ k sg l r a:=by cases st<;>first |exact⟨_,_,_,_,_,rfl⟩ |cases Ss
   obtain⟨la,Sk,YD,Sl⟩:=Sd 0 a (by rw[IE];exact Nat.zero_lt_one) rfl;obtain⟨va,zv,ra⟩:=OE.get (i:=0) (d:=Dp.lst (a.map du)) rfl;have OH:=ra;rw[Rep.bH] at OH;obtain⟨al,_,rfl,_⟩:=OH;refine(if_neg (fun z=>PC ((JM _).mp (V.str.inj z)))).mpr (aA IU (aq (j:=0) rfl) ⟨rfl,(if_pos rfl).mpr ?_⟩);refine aO (.of Sb) (aq Sk) fun p7 Mi=>?_;have s7:=aw.new Mi (.lst [V.int (PG.aW.fZ k sg l r a).row]);have y7:(upd H6 p7 (.lst [V.int (PG.aW.fZ k sg l r a).row])) p7=_:=ao;generalize upd H6 p7 (.lst [V.int (PG.aW.fZ k sg l r a).row])=H7 at *;refine⟨la,p7,_,_,rfl,rfl,s7 _ _ Sl,y7,?_,fun q8 Sm=>?_⟩
   ·have h2:a.length<=(PG.ay a).length:=by rw[dZ];exact dI _
    rw[PG.cv,ZN] at Vd;simp only[ZL,ZN,zaj];lia
   have s8:=aw.new Sm (.lst ((a.map (·.row)).map V.int++[V.int (PG.aW.fZ k sg l r a).row]));have y8:(upd H7 q8 (.lst ((a.map (·.row)).map V.int++[V.int (PG.aW.fZ k sg l r a).row]))) q8=_:=ao;generalize upd H7 q8 (.lst ((a.map (·.row)).map V.int++[V.int (PG.aW.fZ k sg l r a).row]))=H8 at *;refine aO (.of y8) (aq (qV (a:=a) (y:=k) rfl)) (aO (.of ((s7.trans s8) _ _ AG)) (aq C7) fun p9 xE zw LQ=>?_);have s9:=aw.new xE (.lst [V.int (PG.aP a k),V.int y]);have y9:(upd H8 p9 (.lst [V.int (PG.aP a k),V.int y])) p9=_:=ao;generalize upd H8 p9 (.lst [V.int (PG.aP a k),V.int y])=H9 at *;have wX:=aw.new LQ (.tup [V.ref ta,V.ref p9]);have GC:(upd H9 zw (.tup [V.ref ta,V.ref p9])) zw=_:=ao;have So:=wX _ _ y9;generalize upd H9 zw (.tup [V.ref ta,V.ref p9])=Lu at *;obtain⟨q1,q2,q3,q4⟩:=put zw p9 [PG.aP a k,y] Lu (k,.fZ,[PG.aP a k,y]) (s7.trans (s8.trans (s9.trans wX))) GC So rfl;refine⟨F,_,rfl,q1,aA (q4.bB BU) (aq (j:=5) (LO 0 _ zv)) (sub al a k (sp++[PG.aW.fZ k sg l r a]) [] (fp++[(k,.fZ,[PG.aP a k,y])]) (ps++[.ref zw]) _ _ ?_ (by simp[C5]) (by simp[lfp]) ?_ ra q2 q4 ao q3 fun qs Hf uf Sr lq yf ff _=>fin (.ref zw::qs) _ Hf uf ?_ rfl ?_ ?_)⟩
   ·rw[PG.cv,Z9,ZZ];rfl
   ·rw[PG.k6] at Se;lia
   ·rw[PG.cv,ZN,ZN,lq]
   ·rw[yf,PG.cv,ZZ,ZZ];rfl
   ·rw[ZZ,ZZ,ZZ] at ff;rw[PG.cv,PG.dv];exact ff
  obtain⟨HI,f,OT,QB⟩:PG.cv st=[st]/\∃f,PG.dv st y=[f]/\f.2.2=[if st.wd=.stop then 0 else y]:=by
   cases st<;>first |exact absurd rfl PC |exact absurd rfl Ss |exact⟨rfl,_,rfl,rfl⟩
  refine(if_neg (fun z=>PC ((JM _).mp (V.str.inj z)))).mpr (aA IU (aq (j:=0) rfl) ⟨rfl,(if_neg (fun z=>Ss ((OA _).mp (V.str.inj z)))).mpr ?_⟩);refine aO (.of AG) (aq C7) fun p7 Mi=>?_;have s7:=aw.new Mi (.lst [V.int y,V.int 0]);have y7:(upd H6 p7 (.lst [V.int y,V.int 0])) p7=_:=ao;generalize upd H6 p7 (.lst [V.int y,V.int 0])=H7 at *;refine aA (s7.bB IU) (aq (j:=0) rfl) ⟨rfl,_,rfl,?_⟩;have sel:xP [V.int y,V.int 0] (if decide (V.str (jH st.wd)=V.str (ZJ "stop"))=true then 1 else 0)=some (V.int (if st.wd=.stop then 0 else y)):=by
   by_cases ht:st.wd=.stop
   ·rw[if_pos ht,if_pos (decide_eq_true (by rw[ht];rfl))];exact aq (j:=1) rfl
   ·rw[if_neg ht,if_neg (by rw[decide_eq_false (fun z=>ht ((OB _).mp (V.str.inj z)))];exact ZM)];exact aq (j:=0) rfl
  refine aO (.of y7) sel fun p8 zu p9 xE=>?_;have s8:=aw.new zu (.lst [V.int (if st.wd=.stop then 0 else y)]);have s9:=aw.new xE (.tup [V.ref ta,V.ref p8]);have y8:(upd H7 p8 (.lst [V.int (if st.wd=.stop then 0 else y)])) p8=_:=ao;generalize upd H7 p8 (.lst [V.int (if st.wd=.stop then 0 else y)])=H8 at *;have y9:(upd H8 p9 (.tup [V.ref ta,V.ref p8])) p9=_:=ao;have YK:=s9 _ _ y8;generalize upd H8 p9 (.tup [V.ref ta,V.ref p8])=H9 at *;obtain⟨q1,q2,q3,q4⟩:=put p9 p8 [if st.wd=.stop then 0 else y] H9 f (s7.trans (s8.trans s9)) y9 YK QB;refine⟨F,_,rfl,q1,fin [.ref p9] [f] _ q2 (by rw[HI];rfl) OT.symm (by rw[HI];exact ao) (by rw[HI];exact q3)⟩
 ·refine jv _ _ _ hv _ fun z3 z4 z5 z6 z7 sp fp ps ze ux es ef C5 lfp yF fk=>?_;subst ze;rw[lx,zbd,PG.ay,Z9] at es;rw[lx,zbd,PG.aI,Z9] at ef;subst es ef;refine(fi _ _).mpr ?_;walk_at "rd";exact q ps Hx ux C5 yF fk
theorem yV(T:Tx K mg t):∀n,bw P w K mg base eM (n+1) t.eY t.fC ["body", "then", "found"] (tQ K n)
 |0=>by
  have no:∀vs H Q E,¬tQ K 0 vs H Q E:=fun vs H Q E h=>by obtain⟨_,_,_,_,_,_,_,_,_,_,_,_,_,_,h,_⟩:=h;lia
  exact⟨fun vs H Q E h=>absurd h (no vs H Q E),fun A outer s H args us vs Q E _ _ _ _ h=>absurd h (no vs H Q E)⟩
 |n+1=>IS T (yV T n)
theorem om{K:ZI}{r0:St}{x0:Option V}{H H6:Hp}{bs:List PG.gf}{B:zcl}{PD:List V}(hB:gQ K H B PD)(lB:PD.length=bs.length)(AD:∀(i:Nat) (x:V),PD[i]?=some x->∃a,x=.ref a/\dq K H a [V.str (S (bs.getD i ⟨[],0,0⟩).name),V.int (bs.getD i ⟨[],0,0⟩).size,V.int (bs.getD i ⟨[],0,0⟩).first])(vy:bs.length<=10)(s:aw H H6)(j:Int)(g:PG.gf->V)(hg:∀b:PG.gf,xP [V.str (S b.name),V.int b.size,V.int b.first] j=some (g b)){Q:VK}(q:∀D H',aw H6 H'->H6 D=none->H' D=some (.lst (bs.map g))->Q (.ref D) H') :
 gm (vb K (fj 1)) 1 [] (eR 0) rO (LZ (GZ K) (fj 0) (tC (V.int j))) (x0::some (.ref B)::r0) H6 Q:=by
 simp only[gm];walk_at "rd";refine⟨⟨_,s.seq hB⟩,fun D hD=>mw (K:=K) (r:=[]) (fun i=>g (bs.getD i ⟨[],0,0⟩)) (s.seq hB) (by lia) hD (fun i x H2 hx s2 R hR=>?_) (fun H7 s7 h7=>?_)⟩
 ·obtain⟨a,rfl,ha⟩:=AD i x hx;walk_at "rd";exact aA ((s.trans s2).bB ha) (hg _) hR
 rw[lB,jV g ⟨[],0,0⟩ bs] at h7;exact q D H7 s7 hD h7
theorem xk(T:Tx K mg t):bw P w K mg base eM 8 t.ic t.iT ["program"] (Iw K):=by
 have iy:=yV (P:=P) (w:=w) (base:=base) T 4;refine T.jC.F.j9 pP (fun vs H Q E h=>?_) (fun fq A outer s H vs Q E hr h=>?_)
 ·obtain⟨_,_,rfl,_⟩:=h;rfl
 obtain⟨v,pr,rfl,rp,dr,q⟩:=h;have nd:=pP.nd;have hu:=dX hr;refine⟨_,[some v,none,none,none,none],(ai (fP (pv 0) (zz rfl (gY (zt 1 nd) (gY (zt 2 nd) se))))
 (ai (eV 3 nd (ax aF (a7 km (eN (own:=["one"]) (ix:=[]) rfl (by rfl) (by rfl) (cg (pv 2)) (fun _ _ _ _=>(cT (i:=0) (by show List.Nodup (["one"]:List Str);decide +kernel) rfl (zau rfl))) (fun _ _ _ _=>cZ) (fun _ _ _ _=>(ax (eO (K:=K) rfl) (pv 0) ag ah))) (bA (ae ag aj aB))) ag ah))
 (ai (eV 4 nd (dA iy T.fc hr (bo 2 (ae ag (ae Eb aj rfl) aB))))
 (az (aM (bA (bo 4 (ae (eN (own:=["box"]) (ix:=[]) rfl (by rfl) (by rfl) (cg (pv 1)) (fun _ _ _ _=>(cT (i:=0) (by show List.Nodup (["box"]:List Str);decide +kernel) rfl (zau rfl))) (fun _ _ _ _=>cZ) (fun _ _ _ _=>(ax (eO (K:=K) rfl) (pv 0) ag ah))) (ae (eN (own:=["box"]) (ix:=[]) rfl (by rfl) (by rfl) (cg (pv 1)) (fun _ _ _ _=>(cT (i:=0) (by show List.Nodup (["box"]:List Str);decide +kernel) rfl (zau rfl))) (fun _ _ _ _=>cZ) (fun _ _ _ _=>(ax (eO (K:=K) rfl) (pv 0) ag ah))) (ae (aT (bo 3 (ae (bT fI rfl T.i4 PyProof.Rows.Boot.«tuple» (ae (eN (own:=["box"]) (ix:=[]) rfl (by rfl) (by rfl) (cg (pv 1)) (fun _ _ _ _=>(cT (i:=0) (by show List.Nodup (["box"]:List Str);decide +kernel) rfl (zau rfl))) (fun _ _ _ _=>cZ) (fun _ _ _ _=>(ax (eO (K:=K) rfl) (pv 0) ag ah))) aj gU)) aj bC))) aj eI) gU) gU)))))))),rfl,?_⟩
 have line:zct=2 ^ 24:=rfl;unfold gN at rp;rw[Rep.aK] at rp;obtain⟨pa,Tu,rfl,Dh,sP⟩:=rp;rw[aG.aD] at sP;obtain⟨v1,t1,rfl,IB,sP⟩:=sP;rw[aG.aD] at sP;obtain⟨v2,t2,rfl,IC,sP⟩:=sP;rw[aG.bD] at sP;subst sP;obtain⟨bb,ys,rfl,L5,Vg⟩:=Rep.bH.mp IC;obtain⟨B,_,rfl,_⟩:=Rep.bH.mp IB;obtain⟨PD,hB,lB,AD⟩:=pY IB;have vy:=dr.vy;have sl:=dZ pr.body;have LS:=dr.ok.vy;refine av fun U1 fi=>?_;walk_at "rd";refine⟨pa,_,rfl,Dh,rfl,_,_,rfl,_,_,rfl,rfl,(fi _ _).mpr (av fun U2 iw=>?_)⟩;clear fi;have ZC:ys.length=pr.body.length:=by rw[Vg.length,ZL]
 have lb:pr.body.length<=(PG.ay pr.body).length:=by
  rw[dZ];exact dI pr.body
 walk_at "rd";simp only[gm];walk_at "rd";refine⟨⟨_,L5⟩,fun D1 FT=>qU (ss:=pr.body) L5 Vg (by lia) FT (fun p w0 k ys H2 hp R hR=>?_) (fun H2 s2 OF p3 JC=>?_)⟩
 ·walk_at "rd";exact aA hp (aq (j:=1) rfl) hR
 have s3:=aw.new JC (.lst [V.int 0]);have y3:(upd H2 p3 (.lst [V.int 0])) p3=_:=ao;have OG:=s2.trans s3;have LN:=s3 _ _ OF;generalize upd H2 p3 (.lst [V.int 0])=H3 at *;refine⟨D1,p3,_,_,rfl,rfl,LN,y3,by rw[ZL,ZL];simp only[ZN,zaj];lia,fun Lt Py=>?_⟩;have s4:=aw.new Py (.lst ((pr.body.map (·.row)).map V.int++[V.int 0]));have Pz:(upd H3 Lt (.lst ((pr.body.map (·.row)).map V.int++[V.int 0]))) Lt=_:=ao;have mG:=OG.trans s4;generalize upd H3 Lt (.lst ((pr.body.map (·.row)).map V.int++[V.int 0]))=H4 at *;refine aO (.of Pz) (v:=V.int (PG.aP pr.body 0)) (aq (j:=0) (yU pr.body 0)) ((iw _ _).mpr (av fun U3 jO=>?_));clear iw s2 s3 OG s4 y3 OF LN Pz FT JC Py;walk_at "rd";intro F hF;generalize e5:upd H4 F _=H5;have s5:aw H4 H5:=e5▸aw.new hF _;have yF:H5 F=some (.dK []):=by rw[<- e5];exact ao
 clear e5;refine⟨bb,F,0,pr.body,H4,[],rfl,IC.mono mG,hF,s5,yF,(fun _ _ kv z=>(zar z).elim),dr.ok.pw,(by rw[sl];simp only[zaj];lia),Nat.lt_succ_of_le dr.dep,fun ps H6 u6 C5 PB fk=>(jO _ _).mpr ?_⟩;clear jO;have Rm:aw H4 H6:=fun z o e=>u6 z o (au e hF) (s5 z o e);have IT:=mG.trans Rm;walk_at "rd";refine om hB lB AD LS IT 0 (fun b=>V.str (S b.name)) (fun _=>rfl) fun N H7 s7 _ yN=>?_;refine om hB lB AD LS (IT.trans s7) 1 (fun b=>V.int b.size) (fun _=>rfl) fun Z H8 s8 _ yZ=>?_;refine om hB lB AD LS (IT.trans (s7.trans s8)) 2 (fun b=>V.int b.first) (fun _=>rfl) fun L H9 s9 _ yL=>?_;refine⟨L,_,rfl,.inl ⟨.of yL,fun t1 h1=>?_⟩⟩;rw[show (pr.ar.map fun b=>V.int b.first)=(pr.ar.map (·.first)).map V.int by rw[zax];rfl];generalize e1:upd H9 t1 _=HA;have sA:=gT e1 h1;have yA:HA t1=some (.tup ((pr.ar.map (·.first)).map V.int)):=by rw[<- e1];exact ao
 intro fa h2;generalize e2:upd HA fa _=HB;have sB:=gT e2 h2;have yB:HB fa=some (.tup [V.int (PG.aP pr.body 0),V.ref t1]):=by rw[<- e2];exact ao
 intro md h3;generalize e3:upd HB md _=HC;have sC:=gL e3 h3;have yC:HC md=some (.lst [V.ref F,V.ref N,V.ref Z,V.ref fa]):=by rw[<- e3];exact ao
 have Su:=s7.trans (s8.trans (s9.trans (sA.trans (sB.trans sC))));exact q md HC (IT.trans Su) ⟨⟨F,N,Z,fa,ps,yC,C5,Su _ _ PB,fk.mono (NT.trans Su),(s8.trans (s9.trans (sA.trans (sB.trans sC)))) _ _ yN,(s9.trans (sA.trans (sB.trans sC))) _ _ yZ,⟨t1,.of (sC _ _ yB),.of ((sB.trans sC) _ _ yA)⟩⟩⟩
theorem Gi:∀ {bs:List PG.gf} {vs:List Int},vs.length=bs.length->(∀(j:Nat) (x:Int) (b:PG.gf),vs[j]?=some x->bs[j]?=some b->0<=x/\x<b.size)->PG.mE (bs.map (·.size)) vs
 |[],[],_,_=>trivial
 |[],_::_,l,_=>by cases l
 |_::_,[],l,_=>by cases l
 |b::bs,v::vs,l,h=>⟨h 0 v b rfl rfl,Gi (Nat.succ.inj l) fun j x b e1 e2=>h (j+1) x b e1 e2⟩
theorem LU(T:Tx K mg t):bw P w K mg base eM 30 t.BL t.qO ["script"] (Bk K):=by
 have qb:=uR (P:=P) (w:=w) (base:=base) T;have rE:=w4 (P:=P) (w:=w) (base:=base) T;have yW:=xk (P:=P) (w:=w) (base:=base) T;have g1:=kW (P:=P) (w:=w) (base:=base) T;have g2:=vP (P:=P) (w:=w) (base:=base) T 4;have g3:=II (P:=P) (w:=w) (base:=base) T;have g4:=mH (P:=P) (w:=w) (base:=base) T;have rF:=w9 (P:=P) (w:=w) (base:=base) T g1 g2 g3 g4;have rH:=xj (P:=P) (w:=w) (base:=base) T;refine T.BM.F.j9 FL (fun vs H Q E h=>?_) (fun fq A outer s H vs Q E hr h=>?_)
 ·obtain⟨_,_,rfl,_⟩:=h;rfl
 obtain⟨a,ns,rfl,hS,Mg,q⟩:=h;have nd:=FL.nd;have hu:=dX hr;refine⟨_,[some (V.ref a),none,none,none,none,none,none,none,none,none],(ai (eV 1 nd (dA qb T.gH hr (ae (dA rE T.iq hr (bo 0 aj)) (ae ag aj aB) bC)))
 (ai (zF (i:=2) nd rfl (zbJ rfl) (dA yW T.jC hr (bo 1 aj)))
 (ai (eV 3 nd (a7 km (dG (wK rfl) rfl T.tX PyProof.Rows.Boot.«sorted» (ae (ax aF (pv 2) ag ah) aj aH)) (bA (ae ag aj aB))))
 (ai (kg PassesOwn.never rfl (cg (a7 km (bA (ae ag aj aB)) (ja mi (pv 0) kh (kl ag)))) (zt 4 nd)
 (ai (zF (i:=5) nd rfl (zbJ rfl) (a7 oK (dG DG rfl T.FQ PyProof.Rows.Boot.«abs» (bo 4 aj)) ag))
 (ai (eV 6 nd (bT fI rfl T.i4 PyProof.Rows.Boot.«tuple» (ae (eN (own:=["k"]) (ix:=[2,5]) rfl (by rfl) (by rfl) (qg rfl T.pW (ae (dG cY rfl T.mW PyProof.Rows.Boot.«len» (ae (ax aF (pv 2) ag ah) aj aH)) aj bC)) (fun _ _ _ _=>(cT (i:=0) (by show List.Nodup (["k", "made", "number"]:List Str);decide +kernel) rfl (zau rfl))) (fun _ _ _ _=>cZ) (fun _ _ _ _=>(a7 gM (a7 oK (pv 2) (ax (tf (K:=K) rfl) (bA (eB (vs:=[.int 64,.int 320,.int 1600]) (by kernel_rfl))) (pv 0) iN)) (ax (tf (K:=K) rfl) (ax (tf (K:=K) rfl) (pv 1) ag ah) (pv 0) iN)))) aj gU)))
 (ai (eV 7 nd (aT (ae (ax aF (pv 3) (a7 gM (pv 5) (dG cY rfl T.mW PyProof.Rows.Boot.«len» (bo 3 aj))) KI) (bo 6 aj) aH)))
 (ai (eV 8 nd (dA rF T.ip hr (ae (aT (ae (bT oO rfl T.wU PyProof.Rows.Boot.«list» (ae (ax aC (pv 1) ag ah) aj aH)) (ae (ax aC (pv 1) ag ah) aj aH) bC)) (bo 7 aj) eI)))
 (ai (eV 9 nd (dA rH T.iu hr (bo 2 (bo 7 aj))))
 (ai (bq (PW.pt (pw_or (Dt (nF (dG xZ rfl T.gI PyProof.Rows.Boot.«isinstance» (bo 8 (ae (vX (v:=.ty "tuple") rfl T.i4 PyProof.Rows.Boot.«tuple» rfl) aj ky))))) (pw_or (aL (KQ (EB hr)) (pv 8) (pv 9) (aQ _)) (pw_or1 (Dt (nF (dG xZ rfl T.gI PyProof.Rows.Boot.«isinstance» (ae (ax aC (pv 8) ag ah) (ae (vX (v:=.ty "tuple") rfl T.i4 PyProof.Rows.Boot.«tuple» rfl) aj ky) aH))))))))
 (az (aM AS))
 aS)
 (az (bq (PW.pt (pw_and (aL bR (ax aC (ax aC (pv 9) ag ah) ag ah) aU (aQ _)) (pw_and1 (nF (dG Ee rfl T.gI PyProof.Rows.Boot.«isinstance» (ae (ax aC (ax aC (pv 8) ag ah) ag ah) (ae (vX (v:=.ty "bool") rfl T.Av PyProof.Rows.Boot.«bool» rfl) aj ky) aH))))))
 (az (aM AS))
 aS)))))))))
 (az (aM (Kb (dQ (Iy (EB hr)) (pv 1) (dA qb T.gH hr (ae (dA rE T.iq hr (bo 0 aj)) (ae ag aj aB) bC)) (aQ _)) (Ka (dQ (KP (EB hr)) (dA rF T.ip hr (bo 1 (ae (ax aF (pv 2) ag ah) aj aH))) (dA rH T.iu hr (bo 2 (ae (ax aF (pv 2) ag ah) aj aH))) (aQ _)))))))))),rfl,?_⟩
 have line:zct=2 ^ 24:=rfl;refine av fun U1 fi=>?_;walk_at "rd";refine⟨a,ns,rfl,hS,Mg,fun D C G H1 s1 nD nC rV=>⟨D,C,G,_,16,rfl,rV,by decide,by show (0:Int)<=_;decide,fun pr d2 v H2 ep c2 mY PF=>(fi _ _).mpr (av fun U2 iw=>?_)⟩⟩;clear fi;have sm:PG.Ij 16 pr:=by have:=PG.CO (most:=16) (by decide) (PG.qE ns);rw[ep] at this;exact this
 have dr:=NX sm;have ZD:=IA sm;have Vh:aw H H2:=fun b o e=>c2.get (s1 b o e) (au e nD) (au e nC);have Sv:Rep K H2 (gN pr) v:=(PF (fun _=>False) fun _ h=>h.elim).rep;clear c2 mY PF s1 nD nC rV;walk_at "rd";refine⟨v,pr,rfl,Sv,dr,fun md H3 s3 Vi=>(iw _ _).mpr (av fun U3 jO=>?_)⟩;clear iw;have hm:=Vi;obtain⟨F,N,Z,fa,ps,Sw,C5,yF,fk,yN,yZ,Vj⟩:=Vi.at_;walk_at "rd";have e0:(bS (PG.ay pr.body) ps).map (·.1)=((PG.ay pr.body).map (·.row)).map Sum.inl:=by rw[je _ _ C5,zax];rfl
 have ZE:(PG.ay pr.body).length<=16:=by have:=sm.vy;lia
 refine aO (.of Sw) (aq (j:=0) rfl) ⟨F,_,_,rfl,yF,e0,?_,by rw[ZL];lia,fun l hl=>?_⟩
 ·rw[zaF];exact dr.ok.pw.imp Int.le_of_lt
 generalize e4:upd H3 l _=H4;have s4:=gL e4 hl;have yl:=K8 e4;intro p hp;generalize e5:upd H4 p _=H5;have s5:=gL e5 hp;have yp:=K8 e5;refine⟨l,p,_,_,rfl,rfl,s5 _ _ yl,yp,by rw[ZL,ZL];simp only[ZN,zaj];lia,fun R hR=>(jO _ _).mpr ?_⟩;clear jO;generalize e6:upd H5 R _=H6;have s6:=gL e6 hR;have yR:=K8 e6;have LV:=s4.trans (s5.trans s6);clear e4 e5 e6 s4 s5 s6 yl yp hl hp hR e0;have Vk:=hm.mono LV;have Sx:=Sv.mono (s3.trans LV);have Vl:=(Vh.trans (s3.trans LV)).seq hS;have IV:=LV _ _ Sw;have Vm:=LV _ _ yZ;have OI:=Vj.mono LV;clear hm Sw yF fk yN yZ Sv hS Vh s3 LV Vj;obtain⟨rws,er⟩:∃rws:List Int,rws=(PG.ay pr.body).map (·.row)++[0]:=⟨_,rfl⟩
 have lr:rws.length=(PG.ay pr.body).length+1:=by rw[er];simp
 have yR:H6 R=some (.lst (rws.map V.int)):=by rw[er,Z8];exact yR
 refine av fun U4 mX=>?_;refine lG fun U hU=>?_;walk_at "rd";intro p hp;generalize e7:upd H6 p _=H7;have s7:=gL e7 hp;have yp:=K8 e7;refine⟨_,rfl,a,_,rfl,s7.seq Vl,fun l hl=>?_⟩;rw[show ((40:Int))=((40:Nat):Int) from rfl,Od,<- List.map_take];generalize e8:upd H7 l _=H8;have s8:=gL e8 hl;have yl:=K8 e8;refine⟨p,l,_,_,rfl,rfl,s8 _ _ yp,yl,by rw[ZL,zaP];simp only[ZN,zaj];lia,fun L hL=>?_⟩;generalize e9:upd H8 L _=H9;have s9:=gL e9 hL;have yL:=K8 e9;refine⟨L,rfl,⟨_,.of yL⟩,hU _ _ ?_⟩;clear hU;obtain⟨cs,Vn⟩:∃cs:List Int,cs=0::ns.take 40:=⟨_,rfl⟩
 have yL:H9 L=some (.lst (cs.map V.int)):=by rw[Vn];exact yL
 have lcs:cs.length<=41:=by rw[Vn,ZN,zaP];lia
 have PH:=s7.trans (s8.trans s9);clear e7 e8 e9 s7 s8 s9 yp yl hp hl hL;obtain⟨Pv,rT,jv⟩:=Ih fun (i:Nat) (σ:St) (Hx:Hp) zq=>∀(z4 z5 z6 z7 z8 z9:Option V),σ=[some (V.ref a),some v,some (V.ref md),some (V.ref R),z4,z5,z6,z7,z8,z9]->aw H9 Hx->zq;refine lA (K:=K) (a:=L) (xs:=cs.map V.int) Pv (rT _ _ _ fun _ zk=>zk _ _ _ _ _ _ rfl (.refl _)) (fun i σ Hx _ hv=>?_) ?_ ?_
 ·exact jv _ _ _ hv _ fun _ _ _ _ _ _ _ sx=>.of (sx _ _ yL)
 ·intro i y σ Hx hi hv;refine jv _ _ _ hv _ fun z4 z5 z6 z7 z8 z9 ze sx=>?_;subst ze;clear hv;obtain⟨c,hc,rfl⟩:∃c,cs[i]?=some c/\V.int c=y:=by
   rw[ZO] at hi;exact zaI.mp hi
  simp only[eR,zaV];refine av fun V1 yO=>?_;walk_at "rd";refine⟨c,rfl,(yO _ _).mpr (av fun V2 Dl=>?_)⟩;clear yO;obtain⟨m,em,ZF⟩:∃m:Int,(if c<0 then -c else c)/7=m/\0<=m:=⟨_,rfl,by split<;>lia⟩
  rw[em];have JN:=PH.trans sx;walk_at "rd";simp only[gm];walk_at "rd";have ZG:=sm.len;refine aO (.of (JN _ _ IV)) (aq (j:=2) rfl) ⟨Z,_,rfl,.inl (.of (JN _ _ Vm)),_,rfl,by lia,by rw[ZL];lia,fun D hD=>?_⟩;rw[ZL,zaa];refine CM (r:=[some (V.ref md),some (V.int m)]) (fun i ys Hy=>∃vs:List Int,ys=vs.map V.int/\∀(j:Nat) (x:Int) (b:PG.gf),vs[j]?=some x->pr.ar[j]?=some b->0<=x/\x<b.size) (by lia) hD ⟨[],rfl,fun j x b e=>by simp at e⟩ (fun k ys Hy hk sy yD ly hp R0 YL=>?_) (fun ys Hy sy yD ly hp=>?_)
  ·obtain⟨vs,rfl,OJ⟩:=hp;rw[ZL] at ly;walk_at "rd";intro p hp;generalize e7:upd Hy p _=Hz;have sz:=gL e7 hp;have yp:=K8 e7;obtain⟨w,ew,w0,w1⟩:∃w:Int,([64,320,1600]:List Int)[k]?=some w/\0<w/\w<1073741824:=by
    have h3:k=0\/k=1\/k=2:=by lia
    rcases h3 with rfl |rfl |rfl
    ·exact⟨64,rfl,by decide,by decide⟩
    ·exact⟨320,rfl,by decide,by decide⟩
    ·exact⟨1600,rfl,by decide,by decide⟩
   have sb:=(sm.size pr.ar[k] (ZT hk))
   have eb:(pr.ar.map fun b=>V.int b.size)[k]?=some (V.int pr.ar[k].size):=by rw[ZO,ZK hk];rfl
   refine aO (v:=V.int w) (.of yp) (aq (by show (([64,320,1600]:List Int).map V.int)[k]?=_;rw[ZO,ew];rfl)) ⟨m,w,rfl,rfl,⟨w0,w1⟩,?_⟩;refine aO (.of ((JN.trans (sy.trans sz)) _ _ IV)) (aq (j:=2) rfl) (aO (.of ((JN.trans (sy.trans sz)) _ _ Vm)) (aq eb) ⟨_,_,rfl,rfl,by show (0:Int)<_;lia,YL _ _ sz ⟨vs++[m/w%pr.ar[k].size],by rw[Z8];rfl,fun j x b e1 e2=>?_⟩⟩);by_cases hj:j<vs.length
   ·rw[zan hj] at e1;exact OJ j x b e1 e2
   ·have:j=k:=by
     have:=(ZR.mp e1).1;simp at this;lia
    subst this;rw[zag (by lia),ly,zci] at e1;cases e1;rw[ZK hk] at e2;cases e2;exact⟨zaU _ (by lia),zaJ _ (by lia)⟩
  obtain⟨vs,rfl,OJ⟩:=hp;rw[ZL] at ly;refine⟨D,_,rfl,.inl ⟨.of yD,fun va zv=>(Dl _ _).mpr (av fun V3 Dm=>?_)⟩⟩;clear Dl;generalize e7:upd Hy va _=Hz;have sz:=gT e7 zv;have Vo:=Tj e7;have Sy:=sx.trans (sy.trans sz);have Sz:=PH.trans Sy;clear e7 zv sy sz yD hD sx JN;walk_at "rd";have Vp:(rws.map V.int).length=rws.length:=ZL ..;obtain⟨j,ej,hj⟩:∃j:Nat,m%(rws.length:Int)=j/\j<rws.length:=by
   have h1:=zaU m (b:=(rws.length:Int)) (by lia);have h2:=zaJ m (b:=(rws.length:Int)) (by lia);exact⟨(m%(rws.length:Int)).toNat,by lia,by lia⟩
  refine⟨R,_,rfl,.inl (.of (Sz _ _ yR)),by rw[Vp];lia,?_⟩;rw[Vp,ej];refine aO (v:=V.int rws[j]) (.of (Sz _ _ yR)) (aq (by rw[ZO,ZK hj];rfl)) fun sa Di=>(Dm _ _).mpr (av fun V4 F6=>?_);clear Dm;generalize e7:upd Hz sa _=HA;have sA:=gT e7 Di;have Vq:=Tj e7;have Vr:=Sy.trans sA;have Vs:=PH.trans Vr;have st:bZ K HA sa rws[j] vs:=⟨va,.of Vq,.of (sA _ _ Vo)⟩
  clear e7 Di Vq sA Sy Sz Vo;have rR:gc pr (rws[j],vs):=by
   refine⟨⟨?_,ly,fun x hx=>?_⟩,Gi ly OJ⟩
   ·have hm:=ZT hj;generalize rws[j]=y at hm ⊢;rw[er] at hm;rcases Z1.mp hm with h |h
    ·obtain⟨t,ht,rfl⟩:=zav.mp h;obtain⟨i,hi,e⟩:=zaX.mp ht;exact .inr ⟨i,hi,by rw[e]⟩
    ·exact .inl (ZU.mp h)
   ·obtain⟨i,hi,rfl⟩:=zaX.mp hx;have:=OJ i vs[i] pr.ar[i] (ZK hi) (ZK (by lia));have:=sm.size pr.ar[i] (ZT _);lia
  generalize rws[j]=row at *;clear ej hj OJ;have YM:=Sx.mono Vs;have LW:=YM;unfold gN at LW;rw[Rep.aK] at LW;obtain⟨pa,Tu,rfl,Dh,sP⟩:=LW;rw[aG.aD] at sP;obtain⟨v1,t1,rfl,IB,sP⟩:=sP;rw[aG.aD] at sP;obtain⟨v2,t2,rfl,IC,sP⟩:=sP;rw[aG.bD] at sP;subst sP;obtain⟨B,YN,rfl,hB,rB⟩:=Rep.bH.mp IB;walk_at "rd";refine aA Dh (aq (j:=0) rfl) ⟨B,YN,rfl,.inl hB,fun l hl=>?_⟩;generalize e7:upd HA l _=HB;have sB:=gL e7 hl;have rl:=WA e7 hl rB;refine aA (sB.bB Dh) (aq (j:=1) rfl) fun p hp=>?_;generalize e8:upd HB p _=HC;have sC:=gT e8 hp;have rC:Rep K HC (gN pr) (.ref p):=Wz e8 hp (.cons rl (.cons (IC.mono sB) .nil));have Vt:=sB.trans sC;refine⟨.ref p,sa,pr,(row,vs),rfl,rC,dr,st.mono Vt,rR,by lia,fun v8 HD sD r8=>(F6 _ _).mpr (av fun V5 JG=>?_)⟩;clear F6 e7 e8 hl hp rl rC sB sC;have SA:=Vt.trans sD;walk_at "rd";refine⟨md,sa,pr,(row,vs),rfl,Vk.mono (Vs.trans SA),dr,st.mono SA,rR,by lia,fun v9 HE sE r9=>(JG _ _).mpr ?_⟩;clear JG;have r8:=r8.mono sE;have YO:=Vr.trans (SA.trans sE);generalize xD pr (cM pr+1) [] (row,vs)=x at r8 r9;have sh:=qJ x;obtain⟨w0,ds,w2,ex,SD⟩:∃w0 ds w2,uN x=.tup [.tup (.str w0::ds),w2]/\(w0=ZJ "say"->∃n,ds=[.int n]):=by
   cases x
   ·exact⟨_,_,_,rfl,fun z=>absurd z (by decide +kernel)⟩
   ·exact⟨_,_,_,rfl,fun _=>⟨_,rfl⟩⟩
   ·exact⟨_,_,_,rfl,fun z=>absurd z (by decide +kernel)⟩
   ·exact⟨_,_,_,rfl,fun z=>absurd z (by decide +kernel)⟩
   ·exact⟨_,_,_,rfl,fun z=>absurd z (by decide +kernel)⟩
  have Vu:=r8;have Vv:=r9;rw[ex] at Vu Vv;obtain⟨b8,y8,rfl,h8,q8⟩:=Rep.aK.mp Vu;obtain⟨b9,y9,rfl,h9,q9⟩:=Rep.aK.mp Vv;obtain⟨u8,t8,rfl,k8,_⟩:=aG.aD.mp q8;obtain⟨u9,t9,rfl,k9,_⟩:=aG.aD.mp q9;obtain⟨c8,g8,rfl,m8,n8⟩:=Rep.aK.mp k8;obtain⟨c9,g9,rfl,m9,n9⟩:=Rep.aK.mp k9;obtain⟨_,f9,rfl,e9,_⟩:=aG.aD.mp n9;cases Rep.bf.mp e9;refine av fun V6 JH=>?_;walk_at "rd";refine⟨b8, "tuple",_,true,rfl,h8,by kernel_rfl,(if_neg (by decide)).mpr ⟨_,_,r8,r9,sh,sh,?_⟩⟩;rw[eqv_refl];refine⟨_,rfl,(if_neg (by decide)).mpr (aA h8 (aq (j:=0) rfl) ⟨c8, "tuple",_,true,rfl,m8,by kernel_rfl,(if_neg (by decide)).mpr ((JH _ _).mpr ?_)⟩)⟩;clear JH;walk_at "rd";refine aA h9 (aq (j:=0) rfl) (aA m9 (aq (j:=0) rfl) ?_);have fin:Pv (i+1) [some (V.ref a),some (V.ref pa),some (V.ref md),some (V.ref R),some (V.int c),some (V.int m),some (V.ref va),some (V.ref sa),some (V.ref b8),some (V.ref b9)] HE:=rT _ _ _ fun _ zk=>zk _ _ _ _ _ _ rfl YO;refine⟨rfl,?_⟩;by_cases e:w0=ZJ "say"
  ·obtain⟨n,rfl⟩:=SD e;obtain⟨_,f8,rfl,_,n8⟩:=aG.aD.mp n8;obtain⟨_,f8,rfl,o8,_⟩:=aG.aD.mp n8;cases Rep.ba.mp o8;exact(if_pos (by rw[e])).mpr (aA h8 (aq (j:=0) rfl) (aA m8 (aq (j:=1) rfl) ⟨_, "bool",_,false,rfl,.int _,by kernel_rfl,(if_neg (by decide)).mpr fin⟩))
  ·exact(if_neg (fun z=>e (by cases z;rfl))).mpr ((if_neg (by decide)).mpr fin)
 intro σ HL hv;refine jv _ _ _ hv _ fun z4 z5 z6 z7 z8 z9 ze sL=>(mX _ _).mpr ?_;subst ze;clear hv mX rT jv;have Vw:=PH.trans sL;walk_at "rd";refine⟨a,ns,rfl,Vw.seq Vl,Mg,fun D2 C2 G2 HM sM YQ YR YS=>⟨D2,C2,G2,_,16,rfl,YS,by decide,by show (0:Int)<=_;decide,fun IC ZH v2 HN Vx c2 _ PF=>?_⟩⟩;rw[ep] at Vx;cases Vx;have YT:aw HL HN:=fun b o e=>c2.get (sM b o e) (au e YQ) (au e YR);have OL:=Vw.trans YT;have rN:Rep K HN (gN pr) v2:=(PF (fun _=>False) fun _ h=>h.elim).rep;refine⟨_,Sx.mono OL,rN,Iz dr,true,rfl,(if_pos rfl).mpr ?_⟩;refine aO (.of (OL _ _ IV)) (aq (j:=3) rfl) ⟨v,fa,pr,_,rfl,Sx.mono OL,dr,OI.mono OL,.first dr,by lia,fun v8 HO sO r8=>?_⟩;have SE:=OL.trans sO;refine aO (.of (SE _ _ IV)) (aq (j:=3) rfl) ⟨md,fa,pr,_,rfl,Vk.mono SE,dr,OI.mono SE,.first dr,by lia,fun v9 HQ sQ r9=>?_⟩;refine⟨_,_,r8.mono sQ,r9,qJ _,qJ _,?_⟩;rw[eqv_refl];exact q _
end
end Ls
end
section
set_option maxHeartbeats 4000000
namespace Ls
open PySem L2
section
variable{P:zcx}{w:zcn}{K:ZI}{mg:Str->Option zcm}{base:Heap}
theorem all_mk{l:PySem.W.OpenLaw}{h:Heap}{fa:zcl}(X:K.In h)(G:h.Ns zcs mg)(YU:mg "law"=some (.ref fa))
 {l9 cN cK eC i8 eX bJ kQ j4 jn jo pT j5 cO hX hZ j6 ia ib cP bu cn gF eY ic dS gG ig ij ik BL:zcl}
 {aN:zcl}
 {cE:zcl} {uU mZ:Option zcl} {uV:Array (Option zcm)} {uW m3 m4 m5 jM m6:zcm}
 {bM:zcl}
 {cF:zcl} {uX m7:Option zcl} {uY:Array (Option zcm)} {uZ nc nh nj jN nu:zcm}
 {a9:zcl} {mI iH:Option zcl} {mJ:Array (Option zcm)} {mK iI iJ iK fH iL:zcm}
 {OM:_}
 (LX:FH K "flow" Au l9)
 (um:FH K "flow_of_body" jj cN)
 (yX:FH K "first_row" lP cK)
 (u0:FH K "behind_body" jJ eC)
 (C8:FH K "ways_of" qK i8)
 (yY:FH K "bodies_in" lQ eX)
 (rY:FH K "statements_in" iB bJ)
 (IW:FH K "worth" wL kQ)
 (C9:FH K "word_at" qL j4)
 (AH:FH K "by_names" nP jn)
 (AI:FH K "in_order" nQ jo)
 (IX:FH K "holds" wM pT)
 (Dc:FH K "step_by" qM j5)
 (oo:FH K "behind_condition" fT cO)
 (y0:FH K "seen_from" lR hX)
 (za:FH K "is_unseen" lS hZ)
 (Dd:FH K "seen_at" qN j6)
 (zb:FH K "_law_draw" lT ia)
 (zc:FH K "_law_deck" lU ib)
 (uo:FH K "_law_small_e" jk cP)
 (kY:FH K "_law_small_statement" dR bu)
 (qc:FH K "_law_small_body" gE cn)
 (xl:FH K "_law_small" kM gF)
 (zd:FH K "_law_flat" lV eY)
 (zf:FH K "_law_made" lW ic)
 (xm:FH K "_law_worth" kN dS)
 (xn:FH K "_law_holds" kO gG)
 (zg:FH K "_law_word" lX ig)
 (zh:FH K "_law_step" lY ij)
 (zi:FH K "_law_seen" lZ ik)
 (JP:FH K "law" FK BL)
 (IY:zai K zcs "Chart"=some (some (.ref aN)))
 (Gj:za3 K aN Str.empty=true)
 (Gk:zba K aN=true)
 (Gm:zbm K aN=true)
 (Gn:Z6 K (.ref aN) "__setattr__"=some (some (.builtin "object.__setattr__")))
 (xo:Z6 K (.ref aN) "__init__"=some (some (.ref cE)))
 (xp:K.lookup cE=some ⟨uW,uU,.func (zao "__init__" "Chart.__init__" (fL cA) (eL cA) (aJ cA) .none m3 m4 m5 mZ jM m6),uV⟩)
 (xq:za0 K jM "Chart.__init__"=true)
 (xr:zay K (.ref cE)=true)
 (xt:zbg K (.ref cE)=true)
 (tV:zbv K aN=true)
 (Gp:zay K (.ref aN)=true)
 (fe:Z6 K (.ref aN) "names"=some none)
 (fh:Z6 K (.ref aN) "sizes"=some none)
 (jr:Z6 K (.ref aN) "first"=some none)
 (bV:Z6 K (.ref aN) "statements"=some none)
 (eF:Z6 K (.ref aN) "ways"=some none)
 (IZ:zai K zcs "Watch"=some (some (.ref bM)))
 (Gq:za3 K bM Str.empty=true)
 (Gr:zba K bM=true)
 (Gs:zbm K bM=true)
 (Gu:Z6 K (.ref bM) "__setattr__"=some (some (.builtin "object.__setattr__")))
 (xu:Z6 K (.ref bM) "__init__"=some (some (.ref cF)))
 (xv:K.lookup cF=some ⟨uZ,uX,.func (zao "__init__" "Watch.__init__" (fL cB) (eL cB) (aJ cB) .none nc nh nj m7 jN nu),uY⟩)
 (xw:za0 K jN "Watch.__init__"=true)
 (xx:zay K (.ref cF)=true)
 (xy:zbg K (.ref cF)=true)
 (tW:zbv K bM=true)
 (Gv:zay K (.ref bM)=true)
 (ou:Z6 K (.ref bM) "sight_from"=some (some (.ref a9)))
 (oy:K.lookup a9=some ⟨mK,mI,.func (zao "sight_from" "Watch.sight_from" (fL bt) (eL bt) (aJ bt) .none iI iJ iK iH fH iL),mJ⟩)
 (oA:za0 K fH "Watch.sight_from"=true)
 (jt:zay K (.ref a9)=true)
 (oC:zbg K (.ref a9)=true)
 (dN:Z6 K (.ref bM) "chart"=some none)
 (cw:Z6 K (.ref bM) "sights"=some none)
 (ON:zai K zcs "END"=some (some (.int 0 OM)))
 (mW:zai K zcs "len"=some none)
 (pW:zai K zcs "range"=some none)
 (pX:zai K zcs "int"=some none)
 (Av:zai K zcs "bool"=some none)
 (qP:zai K zcs "dict"=some none)
 (wU:zai K zcs "list"=some none)
 (i4:zai K zcs "tuple"=some none)
 (gI:zai K zcs "isinstance"=some none)
 (ma:zai K zcs "enumerate"=some none)
 (FP:zai K zcs "zip"=some none)
 (tX:zai K zcs "sorted"=some none)
 (FQ:zai K zcs "abs"=some none)
 : ∃fd:zcu,(∀(s:zcv) (v:zcm),BindsTo s fd ⟨[v],[]⟩ [("script",v)])/\∀base:Heap,K.In base->base.Ns zcs mg->bw l.prog w K mg base eM 30 fa fd ["script"] (Bk K):=by
 have e:=YU.symm.trans (zbo X G JP.1);cases e;obtain⟨kP,wN⟩:=nK X G LX (ps:=["program"]) fun _ _ _ _ _ _=>Mb fun _=>rfl;obtain⟨cW,eZ⟩:=nK X G um (ps:=["body", "behind"]) fun _ _ _ _ _ _=>uM fun _ _=>rfl;obtain⟨cD,dP⟩:=nK X G yX (ps:=["body", "behind"]) fun _ _ _ _ _ _=>uM fun _ _=>rfl;obtain⟨eW,gX⟩:=nK X G u0 (ps:=["statement", "after"]) fun _ _ _ _ _ _=>uM fun _ _=>rfl;obtain⟨jm,mz⟩:=nK X G C8 (ps:=["statement", "after"]) fun _ _ _ _ _ _=>uM fun _ _=>rfl;obtain⟨fB,il⟩:=nK X G yY (ps:=["statement"]) fun _ _ _ _ _ _=>Mb fun _=>rfl;obtain⟨bL,eA⟩:=nK X G rY (ps:=["body"]) fun _ _ _ _ _ _=>Mb fun _=>rfl;obtain⟨j3,iX⟩:=nK X G IW (ps:=["e", "values"]) fun _ _ _ _ _ _=>uM fun _ _=>rfl;obtain⟨kR,i9⟩:=nK X G C9 (ps:=["chart", "row"]) fun _ _ _ _ _ _=>uM fun _ _=>rfl;obtain⟨jz,jq⟩:=nK X G AH (ps:=["chart", "parts"]) fun _ _ _ _ _ _=>uM fun _ _=>rfl;obtain⟨jA,kU⟩:=nK X G AI (ps:=["chart", "named"]) fun _ _ _ _ _ _=>uM fun _ _=>rfl;obtain⟨pU,pV⟩:=nK X G IX (ps:=["chart", "standing"]) fun _ _ _ _ _ _=>uM fun _ _=>rfl;obtain⟨kS,j7⟩:=nK X G Dc (ps:=["chart", "standing", "figure"]) fun _ _ _ _ _ _=>Li fun _ _ _=>rfl;obtain⟨dE,dU⟩:=nK X G oo (ps:=["chart", "standing"]) fun _ _ _ _ _ _=>uM fun _ _=>rfl;obtain⟨iP,ip⟩:=nK X G y0 (ps:=["program", "standing"]) fun _ _ _ _ _ _=>uM fun _ _=>rfl;obtain⟨iQ,jB⟩:=nK X G za (ps:=["chart", "standing"]) fun _ _ _ _ _ _=>uM fun _ _=>rfl;obtain⟨kT,mB⟩:=nK X G Dd (ps:=["chart", "standing"]) fun _ _ _ _ _ _=>uM fun _ _=>rfl;obtain⟨iR,aX⟩:=nK X G zb (ps:=["deck", "many"]) fun _ _ _ _ _ _=>uM fun _ _=>rfl;obtain⟨iS,iq⟩:=nK X G zc (ps:=["script"]) fun _ _ _ _ _ _=>Mb fun _=>rfl;obtain⟨cX,bQ⟩:=nK X G uo (ps:=["deck", "names", "deep"]) fun _ _ _ _ _ _=>Li fun _ _ _=>rfl;obtain⟨bF,cG⟩:=nK X G kY (ps:=["deck", "names", "deep"]) fun _ _ _ _ _ _=>Li fun _ _ _=>rfl;obtain⟨cQ,bN⟩:=nK X G qc (ps:=["deck", "names", "deep"]) fun _ _ _ _ _ _=>Li fun _ _ _=>rfl;obtain⟨gV,gH⟩:=nK X G xl (ps:=["deck", "most"]) fun _ _ _ _ _ _=>uM fun _ _=>rfl;obtain⟨fC,fc⟩:=nK X G zd (ps:=["body", "then", "found"]) fun _ _ _ _ _ _=>Li fun _ _ _=>rfl;obtain⟨iT,jC⟩:=nK X G zf (ps:=["program"]) fun _ _ _ _ _ _=>Mb fun _=>rfl;obtain⟨eE,cH⟩:=nK X G xm (ps:=["e", "names", "values"]) fun _ _ _ _ _ _=>Li fun _ _ _=>rfl;obtain⟨gW,iY⟩:=nK X G xn (ps:=["made", "standing"]) fun _ _ _ _ _ _=>uM fun _ _=>rfl;obtain⟨iU,jD⟩:=nK X G zg (ps:=["made", "standing"]) fun _ _ _ _ _ _=>uM fun _ _=>rfl;obtain⟨iV,jE⟩:=nK X G zh (ps:=["made", "standing", "figure"]) fun _ _ _ _ _ _=>Li fun _ _ _=>rfl;obtain⟨iW,iu⟩:=nK X G zi (ps:=["made", "standing"]) fun _ _ _ _ _ _=>uM fun _ _=>rfl;obtain⟨qO,BM⟩:=nK X G JP (ps:=["script"]) fun _ _ _ _ _ _=>Mb fun _=>rfl;have iZ:=we (st:=cA) xp xq xr;have xA:=iZ.binds (ps:=["self", "program"]) fun _ _ _ _ _ _=>uM fun _ _=>rfl;have i3:=we (st:=cB) xv xw xx;have xB:=i3.binds (ps:=["self", "program"]) fun _ _ _ _ _ _=>uM fun _ _=>rfl;have dW:=we (st:=bt) oy oA jt;have oE:=dW.binds (ps:=["self", "standing"]) fun _ _ _ _ _ _=>uM fun _ _=>rfl
 let t:Ad:=⟨l9,
  kP,
  cN,
  cW,
  cK,
  cD,
  eC,
  eW,
  i8,
  jm,
  eX,
  fB,
  bJ,
  bL,
  kQ,
  j3,
  j4,
  kR,
  jn,
  jz,
  jo,
  jA,
  pT,
  pU,
  j5,
  kS,
  cO,
  dE,
  hX,
  iP,
  hZ,
  iQ,
  j6,
  kT,
  ia,
  iR,
  ib,
  iS,
  cP,
  cX,
  bu,
  bF,
  cn,
  cQ,
  gF,
  gV,
  eY,
  fC,
  ic,
  iT,
  dS,
  eE,
  gG,
  gW,
  ig,
  iU,
  ij,
  iV,
  ik,
  iW,
  fa,
  qO,
  cE,
  zao "__init__" "Chart.__init__" (fL cA) (eL cA) (aJ cA) .none m3 m4 m5 mZ jM m6,
  cF,
  zao "__init__" "Watch.__init__" (fL cB) (eL cB) (aJ cB) .none nc nh nj m7 jN nu,
  a9,
  zao "sight_from" "Watch.sight_from" (fL bt) (eL bt) (aJ bt) .none iI iJ iK iH fH iL,
  aN,
  bM⟩
 have T:Tx K mg t:=⟨wN,
  eZ,
  dP,
  gX,
  mz,
  il,
  eA,
  iX,
  i9,
  jq,
  kU,
  pV,
  j7,
  dU,
  ip,
  jB,
  mB,
  aX,
  iq,
  bQ,
  cG,
  bN,
  gH,
  fc,
  jC,
  cH,
  iY,
  jD,
  jE,
  iu,
  BM,
  iZ,
  xA,
  i3,
  xB,
  dW,
  oE,
  ⟨ou,oC,jt⟩,
  ⟨Gj,Gk,Gm,Gn⟩,
  zbo X G IY,
  ⟨tV,xo,xt,Gp⟩,
  fe,
  fh,
  jr,
  bV,
  eF,
  ⟨Gq,Gr,Gs,Gu⟩,
  zbo X G IZ,
  ⟨tW,xu,xy,Gv⟩,
  dN,
  cw,
  ⟨_,zbo X G ON,_,rfl⟩,
  zae X G mW,
  zae X G pW,
  zae X G pX,
  zae X G Av,
  zae X G qP,
  zae X G wU,
  zae X G i4,
  zae X G gI,
  zae X G ma,
  zae X G FP,
  zae X G tX,
  zae X G FQ⟩
 obtain⟨_,_,_,_,_,_,_,_,_,z,_⟩:=BM.F.ex;exact⟨t.qO,fun s v=>by rw[show t.qO=_ from z];exact .of_eq rfl,fun base _ _=>LU T⟩
theorem walk{l:PySem.W.OpenLaw}{q:zcx}{loose:List Str}{XP:(Str->Option zcm)->Heap->Prop}{YP:zcn->Heap->Prop}{d:DefRec}{K:Params->ZI}(hn:l.most=some 63)(Nb:d.params.defaults=[])
 (hY:∀(w:zcn) (h:Heap),YP w h->(K w.params).In h)
 (F:∀(w:zcn) (mg:Str->Option zcm) (fa:zcl) (h:Heap),(K w.params).In h->h.Ns zcs mg->mg d.name=some (.ref fa)->
  ∃fd:zcu,(∀(s:zcv) (u:zcm),BindsTo s fd ⟨[u],[]⟩ [("script",u)])/\∀base:Heap,(K w.params).In base->base.Ns zcs mg->bw l.prog w (K w.params) mg base eM 30 fa fd ["script"] (Bk (K w.params))) :
 PySem.W.WalkO q loose XP YP l.row.toRowW d [] (fun f vs=>PySem.call f vs):=
 L2.G5 (n:=63) (k:=30) (x:="script") (CX:=fun _=>eM) (sp:=fun w=>Bk (K w.params)) hn (by decide) Nb ⟨rfl,by decide,by decide⟩ hY F (fun _ _ a ns hl _ hS=>⟨a,ns,rfl,hS,hl,fun _=>rfl⟩) fun _ _ _ _ _ z=>z
end
end Ls
end
namespace PySem.W.Fast
theorem tw1541323251079635906:True:=trivial
theorem tw9492461934786732995:True:=trivial
theorem tw16480102331733455975:True:=trivial
theorem tw13737330248167234373:True:=trivial
theorem tw9988001024520953774:True:=trivial
theorem tw3631165345539158221:True:=trivial
theorem tw9489162436322044005:True:=trivial
theorem tw16346348288796650135:True:=trivial
theorem tw1662240465910616951:True:=trivial
theorem tw1522208511666770523:True:=trivial
theorem tw13854906988410893483:True:=trivial
theorem tw8531725563557738112:True:=trivial
theorem tw7137776160667037815:True:=trivial
theorem tw10874027453749504910:True:=trivial
theorem tw17838325062703520246:True:=trivial
theorem tw1622004923315995479:True:=trivial
theorem tw15240314257800334575:True:=trivial
theorem tw1016440285263530432:True:=trivial
theorem tw1349917723554505217:True:=trivial
theorem tw14279331203349255544:True:=trivial
theorem tw3640536045497228599:True:=trivial
theorem tw6258851580857425146:True:=trivial
theorem tw294001354436937577:True:=trivial
theorem tw2978139596005905911:True:=trivial
theorem tw9153174226552153884:True:=trivial
theorem tw2317192443233755438:True:=trivial
theorem tw9501515910800758656:True:=trivial
theorem tw9366368923650100058:True:=trivial
theorem tw3337028880217935703:True:=trivial
theorem tw12565777357195906606:True:=trivial
theorem tw11317216659946789457:True:=trivial
theorem tw7353657501162319178:True:=trivial
theorem tw10965435874801149943:True:=trivial
theorem tw2266869484027384817:True:=trivial
theorem tw2041047887137995356:True:=trivial
theorem tw12611874899159733758:True:=trivial
theorem tw407592290260233661:True:=trivial
theorem tw9807143935775156315:True:=trivial
theorem tw9183341028167219435:True:=trivial
theorem tw5439267600857347728:True:=trivial
theorem tw7367332544799337416:True:=trivial
theorem tw14730172827511561806:True:=trivial
theorem tw15852839992594577309:True:=trivial
theorem tw8846795541625191556:True:=trivial
theorem tw11869310556837780110:True:=trivial
theorem tw2845868520162088056:True:=trivial
theorem tw1154570083298778610:True:=trivial
theorem tw13131921872121041990:True:=trivial
theorem tw7760997646715587439:True:=trivial
theorem tw1677228998492615852:True:=trivial
theorem tw13973437815815228160:True:=trivial
theorem tw5437911169643950171:True:=trivial
theorem tw2707795065298194535:True:=trivial
theorem tw1514182016207539819:True:=trivial
theorem tw12428260712258519591:True:=trivial
theorem tw2633165996230636834:True:=trivial
theorem tw6276658240297024693:True:=trivial
theorem tw13187783459892185532:True:=trivial
theorem tw8219501687714879486:True:=trivial
theorem tw16322954856952649304:True:=trivial
theorem tw7241316579603684078:True:=trivial
theorem tw12032026383429136966:True:=trivial
theorem tw11774843762665273369:True:=trivial
theorem tw13552881797860660550:True:=trivial
theorem tw529114268320188946:True:=trivial
theorem tw3182650435117894226:True:=trivial
theorem tw12253477555670222495:True:=trivial
theorem tw7898933149560123514:True:=trivial
theorem tw15655591024872290517:True:=trivial
theorem tw3690369029242429997:True:=trivial
theorem tw7680370240338415663:True:=trivial
theorem tw11705476092305531869:True:=trivial
theorem tw10255950729464730380:True:=trivial
theorem tw5761744281966460130:True:=trivial
theorem tw18290795815759820443:True:=trivial
theorem tw7161518554945000634:True:=trivial
theorem tw12085744045464436942:True:=trivial
theorem tw16944638396184334706:True:=trivial
theorem tw9516043337938077762:True:=trivial
theorem tw15411432648762914448:True:=trivial
theorem tw13949815972648134126:True:=trivial
theorem tw1579437936093164927:True:=trivial
theorem tw11577790534084858379:True:=trivial
theorem tw14965113528261754027:True:=trivial
theorem tw2991424107158429471:True:=trivial
theorem tw12636416406333343733:True:=trivial
theorem tw11724745667118649757:True:=trivial
theorem tw10785984599896684119:True:=trivial
theorem tw16677652012903284059:True:=trivial
theorem tw2469461451282981068:True:=trivial
theorem tw3771511049795529919:True:=trivial
theorem tw17691984730644600073:True:=trivial
theorem tw14796369030619302234:True:=trivial
theorem tw11057751396532721857:True:=trivial
theorem tw12238928579213291316:True:=trivial
theorem tw4219163427495883402:True:=trivial
theorem tw2866373077864765209:True:=trivial
theorem tw14596572716314330440:True:=trivial
theorem tw372588200808030077:True:=trivial
theorem tw16045030315077074173:True:=trivial
theorem tw6780776158588949473:True:=trivial
theorem tw8456070528479728974:True:=trivial
theorem tw8482205755962328247:True:=trivial
theorem tw1640094310861173857:True:=trivial
theorem tw10696914220566865000:True:=trivial
theorem tw8283149160317398799:True:=trivial
theorem tw18156754546439123874:True:=trivial
theorem tw14425781975486712243:True:=trivial
theorem tw16960486007356788830:True:=trivial
theorem tw7546678027633620156:True:=trivial
theorem tw3952552801060286254:True:=trivial
theorem tw2088309305476683016:True:=trivial
theorem tw17924129745354553588:True:=trivial
theorem tw2524217963177179985:True:=trivial
theorem tw6773050465685833970:True:=trivial
theorem tw15038190415431090102:True:=trivial
theorem tw13819443750297789342:True:=trivial
theorem tw9660924958513204772:True:=trivial
theorem tw8128162727604112918:True:=trivial
theorem tw15453290421287993167:True:=trivial
theorem tw1015862390452831556:True:=trivial
theorem tw18120405260460113653:True:=trivial
theorem tw7885258053355606999:True:=trivial
theorem tw14753212700897240043:True:=trivial
theorem tw11729005789250320177:True:=trivial
theorem tw669157586972508111:True:=trivial
theorem tw8536440235446637530:True:=trivial
theorem tw14378112570573497817:True:=trivial
theorem tw8981645956284630610:True:=trivial
theorem tw5695996116803568045:True:=trivial
theorem tw2914293920733047985:True:=trivial
theorem tw11621912718918033036:True:=trivial
theorem tw17498079424076603853:True:=trivial
theorem tw1051385073364795530:True:=trivial
theorem tw18256611055187666645:True:=trivial
theorem tw16940763436642238753:True:=trivial
theorem tw15946031225762533387:True:=trivial
theorem tw8635966577684591999:True:=trivial
theorem tw2785483518427851797:True:=trivial
theorem tw10119789560829927060:True:=trivial
theorem tw1332885469334804501:True:=trivial
theorem tw7569355911239147607:True:=trivial
theorem tw1000799821336183846:True:=trivial
theorem tw500791558811274720:True:=trivial
theorem tw13300433330966539723:True:=trivial
theorem tw15018221670279999009:True:=trivial
end PySem.W.Fast
end
open PySem PySem.W PyProof.Rows
set_option maxRecDepth 100000 in
set_option maxHeartbeats 0 in
theorem PySem.Challenge.cw_everyrow_k57_seen_from_standings_holds : PySem.Challenge.rw_everyrow_k57_seen_from_standings.Holds := by
 w_on; o_law; k_head; (case hw=>w_witness2)
 k_fill
 refine Ls.walk (l:=PySem.Challenge.rw_everyrow_k57_seen_from_standings) rfl rfl (fun w h Y=>PySem.W.kIn_of Y) ?F
 case F=>
   intro w mg fa h KX G Nc
   refine' Ls.all_mk KX G Nc ?_ ?_ ?_ ?_ ?_ ?_ ?_ ?_ ?_ ?_ ?_ ?_ ?_ ?_ ?_ ?_ ?_ ?_ ?_ ?_ ?_ ?_ ?_ ?_ ?_ ?_ ?_ ?_ ?_ ?_ ?_ ?_ ?_ ?_ ?_ ?_ ?_ ?_ ?_ ?_ ?_ ?_ ?_ ?_ ?_ ?_ ?_ ?_ ?_ ?_ ?_ ?_ ?_ ?_ ?_ ?_ ?_ ?_ ?_ ?_ ?_ ?_ ?_ ?_ ?_ ?_ ?_ ?_ ?_ ?_ ?_ ?_ ?_ ?_ ?_ ?_ ?_ ?_ ?_ ?_
   rotate_left 64
   iterate 31 (refine' L2.FH.of ?a ?l ?c ?k; (case a=>k_is); (case l=>k_is); (case c=>k_is); (case k=>k_is))
   iterate 49 (k_is)
