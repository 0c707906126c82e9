import PyProof.Rows.All
import Wide.All
import OpenK.AllK
import Wide.FinOn
import Lean
import PyProof.EqAt
import PyProof.EqKinds
import PyProof.TupleCall
import PyProof.AttrMiss
import PyProof.IsiH_list
import PyProof.ZipIter
import PyProof.P3In
import PyProof.DictValues
import PySem.Challenge.RW_everyrow_k52_suites_of_counters
set_option compiler.extract_closed false
set_option Elab.async false
set_option linter.all false
set_option maxRecDepth 100000
open PySem.W renaming Frag->zaa,findIn->zax,kitOne->zay,nsIn->zaE,mg_of->zaL,fnOf->zaX,keepIn->zaY,mg_none_of->za2,emptyDict->zbe,codeIn->zbt,instObj->zbx,hasDictIn->zby,exmOne->zbH,plainGet->zbK,isFn->zbL,kla_obj->zbQ,looks_findIn->zbZ,callWith_K->zb6,envX->zb8,plainOver->zch,tabIn->zcl,hideAll->zcz,makesIn->zcA,plainGet_of->zcD,lookIn->zcH,of_hideAll->zcM,mroIn->zcN,methodObj->zcR,any_some->zc0,takerIn->zda,cellsFrom_some->zde,kla_fn->zdh,tabObj->zdi,excIn->zdm,hideAll_get->zdp,looks_mroIn->zdq,pyHash_slot->zdr
open List renaming mem_singleton->zab,length_map->zad,getElem?_eq_getElem->zae,length_append->zaf,mem_cons->zah,mem_cons_of_mem->zaj,mem_append->zak,mem_map->zal,getElem?_eq_some_iff->zam,mem_cons_self->zan,getElem?_map->zao,length_cons->zap,map_cons->zaq,getD_eq_getElem?_getD->zar,getElem_mem->zas,map_append->zat,size_toArray->zau,mem_append_right->zav,range->zaB,length_singleton->zaC,append_nil->zaG,not_mem_nil->zaH,take_succ_eq_append_getElem->zaI,mem_append_left->zaN,length_nil->zaQ,range_succ->zaR,mem_range->zaS,take_length->zaT,append_assoc->zaV,map_nil->zaW,length_range->zaZ,mem_of_getElem?->za0,lookup_cons->za3,nodup_append->za6,set->za8,length->zba,forIn_cons->zbb,zipWith->zbc,pairwise_map->zbd,flatMap_append->zbf,foldl_cons->zbg,mem_flatMap->zbj,lookup->zbk,take_of_length_le->zbp,map_map->zbq,nodup_nil->zbs,drop_eq_getElem_cons->zbu,nodup_cons->zbv,mem_of_mem_take->zbw,any_eq_true->zbz,take_append_drop->zbC,flatMap_cons->zbE,forIn_nil->zbG,length_drop->zbJ,find?_cons->zbN,pairwise_cons->zbO,filter_append->zbP,getElem?_set_self->zbR,length_eq_one_iff->zbS,getElem?_set_ne->zbU,cons_append->zbV,getElem_map->zbW,mem_iff_getElem->zbX,map->zbY,getElem?_append_right->zb0,length_pos_iff->zb2,mem_filter->zb3,pairwise_iff_getElem->zb4,nil_append->zb5,getElem?_cons_succ->zcc,pairwise_singleton->zcd,any_cons->zck,length_take->zcn,ext_getElem->zco,flatMap_nil->zcp,filter_cons->zcq,getElem?_eq_none->zcr,drop_eq_nil_iff->zct,head?_drop->zcu,filterMap_cons->zcB,getElem?_range->zcC,replicate->zcE,drop_drop->zcF,take_succ->zcG,mem_filterMap->zcJ,foldl_append->zcO,take_add_one->zcP,getElem?_append_left->zcS,mem_take_iff_getElem->zcT,append_cancel_right->zcY,drop_length->zcZ,getElem?_replicate->zc3,getElem?_cons_zero->zc4,length_eq_zero_iff->zc5,of_mem_zip->zc7,length_set->zc8,zipWith_cons_cons->zdb,length_pos_of_mem->zdc,filter_eq_nil_iff->zdd,length_replicate->zdf,drop_zero->zdg,pairwise_append->zdk,cons->zdt
open PySem.Str renaming ofString->zac
open Nat renaming le_refl->zag,le_trans->zaw,lt_of_lt_of_le->zaz,ne_of_lt->zaD,zero_le->zaK,lt_irrefl->zaP,pow_le_pow_right->za7,lt_of_le_of_lt->zbi,mul_le_mul->zbl,ne_of_gt->zbI,succ_mul->zbT,lt_succ_self->zcm,le_of_lt->zcs,mul_le_mul_right->zcv,le_of_not_lt->zcV,zero_add->zcX,add_le_add_left->zdn,mul_le_mul_left->zdo,le_of_eq->zds
open Bool renaming false_ne_true->zai,false_eq_true->zaA,and_eq_true->zbh,eq_iff_iff->zbA,not_true->zbD
open Int renaming le_refl->zaF,toNat_natCast->zaU,toNat_of_nonneg->zbo,emod_lt_of_pos->zbr,emod_nonneg->zbB,mul_nonneg->zcb,eq_ofNat_of_zero_le->zce,mul_le_mul_of_nonneg_right->zcw,le_trans->zcx,mul_le_mul_of_nonpos_right->zcy,emod_eq_of_lt->zcQ,emod_self->zdl,toNat->zdu
open Or renaming inl->zaJ,inr->zcK
open Option renaming map_eq_some_iff->zaM,some->za1,map_some->zbm,isSome_map->zcg,isSome_iff_exists->zcU,getD_some->zcW
open PySem.F renaming plainAttrs_list->zaO,slot_list_append->za4,type_list_append->za5,plainAttrs_dict->zbM,args_tuple_add_2->zb7,slot_list_extend->zb9,type_list_extend->zca,entry_tuple_add->zcf,slot_tuple_add->zcj,slot_dict_setdefault->zcI,slot_dict_values->zc2,slot_dict_items->zc6,slot_dict_get->zdj
open Array renaming getElem?_toList->za9,getElem?_eq_getElem->zbF,length_toList->zb1,getElem?_eq_none->zci,forIn_toList->zcL,replicate->zc9
open PyProof.Rows renaming callWith_type1->zbn
open PySem.W.Looks renaming ld->zc1
open PySem renaming Addr->zdv,Value->zdw,World->zdx,wpAny_bind->zdy,wpAny_pure->zdz,wpAny_holding->zdA,starEach->zdB,mainGlobals->zdC,sizeLine->zdD,FuncData->zdE,Shared->zdF,Around->zdG,Program->zdH
noncomputable section
namespace L2
open PySem PySem.Spec PyProof.Rows
abbrev Key:=Sum Int Str
def um:Key->zdw->Bool
 |.inl k,v=>Value.isInt k v
 |.inr x,v=>Value.isStrOf x v
def Of (w:zdx):Key->Int
 |.inl k=>hashInt k
 |.inr x=>hashStr w x
theorem dq:∀ {k:Key} {v:zdw},um k v=true->(∃i t,k=Sum.inl i/\v=Value.int i t)\/(∃x t,k=Sum.inr x/\v=Value.str x t)
 |.inl i,v,h=>by
  obtain⟨t,e⟩:=Value.isInt_shape (k:=i) (v:=v) h;exact .inl ⟨i,t,rfl,e⟩
 |.inr x,v,h=>by
  obtain⟨t,e⟩:=Value.isStrOf_shape (x:=x) (v:=v) h;exact .inr ⟨x,t,rfl,e⟩
theorem AI(i:Int)(t:Tok):um (.inl i) (.int i t)=true:=by simp[um,Value.isInt]
theorem AJ(x:Str)(t:Tok):um (.inr x) (.str x t)=true:=by simp[um,Value.isStrOf]
theorem xY(a b:Int):decide ((Sum.inl a:Key)=Sum.inl b)=(a==b):=by
 by_cases e:a=b
 ·subst e;simp
 ·have h:¬(Sum.inl a:Key)=Sum.inl b:=fun q=>e (Sum.inl.inj q);rw[decide_eq_false h];exact(beq_eq_false_iff_ne.mpr e).symm
theorem Km(a b:Str):decide ((Sum.inr a:Key)=Sum.inr b)=decide (a=b):=by
 by_cases e:a=b
 ·subst e;simp
 ·have h:¬(Sum.inr a:Key)=Sum.inr b:=fun q=>e (Sum.inr.inj q);rw[decide_eq_false h,decide_eq_false e]
theorem ER(a:Int)(b:Str):decide ((Sum.inl a:Key)=Sum.inr b)=false:=decide_eq_false (fun q=>nomatch q)
theorem ES(a:Str)(b:Int):decide ((Sum.inr a:Key)=Sum.inl b)=false:=decide_eq_false (fun q=>nomatch q)
def bR (prog:zdH) (w:zdx):PySem.KeyKind prog w Key where
 is:=um
 hash:=Of w
 inj:=fun v a b ha hb=>by
  rcases dq ha with ⟨i,t,rfl,rfl⟩ |⟨x,t,rfl,rfl⟩
  ·rcases dq hb with ⟨j,u,rfl,e⟩ |⟨y,u,rfl,e⟩
   ·injection e with e1 _;rw[e1]
   ·exact nomatch e
  ·rcases dq hb with ⟨j,u,rfl,e⟩ |⟨y,u,rfl,e⟩
   ·exact nomatch e
   ·injection e with e1 _;rw[e1]
 byValue:=fun k v h=>by
  rcases dq h with ⟨i,t,rfl,rfl⟩ |⟨x,t,rfl,rfl⟩<;>rfl
 pyHash:=fun hv h=>by
  rcases dq hv with ⟨i,t,rfl,rfl⟩ |⟨x,t,rfl,rfl⟩
  ·exact wpAny_pyHash_int h
  ·exact wpAny_pyHash_str h
 eqBool:=fun hu hv h=>by
  rcases dq hu with ⟨i,t,rfl,rfl⟩ |⟨x,t,rfl,rfl⟩
  ·rcases dq hv with ⟨j,u,rfl,rfl⟩ |⟨y,u,rfl,rfl⟩
   ·rw[xY] at h;exact wpAny_eqBool_int h
   ·rw[ER] at h;exact SeqAt.EqAt.int_str i t y u _ _ _ _ h
  ·rcases dq hv with ⟨j,u,rfl,rfl⟩ |⟨y,u,rfl,rfl⟩
   ·rw[ES] at h;exact SeqAt.EqAt.str_int x t j u _ _ _ _ h
   ·rw[Km] at h;exact wpAny_eqBool_str h
 «strs»:=fun k x t v h=>by
  rcases dq h with ⟨i,u,rfl,e⟩ |⟨y,u,rfl,e⟩
  ·exact nomatch e
  ·injection e with e1 _
   subst e1;cases v<;>rfl
theorem CS(prog:zdH)(w:zdx)(i:Int)(t:Tok):(bR prog w).is (.inl i) (.int i t)=true:=AI i t
theorem CU(prog:zdH)(w:zdx)(x:Str)(t:Tok):(bR prog w).is (.inr x) (.str x t)=true:=AJ x t
inductive V where
 |dR |bl (b:Bool) |int (i:Int) |str (x:Str) |Gx (b:Array UInt8) |X4 (b:UInt64) |ref (a:zdv) |ty (n:String)
 deriving DecidableEq
def RelV:V->zdw->Prop
 |.dR,u=>u=Value.none
 |.bl b,u=>u=Value.bool b
 |.int i,u=>∃t,u=Value.int i t
 |.str x,u=>∃t,u=Value.str x t
 |.Gx b,u=>∃t,u=Value.bytes b t
 |.X4 b,u=>∃t,u=Value.float b t
 |.ref a,u=>u=Value.ref a
 |.ty n,u=>u=Value.type n
abbrev Vals:List V->List zdw->Prop:=Paired RelV
theorem Vals.length{xs:List V}{us:List zdw}(r:Vals xs us):xs.length=us.length:=Paired.length r
theorem Vals.get:∀ {xs:List V} {us:List zdw} {i:Nat} {x:V},Vals xs us->xs[i]?=some x->∃u,us[i]?=some u/\RelV x u
 |_,_,_,_,.nil,e=>by simp at e
 |_,_,0,_,.cons r _,e=>by simp at e;subst e;exact⟨_,rfl,r⟩
 |_,_,i+1,x,.cons _ t,e=>by
  obtain⟨u,h1,h2⟩:=Vals.get (i:=i) (x:=x) t (by simpa using e);exact⟨u,by simpa using h1,h2⟩
theorem Vals.set{x:V}{u:zdw}(r:RelV x u):∀ {xs:List V} {us:List zdw} (i:Nat),Vals xs us->Vals (xs.set i x) (us.set i u)
 |_,_,_,.nil=>.nil
 |_,_,0,.cons _ t=>.cons r t
 |_,_,i+1,.cons q t=>.cons q (Vals.set r i t)
theorem Vals.append:∀ {xs ys:List V} {us ws:List zdw},Vals xs us->Vals ys ws->Vals (xs++ys) (us++ws)
 |_,_,_,_,.nil,s=>s
 |_,_,_,_,.cons r t,s=>.cons r (Vals.append t s)
theorem Vals.take:∀ {xs:List V} {us:List zdw} (n:Nat),Vals xs us->Vals (xs.take n) (us.take n)
 |_,_,0,_=>.nil
 |_,_,_+1,.nil=>.nil
 |_,_,n+1,.cons r t=>.cons r (Vals.take n t)
theorem Vals.drop:∀ {xs:List V} {us:List zdw} (n:Nat),Vals xs us->Vals (xs.drop n) (us.drop n)
 |_,_,0,r=>r
 |_,_,_+1,.nil=>.nil
 |_,_,n+1,.cons _ t=>Vals.drop n t
def mh:Option V->Option zdw->Prop
 |some v,some u=>RelV v u
 |none,none=>True
 |_,_=>False
def KV {κ:Type}:List (κ×V)->List (κ×zdw)->Prop:=Paired fun (p:κ×V) (q:κ×zdw)=>p.1=q.1/\RelV p.2 q.2
def kV:Key->V
 |.inl i=>.int i
 |.inr x=>.str x
inductive HO where
 |lst (xs:List V)
 |tup (xs:List V)
 |dK (kvs:List (Key×V)) |dT (kvs:List (List Key×V))
 |set (S:Int->Bool) (n:Nat)
 |ins (C dx:zdv) (fs:List (Str×V))
 |own (x:zdv)
 |xd (fs:List (Str×V))
 |met (f x:zdv)
 |X5 (lo hi:Int)
 |Kn (o:Obj) (u:HO)
 |nT (ps:Array zdw)
 |ext (φ:Heap->Prop)
abbrev Hp:=zdv->Option HO
def upd (H:Hp) (a:zdv) (o:HO):Hp:=fun b=>if b=a then some o else H b
theorem ah{H:Hp}{a:zdv}{o:HO}:upd H a o a=some o:=by unfold upd;rw[if_pos rfl]
theorem au{H:Hp}{a b:zdv}{o:HO}(h:b≠a):upd H a o b=H b:=by unfold upd;rw[if_neg h]
theorem cE{H:Hp}{a b:zdv}{o u:HO}(h:H a=some o)(h':H b=some u)(d:o≠u):a≠b:=by
 intro e;subst e;rw[h] at h';exact d (za1.inj h')
theorem aj{H:Hp}{a b:zdv}{o:HO}(h:H a=some o)(h':H b=none):a≠b:=by
 intro e;subst e;rw[h] at h';cases h'
section
variable(P:zdH)(w:zdx)
def du (H:Hp) (h:Heap) (a:zdv):HO->Prop
 |.lst xs=>xs.length<=zdD/\∃(bq:List zdw) (n:Nat),Vals xs bq/\h.get? a=some {cls:=.type "list",data:=.seq bq.toArray n}
 |.tup xs=>xs.length<=zdD/\∃bq:List zdw,Vals xs bq/\IsTup h a bq.toArray
 |.dK kvs=>kvs.length<=zdD/\(a==sysModules)=false/\∃vs,KV kvs vs/\h.DictOf (bR P w) a vs
 |.dT kvs=>kvs.length<=zdD/\(a==sysModules)=false/\∃xs:List (List Key×zdv×zdw),
  Paired (fun (p:List Key×V) (q:List Key×zdv×zdw)=>p.1=q.1/\H q.2.1=some (.tup (p.1.map kV))/\RelV p.2 q.2.2) kvs xs/\
  ∃o es ep,h.get? a=some o/\o.ExactDict/\o.data=.dict es ep/\es.toList=xs.map (entryOfKey (tupleKind (bR P w)))/\(xs.map (·.1)).Nodup
 |.set S n=>h.SetOf (intKind P w) a S n
 |.ins C dx fs=>H dx=some (.own a)/\fs.length<=1000/\dx≠a/\h.get? a=some (zbx C dx)/\
  ∃mA,h.Ns1 dx mA/\(∀f,mh (fs.lookup f) (mA f))/\PySem.Within mA (fs.map (·.1))
 |.own _=>∃o,h.get? a=some o
 |.xd fs=>∃mA,h.Ns1 a mA/\∀f,mh (fs.lookup f) (mA f)
 |.X5 lo hi=>∃t u v,h.get? a=some {cls:=.type "range",data:=.fields #[.int lo t,.int hi u,.int 1 v]}
 |.Kn o u=>h.get? a=some o/\du H h a u
 |.nT ps=>h.get? a=some {cls:=.none,data:=.fields ps}
 |.met f x=>h.get? a=some (zcR (.ref f) (.ref x))
 |.ext φ=>φ h/\(∃o,h.get? a=some o)/\∀h1 h2:Heap,φ h1->(∀o,h1.get? a=some o->h2.get? a=some o)->φ h2
def mq (H:Hp) (h:Heap):Prop:=∀a o,H a=some o->du P w H h a o
end
section
variable{P:zdH}{w:zdx}{H H':Hp}{h h':Heap}{a:zdv}{o:HO}
theorem du.lt(x:du P w H h a o):a<h.objs.size:=by
 cases o with
 |lst xs=>obtain⟨_,_,_,_,e⟩:=x;exact Heap.lt_size e
 |tup xs=>obtain⟨_,_,_,p⟩:=x;exact p.lt
 |dK kvs=>obtain⟨_,_,_,_,o,_,_,e,_⟩:=x;exact Heap.lt_size e
 |dT kvs=>obtain⟨_,_,_,_,o,_,_,e,_⟩:=x;exact Heap.lt_size e
 |set S n=>obtain⟨o,_,_,_,e,_⟩:=x;exact Heap.lt_size e
 |ins C dx fs=>obtain⟨_,_,_,e,_⟩:=x;exact Heap.lt_size e
 |own y=>obtain⟨_,e⟩:=x;exact Heap.lt_size e
 |xd fs=>obtain⟨_,⟨_,_,_,e,_⟩,_⟩:=x;exact Heap.lt_size e
 |X5 lo hi=>obtain⟨_,_,_,e⟩:=x;exact Heap.lt_size e
 |Kn ob u=>obtain⟨e,_⟩:=x;exact Heap.lt_size e
 |nT ps=>exact Heap.lt_size (show h.get? a=some _ from x)
 |met f y=>exact Heap.lt_size (show h.get? a=some _ from x)
 |ext φ=>obtain⟨_,⟨_,e⟩,_⟩:=x;exact Heap.lt_size e
theorem Paired.uo{α β:Type}{F G:α->β->Prop}:∀ {l₁:List α} {l₂:List β},Paired F l₁ l₂->(∀a b,F a b->G a b)->Paired G l₁ l₂
 |_,_,.nil,_=>.nil
 |_,_,.cons r t,f=>.cons (f _ _ r) (Paired.uo t f)
theorem du.sZ(x:du P w H h a o)(k:∀b u,(b=a\/H b=some (.own a))->h.get? b=some u->h'.get? b=some u)
 (ho:∀b,H b=some (.own a)->H' b=some (.own a)) (ht:∀b xs,H b=some (.tup xs)->H' b=some (.tup xs)):du P w H' h' a o:=by
 induction o with
 |lst xs=>obtain⟨z,bq,n,r,e⟩:=x;exact⟨z,bq,n,r,k _ _ (.inl rfl) e⟩
 |tup xs=>obtain⟨z,bq,r,ob,e,c⟩:=x;exact⟨z,bq,r,ob,k _ _ (.inl rfl) e,c⟩
 |dK kvs=>obtain⟨z,y,vs,r,ob,es,ep,e,c⟩:=x;exact⟨z,y,vs,r,ob,es,ep,k _ _ (.inl rfl) e,c⟩
 |dT kvs=>
  obtain⟨z,y,xs,r,ob,es,ep,e,c⟩:=x;exact⟨z,y,xs,Paired.uo r fun p q z=>⟨z.1,ht _ _ z.2.1,z.2.2⟩,ob,es,ep,k _ _ (.inl rfl) e,c⟩
 |set S n=>obtain⟨ob,es,ep,t,e,c⟩:=x;exact⟨ob,es,ep,t,k _ _ (.inl rfl) e,c⟩
 |ins C dx fs=>
  obtain⟨d,z,ne,e,mA,⟨od,es,ep,e2,c⟩,r⟩:=x;exact⟨ho _ d,z,ne,k _ _ (.inl rfl) e,mA,⟨od,es,ep,k _ _ (.inr d) e2,c⟩,r⟩
 |own y=>obtain⟨ob,e⟩:=x;exact⟨ob,k _ _ (.inl rfl) e⟩
 |xd fs=>obtain⟨mA,⟨od,es,ep,e,c⟩,r⟩:=x;exact⟨mA,⟨od,es,ep,k _ _ (.inl rfl) e,c⟩,r⟩
 |X5 lo hi=>obtain⟨t,u,v,e⟩:=x;exact⟨t,u,v,k _ _ (.inl rfl) e⟩
 |Kn ob u ih=>obtain⟨e,q⟩:=x;exact⟨k _ _ (.inl rfl) e,ih q⟩
 |nT ps=>
  have e:h.get? a=some {cls:=.none,data:=.fields ps}:=x;show h'.get? a=some {cls:=.none,data:=.fields ps};exact k a _ (.inl rfl) e
 |met f y=>
  have e:h.get? a=some (zcR (.ref f) (.ref y)):=x;show h'.get? a=some (zcR (.ref f) (.ref y));exact k a _ (.inl rfl) e
 |ext φ=>obtain⟨p,⟨o,e⟩,st⟩:=x;exact⟨st _ _ p fun o q=>k _ _ (.inl rfl) q,⟨o,k _ _ (.inl rfl) e⟩,st⟩
theorem mq.lt(x:mq P w H h)(e:H a=some o):a<h.objs.size:=(x a o e).lt
theorem mq.fresh(x:mq P w H h)(e:h.objs.size<=a):H a=none:=by
 cases q:H a with
 |none=>rfl
 |some u=>exact absurd (zaz (x.lt q) e) (zaP _)
theorem mq.kept(x:mq P w H h)(k:∀b u,h.get? b=some u->h'.get? b=some u):mq P w H h':=fun a o e=>
 (x a o e).sZ (fun b u _ q=>k b u q) (fun _ q=>q) fun _ _ q=>q
theorem mq.laid(x:mq P w H h)(k:∀b u,h.get? b=some u->h'.get? b=some u)(hp:h.objs.size<=a)(new:du P w (upd H a o) h' a o):mq P w (upd H a o) h':=fun b u e=>by
 have hn:=x.fresh hp;by_cases hb:b=a
 ·subst hb;rw[ah] at e;cases e;exact new
 ·rw[au hb] at e;exact(x b u e).sZ (fun c v _ q=>k c v q) (fun c q=>by rw[au (aj q hn)];exact q) fun c xs q=>by rw[au (aj q hn)];exact q
end
def Rd (H:Hp) (a:zdv) (u:HO):Prop:=H a=some u\/∃o,H a=some (.Kn o u)
theorem Rd.ok{P:zdH}{w:zdx}{H:Hp}{h:Heap}{a:zdv}{u:HO}(r:Rd H a u)(x:mq P w H h):du P w H h a u:=by
 rcases r with r |⟨o,r⟩
 ·exact x a u r
 ·obtain⟨_,q⟩:=x a _ r;exact q
def Vi:Option HO->Prop
 |some (.lst _)=>True
 |some (.dK _)=>True
 |some (.dT _)=>True
 |some (.set _ _)=>True
 |some (.ins _ _ _)=>True
 |some (.ext _)=>True
 |_=>False
section
variable{P:zdH}{w:zdx}{H:Hp}{h h':Heap}{x e:zdv}{o':HO}
theorem mq.write(ok:mq P w H h)(mu:Vi (H x))(he:e=x\/H e=some (.own x))(k:∀b u,b≠e->h.get? b=some u->h'.get? b=some u)(Uy:∃u,h'.get? e=some u)
 (new:du P w (upd H x o') h' x o'):mq P w (upd H x o') h':=fun b u q=>by
 have Vj:∀c y,H c=some (.own y)->c≠x:=fun c y r z=>by subst z;rw[r] at mu;exact mu
 have Zm:∀c xs,H c=some (.tup xs)->c≠x:=fun c xs r z=>by subst z;rw[r] at mu;exact mu
 by_cases hb:b=x
 ·subst hb;rw[ah] at q;cases q;exact new
 ·rw[au hb] at q;by_cases RT:b=e
  ·have q':H b=some (.own x):=by
    rcases he with z |z
    ·exact absurd (RT.trans z) hb
    ·rw[RT];exact z
   rw[q] at q';cases q';obtain⟨v,hv⟩:=Uy;exact⟨v,by rw[RT];exact hv⟩
  ·refine(ok b u q).sZ (fun c v hc r=>k c v ?_ r) (fun c r=>by rw[au (Vj c b r)];exact r) fun c xs r=>by rw[au (Zm c xs r)];exact r
   rcases hc with rfl |hc
   ·exact RT
   ·rintro rfl
    rcases he with z |z
    ·exact Vj c b hc z
    ·rw[hc] at z;cases z;exact hb rfl
end
structure Un(fs ex:List zdv)(H H':Hp)(h h':Heap):Prop where
 keep:∀b o,h.get? b=some o->H b=none->b ∉ fs->b ∉ ex->h'.get? b=some o
 slot:∀b o,h.get? b=some o->H b=none->b∈fs->b ∉ ex->∃sl,h'.get? b=some {o with slots:=sl}
 free:∀b o,h.get? b=some o->H b=none->b ∉ ex->H' b=none
 there:∀b o,h.get? b=some o->b ∉ ex->∃o',h'.get? b=some o'
 pH:∀b xs,H b=some (.tup xs)->H' b=some (.tup xs)
 pj:∀b o u,H b=some (.Kn o u)->H' b=some (.Kn o u)
 pk:∀b ps,H b=some (.nT ps)->∃more,H' b=some (.nT (ps++more))
section
variable{fs Uz ex ex':List zdv}{H H1 H2:Hp}{h h1 h2 h':Heap}{a x e:zdv}{o:HO}
theorem Un.any(u:Un fs ex H H1 h h1){b:zdv}{ob:Obj}(q:h.get? b=some ob)(n:H b=none)(hx:b ∉ ex):∃sl,h1.get? b=some {ob with slots:=sl}:=by
 by_cases hb:b∈fs
 ·exact u.slot b ob q n hb hx
 ·exact⟨ob.slots,u.keep b ob q n hb hx⟩
theorem Un.kept(k:∀b u,h.get? b=some u->h'.get? b=some u):Un fs ex H H h h':=
 ⟨fun b ob q _ _ _=>k b ob q,fun b ob q _ _ _=>⟨ob.slots,k b ob q⟩,fun _ _ _ n _=>n,fun b ob q _=>⟨ob,k b ob q⟩,fun _ _ q=>q,fun _ _ _ q=>q,fun _ ps q=>⟨#[],by rw[q];simp⟩⟩
theorem Un.refl:Un fs ex H H h h:=Un.kept fun _ _ q=>q
theorem Un.laid(k:∀b u,h.get? b=some u->h'.get? b=some u)(hp:h.objs.size<=a)(hn:H a=none):Un fs ex H (upd H a o) h h' where
 keep:=fun b u q _ _ _=>k b u q
 slot:=fun b u q _ _ _=>⟨u.slots,k b u q⟩
 free:=fun b u q n _=>by rw[au (zaD (zaz (Heap.lt_size q) hp))];exact n
 there:=fun b u q _=>⟨u,k b u q⟩
 pH:=fun b xs q=>by rw[au (aj q hn)];exact q
 pj:=fun b u xs q=>by rw[au (aj q hn)];exact q
 pk:=fun b ps q=>⟨#[],by rw[au (aj q hn),q];simp⟩
theorem Un.write(mu:Vi (H x))(he:e=x\/H e=some (.own x))(k:∀b u,b≠e->h.get? b=some u->h'.get? b=some u)(Uy:∃u,h'.get? e=some u):Un fs ex H (upd H x o) h h':=by
 have hx:∀b,H b=none->b≠x:=fun b n z=>by subst z;rw[n] at mu;exact mu
 have hb:∀b,H b=none->b≠e:=fun b n z=>by
  subst z;rcases he with r |r
  ·exact hx b n r
  ·rw[n] at r;cases r
 have hm:∀b u,H b=some u->¬Vi (some u)->b≠x:=fun b u q nm z=>by subst z;rw[q] at mu;exact nm mu
 refine⟨fun b u q n _ _=>k b u (hb b n) q,fun b u q n _ _=>⟨u.slots,k b u (hb b n) q⟩,fun b u q n _=>by rw[au (hx b n)];exact n,fun b u q _=>?_,
  fun b xs q=>by rw[au (hm b _ q fun z=>z)];exact q,fun b u xs q=>by rw[au (hm b _ q fun z=>z)];exact q,fun b ps q=>⟨#[],by rw[au (hm b _ q fun z=>z),q];simp⟩⟩
 by_cases RT:b=e
 ·subst RT;exact Uy
 ·exact⟨u,k b u RT q⟩
end
def Ka (h:Heap) (H:Hp):List zdv:=(zaB h.objs.size).filter fun a=>(H a).isSome
def Bn (h:Heap) (H:Hp):Heap:=zcz h (Ka h H)
theorem Ig(h:Heap)(H:Hp):(Bn h H).objs.size=h.objs.size:=PySem.W.hideAll_size _ _
theorem uq{h:Heap}{H:Hp}{b:zdv}{o:Obj}(e:h.get? b=some o)(n:H b=none):(Bn h H).get? b=some o:=
 zdp _ e fun hm=>by
  have q:(H b).isSome=true:=(zb3.mp hm).2;rw[n] at q;simp at q
theorem Og{h:Heap}{H:Hp}{b:zdv}{o:Obj}(e:(Bn h H).get? b=some o):h.get? b=some o/\H b=none:=by
 have e':h.get? b=some o:=zcM (Ka h H) e;refine⟨e',?_⟩;cases q:H b with
 |none=>rfl
 |some x=>
  have hm:b∈Ka h H:=zb3.mpr ⟨zaS.mpr (Heap.lt_size e'),by simp[q]⟩;have z:(Bn h H).get? b=none:=PySem.W.hideAll_none (Ka h H) hm;rw[z] at e;cases e
structure Mod(K:zaa)(mg:Str->Option zdw)(base:Heap):Prop where
 RU:K.In base
 glob:base.Ns zdC mg
 blt:∃mb,base.Ns builtinsNs mb/\∀x:Str,x≠"__name__"->mb x=bootBuiltins x
 nolimit:base.NoLimit
structure Cx where
 prog:zdH
 w:zdx
 K:zaa
 mg:Str->Option zdw
 base:Heap
 A:zdG
 N:List Str
 s₀:zdF
 H₀:Hp
 env:Env
 outer:List Env
 stack:List Env
 ex:List zdv
 fn:Str->Bool
 calm:Bool
 pn:List (zdv×Obj)
 xe:zdw->zdF->Prop
def rB (l:List Env):List zdv:=l.filterMap (·.frame)
abbrev Cx.fs (X:Cx):List zdv:=rB X.outer
def Vk (sc:Scope) (x:Str):Prop:=sc.names.lookup x=some .local\/sc.names.lookup x=some .cell\/sc.names.lookup x=some .free
def Loc (sc:Scope) (x:Str):Prop:=sc.names.lookup x=some .local\/sc.names.lookup x=some .cell
def Look (env:Env) (h:Heap) (m:Str->Option zdw) (x:Str) (u:zdw):Prop:=
 (env.kindOf x=some .local/\m x=some u)\/((env.kindOf x=some .cell\/env.kindOf x=some .free)/\∃c,env.cells.lookup x=some c/\h.IsCell c (some u))
structure Cx.Ok(X:Cx):Prop where
 mod:Mod X.K X.mg X.base
 kind:X.env.scope.kind=.function
 glob:X.env.globals=zdC
 blt:X.env.builtins=builtinsNs
 above:X.s₀.heap.objs.size<=X.env.locals
 inj:∀x y c,X.env.cells.lookup x=some c->X.env.cells.lookup y=some c->x=y
 has:∀x,(X.env.kindOf x=some .cell\/X.env.kindOf x=some .free)->∃c,X.env.cells.lookup x=some c
 Ih:∀x c,X.fn x=true->X.env.cells.lookup x=some c->X.s₀.heap.objs.size<=c
 hd:X.calm=true->X.A.handled=none
 frames:X.A.frames=some X.stack
 NW:X.stack=X.outer\/(X.stack=X.env::X.outer/\X.env.frame=some X.env.locals)
 UA:∀b∈X.ex,b≠X.env.locals/\∀x c,X.env.cells.lookup x=some c->c≠b
 bs:∀b o,X.base.get? b=some o->X.s₀.heap.get? b=some o/\X.H₀ b=none
 CV:X.base.objs.size<=X.s₀.heap.objs.size
 Bo:∀b o,X.base.get? b=some o->b ∉ X.ex
 CY:∀b∈X.ex,b ∉ X.fs
 mL:X.s₀.heap.FunFrames X.base X.outer
 Gy:∀b∈X.fs,X.H₀ b=none
structure Inv(X:Cx)(pins:List (zdv×Obj))(σ:List (Option V))(H:Hp)(s:zdF):Prop where
 ok:X.Ok
 os:s.os=X.s₀.os
 bare:AllBare s.gens
 base:Un X.fs X.ex X.H₀ H X.s₀.heap s.heap
 loc:∃m,s.heap.Ns X.env.locals m/\∀(i:Nat) (x:Str) (v:V),X.N[i]?=some x->σ[i]?=some (some v)->Vk X.env.scope x->∃u,RelV v u/\Look X.env s.heap m x u
 cell:∀x c,X.env.cells.lookup x=some c->∃v,s.heap.IsCell c v
 free:H X.env.locals=none
 i7:∀x c,X.env.cells.lookup x=some c->H c=none
 pin:∀p∈X.pn++pins,s.heap.get? p.1=some p.2/\H p.1=none/\p.1≠X.env.locals/\p.1 ∉ X.fs/\∀v,p.2.data≠.cell v
 bX:mq X.prog X.w H s.heap
 len:σ.length=X.N.length
section
variable{X:Cx}{pins:List (zdv×Obj)}{σ:List (Option V)}{H H':Hp}{s:zdF}{h':Heap}
theorem Cx.Ok.Zn(ok:X.Ok){b:zdv}{o:Obj}(e:X.base.get? b=some o):b ∉ X.fs:=fun hb=>by
 have:=(ok.mL.mem hb).1;rw[e] at this;cases this
theorem Inv.bs(I:Inv X pins σ H s):∀b o,X.base.get? b=some o->s.heap.get? b=some o/\H b=none:=fun b o e=>
 ⟨I.base.keep b o (I.ok.bs b o e).1 (I.ok.bs b o e).2 (I.ok.Zn e) (I.ok.Bo b o e),I.base.free b o (I.ok.bs b o e).1 (I.ok.bs b o e).2 (I.ok.Bo b o e)⟩
theorem Inv.bk(I:Inv X pins σ H s):∀b o,X.base.get? b=some o->s.heap.get? b=some o:=fun b o e=>(I.bs b o e).1
theorem Inv.mod(I:Inv X pins σ H s):Mod X.K X.mg X.base:=I.ok.mod
theorem Inv.AK(I:Inv X pins σ H s):X.K.In s.heap:=I.ok.mod.RU.keeps I.bk
theorem Inv.lt(I:Inv X pins σ H s):X.env.locals<s.heap.objs.size:=let ⟨_,hn,_⟩:=I.loc;hn.lt
theorem Inv.sz(I:Inv X pins σ H s):X.s₀.heap.objs.size<=s.heap.objs.size:=zaw I.ok.above (zcs I.lt)
theorem Inv.Zo(I:Inv X pins σ H s){a:zdv}(h:s.heap.objs.size<=a):a ∉ X.fs:=fun hb=>by
 obtain⟨_,o,ho,_⟩:=I.ok.mL.mem hb;exact absurd (zaz (Heap.lt_size ho) (zaw I.sz h)) (zaP _)
theorem Inv.Kb(I:Inv X pins σ H s):∀x c,X.env.cells.lookup x=some c->c≠X.env.locals:=fun x c e z=>by
 obtain⟨v,o,ho,hd⟩:=I.cell x c e;obtain⟨m,⟨o',es,ep,rC,Ab,_⟩,_⟩:=I.loc;rw[z,rC] at ho;cases ho;rw[Ab] at hd;cases hd
theorem Inv.mL(I:Inv X pins σ H s):s.heap.FunFrames X.base X.outer:=by
 have all:∀(l:List Env),(∀b∈rB l,b∈X.fs)->X.s₀.heap.FunFrames X.base l->s.heap.FunFrames X.base l:=by
  intro l
  induction l with
  |nil=>intro _ _;trivial
  |cons env r ih=>
   intro hs hl;obtain⟨hk,⟨L,o,hf,hn,ho,hd⟩,hr⟩:=hl;have hL:L∈X.fs:=hs L (by unfold rB;rw[zcB,hf];exact zan);obtain⟨sl,e⟩:=I.base.slot L o ho (I.ok.Gy L hL) hL fun z=>I.ok.CY L z hL;exact⟨hk,⟨L,_,hf,hn,e,hd⟩,ih (fun b hb=>hs b (by unfold rB;rw[zcB,hf];exact zaj _ hb)) hr⟩
 exact all X.outer (fun _ hb=>hb) I.ok.mL
theorem Inv.stack(I:Inv X pins σ H s):s.heap.FunFrames X.base X.stack:=by
 rcases I.ok.NW with e |⟨e,hf⟩
 ·rw[e];exact I.mL
 ·rw[e];obtain⟨m,hn,_⟩:=I.loc;refine .cons (by rw[I.ok.kind];decide) hf hn ?_ I.mL;exact Heap.get?_none_of_le (zaw I.ok.CV I.ok.above)
theorem Inv.tj(I:Inv X pins σ H s):∀b∈rB X.stack,b∈X.env.locals::X.fs:=fun b hb=>by
 rcases I.ok.NW with e |⟨e,hf⟩
 ·rw[e] at hb;exact zaj _ hb
 ·rw[e] at hb;unfold rB at hb;rw[zcB,hf] at hb;exact hb
theorem Inv.ur(I:Inv X pins σ H s):∀b∈rB X.stack,H b=none:=fun b hb=>by
 rcases zah.mp (I.tj b hb) with e |hb
 ·rw[e];exact I.free
 ·obtain⟨_,o,ho,_⟩:=I.ok.mL.mem hb;exact I.base.free b o ho (I.ok.Gy b hb) fun z=>I.ok.CY b z hb
theorem Inv.step{g':Array GenState}{t':Nat}{d':Drawn}{ch:List zdv}(I:Inv X pins σ H s)
 (NX:∀b∈ch,(b∈X.ex\/X.s₀.heap.objs.size<=b)/\b≠X.env.locals/\(∀x c,X.env.cells.lookup x=some c->c≠b)/\∀p∈X.pn++pins,p.1≠b)
 (keep:∀b o,b≠X.env.locals->b ∉ X.fs->b ∉ ch->s.heap.get? b=some o->H b=none->h'.get? b=some o)
 (slot:∀b o,b≠X.env.locals->b∈X.fs->b ∉ ch->s.heap.get? b=some o->H b=none->∃sl,h'.get? b=some {o with slots:=sl}) (free:∀b o,b ∉ ch->s.heap.get? b=some o->H b=none->H' b=none)
 (there:∀b o,b ∉ ch->s.heap.get? b=some o->∃o',h'.get? b=some o')
 (pH:∀b xs,H b=some (.tup xs)->H' b=some (.tup xs)) (pj:∀b o u,H b=some (.Kn o u)->H' b=some (.Kn o u)) (pk:∀b ps,H b=some (.nT ps)->∃more,H' b=some (.nT (ps++more)))
 (ns:∀m,s.heap.Ns X.env.locals m->h'.Ns X.env.locals m) (bX:mq X.prog X.w H' h') (hg:AllBare g') :
 Inv X pins σ H' {s with heap:=h',gens:=g',drawn:=d',toks:=t' }:=by
 have X6:∀b o,X.s₀.heap.get? b=some o->b≠X.env.locals:=fun b o e=>zaD (zaz (Heap.lt_size e) I.ok.above);have X7:∀b o,X.s₀.heap.get? b=some o->b ∉ X.ex->b ∉ ch:=fun b o e hx hb=>by
  rcases(NX b hb).1 with z |z
  ·exact hx z
  ·exact absurd (zaz (Heap.lt_size e) z) (zaP _)
 have cellK:∀x c,X.env.cells.lookup x=some c->∀v,s.heap.IsCell c v->h'.IsCell c v:=fun x c e v ⟨o,ho,hd⟩=>by
  have Vl:c ∉ ch:=fun z=>(NX c z).2.2.1 x c e rfl;by_cases hc:c∈X.fs
  ·obtain⟨sl,q⟩:=slot c o (I.Kb x c e) hc Vl ho (I.i7 x c e);exact⟨_,q,hd⟩
  ·exact⟨o,keep c o (I.Kb x c e) hc Vl ho (I.i7 x c e),hd⟩
 refine⟨I.ok,I.os,hg,⟨fun b o e n hb hx=>?_,fun b o e n hb hx=>?_,fun b o e n hx=>?_,fun b o e hx=>?_,fun b xs e=>pH b xs (I.base.pH b xs e),fun b o xs e=>pj b o xs (I.base.pj b o xs e),fun b ps e=>?_⟩,?_,fun x c e=>?_,?_,fun x c e=>?_,fun p hp=>?_,bX,I.len⟩
 ·exact keep b o (X6 b o e) hb (X7 b o e hx) (I.base.keep b o e n hb hx) (I.base.free b o e n hx)
 ·obtain⟨sl,e1⟩:=I.base.slot b o e n hb hx;obtain⟨Vm,e2⟩:=slot b _ (X6 b o e) hb (X7 b o e hx) e1 (I.base.free b o e n hx);exact⟨Vm,e2⟩
 ·obtain⟨o',e1⟩:=I.base.there b o e hx;exact free b o' (X7 b o e hx) e1 (I.base.free b o e n hx)
 ·obtain⟨o',e1⟩:=I.base.there b o e hx;exact there b o' (X7 b o e hx) e1
 ·obtain⟨m1,e1⟩:=I.base.pk b ps e;obtain⟨m2,e2⟩:=pk b _ e1;exact⟨m1++m2,by rw[e2,Array.append_assoc]⟩
 ·obtain⟨m,hn,hl⟩:=I.loc;refine⟨m,ns m hn,fun i x v e1 e2 e3=>?_⟩;obtain⟨u,r,l⟩:=hl i x v e1 e2 e3;refine⟨u,r,?_⟩;rcases l with l |⟨k,c,e,z⟩
  ·exact .inl l
  ·exact .inr ⟨k,c,e,cellK x c e _ z⟩
 ·obtain⟨v,z⟩:=I.cell x c e;exact⟨v,cellK x c e v z⟩
 ·obtain⟨m,⟨o,_,_,ho,_⟩,_⟩:=I.loc;exact free _ o (fun z=>(NX _ z).2.1 rfl) ho I.free
 ·obtain⟨v,o,ho,hd⟩:=I.cell x c e;exact free c o (fun z=>(NX c z).2.2.1 x c e rfl) ho (I.i7 x c e)
 ·obtain⟨e,n,ne,nf,d⟩:=I.pin p hp;have Vl:p.1 ∉ ch:=fun z=>(NX p.1 z).2.2.2 p hp rfl;exact⟨keep p.1 p.2 ne nf Vl e n,free p.1 p.2 Vl e n,ne,nf,d⟩
theorem Inv.un{t':Nat}(I:Inv X pins σ H s)(u:Un X.fs [] H H' s.heap h')(bX:mq X.prog X.w H' h'):Inv X pins σ H' {s with heap:=h',toks:=t' }:=by
 obtain⟨m,⟨o,es,ep,ho,r⟩,_⟩:=id I.loc;obtain⟨sl,hL⟩:=u.any ho I.free (by simp);exact I.step (g':=s.gens) (d':=s.drawn) (ch:=[]) (fun _ z=>nomatch z) (fun b o _ hb _ e n=>u.keep b o e n hb (by simp)) (fun b o _ hb _ e n=>u.slot b o e n hb (by simp)) (fun b o _ e n=>u.free b o e n (by simp)) (fun b o _ e=>u.there b o e (by simp)) u.pH u.pj u.pk (fun m' hm=>by
  obtain⟨o',Zp,Zq,rC,r'⟩:=hm;rw[ho] at rC;cases rC;exact⟨_,Zp,Zq,hL,r'⟩) bX I.bare
theorem Inv.call{g':Array GenState}{t':Nat}{d':Drawn}{ch:List zdv}(I:Inv X pins σ H s)(u:Un (rB X.stack) ch H H' s.heap h')(bX:mq X.prog X.w H' h')(hg:AllBare g')
 (NX:∀b∈ch,(b∈X.ex\/X.s₀.heap.objs.size<=b)/\b≠X.env.locals/\(∀x c,X.env.cells.lookup x=some c->c≠b)/\∀p∈X.pn++pins,p.1≠b) :
 Inv X pins σ H' {s with heap:=h',gens:=g',drawn:=d',toks:=t' }:=by
 obtain⟨m,⟨o,es,ep,ho,r⟩,_⟩:=id I.loc;obtain⟨sl,hL⟩:=u.any ho I.free fun z=>(NX _ z).2.1 rfl;exact I.step (ch:=ch) NX (fun b o hL hb hc e n=>u.keep b o e n (fun z=>(zah.mp (I.tj b z)).elim hL hb) hc) (fun b o _ _ hc e n=>u.any e n hc) (fun b o hc e n=>u.free b o e n hc) (fun b o hc e=>u.there b o e hc) u.pH u.pj u.pk (fun m' hm=>by
  obtain⟨o',Zp,Zq,rC,r'⟩:=hm;rw[ho] at rC;cases rC;exact⟨_,Zp,Zq,hL,r'⟩) bX hg
theorem Inv.turned{t':Nat}{it:zdv}(I:Inv X pins σ H s)(k:∀b o,b≠it->s.heap.get? b=some o->h'.get? b=some o)(hn:H it=none)(hL:it≠X.env.locals)
 (h1:it∈X.ex\/X.s₀.heap.objs.size<=it) (h2:∀x c,X.env.cells.lookup x=some c->c≠it) (h3:∀p∈X.pn++pins,p.1≠it):Inv X pins σ H {s with heap:=h',toks:=t' }:=by
 have Vn:∀b u,H b=some u->b≠it:=fun b u e z=>by rw[z,hn] at e;cases e
 refine I.step (g':=s.gens) (d':=s.drawn) (ch:=[it]) (fun b hb=>?_) (fun b o _ _ hc e _=>k b o (fun z=>hc (by simp[z])) e) (fun b o _ _ hc e _=>⟨o.slots,k b o (fun z=>hc (by simp[z])) e⟩) (fun _ _ _ _ n=>n)
  (fun b o hc e=>⟨o,k b o (fun z=>hc (by simp[z])) e⟩) (fun _ _ e=>e) (fun _ _ _ e=>e) (fun b ps e=>⟨#[],by rw[e];simp⟩) (fun m hm=>?_) (fun b u e=>?_) I.bare
 ·have e:b=it:=by simpa using hb
  subst e;exact⟨h1,hL,h2,h3⟩
 ·obtain⟨o,es,ep,ho,r⟩:=hm;exact⟨o,es,ep,k _ o (Ne.symm hL) ho,r⟩
 ·refine(I.bX b u e).sZ (fun c v hc q=>k c v ?_ q) (fun _ q=>q) fun _ _ q=>q;rcases hc with z |z
  ·rw[z];exact Vn b u e
  ·exact Vn c _ z
theorem Inv.tok(I:Inv X pins σ H s)(t:Nat):Inv X pins σ H {s with toks:=t}:=I.un (h':=s.heap) (t':=t) Un.refl I.bX
theorem Inv.kept{t':Nat}(I:Inv X pins σ H s)(k:∀b u,s.heap.get? b=some u->h'.get? b=some u):Inv X pins σ H {s with heap:=h',toks:=t' }:=I.un (Un.kept k) (I.bX.kept k)
theorem Inv.laid{a:zdv}{o:HO}{t':Nat}(I:Inv X pins σ H s)(k:∀b u,s.heap.get? b=some u->h'.get? b=some u)(hp:s.heap.objs.size<=a)(new:du X.prog X.w (upd H a o) h' a o) :
 Inv X pins σ (upd H a o) {s with heap:=h',toks:=t' }:=I.un (Un.laid k hp (I.bX.fresh hp)) (I.bX.laid k hp new)
theorem Inv.write{x e:zdv}{o:HO}{t':Nat}(I:Inv X pins σ H s)(mu:Vi (H x))(he:e=x\/H e=some (.own x))(k:∀b u,b≠e->s.heap.get? b=some u->h'.get? b=some u)(Uy:∃u,h'.get? e=some u)
 (new:du X.prog X.w (upd H x o) h' x o):Inv X pins σ (upd H x o) {s with heap:=h',toks:=t' }:=I.un (Un.write mu he k Uy) (I.bX.write mu he k Uy new)
theorem Inv.Gz{wV:List (zdv×Obj)}(I:Inv X pins σ H s)(h:∀p∈wV,s.heap.get? p.1=some p.2/\H p.1=none/\p.1≠X.env.locals/\p.1 ∉ X.fs/\∀v,p.2.data≠.cell v):Inv X wV σ H s:=
 ⟨I.ok,I.os,I.bare,I.base,I.loc,I.cell,I.free,I.i7,fun p hp=>(zak.mp hp).elim (fun z=>I.pin p (zaN _ z)) (h p),I.bX,I.len⟩
theorem xZ{N:List Str}(hN:N.Nodup){i j:Nat}{x:Str}(a:N[i]?=some x)(b:N[j]?=some x):i=j:=by
 obtain⟨h1,e1⟩:=zam.mp a;obtain⟨h2,e2⟩:=zam.mp b;exact(List.getElem_inj hN).mp (e1.trans e2.symm)
theorem AL{M:Model}{A:zdG}{E:zdw->zdF->Prop}{i:Nat}{x:Str}{v:V}{u:zdw}{Q:Unit->zdF->Prop}(I:Inv X pins σ H s)(hN:X.N.Nodup)(hi:X.N[i]?=some x)(hx:Loc X.env.scope x)(r:RelV v u)
 (h:∀s',Inv X pins (σ.set i (some v)) H s'->(∃a,Heap.SameBut a s.heap s'.heap/\(a=X.env.locals\/X.env.cells.lookup x=some a))->Q () s') (hf:X.fn x=true\/X.env.scope.names.lookup x=some .local:=by first |exact .inl rfl |exact .inr rfl |assumption):wpAny M A (storeName X.env x u) Q E s:=by
 obtain⟨m,hn,hl⟩:=id I.loc;have Zr:(X.env.scope.kind==.class ||(X.env.scope.kind==.module&&X.env.locals != X.env.globals))=false:=by rw[I.ok.kind];rfl
 have Vo:i<σ.length:=by rw[I.len];exact(zam.mp hi).1
 have Kb:=I.Kb;have tracked:∀ {a:zdv} {h':Heap},(∃o,s.heap.get? a=some o/\H a=none)->Heap.SameBut a s.heap h'->mq X.prog X.w H h':=fun {a h'} ha hs b ob e=>by
  obtain⟨_,_,uv⟩:=ha;refine(I.bX b ob e).sZ (fun c w' hc q=>(hs.2 c ?_).trans q) (fun _ q=>q) fun _ _ q=>q
  rintro rfl
  rcases hc with rfl |hc
  ·rw[uv] at e;cases e
  ·rw[uv] at hc;cases hc
 rcases hx with hk |hk
 ·refine wpAny_storeName_local hk hn (fun h' Oh hs=>?_) Zr;obtain⟨oL,_,_,X8,_⟩:=id hn;refine h _ ⟨I.ok,I.os,I.bare,⟨fun b o e n hb hx=>?_,fun b o e n hb hx=>?_,I.base.free,fun b o e hx=>?_,I.base.pH,I.base.pj,I.base.pk⟩,⟨_,Oh,fun j y v' e1 e2 e3=>?_⟩,fun y c e=>?_,I.free,I.i7,fun p hp=>?_,tracked ⟨oL,X8,I.free⟩ hs,by simpa using I.len⟩ ⟨_,hs,.inl rfl⟩
  ·exact(hs.2 b (zaD (zaz (Heap.lt_size e) I.ok.above))).trans (I.base.keep b o e n hb hx)
  ·obtain⟨sl,e1⟩:=I.base.slot b o e n hb hx;exact⟨sl,(hs.2 b (zaD (zaz (Heap.lt_size e) I.ok.above))).trans e1⟩
  ·obtain⟨o',e1⟩:=I.base.there b o e hx;exact⟨o',(hs.2 b (zaD (zaz (Heap.lt_size e) I.ok.above))).trans e1⟩
  ·by_cases hj:j=i
   ·subst hj;rw[hi] at e1;cases e1;rw[zbR Vo] at e2;cases e2;exact⟨u,r,.inl ⟨hk,by simp⟩⟩
   ·rw[zbU (Ne.symm hj)] at e2;obtain⟨u',r',q⟩:=hl j y v' e1 e2 e3;refine⟨u',r',?_⟩;rcases q with ⟨k,e⟩ |⟨k,c,e,z⟩
    ·refine .inl ⟨k,?_⟩;have:y≠x:=fun e=>hj (xZ hN e1 (e▸hi));simp[this,e]
    ·exact .inr ⟨k,c,e,z.sameBut hs (Kb y c e)⟩
  ·obtain⟨w',z⟩:=I.cell y c e;exact⟨w',z.sameBut hs (Kb y c e)⟩
  ·obtain⟨e,n,ne,nf,d⟩:=I.pin p hp;exact⟨(hs.2 p.1 ne).trans e,n,ne,nf,d⟩
 ·have RV:X.fn x=true:=by
   rcases hf with z |z
   ·exact z
   ·rw[z] at hk;cases hk
  obtain⟨c,hc⟩:=I.ok.has x (.inl hk);obtain⟨w',z⟩:=I.cell x c hc;refine wpAny_storeName_cell I.ok.kind hk hc z (fun h' RW hs=>?_);obtain⟨oc,RX,Zs⟩:=id z;refine h {s with heap:=h' } ⟨I.ok,I.os,I.bare,⟨fun b o e n hb hx=>?_,fun b o e n hb hx=>?_,I.base.free,fun b o e hx=>?_,I.base.pH,I.base.pj,I.base.pk⟩,⟨m,hn.sameBut hs (Ne.symm (Kb x c hc)),fun j y v' e1 e2 e3=>?_⟩,fun y c' e=>?_,I.free,I.i7,fun p hp=>?_,tracked ⟨oc,RX,I.i7 x c hc⟩ hs,by simpa using I.len⟩ ⟨c,hs,.inr hc⟩
  ·exact(hs.2 b (zaD (zaz (Heap.lt_size e) (I.ok.Ih x c RV hc)))).trans (I.base.keep b o e n hb hx)
  ·obtain⟨sl,e1⟩:=I.base.slot b o e n hb hx;exact⟨sl,(hs.2 b (zaD (zaz (Heap.lt_size e) (I.ok.Ih x c RV hc)))).trans e1⟩
  ·obtain⟨o',e1⟩:=I.base.there b o e hx;exact⟨o',(hs.2 b (zaD (zaz (Heap.lt_size e) (I.ok.Ih x c RV hc)))).trans e1⟩
  ·by_cases hj:j=i
   ·subst hj;rw[hi] at e1;cases e1;rw[zbR Vo] at e2;cases e2;exact⟨u,r,.inr ⟨.inl hk,c,hc,RW⟩⟩
   ·rw[zbU (Ne.symm hj)] at e2;obtain⟨u',r',q⟩:=hl j y v' e1 e2 e3;refine⟨u',r',?_⟩;rcases q with q |⟨k,c',e,z'⟩
    ·exact .inl q
    ·refine .inr ⟨k,c',e,z'.sameBut hs ?_⟩
     rintro rfl
     exact hj (xZ hN e1 (I.ok.inj _ _ _ e hc▸hi))
  ·by_cases GA:c'=c
   ·subst GA;exact⟨_,RW⟩
   ·obtain⟨w2,z2⟩:=I.cell y c' e;exact⟨w2,z2.sameBut hs GA⟩
  ·obtain⟨e,n,ne,nf,d⟩:=I.pin p hp;refine⟨(hs.2 p.1 ?_).trans e,n,ne,nf,d⟩;intro q;rw[q,RX] at e;have q':oc=p.2:=za1.inj e;exact d w' (by rw[<- q'];exact Zs)
theorem x4{M:Model}{A:zdG}{E:zdw->zdF->Prop}{i:Nat}{x:Str}{v:V}{u:zdw}{Q:Unit->zdF->Prop}(I:Inv X pins σ H s)(hN:X.N.Nodup)(hi:X.N[i]?=some x)(hx:Loc X.env.scope x)(r:RelV v u)
 (h:∀s',Inv X pins (σ.set i (some v)) H s'->Q () s') (hf:X.fn x=true\/X.env.scope.names.lookup x=some .local:=by first |exact .inl rfl |exact .inr rfl |assumption):wpAny M A (storeName X.env x u) Q E s:=
 AL I hN hi hx r (fun s' I' _=>h s' I') hf
theorem Inv.QP{s':zdF}{ch:List zdv}(I:Inv X pins σ H s)(ho:s'.os=s.os)(u:Un (rB X.stack) ch H H' s.heap s'.heap)(bX:mq X.prog X.w H' s'.heap)(hg:AllBare s'.gens)
 (NX:∀b∈ch,(b∈X.ex\/X.s₀.heap.objs.size<=b)/\b≠X.env.locals/\(∀x c,X.env.cells.lookup x=some c->c≠b)/\∀p∈X.pn++pins,p.1≠b):Inv X pins σ H' s':=by
 obtain⟨h',g',d',t',o'⟩:=s';have e:o'=s.os:=ho;subst e;exact I.call (g':=g') (t':=t') (d':=d') u bX hg NX
end
abbrev XK:=zdw->Option zdv->Hp->Prop
abbrev St:=List (Option V)
abbrev VK:=V->Hp->Prop
abbrev TE:=St->Hp->VK->Prop
abbrev TT:=St->Hp->(Bool->Hp->Prop)->Prop
abbrev TA:=St->Hp->(List V->Hp->Prop)->Prop
structure Ends where
 nx:St->Hp->Prop
 rt:VK
 bk:St->Hp->Prop:=fun _ _=>False
 ct:St->Hp->Prop:=fun _ _=>False
abbrev TS:=Ends->St->Hp->Prop
def EP (X:Cx) (pins:List (zdv×Obj)) (σ:St) (Q:VK) (u:zdw) (s':zdF):Prop:=∃v H',Inv X pins σ H' s'/\RelV v u/\Q v H'
def TP (X:Cx) (pins:List (zdv×Obj)) (σ:St) (Q:Bool->Hp->Prop) (b:Bool) (s':zdF):Prop:=∃H',Inv X pins σ H' s'/\Q b H'
def AP (X:Cx) (pins:List (zdv×Obj)) (σ:St) (Q:List V->Hp->Prop) (us:List zdw) (s':zdF):Prop:=∃vs H',Inv X pins σ H' s'/\Vals vs us/\Q vs H'
def SP (X:Cx) (pins:List (zdv×Obj)) (D:Ends) (f:Flow) (s':zdF):Prop:=
 match f with
 |.next=>∃σ' H',Inv X pins σ' H' s'/\D.nx σ' H'
 |.brk=>∃σ' H',Inv X pins σ' H' s'/\D.bk σ' H'
 |.cont=>∃σ' H',Inv X pins σ' H' s'/\D.ct σ' H'
 |.ret u=>∃v σ' H',Inv X pins σ' H' s'/\RelV v u/\D.rt v H'
def PE (X:Cx) (e:Expr) (t:TE):Prop:=
 ∀(pins:List (zdv×Obj)) (s:zdF) (σ:St) (H:Hp) (Q:VK),Inv X pins σ H s->t σ H Q->wpAny (model X.prog X.w) X.A (eval e X.env) (EP X pins σ Q) X.xe s
def PT (X:Cx) (e:Expr) (t:TT):Prop:=
 ∀(pins:List (zdv×Obj)) (s:zdF) (σ:St) (H:Hp) (Q:Bool->Hp->Prop),Inv X pins σ H s->t σ H Q->wpAny (model X.prog X.w) X.A (isTrue e X.env (eval e X.env)) (TP X pins σ Q) X.xe s
def PW (X:Cx) (e:Expr) (t:TT):Prop:=
 ∀(whole:Sem zdw) (pins:List (zdv×Obj)) (s:zdF) (σ:St) (H:Hp) (Q:Bool->Hp->Prop),Inv X pins σ H s->t σ H Q->wpAny (model X.prog X.w) X.A (isTrue e X.env whole) (TP X pins σ Q) X.xe s
theorem PW.pt{X:Cx}{e:Expr}{t:TT}(h:PW X e t):PT X e t:=h _
def PA (X:Cx) (es:List Expr) (t:TA):Prop:=
 ∀(pos:Pos) (pins:List (zdv×Obj)) (s:zdF) (σ:St) (H:Hp) (Q:List V->Hp->Prop),Inv X pins σ H s->t σ H Q->wpAny (model X.prog X.w) X.A (spliced (backTo pos (zdB es X.env))) (AP X pins σ Q) X.xe s
def PS (X:Cx) (st:Stmt) (t:TS):Prop:=
 ∀(pins:List (zdv×Obj)) (s:zdF) (σ:St) (H:Hp) (D:Ends),Inv X pins σ H s->t D σ H->wpAny (model X.prog X.w) X.A (exec st X.env) (SP X pins D) X.xe s
def CZ (X:Cx) (st:List Stmt) (t:TS):Prop:=
 ∀(pins:List (zdv×Obj)) (s:zdF) (σ:St) (H:Hp) (D:Ends),Inv X pins σ H s->t D σ H->wpAny (model X.prog X.w) X.A (execs st X.env) (SP X pins D) X.xe s
theorem dE{α:Type}{t:Sem α}{Q Q':α->zdF->Prop}{M:Model}{A:zdG}{E:zdw->zdF->Prop}{s:zdF}(h:wpAny M A t Q E s)(hQ:∀a s,Q a s->Q' a s):wpAny M A t Q' E s:=wpAny_mono h hQ fun _ _ x=>x
section
variable{X:Cx}
theorem bin{a b:Expr}{ta tb:TE}(ha:PE X a ta)(hb:PE X b tb){pins:List (zdv×Obj)}{s:zdF}{σ:St}{H:Hp}{R:V->V->Hp->Prop}(I:Inv X pins σ H s)(h:ta σ H fun x H1=>tb σ H1 fun y H2=>R x y H2)
 {α:Type} {Q:α->zdF->Prop} {f:zdw->zdw->Sem α}
 (hf:∀v u s2 x y H2,Inv X pins σ H2 s2->RelV x v->RelV y u->R x y H2->wpAny (model X.prog X.w) X.A (f v u) Q X.xe s2) :
 wpAny (model X.prog X.w) X.A (eval a X.env) (fun v s₁=>wpAny (model X.prog X.w) X.A (eval b X.env) (fun u s₂=>wpAny (model X.prog X.w) X.A (f v u) Q X.xe s₂) X.xe s₁) X.xe s:=by
 refine dE (ha pins s σ H _ I h) fun v s1 zqz=>?_;obtain⟨x,H1,I1,r1,q1⟩:=zqz;refine dE (hb pins s1 σ H1 _ I1 q1) fun u s2 zqz=>?_;obtain⟨y,H2,I2,r2,q2⟩:=zqz;exact hf v u s2 x y H2 I2 r1 r2 q2
def vAt (Q:V->Prop):Option (Option V)->Prop
 |some (some v)=>Q v
 |_=>False
theorem RY{Q:V->Prop}:∀ {o:Option (Option V)},vAt Q o->∃v,o=some (some v)/\Q v
 |some (some v),h=>⟨v,rfl,h⟩
 |some none,h=>h.elim
 |none,h=>h.elim
def fN (i:Nat):TE:=fun σ H Q=>vAt (fun v=>Q v H) σ[i]?
def tC (v:V):TE:=fun _ H Q=>Q v H
theorem RZ{i:Nat}{x:Str}{pos:Pos}(hN:X.N[i]?=some x)(hv:Vk X.env.scope x)(hd:(x==("__debug__":Str))=false:=by decide)(C0:(x==("__classdict__":Str))=false:=by decide):PE X (.Name x pos) (fN i):=by
 intro pins s σ H Q I h;obtain⟨v,e,h⟩:=RY h;obtain⟨m,hn,hl⟩:=I.loc;obtain⟨u,r,l⟩:=hl i x v hN e hv;have fin:EP X pins σ Q u s:=⟨v,H,I,r,h⟩
 rcases l with ⟨hk,hm⟩ |⟨hk,c,hc,wW⟩
 ·exact wpAny_Name (wpAny_loadName_local I.ok.kind hk hn hm fin) hd
 ·rcases hk with hk |hk
  ·exact wpAny_Name (wpAny_loadName_cell I.ok.kind hk hc wW fin) hd
  ·exact wpAny_Name (wpAny_loadName_free I.ok.kind hk hc wW fin C0) hd
theorem ao{i j pos}:PE X (.Constant (.int i) j pos) (tC (.int i)):=fun _ _ _ H _ I h=>wpAny_Constant_int ⟨.int i,H,I.tok _,⟨_,rfl⟩,h⟩
theorem rU{b j pos}:PE X (.Constant (.bool b) j pos) (tC (.bl b)):=fun _ _ _ H _ I h=>Constant_bool ⟨.bl b,H,I,rfl,h⟩
theorem kH{j pos}:PE X (.Constant .none j pos) (tC .dR):=fun _ _ _ H _ I h=>Constant_none ⟨.dR,H,I,rfl,h⟩
theorem aN{x j pos}:PE X (.Constant (.str x) j pos) (tC (.str x)):=fun _ _ _ H _ I h=>Calls.Constant_str ⟨.str x,H,I.tok _,⟨_,rfl⟩,h⟩
def Gl (X:Cx) (x:Str):Prop:=X.env.kindOf x=some .globalImplicit
theorem nU{E:zdw->zdF->Prop}{pins:List (zdv×Obj)}{s:zdF}{σ:St}{H:Hp}{x:Str}{u:zdw}{pos:Pos}{Q:zdw->zdF->Prop}(I:Inv X pins σ H s)(hg:Gl X x)(hm:X.mg x=some u)(h:Q u s)
 (hd:(x==("__debug__":Str))=false:=by decide):wpAny (model X.prog X.w) X.A (eval (.Name x pos) X.env) Q E s:=
 Calls.Name_function_global I.ok.kind hg (Calls.loadGlobal_global (by rw[I.ok.glob];exact I.mod.glob.keeps I.bk) hm h) hd
theorem tm{E:zdw->zdF->Prop}{pins:List (zdv×Obj)}{s:zdF}{σ:St}{H:Hp}{x:Str}{u:zdw}{pos:Pos}{Q:zdw->zdF->Prop}(I:Inv X pins σ H s)(hg:Gl X x)(hm:X.mg x=none)(hv:bootBuiltins x=some u)(h:Q u s)
 (hn:x≠"__name__":=by decide) (hd:(x==("__debug__":Str))=false:=by decide):wpAny (model X.prog X.w) X.A (eval (.Name x pos) X.env) Q E s:=by
 obtain⟨mb,h1,h2⟩:=I.mod.blt;exact Calls.Name_function_global I.ok.kind hg (Calls.loadGlobal_builtin (by rw[I.ok.glob];exact I.mod.glob.keeps I.bk) hm (by rw[I.ok.blt];exact h1.keeps I.bk) ((h2 x hn).trans hv) h) hd
theorem cY{x:Str}{v:V}{u:zdw}{pos:Pos}(hg:Gl X x)(hm:X.mg x=some u)(r:RelV v u)(hd:(x==("__debug__":Str))=false:=by decide):PE X (.Name x pos) (tC v):=
 fun _ _ _ H _ I h=>nU I hg hm ⟨v,H,I,r,h⟩ hd
theorem Oi{x:Str}{v:V}{u:zdw}{pos:Pos}(hg:Gl X x)(hm:X.mg x=none)(hv:bootBuiltins x=some u)(r:RelV v u)(hn:x≠"__name__":=by decide)(hd:(x==("__debug__":Str))=false:=by decide):PE X (.Name x pos) (tC v):=
 fun _ _ _ H _ I h=>tm I hg hm hv ⟨v,H,I,r,h⟩ hn hd
variable{a b:Expr}{ta tb:TE}{pos:Pos}
def tB (t:TE):TT:=fun σ H Q=>t σ H fun x H1=>∃c,x=.bl c/\Q c H1
theorem nV{e:Expr}{t:TE}(h:PE X e t)(he:∀whole,isTrue e X.env whole=(do let v <- whole;standAt e.pos;holding [v] (truthy v)):=by intro _;rfl):PT X e (tB t):=by
 intro pins s σ H Q I hw;refine isTrue_plain (dE (h pins s σ H _ I hw) fun v s1 zqz=>?_) (he _);obtain⟨x,H1,I1,r1,q1⟩:=zqz;obtain⟨d,rfl,q⟩:=q1;cases r1;exact wpAny_truthy_bool ⟨H1,I1,q⟩
variable{tA X9:TT}{rest:List Expr}
def R0 (t u:TT):TT:=fun σ H Q=>t σ H fun c H1=>if c=true then u σ H1 Q else Q false H1
def Zt (t u:TT):TT:=fun σ H Q=>t σ H fun c H1=>if c=true then Q true H1 else u σ H1 Q
def Vp (t:TT):TT:=fun σ H Q=>t σ H fun c H1=>Q (!c) H1
theorem pw_and1(ha:PT X a tA):PW X (.BoolOp .And [a] pos) tA:=by
 intro wh pins s σ H Q I h;refine isTrue_and (dE (ha pins s σ H Q I h) fun c s1 e=>?_);cases c with
 |true=>exact isTrue_and_nil e
 |false=>exact e
theorem pw_or1(ha:PT X a tA):PW X (.BoolOp .Or [a] pos) tA:=by
 intro wh pins s σ H Q I h;refine isTrue_or (dE (ha pins s σ H Q I h) fun c s1 e=>?_);cases c with
 |false=>exact isTrue_or_nil e
 |true=>exact e
theorem pw_and(ha:PT X a tA)(hb:PW X (.BoolOp .And (b::rest) pos) X9):PW X (.BoolOp .And (a::b::rest) pos) (R0 tA X9):=by
 intro wh pins s σ H Q I h;refine isTrue_and (dE (ha pins s σ H _ I h) fun c s1 zqz=>?_);obtain⟨H1,I1,q1⟩:=zqz;cases c with
 |true=>exact hb wh pins s1 σ H1 Q I1 q1
 |false=>exact⟨H1,I1,q1⟩
theorem pw_or(ha:PT X a tA)(hb:PW X (.BoolOp .Or (b::rest) pos) X9):PW X (.BoolOp .Or (a::b::rest) pos) (Zt tA X9):=by
 intro wh pins s σ H Q I h;refine isTrue_or (dE (ha pins s σ H _ I h) fun c s1 zqz=>?_);obtain⟨H1,I1,q1⟩:=zqz;cases c with
 |true=>exact⟨H1,I1,q1⟩
 |false=>exact hb wh pins s1 σ H1 Q I1 q1
theorem Bp(ha:PT X a tA):PT X (.UnaryOp .Not a pos) (Vp tA):=by
 intro pins s σ H Q I h;exact isTrue_not (ha pins s σ H (fun c H1=>Q (!c) H1) I h)
def R1 (ta tb:TE):TE:=fun σ H Q=>ta σ H fun x H1=>∃c,x=.bl c/\if c=true then Q (.bl true) H1 else tb σ H1 Q
def Ko (ta:TE):TE:=fun σ H Q=>ta σ H fun x H1=>∃c,x=.bl c/\Q (.bl (!c)) H1
theorem R3{op}{t:TE}(h:PE X a t):PE X (.BoolOp op [a] pos) t:=fun pins s σ H Q I hw=>BoolOp_one (h pins s σ H Q I hw)
theorem Vq(ha:PE X a ta)(hb:PE X (.BoolOp .Or (b::rest) pos) tb):PE X (.BoolOp .Or (a::b::rest) pos) (R1 ta tb):=by
 intro pins s σ H Q I h;refine BoolOp_or (dE (ha pins s σ H _ I h) fun v s1 zqz=>?_);obtain⟨x,H1,I1,r1,q1⟩:=zqz;obtain⟨c,rfl,q1⟩:=q1;cases r1;refine wpAny_truthy_bool ?_;cases c with
 |false=>exact hb pins s1 σ H1 Q I1 q1
 |true=>exact⟨.bl true,H1,I1,rfl,q1⟩
theorem R4(ha:PE X a ta):PE X (.UnaryOp .Not a pos) (Ko ta):=by
 intro pins s σ H Q I h;refine UnaryOp_ (dE (ha pins s σ H _ I h) fun v s1 zqz=>?_);obtain⟨x,H1,I1,r1,q1⟩:=zqz;obtain⟨c,rfl,q1⟩:=q1;cases r1;exact not_of (wpAny_truthy_bool ⟨.bl (!c),H1,I1,rfl,q1⟩)
end
def jc (K:zaa) (H:Hp) (a:zdv) (xs:List V):Prop:=
 Rd H a (.lst xs)\/
  ∃(o:Obj) (bq:Array zdw) (n:Nat),K.lookup a=some o/\o.cls=.type "list"/\o.dict=none/\o.data=.seq bq n/\bq.size<=zdD/\Vals xs bq.toList
def bQ (K:zaa) (H:Hp) (a:zdv) (xs:List V):Prop:=
 Rd H a (.tup xs)\/
  ∃(o:Obj) (bq:Array zdw) (n:Nat),K.lookup a=some o/\o.cls=.type "tuple"/\o.data=.seq bq n/\bq.size<=zdD/\Vals xs bq.toList
def Zu:zdw->Option V
 |.none=>some .dR
 |.bool b=>some (.bl b)
 |.int i _=>some (.int i)
 |.str x _=>some (.str x)
 |.bytes b _=>some (.Gx b)
 |.float b _=>some (.X4 b)
 |.ref a=>some (.ref a)
 |.type n=>some (.ty n)
 |_=>none
theorem RelV.abs{x:V}{u:zdw}(r:RelV x u):Zu u=some x:=by
 cases x with
 |dR=>cases r;rfl
 |bl _=>cases r;rfl
 |int _=>obtain⟨t,rfl⟩:=r;rfl
 |str _=>obtain⟨t,rfl⟩:=r;rfl
 |Gx _=>obtain⟨t,rfl⟩:=r;rfl
 |X4 _=>obtain⟨t,rfl⟩:=r;rfl
 |ref _=>cases r;rfl
 |ty _=>cases r;rfl
theorem RelV.inj{x y:V}{u:zdw}(r:RelV x u)(q:RelV y u):x=y:=za1.inj (r.abs.symm.trans q.abs)
theorem Vals.inj:∀ {xs ys:List V} {us:List zdw},Vals xs us->Vals ys us->xs=ys
 |_,_,_,.nil,.nil=>rfl
 |_,_,_,.cons r t,.cons r' t'=>by rw[r.inj r',Vals.inj t t']
section
variable{X:Cx}{pins:List (zdv×Obj)}{σ:St}{H:Hp}{s:zdF}{a:zdv}{xs ys:List V}
theorem jc.of{K:zaa}(h:H a=some (.lst xs)):jc K H a xs:=.inl (.inl h)
theorem bQ.of{K:zaa}(h:H a=some (.tup xs)):bQ K H a xs:=.inl (.inl h)
theorem Inv.list(I:Inv X pins σ H s)(h:jc X.K H a xs):∃bq:List zdw,Vals xs bq/\PlainL s.heap a bq.toArray/\xs.length<=zdD:=by
 rcases h with h |⟨o,bq,n,hk,hc,hd,hs,hz,r⟩
 ·obtain⟨z,bq,n,r,e⟩:=h.ok I.bX;exact⟨bq,r,⟨_,n,e,rfl,rfl,rfl⟩,z⟩
 ·refine⟨bq.toList,r,⟨o,n,I.AK a o hk,hc,hd,by simpa using hs⟩,?_⟩;have e:=r.length;simp only[zb1] at e;lia
theorem Inv.tuple(I:Inv X pins σ H s)(h:bQ X.K H a xs):∃bq:List zdw,Vals xs bq/\IsTup s.heap a bq.toArray/\xs.length<=zdD:=by
 rcases h with h |⟨o,bq,n,hk,hc,hs,hz,r⟩
 ·obtain⟨z,bq,r,p⟩:=h.ok I.bX;exact⟨bq,r,p,z⟩
 ·refine⟨bq.toList,r,⟨o,I.AK a o hk,hc,n,by simpa using hs⟩,?_⟩;have e:=r.length;simp only[zb1] at e;lia
theorem Inv.C1(I:Inv X pins σ H s)(h:jc X.K H a xs)(h':jc X.K H a ys):xs=ys:=by
 obtain⟨bq,r,⟨o,n,e,_,_,d⟩,_⟩:=I.list h;obtain⟨its',r',⟨o',n',e',_,_,d'⟩,_⟩:=I.list h';rw[e] at e';cases e';rw[d] at d'
 injection d' with d1 _
 have:bq=its':=by simpa using congrArg Array.toList d1
 subst this;exact r.inj r'
end
abbrev Cx.Ac (X:Cx) (E:zdw->zdF->Prop):Cx:={X with xe:=E}
abbrev Cx.Vr (X:Cx):Cx:=X.Ac fun _ _=>False
theorem Cx.Ok.Ac{X:Cx}(ok:X.Ok)(E:zdw->zdF->Prop):(X.Ac E).Ok:=
 ⟨ok.mod,ok.kind,ok.glob,ok.blt,ok.above,ok.inj,ok.has,ok.Ih,ok.hd,ok.frames,ok.NW,ok.UA,ok.bs,ok.CV,ok.Bo,ok.CY,ok.mL,ok.Gy⟩
theorem Cx.Ok.pI{X:Cx}{E:zdw->zdF->Prop}(ok:(X.Ac E).Ok):X.Ok:=
 ⟨ok.mod,ok.kind,ok.glob,ok.blt,ok.above,ok.inj,ok.has,ok.Ih,ok.hd,ok.frames,ok.NW,ok.UA,ok.bs,ok.CV,ok.Bo,ok.CY,ok.mL,ok.Gy⟩
section
variable{X:Cx}{pins:List (zdv×Obj)}{σ:St}{H:Hp}{s:zdF}{E:zdw->zdF->Prop}
theorem Inv.Ac(I:Inv X pins σ H s)(E:zdw->zdF->Prop):Inv (X.Ac E) pins σ H s:=⟨I.ok.Ac E,I.os,I.bare,I.base,I.loc,I.cell,I.free,I.i7,I.pin,I.bX,I.len⟩
theorem Inv.pI(I:Inv (X.Ac E) pins σ H s):Inv X pins σ H s:=⟨I.ok.pI,I.os,I.bare,I.base,I.loc,I.cell,I.free,I.i7,I.pin,I.bX,I.len⟩
theorem SP.pI{D:Ends}{f:Flow}{s':zdF}(h:SP (X.Ac E) pins D f s'):SP X pins D f s':=by
 cases f with
 |next=>obtain⟨σ',H',I,q⟩:=h;exact⟨σ',H',I.pI,q⟩
 |brk=>obtain⟨σ',H',I,q⟩:=h;exact⟨σ',H',I.pI,q⟩
 |cont=>obtain⟨σ',H',I,q⟩:=h;exact⟨σ',H',I.pI,q⟩
 |ret u=>obtain⟨v,σ',H',I,r,q⟩:=h;exact⟨v,σ',H',I.pI,r,q⟩
theorem CZ.Vr{st:List Stmt}{t:TS}(h:CZ X.Vr st t):CZ X st t:=fun pins s σ H D I hw=>
 wpAny_mono (h pins s σ H D (I.Ac _) hw) (fun _ _ q=>q.pI) fun _ _ z=>False.elim z
end
section
variable{X:Cx}{st:Stmt}{rest:List Stmt}{t u:TS}{e:Expr}{te:TE}{pos:Pos}
def Kq:TS:=fun D σ H=>D.nx σ H
def Oj (t u:TS):TS:=fun D σ H=>t {D with nx:=u D} σ H
theorem ba:CZ X [] Kq:=fun _ _ σ H _ I h=>wpAny_execs_nil ⟨σ,H,I,h⟩
theorem ai(h1:PS X st t)(h2:CZ X rest u):CZ X (st::rest) (Oj t u):=by
 intro pins s σ H D I h;refine wpAny_execs_cons (dE (h1 pins s σ H {D with nx:=u D} I h) fun f s1 q=>?_);cases f with
 |next=>
  obtain⟨σ',H',I',q⟩:=q;exact h2 pins s1 σ' H' D I' q
 |ret v=>exact q
 |brk=>exact q
 |cont=>exact q
theorem ar(h1:PS X st t):CZ X [st] t:=by
 intro pins s σ H D I h;refine wpAny_execs_cons (dE (h1 pins s σ H D I h) fun f s1 q=>?_);cases f with
 |next=>exact wpAny_execs_nil q
 |ret v=>exact q
 |brk=>exact q
 |cont=>exact q
theorem Inv.quiet{pins:List (zdv×Obj)}{σ:St}{H:Hp}{s:zdF}(I:Inv X pins σ H s):interactive X.env=false:=by simp[interactive,I.ok.kind]
def Kr (te:TE):TS:=fun D σ H=>te σ H fun _ H1=>D.nx σ H1
theorem eG(he:PE X e te)(hs:swapsWith e none pos.line X.env=pure false:=by rfl):PS X (.Expr e pos) (Kr te):=by
 intro pins s σ H D I h;exact wpAny_Expr_any (dE (he pins s σ H _ I h) fun v s1 ⟨x,H1,I1,r1,q1⟩=>⟨σ,H1,I1,q1⟩) I.quiet hs
def R5 (te:TE):TS:=fun D σ H=>te σ H D.rt
theorem aQ(he:PE X e te):PS X (.Return (some e) pos) (R5 te):=by
 intro pins s σ H D I h;exact wpAny_Return_some (dE (he pins s σ H _ I h) fun v s1 ⟨x,H1,I1,r1,q1⟩=>⟨x,σ,H1,I1,r1,q1⟩)
def Ol (c:TT) (t u:TS):TS:=fun D σ H=>c σ H fun b H1=>if b=true then t D σ H1 else u D σ H1
theorem bY{c:Expr}{a b:List Stmt}{tc:TT}(hc:PT X c tc)(ha:CZ X a t)(hb:CZ X b u):PS X (.If c a b pos) (Ol tc t u):=by
 intro pins s σ H D I h;refine wpAny_If (dE (hc pins s σ H _ I h) fun d s1 zqz=>?_);obtain⟨H1,I1,q1⟩:=zqz;cases d with
 |true=>exact ha pins s1 σ H1 D I1 q1
 |false=>exact hb pins s1 σ H1 D I1 q1
end
abbrev TG:=V->St->Hp->(St->Hp->Prop)->Prop
abbrev Om:=List V->St->Hp->(St->Hp->Prop)->Prop
def PG (X:Cx) (target:Expr) (t:TG):Prop:=
 ∀(pins:List (zdv×Obj)) (s:zdF) (σ:St) (H:Hp) (v:V) (u:zdw) (Q:St->Hp->Prop),Inv X pins σ H s->RelV v u->t v σ H Q->
  wpAny (model X.prog X.w) X.A (assign target X.env u) (fun _ s'=>∃σ' H',Inv X pins σ' H' s'/\Q σ' H') X.xe s
def Vs (X:Cx) (ts:List Expr) (t:Om):Prop:=
 ∀(pins:List (zdv×Obj)) (s:zdF) (σ:St) (H:Hp) (vs:List V) (us:List zdw) (Q:St->Hp->Prop),Inv X pins σ H s->Vals vs us->t vs σ H Q->
  wpAny (model X.prog X.w) X.A (assignInOrder ((assignEach ts X.env).map (·.2)) us) (fun _ s'=>∃σ' H',Inv X pins σ' H' s'/\Q σ' H') X.xe s
abbrev R6:=V->V->V->Hp->(Hp->Prop)->Prop
def Vt (X:Cx) (t:R6):Prop:=
 ∀(pins:List (zdv×Obj)) (s:zdF) (σ:St) (H:Hp) (o i v:V) (ov iv u:zdw) (Q:Hp->Prop),Inv X pins σ H s->RelV o ov->RelV i iv->RelV v u->t o i v H Q->
  wpAny (model X.prog X.w) X.A (setItem ov iv u) (fun _ s'=>∃H',Inv X pins σ H' s'/\Q H') X.xe s
section
variable{X:Cx}{pos:Pos}
def dW (i:Nat):TG:=fun v σ H Q=>Q (σ.set i (some v)) H
theorem cH{i:Nat}{x:Str}(hN:X.N.Nodup)(hi:X.N[i]?=some x)(hx:Loc X.env.scope x)(hf:X.fn x=true\/X.env.scope.names.lookup x=some .local:=by first |exact .inl rfl |exact .inr rfl |assumption):PG X (.Name x pos) (dW i):=by
 intro pins s σ H v u Q I r h;exact wpAny_assign_Name (x4 I hN hi hx r (fun s' I'=>⟨_,H,I',h⟩) hf)
def R7:Om:=fun vs σ H Q=>vs=[]/\Q σ H
def Ks (t:TG) (u:Om):Om:=fun vs σ H Q=>∃v r,vs=v::r/\t v σ H fun σ' H'=>u r σ' H' Q
theorem uy:Vs X [] R7:=by
 intro pins s σ H vs us Q I r h;obtain⟨e,h⟩:=h;subst e;cases r;exact assignInOrder_nil ⟨σ,H,I,h⟩
theorem fO{e:Expr}{es:List Expr}{t:TG}{u:Om}(h1:PG X e t)(h2:Vs X es u)
 (hs:(assignEach (e::es) X.env).map (·.2)=assign e X.env::(assignEach es X.env).map (·.2):=by rfl):Vs X (e::es) (Ks t u):=by
 intro pins s σ H vs us Q I r h;obtain⟨v,vr,e1,h⟩:=h;subst e1;cases r with
 |cons r rr=>
  rw[hs];refine assignInOrder_cons (dE (h1 pins s σ H _ _ _ I r h) fun _ s1 zqz=>?_);obtain⟨σ1,H1,I1,q1⟩:=zqz;exact h2 pins s1 σ1 H1 _ _ Q I1 rr q1
def R8 (K:zaa) (n:Nat) (t:Om):TG:=fun v σ H Q=>∃a xs,v=.ref a/\bQ K H a xs/\xs.length=n/\t xs σ H Q
theorem Bq{es:List Expr}{k:Nat}{t:Om}{n:Nat}(hc:X.calm=true)(h:Vs X es t)
 (hn:(assignEach es X.env).length=n:=by rfl) (Ii:(assignEach es X.env).findIdx? (·.1)=none:=by rfl):PG X (.Tuple es k pos) (R8 X.K n t):=by
 intro pins s σ H v u Q I r hw;obtain⟨a,xs,e1,hq,hl,hw⟩:=hw;subst e1;cases r;obtain⟨bq,rv,ht,hz⟩:=I.tuple hq;refine assign_Tuple_tuple (I.ok.hd hc) ht (by simp[hn,<- hl,rv.length]) Ii fun h' hx=>?_;have I1:Inv X pins σ H {s with heap:=h' }:=I.kept (t':=s.toks) fun b o e=>hx b o (zaD (Heap.lt_size e)) e;exact h pins _ σ H xs _ Q I1 (by simpa using rv) hw
def R9 (to ti:TE) (t:R6):TG:=fun v σ H Q=>to σ H fun o H1=>ti σ H1 fun i H2=>t o i v H2 fun H3=>Q σ H3
theorem Kt{o i:Expr}{to ti:TE}{t:R6}(ho:PE X o to)(hi:PE X i ti)(hs:Vt X t)
 (ha:∀v,assign (.Subscript o i pos) X.env v=(do
  let ov <- holding [v] (eval o X.env)
  let iv <- holding [v,ov] (eval i X.env)
  standAt pos
  holding [v,ov,iv] (setItem ov iv v)
  release [v,ov,iv] []):=by intro _;rfl):PG X (.Subscript o i pos) (R9 to ti t):=by
 intro pins s σ H v u Q I r h;rw[ha];refine zdy (zdA (dE (ho pins s σ H _ I h) fun ov s1 zqz=>?_));obtain⟨x,H1,I1,r1,q1⟩:=zqz;refine zdy (zdA (dE (hi pins s1 σ H1 _ I1 q1) fun iv s2 zqz=>?_));obtain⟨y,H2,I2,r2,q2⟩:=zqz;refine zdy (wpAny_standAt (zdy (zdA (dE (hs pins s2 σ H2 x y v ov iv u _ I2 r1 r2 r q2) fun _ s3 zqz=>?_))));obtain⟨H3,I3,q3⟩:=zqz;exact wpAny_release ⟨σ,H3,I3,q3⟩
def Ij (te:TE) (g:TG):TS:=fun D σ H=>te σ H fun x H1=>g x σ H1 D.nx
theorem ET{tg e:Expr}{te:TE}{g:TG}(he:PE X e te)(hg:PG X tg g)(hs:swapsWithSole [tg] e pos.line X.env=pure false:=by rfl)(hw:swappedStores [tg] e X.env=pure none:=by rfl)
 (h1:(assignEach [tg] X.env).map (·.2)=[assign tg X.env]:=by rfl):PS X (.Assign [tg] e pos) (Ij te g):=by
 intro pins s σ H D I h;refine wpAny_Assign_stores (dE (he pins s σ H _ I h) fun v s1 zqz=>?_) hs hw;obtain⟨x,H1,I1,r1,q1⟩:=zqz;rw[h1];exact dE (hg pins s1 σ H1 x v _ I1 r1 q1) fun _ s2 q=>q
theorem eE{i:Nat}{x:Str}{e:Expr}{te:TE}{pos':Pos}(hN:X.N.Nodup)(hi:X.N[i]?=some x)(hx:Loc X.env.scope x)(he:PE X e te)(hs:swapsWith e (some (.Name x pos')) pos.line X.env=pure false:=by rfl)(hf:X.fn x=true\/X.env.scope.names.lookup x=some .local:=by first |exact .inl rfl |exact .inr rfl |assumption) :
 PS X (.Assign [.Name x pos'] e pos) (Ij te (dW i)):=by
 intro pins s σ H D I h;refine wpAny_Assign_Name (dE (he pins s σ H _ I h) fun v s1 zqz=>?_) hs;obtain⟨y,H1,I1,r1,q1⟩:=zqz;exact x4 I1 hN hi hx r1 (fun s2 I2=>⟨_,H1,I2,q1⟩) hf
end
section
variable{X:Cx}{pos:Pos}
def EU (c:TT) (tb:TS):TS:=fun D σ H=>∃W:Nat->St->Hp->Prop,(∃m,W m σ H)/\∀m σ H,W m σ H->
 c σ H fun b H1=>if b=true then ∃N:St->Hp->Prop,(∀σ' H',N σ' H'->∃m',m'<m/\W m' σ' H')/\tb {D with nx:=N,ct:=N,bk:=D.nx} σ H1 else D.nx σ H1
theorem x5{c:Expr}{body:List Stmt}{tc:TT}{tb:TS}(hp:PassesOwn (model X.prog X.w) X.A X.env X.xe)(hc:PT X c tc)(hb:CZ X body tb):PS X (.While c body [] pos) (EU tc tb):=by
 intro pins s σ H D I h;obtain⟨W,⟨m0,w0⟩,turn⟩:=h;refine wpAny_While (codeAny_whileLoop (fun n s'=>∃σ' H',Inv X pins σ' H' s'/\W n σ' H') ?_ m0 ⟨σ,H,I,w0⟩)
 rintro n s1 ⟨σ1,H1,I1,w1⟩
 refine wpAny_passesOwn hp (dE (hc pins s1 σ1 H1 _ I1 (turn n σ1 H1 w1)) fun b s2 zqz=>?_);obtain⟨H2,I2,q2⟩:=zqz;cases b with
 |true=>
  obtain⟨N,hN,q2⟩:=q2;rw[if_pos rfl];refine wpAny_passesOwn hp (dE (hb pins s2 σ1 H2 _ I2 q2) fun f s3 q3=>?_);cases f with
  |next=>
   obtain⟨σ3,H3,I3,n3⟩:=q3;obtain⟨m',hm,w3⟩:=hN σ3 H3 n3;exact⟨m',hm,σ3,H3,I3,w3⟩
  |cont=>
   obtain⟨σ3,H3,I3,n3⟩:=q3;obtain⟨m',hm,w3⟩:=hN σ3 H3 n3;exact⟨m',hm,σ3,H3,I3,w3⟩
  |brk=>exact q3
  |ret v=>exact q3
 |false=>
  rw[if_neg zai];exact wpAny_execs_nil ⟨σ1,H2,I2,q2⟩
end
structure It where
 go:Nat->Hp->Prop
 Ik:Nat->Hp->V->Hp->Prop
 stop:Nat->Hp->Prop
def uz (X:Cx) (pins:List (zdv×Obj)) (H:Hp) (b:zdv):Prop:=
 H b=none/\b≠X.env.locals/\b ∉ X.fs/\(b∈X.ex\/X.s₀.heap.objs.size<=b)/\(∀x c,X.env.cells.lookup x=some c->c≠b)/\∀p∈X.pn++pins,p.1≠b
theorem Inv.Br{X:Cx}{pins:List (zdv×Obj)}{σ:St}{H H':Hp}{s:zdF}{b:zdv}(I:Inv X pins σ H s)(hb:s.heap.objs.size<=b)(hn:H' b=none):uz X pins H' b:=by
 refine⟨hn,zbI (zaz I.lt hb),I.Zo hb,.inr (zaw I.sz hb),fun x c e z=>?_,fun p hp z=>?_⟩
 ·obtain⟨v,q⟩:=I.cell x c e;exact absurd (zaz q.lt (by rw[z];exact hb)) (zaP _)
 ·exact absurd (zaz (Heap.lt_size (I.pin p hp).1) (by rw[z];exact hb)) (zaP _)
structure Turn(P:zdH)(w:zdx)(K:zaa)(tg:Expr)(J:It)(fp:List zdv)(it:zdv)(tn:Nat->Heap->Prop):Prop where
 mem:it∈fp
 obj:∀i h,tn i h->∀b∈fp,∃o,h.get? b=some o/\∀v,o.data≠.cell v
 keep:∀i h h',tn i h->(∀b∈fp,∀o,h.get? b=some o->h'.get? b=some o)->tn i h'
 item:∀(X:Cx),X.prog=P->X.w=w->X.K=K->X.calm=true->∀(i:Nat) (pins:List (zdv×Obj)) (s:zdF) (σ:St) (H:Hp) (E:zdw->zdF->Prop),Inv X pins σ H s->(∀b∈fp,uz X pins H b)->tn i s.heap->J.go i H->
  wpAny (model P w) X.A (pyNext (.ref it)) (fun r s1=>∃u,r=some u/\
   wpAny (model P w) X.A (letOwnedTupleGo tg (.ref it) u) (fun _ s2=>∃x H',Inv X pins σ H' s2/\RelV x u/\J.Ik i H x H'/\tn (i+1) s2.heap/\∀b∈fp,H' b=none) E s1) E s
 done:∀(X:Cx),X.prog=P->X.w=w->X.K=K->X.calm=true->∀(i:Nat) (pins:List (zdv×Obj)) (s:zdF) (σ:St) (H:Hp) (E:zdw->zdF->Prop),Inv X pins σ H s->(∀b∈fp,uz X pins H b)->tn i s.heap->J.stop i H->
  wpAny (model P w) X.A (pyNext (.ref it)) (fun r s1=>r=none/\Inv X pins σ H s1) E s
 self:∀(A:zdG) (i:Nat) (s:zdF) (Q:zdw->zdF->Prop) (E:zdw->zdF->Prop),tn i s.heap->Q (.ref it) s->wpAny (model P w) A (pyIter (.ref it)) Q E s
abbrev TI:=St->Hp->(It->Hp->Prop)->Prop
def PIE (X:Cx) (pins:List (zdv×Obj)) (σ:St) (tg:Expr) (R:It->Hp->Prop) (Zv:zdw) (s2:zdF):Prop:=
 ∃(it:zdv) (fp:List zdv) (tn:Nat->Heap->Prop) (J:It) (H':Hp),Zv=.ref it/\Inv X pins σ H' s2/\Turn X.prog X.w X.K tg J fp it tn/\tn 0 s2.heap/\(∀b∈fp,uz X pins H' b)/\R J H'
def PI (X:Cx) (tg iter:Expr) (wi:TI):Prop:=
 ∀(pins:List (zdv×Obj)) (s:zdF) (σ:St) (H:Hp) (R:It->Hp->Prop),Inv X pins σ H s->wi σ H R->
  wpAny (model X.prog X.w) X.A (eval iter X.env) (fun v s1=>wpAny (model X.prog X.w) X.A (pyIter v) (PIE X pins σ tg R) X.xe s1) X.xe s
theorem GB{M:Model}{A:zdG}{E:zdw->zdF->Prop}{s:zdF}{tg:Expr}{it:zdv}{u:zdw}{o:Obj}{n:String}{vs:Array zdw}{Q:Unit->zdF->Prop}(ho:s.heap.get? it=some o)(hc:o.cls=.type n)(hd:o.data=.fields vs)
 (hn:["enumerate", "zip", "dict_itemiterator", "dict_reverseitemiterator", "odict_iterator", "itertools.zip_longest", "itertools.pairwise"].contains n=false) (hQ:Q () s):wpAny M A (letOwnedTupleGo tg (.ref it) u) Q E s:=by
 unfold letOwnedTupleGo;cases tg<;>first
  |exact zdz hQ
  |(cases u<;>first
     |exact zdz hQ
     |(refine zdy (wpAny_load ho ?_)
       rw[hc,hd];show wpAny M A (if (["enumerate", "zip", "dict_itemiterator", "dict_reverseitemiterator", "odict_iterator", "itertools.zip_longest", "itertools.pairwise"].contains n&&vs[0]?==some (rawInt _))=true then _ else _) Q E s;rw[if_neg (by intro h;rw[hn,Bool.false_and] at h;cases h)];exact zdz hQ))
def GC (K:zaa) (a:zdv):It:=
 ⟨fun i H=>∃xs x,jc K H a xs/\xs[i]?=some x,fun i H x H'=>H'=H/\∀xs,jc K H a xs->xs[i]?=some x,fun i H=>∃xs,jc K H a xs/\xs.length<=i⟩
def UB (lo:Int) (n:Nat):It:=⟨fun i _=>i<n,fun i H x H'=>H'=H/\x=.int (lo+i),fun i _=>n<=i⟩
theorem Il{P:zdH}{w:zdx}{K:zaa}{tg:Expr}(a it:zdv):Turn P w K tg (GC K a) [it] it (fun i h=>h.IsListIter it a i) where
 mem:=by simp
 obj:=fun i h st b hb=>by
  have e:b=it:=by simpa using hb
  subst e;obtain⟨o,e,c,d⟩:=st;exact⟨o,e,fun v z=>by rw[d] at z;cases z⟩
 keep:=fun i h h' st k=>st.at fun o e=>k it (by simp) o e
 item:=by
  intro X hP hw hK hc i pins s σ H E I hf st hg;subst hP hw hK;obtain⟨xs,x,hq,hx⟩:=hg;obtain⟨bq,rv,p,hz⟩:=I.list hq;obtain⟨u,hu,ru⟩:=rv.get hx;obtain⟨f0,f1,f2,f3,f4,f5⟩:=hf it (by simp);refine wpAny_pyNext_list_item st p.isList (x:=u) (by simpa using hu) fun h' C2 sb=>?_;have I1:Inv X pins σ H {s with heap:=h' }:=I.turned (t':=s.toks) (fun b o hb e=>(sb.2 b hb).trans e) f0 f1 f3 f4 f5;obtain⟨o,e,c,d⟩:=id C2;exact⟨u,rfl,GB (s:={s with heap:=h' }) e c d (by decide) ⟨x,H,I1,ru,⟨rfl,fun ys hy=>by rw[I.C1 hy hq];exact hx⟩,C2,fun b hb=>(hf b hb).1⟩⟩
 done:=by
  intro X hP hw hK hc i pins s σ H E I hf st hg;subst hP hw hK;obtain⟨xs,hq,hx⟩:=hg;obtain⟨bq,rv,p,hz⟩:=I.list hq;obtain⟨f0,f1,f2,f3,f4,f5⟩:=hf it (by simp);have hl:=rv.length;exact wpAny_pyNext_list_end (I.ok.hd hc) st p.isList (by simp;lia) fun h' eb=>⟨rfl,I.turned (t':=s.toks) (fun b o hb e=>eb b o hb e) f0 f1 f3 f4 f5⟩
 self:=fun _ _ _ _ _ st h=>wpAny_pyIter_listiter st h
theorem EW{P:zdH}{w:zdx}{K:zaa}{tg:Expr}(it:zdv)(lo:Int)(n:Nat):Turn P w K tg (UB lo n) [it] it (fun i h=>IsRangeIter h it (lo+(i:Nat)*1) ((n:Int)-(i:Nat)) 1) where
 mem:=by simp
 obj:=fun i h st b hb=>by
  have e:b=it:=by simpa using hb
  subst e;exact⟨_,st,fun v z=>by
   have z':Data.fields _=Data.cell v:=z;cases z'⟩
 keep:=fun i h h' st k=>k it (by simp) _ st
 item:=by
  intro X hP hw hK hc i pins s σ H E I hf st hg;subst hP hw hK;obtain⟨f0,f1,f2,f3,f4,f5⟩:=hf it (by simp);have W:=Walks.range (prog:=X.prog) (w:=X.w) (I.ok.hd hc) it lo 1 n;refine W.item i s _ _ hg st fun v h' tk hv C2 kk=>?_;obtain⟨t,rfl⟩:=hv;have I1:Inv X pins σ H {s with heap:=h',toks:=tk}:=I.turned (fun b o hb e=>kk b o (by simpa using hb) e) f0 f1 f3 f4 f5;refine⟨_,rfl,GB (s:={s with heap:=h',toks:=tk}) (n:="range_iterator") C2 rfl rfl (by decide) ⟨.int (lo+i),H,I1,⟨t,?_⟩,⟨rfl,rfl⟩,C2,fun b hb=>(hf b hb).1⟩⟩;rw[Int.mul_one]
 done:=by
  intro X hP hw hK hc i pins s σ H E I hf st hg;subst hP hw hK;obtain⟨f0,f1,f2,f3,f4,f5⟩:=hf it (by simp);exact wpAny_pyNext_range_end (I.ok.hd hc) st (by have:n<=i:=hg;lia) fun h' eb=>⟨rfl,I.turned (t':=s.toks) (fun b o hb e=>eb b o hb e) f0 f1 f3 f4 f5⟩
 self:=fun _ _ _ _ _ st h=>wpAny_pyIter_rangeiter st h
section
variable{X:Cx}{tg:Expr}
def GD (K:zaa) (tl:TE):TI:=fun σ H R=>tl σ H fun x H1=>∃a,x=.ref a/\(∃xs,jc K H1 a xs)/\R (GC K a) H1
theorem dN{l:Expr}{tl:TE}(hl:PE X l tl):PI X tg l (GD X.K tl):=by
 intro pins s σ H R I h;refine dE (hl pins s σ H _ I h) fun v s1 zqz=>?_;obtain⟨x,H1,I1,r1,q1⟩:=zqz;obtain⟨a,e,⟨xs,hq⟩,q⟩:=q1;subst e;cases r1;obtain⟨bq,rv,p,hz⟩:=I1.list hq;refine wpAny_pyIter_list p.isList ?_;refine⟨s1.heap.objs.size,[s1.heap.objs.size],_,_,H1,rfl,I1.kept (t':=s1.toks) fun b o e=>Heap.get?_push_of_some _ e,Il a _,⟨_,Heap.get?_push_size _ rfl,rfl,rfl⟩,fun b hb=>?_,q⟩;have e:b=s1.heap.objs.size:=by simpa using hb
 subst e;exact I1.Br (zag _) (I1.bX.fresh (zag _))
theorem Ku{pins:List (zdv×Obj)}{σ:St}{H:Hp}{s:zdF}{R:It->Hp->Prop}{E:zdw->zdF->Prop}{lo hi:Int}{t u v:Tok}{tk:Nat}(I:Inv X pins σ H s)(h1 : -(2 ^ 62)<=lo)(h2:lo<2 ^ 62)(h3 : -(2 ^ 62)<=hi)(h4:hi<2 ^ 62)
 (q:R (UB lo (hi-lo).toNat) H):wpAny (model X.prog X.w) X.A (pyIter (.ref s.heap.objs.size)) (PIE X pins σ tg R) E {s with heap:=s.heap.push {cls:=.type "range",data:=.fields #[.int lo t,.int hi u,.int 1 v]},toks:=tk}:=by
 refine wpAny_pyIter_range (IsRange.new ..) (small_one h1 h2 h3 h4) ?_;have I1:Inv X pins σ H {s with heap:=s.heap.push {cls:=.type "range",data:=.fields #[.int lo t,.int hi u,.int 1 v]},toks:=tk}:=I.kept fun b o e=>Heap.get?_push_of_some _ e;refine⟨(s.heap.push {cls:=.type "range",data:=.fields #[.int lo t,.int hi u,.int 1 v]}).objs.size,[(s.heap.push {cls:=.type "range",data:=.fields #[.int lo t,.int hi u,.int 1 v]}).objs.size],_,_,H,rfl,
  I1.kept (t':=tk) fun b o e=>Heap.get?_push_of_some _ e,EW _ lo (hi-lo).toNat,?_,fun b hb=>?_,q⟩
 ·have e1:lo+((0:Nat):Int)*1=lo:=by simp
  have e2:(((hi-lo).toNat:Nat):Int)-((0:Nat):Int)=Builtin.Range.rangeSize lo hi 1:=by rw[rangeSize_one];split<;>lia
  show IsRangeIter _ _ (lo+((0:Nat):Int)*1) ((((hi-lo).toNat:Nat):Int)-((0:Nat):Int)) 1;rw[e1,e2];exact Heap.get?_push_size _ rfl
 ·have e:b=(s.heap.push {cls:=.type "range",data:=.fields #[.int lo t,.int hi u,.int 1 v]}).objs.size:=by simpa using hb
  subst e;exact I1.Br (zag _) (I1.bX.fresh (zag _))
def Kv (ta:TA):TI:=fun σ H R=>ta σ H fun vs H1=>∃j:Int,vs=[.int j]/\-(2 ^ 62)<=j/\j<2 ^ 62/\R (UB 0 j.toNat) H1
theorem kD{a:Expr}{ta:TA}{p pos:Pos}(hg:Gl X "range")(hm:X.mg "range"=none)(ha:PA X [a] ta)(hs:zdB [a] X.env=[(false,eval a X.env)]:=by rfl):PI X tg (.Call (.Name "range" p) [a] [] pos) (Kv ta):=by
 intro pins s σ H R I h;refine Call_ (tm I hg hm boot_range (zbn (dE (ha pos pins s σ H _ I h) fun us s1 zqz=>?_) hs rfl));obtain⟨vs,H1,I1,r1,q1⟩:=zqz;obtain⟨j,e,q1,q2,q⟩:=q1;subst e;cases r1 with
 |cons r rr=>
  cases rr;obtain⟨t,rfl⟩:=r;exact call_range_1 (Ku I1 (by lia) (by lia) q1 q2 (by simpa using q))
def Oq (wi:TI) (g:TG) (tb:TS):TS:=fun D σ H=>wi σ H fun J H1=>∃W:Nat->Nat->St->Hp->Prop,(∃m,W 0 m σ H1)/\∀i m σ H,W i m σ H->
 (J.stop i H/\D.nx σ H)\/(J.go i H/\∃N:St->Hp->Prop,(∀σ' H',N σ' H'->∃m',m'<m/\W (i+1) m' σ' H')/\∀x H',J.Ik i H x H'->g x σ H' fun σ2 H2=>tb {D with nx:=N,ct:=N,bk:=D.nx} σ2 H2)
def x6 (fp:List zdv) (h:Heap):List (zdv×Obj):=fp.filterMap fun b=>(h.get? b).map fun o=>(b,o)
theorem nW{fp:List zdv}{h:Heap}{b:zdv}{o:Obj}(hb:b∈fp)(e:h.get? b=some o):(b,o)∈x6 fp h:=zcJ.mpr ⟨b,hb,by rw[e];rfl⟩
theorem Im{fp:List zdv}{h:Heap}{p:zdv×Obj}(hp:p∈x6 fp h):p.1∈fp/\h.get? p.1=some p.2:=by
 obtain⟨b,hb,e⟩:=zcJ.mp hp;cases q:h.get? b with
 |none=>rw[q] at e;cases e
 |some o=>
  rw[q] at e;have e':(b,o)=p:=za1.inj e;subst e';exact⟨hb,q⟩
theorem Inv.pinned{pins:List (zdv×Obj)}{σ:St}{H:Hp}{s:zdF}{fp:List zdv}(I:Inv X pins σ H s)(hf:∀b∈fp,uz X pins H b)(ho:∀b∈fp,∃o,s.heap.get? b=some o/\∀v,o.data≠.cell v):Inv X (pins++x6 fp s.heap) σ H s:=
 I.Gz fun p hp=>(zak.mp hp).elim (fun z=>I.pin p (zav _ z)) fun z=>by
  obtain⟨hb,e⟩:=Im z;obtain⟨f0,f1,f2,_⟩:=hf p.1 hb;obtain⟨o,e',d⟩:=ho p.1 hb;rw[e] at e';cases e';exact⟨e,f0,f1,f2,d⟩
theorem Inv.mM{pins pl:List (zdv×Obj)}{σ:St}{H:Hp}{s:zdF}(I:Inv X (pins++pl) σ H s):Inv X pins σ H s:=I.Gz fun p hp=>I.pin p (zav _ (zaN _ hp))
theorem iM{iter:Expr}{body:List Stmt}{wi:TI}{g:TG}{tb:TS}{pos:Pos}(hp:PassesOwn (model X.prog X.w) X.A X.env X.xe)(hc:X.calm=true)(hi:PI X tg iter wi)(hg:PG X tg g)(hb:CZ X body tb)
 (hs:∀x,foldedSetIterable iter X.env x=pure x:=by intro _;rfl):PS X (.For tg iter body [] pos) (Oq wi g tb):=by
 intro pins s σ H D I h;refine wpAny_For (dE (hi pins s σ H _ I h) fun v s1 h1=>dE h1 fun Zv s2 h2=>?_) hs;obtain⟨it,fp,tn,J,H2,e,I2,T,Io,f2,W,⟨m0,w0⟩,turn⟩:=h2;subst e;have stat:∀ {H':Hp},(∀b∈fp,H' b=none)->∀b∈fp,uz X pins H' b:=fun hn b hb=>⟨hn b hb,(f2 b hb).2⟩
 refine codeAny_forLoop_any (fun n s'=>∃i σ' H',Inv X pins σ' H' s'/\tn i s'.heap/\(∀b∈fp,H' b=none)/\W i n σ' H') ?_ m0 ⟨0,σ,H2,I2,Io,fun b hb=>(f2 b hb).1,w0⟩
 rintro n s3 ⟨i,σ3,H3,I3,QQ,Vu,w3⟩
 rcases turn i n σ3 H3 w3 with ⟨stop,qn⟩ |⟨go,N,hN,step⟩
 ·refine wpAny_passesOwn hp (dE (T.done X rfl rfl rfl hc i pins s3 σ3 H3 X.xe I3 (stat Vu) QQ stop) fun r s4 zqz=>?_);obtain⟨hr,I4⟩:=zqz;subst hr;exact wpAny_execs_nil ⟨σ3,H3,I4,qn⟩
 ·refine wpAny_passesOwn hp (dE (T.item X rfl rfl rfl hc i pins s3 σ3 H3 X.xe I3 (stat Vu) QQ go) fun r s4 zqz=>?_);obtain⟨u,hr,h4⟩:=zqz;subst hr;refine wpAny_passesOwn hp (dE h4 fun _ s5 zqz=>?_);obtain⟨x,H5,I5,r5,y5,Sa,Zw⟩:=zqz;have Zx:=I5.pinned (stat Zw) (T.obj _ _ Sa);refine wpAny_passesOwn hp (dE (hg _ s5 σ3 H5 x u _ Zx r5 (step x H5 y5)) fun _ s6 zqz=>?_);obtain⟨σ6,H6,I6,q6⟩:=zqz;refine wpAny_passesOwn hp (dE (hb _ s6 σ6 H6 _ I6 q6) fun f s7 q7=>?_);have again:∀ {σ7:St} {H7:Hp},Inv X (pins++x6 fp s5.heap) σ7 H7 s7->N σ7 H7->∃m,m<n/\∃i σ' H',Inv X pins σ' H' s7/\tn i s7.heap/\(∀b∈fp,H' b=none)/\W i m σ' H':=fun {σ7 H7} I7 n7=>by
   obtain⟨m',hm,w7⟩:=hN σ7 H7 n7;refine⟨m',hm,i+1,σ7,H7,I7.mM,T.keep _ _ _ Sa fun b hb o e=>(I7.pin (b,o) (zav _ (zav _ (nW hb e)))).1,fun b hb=>?_,w7⟩;obtain⟨o,e,d⟩:=T.obj _ _ Sa b hb;exact(I7.pin (b,o) (zav _ (zav _ (nW hb e)))).2.1
  cases f with
  |next=>obtain⟨σ7,H7,I7,n7⟩:=q7;exact again I7 n7
  |cont=>obtain⟨σ7,H7,I7,n7⟩:=q7;exact again I7 n7
  |brk=>obtain⟨σ7,H7,I7,q7⟩:=q7;exact⟨σ7,H7,I7.mM,q7⟩
  |ret v=>obtain⟨x7,σ7,H7,I7,r7,q7⟩:=q7;exact⟨x7,σ7,H7,I7.mM,r7,q7⟩
end
theorem kI{K:zaa}{a:zdv}{xs:List V}{g:TG}{tb:TS}{D:Ends}{σ:St}{H:Hp}(Pv:Nat->St->Hp->Prop)(h0:Pv 0 σ H)(hl:∀i σ H,i<=xs.length->Pv i σ H->jc K H a xs)
 (hs:∀i x σ H,xs[i]?=some x->Pv i σ H->g x σ H fun σ2 H2=>tb {D with nx:=Pv (i+1),ct:=Pv (i+1),bk:=D.nx} σ2 H2) (hd:∀σ H,Pv xs.length σ H->D.nx σ H) :
 ∃W:Nat->Nat->St->Hp->Prop,(∃m,W 0 m σ H)/\∀i m σ H,W i m σ H->
  ((GC K a).stop i H/\D.nx σ H)\/((GC K a).go i H/\∃N:St->Hp->Prop,(∀σ' H',N σ' H'->∃m',m'<m/\W (i+1) m' σ' H')/\∀x H',(GC K a).Ik i H x H'->g x σ H' fun σ2 H2=>tb {D with nx:=N,ct:=N,bk:=D.nx} σ2 H2):=by
 refine⟨fun i m σ H=>m=xs.length-i/\i<=xs.length/\Pv i σ H,⟨xs.length,by simp,zaK _,h0⟩,?_⟩
 rintro i m σ H ⟨rfl,hi,p⟩
 have q:=hl i σ H hi p;by_cases rV:i<xs.length
 ·refine .inr ⟨⟨xs,xs[i],q,by simp[rV]⟩,Pv (i+1),fun σ' H' p'=>⟨xs.length-(i+1),by lia,rfl,rV,p'⟩,fun x H' y=>?_⟩;obtain⟨e,y⟩:=y;subst e;exact hs i x σ _ (y xs q) p
 ·have e:i=xs.length:=by lia
  subst e;exact .inl ⟨⟨xs,q,zag _⟩,hd σ H p⟩
abbrev R2:=V->V->Hp->VK->Prop
def rD (X:Cx) (f:zdw->zdw->Sem zdw) (r:R2):Prop:=
 ∀(pins:List (zdv×Obj)) (s:zdF) (σ:St) (H:Hp) (x y:V) (v u:zdw) (Q:VK),Inv X pins σ H s->RelV x v->RelV y u->r x y H Q->
  wpAny (model X.prog X.w) X.A (f v u) (EP X pins σ Q) X.xe s
def mO (X:Cx) (f:zdw) (r:List V->Hp->VK->Prop):Prop:=
 ∀(pins:List (zdv×Obj)) (s:zdF) (σ:St) (H:Hp) (xs:List V) (us:List zdw) (Q:VK),Inv X pins σ H s->Vals xs us->r xs H Q->
  wpAny (model X.prog X.w) X.A (call f us) (EP X pins σ Q) X.xe s
def Zy (X:Cx) (r:V->Hp->(Bool->Hp->Prop)->Prop):Prop:=
 ∀(pins:List (zdv×Obj)) (s:zdF) (σ:St) (H:Hp) (x:V) (v:zdw) (Q:Bool->Hp->Prop),Inv X pins σ H s->RelV x v->r x H Q->
  wpAny (model X.prog X.w) X.A (truthy v) (TP X pins σ Q) X.xe s
def Vv (r:R2) (ta tb:TE):TE:=fun σ H Q=>ta σ H fun x H1=>tb σ H1 fun y H2=>r x y H2 Q
def rI (C:Int->Int->Prop) (g:Int->Int->V):R2:=fun x y H Q=>∃i j,x=.int i/\y=.int j/\C i j/\Q (g i j) H
def Ot (g:Int->Int->V):R2:=fun x y H Q=>∃i j,x=.int i/\y=.int j/\Q (g i j) H
section
variable{X:Cx}{a b c:Expr}{ta tb tc:TE}{pos:Pos}
theorem Sb(ha:PE X a ta)(hb:PE X b tb){pins:List (zdv×Obj)}{s:zdF}{σ:St}{H:Hp}{R:V->V->Hp->Prop}(I:Inv X pins σ H s)
 (h:ta σ H fun x H1=>tb σ H1 fun y H2=>R x y H2) {Q:zdw->zdF->Prop} {f:zdw->zdw->Sem zdw}
 (hf:∀v u s2 x y H2,Inv X pins σ H2 s2->RelV x v->RelV y u->R x y H2->wpAny (model X.prog X.w) X.A (f v u) Q X.xe s2) :
 wpAny (model X.prog X.w) X.A (eval a X.env) (fun v s₁=>wpAny (model X.prog X.w) X.A (eval b X.env) (fun u s₂=>wpAny (model X.prog X.w) X.A (f v u) Q X.xe s₂) X.xe s₁) X.xe s:=by
 refine dE (ha pins s σ H _ I h) fun v s1 zqz=>?_;obtain⟨x,H1,I1,r1,q1⟩:=zqz;refine dE (hb pins s1 σ H1 _ I1 q1) fun u s2 zqz=>?_;obtain⟨y,H2,I2,r2,q2⟩:=zqz;exact hf v u s2 x y H2 I2 r1 r2 q2
theorem aX{op:Operator}{r:R2}(ho:rD X (binaryOp op) r)(ha:PE X a ta)(hb:PE X b tb):PE X (.BinOp a op b pos) (Vv r ta tb):=by
 intro pins s σ H Q I h;exact wpAny_BinOp (Sb ha hb I h fun v u s2 x y H2 I2 rx ry q=>ho pins s2 σ H2 x y v u Q I2 rx ry q)
theorem Vw{f:zdw->zdw->Sem zdw}{C:Int->Int->Prop}{g:Int->Int->Int}
 (rule:∀(i j:Int) (t u:Tok) (s:zdF) (Q:zdw->zdF->Prop) (E:zdw->zdF->Prop),C i j->Q (.int (g i j) s.toks) {s with toks:=s.toks+1}->wpAny (model X.prog X.w) X.A (f (.int i t) (.int j u)) Q E s) :
 rD X f (rI C fun i j=>.int (g i j)):=by
 intro pins s σ H x y v u Q I rx ry h;obtain⟨i,j,rfl,rfl,hc,q⟩:=h;obtain⟨t,rfl⟩:=rx;obtain⟨t',rfl⟩:=ry;exact rule i j t t' s _ _ hc ⟨.int (g i j),H,I.tok _,⟨_,rfl⟩,q⟩
theorem Vx{f:zdw->zdw->Sem zdw}{g:Int->Int->Int}
 (rule:∀(i j:Int) (t u:Tok) (s:zdF) (Q:zdw->zdF->Prop) (E:zdw->zdF->Prop),Q (.int (g i j) s.toks) {s with toks:=s.toks+1}->wpAny (model X.prog X.w) X.A (f (.int i t) (.int j u)) Q E s) :
 rD X f (Ot fun i j=>.int (g i j)):=by
 intro pins s σ H x y v u Q I rx ry h;obtain⟨i,j,rfl,rfl,q⟩:=h;obtain⟨t,rfl⟩:=rx;obtain⟨t',rfl⟩:=ry;exact rule i j t t' s _ _ ⟨.int (g i j),H,I.tok _,⟨_,rfl⟩,q⟩
theorem Ou{f:zdw->zdw->Sem zdw}{g:Int->Int->Bool}
 (rule:∀(i j:Int) (t u:Tok) (s:zdF) (Q:zdw->zdF->Prop) (E:zdw->zdF->Prop),Q (.bool (g i j)) s->wpAny (model X.prog X.w) X.A (f (.int i t) (.int j u)) Q E s) :
 rD X f (Ot fun i j=>.bl (g i j)):=by
 intro pins s σ H x y v u Q I rx ry h;obtain⟨i,j,rfl,rfl,q⟩:=h;obtain⟨t,rfl⟩:=rx;obtain⟨t',rfl⟩:=ry;exact rule i j t t' s _ _ ⟨.bl (g i j),H,I,rfl,q⟩
def Vy (i j:Int):Prop:=0<j/\j<1073741824
def Vz (i j:Int):Prop:=0<=j/\j<=1000000/\i.natAbs<2 ^ 64
def Ip (i j:Int):Prop:=(-(2 ^ 64)<i/\i<2 ^ 64)\/(-(2 ^ 64)<j/\j<2 ^ 64)
theorem Ip.ok{i j:Int}(h:Ip i j):IntMulOk i j:=by
 rcases h with ⟨h1,h2⟩ |⟨h1,h2⟩
 ·exact .of_left (intBits_le_64 h1 h2)
 ·exact .of_right (intBits_le_64 h1 h2)
theorem dH:rD X (binaryOp .Add) (Ot fun i j=>.int (i+j)):=Vx fun _ _ _ _ _ _ _ q=>add_int q
theorem EX:rD X (binaryOp .Sub) (Ot fun i j=>.int (i-j)):=Vx fun _ _ _ _ _ _ _ q=>sub_int q
theorem iN:rD X (binaryOp .Mult) (rI Ip fun i j=>.int (i*j)):=Vw fun _ _ _ _ _ _ _ hc q=>mul_int q hc.ok
theorem Bs:rD X (binaryOp .FloorDiv) (rI Vy fun i j=>.int (i/j)):=Vw fun i j _ _ _ _ _ hc q=>by
 have h1:(0:Int)<j:=hc.1;have h2:j<1073741824:=hc.2;exact floordiv_int (by lia) (by rw[Int.fdiv_eq_ediv_of_nonneg i (by lia)];exact q) (.inl (PyProof.noPylong_small (by lia)))
theorem mv:rD X (binaryOp .Mod) (rI (fun _ j=>0<j) fun i j=>.int (i%j)):=Vw fun i j _ _ _ _ _ hc q=>by
 have h1:(0:Int)<j:=hc;exact mod_int' (by lia) (by rw[Int.fmod_eq_emod_of_nonneg i (by lia)];exact q)
theorem EY:rD X (binaryOp .Pow) (rI Vz fun i j=>.int (i ^ j.toNat)):=Vw fun _ _ _ _ _ _ _ hc q=>pow_int_small hc.1 hc.2.1 hc.2.2 q
end
def Iq:V->V->Bool
 |.dR,.dR=>true |.dR,.int _=>true |.int _,.dR=>true |.dR,.bl _=>true |.bl _,.dR=>true |.dR,.str _=>true |.str _,.dR=>true
 |.int _,.int _=>true |.bl _,.bl _=>true |.str _,.str _=>true |.Gx _,.Gx _=>true
 |.int _,.str _=>true |.str _,.int _=>true |.bl _,.str _=>true |.str _,.bl _=>true
 |_,_=>false
def rEq:R2:=fun x y H Q=>Iq x y=true/\Q (.bl (decide (x=y))) H
def rNe:R2:=fun x y H Q=>Iq x y=true/\Q (.bl (!decide (x=y))) H
theorem GF{i j:Int}:decide (V.int i=V.int j)=(i==j):=by
 rw[zbA];simp
theorem Kw{i j:Bool}:decide (V.bl i=V.bl j)=(i==j):=by
 rw[zbA];simp
theorem GG{i j:Str}:decide (V.str i=V.str j)=(i==j):=by
 rw[zbA];simp
theorem GH{i j:Array UInt8}:decide (V.Gx i=V.Gx j)=(i.toList==j.toList):=by
 rw[zbA];cases i;cases j;simp
section
variable{X:Cx}{a b c:Expr}{ta tb tc:TE}{pos:Pos}
theorem b9{pins:List (zdv×Obj)}{σ:St}{H:Hp}{s:zdF}{Q:VK}{k k':Bool}(I:Inv X pins σ H s)(q:Q (.bl k) H)(e:k=k'):EP X pins σ Q (.bool k') s:=by
 subst e;exact⟨.bl k,H,I,rfl,q⟩
theorem dP:rD X (compareOp .Eq) rEq:=by
 intro pins s σ H x y v u Q I rx ry h;obtain⟨hs,q⟩:=h;cases x with
 |dR=>
  cases rx;cases y with
  |dR=>cases ry;exact PySem.EqNone.eq_none_none (b9 I q (by simp))
  |bl j=>cases ry;exact PySem.EqNone.eq_none_bool (b9 I q (by simp))
  |int j=>obtain⟨t',rfl⟩:=ry;exact PySem.EqNone.eq_none_int (b9 I q (by simp))
  |str j=>obtain⟨t',rfl⟩:=ry;exact PySem.EqNone.eq_none_str (b9 I q (by simp))
  |_=>exact absurd (show false=true from hs) zai
 |bl i=>
  cases rx;cases y with
  |dR=>cases ry;exact PySem.EqNone.eq_bool_none (b9 I q (by simp))
  |bl j=>cases ry;exact eq_bool (b9 I q Kw)
  |str j=>obtain⟨t',rfl⟩:=ry;exact PySem.EqMixed.eq_bool_str (b9 I q (by simp))
  |_=>exact absurd (show false=true from hs) zai
 |int i=>
  obtain⟨t,rfl⟩:=rx;cases y with
  |dR=>cases ry;exact PySem.EqNone.eq_int_none (b9 I q (by simp))
  |int j=>obtain⟨t',rfl⟩:=ry;exact eq_int (b9 I q GF)
  |str j=>obtain⟨t',rfl⟩:=ry;exact PySem.EqMixed.eq_int_str (b9 I q (by simp))
  |_=>exact absurd (show false=true from hs) zai
 |str i=>
  obtain⟨t,rfl⟩:=rx;cases y with
  |dR=>cases ry;exact PySem.EqNone.eq_str_none (b9 I q (by simp))
  |bl j=>cases ry;exact PySem.EqMixed.eq_str_bool (b9 I q (by simp))
  |int j=>obtain⟨t',rfl⟩:=ry;exact PySem.EqMixed.eq_str_int (b9 I q (by simp))
  |str j=>obtain⟨t',rfl⟩:=ry;exact eq_str (b9 I q GG)
  |_=>exact absurd (show false=true from hs) zai
 |Gx i=>
  obtain⟨t,rfl⟩:=rx;cases y with
  |Gx j=>obtain⟨t',rfl⟩:=ry;exact PySem.W.eq_bytes (b9 I q GH)
  |_=>exact absurd (show false=true from hs) zai
 |_=>cases y<;>exact absurd (show false=true from hs) zai
theorem QR:rD X (compareOp .NotEq) rNe:=by
 intro pins s σ H x y v u Q I rx ry h;obtain⟨hs,q⟩:=h;cases x with
 |dR=>
  cases rx;cases y with
  |dR=>cases ry;exact PySem.EqNone.ne_none_none (b9 I q (by simp))
  |bl j=>cases ry;exact PySem.EqNone.ne_none_bool (b9 I q (by simp))
  |int j=>obtain⟨t',rfl⟩:=ry;exact PySem.EqNone.ne_none_int (b9 I q (by simp))
  |str j=>obtain⟨t',rfl⟩:=ry;exact PySem.EqNone.ne_none_str (b9 I q (by simp))
  |_=>exact absurd (show false=true from hs) zai
 |bl i=>
  cases rx;cases y with
  |dR=>cases ry;exact PySem.EqNone.ne_bool_none (b9 I q (by simp))
  |bl j=>cases ry;exact ne_bool (b9 I q (congrArg not Kw))
  |str j=>obtain⟨t',rfl⟩:=ry;exact PySem.EqMixed.ne_bool_str (b9 I q (by simp))
  |_=>exact absurd (show false=true from hs) zai
 |int i=>
  obtain⟨t,rfl⟩:=rx;cases y with
  |dR=>cases ry;exact PySem.EqNone.ne_int_none (b9 I q (by simp))
  |int j=>obtain⟨t',rfl⟩:=ry;exact ne_int (b9 I q (congrArg not GF))
  |str j=>obtain⟨t',rfl⟩:=ry;exact PySem.EqMixed.ne_int_str (b9 I q (by simp))
  |_=>exact absurd (show false=true from hs) zai
 |str i=>
  obtain⟨t,rfl⟩:=rx;cases y with
  |dR=>cases ry;exact PySem.EqNone.ne_str_none (b9 I q (by simp))
  |bl j=>cases ry;exact PySem.EqMixed.ne_str_bool (b9 I q (by simp))
  |int j=>obtain⟨t',rfl⟩:=ry;exact PySem.EqMixed.ne_str_int (b9 I q (by simp))
  |str j=>obtain⟨t',rfl⟩:=ry;exact ne_str (b9 I q (congrArg not GG))
  |_=>exact absurd (show false=true from hs) zai
 |Gx i=>
  obtain⟨t,rfl⟩:=rx;cases y with
  |Gx j=>obtain⟨t',rfl⟩:=ry;exact PySem.W.ne_bytes (b9 I q (congrArg not GH))
  |_=>exact absurd (show false=true from hs) zai
 |_=>cases y<;>exact absurd (show false=true from hs) zai
theorem Kx:rD X (compareOp .Lt) (Ot fun i j=>.bl (decide (i<j))):=Ou fun _ _ _ _ _ _ _ q=>lt_int q
theorem VA:rD X (compareOp .LtE) (Ot fun i j=>.bl (decide (i<=j))):=Ou fun _ _ _ _ _ _ _ q=>le_int q
theorem QS:rD X (compareOp .Gt) (Ot fun i j=>.bl (decide (j<i))):=Ou fun _ _ _ _ _ _ _ q=>gt_int q
theorem QT:rD X (compareOp .GtE) (Ot fun i j=>.bl (decide (j<=i))):=Ou fun _ _ _ _ _ _ _ q=>ge_int q
theorem Ky:rD X (compareOp .Is) (fun x y H Q=>y=.dR/\Q (.bl (decide (x=.dR))) H):=by
 intro pins s σ H x y v u Q I rx ry h;obtain⟨rfl,q⟩:=h;cases ry;refine is_none_gen (b9 I q ?_);cases x<;>first
  |(cases rx;rfl)
  |(obtain⟨t,rfl⟩:=rx;rfl)
theorem Ov:rD X (compareOp .IsNot) (fun x y H Q=>y=.dR/\Q (.bl (!decide (x=.dR))) H):=by
 intro pins s σ H x y v u Q I rx ry h;obtain⟨rfl,q⟩:=h;cases ry;refine isnot_none_gen (b9 I q ?_);cases x<;>first
  |(cases rx;rfl)
  |(obtain⟨t,rfl⟩:=rx;rfl)
theorem bc(b:Expr){op:CmpOp}(h:op≠.In:=by decide)(h2:op≠.NotIn:=by decide):behindInMarks op b=false:=by
 have e1:(op==CmpOp.In)=false:=by cases op<;>first |rfl |exact absurd rfl h
 have e2:(op==CmpOp.NotIn)=false:=by cases op<;>first |rfl |exact absurd rfl h2
 cases b<;>simp[behindInMarks,e1,e2]
theorem iO{op:CmpOp}{r:R2}(ho:rD X (compareOp op) r)(ha:PE X a ta)(hb:PE X b tb)(hm:behindInMarks op b=false):PE X (.Compare a [op] [b] pos) (Vv r ta tb):=by
 intro pins s σ H Q I h;exact wpAny_Compare1 (Sb ha hb I h fun v u s2 x y H2 I2 rx ry q=>ho pins s2 σ H2 x y v u Q I2 rx ry q) hm
def C3 (t:TE):TT:=fun σ H Q=>t σ H fun x H'=>∃k,x=.bl k/\Q k H'
theorem aW{op:CmpOp}{r:R2}(ho:rD X (compareOp op) r)(ha:PE X a ta)(hb:PE X b tb)(hm:behindInMarks op b=false):PT X (.Compare a [op] [b] pos) (C3 (Vv r ta tb)):=by
 intro pins s σ H Q I h;refine wpAny_isTrue_Compare1 (dE (ha pins s σ H _ I h) fun v s1 zqz=>?_) hm;obtain⟨x,H1,I1,r1,q1⟩:=zqz;refine dE (hb pins s1 σ H1 _ I1 q1) fun u s2 zqz=>?_;obtain⟨y,H2,I2,r2,q2⟩:=zqz;refine dE (ho pins s2 σ H2 x y v u _ I2 r1 r2 q2) fun c s3 zqz=>?_;obtain⟨z,H3,I3,r3,k,e,q3⟩:=zqz;subst e;cases r3;exact wpAny_truthy_bool ⟨H3,I3,q3⟩
def EZ (r r':R2) (ta tb tc:TE):TE:=fun σ H Q=>ta σ H fun x H1=>tb σ H1 fun y H2=>r x y H2 fun z H3=>∃k,z=.bl k/\
 (if k=true then tc σ H3 fun w' H4=>r' y w' H4 Q else Q (.bl false) H3)
theorem Kz{op Zz:CmpOp}{r r':R2}(ho:rD X (compareOp op) r)(rC:rD X (compareOp Zz) r')(ha:PE X a ta)(hb:PE X b tb)(hc:PE X c tc)
 (hm:lastMarks [op,Zz] [b,c]=false:=by with_unfolding_all rfl):PT X (.Compare a [op,Zz] [b,c] pos) (C3 (EZ r r' ta tb tc)):=by
 intro pins s σ H Q I h;refine isTrue_chain (dE (ha pins s σ H _ I h) fun v s1 ⟨x,H1,I1,r1,q1⟩=>test_link (dE (hb pins s1 σ H1 _ I1 q1) fun u s2 zqz=>?_)) hm;obtain⟨y,H2,I2,r2,q2⟩:=zqz;refine dE (ho pins s2 σ H2 x y v u _ I2 r1 r2 q2) fun d s3 zqz=>?_;obtain⟨z,H3,I3,r3,k,e,q3⟩:=zqz;subst e;cases r3;refine wpAny_truthy_bool ?_;cases k with
 |false=>
  obtain⟨k',e',q'⟩:=q3;cases e';exact ite_ff ⟨H3,I3,q'⟩
 |true=>
  refine ite_tt (test_last (dE (hc pins s3 σ H3 _ I3 q3) fun w' s4 zqz=>?_));obtain⟨z',H4,I4,r4,q4⟩:=zqz;refine dE (rC pins s4 σ H4 y z' u w' _ I4 r2 r4 q4) fun d' s5 zqz=>?_;obtain⟨z2,H5,I5,r5,k2,e2,q5⟩:=zqz;subst e2;cases r5;exact wpAny_truthy_bool ⟨H5,I5,q5⟩
def VB (K:zaa) (x:V) (H:Hp) (k:Bool):Prop:=
 match x with
 |.dR=>k=false
 |.bl b=>k=b
 |.int i=>k=(i != 0)
 |.str y=>y.length<=zdD/\k=((y.length:Int) != 0)
 |.Gx y=>y.size<=zdD/\k=((y.size:Int) != 0)
 |.ref p=>(∃xs,jc K H p xs/\k = !xs.isEmpty)\/(∃xs,bQ K H p xs/\k = !xs.isEmpty)\/∃kvs,H p=some (.dK kvs)/\k = !kvs.isEmpty
 |_=>False
theorem E1{κ:Type}{kvs:List (κ×V)}{vs:List (κ×zdw)}(r:KV kvs vs):(!vs.isEmpty) = !kvs.isEmpty:=by
 cases r<;>rfl
theorem x8{xs:List V}{bq:List zdw}(r:Vals xs bq):(!bq.toArray.isEmpty) = !xs.isEmpty:=by
 cases r<;>simp
theorem x9:(zdD:Nat)<2 ^ 63:=by rw[sizeLine_eq];decide
theorem Sd:Zy X (fun x H Q=>∃k,VB X.K x H k/\Q k H):=by
 intro pins s σ H x v Q I rx h;obtain⟨k,e,q⟩:=h;have hl:=x9;have hs:zdD=16777216:=sizeLine_eq;cases x with
 |dR=>
  cases rx;have e':k=false:=e;subst e';exact truthy_none ⟨H,I,q⟩
 |bl b=>
  cases rx;have e':k=b:=e;subst e';exact wpAny_truthy_bool ⟨H,I,q⟩
 |int i=>
  obtain⟨t,rfl⟩:=rx;have e':k=(i != 0):=e;subst e';exact PySem.P.truthy_int ⟨H,I,q⟩
 |str y=>
  obtain⟨t,rfl⟩:=rx;obtain⟨hy,e'⟩:y.length<=zdD/\k=((y.length:Int) != 0):=e;subst e';exact PySem.P.truthy_str (by lia) ⟨H,I.tok _,q⟩
 |Gx y=>
  obtain⟨t,rfl⟩:=rx;obtain⟨hy,e'⟩:y.size<=zdD/\k=((y.size:Int) != 0):=e;subst e';exact PySem.W.truthy_bytes (by lia) ⟨H,I.tok _,q⟩
 |ref p=>
  cases rx;have e':(∃xs,jc X.K H p xs/\k = !xs.isEmpty)\/(∃xs,bQ X.K H p xs/\k = !xs.isEmpty)\/∃kvs,H p=some (.dK kvs)/\k = !kvs.isEmpty:=e;rcases e' with ⟨xs,hx,e'⟩ |⟨xs,hx,e'⟩ |⟨kvs,hx,e'⟩
  ·subst e';obtain⟨bq,r,pl,hz⟩:=I.list hx;have hlen:=r.length;exact wpAny_truthy_list pl.isList (by simp only[zau];lia) ⟨H,I.tok _,by rw[x8 r];exact q⟩
  ·subst e';obtain⟨bq,r,pl,hz⟩:=I.tuple hx;have hlen:=r.length;exact truthy_tuple pl (by simp only[zau];lia) ⟨H,I.tok _,by rw[x8 r];exact q⟩
  ·subst e';obtain⟨hz,hS,vs,r,m⟩:kvs.length<=zdD/\(p==sysModules)=false/\∃vs,KV kvs vs/\s.heap.DictOf (bR X.prog X.w) p vs:=I.bX p _ hx;have hlen:kvs.length=vs.length:=Paired.length r;exact wpAny_truthy_dict hS m (by lia) ⟨H,I.tok _,by rw[E1 r];exact q⟩
 |_=>exact(show False from e).elim
theorem C4(ha:PE X a ta)(he:∀whole,isTrue a X.env whole=(do let v <- whole;standAt a.pos;holding [v] (truthy v))) :
 PT X a (fun σ H Q=>ta σ H fun x H'=>∃k,VB X.K x H' k/\Q k H'):=by
 intro pins s σ H Q I h;exact isTrue_plain (dE (ha pins s σ H _ I h) fun v s1 ⟨x,H1,I1,r1,q1⟩=>Sd pins s1 σ H1 x v Q I1 r1 q1) (he _)
theorem vals1{x:V}{us:List zdw}(r:Vals [x] us):∃u,us=[u]/\RelV x u:=by
 cases r with
 |cons r1 r2=>cases r2;exact⟨_,rfl,r1⟩
theorem vals2{x y:V}{us:List zdw}(r:Vals [x,y] us):∃u w',us=[u,w']/\RelV x u/\RelV y w':=by
 cases r with
 |cons r1 r2=>
  cases r2 with
  |cons r3 r4=>cases r4;exact⟨_,_,rfl,r1,r3⟩
end
structure E2(h:Heap)(x dx C:zdv)(mA:Str->Option zdw):Prop where
 obj:h.get? x=some (zbx C dx)
 ns:h.Ns1 dx mA
 ne:dx≠x
theorem Ir{h:Heap}{dx:zdv}{mA:Str->Option zdw}(n:h.Ns1 dx mA):∃od,h.get? dx=some od/\∀name,zcH name od=some (mA name):=by
 obtain⟨o,es,ep,ho,hd,hk,_,hm⟩:=n;refine⟨o,ho,fun name=>?_⟩;have e:=hm name;unfold nsFind findBy at e;rw[<- Array.find?_toList] at e;unfold zcH;rw[hd];dsimp only;split
 ·rename_i y q;rw[q] at e;exact congrArg some e
 ·rename_i q;rw[q] at e;have a:es.toList.any (·.refKey)=false:=by
   rw[List.any_eq_false];intro y hy;obtain⟨z,t,E3⟩:=hk y (Array.mem_toList_iff.mp hy);simp[DictEntry.refKey,E3]
  have a':¬es.toList.any (·.refKey)=true:=by rw[a];exact zai
  rw[if_neg a'];exact congrArg some e
theorem E2.look{h:Heap}{x dx C:zdv}{mA:Str->Option zdw}(I:E2 h x dx C mA):∃od,PySem.W.InstAt h x (zbx C dx) C (some od)/\∀name,zcH name od=some (mA name):=
 let ⟨od,ho,hl⟩:=Ir I.ns
 ⟨od,⟨I.obj,rfl,rfl,ho⟩,hl⟩
section
variable{prog:zdH}{w:zdx}{A:zdG}{E:zdw->zdF->Prop}{s:zdF}{K:zaa}{x dx C f:zdv}{mA:Str->Option zdw}{name:Str}{v:zdw}
theorem get_map{expr:Bool}{Q:zdw->zdF->Prop}(X:K.In s.heap)(I:E2 s.heap x dx C mA)(hg:zbK K C name=true)(hh:zby K C=true)
 (ha:zax K (.ref C) name=some none) (hv:mA name=some v) (Iu:PySem.W.handedIn v=true) (h:Q v {s with toks:=s.toks+1}) :
 wpAny (model prog w) A (getAttr (.ref x) name expr) Q E s:=by
 obtain⟨od,J,hl⟩:=I.look;exact PySem.W.get_value X J (zcD hg).1 (PySem.W.findObj_own hh ha rfl (by rw[hl,hv])) Iu h
theorem KA{pl:Sem Bool}{Q:zdw×List zdw->zdF->Prop}(X:K.In s.heap)(I:E2 s.heap x dx C mA)(hg:zbK K C name=true)
 (hf:zax K (.ref C) name=some (some (.ref f))) (ht:zbL K (.ref f)=true) (hv:mA name=none) (h:Q (.ref f,[.ref x]) s) :
 wpAny (model prog w) A (getMethod (.ref x) name pl) Q E s:=by
 obtain⟨od,J,hl⟩:=I.look;exact PySem.W.method_fn X J (zcD hg).1 (zcD hg).2 hf (beq_iff_eq.mp ht) (by show (zcH name od).map (·.isSome)=some false;rw[hl,hv];rfl) h
theorem Bt{ns:List Str}{Q:Unit->zdF->Prop}(X:K.In s.heap)(I:E2 s.heap x dx C mA)
 (hs:zax K (.ref C) "__setattr__"=some (some (.builtin "object.__setattr__"))) (hp:zch K C=true) (ht:zda K C name=some none) (hh:zby K C=true)
 (hw:PySem.Within mA ns) (hsz:ns.length<=zdD)
 (h:∀h',E2 h' x dx C (fun y=>if y=name then some v else mA y)->Heap.SameBut dx s.heap h'->Q () {s with heap:=h',toks:=s.toks+2}) :
 wpAny (model prog w) A (setAttr (.ref x) name v) Q E s:=by
 obtain⟨od,J,hl⟩:=I.look;refine PySem.W.set_plain X J hs (PySem.W.osa_open (s:={s with toks:=s.toks+1}) (r:=none) X J hp ht fun b=>?_);obtain⟨cd,hc,Ab⟩:=zc0 hh;have hx:s.heap.get? x=some ⟨.ref C,some dx,.plain, #[]⟩:=I.obj;refine zdy (zdz (zdy (zdy (wpAny_loadPart hx (zdy (PySem.W.Looks.here (s:={s with toks:=s.toks+1}) (PySem.W.looks_clsIn X hc) ?_))))));rw[Ab];refine zdz (a:=some dx) (zdy (zdz (zdy ?_)));refine wpAny_nsSet1 (s:={s with toks:=s.toks+1}) I.ns fun h' Ya hs2=>?_;obtain⟨oD,esD,epD,hoD,hdD,hcD⟩:=Ya.count (PySem.Within.cons name v hw);refine zdy (wpAny_lookBehind hoD (by rw[hdD];exact pastItsLine_dict (zaw hcD (by rw[zap];lia))) ?_);exact zdz (h _ ⟨(hs2.2 _ (Ne.symm I.ne)).trans I.obj,Ya,I.ne⟩ hs2)
theorem KC{R:Result->zdF->Prop}{vs:List zdw}{kw:List (Str×zdw)}(X:K.In s.heap)(hm:zcA K C=true)
 (hi:zax K (.ref C) "__init__"=some (some (.ref f))) (hf:PySem.W.typeIn K (.ref f)=some (.type "function"))
 (h:codeAny (model prog w) (A.under (.builtin "type.__call__" ⟨.ref C::vs,kw⟩)) (.call (.ref f) ⟨.ref (s.heap.objs.size+1)::vs,kw⟩) (PySem.W.InitBack (s.heap.objs.size+1) R)
  {s with heap:=(s.heap.push zbe).push (zbx C s.heap.objs.size)}) :
 codeAny (model prog w) A (.call (.ref C) ⟨vs,kw⟩) R s:=by
 obtain⟨hh,g,d,t,os⟩:=s;exact PySem.W.make_core (PySem.W.makes_of X hm) (zbZ X hi) (fun self=>PySem.W.bind_fn X self hf) (.inl rfl) h
end
def jU (f:Str) (v:V):List (Str×V)->List (Str×V)
 |[]=>[(f,v)]
 |(g,x)::r=>if g=f then (g,v)::r else (g,x)::jU f v r
theorem wX(f g:Str)(v:V):∀fs:List (Str×V),(jU f v fs).lookup g=if g=f then some v else fs.lookup g
 |[]=>by
  show zbk g [(f,v)]=_;by_cases h:g=f
  ·have hb:(g==f)=true:=beq_iff_eq.mpr h;simp only[zbk,hb,if_pos h]
  ·have hb:(g==f)=false:=beq_eq_false_iff_ne.mpr h;simp only[zbk,hb,if_neg h]
 |(k,x)::r=>by
  have ih:=wX f g v r;rw[show jU f v ((k,x)::r)=(if k=f then (k,v)::r else (k,x)::jU f v r) from rfl];by_cases hk:k=f
  ·rw[if_pos hk];by_cases h:g=k
   ·have hb:(g==k)=true:=beq_iff_eq.mpr h;simp only[zbk,hb,if_pos (h.trans hk)]
   ·have hb:(g==k)=false:=beq_eq_false_iff_ne.mpr h;simp only[zbk,hb,if_neg (fun e:g=f=>h (e.trans hk.symm))]
  ·rw[if_neg hk];by_cases h:g=k
   ·have hb:(g==k)=true:=beq_iff_eq.mpr h;simp only[zbk,hb,if_neg (fun e:g=f=>hk (h.symm.trans e))]
   ·have hb:(g==k)=false:=beq_eq_false_iff_ne.mpr h;simp only[zbk,hb];exact ih
theorem vT(f:Str)(v:V):∀fs:List (Str×V),f∈(jU f v fs).map (·.1)/\∀g,g∈fs.map (·.1)->g∈(jU f v fs).map (·.1)
 |[]=>⟨by simp[jU],fun g h=>by simp at h⟩
 |(k,x)::r=>by
  obtain⟨i1,i2⟩:=vT f v r;rw[show jU f v ((k,x)::r)=(if k=f then (k,v)::r else (k,x)::jU f v r) from rfl];by_cases hk:k=f
  ·rw[if_pos hk];subst hk;exact⟨by simp,fun g h=>by simpa using h⟩
  ·rw[if_neg hk];refine⟨?_,fun g h=>?_⟩
   ·rw[zaq];exact zaj _ i1
   ·rw[zaq] at h ⊢;rcases zah.mp h with e |e
    ·exact zah.mpr (.inl e)
    ·exact zaj _ (i2 g e)
theorem wY(f:Str)(v:V):∀fs:List (Str×V),(jU f v fs).length<=fs.length+1
 |[]=>by simp[jU]
 |(k,x)::r=>by
  have ih:=wY f v r;rw[show jU f v ((k,x)::r)=(if k=f then (k,v)::r else (k,x)::jU f v r) from rfl];by_cases hk:k=f
  ·rw[if_pos hk,zap,zap];lia
  ·rw[if_neg hk,zap,zap];lia
theorem mh.some_of{v:V}{o:Option zdw}(r:mh (some v) o):∃u,o=some u/\RelV v u:=by
 cases o with
 |none=>exact(show False from r).elim
 |some u=>exact⟨u,rfl,r⟩
theorem mh.none_of{o:Option zdw}(r:mh none o):o=none:=by
 cases o with
 |none=>rfl
 |some u=>exact(show False from r).elim
theorem Iw{v:V}{u:zdw}(r:RelV v u):PySem.W.handedIn u=true:=by
 cases v with
 |dR=>cases (show u=Value.none from r);rfl
 |bl b=>cases (show u=Value.bool b from r);rfl
 |int i=>obtain⟨t,e⟩:=(show ∃t,u=Value.int i t from r);cases e;rfl
 |str x=>obtain⟨t,e⟩:=(show ∃t,u=Value.str x t from r);cases e;rfl
 |Gx b=>obtain⟨t,e⟩:=(show ∃t,u=Value.bytes b t from r);cases e;rfl
 |X4 b=>obtain⟨t,e⟩:=(show ∃t,u=Value.float b t from r);cases e;rfl
 |ref a=>cases (show u=Value.ref a from r);rfl
 |ty n=>cases (show u=Value.type n from r);rfl
section
variable{P:zdH}{w:zdx}{H H':Hp}{h h':Heap}{a C dx:zdv}{fs Uz:List (Str×V)}
theorem Bu(bX:mq P w H h)(e:H a=some (.ins C dx fs)):∃mA,E2 h a dx C mA/\(∀f,mh (fs.lookup f) (mA f))/\PySem.Within mA (fs.map (·.1))/\fs.length<=1000/\H dx=some (.own a):=by
 obtain⟨d,z,ne,ob,mA,n,r,q⟩:=(show du P w H h a (.ins C dx fs) from bX a _ e)
 exact⟨mA,⟨ob,n,ne⟩,r,q,z,d⟩
end
structure KD(K:zaa)(C:zdv):Prop where
 pg:zbK K C Str.empty=true
 hd:zby K C=true
 po:zch K C=true
 sa:zax K (.ref C) "__setattr__"=some (some (.builtin "object.__setattr__"))
theorem KD.get{K:zaa}{C:zdv}(c:KD K C)(f:Str):zbK K C f=true:=c.pg
def fQ (K:zaa) (C:zdv) (f:Str):Prop:=zax K (.ref C) f=some none
theorem fQ.VC{K:zaa}{C:zdv}{f:Str}(n:fQ K C f):zda K C f=some none:=by
 unfold zda;rw[show zax K (.ref C) f=some none from n];rfl
structure Meth(K:zaa)(C:zdv)(m:Str)(f:zdv):Prop where
 at_:zax K (.ref C) m=some (some (.ref f))
 fn:zbL K (.ref f)=true
 kp:zaY K (.ref f)=true
section
variable{X:Cx}{pins:List (zdv×Obj)}{σ:St}{H:Hp}{s:zdF}{a C dx:zdv}{fs:List (Str×V)}{f:Str}{v:V}{A:zdG}{E:zdw->zdF->Prop}
theorem yc{b:Bool}{Q:zdw->zdF->Prop}(I:Inv X pins σ H s)(e:H a=some (.ins C dx fs))(c:KD X.K C)(n:fQ X.K C f)(l:fs.lookup f=some v)
 (h:∀u s',Inv X pins σ H s'->RelV v u->Q u s'):wpAny (model X.prog X.w) A (getAttr (.ref a) f b) Q E s:=by
 obtain⟨mA,O,r,_,_,_⟩:=Bu I.bX e;obtain⟨u,hu,ru⟩:=mh.some_of (v:=v) (o:=mA f) (by rw[<- l];exact r f);exact get_map I.AK O (c.get f) c.hd n hu (Iw ru) (h u _ (I.tok _) ru)
theorem E4{m:Str}{g:zdv}{pl:Sem Bool}{Q:zdw×List zdw->zdF->Prop}(I:Inv X pins σ H s)(e:H a=some (.ins C dx fs))(c:KD X.K C)(k:Meth X.K C m g)(l:fs.lookup m=none)
 (h:Q (.ref g,[.ref a]) s):wpAny (model X.prog X.w) A (getMethod (.ref a) m pl) Q E s:=by
 obtain⟨mA,O,r,_,_,_⟩:=Bu I.bX e;have hn:mA m=none:=mh.none_of (by rw[<- l];exact r m);exact KA I.AK O (c.get m) k.at_ k.fn hn h
theorem yd{y:V}{u:zdw}{Q:Unit->zdF->Prop}(I:Inv X pins σ H s)(e:H a=some (.ins C dx fs))(c:KD X.K C)(n:fQ X.K C f)(hl:fs.length<1000)(ry:RelV y u)
 (h:∀s',Inv X pins σ (upd H a (.ins C dx (jU f y fs))) s'->Q () s'):wpAny (model X.prog X.w) A (setAttr (.ref a) f u) Q E s:=by
 obtain⟨mA,O,r,wi,_,ho⟩:=Bu I.bX e;have hz:(fs.map (·.1)).length<=zdD:=by rw[zad,sizeLine_eq];lia
 refine Bt I.AK O c.sa c.po n.VC c.hd wi hz fun h' O' sb=>h _ ?_;have hd:∃o,h'.get? dx=some o:=let ⟨o,_,_,e',_⟩:=O'.ns;⟨o,e'⟩;refine I.write (x:=a) (e:=dx) (by rw[e];exact True.intro) (.inr ho) (fun b q hb z=>(sb.2 b hb).trans z) hd ?_;refine⟨by rw[au O.ne];exact ho,?_,O.ne,O'.obj,_,O'.ns,fun g=>?_,fun g hg=>?_⟩
 ·have:=wY f y fs;lia
 ·show mh ((jU f y fs).lookup g) (if g=f then some u else mA g);rw[wX];by_cases q:g=f
  ·rw[if_pos q,if_pos q];exact ry
  ·rw[if_neg q,if_neg q];exact r g
 ·by_cases q:g=f
  ·rw[q];exact(vT f y fs).1
  ·refine(vT f y fs).2 g (wi g fun z=>hg ?_);show (if g=f then some u else mA g)=none;rw[if_neg q];exact z
theorem Inv.made(I:Inv X pins σ H s):Inv X pins σ (upd (upd H s.heap.objs.size (.own (s.heap.objs.size+1))) (s.heap.objs.size+1) (.ins C s.heap.objs.size []))
 {s with heap:=(s.heap.push zbe).push (zbx C s.heap.objs.size)}:=by
 have e1:(s.heap.push zbe).get? s.heap.objs.size=some zbe:=Heap.get?_push_size s.heap rfl;have e2:((s.heap.push zbe).push (zbx C s.heap.objs.size)).get? (s.heap.objs.size+1)=some (zbx C s.heap.objs.size):=by
  have:=Heap.get?_push_size (s.heap.push zbe) (o:=zbx C s.heap.objs.size) rfl
  rwa [Heap.size_push] at this
 have e3:(s.heap.push zbe).Ns s.heap.objs.size (fun _=>none):=⟨zbe, #[],_,e1,rfl,(fun e he=>absurd he (by simp)),fun _=>rfl⟩
 have I1:=I.laid (a:=s.heap.objs.size) (o:=.own (s.heap.objs.size+1)) (h':=s.heap.push zbe) (t':=s.toks) (fun b u q=>Heap.get?_push_of_some _ q) (zag _) ⟨_,e1⟩;refine I1.laid (a:=s.heap.objs.size+1) (o:=.ins C s.heap.objs.size []) (t':=s.toks) (fun b u q=>Heap.get?_push_of_some _ q) (zds (Heap.size_push _ _)) ?_;have ne:s.heap.objs.size≠s.heap.objs.size+1:=zaD (zcm _);refine⟨by rw[au ne,ah],zaK _,ne,e2,fun _=>none,(Heap.Ns1.of_empty e3).at fun o q=>Heap.get?_push_of_some _ q,fun _=>True.intro,fun y hy=>absurd rfl hy⟩
theorem Ow{prog:zdH}{w:zdx}{env:Env}{e:Expr}{f:Str}{pos:Pos}{s:zdF}{Q:zdw->zdF->Prop}(hb:attributeBase e f env (eval e env)=eval e env)
 (h:wpAny (model prog w) A (eval e env) (fun o s₁=>wpAny (model prog w) A (getAttr o f true) Q E s₁) E s):wpAny (model prog w) A (eval (.Attribute e f pos) env) Q E s:=
 Attribute_any_ h (by rw[arm_eval_Attribute,hb])
end
def Se (K:zaa) (ta:TE) (f:Str):TE:=fun σ H Q=>ta σ H fun x H1=>∃a C dx fs v,x=.ref a/\H1 a=some (.ins C dx fs)/\KD K C/\fQ K C f/\fs.lookup f=some v/\Q v H1
def C5 (K:zaa) (ta tv:TE) (f:Str):TS:=fun D σ H=>tv σ H fun y H1=>ta σ H1 fun x H2=>∃a C dx fs,x=.ref a/\H2 a=some (.ins C dx fs)/\KD K C/\fQ K C f/\fs.length<1000/\
 D.nx σ (upd H2 a (.ins C dx (jU f y fs)))
def VD (X:Cx) (op:Operator) (rd:V->V->Hp->VK->Prop):Prop:=
 ∀(pins:List (zdv×Obj)) (s:zdF) (σ:St) (H:Hp) (x y:V) (u v:zdw) (Q:VK),Inv X pins σ H s->RelV x u->RelV y v->rd x y H Q->wpAny (model X.prog X.w) X.A (inplaceOp op u v) (EP X pins σ Q) X.xe s
def Bv (K:zaa) (ta tv:TE) (rd:V->V->Hp->VK->Prop) (f:Str):TS:=fun D σ H=>ta σ H fun x H1=>∃a C dx fs v,x=.ref a/\H1 a=some (.ins C dx fs)/\KD K C/\fQ K C f/\fs.lookup f=some v/\
 tv σ H1 fun y H2=>rd v y H2 fun z H3=>∃ZA Uz,H3 a=some (.ins C ZA Uz)/\Uz.length<1000/\D.nx σ (upd H3 a (.ins C ZA (jU f z Uz)))
section
variable{X:Cx}{o e value:Expr}{f:Str}{pos pos' Ox:Pos}{ta tv:TE}
theorem cU(he:PE X e ta)(hb:attributeBase e f X.env (eval e X.env)=eval e X.env):PE X (.Attribute e f pos) (Se X.K ta f):=by
 intro pins s σ H Q I h;refine Ow hb (dE (he pins s σ H _ I h) fun u s1 zqz=>?_);obtain⟨x,H1,I1,rx,a,C,dx,fs,v,ex,ea,c,n,l,q⟩:=zqz;subst ex;obtain rfl:u=Value.ref a:=rx;exact yc I1 ea c n l fun u' s2 I2 ru=>⟨v,H1,I2,ru,q⟩
theorem iP(ha:PE X o ta)(hv:PE X value tv)(hs:swapsWith value (some (.Attribute o f pos')) pos.line X.env=pure false):PS X (.Assign [.Attribute o f pos'] value pos) (C5 X.K ta tv f):=by
 intro pins s σ H D I h;refine plainObj_wpAny_Assign_Attribute (dE (hv pins s σ H _ I h) fun u s1 zqz=>?_) hs;obtain⟨y,H1,I1,ry,q⟩:=zqz;refine dE (ha pins s1 σ H1 _ I1 q) fun ov s2 zqz=>?_;obtain⟨x,H2,I2,rx,a,C,dx,fs,ex,ea,c,n,l,q2⟩:=zqz;subst ex;obtain rfl:ov=Value.ref a:=rx;exact yd I2 ea c n l ry fun s3 I3=>⟨σ,_,I3,q2⟩
theorem Iy{op:Operator}{rd:V->V->Hp->VK->Prop}(ha:PE X o ta)(hv:PE X value tv)(Oy:VD X op rd):PS X (.AugAssign (.Attribute o f Ox) op value pos) (Bv X.K ta tv rd f):=by
 intro pins s σ H D I h;refine wpAny_AugAssign_AttributeAny (dE (ha pins s σ H _ I h) fun ov s1 zqz=>?_);obtain⟨x,H1,I1,rx,a,C,dx,fs,v,ex,ea,c,n,l,q⟩:=zqz;subst ex;obtain rfl:ov=Value.ref a:=rx;refine yc I1 ea c n l fun u s2 I2 ru=>dE (hv pins s2 σ H1 _ I2 q) fun w3 s3 zqz=>?_;obtain⟨y,H2,I3,ry,q3⟩:=zqz;refine dE (Oy pins s3 σ H2 v y u w3 _ I3 ru ry q3) fun w4 s4 zqz=>?_;obtain⟨z,H3,I4,rz,ZA,Uz,ea',l',q4⟩:=zqz;exact yd I4 ea' c n l' rz fun s5 I5=>⟨σ,_,I5,q4⟩
def ZC:V->V->Hp->VK->Prop:=fun x y H Q=>∃i j,x=.int i/\y=.int j/\Q (.int (i+j)) H
theorem Sf:VD X .Add ZC:=by
 rintro pins s σ H x y u v Q I rx ry ⟨i,j,rfl,rfl,q⟩
 obtain⟨t,rfl⟩:=(show ∃t,u=Value.int i t from rx)
 obtain⟨t',rfl⟩:=(show ∃t',v=Value.int j t' from ry)
 exact PyProof.Rows.iadd_int ⟨.int (i+j),H,I.tok _,⟨_,rfl⟩,q⟩
end
structure gB(k:Nat)(A:zdG):Prop where
 hd:A.handled=none
 dp:A.depth+3*k+5<recursionLimit
 un:A.units+16*k+200<cLine
theorem gB.mono{j k:Nat}{A:zdG}(r:gB k A)(h:j<=k):gB j A:=⟨r.hd,by have:=r.dp;lia,by have:=r.un;lia⟩
theorem gB.deeper{k:Nat}{A:zdG}(r:gB (k+1) A)(env:Env):gB k (A.deeper env):=
 ⟨r.hd,by have:=r.dp;show A.depth+1+3*k+5<_;lia,by have:=r.un;show A.units+3+16*k+200<_;lia⟩
theorem E5{A:zdG}{C:zdv}{us:List zdw}{kw:List (Str×zdw)}:(A.under (.builtin "type.__call__" ⟨.ref C::us,kw⟩)).depth=A.depth+1:=by
 first |rfl |simp[Around.under,Code.weight,Code.isCreation,Code.isGuard,Code.isCaller,Code.frames,Code.isFrame,guardIds]
theorem E6{A:zdG}{C:zdv}{us:List zdw}{kw:List (Str×zdw)}:(A.under (.builtin "type.__call__" ⟨.ref C::us,kw⟩)).units=A.units+1:=by
 first |rfl |simp[Around.under,Code.cUnits,Code.frames,Code.isFrame]
theorem gB.make{k:Nat}{A:zdG}(r:gB (k+1) A)(C:zdv)(us:List zdw)(kw:List (Str×zdw)):gB k (A.under (.builtin "type.__call__" ⟨.ref C::us,kw⟩)):=
 ⟨r.hd,by have:=r.dp;rw[E5];lia,by have:=r.un;rw[E6];lia⟩
theorem gB.depth{k:Nat}{A:zdG}(r:gB k A):A.depth<recursionLimit:=by have:=r.dp;lia
theorem gB.units{k:Nat}{A:zdG}(r:gB k A):A.units+64<cLine:=by have:=r.un;lia
def KG:TA:=fun _ H Q=>Q [] H
def yg (ta:TE) (tr:TA):TA:=fun σ H Q=>ta σ H fun x H1=>tr σ H1 fun xs H2=>Q (x::xs) H2
section
variable{X:Cx}{e:Expr}{es:List Expr}{te:TE}{t:TA}{pos:Pos}
theorem ag:PA X [] KG:=fun _ _ _ _ H Q I h=>Calls.spliced_nil ⟨[],H,I,.nil,h⟩
theorem ae(ha:PE X e te)(hr:PA X es t)(hs:zdB (e::es) X.env=(false,eval e X.env)::zdB es X.env:=by rfl):PA X (e::es) (yg te t):=by
 intro pos pins s σ H Q I h;rw[hs];show wpAny _ _ (spliced ((false,eval e X.env)::backTo pos (zdB es X.env))) _ _ s;refine Calls.spliced_cons (dE (ha pins s σ H _ I h) fun u s1 zqz=>?_);obtain⟨x,H1,I1,r1,q1⟩:=zqz;exact dE (hr pos pins s1 σ H1 _ I1 q1) fun us s2 ⟨xs,H2,I2,r2,q2⟩=>⟨x::xs,H2,I2,.cons r1 r2,q2⟩
def VE (t:TA):TE:=fun σ H Q=>t σ H fun xs H1=>xs.length<=zdD/\∀p,H1 p=none->Q (.ref p) (upd H1 p (.tup xs))
def VF (t:TA):TE:=fun σ H Q=>t σ H fun xs H1=>xs.length<=zdD/\∀p,H1 p=none->Q (.ref p) (upd H1 p (.lst xs))
theorem aG{x1}(h:PA X es t):PE X (.Tuple es x1 pos) (VE t):=by
 intro pins s σ H Q I hq;refine wpAny_Tuple_spliced (dE (h pos pins s σ H _ I hq) fun us s1 ⟨xs,H1,I1,r,z,q⟩=>⟨by rw[<- r.length];exact z,?_⟩);have hf:H1 s1.heap.objs.size=none:=I1.bX.fresh (zag _);refine⟨.ref s1.heap.objs.size,upd H1 s1.heap.objs.size (.tup xs),I1.laid (t':=s1.toks) (fun b u e=>Heap.get?_push_of_some _ e) (zag _) ?_,rfl,q _ hf⟩;exact⟨z,us,r,⟨_,Heap.get?_push_size _ rfl,rfl,_,rfl⟩⟩
theorem br(h:PA X es t):PE X (.List es pos) (VF t):=by
 intro pins s σ H Q I hq;refine wpAny_List_spliced (dE (h pos pins s σ H _ I hq) fun us s1 ⟨xs,H1,I1,r,z,q⟩=>⟨by rw[<- r.length];exact z,?_⟩);have hf:H1 s1.heap.objs.size=none:=I1.bX.fresh (zag _);refine⟨.ref s1.heap.objs.size,upd H1 s1.heap.objs.size (.lst xs),I1.laid (t':=s1.toks) (fun b u e=>Heap.get?_push_of_some _ e) (zag _) ?_,rfl,q _ hf⟩;exact⟨z,us,0,r,Heap.get?_push_size _ rfl⟩
end
abbrev Sp:=List V->Hp->VK->XK->Prop
abbrev CK:=List Env->Hp->zdF->XK->zdw->zdF->Prop
structure tw(P:zdH)(w:zdx)(K:zaa)(mg:Str->Option zdw)(base:Heap)(A:zdG)(outer:List Env)(s:zdF)(H:Hp):Prop where
 frames:A.frames=some outer
 mod:Mod K mg base
 bs:∀b o,base.get? b=some o->s.heap.get? b=some o/\H b=none
 CV:base.objs.size<=s.heap.objs.size
 mL:s.heap.FunFrames base outer
 Gy:∀b∈rB outer,H b=none
 bX:mq P w H s.heap
 bare:AllBare s.gens
def CE (outer:List Env) (P:zdH) (w:zdx) (H:Hp) (s:zdF) (Q:VK) (u:zdw) (s':zdF):Prop:=
 ∃v H',s'.os=s.os/\AllBare s'.gens/\Un (rB outer) [] H H' s.heap s'.heap/\mq P w H' s'.heap/\RelV v u/\Q v H'
def CR (CX:CK) (outer:List Env) (P:zdH) (w:zdx) (H:Hp) (s:zdF) (Q:VK) (E:XK) (r:Result) (s':zdF):Prop:=
 match r with
 |.ok (.ret u)=>CE outer P w H s Q u s'
 |.ok _=>False
 |.error e=>CX outer H s E e s'
structure bD(P:zdH)(w:zdx)(K:zaa)(mg:Str->Option zdw)(base:Heap)(CX:CK)(k:Nat)(f:zdv)(fd:zdE)(ps:List Str)(sp:Sp):Prop where
 len:∀vs H Q E,sp vs H Q E->vs.length=ps.length
 run:∀(A:zdG) (outer:List Env) (s:zdF) (H:Hp) (args:Args) (us:List zdw) (vs:List V) (Q:VK) (E:XK),gB k A->tw P w K mg base A outer s H->BindsTo s fd args (ps.zip us)->Vals vs us->sp vs H Q E->
  codeAny (model P w) A (.call (.ref f) args) (CR CX outer P w H s Q E) s
theorem tw.make{P:zdH}{w:zdx}{K:zaa}{mg:Str->Option zdw}{base:Heap}{A:zdG}{outer:List Env}{s:zdF}{H:Hp}(e:tw P w K mg base A outer s H)(C:zdv)(us:List zdw)(kw:List (Str×zdw)) :
 tw P w K mg base (A.under (.builtin "type.__call__" ⟨.ref C::us,kw⟩)) outer s H:=⟨by first |exact e.frames |(simpa[Around.under,Code.envs,Code.isFrame,pushEnvs] using e.frames),e.mod,e.bs,e.CV,e.mL,e.Gy,e.bX,e.bare⟩
section
variable{X:Cx}{pins:List (zdv×Obj)}{σ:St}{H:Hp}{s s':zdF}
theorem Inv.KI(I:Inv X pins σ H s):tw X.prog X.w X.K X.mg X.base X.A X.stack s H:=
 ⟨I.ok.frames,I.ok.mod,I.bs,zaw I.ok.CV I.sz,I.stack,I.ur,I.bX,I.bare⟩
theorem Inv.after{Q:VK}{u:zdw}(I:Inv X pins σ H s)(h:CE X.stack X.prog X.w H s Q u s'):EP X pins σ Q u s':=by
 obtain⟨v,H',os,bare,un,bX,r,q⟩:=h;obtain⟨hh,g,d,t,os'⟩:=s';obtain rfl:os'=s.os:=os;exact⟨v,H',I.call (h':=hh) (g':=g) (d':=d) (t':=t) (ch:=[]) un bX bare (fun b z=>absurd z (by simp)),r,q⟩
end
def C6 (sp:Sp) (zU:List V) (E:XK) (t:TA):TE:=fun σ H Q=>t σ H fun vs H1=>sp (vs++zU) H1 Q E
def KJ (C:zdv) (m:Str) (sp:Sp) (zU:List V) (E:XK) (ta:TE) (t:TA):TE:=fun σ H Q=>ta σ H fun x H1=>∃a dx fs,x=.ref a/\H1 a=some (.ins C dx fs)/\fs.lookup m=none/\
 t σ H1 fun vs H2=>sp (x::(vs++zU)) H2 Q E
def KL (C:zdv) (sp:Sp) (zU:List V) (E:XK) (t:TA):TE:=fun σ H Q=>t σ H fun vs H1=>∀x dx,H1 x=none->H1 dx=none->dx≠x->
 sp (.ref x::(vs++zU)) (upd (upd H1 dx (.own x)) x (.ins C dx [])) (fun v H2=>v=.dR/\Q (.ref x) H2) E
def Binds (K:zaa) (fd:zdE) (ps:List Str) (ds:List zdw):Prop:=
 ∀(s:zdF) (us:List zdw),K.In s.heap->(us++ds).length=ps.length->BindsTo s fd ⟨us,[]⟩ (ps.zip (us++ds))
theorem Binds.all{K:zaa}{fd:zdE}{ps:List Str}(h:∀us:List zdw,us.length=ps.length->bindArgs fd ⟨us,[]⟩=pure (ps.zip us)):Binds K fd ps []:=fun s us _ hl=>by
 rw[zaG] at hl ⊢;exact .of_eq (h us hl)
def Passes (CX:CK) (X:Cx) (E:XK):Prop:=∀(pins:List (zdv×Obj)) (σ:St) (H:Hp) (s:zdF) (e:zdw) (s':zdF),Inv X pins σ H s->CX X.stack H s E e s'->X.xe e s'
section
variable{X:Cx}{CX:CK}{k:Nat}{f C:zdv}{fd:zdE}{ps:List Str}{sp:Sp}{zU:List V}{ds:List zdw}{E:XK}{x m:Str}{p pos apos:Pos}{e o:Expr}{es:List Expr}{ta:TE}{t:TA}
theorem KN{pins:List (zdv×Obj)}{σ:St}{H:Hp}{s:zdF}{Q:VK}{us:List zdw}{vs:List V}(F:bD X.prog X.w X.K X.mg X.base CX k f fd ps sp)(hr:gB k X.A)(hb:Binds X.K fd ps ds)(hd:Vals zU ds)(hx:Passes CX X E)
 (I:Inv X pins σ H s) (r:Vals vs us) (h:sp (vs++zU) H Q E):wpAny (model X.prog X.w) X.A (call (.ref f) us) (EP X pins σ Q) X.xe s:=by
 have r2:Vals (vs++zU) (us++ds):=r.append hd;have hl:(us++ds).length=ps.length:=by rw[<- r2.length];exact F.len _ _ _ _ h
 refine wpAny_call (codeAny_mono (F.run X.A X.stack s H ⟨us,[]⟩ (us++ds) (vs++zU) Q E hr I.KI (hb s us I.AK hl) r2 h) fun r s' hq=>?_);cases r with
 |error e=>exact hx pins σ H s e s' I hq
 |ok fl=>
  cases fl with
  |ret u=>exact I.after hq
  |next=>exact False.elim hq
  |brk=>exact False.elim hq
  |cont=>exact False.elim hq
theorem cB(F:bD X.prog X.w X.K X.mg X.base CX k f fd ps sp)(hr:gB k X.A)(hg:Gl X x)(hm:X.mg x=some (.ref f))(hk:zaY X.K (.ref f)=true)(hb:Binds X.K fd ps ds)(hd:Vals zU ds)(hx:Passes CX X E)
 (ha:PA X (e::es) t) (E7:(x==("__debug__":Str))=false:=by decide) (he:zdB (e::es) X.env=(false,eval e X.env)::zdB es X.env:=by rfl) (zV:(backTo pos (zdB es X.env)).any (·.1)=false:=by rfl) :
 PE X (.Call (.Name x p) (e::es) [] pos) (C6 sp zU E t):=by
 intro pins s σ H Q I h;refine wpAny_Call_Name_kw (nU I hg hm ?_ E7);refine zb6 (h₀:=X.base) I.ok.mod.RU hk (dE (ha pos pins s σ H _ I h) fun us s1 ⟨vs,H1,I1,r,q⟩=>⟨I1.AK,?_⟩) he zV;exact KN F hr hb hd hx I1 r q
theorem pJ{pl:Sem Bool}(he:PE X o ta)(c:KD X.K C)(hm:Meth X.K C m f)(F:bD X.prog X.w X.K X.mg X.base CX k f fd ps sp)(hr:gB k X.A)(hb:Binds X.K fd ps ds)(hd:Vals zU ds)(hx:Passes CX X E)
 (ht:eval (.Call (.Attribute o m apos) [] [] pos) X.env=(do
  let ov <- eval o X.env
  standAt apos.atName
  let (f,first) <- holding [ov] (getMethod ov m pl)
  callWith pos f first (backTo pos (zdB [] X.env)) (backToKw pos (keywordEach [] X.env))):=by rfl) :
 PE X (.Call (.Attribute o m apos) [] [] pos) (KJ C m sp zU E ta KG):=by
 intro pins s σ H Q I h;refine PySem.W.methodCall_KW (pl:=pl) (dE (he pins s σ H _ I h) fun u s1 zqz=>?_) ht;obtain⟨x,H1,I1,rx,a,dx,fs,ex,ea,l,q⟩:=zqz;subst ex;obtain rfl:u=Value.ref a:=rx;refine E4 I1 ea c hm l ?_;exact PySem.W.callWith_K0 (first:=[.ref a]) I1.AK hm.kp (KN (us:=[.ref a]) (vs:=[.ref a]) F hr hb hd hx I1 (.cons rfl .nil) q)
structure Mk(K:zaa)(C f:zdv):Prop where
 makes:zcA K C=true
 init:zax K (.ref C) "__init__"=some (some (.ref f))
 fn:zbL K (.ref f)=true
 kp:zaY K (.ref C)=true
theorem KO{pins:List (zdv×Obj)}{σ:St}{H:Hp}{s:zdF}{Q:VK}{us:List zdw}{vs:List V}(M:Mk X.K C f)(F:bD X.prog X.w X.K X.mg X.base CX k f fd ps sp)(hr:gB (k+1) X.A)(hb:Binds X.K fd ps ds)(hd:Vals zU ds)
 (hx:Passes CX X E) (I:Inv X pins σ H s) (r:Vals vs us)
 (h:∀x dx,H x=none->H dx=none->dx≠x->sp (.ref x::(vs++zU)) (upd (upd H dx (.own x)) x (.ins C dx [])) (fun v H2=>v=.dR/\Q (.ref x) H2) E) :
 wpAny (model X.prog X.w) X.A (call (.ref C) us) (EP X pins σ Q) X.xe s:=by
 have hq:=h (s.heap.objs.size+1) s.heap.objs.size (I.bX.fresh (Nat.le_succ _)) (I.bX.fresh (zag _)) (zaD (zcm _));have I2:=Inv.made (C:=C) I;have r2:Vals (V.ref (s.heap.objs.size+1)::(vs++zU)) (Value.ref (s.heap.objs.size+1)::(us++ds)):=.cons rfl (r.append hd);have hl:(Value.ref (s.heap.objs.size+1)::us++ds).length=ps.length:=by
  have e:=r2.length;rw[F.len _ _ _ _ hq] at e;exact e.symm
 refine wpAny_call (KC (f:=f) I.AK M.makes M.init (beq_iff_eq.mp M.fn) (codeAny_mono (F.run _ X.stack _ _ ⟨Value.ref (s.heap.objs.size+1)::us,[]⟩ (Value.ref (s.heap.objs.size+1)::(us++ds)) _ _ E (hr.make C us [])
  (I2.KI.make C us []) (hb _ (Value.ref (s.heap.objs.size+1)::us) I2.AK hl) r2 hq) fun r s' Sg=>?_))
 cases r with
 |error e=>exact hx pins σ _ _ e s' I2 Sg
 |ok fl=>
  cases fl with
  |ret u=>
   obtain⟨v,H',I3,rv,ev,q3⟩:=I2.after Sg;subst ev;exact⟨rv,⟨V.ref (s.heap.objs.size+1),H',I3,rfl,q3⟩⟩
  |next=>exact False.elim Sg
  |brk=>exact False.elim Sg
  |cont=>exact False.elim Sg
theorem GI(M:Mk X.K C f)(F:bD X.prog X.w X.K X.mg X.base CX k f fd ps sp)(hr:gB (k+1) X.A)(hg:Gl X x)(hm:X.mg x=some (.ref C))(hb:Binds X.K fd ps ds)(hd:Vals zU ds)(hx:Passes CX X E)
 (ha:PA X (e::es) t) (E7:(x==("__debug__":Str))=false:=by decide) (he:zdB (e::es) X.env=(false,eval e X.env)::zdB es X.env:=by rfl) (zV:(backTo pos (zdB es X.env)).any (·.1)=false:=by rfl) :
 PE X (.Call (.Name x p) (e::es) [] pos) (KL C sp zU E t):=by
 intro pins s σ H Q I h;refine wpAny_Call_Name_kw (nU I hg hm ?_ E7);refine zb6 (h₀:=X.base) I.ok.mod.RU M.kp (dE (ha pos pins s σ H _ I h) fun us s1 ⟨vs,H1,I1,r,q⟩=>⟨I1.AK,?_⟩) he zV;exact KO M F hr hb hd hx I1 r q
end
structure aT(N P:List Str)(sc:Scope):Prop where
 kind:sc.kind=.function
 co:sc.isCoroutine=false
 gen:sc.isGenerator=false
 nd:N.Nodup
 pre:N.take P.length=P
 par:∀x∈P,sc.names.lookup x=some .local\/sc.names.lookup x=some .cell
 Sh:∀y∈sc.names,y.2≠.free
theorem AM{kindOf:Str->Option NameKind}{x:Str}:∀ {binds:List (Str×zdw)} {m:Str->Option zdw},(∀v,(x,v) ∉ binds)->bindL kindOf binds m x=m x
 |[],_,_=>rfl
 |(n,v)::r,m,h=>by
  unfold bindL;rw[AM fun w hw=>h w (zaj _ hw)];split
  ·have:x≠n:=by rintro rfl;exact h v zan
   simp[this]
  ·rfl
theorem AN{kindOf:Str->Option NameKind}{x:Str}:∀ {binds:List (Str×zdw)} {m:Str->Option zdw},(∀v,(x,v) ∉ binds)->bindC kindOf binds m x=m x
 |[],_,_=>rfl
 |(n,v)::r,m,h=>by
  unfold bindC;rw[AN fun w hw=>h w (zaj _ hw)];split
  ·rfl
  ·have:x≠n:=by rintro rfl;exact h v zan
   simp[this]
theorem AO{kindOf:Str->Option NameKind}{x:Str}{v:zdw}:∀ {P:List Str} {vs:List zdw} {i:Nat} {m:Str->Option zdw},P.Nodup->P[i]?=some x->vs[i]?=some v->kindOf x=some .local->
 bindL kindOf (P.zip vs) m x=some v
 |[],_,_,_,_,h,_,_=>by simp at h
 |_::_,[],_,_,_,_,h,_=>by simp at h
 |p::P,w::vs,0,m,nd,h1,h2,hk=>by
  simp at h1 h2;subst h1;subst h2;show bindL kindOf ((p,w)::P.zip vs) m p=_;unfold bindL;rw[AM fun v hv=>(zbv.mp nd).1 (zc7 hv).1,if_pos hk];simp
 |p::P,w::vs,i+1,m,nd,h1,h2,hk=>by
  show bindL kindOf ((p,w)::P.zip vs) m x=_;unfold bindL;exact AO (i:=i) (zbv.mp nd).2 (by simpa using h1) (by simpa using h2) hk
theorem AQ{kindOf:Str->Option NameKind}{x:Str}{v:zdw}:∀ {P:List Str} {vs:List zdw} {i:Nat} {m:Str->Option zdw},P.Nodup->P[i]?=some x->vs[i]?=some v->kindOf x≠some .local->
 bindC kindOf (P.zip vs) m x=some v
 |[],_,_,_,_,h,_,_=>by simp at h
 |_::_,[],_,_,_,_,h,_=>by simp at h
 |p::P,w::vs,0,m,nd,h1,h2,hk=>by
  simp at h1 h2;subst h1;subst h2;show bindC kindOf ((p,w)::P.zip vs) m p=_;unfold bindC;rw[AN fun v hv=>(zbv.mp nd).1 (zc7 hv).1,if_neg hk];simp
 |p::P,w::vs,i+1,m,nd,h1,h2,hk=>by
  show bindC kindOf ((p,w)::P.zip vs) m x=_;unfold bindC;exact AQ (i:=i) (zbv.mp nd).2 (by simpa using h1) (by simpa using h2) hk
def start (N:List Str) (vs:List V):St:=vs.map some++zcE (N.length-vs.length) none
def ie (CX:CK) (P:zdH) (w:zdx) (K:zaa) (mg:Str->Option zdw) (base:Heap) (N:List Str) (qual:Str) (scope:Scope) (f:zdv) (cd:zdw) (A:zdG) (outer:List Env) (s:zdF) (H:Hp) (E:XK):Cx where
 prog:=P
 w:=w
 K:=K
 mg:=mg
 base:=base
 A:=A.deeper (envOfC qual scope s.heap.objs.size f cd)
 N:=N
 s₀:=s
 H₀:=H
 env:=envOfC qual scope s.heap.objs.size f cd
 outer:=outer
 stack:=envOfC qual scope s.heap.objs.size f cd::outer
 ex:=[]
 calm:=true
 fn:=fun _=>true
 pn:=[]
 xe:=fun e s'=>wpAny (model P w) (A.deeper (envOfC qual scope s.heap.objs.size f cd)) (leaving (envOfC qual scope s.heap.objs.size f cd) e) (fun _ NY=>CX outer H s E e NY) (fun e' NY=>CX outer H s E e' NY) s'
theorem C7{sc:Scope}{n:Nat}{x:Str}(h:sc.names.lookup x=some .cell):∃c,(cellsFrom n sc.names []).lookup x=some c:=by
 have q:=zde sc.names n [] (.inl h);exact zcU.mp q
theorem Iz{CX:CK}{P:zdH}{w:zdx}{K:zaa}{mg:Str->Option zdw}{base:Heap}{N ps:List Str}{qual:Str}{scope:Scope}{f:zdv}{cd:zdw}{A:zdG}{outer:List Env}{s s1:zdF}{H:Hp}{E:XK}{us:List zdw}{vs:List V}
 (S:aT N ps scope) (hd:A.handled=none) (e0:tw P w K mg base A outer s H) (hl:vs.length=ps.length) (r:Vals vs us)
 (x:InCallC s s.heap.objs.size (bindL (envOfC qual scope s.heap.objs.size f cd).kindOf (ps.zip us) fun _=>none) (cellsFrom (s.heap.objs.size+1) scope.names []) (bindC (envOfC qual scope s.heap.objs.size f cd).kindOf (ps.zip us) fun _=>none) s1) :
 Inv (ie CX P w K mg base N qual scope f cd A outer s H E) [] (start N vs) H s1:=by
 have zV:ps.length<=N.length:=by have:=congrArg zba S.pre;rw[zcn] at this;lia
 obtain⟨h1,tk,rfl,hk⟩:=x.done;have Si:∀b:zdv,b ∉ (ie CX P w K mg base N qual scope f cd A outer s H E).ex:=fun b z=>absurd (show b∈([]:List zdv) from z) (by simp);refine⟨⟨e0.mod,S.kind,rfl,rfl,zag _,fun y z c h1 h2=>?_,fun y hy=>?_,fun y c _ h=>?_,fun _=>hd,Around.frames_deeper e0.frames,.inr ⟨rfl,rfl⟩,fun b z=>absurd z (Si b),e0.bs,e0.CV,fun b _ _=>Si b,fun b z=>absurd z (Si b),e0.mL,e0.Gy⟩,
  rfl,e0.bare,Un.kept hk,⟨_,x.toInCall.ns,fun i y v h1 h2 h3=>?_⟩,fun y c h=>⟨_,x.cell y c h⟩,e0.bX.fresh (zag _),fun y c h=>?_,fun p hp=>absurd (show p∈([]:List (zdv×Obj)) from hp) (by simp),e0.bX.kept hk,?_⟩
 ·exact name_of_addr x.apart (PySem.mem_of_lookup h1) (PySem.mem_of_lookup h2)
 ·have hy:scope.names.lookup y=some .cell\/scope.names.lookup y=some .free:=hy;rcases hy with hy |hy
  ·exact C7 hy
  ·exact absurd rfl (S.Sh _ (PySem.mem_of_lookup hy))
 ·exact zcs (x.above y c (PySem.mem_of_lookup h))
 ·have hi:i<vs.length:=by
   unfold start at h2;by_cases hi:i<vs.length
   ·exact hi
   ·rw[zb0 (by simpa using hi)] at h2;rw[zc3] at h2;split at h2<;>cases h2
  have ha:vs[i]?=some v:=by
   unfold start at h2;rw[zcS (by simpa using hi),zao] at h2;cases e:vs[i]? with
   |none=>rw[e] at h2;cases h2
   |some a=>rw[e] at h2;cases h2;rfl
  obtain⟨u,hu,rv⟩:=r.get ha;have hp:ps[i]?=some y:=by
   rw[<- S.pre,List.getElem?_take_of_lt (by lia)];exact h1
  have ndP:ps.Nodup:=by rw[<- S.pre];exact S.nd.sublist (List.take_sublist _ _)
  refine⟨u,rv,?_⟩;rcases S.par y (za0 hp) with k |k
  ·exact .inl ⟨k,AO ndP hp hu k⟩
  ·obtain⟨c,e⟩:=C7 (n:=s.heap.objs.size+1) k;refine .inr ⟨.inl k,c,e,?_⟩;have q:=x.cell y c e;rw[AQ ndP hp hu (by show scope.names.lookup y≠_;rw[k];decide)] at q;exact q
 ·exact e0.bX.fresh (zcs (x.above y c (PySem.mem_of_lookup h)))
 ·unfold start;show _=N.length;rw[zaf,zad,zdf];lia
theorem KP{CX:CK}{P:zdH}{w:zdx}{K:zaa}{mg:Str->Option zdw}{base:Heap}{k:Nat}{f:zdv}{name qual:Str}{params:Arguments}{body:List Stmt}{scope:Scope}{dV kV doc pm eO ct oc:zdw}{an od:Option zdv}
 {E8:Array (Option zdw)} {N ps:List Str} {sp:Sp} (lk:K.lookup f=some ⟨oc,od,.func (zaX name qual params body scope dV kV doc pm an eO ct),E8⟩) (C0:zbt K eO qual=true) (S:aT N ps scope)
 (len:∀vs H Q E,sp vs H Q E->vs.length=ps.length)
 (pK:∀(A:zdG) (outer:List Env) (s:zdF) (H:Hp) (vs:List V) (Q:VK) (E:XK),gB k (A.deeper (envOfC qual scope s.heap.objs.size f eO))->sp vs H Q E->
  ∃t,CZ (ie CX P w K mg base N qual scope f eO A outer s H E) body t/\t {nx:=fun _ H'=>Q .dR H',rt:=Q} (start N vs) H) :
 bD P w K mg base CX (k+1) f (zaX name qual params body scope dV kV doc pm an eO ct) ps sp:=by
 refine⟨len,fun A outer s H args us vs Q E hr e0 hb r Kc=>?_⟩;have hl:=len _ _ _ _ Kc;have KX:K.In s.heap:=e0.mod.RU.keeps fun b o e=>(e0.bs b o e).1;have lim:s.heap.NoLimit:=e0.mod.nolimit.keeps fun b o e=>(e0.bs b o e).1;have VG:∀y∈ps.zip us,scope.names.lookup y.1=some .local\/(scope.names.lookup y.1=some .cell/\((cellsFrom (s.heap.objs.size+1) scope.names []).lookup y.1).isSome=true):=fun ⟨n,v⟩ hy=>by
  rcases S.par n (zc7 hy).1 with q |q
  ·exact .inl q
  ·exact .inr ⟨q,zde _ _ _ (.inl q)⟩
 refine codeAny_call_function hr.depth (KX _ _ lk) rfl S.co S.gen rfl (PySem.W.codeRec_of KX C0) (hb _ _ _ _ ?_);refine wpAny_newFunctionEnv_cells S.kind VG fun env he s1 x=>?_;subst he;refine⟨lim.keeps x.toInCall.keep,codeAny_func ?_⟩;obtain⟨t,ht,hq⟩:=pK A outer s H vs Q E (hr.deeper _) Kc;have I:Inv (ie CX P w K mg base N qual scope f eO A outer s H E) [] (start N vs) H s1:=Iz S hr.hd e0 hl r x;refine wpAny_mono (ht [] s1 (start N vs) H _ I hq) (fun fl s' hs=>?_) fun e s' hs=>hs;have fin:∀ {σ':St} {H':Hp} {v:V} {u:zdw},Inv (ie CX P w K mg base N qual scope f eO A outer s H E) [] σ' H' s'->RelV v u->Q v H'->CE outer P w H s Q u s':=
  fun {σ' H' v u} J rv q=>⟨v,H',J.os,J.bare,J.base,J.bX,rv,q⟩
 cases fl with
 |ret u=>
  obtain⟨v,σ',H',J,rv,q⟩:=hs;exact fin J rv q
 |next=>
  obtain⟨σ',H',J,q⟩:=hs;exact fin (v:=V.dR) (u:=Value.none) J rfl q
 |brk=>
  obtain⟨_,_,_,q⟩:=hs;exact False.elim q
 |cont=>
  obtain⟨_,_,_,q⟩:=hs;exact False.elim q
section
variable{X:Cx}{x:Str}{p pos:Pos}{e:Expr}{es:List Expr}{t:TA}{id T:String}{r:List V->Hp->VK->Prop}
def ZD (r:List V->Hp->VK->Prop) (t:TA):TE:=fun σ H Q=>t σ H fun vs H1=>r vs H1 Q
theorem cf(hc:mO X (.builtin id) r)(hg:Gl X x)(hm:X.mg x=none)(hv:bootBuiltins x=some (.builtin id))(ha:PA X (e::es) t)(hn:x≠"__name__":=by decide)(E7:(x==("__debug__":Str))=false:=by decide)
 (he:zdB (e::es) X.env=(false,eval e X.env)::zdB es X.env:=by rfl) (zV:(backTo pos (zdB es X.env)).any (·.1)=false:=by rfl):PE X (.Call (.Name x p) (e::es) [] pos) (ZD r t):=by
 intro pins s σ H Q I h;refine wpAny_Call_Name_kw (tm I hg hm hv ?_ hn E7);exact PyProof.Rows.callWith_builtin1 (dE (ha pos pins s σ H _ I h) fun us s1 ⟨vs,H1,I1,r1,q1⟩=>hc pins s1 σ H1 vs us Q I1 r1 q1) he zV
theorem iA(hc:mO X (.type T) r)(hg:Gl X x)(hm:X.mg x=none)(hv:bootBuiltins x=some (.type T))(ha:PA X (e::es) t)(hn:x≠"__name__":=by decide)(E7:(x==("__debug__":Str))=false:=by decide)
 (he:zdB (e::es) X.env=(false,eval e X.env)::zdB es X.env:=by rfl) (zV:(backTo pos (zdB es X.env)).any (·.1)=false:=by rfl):PE X (.Call (.Name x p) (e::es) [] pos) (ZD r t):=by
 intro pins s σ H Q I h;refine wpAny_Call_Name_kw (tm I hg hm hv ?_ hn E7);exact zbn (dE (ha pos pins s σ H _ I h) fun us s1 ⟨vs,H1,I1,r1,q1⟩=>hc pins s1 σ H1 vs us Q I1 r1 q1) he zV
end
end L2
namespace HT
open PySem PyProof.Rows
section
variable{prog:zdH}{w:zdx}{A:zdG}{E:zdw->zdF->Prop}{s:zdF}
theorem Oz{t b:zdv}{vs ws:List zdw}{Q:zdw->zdF->Prop}(ht:IsTup s.heap t vs.toArray)(hb:IsTup s.heap b ws.toArray)(hv:vs≠[])
 (h1:ws=[]->Q (.ref t) s) (h2:ws≠[]->Q (.ref s.heap.objs.size) {s with heap:=s.heap.push {cls:=.type "tuple",data:=.seq (vs++ws).toArray} })
 (hsz:vs.length+ws.length<=zdD):wpAny (model prog w) A (binaryOp .Add (.ref t) (.ref b)) Q E s:=by
 obtain⟨⟨cls,dd,data,sl⟩,ho,hc,n,hd⟩:=id ht;obtain⟨⟨ZE,Yb,data2,VH⟩,Sj,VI,n2,hd2⟩:=id hb;simp only at hc hd VI hd2;subst hc hd VI hd2;have e:vs.toArray++ws.toArray=(vs++ws).toArray:=by simp
 by_cases hw:ws=[]
 ·exact concat_meets ⟨_,ho,rfl⟩ ⟨_,Sj,rfl⟩ noFill_tuple_add seq_tuple_add zcj zcf (zb7 _ _)
   (tuple_addW1 t b vs.toArray ws.toArray n n2 dd Yb sl VH (by simpa using hv) (by simp[hw])) ⟨ho,Sj,h1 hw⟩
 ·refine concat_meets ⟨_,ho,rfl⟩ ⟨_,Sj,rfl⟩ noFill_tuple_add seq_tuple_add zcj zcf (zb7 _ _)
   (tuple_addW2 t b vs.toArray ws.toArray n n2 dd Yb sl VH (by simpa using hv) (by simpa using hw) (by rw[zau,zau];exact hsz)) ⟨ho,Sj,?_⟩
  rw[e];exact h2 hw
def C8 (n d:Nat):Option Int->Nat
 |none=>d
 |some v=>if v<0 then (v+(n:Int)).toNat else min v.toNat n
theorem yh(n d:Nat):C8 n d none=d:=rfl
theorem Bw(n d k:Nat):C8 n d (some (k:Int))=min k n:=by
 show (if (k:Int)<0 then ((k:Int)+(n:Int)).toNat else min (k:Int).toNat n)=min k n;rw[if_neg (by lia),zaU]
end
end HT
namespace L2
open PySem PySem.Spec PyProof.Rows
abbrev TO:=St->Hp->(Option Int->Hp->Prop)->Prop
def PO (X:Cx) (e:Option Expr) (t:TO):Prop:=
 ∀(pins:List (zdv×Obj)) (s:zdF) (σ:St) (H:Hp) (Q:Option Int->Hp->Prop),Inv X pins σ H s->t σ H Q->
  wpAny (model X.prog X.w) X.A (evalPart e X.env) (fun u s'=>∃o H',Inv X pins σ H' s'/\IsPart u o/\Q o H') X.xe s
def Bx:TO:=fun _ H Q=>Q none H
def KQ (t:TE):TO:=fun σ H Q=>t σ H fun x H1=>∃i,x=.int i/\Q (some i) H1
section
variable{X:Cx}{e:Expr}{te:TE}{lo hi:Option Expr}{tl th:TO}{pos p2:Pos}
theorem xH:PO X none Bx:=by
 intro pins s σ H Q I h;rw[evalPart_none];exact zdz ⟨none,H,I,.none,h⟩
theorem xI(h:PE X e te):PO X (some e) (KQ te):=by
 intro pins s σ H Q I hw;rw[evalPart_some];refine dE (h pins s σ H _ I hw) fun u s1 zqz=>?_;obtain⟨x,H1,I1,r1,q1⟩:=zqz;obtain⟨i,rfl,q⟩:=q1;obtain⟨t,rfl⟩:=r1;exact⟨some i,H1,I1,.int i t,q⟩
def SlR (X:Cx) (r:V->Option Int->Option Int->Hp->VK->Prop):Prop:=
 ∀(pins:List (zdv×Obj)) (s:zdF) (σ:St) (H:Hp) (x:V) (v vl vu:zdw) (lo hi:Option Int) (sl:zdv) (Q:VK),Inv X pins σ H s->RelV x v->s.heap.IsSliceOf sl vl vu .none->IsPart vl lo->IsPart vu hi->r x lo hi H Q->
  ∃T id,typeLookup (.type T) "__getitem__"=pure (some (.builtin id))/\s.TypeIs v T/\wpAny (model X.prog X.w) X.A (getItem v (.ref sl)) (EP X pins σ Q) X.xe s
def ZF (r:V->Option Int->Option Int->Hp->VK->Prop) (te:TE) (tl th:TO):TE:=fun σ H Q=>te σ H fun x H1=>tl σ H1 fun l H2=>th σ H2 fun u H3=>r x l u H3 Q
theorem uG{r:V->Option Int->Option Int->Hp->VK->Prop}(hr:SlR X r)(he:PE X e te)(hl:PO X lo tl)(hu:PO X hi th):PE X (.Subscript e (.Slice lo hi none p2) pos) (ZF r te tl th):=by
 intro pins s σ H Q I h;refine Subscript_ (dE (he pins s σ H _ I h) fun v s1 zqz=>?_);obtain⟨x,H1,I1,r1,q1⟩:=zqz;refine wpAny_Slice (dE (hl pins s1 σ H1 _ I1 q1) fun vl s2 zqz=>?_);obtain⟨l,H2,I2,pl,q2⟩:=zqz;refine dE (hu pins s2 σ H2 _ I2 q2) fun vu s3 zqz=>?_;obtain⟨u,H3,I3,pu,q3⟩:=zqz;rw[evalPart_none];refine zdz ?_;have I4:Inv X pins σ H3 {s3 with heap:=s3.heap.push {cls:=.type "slice",data:=.fields #[vl,vu,.none]} }:=I3.kept (t':=s3.toks) fun b ob q=>Heap.get?_push_of_some _ q;obtain⟨T,id,hT,ht,hg⟩:=hr pins {s3 with heap:=s3.heap.push {cls:=.type "slice",data:=.fields #[vl,vu,.none]} } σ H3 x v vl vu l u s3.heap.objs.size Q I4 r1 (Heap.IsSliceOf.new ..) pl pu q3;show wpAny (model X.prog X.w) X.A (subscriptTail e (.Slice lo hi none p2) v (.ref s3.heap.objs.size)) (EP X pins σ Q) X.xe {s3 with heap:=s3.heap.push {cls:=.type "slice",data:=.fields #[vl,vu,.none]} };exact tail_any (ops:=[.ref s3.heap.objs.size,v]) ht hT hg (by with_unfolding_all rfl)
def Ae (xs:List V) (lo hi:Option Int):List V:=(xs.drop (HT.C8 xs.length 0 lo)).take (HT.C8 xs.length xs.length hi-HT.C8 xs.length 0 lo)
theorem C9(xs:List V)(lo hi:Option Int):(Ae xs lo hi).length<=xs.length:=by
 unfold Ae;rw[zcn,zbJ];lia
def VJ (K:zaa):R2:=fun x y H Q=>∃a b xs ys,x=.ref a/\y=.ref b/\bQ K H a xs/\bQ K H b ys/\xs≠[]/\xs.length+ys.length<=zdD/\
 (ys=[]->Q (.ref a) H)/\(ys≠[]->∀p,H p=none->Q (.ref p) (upd H p (.tup (xs++ys))))
theorem Vals.bZ{xs:List V}{us:List zdw}(r:Vals xs us):us=[]↔xs=[]:=by
 cases r with
 |nil=>simp
 |cons _ _=>simp
theorem OA:rD X (binaryOp .Add) (VJ X.K):=by
 intro pins s σ H x y v u Q I rx ry h;obtain⟨a,b,xs,ys,rfl,rfl,ha,hb,hx,hz,q1,q2⟩:=h;cases rx;cases ry;obtain⟨bq,r1,p1,_⟩:=I.tuple ha;obtain⟨tD,r2,p2,_⟩:=I.tuple hb;refine HT.Oz p1 p2 (fun z=>hx (r1.bZ.mp z)) (fun z=>⟨.ref a,H,I,rfl,q1 (r2.bZ.mp z)⟩) (fun z=>?_) (by rw[<- r1.length,<- r2.length];exact hz);refine⟨.ref s.heap.objs.size,_,I.laid (t':=s.toks) (o:=.tup (xs++ys)) (fun b ob q=>Heap.get?_push_of_some _ q) (zag _) ?_,rfl,q2 (fun w=>z (r2.bZ.mpr w)) _ (I.bX.fresh (zag _))⟩;exact⟨by rw[zaf];exact hz,_,r1.append r2,IsTup.new _ _⟩
end
def QU (n:Nat) (i:Int):Option Nat:=if 0<=i then (if i<n then some i.toNat else none) else if -(n:Int)<=i then some (i+n).toNat else none
def NZ {α:Type} (xs:List α) (i:Int):Option α:=(QU xs.length i).bind fun j=>xs[j]?
theorem GJ{n:Nat}{i:Int}{j:Nat}(h:QU n i=some j):seqIndex? i n=some j/\j<n/\-(n:Int)<=i/\i<n:=by
 unfold QU at h;by_cases h0:0<=i
 ·rw[if_pos h0] at h;by_cases h1:i<n
  ·rw[if_pos h1] at h;have e:i.toNat=j:=za1.inj h;exact⟨by rw[seqIndex_of h0 h1,e],by lia,by lia,h1⟩
  ·rw[if_neg h1] at h;cases h
 ·rw[if_neg h0] at h;by_cases h1 : -(n:Int)<=i
  ·rw[if_pos h1] at h;have e:(i+n).toNat=j:=za1.inj h;exact⟨by rw[seqIndex_neg (by lia) h1,e],by lia,h1,by lia⟩
  ·rw[if_neg h1] at h;cases h
theorem GK{α:Type}{xs:List α}{i:Int}{v:α}(h:NZ xs i=some v):∃j,seqIndex? i xs.length=some j/\xs[j]?=some v/\j<xs.length/\-(xs.length:Int)<=i/\i<xs.length:=by
 unfold NZ at h;cases e:QU xs.length i with
 |none=>rw[e] at h;cases h
 |some j=>
  rw[e] at h;obtain⟨h1,h2,h3,h4⟩:=GJ e;exact⟨j,h1,h,h2,h3,h4⟩
theorem aC{α:Type}{xs:List α}{j:Nat}{v:α}(h:xs[j]?=some v):NZ xs (j:Int)=some v:=by
 have hj:j<xs.length:=(zam.mp h).1;have e:QU xs.length (j:Int)=some j:=by
  unfold QU;rw[if_pos (by lia),if_pos (by lia)];simp
 unfold NZ;rw[e];exact h
def xJ (b:Expr):Prop:=∀o i,subscripted b false o i=operate [o,i] (getItem o i)
def Yc (X:Cx) (r:R2):Prop:=
 ∀(value slice:Expr) (pins:List (zdv×Obj)) (s:zdF) (σ:St) (H:Hp) (x y:V) (v u:zdw) (Q:VK),Inv X pins σ H s->RelV x v->RelV y u->r x y H Q->
  subscripted slice false v u=operate [v,u] (getItem v u)->wpAny (model X.prog X.w) X.A (subscriptTail value slice v u) (EP X pins σ Q) X.xe s
def MtR (X:Cx) (id:String) (r:V->List V->Hp->VK->Prop):Prop:=
 ∀(pins:List (zdv×Obj)) (s:zdF) (σ:St) (H:Hp) (x:V) (xs:List V) (v:zdw) (us:List zdw) (Q:VK),Inv X pins σ H s->RelV x v->Vals xs us->r x xs H Q->
  wpAny (model X.prog X.w) X.A (call (.builtin id) (v::us)) (EP X pins σ Q) X.xe s
section
variable{X:Cx}{a b:Expr}{ta tb:TE}{pos:Pos}
theorem aO{r:R2}(hr:Yc X r)(ha:PE X a ta)(hb:PE X b tb)(hs:xJ b):PE X (.Subscript a b pos) (Vv r ta tb):=by
 intro pins s σ H Q I h;exact Subscript_ (Sb ha hb I h fun v u s2 x y H2 I2 rx ry q=>hr a b pins s2 σ H2 x y v u Q I2 rx ry q (hs _ _))
def VL (K:zaa):R2:=fun x y H Q=>∃p xs i v,x=.ref p/\y=.int i/\jc K H p xs/\NZ xs i=some v/\Q v H
def Sk (K:zaa):R2:=fun x y H Q=>∃p xs i v,x=.ref p/\y=.int i/\bQ K H p xs/\NZ xs i=some v/\Q v H
theorem da:Yc X (VL X.K):=by
 intro value slice pins s σ H x y v u Q I rx ry h hs;obtain⟨p,xs,i,z,rfl,rfl,hq,he,q⟩:=h;cases rx;obtain⟨t,rfl⟩:=ry;obtain⟨bq,r,pl,hz⟩:=I.list hq;obtain⟨j,h1,h2,h3,h4,h5⟩:=GK he;obtain⟨w,ew,E9⟩:=r.get h2;have hl:=r.length;have hn:=x9;have fin:EP X pins σ Q w s:=⟨z,H,I,E9,q⟩
 by_cases h0:0<=i
 ·have hj:i.toNat=j:=by
   rw[seqIndex_of h0 h5] at h1;exact za1.inj h1
  exact item_listR pl.isList h0 (by lia) (by rw[hj];simpa using ew) fin hs
 ·have hj:(i+(bq.toArray.size:Int)).toNat=j:=by
   rw[seqIndex_neg (by lia) h4] at h1;rw[zau,<- hl];exact za1.inj h1
  exact subscriptTail_builtinR (x:=w) pl.isList.typeIs slot_list_getitem.lookup
   (wpAny_getItem_list_neg (Q:=fun r s'=>r=w/\EP X pins σ Q r s') pl.isList (by lia) (by rw[zau]<;>lia) (by lia) (by rw[hj];simpa using ew) ⟨rfl,fin⟩) hs
theorem aR:Yc X (Sk X.K):=by
 intro value slice pins s σ H x y v u Q I rx ry h hs;obtain⟨p,xs,i,z,rfl,rfl,hq,he,q⟩:=h;cases rx;obtain⟨t,rfl⟩:=ry;obtain⟨bq,r,pl,hz⟩:=I.tuple hq;obtain⟨j,h1,h2,h3,h4,h5⟩:=GK he;obtain⟨w,ew,E9⟩:=r.get h2;have hl:=r.length;have hn:=x9;have fin:EP X pins σ Q w s:=⟨z,H,I,E9,q⟩
 exact subscriptTail_builtinR (x:=w) pl.typeIs slot_tuple_getitem.lookup
  (getItem_tuple (j:=j) (Q:=fun r s'=>r=w/\EP X pins σ Q r s') pl (by lia) (by lia) (by rw[zau,<- hl];exact h1) (by simpa using ew) ⟨rfl,fin⟩) hs
theorem Fb(bq:List zdw)(n j:Nat)(u:zdw):Obj.mapSeq (·.setIfInBounds j u) {cls:=.type "list",data:=.seq bq.toArray n}={cls:=.type "list",data:=.seq (bq.set j u).toArray n}:=by
 simp[Obj.mapSeq]
theorem Inv.lst{pins:List (zdv×Obj)}{σ:St}{H:Hp}{s:zdF}{p:zdv}{xs:List V}(I:Inv X pins σ H s)(h:H p=some (.lst xs)) :
 ∃(bq:List zdw) (n:Nat),Vals xs bq/\s.heap.get? p=some {cls:=.type "list",data:=.seq bq.toArray n}/\xs.length<=zdD:=by
 obtain⟨z,bq,n,r,e⟩:=I.bX p _ h;exact⟨bq,n,r,e,z⟩
theorem Inv.Sl{pins:List (zdv×Obj)}{σ:St}{H:Hp}{s:zdF}{p:zdv}{xs ys:List V}{bq its':List zdw}{n n':Nat}{f:Obj->Obj}(I:Inv X pins σ H s)(h:H p=some (.lst xs))
 (ho:s.heap.get? p=some {cls:=.type "list",data:=.seq bq.toArray n}) (hf:f {cls:=.type "list",data:=.seq bq.toArray n}={cls:=.type "list",data:=.seq its'.toArray n' }) (r:Vals ys its') (hz:ys.length<=zdD) (t:Nat) :
 Inv X pins σ (upd H p (.lst ys)) {s with heap:=s.heap.update p f,toks:=t}:=by
 have e:(s.heap.update p f).get? p=some {cls:=.type "list",data:=.seq its'.toArray n' }:=by
  rw[Heap.get?_update_self f ho (by rw[hf]<;>rfl),hf]
 refine I.write (x:=p) (e:=p) (by rw[h];trivial) (.inl rfl) (fun b u hb q=>(Heap.get?_update_other _ _ (Ne.symm hb)).trans q) ⟨_,e⟩ ?_;exact⟨hz,its',n',r,e⟩
def VM:V->V->V->Hp->(Hp->Prop)->Prop:=fun o i v H Q=>∃p xs k j,o=.ref p/\i=.int k/\H p=some (.lst xs)/\QU xs.length k=some j/\Q (upd H p (.lst (xs.set j v)))
theorem set_list:Vt X VM:=by
 intro pins s σ H o i v ov iv u Q I ro ri rv h;obtain⟨p,xs,k,j,rfl,rfl,hp,hj,q⟩:=h;cases ro;obtain⟨t,rfl⟩:=ri;obtain⟨bq,n,r,ho,hz⟩:=I.lst hp;obtain⟨h1,h2,h3,h4⟩:=GJ hj;have hl:=r.length;have hn:=x9;have I':Inv X pins σ (upd H p (.lst (xs.set j v))) {s with heap:=s.heap.update p (Obj.mapSeq (·.setIfInBounds j u))}:=
  I.Sl hp ho (Fb bq n j u) (r.set rv j) (by rw[zc8];exact hz) s.toks
 by_cases h0:0<=k
 ·have hk:k.toNat=j:=by
   rw[seqIndex_of h0 h4] at h1;exact za1.inj h1
  exact PySem.W.ki_setAt ho h0 (by lia) (by rw[zau,<- hl];exact h4) (by rw[hk];exact⟨_,I',q⟩)
 ·have hk:(k+(bq.toArray.size:Int)).toNat=j:=by
   rw[seqIndex_neg (by lia) h3] at h1;rw[zau,<- hl];exact za1.inj h1
  exact PySem.W.ki_setBack ho (by lia) (by rw[zau,<- hl];exact h3) (by lia) (by rw[hk];exact⟨_,I',q⟩)
theorem By(lo hi:Option Int)(n:Nat):(sliceBounds lo hi none n).1=((HT.C8 n 0 lo:Nat):Int)/\(sliceBounds lo hi none n).2.1=((HT.C8 n n hi:Nat):Int)/\(sliceBounds lo hi none n).2.2=1:=by
 refine⟨?_,?_,rfl⟩
 ·cases lo with
  |none=>simp[sliceBounds,HT.C8]
  |some i=>
   simp only[sliceBounds,HT.C8,Option.getD_none,show (1:Int)>0 by decide,if_true];by_cases h:i<0
   ·simp only[h,if_true]<;>lia
   ·simp only[h,if_false]<;>lia
 ·cases hi with
  |none=>simp[sliceBounds,HT.C8]
  |some i=>
   simp only[sliceBounds,HT.C8,Option.getD_none,show (1:Int)>0 by decide,if_true];by_cases h:i<0
   ·simp only[h,if_true]<;>lia
   ·simp only[h,if_false]<;>lia
theorem Af(bq:List zdw)(lo hi:Option Int):slicePick bq.toArray lo hi none=((bq.drop (HT.C8 bq.length 0 lo)).take (HT.C8 bq.length bq.length hi-HT.C8 bq.length 0 lo)).toArray:=by
 obtain⟨h1,h2,h3⟩:=By lo hi bq.toArray.size;unfold slicePick;rw[h1,h2,h3];simp only[sliceRange_one,pick_run,zau]<;>rfl
def ZG (K:zaa):V->Option Int->Option Int->Hp->VK->Prop:=fun x lo hi H Q=>∃a xs,x=.ref a/\jc K H a xs/\∀p,H p=none->Q (.ref p) (upd H p (.lst (Ae xs lo hi)))
theorem xK:SlR X (ZG X.K):=by
 intro pins s σ H x v vl vu lo hi sl Q I rx hs pl pu h;obtain⟨a,xs,rfl,hx,q⟩:=h;cases rx;obtain⟨bq,r,ht,hz⟩:=I.list hx;have hlen:=r.length;refine⟨"list",_,slot_list_getitem.lookup,ht.isList.typeIs,?_⟩;refine wpAny_getItem_list_slice ht.isList hs pl pu .none (by simp) ?_ (by rw[zau]<;>lia);rw[Af,<- hlen];refine⟨.ref s.heap.objs.size,_,I.laid (t':=s.toks) (o:=.lst (Ae xs lo hi)) (fun b ob q=>Heap.get?_push_of_some _ q) (zag _) ?_,rfl,q _ (I.bX.fresh (zag _))⟩;exact⟨zaw (C9 xs lo hi) hz,_,0,(r.drop (HT.C8 xs.length 0 lo)).take (HT.C8 xs.length xs.length hi-HT.C8 xs.length 0 lo),Heap.get?_push_size _ rfl⟩
def wZ:V->Bool
 |.dR=>true
 |.bl _=>true
 |.int _=>true
 |.str _=>true
 |_=>false
def QV:V->V->Bool
 |.dR,.dR=>true
 |.bl a,.bl b=>a==b
 |.bl a,.int b=>(if a then 1 else 0)==b
 |.int a,.bl b=>a==(if b then 1 else 0)
 |.int a,.int b=>a==b
 |.str a,.str b=>a==b
 |_,_=>false
theorem Sm{A:zdG}{s:zdF}{y x:V}{u v:zdw}(ry:RelV y u)(rx:RelV x v)(fy:wZ y=true)(fx:wZ x=true):SeqAt.EqAt A s u v (QV y x):=by
 cases y with
 |dR=>
  cases ry;cases x with
  |dR=>cases rx;exact SeqAt.EqAt.same _
  |bl b=>cases rx;exact SeqAt.EqAt.none_bool b
  |int b=>obtain⟨t,rfl⟩:=rx;exact SeqAt.EqAt.none_int b t
  |str b=>obtain⟨t,rfl⟩:=rx;exact SeqAt.EqAt.none_str b t
  |_=>exact absurd (show false=true from fx) zai
 |bl a=>
  cases ry;cases x with
  |dR=>cases rx;exact SeqAt.EqAt.bool_none a
  |bl b=>cases rx;exact SeqAt.EqAt.bool_bool a b
  |int b=>obtain⟨t,rfl⟩:=rx;exact SeqAt.EqAt.bool_int a b t
  |str b=>obtain⟨t,rfl⟩:=rx;exact SeqAt.EqAt.bool_str a b t
  |_=>exact absurd (show false=true from fx) zai
 |int a=>
  obtain⟨t',rfl⟩:=ry;cases x with
  |dR=>cases rx;exact SeqAt.EqAt.int_none a t'
  |bl b=>cases rx;exact SeqAt.EqAt.int_bool a t' b
  |int b=>obtain⟨t,rfl⟩:=rx;exact SeqAt.EqAt.int_int a t' b t
  |str b=>obtain⟨t,rfl⟩:=rx;exact SeqAt.EqAt.int_str a t' b t
  |_=>exact absurd (show false=true from fx) zai
 |str a=>
  obtain⟨t',rfl⟩:=ry;cases x with
  |dR=>cases rx;exact SeqAt.EqAt.str_none a t'
  |bl b=>cases rx;exact SeqAt.EqAt.str_bool a t' b
  |int b=>obtain⟨t,rfl⟩:=rx;exact SeqAt.EqAt.str_int a t' b t
  |str b=>obtain⟨t,rfl⟩:=rx;exact SeqAt.EqAt.str_str a t' b t
  |_=>exact absurd (show false=true from fx) zai
 |_=>exact absurd (show false=true from fy) zai
def OB (x:V) (u:zdw):Bool:=match u with
 |.none=>QV .dR x
 |.bool b=>QV (.bl b) x
 |.int i _=>QV (.int i) x
 |.str z _=>QV (.str z) x
 |_=>false
theorem KR{x y:V}{u:zdw}(r:RelV y u)(f:wZ y=true):OB x u=QV y x:=by
 cases y with
 |dR=>cases r;rfl
 |bl b=>cases r;rfl
 |int i=>obtain⟨t,rfl⟩:=r;rfl
 |str z=>obtain⟨t,rfl⟩:=r;rfl
 |_=>exact absurd (show false=true from f) zai
theorem Bz{x:V}:∀ {xs:List V} {us:List zdw},Vals xs us->xs.all wZ=true->us.any (OB x)=xs.any fun y=>QV y x
 |_,_,.nil,_=>rfl
 |y::xs,u::us,.cons r t,f=>by
  rw[List.all_cons,zbh] at f;rw[zck,zck,KR r f.1,Bz t f.2]
theorem yj{A:zdG}{s:zdF}{x:V}{v:zdw}(rx:RelV x v)(fx:wZ x=true):∀ {xs:List V} {us:List zdw},Vals xs us->xs.all wZ=true->∀u∈us,SeqAt.EqAt A s u v (OB x u)
 |_,_,.nil,_=>fun u hu=>by cases hu
 |y::xs,u::us,.cons r t,f=>fun u' hu=>by
  rw[List.all_cons,zbh] at f;rcases zah.mp hu with rfl |hu
  ·rw[KR r f.1];exact Sm r rx f.1 fx
  ·exact yj rx fx t f.2 u' hu
def Yd (x:V) (xs:List V):Bool:=xs.any fun y=>QV y x
def rIn (K:zaa) (neg:Bool):R2:=fun x y H Q=>∃p xs,y=.ref p/\(jc K H p xs\/bQ K H p xs)/\wZ x=true/\xs.all wZ=true/\Q (.bl (if neg then !Yd x xs else Yd x xs)) H
theorem vU:rD X (compareOp .In) (rIn X.K false):=by
 intro pins s σ H x y v u Q I rx ry h;obtain⟨p,xs,rfl,hq,fx,fs,q⟩:=h;cases ry;rcases hq with hq |hq
 ·obtain⟨bq,r,pl,hz⟩:=I.list hq;refine SeqAt.in_listAt (OB x) pl.isList (fun w hw=>yj rx fx r fs w (by simpa using hw)) ⟨.bl _,H,I,rfl,?_⟩;rw[show bq.toArray.any (OB x)=bq.any (OB x) by simp,Bz r fs];exact q
 ·obtain⟨bq,r,pl,hz⟩:=I.tuple hq;refine SeqAt.in_tupleAt (OB x) pl (fun w hw=>yj rx fx r fs w (by simpa using hw)) ⟨.bl _,H,I,rfl,?_⟩;rw[show bq.toArray.any (OB x)=bq.any (OB x) by simp,Bz r fs];exact q
theorem iQ:mO X (.builtin "len") (fun xs H Q=>∃p ys,xs=[.ref p]/\(jc X.K H p ys\/bQ X.K H p ys)/\Q (.int ys.length) H):=by
 intro pins s σ H xs us Q I r h;obtain⟨p,ys,rfl,hq,q⟩:=h;obtain⟨u,rfl,rx⟩:=vals1 r;cases rx;have hn:=x9;rcases hq with hq |hq
 ·obtain⟨bq,r',pl,hz⟩:=I.list hq;have hlen:=r'.length;exact Calls.call_len_list pl.isList (by simp only[zau]<;>lia) ⟨.int ys.length,H,I.tok _,⟨s.toks+1,by rw[zau,hlen]⟩,q⟩
 ·obtain⟨bq,r',pl,hz⟩:=I.tuple hq;have hlen:=r'.length;exact len_tuple pl (by simp only[zau]<;>lia) ⟨.int ys.length,H,I.tok _,⟨s.toks+1,by rw[zau,hlen]⟩,q⟩
theorem BA:mO X (.type "list") (fun xs H Q=>∃p ys,xs=[.ref p]/\(jc X.K H p ys\/bQ X.K H p ys)/\∀l,H l=none->Q (.ref l) (upd H l (.lst ys))):=by
 intro pins s σ H xs us Q I r h;obtain⟨p,ys,rfl,hq,q⟩:=h;obtain⟨u,rfl,rx⟩:=vals1 r;cases rx;have fin:∀(bq:List zdw),Vals ys bq->ys.length<=zdD->∀(h':Heap) (c':Nat),(∀b o',s.heap.get? b=some o'->h'.get? b=some o')->
  h'.get? s.heap.objs.size=some {cls:=.type "list",dict:=none,data:=.seq bq.toArray c',slots:=#[]}->EP X pins σ Q (.ref s.heap.objs.size) {s with heap:=h' }:=fun bq r' hz h' c' kp e=>
  ⟨.ref s.heap.objs.size,_,I.laid (t':=s.toks) kp (zag _) (show du X.prog X.w _ h' _ (.lst ys) from ⟨hz,bq,c',r',e⟩),rfl,q _ (I.bX.fresh (zag _))⟩
 rcases hq with hq |hq
 ·obtain⟨bq,r',pl,hz⟩:=I.list hq;have hlen:=r'.length;obtain⟨o,ho,hc,n,hd⟩:=pl.isList;exact call_list_seq p (.inl rfl) ho hc hd (fun h' c' kp e=>fin bq r' hz h' c' kp e) (by simp only[zau]<;>lia)
 ·obtain⟨bq,r',pl,hz⟩:=I.tuple hq;have hlen:=r'.length;obtain⟨o,ho,hc,n,hd⟩:=pl;exact call_list_seq p (.inr rfl) ho hc hd (fun h' c' kp e=>fin bq r' hz h' c' kp e) (by simp only[zau]<;>lia)
theorem rW:mO X (.type "tuple") (fun xs H Q=>∃p ys,xs=[.ref p]/\((jc X.K H p ys/\∀l,H l=none->Q (.ref l) (upd H l (.tup ys)))\/(bQ X.K H p ys/\Q (.ref p) H))):=by
 intro pins s σ H xs us Q I r h;obtain⟨p,ys,rfl,h⟩:=h;obtain⟨u,rfl,rx⟩:=vals1 r;cases rx;rcases h with ⟨hq,q⟩ |⟨hq,q⟩
 ·obtain⟨bq,r',pl,hz⟩:=I.list hq;have hlen:=r'.length;refine call_tuple_list pl.isList (fun h' kp=>?_) (by simp only[zau]<;>lia);have I1:Inv X pins σ H {s with heap:=h' }:=I.kept (t':=s.toks) kp;have I2:Inv X pins σ (upd H h'.objs.size (.tup ys)) {s with heap:=h'.push {cls:=.type "tuple",data:=.seq bq.toArray} }:=
   I1.laid (t':=s.toks) (fun b o e=>Heap.get?_push_of_some _ e) (zag _) (show du X.prog X.w _ _ _ (.tup ys) from ⟨hz,bq,r',IsTup.new _ _⟩)
  exact⟨.ref h'.objs.size,_,I2,rfl,q _ (I1.bX.fresh (zag _))⟩
 ·obtain⟨bq,r',pl,hz⟩:=I.tuple hq;exact call_tuple_same pl ⟨.ref p,H,I,rfl,q⟩
def tyV (K:zaa) (T:String) (x:V) (H:Hp):Prop:=match x with
 |.str _=>T = "str"
 |.int _=>T = "int"
 |.ref p=>(T = "list"/\∃xs,jc K H p xs)\/(T = "tuple"/\∃o,K.lookup p=some o/\o.cls=.type "tuple"/\o.dict=none)\/
  (T = "dict"/\((∃kvs,H p=some (.dK kvs))\/∃kvs,H p=some (.dT kvs)))\/(T = "set"/\∃S n,H p=some (.set S n))
 |_=>False
theorem Sn{pins:List (zdv×Obj)}{σ:St}{H:Hp}{s:zdF}{T:String}{x:V}{v:zdw}(I:Inv X pins σ H s)(r:RelV x v)(ty:tyV X.K T x H) :
 s.TypeIs v T/\∀a,v=.ref a->∃ob,s.heap.get? a=some ob/\ob.dict=none:=by
 cases x with
 |str z=>
  obtain⟨t,rfl⟩:=r;cases (show T = "str" from ty);exact⟨typeIs_str s z t,fun _ e=>nomatch e⟩
 |int i=>
  obtain⟨t,rfl⟩:=r;cases (show T = "int" from ty);exact⟨typeIs_int s i t,fun _ e=>nomatch e⟩
 |ref p=>
  cases r;rcases ty with ⟨rfl,xs,hq⟩ |⟨rfl,o,hk,hc,hd⟩ |⟨rfl,hk⟩ |⟨rfl,S,n,hk⟩
  ·obtain⟨bq,_,pl,_⟩:=I.list hq;refine⟨pl.isList.typeIs,fun a e=>?_⟩;cases e;obtain⟨o,n,e,c,hd,_⟩:=pl;exact⟨o,e,hd⟩
  ·refine⟨⟨o,I.AK p o hk,hc⟩,fun a e=>?_⟩;cases e;exact⟨o,I.AK _ o hk,hd⟩
  ·have z:∃o,s.heap.get? p=some o/\o.ExactDict:=by
    rcases hk with ⟨kvs,hk⟩ |⟨kvs,hk⟩
    ·obtain⟨_,_,_,_,o,_,_,e,ex,_⟩:=I.bX p _ hk;exact⟨o,e,ex⟩
    ·obtain⟨_,_,_,_,o,_,_,e,ex,_⟩:=I.bX p _ hk;exact⟨o,e,ex⟩
   obtain⟨o,e,ex⟩:=z;refine⟨⟨o,e,ex.1⟩,fun a e2=>?_⟩;cases e2;exact⟨o,e,ex.2.1⟩
  ·obtain⟨o,_,_,_,e,ex,_⟩:=I.bX p _ hk;refine⟨⟨o,e,ex.1⟩,fun a e2=>?_⟩;cases e2;exact⟨o,e,ex.2.1⟩
 |_=>exact False.elim ty
def ZH (K:zaa) (T:String) (r:V->List V->Hp->VK->Prop) (to:TE) (t:TA):TE:=fun σ H Q=>to σ H fun x H1=>tyV K T x H1/\t σ H1 fun xs H2=>r x xs H2 Q
variable{o e:Expr}{es:List Expr}{to:TE}{t:TA}{name:Str}{apos gX:Pos}{T id:String}{r:V->List V->Hp->VK->Prop}
theorem pL(pa:PlainAttrs T)(slot:Slot T name id)(hty:typeOf (.builtin id)=pure (.type "method_descriptor"))(hm:MtR X id r)(ho:PE X o to)(ha:PA X (e::es) t)
 (yk:attributeBase o name X.env (eval o X.env)=eval o X.env:=by rfl)
 (So:((backTo gX (zdB (e::es) X.env)).all (fun x=>!x.1)&&(backToKw gX (keywordEach [] X.env)).all (fun x=>x.1.isSome)
  && decide ((e::es).length+([]:List Keyword).length+(if ([]:List Keyword).isEmpty then 0 else 1)<30))=true:=by rfl)
 (ym:(apos.endLine==gX.line)=true:=by rfl) (hs:zdB (e::es) X.env=(false,eval e X.env)::zdB es X.env:=by rfl) (Fc:(backTo gX (zdB es X.env)).any (·.1)=false:=by rfl) :
 PE X (.Call (.Attribute o name apos) (e::es) [] gX) (ZH X.K T r to t):=by
 intro pins s σ H Q I h;refine wpAny_Call_method_late yk So ym rfl (dE (ho pins s σ H _ I h) fun v s1 zqz=>?_);obtain⟨x,H1,I1,r1,ty,q1⟩:=zqz;obtain⟨h1,h2⟩:=Sn I1 r1 ty;refine⟨T,id,pa,slot,hty,h1,h2,?_⟩;have hA:=ha gX pins s1 σ H1 _ I1 q1;rw[hs] at hA ⊢;refine Calls.callWith_builtin (by show (false ||(backTo gX (zdB es X.env)).any (·.1))=false;rw[Fc]<;>rfl) (Calls.evalArgs_plain ?_);exact dE hA fun us s2 ⟨vs,H2,I2,r2,q2⟩=>hm pins s2 σ H2 x vs v us Q I2 r1 r2 q2
end
def MtM (X:Cx) (id:String) (r:V->List V->Hp->VK->Prop):Prop:=
 ∀(pins:List (zdv×Obj)) (s:zdF) (σ:St) (H:Hp) (x:V) (xs:List V) (v:zdw) (us:List zdw) (Q:VK),Inv X pins σ H s->RelV x v->Vals xs us->r x xs H Q->
  wpAny (model X.prog X.w) X.A (call (.builtin id) (v::us)) (EP X pins σ Q) X.xe s
theorem Vals.one:∀ {x:V} {us:List zdw},Vals [x] us->∃u,us=[u]/\RelV x u
 |_,_,.cons r .nil=>⟨_,rfl,r⟩
section
variable{X:Cx}{pins:List (zdv×Obj)}{σ:St}{H:Hp}{s:zdF}{l b:zdv}{xs ys zs:List V}
theorem Inv.VN{bq its':List zdw}{n:Nat}{f:Array zdw->Array zdw}{t':Nat}(I:Inv X pins σ H s)(hH:H l=some (.lst xs))
 (e:s.heap.get? l=some {cls:=.type "list",data:=.seq bq.toArray n}) (hf:f bq.toArray=its'.toArray) (hv:Vals ys its') (hz:ys.length<=zdD) :
 Inv X pins σ (upd H l (.lst ys)) {s with heap:=s.heap.update l (Obj.mapSeq f),toks:=t' }:=by
 have q:=PySem.IsL.update e f;rw[hf] at q;refine I.write (x:=l) (e:=l) (by rw[hH];exact trivial) (.inl rfl) (fun b' u hb hu=>(Heap.get?_update_other s.heap (Obj.mapSeq f) (Ne.symm hb)).trans hu) ⟨_,q⟩ ?_;exact⟨hz,its',_,hv,q⟩
theorem Inv.ZI{bq:List zdw}{t':Nat}(I:Inv X pins σ H s)(hv:Vals ys bq)(hz:ys.length<=zdD) :
 Inv X pins σ (upd H s.heap.objs.size (.lst ys)) {s with heap:=s.heap.push {cls:=.type "list",data:=.seq bq.toArray},toks:=t' }:=
 I.laid (fun _ _ q=>Heap.get?_push_of_some _ q) (zag _) ⟨hz,bq,0,hv,Heap.get?_push_size _ rfl⟩
theorem Inv.fresh(I:Inv X pins σ H s):H s.heap.objs.size=none:=I.bX.fresh (zag _)
theorem Inv.KU(I:Inv X pins σ H s)(hH:H l=some (.lst xs)):xs.length<=zdD/\∃(bq:List zdw) (n:Nat),Vals xs bq/\xs.length=bq.length/\s.heap.get? l=some {cls:=.type "list",data:=.seq bq.toArray n}:=by
 obtain⟨z,bq,n,r,e⟩:=I.bX l _ hH;exact⟨z,bq,n,r,r.length,e⟩
theorem KW{n:Nat}(h:n<=zdD):Builtin.List.listTooLong n=false:=by
 unfold Builtin.List.listTooLong;exact decide_eq_false (by lia)
end
section
variable{X:Cx}
def OC:V->List V->Hp->VK->Prop:=fun x vs H Q=>∃l xs y,x=.ref l/\vs=[y]/\H l=some (.lst xs)/\xs.length<zdD/\Q .dR (upd H l (.lst (xs++[y])))
theorem gC:MtM X "list.append" OC:=by
 intro pins s σ H x vs v us Q I rx rv h;obtain⟨l,xs,y,rfl,rfl,hH,hz,q⟩:=h;cases rx;obtain⟨u,rfl,ru⟩:=rv.one;obtain⟨z,bq,n,r,hl,e⟩:=I.KU hH;refine call_meets F.slot_list_append ⟨_,e,rfl⟩ F.entry_list_append (F.args_list_append_2 _ _) (PySem.list_append l bq.toArray n u (by rw[zau];lia)) ⟨e,?_⟩;refine⟨.dR,_,I.VN (its':=bq++[u]) hH e (by simp) (r.append (.cons ru .nil)) ?_,rfl,q⟩;rw[zaf,zaC];lia
def OD:V->List V->Hp->VK->Prop:=fun x vs H Q=>∃l b xs zs,x=.ref l/\vs=[.ref b]/\H l=some (.lst xs)/\H b=some (.lst zs)/\xs.length+zs.length<=zdD/\Q .dR (upd H l (.lst (xs++zs)))
theorem vV:MtM X "list.extend" OD:=by
 intro pins s σ H x vs v us Q I rx rv h;obtain⟨l,b,xs,zs,rfl,rfl,hH,hB,hz,q⟩:=h;cases rx;obtain⟨u,rfl,ru⟩:=rv.one;cases ru;obtain⟨z,bq,n,r,hl,e⟩:=I.KU hH;obtain⟨z2,tD,n2,r2,Kd,e2⟩:=I.KU hB;have hsz:bq.toArray.size+tD.toArray.size<=zdD:=by rw[zau,zau];lia
 have VO:¬(!bq.toArray.isEmpty&&Builtin.List.listTooLong (bq.toArray.size+tD.toArray.size))=true:=by
  rw[KW hsz,Bool.and_false];exact zai
 refine call_meets F.slot_list_extend ⟨_,e,rfl⟩ F.entry_list_extend (F.args_list_extend_2 _ _)
  (AutoSeq1.list_extend_list_list_0 l bq.toArray n b tD.toArray n2 VO (by rw[zau];lia) (by lia)) ⟨e,e2,?_⟩
 refine⟨.dR,_,I.VN (its':=bq++tD) hH e (by simp) (r.append r2) ?_,rfl,q⟩;rw[zaf];lia
def ZJ:R2:=fun x y H Q=>∃l b xs zs,x=.ref l/\y=.ref b/\H l=some (.lst xs)/\H b=some (.lst zs)/\xs.length+zs.length<=zdD/\∀p,H p=none->Q (.ref p) (upd H p (.lst (xs++zs)))
theorem nX:rD X (binaryOp .Add) ZJ:=by
 intro pins s σ H x y v u Q I rx ry h;obtain⟨l,b,xs,zs,rfl,rfl,hH,hB,hz,q⟩:=h;cases rx;cases ry;obtain⟨z,bq,n,r,hl,e⟩:=I.KU hH;obtain⟨z2,tD,n2,r2,Kd,e2⟩:=I.KU hB;refine PySem.P.add_list e e2 ?_ (by rw[zau,zau];lia);have ea:bq.toArray++tD.toArray=(bq++tD).toArray:=by simp
 rw[ea];exact⟨.ref _,_,I.ZI (t':=s.toks) (r.append r2) (by rw[zaf];lia),rfl,q _ I.fresh⟩
end
end L2
namespace Att
open PySem PySem.W PySem.Calls PyProof.Rows
theorem xp{P:Params}{h:Heap}:∀(ns:List Int) (vs:List zdw),WellAll P h vs (ns.map WData.int)->IntsAre vs ns:=by
 intro ns
 induction ns with
 |nil=>
  intro vs w;rw[zaW] at w;cases w;exact .nil
 |cons n ns ih=>
  intro vs w;rw[zaq] at w;cases w with
  |cons a b=>
   cases a;exact .cons _ _ (ih _ b)
theorem IA{l:OpenLaw}{n:Nat}(hn:l.most=some n){P:Params}{h:Heap}{args:List WData}{vals:List zdw}
 (OE:l.row.toRowW.claim.pre args=true) (ZK:WellAll P h vals args) :
 ∃a vs ns,vals=[Value.ref a]/\args=[WData.list (ns.map WData.int)]/\h.get? a=some {cls:=.type "list",data:=.seq vs.toArray}/\IntsAre vs ns/\ns.length<=n:=by
 have hsh:WShape.hasAll [] args [.list .int]=true:=(pre_splitW OE).1;have hc:l.pre.holds [] {args:=args}=true:=(pre_splitW OE).2;obtain⟨d,r,rfl,h1,h2⟩:=hasAllW_cons hsh;obtain rfl:=hasAllW_nil h2;obtain⟨xs,rfl,h3⟩:=hasW_list h1;obtain⟨ns,rfl⟩:=items_int h3;have hlen:ns.length<=n:=by
  unfold OpenLaw.pre at hc;have h4:(WTm.not (.lt (.lit (.int (n:Int))) (.len (.arg 0)))).holds [] {args:=[.list (ns.map .int)]}=true:=by
   have h4:=(holds_andW hc).1;rw[hn] at h4;exact h4
  have h5:=condW_of h4 (w_not (w_lt w_lit (w_len_list (w_arg rfl))));rw[zad] at h5;refine zcV fun q=>?_;have q':(n:Int)<((ns.length:Nat):Int):=by lia
  first
   |(rw[decide_eq_true q'] at h5;exact absurd h5 (by decide))
   |(simp at h5;lia)
 cases ZK with
 |cons w1 w2=>
  cases w2;cases w1 with
  |list ho ZL=>exact⟨_,_,ns,rfl,rfl,ho,xp ns _ ZL,hlen⟩
theorem IB(l:OpenLaw)(args:List WData):l.row.toRowW.claim.post args (.bool true) args=true:=
 postW_of (r:=l.row.toRowW) (X:=(true==true))
  (show WShape.has [] (.bool true) .bool=true by first |rfl |decide |simp[WShape.has,WShape.arms,WShape.armsAll])
  (show (WTm.eq .res (.lit (.bool true))).value [] {args:=args,res:=some (.bool true),after:=args}=some (.bool (true==true)) from w_eq_bool (w_res rfl) w_lit) rfl
theorem Dc{l:OpenLaw}{n:Nat}{q:zdH}{loose:List Str}{XP:(Str->Option zdw)->Heap->Prop}{YP:zdx->Heap->Prop}{d:DefRec}
 (hn:l.most=some n) (VP:d.params.defaults=[])
 (call:∀(w:zdx) (s₀ s₁:zdF) (mg mb:Str->Option zdw) (fa:zdv) (o:Obj) (pm cd doc:zdw) (a:zdv) (vs:List zdw) (ns:List Int),
  Ground q loose [] XP w s₀ mg mb s₁.heap->YP w s₁.heap->
  s₁.heap.get? fa=some o->o.data=.func (docDef d.name d.params d.body d.scope pm cd doc)->s₁.heap.CodeRec cd d.name->mg d.name=some (.ref fa)->
  s₁.heap.get? a=some {cls:=.type "list",data:=.seq vs.toArray}->IntsAre vs ns->ns.length<=n->s₁.gens = #[]->
  codeAny (model l.prog w) callerA (.call (.ref fa) ⟨[.ref a],[]⟩) (fun r s'=>r=.ok (.ret (.bool true))/\OldK s₁.heap s'.heap/\s'.os=s₁.os/\AllBare s'.gens) s₁) :
 WalkO q loose XP YP l.row.toRowW d [] (fun f vs=>PySem.call f vs):=by
 intro w s₀ s₁ mg mb G Y fa o pm cd doc dV kV ho hd C0 hD VQ hg args vals as OE aeY hrd ZK hlo;obtain rfl:dV=.none:=Dflts.none hD VP;obtain rfl:kV=.none:=Dflts.noKw hD;obtain⟨a,vs,ns,rfl,rfl,Sq,hints,hlen⟩:=IA hn OE ZK;refine enter_call (codeAny_mono (call w s₀ s₁ mg mb fa o pm cd doc a vs ns G Y ho (fd_plain hd) C0 VQ Sq hints hlen hg) fun r s' hq=>?_);obtain⟨rfl,h2,h3,h4⟩:=hq;exact⟨.inl ⟨.bool true,.bool true,[],rfl,fun _=>rfl,.bool true,IB l _,fun _=>⟨List.Pairwise.nil,fun _ hm=>(nomatch hm)⟩⟩,h2,h3,h4⟩
end Att
namespace L2
open PySem PySem.Spec PyProof.Rows
theorem AR:∀ {vs:List zdw} {ns:List Int},IntsAre vs ns->Vals (ns.map V.int) vs
 |_,_,.nil=>.nil
 |_,_,.cons n t h=>.cons ⟨t,rfl⟩ (AR h)
def inClass (s:Stmt) (j:Nat):Stmt:=match s with
 |.ClassDef _ _ _ body _ _ _ _ _ _ _=>body.getD j (.Pass ⟨0,0,0,0⟩)
 |_=>.Pass ⟨0,0,0,0⟩
def eI (s:Stmt):Arguments:=match s with
 |.FunctionDef _ a _ _ _ _ _ _ _ _=>a
 |_=>{posonlyargs:=[],args:=[],vararg:=none,kwonlyargs:=[],kw_defaults:=[],kwarg:=none,defaults:=[]}
def cS (s:Stmt):List Stmt:=match s with
 |.FunctionDef _ _ b _ _ _ _ _ _ _=>b
 |_=>[]
def az (s:Stmt):Scope:=match s with
 |.FunctionDef _ _ _ _ _ _ sc _ _ _=>sc
 |_=>{kind:=.function,names:=[],isGenerator:=false,isCoroutine:=false}
abbrev gD:CK:=fun _ _ _ _ _ _=>False
abbrev E0:XK:=fun _ _ _=>False
theorem fj{X:Cx}:Passes gD X E0:=fun _ _ _ _ _ _ _ h=>h.elim
structure CL(K:zaa)(x qual:Str)(st:Stmt)(f:zdv)(fd:zdE):Prop where
 ex:∃(oc:zdw) (od:Option zdv) (kV doc pm:zdw) (an:Option zdv) (eO ct:zdw) (E8:Array (Option zdw)),
  fd=zaX x qual (eI st) (cS st) (az st) .none kV doc pm an eO ct/\K.lookup f=some ⟨oc,od,.func fd,E8⟩/\zbt K eO qual=true
 kp:zaY K (.ref f)=true
section
variable{P:zdH}{w:zdx}{K:zaa}{mg:Str->Option zdw}{base:Heap}
theorem CL.ok{x qual:Str}{st:Stmt}{f:zdv}{fd:zdE}{N ps:List Str}{k:Nat}{sp:Sp}(F:CL K x qual st f fd)(S:aT N ps (az st))(len:∀vs H Q E,sp vs H Q E->vs.length=ps.length)
 (pK:∀(eO:zdw) (A:zdG) (outer:List Env) (s:zdF) (H:Hp) (vs:List V) (Q:VK) (E:XK),gB k (A.deeper (envOfC qual (az st) s.heap.objs.size f eO))->sp vs H Q E->
  ∃t,CZ (ie gD P w K mg base N qual (az st) f eO A outer s H E).Vr (cS st) t/\t {nx:=fun _ H'=>Q .dR H',rt:=Q} (start N vs) H):bD P w K mg base gD (k+1) f fd ps sp:=by
 obtain⟨oc,od,kV,doc,pm,an,eO,ct,E8,rfl,lk,C0⟩:=F.ex;refine KP lk C0 S len fun A outer s H vs Q E hr Kc=>?_;obtain⟨t,h,q⟩:=pK eO A outer s H vs Q E hr Kc;exact⟨t,h.Vr,q⟩
theorem CL.binds{x qual:Str}{st:Stmt}{f:zdv}{fd:zdE}{ps:List Str}(F:CL K x qual st f fd)
 (h:∀(kV doc pm:zdw) (an:Option zdv) (eO ct:zdw) (us:List zdw),us.length=ps.length->bindArgs (zaX x qual (eI st) (cS st) (az st) .none kV doc pm an eO ct) ⟨us,[]⟩=pure (ps.zip us)):Binds K fd ps []:=by
 obtain⟨oc,od,kV,doc,pm,an,eO,ct,E8,rfl,lk,C0⟩:=F.ex;exact .all (h kV doc pm an eO ct)
theorem vW{x qual:Str}{st:Stmt}{f:zdv}{oc:zdw}{od an:Option zdv}{E8:Array (Option zdw)}{kV doc pm eO ct:zdw}(l:K.lookup f=some ⟨oc,od,.func (zaX x qual (eI st) (cS st) (az st) .none kV doc pm an eO ct),E8⟩)
 (c:zbt K eO qual=true) (k:zaY K (.ref f)=true):CL K x qual st f (zaX x qual (eI st) (cS st) (az st) .none kV doc pm an eO ct):=⟨⟨oc,od,kV,doc,pm,an,eO,ct,E8,rfl,l,c⟩,k⟩
end
theorem jB{A:zdG}{k:Nat}(hr:gB k A):A.units+1<cLine:=zbi (zdn (by decide:1<=64) _) hr.units
theorem IC{n:Nat}(h:n<=1000):n<zdD:=zbi h (by decide)
section
variable{X:Cx}
theorem pv(i:Nat){x:Str}{pos:Pos}(hN:X.N[i]?=some x:=by rfl)(hv:Vk X.env.scope x:=by first |exact zaJ rfl |exact zcK (zaJ rfl) |exact zcK (zcK rfl))(hd:(x==("__debug__":Str))=false:=by decide)
 (C0:(x==("__classdict__":Str))=false:=by decide):PE X (.Name x pos) (fN i):=RZ hN hv hd C0
end
theorem iK{c A B:Prop}[Decidable c](h1:c->A)(h2:¬c->B):if c then A else B:=by
 by_cases h:c
 ·rw[if_pos h];exact h1 h
 ·rw[if_neg h];exact h2 h
def aq (H H':Hp):Prop:=∀b o,H b=some o->H' b=some o
theorem aq.refl(H:Hp):aq H H:=fun _ _ h=>h
theorem aq.trans{H H1 H2:Hp}(a:aq H H1)(b:aq H1 H2):aq H H2:=fun c o h=>b c o (a c o h)
theorem aq.free{H H':Hp}(e:aq H H'){l:zdv}(h:H' l=Option.none):H l=Option.none:=by
 cases q:H l with
 |none=>rfl
 |some o=>
  rw[e l o q] at h;cases h
theorem aq.seq{K:zaa}{H H':Hp}{a:zdv}{xs:List V}(e:aq H H')(h:jc K H a xs):jc K H' a xs:=by
 rcases h with (h |⟨o,h⟩) |h
 ·exact .inl (.inl (e _ _ h))
 ·exact .inl (.inr ⟨o,e _ _ h⟩)
 ·exact .inr h
section
variable{κ:Type}[DecidableEq κ]
def bL (kvs:List (κ×V)) (k:κ):Option V:=(kvs.find? fun kv=>decide (kv.1=k)).map (·.2)
def putK (kvs:List (κ×V)) (k:κ) (v:V):List (κ×V):=
 if (kvs.any fun kv=>decide (kv.1=k))=true then kvs.map (fun kv=>if kv.1=k then (kv.1,v) else kv) else kvs++[(k,v)]
theorem cu{p:κ×V}{r:List (κ×V)}{k:κ}(e:p.1=k):bL (p::r) k=some p.2:=by simp[bL,zbN,e]
theorem cA{p:κ×V}{r:List (κ×V)}{k:κ}(e:¬p.1=k):bL (p::r) k=bL r k:=by simp[bL,zbN,e]
theorem gY(k:κ):∀kvs:List (κ×V),(kvs.any fun kv=>decide (kv.1=k))=(bL kvs k).isSome
 |[]=>rfl
 |p::r=>by
  rw[zck];by_cases e:p.1=k
  ·simp only[cu e,decide_eq_true e,Bool.true_or,Option.isSome_some]
  ·rw[cA e,decide_eq_false e,Bool.false_or];exact gY k r
theorem Dd(k j:κ)(y:V):∀kvs:List (κ×V),bL (kvs.map fun kv=>if kv.1=k then (kv.1,y) else kv) j=(bL kvs j).map fun x=>if j=k then y else x
 |[]=>rfl
 |p::r=>by
  have ih:=Dd k j y r;rw[zaq];by_cases h:p.1=k
  ·rw[if_pos h];by_cases e:p.1=j
   ·rw[cu (p:=(p.1,y)) e,cu e,zbm,if_pos (e.symm.trans h)]
   ·rw[cA (p:=(p.1,y)) e,cA e,ih]
  ·rw[if_neg h];by_cases e:p.1=j
   ·rw[cu (p:=p) e,cu e,zbm,if_neg (fun z=>h (e.trans z))]
   ·rw[cA (p:=p) e,cA e,ih]
theorem AS(k j:κ)(y:V):∀kvs:List (κ×V),bL kvs k=none->bL (kvs++[(k,y)]) j=if j=k then some y else bL kvs j
 |[],_=>by
  by_cases e:k=j
  ·rw[if_pos e.symm];exact cu (p:=(k,y)) e
  ·rw[if_neg (fun z=>e z.symm)];exact cA (p:=(k,y)) e
 |p::r,hn=>by
  rw[zbV];have hk:¬p.1=k:=fun z=>by rw[cu z] at hn;cases hn
  rw[cA hk] at hn;have ih:=AS k j y r hn;by_cases e:p.1=j
  ·rw[cu e,cu e,if_neg (fun z=>hk (e.trans z))]
  ·rw[cA e,cA e,ih]
theorem uI(kvs:List (κ×V))(k j:κ)(y:V):bL (putK kvs k y) j=if j=k then some y else bL kvs j:=by
 unfold putK;by_cases a:(kvs.any fun kv=>decide (kv.1=k))=true
 ·rw[if_pos a,Dd];rw[gY] at a;by_cases e:j=k
  ·obtain⟨x,hx⟩:=zcU.mp a;rw[if_pos e,e,hx,zbm,if_pos rfl]
  ·rw[if_neg e];cases bL kvs j with
   |none=>rfl
   |some x=>rw[zbm,if_neg e]
 ·rw[if_neg a];refine AS k j y kvs ?_;rw[gY] at a;cases q:bL kvs k with
  |none=>rfl
  |some x=>rw[q] at a;exact(a rfl).elim
theorem dX(kvs:List (κ×V))(k:κ)(v:V):(putK kvs k v).length<=kvs.length+1:=by
 unfold putK;split
 ·rw[zad];lia
 ·rw[zaf,zap,zaQ];lia
theorem mh.qP{o:Option V}{u:Option zdw}(r:mh o u):o.isSome=u.isSome:=by
 cases o with
 |none=>cases u with
  |none=>rfl
  |some _=>exact(show False from r).elim
 |some _=>cases u with
  |none=>exact(show False from r).elim
  |some _=>rfl
theorem mh.getD{o:Option V}{u:Option zdw}{d:V}{d':zdw}(r:mh o u)(rd:RelV d d'):RelV (o.getD d) (u.getD d'):=by
 cases o with
 |none=>cases u with
  |none=>exact rd
  |some _=>exact(show False from r).elim
 |some _=>cases u with
  |none=>exact(show False from r).elim
  |some _=>exact r
theorem KV.val{kvs:List (κ×V)}{vs:List (κ×zdw)}(r:KV kvs vs)(k:κ):mh (bL kvs k) (valueAt vs k):=by
 unfold KV at r
 induction r with
 |nil=>exact True.intro
 |@cons p q ps qs h t ih=>
  obtain⟨h1,h2⟩:=h;by_cases e:p.1=k
  ·have e':q.1=k:=h1.symm.trans e;have b:valueAt (q::qs) k=some q.2:=by simp[valueAt,zbN,e']
   rw[cu e,b];exact h2
  ·have e':¬q.1=k:=fun z=>e (h1.trans z);have b:valueAt (q::qs) k=valueAt qs k:=by simp[valueAt,zbN,e']
   rw[cA e,b];exact ih
theorem KV.any{kvs:List (κ×V)}{vs:List (κ×zdw)}(r:KV kvs vs)(k:κ):(kvs.any fun kv=>decide (kv.1=k))=vs.any fun kv=>decide (kv.1=k):=by
 unfold KV at r
 induction r with
 |nil=>rfl
 |cons h t ih=>rw[zck,zck,ih,h.1]
theorem KV.Sr{kvs:List (κ×V)}{vs:List (κ×zdw)}(r:KV kvs vs)(k:κ){y:V}{u:zdw}(ry:RelV y u) :
 KV (kvs.map fun kv=>if kv.1=k then (kv.1,y) else kv) (vs.map fun kv=>if kv.1=k then (kv.1,u) else kv):=by
 unfold KV at r ⊢
 induction r with
 |nil=>exact .nil
 |@cons p q ps qs h t ih=>
  rw[zaq,zaq];refine .cons ?_ ih;obtain⟨h1,h2⟩:=h;by_cases e:p.1=k
  ·rw[if_pos e,if_pos (h1.symm.trans e)];exact⟨h1,ry⟩
  ·rw[if_neg e,if_neg (fun z=>e (h1.trans z))];exact⟨h1,h2⟩
theorem KV.put{kvs:List (κ×V)}{vs:List (κ×zdw)}(r:KV kvs vs)(k:κ){y:V}{u:zdw}(ry:RelV y u):KV (putK kvs k y) (stored vs k u):=by
 unfold putK stored;rw[r.any k];by_cases e:(vs.any fun kv=>decide (kv.1=k))=true
 ·rw[if_pos e,if_pos e];exact r.Sr k ry
 ·rw[if_neg e,if_neg e];exact Paired.snoc r ⟨rfl,ry⟩
theorem KV.length{kvs:List (κ×V)}{vs:List (κ×zdw)}(r:KV kvs vs):kvs.length=vs.length:=Paired.length r
end
theorem AU{P:zdH}{w:zdx}{k:Key}{u:zdw}(r:RelV (kV k) u):(bR P w).is k u=true:=by
 cases k with
 |inl i=>obtain⟨t,e⟩:=(show ∃t,u=Value.int i t from r);subst e;exact CS P w i t
 |inr x=>obtain⟨t,e⟩:=(show ∃t,u=Value.str x t from r);subst e;exact CU P w x t
theorem qQ{P:zdH}{w:zdx}:∀ {ks:List Key} {us:List zdw},Vals (ks.map kV) us->ItemsAre (bR P w) ks us
 |[],_,r=>by rw[zaW] at r;cases r;exact .nil
 |k::ks,_,r=>by
  rw[zaq] at r;cases r with
  |cons h t=>exact .cons (AU h) (qQ t)
abbrev KT (H:Hp):List (List Key×V)->List (List Key×zdv×zdw)->Prop:=Paired fun p q=>p.1=q.1/\H q.2.1=some (.tup (p.1.map kV))/\RelV p.2 q.2.2
theorem KT.val{H:Hp}{kvs:List (List Key×V)}{xs:List (List Key×zdv×zdw)}(r:KT H kvs xs)(k:List Key):mh (bL kvs k) ((atKey xs k).map (·.2)):=by
 induction r with
 |nil=>exact True.intro
 |@cons p q ps qs h t ih=>
  obtain⟨h1,_,h2⟩:=h;by_cases e:p.1=k
  ·have e':q.1=k:=h1.symm.trans e;have b:atKey (q::qs) k=some q.2:=by simp[atKey,zbN,e']
   rw[cu e,b];exact h2
  ·have e':¬q.1=k:=fun z=>e (h1.trans z);have b:atKey (q::qs) k=atKey qs k:=by simp[atKey,zbN,e']
   rw[cA e,b];exact ih
theorem KT.Sr{H:Hp}{kvs:List (List Key×V)}{xs:List (List Key×zdv×zdw)}(r:KT H kvs xs)(k:List Key){y:V}{u:zdw}(ry:RelV y u) :
 KT H (kvs.map fun kv=>if kv.1=k then (kv.1,y) else kv) (xs.map (putAt k u)):=by
 induction r with
 |nil=>exact .nil
 |@cons p q ps qs h t ih=>
  rw[zaq,zaq];refine .cons ?_ ih;obtain⟨h1,h2,h3⟩:=h;unfold putAt;by_cases e:p.1=k
  ·rw[if_pos e,if_pos (h1.symm.trans e)];exact⟨h1,h2,ry⟩
  ·rw[if_neg e,if_neg (fun z=>e (h1.trans z))];exact⟨h1,h2,h3⟩
theorem KT.put{H:Hp}{kvs:List (List Key×V)}{xs:List (List Key×zdv×zdw)}(r:KT H kvs xs)(k:List Key){b:zdv}{y:V}{u:zdw}(hb:H b=some (.tup (k.map kV)))(ry:RelV y u) :
 KT H (putK kvs k y) (storedH xs k b u):=by
 have e:(kvs.any fun kv=>decide (kv.1=k))=(atKey xs k).isSome:=by
  rw[gY,(r.val k).qP,zcg]
 unfold putK storedH;rw[e];by_cases q:(atKey xs k).isSome=true
 ·rw[if_pos q,if_pos q];exact r.Sr k ry
 ·rw[if_neg q,if_neg q];exact Paired.snoc r ⟨rfl,hb,ry⟩
theorem KT.keeps{H H':Hp}{kvs:List (List Key×V)}{xs:List (List Key×zdv×zdw)}(r:KT H kvs xs)(ht:∀b ys,H b=some (.tup ys)->H' b=some (.tup ys)):KT H' kvs xs:=
 Paired.uo r fun _ _ z=>⟨z.1,ht _ _ z.2.1,z.2.2⟩
section
variable{P:zdH}{w:zdx}{H:Hp}{h:Heap}{a:zdv}
theorem QW{u:HO}(ok:mq P w H h)(e:Rd H a u):du P w H h a u:=e.ok ok
theorem KY{kvs:List (Key×V)}(ok:mq P w H h)(e:Rd H a (.dK kvs)):kvs.length<=zdD/\(a==sysModules)=false/\∃vs,KV kvs vs/\h.DictOf (bR P w) a vs:=
 show du P w H h a (.dK kvs) from QW ok e
theorem VR{kvs:List (Key×V)}(ok:mq P w H h)(e:H a=some (.dK kvs)):kvs.length<=zdD/\(a==sysModules)=false/\∃vs,KV kvs vs/\h.DictOf (bR P w) a vs:=KY ok (.inl e)
theorem Fd{ks:List Key}(ok:mq P w H h)(e:H a=some (.tup (ks.map kV))):(tupleKind (bR P w)).is h ks a:=by
 obtain⟨_,bq,r,o,h1,h2,n,h3⟩:=(show du P w H h a (.tup (ks.map kV)) from ok a _ e)
 exact⟨o,bq.toArray,n,h1,h2,h3,by simpa using qQ r⟩
theorem KZ{kvs:List (List Key×V)}(ok:mq P w H h)(e:Rd H a (.dT kvs)):kvs.length<=zdD/\(a==sysModules)=false/\
 ∃xs,KT H kvs xs/\h.DictOfH (tupleKind (bR P w)) a xs:=by
 obtain⟨z,y,xs,r,o,es,ep,h1,h2,h3,h4,h5⟩:=(show du P w H h a (.dT kvs) from QW ok e)
 refine⟨z,y,xs,r,o,es,ep,h1,h2,h3,h4,fun x hx=>?_,h5⟩;have all:∀ {l:List (List Key×V)} {m:List (List Key×zdv×zdw)},KT H l m->∀x∈m,(tupleKind (bR P w)).is h x.1 x.2.1:=by
  intro l m q
  induction q with
  |nil=>intro x hx;exact nomatch hx
  |@cons p q ps qs hq t ih=>
   intro x hx;rcases zah.mp hx with e |hx
   ·subst e;exact Fd ok (by rw[<- hq.1];exact hq.2.1)
   ·exact ih x hx
 exact all r x hx
theorem VS{kvs:List (List Key×V)}(ok:mq P w H h)(e:H a=some (.dT kvs)):kvs.length<=zdD/\(a==sysModules)=false/\
 ∃xs,KT H kvs xs/\h.DictOfH (tupleKind (bR P w)) a xs:=KZ ok (.inl e)
end
def xq (H:Hp) (a:zdv) (y:V) (r:Option V):Prop:=
 (∃kvs k,Rd H a (.dK kvs)/\y=kV k/\r=bL kvs k)\/∃kvs k b,Rd H a (.dT kvs)/\y=.ref b/\H b=some (.tup (k.map kV))/\r=bL kvs k
def Ss (H:Hp) (a:zdv) (y v:V) (H':Hp):Prop:=
 (∃kvs k,H a=some (.dK kvs)/\y=kV k/\kvs.length<zdD/\H'=upd H a (.dK (putK kvs k v)))\/
 ∃kvs k b,H a=some (.dT kvs)/\y=.ref b/\H b=some (.tup (k.map kV))/\kvs.length<zdD/\H'=upd H a (.dT (putK kvs k v))
theorem xq.k{H:Hp}{a:zdv}{kvs:List (Key×V)}{k:Key}(e:H a=some (.dK kvs)):xq H a (kV k) (bL kvs k):=.inl ⟨kvs,k,.inl e,rfl,rfl⟩
section
variable{X:Cx}{pins:List (zdv×Obj)}{σ:St}{H:Hp}{s:zdF}{a:zdv}{y v:V}{u r:zdw}{o:Option V}{A:zdG}{E:zdw->zdF->Prop}
theorem Inv.big(I:Inv X pins σ H s):sysModules<s.heap.objs.size:=by
 have h:zdC<s.heap.objs.size:=(I.mod.glob.keeps I.bk).lt;exact Nat.lt_trans (by decide) h
theorem ID{Q:zdw->zdF->Prop}(hu:A.units+1<cLine)(I:Inv X pins σ H s)(g:xq H a y (some v))(ry:RelV y u)(h:∀w' s',Inv X pins σ H s'->RelV v w'->Q w' s') :
 wpAny (model X.prog X.w) A (getItem (.ref a) u) Q E s:=by
 rcases g with ⟨kvs,k,e,ey,l⟩ |⟨kvs,k,b,e,ey,eb,l⟩
 ·subst ey;obtain⟨z,hd,vs,rel,dd⟩:=KY I.bX e;obtain⟨w',hw,E9⟩:=mh.some_of (v:=v) (o:=valueAt vs k) (by rw[l];exact rel.val k);exact wpAny_getItem_of (AU ry) dd.mapOf hw (h w' _ (I.tok _) E9)
 ·subst ey;cases (show u=Value.ref b from ry);obtain⟨z,hd,xs,rel,dd⟩:=KZ I.bX e;obtain⟨w',hw,E9⟩:=mh.some_of (v:=v) (o:=(atKey xs k).map (·.2)) (by rw[l];exact rel.val k);obtain⟨p,hp,BB⟩:=zaM.mp hw;refine wpAny_getItem_heap (tupleKind_room_in1 hu) (Fd I.bX eb) dd hp ?_;rw[BB];exact h w' _ (I.tok _) E9
theorem uJ{h':Heap}{t':Nat}{ob:HO}(I:Inv X pins σ H s)(mu:Vi (H a))(hs:Heap.SameBut a s.heap h')(he:∃q,h'.get? a=some q)(new:du X.prog X.w (upd H a ob) h' a ob) :
 Inv X pins σ (upd H a ob) {s with heap:=h',toks:=t' }:=
 I.write (x:=a) (e:=a) mu (.inl rfl) (fun b q hb z=>(hs.2 b hb).trans z) he new
theorem Fe{P:zdH}{w:zdx}{H':Hp}{h':Heap}{kvs:List (Key×V)}{vs:List (Key×zdw)}(z:kvs.length<=zdD)(hd:(a==sysModules)=false)(rel:KV kvs vs)(dd:h'.DictOf (bR P w) a vs) :
 du P w H' h' a (.dK kvs):=⟨z,hd,vs,rel,dd⟩
theorem IE{H':Hp}{Q:Unit->zdF->Prop}(hu:A.units+1<cLine)(I:Inv X pins σ H s)(g:Ss H a y v H')(ry:RelV y u)(rv:RelV v r)(h:∀s',Inv X pins σ H' s'->Q () s') :
 wpAny (model X.prog X.w) A (setItem (.ref a) u r) Q E s:=by
 rcases g with ⟨kvs,k,e,ey,l,eH⟩ |⟨kvs,k,b,e,ey,eb,l,eH⟩
 ·subst ey eH;obtain⟨z,hd,vs,rel,dd⟩:=VR I.bX e;have hz:vs.length<=zdD:=by rw[<- rel.length];exact z
  have hl:(putK kvs k v).length<=zdD:=by have:=dX kvs k v;lia
  refine wpAny_setItem_pairs (hsz:=hz) (AU ry) dd fun h' QX hs=>h _ ?_;have he:∃q,h'.get? a=some q:=let ⟨q,_,_,hq,_⟩:=QX;⟨q,hq⟩;exact uJ I (by rw[e];exact True.intro) hs he (Fe hl hd (rel.put k rv) QX)
 ·subst ey eH;cases (show u=Value.ref b from ry);obtain⟨z,hd,xs,rel,dd⟩:=VS I.bX e;have hz:xs.length<=zdD:=by rw[<- Paired.length rel];exact z
  have hl:(putK kvs k v).length<=zdD:=by have:=dX kvs k v;lia
  refine wpAny_setItem_heap (hsz:=hz) (tupleKind_room_in1 hu) (Fd I.bX eb) dd fun h' QX hs=>h _ ?_;obtain⟨q,es,ep,hq,h2,h3,h4,_,h5⟩:=QX;refine uJ I (by rw[e];exact True.intro) hs ⟨q,hq⟩ ⟨hl,hd,_,(rel.put k eb rv).keeps fun c ys ec=>?_,q,es,ep,hq,h2,h3,h4,h5⟩;rw[au (cE ec e (fun z=>nomatch z))];exact ec
end
def K0 (i:Expr):Prop:=∀ov iv,subscripted i false ov iv=operate [ov,iv] (getItem ov iv)
theorem BC{prog:zdH}{w:zdx}{A:zdG}{E:zdw->zdF->Prop}{s:zdF}{env:Env}{value slice:Expr}{pos:Pos}{T id:String}{Q:zdw->zdF->Prop}
 (hl:typeLookup (.type T) "__getitem__"=pure (some (.builtin id))) (hs:K0 slice)
 (h:wpAny (model prog w) A (eval value env) (fun o s₁=>wpAny (model prog w) A (eval slice env) (fun i s₂=>s₂.TypeIs o T/\wpAny (model prog w) A (getItem o i) Q E s₂) E s₁) E s) :
 wpAny (model prog w) A (eval (.Subscript value slice pos) env) Q E s:=by
 refine Subscript_ (wpAny_mono h (fun o s₁ h₁=>wpAny_mono h₁ (fun i s₂ h₂=>?_) fun _ _ x=>x) fun _ _ x=>x);obtain⟨hT,h₂⟩:=h₂;unfold subscriptTail;refine zdy ?_;rw[getitemInPython_of_ne hT.not_modules];refine zdy (wpAny_specialOf hT hl ?_);have fin:wpAny (model prog w) A (subscripted slice false o i) (fun r s₃=>wpAny (model prog w) A (letTemporaryGo value o r >>= fun _=>pure r) Q E s₃) E s₂:=by
  rw[hs o i];exact wpAny_operating (wpAny_mono h₂ (fun r s₃ h₃=>zdy (wpAny_letTemporaryGo (zdz h₃))) fun _ _ x=>x)
 first
  |exact zdz (zdy fin)
  |exact zdy (zdz (zdy fin))
  |exact zdy fin
theorem De{X:Cx}{pins:List (zdv×Obj)}{σ:St}{H:Hp}{s:zdF}{a:zdv}{y:V}{o:Option V}(I:Inv X pins σ H s)(g:xq H a y o):s.TypeIs (.ref a) "dict":=by
 rcases g with ⟨kvs,k,e,_,_⟩ |⟨kvs,k,b,e,_,_,_⟩
 ·obtain⟨_,_,vs,_,dd⟩:=KY I.bX e;exact dd.typeIs
 ·obtain⟨_,_,xs,_,dd⟩:=KZ I.bX e;exact dd.typeIs
def QY (td ty:TE):TE:=fun σ H Q=>td σ H fun x H1=>ty σ H1 fun y H2=>∃a v,x=.ref a/\xq H2 a y (some v)/\Q v H2
def QZ (td ty tv:TE):TS:=fun D σ H=>tv σ H fun v H1=>td σ H1 fun x H2=>ty σ H2 fun y H3=>∃a H4,x=.ref a/\Ss H3 a y v H4/\D.nx σ H4
section
variable{X:Cx}{o i e value:Expr}{pos pos' Ox:Pos}{td ty tv:TE}
theorem jw(hu:X.A.units+1<cLine)(ho:PE X o td)(hi:PE X i ty)(hs:K0 i):PE X (.Subscript o i pos) (QY td ty):=by
 intro pins s σ H Q I h;refine BC PySem.F.slot_dict_getitem.lookup hs (dE (ho pins s σ H _ I h) fun u s1 zqz=>?_);obtain⟨x,H1,I1,rx,q1⟩:=zqz;refine dE (hi pins s1 σ H1 _ I1 q1) fun iv s2 zqz=>?_;obtain⟨y,H2,I2,ry,a,v,ex,g,q2⟩:=zqz;subst ex;obtain rfl:u=Value.ref a:=rx;exact⟨De I2 g,ID hu I2 g ry fun w' s3 I3 E9=>⟨v,H2,I3,E9,q2⟩⟩
theorem GL(hu:X.A.units+1<cLine)(ho:PE X o td)(hi:PE X i ty)(hv:PE X value tv)(hs:swapsWith value (some (.Subscript o i pos')) pos.line X.env=pure false) :
 PS X (.Assign [.Subscript o i pos'] value pos) (QZ td ty tv):=by
 intro pins s σ H D I h;refine wpAny_Assign_Subscript (dE (hv pins s σ H _ I h) fun r s1 zqz=>?_) hs;obtain⟨v,H1,I1,rv,q1⟩:=zqz;refine dE (ho pins s1 σ H1 _ I1 q1) fun u s2 zqz=>?_;obtain⟨x,H2,I2,rx,q2⟩:=zqz;refine dE (hi pins s2 σ H2 _ I2 q2) fun iv s3 zqz=>?_;obtain⟨y,H3,I3,ry,a,H4,ex,g,q3⟩:=zqz;subst ex;obtain rfl:u=Value.ref a:=rx;exact IE hu I3 g ry rv fun s4 I4=>⟨σ,H4,I4,q3⟩
end
def nY (kvs more:List (Key×V)):List (Key×V):=more.foldl (fun acc kv=>putK acc kv.1 kv.2) kvs
theorem KV.merge:∀ {more:List (Key×V)} {rs:List (Key×zdw)} {kvs:List (Key×V)} {vs:List (Key×zdw)},KV more rs->KV kvs vs->KV (nY kvs more) (merged vs rs):=by
 intro more rs kvs vs r;unfold KV at r
 induction r generalizing kvs vs with
 |nil=>intro q;exact q
 |@cons p q ps qs h t ih=>
  intro r0;have e:KV (putK kvs p.1 p.2) (stored vs q.1 q.2):=by
   have:=r0.put p.1 h.2;rw[<- h.1];exact this
  exact ih e
theorem mw:∀(more kvs:List (Key×V)),(nY kvs more).length<=kvs.length+more.length
 |[],kvs=>by show kvs.length<=kvs.length+0;lia
 |p::r,kvs=>by
  have h1:=mw r (putK kvs p.1 p.2);have h2:=dX kvs p.1 p.2;show (nY (putK kvs p.1 p.2) r).length<=_;rw[zap];lia
structure M2(X:Cx)(o:Expr)(m:Str)(apos:Pos)(e f:Expr)(gX:Pos):Prop where
 base:attributeBase o m X.env (eval o X.env)=eval o X.env
 CM:((backTo gX (zdB [e,f] X.env)).all (fun x=>!x.1)&&(backToKw gX (keywordEach [] X.env)).all (fun x=>x.1.isSome)
  && decide (([e,f]:List Expr).length+([]:List Keyword).length+(if ([]:List Keyword).isEmpty then 0 else 1)<30))=true
 line:(apos.endLine==gX.line)=true
 trees:backTo gX (zdB [e,f] X.env)=[(false,eval e X.env),(false,eval f X.env)]
def vX (env:Env):List (Str×NameKind)->List (Str×zdv)->List (Str×zdv)
 |[],cs=>cs
 |(n,k)::r,cs=>vX env r (if k==.free then (n,(env.cells.lookup n).getD 0)::cs else cs)
theorem xt{scope:Scope}{env:Env}(h:∀p∈scope.names,p.2=.free->∃c,env.cells.lookup p.1=some c):closureFor scope env=pure (vX env scope.names []):=by
 have all:∀(l:List (Str×NameKind)) (cs:List (Str×zdv)),(∀p∈l,p.2=.free->∃c,env.cells.lookup p.1=some c)->
  (forIn l cs fun (x:Str×NameKind) (r:List (Str×zdv))=>if (x.2==NameKind.free)=true then do let a <- cellOf env x.1;pure (ForInStep.yield ((x.1,a)::r)) else (pure (ForInStep.yield r):Sem _))=pure (vX env l cs):=by
  intro l
  induction l with
  |nil=>intro cs _;rfl
  |cons p r ih=>
   intro cs hp;obtain⟨n,k⟩:=p;rw[zbb];by_cases hk:k=.free
   ·subst hk;obtain⟨c,e⟩:=hp (n,.free) zan rfl;have e1:cellOf env n=pure c:=by unfold cellOf;rw[e]
    simp only[beq_self_eq_true,if_true,e1,pure_bind];rw[ih _ fun p OF=>hp p (zaj _ OF)];simp[vX,e]
   ·have hb:(k==NameKind.free)=false:=by simpa using hk
    simp only[hb,zaA,if_false,pure_bind];rw[ih _ fun p OF=>hp p (zaj _ OF)];simp[vX,hb]
 simp only[closureFor];rw[all scope.names [] h];simp
theorem uK{env:Env}{x:Str}{c:zdv}:∀ {l:List (Str×NameKind)} {cs:List (Str×zdv)},(∀p∈l,p.2=.free->∃c,env.cells.lookup p.1=some c)->(∀x c,cs.lookup x=some c->env.cells.lookup x=some c)->
 (vX env l cs).lookup x=some c->env.cells.lookup x=some c
 |[],_,_,h,e=>h x c e
 |(n,k)::r,cs,hp,h,e=>by
  unfold vX at e;refine uK (fun p q=>hp p (zaj _ q)) ?_ e;intro y d q;by_cases hk:k=.free
  ·subst hk;obtain⟨c',e'⟩:=hp (n,.free) zan rfl;simp only[beq_self_eq_true,if_true] at q;rw[za3] at q;cases hy:y==n with
   |true=>
    rw[hy] at q;have:y=n:=by simpa using hy
    subst this;simp only at e';rw[e'] at q ⊢;exact q
   |false=>rw[hy] at q;exact h y d q
  ·have hb:(k==NameKind.free)=false:=by simpa using hk
   simp only[hb,zaA,if_false] at q;exact h y d q
theorem yo{env:Env}{x:Str}:∀ {l:List (Str×NameKind)} {cs:List (Str×zdv)},((∃c,cs.lookup x=some c)\/(x,NameKind.free)∈l)->∃c,(vX env l cs).lookup x=some c
 |[],_,h=>by
  rcases h with h |h
  ·exact h
  ·exact absurd h (by simp)
 |(n,k)::r,cs,h=>by
  unfold vX
  apply yo
  rcases h with ⟨c,h⟩ |h
  ·left
   by_cases hk:k=.free
   ·subst hk;simp only[beq_self_eq_true,if_true];rw[za3];cases hy:x==n with
    |true=>exact⟨_,rfl⟩
    |false=>exact⟨c,h⟩
   ·have hb:(k==NameKind.free)=false:=by simpa using hk
    simp only[hb,zaA,if_false];exact⟨c,h⟩
  ·rcases zah.mp h with e |h
   ·injection e with e1 e2
    subst e1;subst e2
    left
    simp only[beq_self_eq_true,if_true];rw[za3];simp
   ·exact .inr h
theorem pO{scope:Scope}{env:Env}{x:Str}:(relabel scope env).names.lookup x=(scope.names.lookup x).map fun k=>if (k==NameKind.free&&env.scope.kind==.function&&env.kindOf x==some .cell)=true then .cell else k:=by
 unfold relabel;show zbk x (scope.names.map _)=_;generalize scope.names=l
 induction l with
 |nil=>rfl
 |cons p r ih=>
  obtain⟨n,k⟩:=p;rw[zaq,za3 (as:=r)];show zbk x ((if (k==NameKind.free&&env.scope.kind==.function&&env.kindOf n==some .cell)=true then (n,NameKind.cell) else (n,k))::_)=_;cases hx:x==n with
  |true=>
   have e:x=n:=by simpa using hx
   subst e;by_cases hc:(k==NameKind.free&&env.scope.kind==.function&&env.kindOf x==some .cell)=true
   ·rw[if_pos hc];simp only[za3,beq_self_eq_true,zbm];rw[if_pos hc]
   ·rw[if_neg hc];simp only[za3,beq_self_eq_true,zbm];rw[if_neg hc]
  |false=>
   by_cases hc:(k==NameKind.free&&env.scope.kind==.function&&env.kindOf n==some .cell)=true
   ·rw[if_pos hc];simp only[za3,hx];exact ih
   ·rw[if_neg hc];simp only[za3,hx];exact ih
theorem mem_of_lookup{x:Str}{k:NameKind}:∀ {l:List (Str×NameKind)},l.lookup x=some k->(x,k)∈l
 |[],h=>by simp at h
 |(n,j)::r,h=>by
  rw[za3] at h;cases hx:x==n with
  |true=>
   rw[hx] at h;have e:x=n:=by simpa using hx
   cases h;subst e;exact zan
  |false=>rw[hx] at h;exact zaj _ (mem_of_lookup h)
def kg (sc out:Scope):Bool:=
 (sc.names.all fun p=>p.2 != .cell&&(p.2 != .free ||out.names.lookup p.1==some .cell ||out.names.lookup p.1==some .free)&&(p.2 != .local ||sc.names.lookup p.1==some .local))&&decide (sc.kind=.function)
def xM (sc out:Scope) (N:List Str) (ix:List Nat):Bool:=
 ix.all fun i=>sc.names.lookup (N.getD i "")==some .free&&(out.names.lookup (N.getD i "")==some .cell ||out.names.lookup (N.getD i "")==some .free)
def K1 (σ:St) (ix:List Nat):St:=ix.map fun i=>σ.getD i none
abbrev GN (N:List Str) (ix:List Nat):List Str:=ix.map fun i=>N.getD i ""
def kJ (X:Cx) (scope:Scope) (own:List Str) (ix:List Nat) (C:zdv) (s₀:zdF) (H₀:Hp) (ex:List zdv):Cx where
 prog:=X.prog
 w:=X.w
 K:=X.K
 mg:=X.mg
 base:=X.base
 A:=X.A
 N:=own++GN X.N ix
 s₀:=s₀
 H₀:=H₀
 env:=compEnvC scope (vX X.env scope.names []) C X.env
 outer:=X.stack
 stack:=X.stack
 ex:=ex
 fn:=fun _=>false
 calm:=X.calm
 pn:=[]
 xe:=fun _ _=>False
section
variable{X:Cx}{pins:List (zdv×Obj)}{σ:St}{H:Hp}{s:zdF}
theorem pP{sc out:Scope}(h:kg sc out=true):∀p∈sc.names,p.2≠.cell/\(p.2=.free->out.names.lookup p.1=some .cell\/out.names.lookup p.1=some .free)/\(p.2=.local->sc.names.lookup p.1=some .local):=by
 intro p hp;unfold kg at h;rw[zbh] at h;have:=List.all_eq_true.mp h.1 p hp;simp only[zbh,Bool.or_eq_true,bne_iff_ne,beq_iff_eq,ne_eq] at this;obtain⟨⟨h1,h2⟩,h3⟩:=this;refine⟨h1,fun e=>?_,fun e=>?_⟩
 ·rcases h2 with (h2 |h2) |h2
  ·exact absurd e h2
  ·exact .inl h2
  ·exact .inr h2
 ·rcases h3 with h3 |h3
  ·exact absurd e h3
  ·exact h3
theorem nZ{sc out:Scope}(h:kg sc out=true):sc.kind=.function:=by
 unfold kg at h;rw[zbh] at h;exact of_decide_eq_true h.2
theorem OG{scope:Scope}{own:List Str}{ix:List Nat}{ex:List zdv}(I:Inv X pins σ H s)(hf:kg scope X.env.scope=true)(hx:∀b∈ex,uz X pins H b/\b<s.heap.objs.size):(kJ X scope own ix s.heap.objs.size s H ex).Ok:=by
 have fits:=(pP hf)
 have uv:∀p∈scope.names,p.2=.free->∃c,X.env.cells.lookup p.1=some c:=fun p hp e=>I.ok.has p.1 ((fits p hp).2.1 e);have sub:∀ {x:Str} {c:zdv},(vX X.env scope.names []).lookup x=some c->X.env.cells.lookup x=some c:=fun {x c} e=>uK uv (fun x c e=>by simp at e) e;refine⟨I.ok.mod,(show scope.kind=.function from nZ hf),I.ok.glob,I.ok.blt,zag _,fun x y c a b=>I.ok.inj x y c (sub a) (sub b),fun x hk=>?_,fun x c e=>(by cases e),I.ok.hd,I.ok.frames,.inl rfl,fun b hb=>⟨zaD (hx b hb).2,fun x c e=>(hx b hb).1.2.2.2.2.1 x c (sub e)⟩,I.bs,zaw I.ok.CV I.sz,fun b o e hb=>?_,fun b hb hs=>?_,I.stack,I.ur⟩
 ·refine yo (.inr ?_);have K2:(relabel scope X.env).names.lookup x=some .cell\/(relabel scope X.env).names.lookup x=some .free:=hk;rw[pO] at K2;cases q:scope.names.lookup x with
  |none=>rw[q] at K2;rcases K2 with z |z<;>cases z
  |some k=>
   have hm:=mem_of_lookup q;by_cases ZM:k=.free
   ·subst ZM;exact hm
   ·rw[q] at K2;have hb:(k==NameKind.free)=false:=by simpa using ZM
    simp only[zbm,hb,Bool.false_and,zaA,if_false,za1.injEq] at K2;rcases K2 with z |z
    ·exact absurd z (fits _ hm).1
    ·exact absurd z ZM
 ·rcases(hx b hb).1.2.2.2.1 with z |z
  ·exact I.ok.Bo b o e z
  ·exact absurd (zaz (Heap.lt_size e) (zaw I.ok.CV z)) (zaP _)
 ·rcases zah.mp (I.tj b hs) with z |z
  ·exact(hx b hb).1.2.1 z
  ·exact(hx b hb).1.2.2.1 z
theorem K3{scope:Scope}{own:List Str}{ix:List Nat}{ex:List zdv}{h':Heap}{tk:Nat}(I:Inv X pins σ H s)(hf:kg scope X.env.scope=true)(hc:xM scope X.env.scope X.N ix=true)(hx:∀b∈ex,uz X pins H b/\b<s.heap.objs.size)
 (hn:h'.Ns s.heap.objs.size fun _=>none) (hk:∀b o,s.heap.get? b=some o->h'.get? b=some o):Inv (kJ X scope own ix s.heap.objs.size s H ex) [] (zcE own.length none++K1 σ ix) H {s with heap:=h',toks:=tk}:=by
 have fits:=(pP hf)
 have uv:∀p∈scope.names,p.2=.free->∃c,X.env.cells.lookup p.1=some c:=fun p hp e=>I.ok.has p.1 ((fits p hp).2.1 e);have sub:∀ {x:Str} {c:zdv},(vX X.env scope.names []).lookup x=some c->X.env.cells.lookup x=some c:=fun {x c} e=>uK uv (fun x c e=>by simp at e) e;refine⟨OG I hf hx,rfl,I.bare,Un.kept hk,⟨_,hn,fun i x v e1 e2 e3=>?_⟩,fun x c e=>?_,I.bX.fresh (zag _),fun x c e=>I.i7 x c (sub e),fun p hp=>absurd (show p∈([]:List (zdv×Obj))++[] from hp) (by simp),I.bX.kept hk,?_⟩
 ·have e1:(own++GN X.N ix)[i]?=some x:=e1;by_cases hi:i<own.length
  ·rw[zcS (by simpa using hi),zc3,if_pos hi] at e2;cases e2
  ·have hi':own.length<=i:=zcV hi;rw[zb0 (by simpa using hi'),zdf] at e2;rw[zb0 hi'] at e1;unfold K1 at e2;unfold GN at e1;rw[zao] at e1 e2;cases q:ix[i-own.length]? with
   |none=>rw[q] at e2;cases e2
   |some j=>
    rw[q] at e1 e2;simp only[zbm,za1.injEq] at e1 e2;have hj:j∈ix:=za0 q;have fit:=List.all_eq_true.mp hc j hj;simp only[zbh,Bool.or_eq_true,beq_iff_eq] at fit;rw[e1] at fit;have ej:σ[j]?=some (some v):=by
     rw[zar] at e2;cases r:σ[j]? with
     |none=>rw[r] at e2;cases e2
     |some z=>rw[r] at e2;simp only[zcW] at e2;rw[e2]
    have hjl:j<X.N.length:=by rw[<- I.len];exact(zam.mp ej).1
    have en:X.N[j]?=some x:=by
     rw[zar] at e1;rw[zae hjl] at e1 ⊢;simp only[zcW] at e1;rw[e1]
    obtain⟨m,hm,hl⟩:=I.loc;have hv:Vk X.env.scope x:=by
     rcases fit.2 with z |z
     ·exact .inr (.inl z)
     ·exact .inr (.inr z)
    obtain⟨u,r,l⟩:=hl j x v en ej hv;refine⟨u,r,.inr ⟨?_,?_⟩⟩
    ·show (relabel scope X.env).names.lookup x=some .cell\/(relabel scope X.env).names.lookup x=some .free;rw[pO,fit.1];simp only[zbm];split
     ·exact .inl rfl
     ·exact .inr rfl
    ·rcases l with ⟨k1,_⟩ |⟨_,c,ec,wW⟩
     ·have k1:X.env.scope.names.lookup x=some .local:=k1;rcases fit.2 with z |z<;>(rw[z] at k1;cases k1)
     ·obtain⟨c',e'⟩:∃c,(vX X.env scope.names []).lookup x=some c:=yo (.inr (mem_of_lookup fit.1));have:=sub e';rw[ec] at this;cases this;exact⟨c,e',wW.keeps hk⟩
 ·obtain⟨v,z⟩:=I.cell x c (sub e);exact⟨v,z.keeps hk⟩
 ·show (zcE own.length none++K1 σ ix).length=(own++GN X.N ix).length;simp[K1]
theorem comp_back{scope:Scope}{own:List Str}{ix:List Nat}{ex:List zdv}{τ:St}{H':Hp}{s':zdF}{wV:List (zdv×Obj)}(I:Inv X pins σ H s)(hx:∀b∈ex,uz X pins H b/\b<s.heap.objs.size)
 (I':Inv (kJ X scope own ix s.heap.objs.size s H ex) wV τ H' s'):Inv X pins σ H' s'/\H' s.heap.objs.size=none/\s.heap.objs.size≠X.env.locals/\X.s₀.heap.objs.size<=s.heap.objs.size/\(∀x c,X.env.cells.lookup x=some c->c≠s.heap.objs.size)/\∀p∈X.pn++pins,p.1≠s.heap.objs.size:=by
 refine⟨I.QP (ch:=ex) I'.os I'.base I'.bX I'.bare fun b hb=>?_,I'.free,zbI I.lt,I.sz,fun x c e z=>?_,fun p hp z=>?_⟩
 ·obtain⟨f0,f1,f2,f3,f4,f5⟩:=(hx b hb).1;exact⟨f3,f1,f4,f5⟩
 ·obtain⟨v,q⟩:=I.cell x c e;exact absurd q.lt (by rw[z];exact zaP _)
 ·exact absurd (Heap.lt_size (I.pin p hp).1) (by rw[z];exact zaP _)
end
def UC (X:Cx) (ifs:List Expr) (t:TT):Prop:=
 ∀(pins:List (zdv×Obj)) (s:zdF) (σ:St) (H:Hp) (Q:Bool->Hp->Prop),Inv X pins σ H s->t σ H Q->
  wpAny (model X.prog X.w) X.A (forIn ifs true fun c r=>if r=true then do let ok <- isTrue c X.env (eval c X.env);pure (ForInStep.yield ok) else pure (ForInStep.yield r)) (TP X pins σ Q) X.xe s
def xu:TT:=fun _ H Q=>Q true H
theorem dY{X:Cx}:UC X [] xu:=fun _ _ _ H _ I h=>wpAny_tests_nil ⟨H,I,h⟩
theorem GO{X:Cx}{c:Expr}{t:TT}(h:PT X c t):UC X [c] t:=fun pins s σ H Q I q=>wpAny_tests_one (h pins s σ H Q I q)
def pQ (J:It) (D:zdv) (g:TG) (tc:TT) (te:TE) (Q:VK) (τ:St) (H:Hp):Prop:=∃W:Nat->Nat->St->Hp->Prop,(∃m,W 0 m τ H)/\∀i m τ H,W i m τ H->
 (J.stop i H/\Q (.ref D) H)\/(J.go i H/\∃N:St->Hp->Prop,(∀τ' H',N τ' H'->∃m',m'<m/\W (i+1) m' τ' H')/\∀x H',J.Ik i H x H'->g x τ H' fun τ2 H2=>tc τ2 H2 fun b H3=>if b=true then
  te τ2 H3 fun y H4=>∃ys,H4 D=some (.lst ys)/\ys.length<zdD/\N τ2 (upd H4 D (.lst (ys++[y]))) else N τ2 H3)
def gO (wi:TI) (k:Nat) (ix:List Nat) (g:TG) (tc:TT) (te:TE):TE:=fun σ H Q=>wi σ H fun J H1=>∀D,H1 D=none->pQ J D g tc te Q (zcE k none++K1 σ ix) (upd H1 D (.lst []))
section
variable{X:Cx}{tg iter elt:Expr}{ifs:List Expr}{scope:Scope}{pos:Pos}{own:List Str}{ix:List Nat}{wi:TI}{g:TG}{tc:TT}{te:TE}
theorem IF{it D:zdv}{fp:List zdv}{tn:Nat->Heap->Prop}{J:It}{Q:VK}{R:Result->zdF->Prop}{s:zdF}{τ:St}{H:Hp}(rY:X.calm=true)(Su:X.xe=fun _ _=>False)(hpn:X.pn=[])(T:Turn X.prog X.w X.K tg J fp it tn)
 (he:PE X elt te) (hg:PG X tg g) (ht:UC X ifs tc) (I:Inv X [] τ H s) (hfp:∀b∈fp,uz X [] H b) (h0:tn 0 s.heap) (hW:pQ J D g tc te Q τ H)
 (hR:∀τ' H' s',Inv X [] τ' H' s'->Q (.ref D) H'->R (.ok .next) s') :
 codeAny (model X.prog X.w) X.A (.compLoop (.ListComp elt [⟨tg,iter,ifs,0⟩] scope pos) 0 (.ref it) (.ref D) X.env) R s:=by
 obtain⟨W,⟨m0,w0⟩,turn⟩:=hW;have no:∀ {E:zdw->zdF->Prop} (e:zdw) (s':zdF),X.xe e s'->E e s':=fun e s' z=>by rw[Su] at z;exact z.elim
 have stat:∀ {H':Hp},(∀b∈fp,H' b=none)->∀b∈fp,uz X [] H' b:=fun hn b hb=>⟨hn b hb,(hfp b hb).2⟩
 refine codeAny_loop rfl (fun n s'=>∃i τ' H',Inv X [] τ' H' s'/\tn i s'.heap/\(∀b∈fp,H' b=none)/\W i n τ' H') (fun n s3 hI=>?_) m0 ⟨0,τ,H,I,h0,fun b hb=>(hfp b hb).1,w0⟩;obtain⟨i,τ3,H3,I3,QQ,Vu,w3⟩:=hI;show wpAny _ X.A ((compTurn (.ListComp elt [⟨tg,iter,ifs,0⟩] scope pos) 0 (.ref it) (.ref D) X.env).onRaise (fun x=>do noteFrame x X.env;theTreesLotGoes x)) _ _ s3;refine wpAny_noted ?_;rw[compTurn_list];refine zdy (wpAny_standAt (zdy ?_));rcases turn i n τ3 H3 w3 with ⟨stop,q⟩ |⟨go,N,hN,step⟩
 ·refine wpAny_mono (T.done X rfl rfl rfl rY i [] s3 τ3 H3 X.xe I3 (stat Vu) QQ stop) (fun r s4 zqz=>?_) no;obtain⟨hr,I4⟩:=zqz;subst hr;exact zdz (hR τ3 H3 s4 I4 q)
 ·refine wpAny_mono (T.item X rfl rfl rfl rY i [] s3 τ3 H3 X.xe I3 (stat Vu) QQ go) (fun r s4 zqz=>?_) no;obtain⟨u,hr,h4⟩:=zqz;subst hr;refine zdy (wpAny_mono h4 (fun _ s5 zqz=>?_) no);obtain⟨x,H5,I5,r5,y5,Sa,Zw⟩:=zqz;have Zx:=I5.pinned (stat Zw) (T.obj _ _ Sa);refine zdy (wpAny_mono (hg _ s5 τ3 H5 x u _ Zx r5 (step x H5 y5)) (fun _ s6 zqz=>?_) no);obtain⟨τ6,H6,I6,q6⟩:=zqz;refine zdy (wpAny_mono (ht _ s6 τ6 H6 _ I6 q6) (fun b s7 zqz=>?_) no);obtain⟨H7,I7,q7⟩:=zqz;have again:∀ {τ7:St} {H7:Hp} {s7:zdF},Inv X ([]++x6 fp s5.heap) τ7 H7 s7->N τ7 H7->∃m,m<n/\∃i σ' H',Inv X [] σ' H' s7/\tn i s7.heap/\(∀b∈fp,H' b=none)/\W i m σ' H':=fun {τ7 H7 s7} I7 n7=>by
   obtain⟨m',hm,w7⟩:=hN τ7 H7 n7;refine⟨m',hm,i+1,τ7,H7,I7.mM,T.keep _ _ _ Sa fun b hb o e=>(I7.pin (b,o) (zav _ (zav _ (nW hb e)))).1,fun b hb=>?_,w7⟩;obtain⟨o,e,d⟩:=T.obj _ _ Sa b hb;exact(I7.pin (b,o) (zav _ (zav _ (nW hb e)))).2.1
  cases b with
  |false=>exact zdz ⟨rfl,again I7 q7⟩
  |true=>
   refine zdy (zdy (wpAny_mono (he _ s7 τ6 H7 _ I7 q7) (fun v s8 ⟨y,H8,I8,r8,ys,hD,hl,q8⟩=>zdy ?_) no));refine wpAny_mono (gC _ s8 τ6 H8 (.ref D) [y] (.ref D) [v] (fun _ H'=>N τ6 H') I8 rfl (.cons r8 .nil) ⟨D,ys,y,rfl,rfl,hD,hl,q8⟩) (fun _ s9 zqz=>?_) no;obtain⟨_,H9,I9,_,q9⟩:=zqz;exact zdz (zdz ⟨rfl,again I9 q9⟩)
theorem Dh{pins:List (zdv×Obj)}{s:zdF}{σ:St}{H:Hp}{Q:VK}{use:Option (zdw->Sem Unit)}{Q':zdw->zdF->Prop}(rY:X.calm=true)(hf:kg scope X.env.scope=true)(hc:xM scope X.env.scope X.N ix=true)
 (hi:PI X tg iter wi) (hg:∀C s₀ H₀ ex,PG (kJ X scope own ix C s₀ H₀ ex) tg g) (ht:∀C s₀ H₀ ex,UC (kJ X scope own ix C s₀ H₀ ex) ifs tc) (he:∀C s₀ H₀ ex,PE (kJ X scope own ix C s₀ H₀ ex) elt te)
 (I:Inv X pins σ H s) (h:gO wi own.length ix g tc te σ H Q)
 (hU:∀(D C:zdv) (H':Hp) (s':zdF) (m:Str->Option zdw),Inv X pins σ H' s'->Q (.ref D) H'->s'.heap.Ns C m->H' C=none->C≠X.env.locals->X.s₀.heap.objs.size<=C->(∀x c,X.env.cells.lookup x=some c->c≠C)->(∀p∈X.pn++pins,p.1≠C)->compPost (model X.prog X.w) X.A X.xe use Q' (.ref D) C (.ok .next) s')
 (hs:∀x,foldedSetIterable iter X.env x=pure x) :
 wpAny (model X.prog X.w) X.A (comprehension (.ListComp elt [⟨tg,iter,ifs,0⟩] scope pos) scope X.env (firstIterPos [⟨tg,iter,ifs,0⟩] pos) (newList []) false (eval iter X.env) use) Q' X.xe s:=by
 have fits:=(pP hf)
 have uv:∀p∈scope.names,p.2=.free->∃c,X.env.cells.lookup p.1=some c:=fun p hp e=>I.ok.has p.1 ((fits p hp).2.1 e);refine wpAny_comprehension_free (use:=use) rfl hs (xt uv) (nZ hf) (fun x hx=>(fits x hx).2.2) ?_;refine dE (hi pins s σ H _ I h) fun v s1 h1=>dE h1 fun Zv s2 h2=>?_;obtain⟨it,fp,tn,J,H2,e,I2,T,Io,f2,hW⟩:=h2;subst e;refine wpAny_newObj_type (hd:=by size_fits) ?_;have hD:H2 s2.heap.objs.size=none:=I2.bX.fresh (zag _);have I3:Inv X pins σ (upd H2 s2.heap.objs.size (.lst [])) {s2 with heap:=s2.heap.push {cls:=.type "list",dict:=none,data:=.seq ([]:List zdw).toArray} }:=
  I2.laid (t':=s2.toks) (fun b u e=>Heap.get?_push_of_some _ e) (zag _) ⟨zaK _,[],0,.nil,Heap.get?_push_size _ rfl⟩
 have W3:=hW s2.heap.objs.size hD;have Ye:∀b∈fp,b<s2.heap.objs.size:=fun b hb=>let ⟨o,e,_⟩:=T.obj _ _ Io b hb;Heap.lt_size e;have VT:∀b∈fp,uz X pins (upd H2 s2.heap.objs.size (.lst [])) b/\b<(s2.heap.push {cls:=.type "list",dict:=none,data:=.seq ([]:List zdw).toArray}).objs.size:=fun b hb=>
  ⟨⟨by rw[au (zaD (Ye b hb))];exact(f2 b hb).1,(f2 b hb).2⟩,by rw[Heap.size_push];exact Nat.lt_succ_of_lt (Ye b hb)⟩
 have QQ:tn 0 (s2.heap.push {cls:=.type "list",dict:=none,data:=.seq ([]:List zdw).toArray}):=T.keep _ _ _ Io fun b _ o e=>Heap.get?_push_of_some _ e;generalize hs3:({s2 with heap:=s2.heap.push {cls:=.type "list",dict:=none,data:=.seq ([]:List zdw).toArray} }:zdF)=s3 at I3;generalize hH3:upd H2 s2.heap.objs.size (.lst [])=H3 at I3 W3 VT;have eh:s2.heap.push {cls:=.type "list",dict:=none,data:=.seq ([]:List zdw).toArray}=s3.heap:=by rw[<- hs3]
 rw[eh] at VT QQ;refine wpAny_newFunctionEnv (fun x hx=>(fits x hx).1) (by intro y hy;simp at hy) (fun h4 Q0 ZN=>?_) (nZ hf);have kept:∀b o,s3.heap.get? b=some o->h4.get? b=some o:=fun b o e=>ZN.extBut b o (zaD (Heap.lt_size e)) (Heap.get?_push_of_some _ e);have I4:=K3 (own:=own) (tk:=s3.toks+([]:List (Str×zdw)).length) I3 hf hc VT Q0 kept;have fp4:∀b∈fp,uz (kJ X scope own ix s3.heap.objs.size s3 H3 fp) [] H3 b:=fun b hb=>by
  obtain⟨⟨f0,f1,f2',f3,f4,f5⟩,lt⟩:=VT b hb;refine⟨f0,zaD lt,fun z=>?_,.inl hb,fun x c e=>f4 x c (uK uv (fun x c e=>by simp at e) e),fun p hp=>absurd (show p∈([]:List (zdv×Obj))++[] from hp) (by simp)⟩;rcases zah.mp (I3.tj b z) with z |z
  ·exact f1 z
  ·exact f2' z
 have st4:tn 0 h4:=T.keep _ _ _ QQ fun b _ o e=>kept b o e;have loop:=IF (X:=kJ X scope own ix s3.heap.objs.size s3 H3 fp) (iter:=iter) (scope:=scope) (pos:=pos) (R:=compPost (model X.prog X.w) X.A X.xe use Q' (.ref s2.heap.objs.size) s3.heap.objs.size) rY rfl rfl T (he _ _ _ _) (hg _ _ _ _) (ht _ _ _ _) I4 fp4 st4 W3
  (fun τ' H' s' I' q=>by
   obtain⟨J1,J2,J3,J4,J5,J6⟩:=comp_back I3 VT I';obtain⟨m,hm,_⟩:=I'.loc;exact hU _ _ H' s' m J1 q hm J2 J3 J4 J5 J6)
 exact codeAny_compStart_list loop (T.self X.A 0 _ _ _ st4 loop)
theorem dZ(rY:X.calm=true)(hf:kg scope X.env.scope=true)(hc:xM scope X.env.scope X.N ix=true)
 (hi:PI X tg iter wi) (hg:∀C s₀ H₀ ex,PG (kJ X scope own ix C s₀ H₀ ex) tg g) (ht:∀C s₀ H₀ ex,UC (kJ X scope own ix C s₀ H₀ ex) ifs tc) (he:∀C s₀ H₀ ex,PE (kJ X scope own ix C s₀ H₀ ex) elt te)
 (hs:∀x,foldedSetIterable iter X.env x=pure x:=by intro _;rfl):PE X (.ListComp elt [⟨tg,iter,ifs,0⟩] scope pos) (gO wi own.length ix g tc te):=by
 intro pins s σ H Q I h;rw[eval_ListComp];refine Dh (use:=none) rY hf hc hi hg ht he I h (fun D C H' s' m I' q hm n1 n2 n3 n4 n5=>?_) hs;refine⟨m,hm,fun h' sb=>⟨.ref D,H',?_,rfl,q⟩⟩;exact I'.turned (t':=s'.toks) (it:=C) (fun b o hb e=>sb.extBut b o hb e) n1 (Ne.symm (Ne.symm n2)) (.inr n3) n4 n5
theorem GP{i:Nat}{y:Str}{py VU:Pos}(hN:X.N.Nodup)(hiy:X.N[i]?=some y)(hy:Loc X.env.scope y)(rY:X.calm=true)(hf:kg scope X.env.scope=true)(hc:xM scope X.env.scope X.N ix=true)
 (hi:PI X tg iter wi) (hg:∀C s₀ H₀ ex,PG (kJ X scope own ix C s₀ H₀ ex) tg g) (ht:∀C s₀ H₀ ex,UC (kJ X scope own ix C s₀ H₀ ex) ifs tc) (he:∀C s₀ H₀ ex,PE (kJ X scope own ix C s₀ H₀ ex) elt te)
 (ZO:swapsWith (.ListComp elt [⟨tg,iter,ifs,0⟩] scope pos) (some (.Name y py)) VU.line X.env=pure true:=by rfl)
 (hs:∀x,foldedSetIterable iter X.env x=pure x:=by intro _;rfl) (RV:X.fn y=true\/X.env.scope.names.lookup y=some .local:=by first |exact .inl rfl |exact .inr rfl |assumption) :
 PS X (.Assign [.Name y py] (.ListComp elt [⟨tg,iter,ifs,0⟩] scope pos) VU) (Ij (gO wi own.length ix g tc te) (dW i)):=by
 intro pins s σ H D I h;rw[exec_Assign_Name_used _ _ _ _ ZO];refine zdy (wpAny_standAt (zdy ?_));show wpAny _ _ (do let _ <- comprehension (.ListComp elt [⟨tg,iter,ifs,0⟩] scope pos) scope X.env _ (newList []) false (eval iter X.env) (some (assign (.Name y py) X.env))) _ _ s;refine zdy (wpAny_mono (Dh (use:=some (assign (.Name y py) X.env)) (Q':=fun _ s'=>SP X pins D .next s') rY hf hc hi hg ht he I h (fun L C H' s' m I' q hm n1 n2 n3 n4 n5=>?_) hs) (fun _ s' hq=>zdz (zdz hq)) fun _ _ e=>e);show wpAny _ _ (assign (.Name y py) X.env (.ref L)) _ _ _;refine wpAny_assign_Name (AL I' hN hiy hy (v:=.ref L) rfl (fun s2 I2 zqz=>?_) RV);obtain⟨a,sb,ha⟩:=zqz;have hCa:C≠a:=by
  rcases ha with rfl |ha
  ·exact n2
  ·exact fun z=>n4 y a ha z.symm
 refine⟨m,hm.sameBut sb hCa,fun h' sb'=>⟨_,H',?_,q⟩⟩;exact I2.turned (t':=s2.toks) (it:=C) (fun b o hb e=>sb'.extBut b o hb e) n1 n2 (.inr n3) n4 n5
end
inductive Dp where
 |dR |bl (b:Bool) |int (i:Int) |str (x:Str) |tup (l:List Dp) |lst (l:List Dp)
mutual
def Rep (K:zaa) (H:Hp):Dp->V->Prop
 |.dR,v=>v=.dR
 |.bl b,v=>v=.bl b
 |.int i,v=>v=.int i
 |.str x,v=>v=.str x
 |.tup l,v=>∃a xs,v=.ref a/\bQ K H a xs/\aD K H l xs
 |.lst l,v=>∃a xs,v=.ref a/\jc K H a xs/\aD K H l xs
def aD (K:zaa) (H:Hp):List Dp->List V->Prop
 |[],vs=>vs=[]
 |d::ds,vs=>∃v r,vs=v::r/\Rep K H d v/\aD K H ds r
end
mutual
def Dp.deep:Dp->Nat
 |.tup l=>Dp.uO l+1
 |.lst l=>Dp.uO l+1
 |_=>0
def Dp.uO:List Dp->Nat
 |[]=>0
 |d::ds=>max d.deep (Dp.uO ds)
end
theorem aq.bM{K:zaa}{H H':Hp}{a:zdv}{xs:List V}(e:aq H H')(h:bQ K H a xs):bQ K H' a xs:=by
 rcases h with (h |⟨o,h⟩) |h
 ·exact .inl (.inl (e _ _ h))
 ·exact .inl (.inr ⟨o,e _ _ h⟩)
 ·exact .inr h
mutual
theorem Rep.mono{K:zaa}{H H':Hp}(e:aq H H'):∀ {d:Dp} {v:V},Rep K H d v->Rep K H' d v
 |.dR,_,h=>h
 |.bl _,_,h=>h
 |.int _,_,h=>h
 |.str _,_,h=>h
 |.tup l,_,h=>by
  unfold Rep at h ⊢;obtain⟨a,xs,e1,e2,e3⟩:=h;exact⟨a,xs,e1,e.bM e2,aD.mono e e3⟩
 |.lst l,_,h=>by
  unfold Rep at h ⊢;obtain⟨a,xs,e1,e2,e3⟩:=h;exact⟨a,xs,e1,e.seq e2,aD.mono e e3⟩
theorem aD.mono{K:zaa}{H H':Hp}(e:aq H H'):∀ {ds:List Dp} {vs:List V},aD K H ds vs->aD K H' ds vs
 |[],_,h=>h
 |d::ds,_,h=>by
  unfold aD at h ⊢;obtain⟨v,r,e1,e2,e3⟩:=h;exact⟨v,r,e1,Rep.mono e e2,aD.mono e e3⟩
end
theorem aD.length{K:zaa}{H:Hp}:∀ {ds:List Dp} {vs:List V},aD K H ds vs->vs.length=ds.length
 |[],_,h=>by unfold aD at h;rw[h];rfl
 |d::ds,_,h=>by
  unfold aD at h;obtain⟨v,r,e1,_,e3⟩:=h;rw[e1,zap,zap,aD.length e3]
theorem aD.get{K:zaa}{H:Hp}:∀ {ds:List Dp} {vs:List V} {i:Nat} {d:Dp},aD K H ds vs->ds[i]?=some d->∃v,vs[i]?=some v/\Rep K H d v
 |[],_,_,_,_,e=>by simp at e
 |d::ds,_,0,_,h,e=>by
  unfold aD at h;obtain⟨v,r,e1,e2,e3⟩:=h;simp only[zc4,za1.injEq] at e;subst e;exact⟨v,by rw[e1];rfl,e2⟩
 |d::ds,_,i+1,d',h,e=>by
  unfold aD at h;obtain⟨v,r,e1,e2,e3⟩:=h;rw[zcc] at e;obtain⟨v',h1,h2⟩:=aD.get e3 e;exact⟨v',by rw[e1,zcc];exact h1,h2⟩
theorem aD.append{K:zaa}{H:Hp}:∀ {ds es:List Dp} {vs us:List V},aD K H ds vs->aD K H es us->aD K H (ds++es) (vs++us)
 |[],_,_,_,h,h'=>by unfold aD at h;rw[h];exact h'
 |d::ds,_,_,_,h,h'=>by
  unfold aD at h;obtain⟨v,r,e1,e2,e3⟩:=h;rw[e1];show aD K H (d::(ds++_)) (v::(r++_));unfold aD;exact⟨v,_,rfl,e2,aD.append e3 h'⟩
theorem aD.nil{K:zaa}{H:Hp}:aD K H [] []:=by unfold aD;rfl
theorem aD.cons{K:zaa}{H:Hp}{d:Dp}{ds:List Dp}{v:V}{vs:List V}(h:Rep K H d v)(h':aD K H ds vs):aD K H (d::ds) (v::vs):=by unfold aD;exact⟨v,vs,rfl,h,h'⟩
theorem Rep.bE{K:zaa}{H:Hp}{l:List Dp}{v:V}:Rep K H (.tup l) v↔∃a xs,v=.ref a/\bQ K H a xs/\aD K H l xs:=by unfold Rep;exact Iff.rfl
theorem Rep.bN{K:zaa}{H:Hp}{l:List Dp}{v:V}:Rep K H (.lst l) v↔∃a xs,v=.ref a/\jc K H a xs/\aD K H l xs:=by unfold Rep;exact Iff.rfl
theorem Rep.bO{K:zaa}{H:Hp}{i:Int}{v:V}:Rep K H (.int i) v↔v=.int i:=by unfold Rep;exact Iff.rfl
theorem Rep.cF{K:zaa}{H:Hp}{x:Str}{v:V}:Rep K H (.str x) v↔v=.str x:=by unfold Rep;exact Iff.rfl
theorem Rep.kK{K:zaa}{H:Hp}{b:Bool}{v:V}:Rep K H (.bl b) v↔v=.bl b:=by unfold Rep;exact Iff.rfl
theorem Rep.qR{K:zaa}{H:Hp}{v:V}:Rep K H .dR v↔v=.dR:=by unfold Rep;exact Iff.rfl
theorem aD.bZ{K:zaa}{H:Hp}{vs:List V}:aD K H [] vs↔vs=[]:=by unfold aD;exact Iff.rfl
theorem aD.aL{K:zaa}{H:Hp}{d:Dp}{ds:List Dp}{vs:List V}:aD K H (d::ds) vs↔∃v r,vs=v::r/\Rep K H d v/\aD K H ds r:=by conv=>lhs;unfold aD
theorem aq.new{H:Hp}{p:zdv}(h:H p=none)(o:HO):aq H (upd H p o):=fun b u q=>by rw[au (aj q h)];exact q
section
variable{X:Cx}{pins:List (zdv×Obj)}{σ:St}{H:Hp}{s:zdF}
theorem all_true(n:Nat):(zaB n).all (fun _=>true)=true:=by simp
mutual
theorem OH(I:Inv X pins σ H s):∀ {d:Dp} {v u:V} {a b:zdw} {A:zdG},Rep X.K H d v->Rep X.K H d u->RelV v a->RelV u b->A.units+d.deep<cLine->SeqAt.EqAt A s a b true
 |.dR,v,u,a,b,A,h1,h2,r1,r2,_=>by
  rw[Rep.qR] at h1 h2;subst h1;subst h2;cases (show a=Value.none from r1);cases (show b=Value.none from r2);exact .same _
 |.bl c,v,u,a,b,A,h1,h2,r1,r2,_=>by
  rw[Rep.kK] at h1 h2;subst h1;subst h2;cases (show a=Value.bool c from r1);cases (show b=Value.bool c from r2);exact .same _
 |.int i,v,u,a,b,A,h1,h2,r1,r2,_=>by
  rw[Rep.bO] at h1 h2;subst h1;subst h2;obtain⟨t,rfl⟩:=(show ∃t,a=Value.int i t from r1)
  obtain⟨t',rfl⟩:=(show ∃t,b=Value.int i t from r2)
  have:=SeqAt.EqAt.int_int (A:=A) (s:=s) i t i t';rw[beq_self_eq_true] at this;exact this
 |.str x,v,u,a,b,A,h1,h2,r1,r2,_=>by
  rw[Rep.cF] at h1 h2;subst h1;subst h2;obtain⟨t,rfl⟩:=(show ∃t,a=Value.str x t from r1)
  obtain⟨t',rfl⟩:=(show ∃t,b=Value.str x t from r2)
  have:=SeqAt.EqAt.str_str (A:=A) (s:=s) x t x t';rw[beq_self_eq_true] at this;exact this
 |.tup l,v,u,a,b,A,h1,h2,r1,r2,hu=>by
  rw[Rep.bE] at h1 h2;obtain⟨p,xs,rfl,q1,w1⟩:=h1;obtain⟨p',ZP,rfl,q2,w2⟩:=h2;cases (show a=Value.ref p from r1);cases (show b=Value.ref p' from r2);by_cases e:p=p'
  ·subst e;exact .same _
  ·obtain⟨bq,v1,t1,_⟩:=I.tuple q1;obtain⟨its',v2,t2,_⟩:=I.tuple q2;unfold Dp.deep at hu;have items:=pR I w1 w2 v1 v2 (A:=A.in1) (by show A.units+1+_<_;lia);have n1:bq.length=its'.length:=by rw[<- v1.length,<- v2.length,w1.length,w2.length]
   have q:=SeqAt.RcAt.tuples (A:=A) (s:=s) (e:=fun _=>true) t1 t2 (by lia) (fun j h1 h2=>items j bq[j] its'[j] (by simp at h1;simp[h1]) (by simp at h2;simp[h2]));rw[all_true] at q;refine .of_refs e ?_;simpa[n1] using q
 |.lst l,v,u,a,b,A,h1,h2,r1,r2,hu=>by
  rw[Rep.bN] at h1 h2;obtain⟨p,xs,rfl,q1,w1⟩:=h1;obtain⟨p',ZP,rfl,q2,w2⟩:=h2;cases (show a=Value.ref p from r1);cases (show b=Value.ref p' from r2);by_cases e:p=p'
  ·subst e;exact .same _
  ·obtain⟨bq,v1,t1,_⟩:=I.list q1;obtain⟨its',v2,t2,_⟩:=I.list q2;unfold Dp.deep at hu;have items:=pR I w1 w2 v1 v2 (A:=A.in1) (by show A.units+1+_<_;lia);have n1:bq.length=its'.length:=by rw[<- v1.length,<- v2.length,w1.length,w2.length]
   have q:=SeqAt.RcAt.lists (A:=A) (s:=s) (e:=fun _=>true) t1.isList t2.isList (by simpa using n1) (by lia) (fun j h1 h2=>items j bq[j] its'[j] (by simp at h1;simp[h1]) (by simp at h2;simp[h2]));rw[all_true] at q;exact .of_refs e q
theorem pR(I:Inv X pins σ H s):∀ {ds:List Dp} {vs us:List V} {as bs:List zdw} {A:zdG},aD X.K H ds vs->aD X.K H ds us->Vals vs as->Vals us bs->A.units+Dp.uO ds<cLine->
 ∀(j:Nat) (a b:zdw),as[j]?=some a->bs[j]?=some b->SeqAt.EqAt A s a b true
 |[],_,_,_,_,A,h1,h2,r1,r2,_,j,a,b,e1,e2=>by
  rw[aD.bZ] at h1;subst h1;cases r1;simp at e1
 |d::ds,_,_,_,_,A,h1,h2,r1,r2,hu,j,a,b,e1,e2=>by
  rw[aD.aL] at h1 h2;obtain⟨v,r,rfl,x1,y1⟩:=h1;obtain⟨v',r',rfl,x2,y2⟩:=h2;unfold Dp.uO at hu;cases r1 with
  |cons z1 t1=>
   cases r2 with
   |cons z2 t2=>
    cases j with
    |zero=>
     simp only[zc4,za1.injEq] at e1 e2;subst e1;subst e2;exact OH I x1 x2 z1 z2 (by lia)
    |succ j=>
     rw[zcc] at e1 e2;exact pR I y1 y2 t1 t2 (by lia) j a b e1 e2
end
end
section
variable{X:Cx}
def VV (i j:Int):Prop:=i.natAbs<2 ^ 4000/\j.natAbs<2 ^ 4000
theorem bits_le{i:Int}(h:i.natAbs<2 ^ 4000):Builtin.Int.intBits i<=2 ^ 20:=zaw (intBits_le h) (by decide)
theorem OI:rD X (binaryOp .Mult) (rI VV fun i j=>.int (i*j)):=Vw fun _ _ _ _ _ _ _ hc q=>mul_int q (IntMulOk.of_bits (bits_le hc.1) (bits_le hc.2))
end
structure cV(K:zaa)(mg:Str->Option zdw)(x:Str)(st:Stmt)(ps:List Str)(f:zdv)(fd:zdE):Prop where
 F:CL K x x st f fd
 b:Binds K fd ps []
 m:mg x=some (.ref f)
end L2
namespace L2
open PySem PySem.Spec PyProof.Rows
theorem K4{g:Int->Int->V}{i j:Int}{H:Hp}{Q:VK}:Ot g (.int i) (.int j) H Q↔Q (g i j) H:=⟨fun ⟨_,_,e1,e2,q⟩=>by cases e1;cases e2;exact q,fun q=>⟨_,_,rfl,rfl,q⟩⟩
theorem ZQ{C:Int->Int->Prop}{g:Int->Int->V}{i j:Int}{H:Hp}{Q:VK}:rI C g (.int i) (.int j) H Q↔C i j/\Q (g i j) H:=⟨fun ⟨_,_,e1,e2,c,q⟩=>by cases e1;cases e2;exact⟨c,q⟩,fun q=>⟨_,_,rfl,rfl,q⟩⟩
theorem K5{a:V}{r:St}{H:Hp}{Q:VK}:(fN 0 (some a::r) H Q)=(Q a H):=rfl
theorem K6{a:Option V}{r:St}{H:Hp}{Q:VK}:(fN 1 (a::r) H Q)=(fN 0 r H Q):=rfl
theorem K7{a:Option V}{r:St}{H:Hp}{Q:VK}:(fN 2 (a::r) H Q)=(fN 1 r H Q):=rfl
theorem K8{a:Option V}{r:St}{H:Hp}{Q:VK}:(fN 3 (a::r) H Q)=(fN 2 r H Q):=rfl
theorem K9{a:Option V}{r:St}{H:Hp}{Q:VK}:(fN 4 (a::r) H Q)=(fN 3 r H Q):=rfl
theorem La{a:Option V}{r:St}{H:Hp}{Q:VK}:(fN 5 (a::r) H Q)=(fN 4 r H Q):=rfl
theorem Lb{a:Option V}{r:St}{H:Hp}{Q:VK}:(fN 6 (a::r) H Q)=(fN 5 r H Q):=rfl
theorem Lc{a:Option V}{r:St}{H:Hp}{Q:VK}:(fN 7 (a::r) H Q)=(fN 6 r H Q):=rfl
theorem Ld{a:Option V}{r:St}{H:Hp}{Q:VK}:(fN 8 (a::r) H Q)=(fN 7 r H Q):=rfl
theorem Le{a:Option V}{r:St}{H:Hp}{Q:VK}:(fN 9 (a::r) H Q)=(fN 8 r H Q):=rfl
theorem VW{v:V}{σ:St}{H:Hp}{Q:VK}:(tC v σ H Q)=(Q v H):=rfl
theorem Q1{r:R2}{ta tb:TE}{σ:St}{H:Hp}{Q:VK}:(Vv r ta tb σ H Q)=(ta σ H fun x H1=>tb σ H1 fun y H2=>r x y H2 Q):=rfl
theorem VX{b:Bool}{p:Bool->Prop}:(∃k,V.bl b=.bl k/\p k)↔p b:=⟨fun ⟨_,e,q⟩=>by cases e;exact q,fun q=>⟨_,rfl,q⟩⟩
theorem Sv{b:Int}{p:Int->Prop}:(∃k,V.int b=.int k/\p k)↔p b:=⟨fun ⟨_,e,q⟩=>by cases e;exact q,fun q=>⟨_,rfl,q⟩⟩
theorem Sw{b:zdv}{p:zdv->Prop}:(∃k,V.ref b=.ref k/\p k)↔p b:=⟨fun ⟨_,e,q⟩=>by cases e;exact q,fun q=>⟨_,rfl,q⟩⟩
theorem GQ{t:TE}{σ:St}{H:Hp}{Q:Bool->Hp->Prop}:(C3 t σ H Q)=(t σ H fun x H'=>∃k,x=.bl k/\Q k H'):=rfl
theorem Q2{x y:V}{H:Hp}{Q:VK}:(rEq x y H Q)=(Iq x y=true/\Q (.bl (decide (x=y))) H):=rfl
theorem Q3{x y:V}{H:Hp}{Q:VK}:(rNe x y H Q)=(Iq x y=true/\Q (.bl (!decide (x=y))) H):=rfl
theorem Sx{i j:Int}:(V.int i=V.int j)=(i=j):=by simp
theorem Sy{i j:Str}:(V.str i=V.str j)=(i=j):=by simp
theorem OJ{c:Prop}[Decidable c]{A B:Prop}:(if decide c=true then A else B)↔if c then A else B:=by simp
theorem Lf{c:Prop}[Decidable c]{A B:Prop}:(if (!decide c)=true then A else B)↔if c then B else A:=by by_cases h:c<;>simp[h]
theorem aJ{K:zaa}{p:zdv}{i:Int}{H:Hp}{Q:VK}{xs:List V}{v:V}(h:bQ K H p xs)(hv:NZ xs i=some v)(q:Q v H):Sk K (.ref p) (.int i) H Q:=⟨p,xs,i,v,rfl,rfl,h,hv,q⟩
theorem eY{K:zaa}{p:zdv}{i:Int}{H:Hp}{Q:VK}{xs:List V}{v:V}(h:jc K H p xs)(hv:NZ xs i=some v)(q:Q v H):VL K (.ref p) (.int i) H Q:=⟨p,xs,i,v,rfl,rfl,h,hv,q⟩
section
variable{P:zdH}{w:zdx}{K:zaa}{mg:Str->Option zdw}{base:Heap}
theorem CL.rE{x qual:Str}{st:Stmt}{f:zdv}{fd:zdE}{N ps:List Str}{k:Nat}{sp:Sp}(F:CL K x qual st f fd)(S:aT N ps (az st))(len:∀vs H Q E,sp vs H Q E->vs.length=ps.length)
 (pK:∀(eO:zdw) (A:zdG) (outer:List Env) (s:zdF) (H:Hp) (vs:List V) (Q:VK) (E:XK),gB k (A.deeper (envOfC qual (az st) s.heap.objs.size f eO))->sp vs H Q E->
  ∃t σ,CZ (ie gD P w K mg base N qual (az st) f eO A outer s H E).Vr (cS st) t/\L2.start N vs=σ/\t {nx:=fun _ H'=>Q .dR H',rt:=Q} σ H):bD P w K mg base gD (k+1) f fd ps sp:=
 F.ok S len fun eO A outer s H vs Q E hr h=>let ⟨t,_,h1,h2,h3⟩:=pK eO A outer s H vs Q E hr h;⟨t,h1,by rw[h2];exact h3⟩
end
theorem GR{sp:Sp}{zU:List V}{E:XK}{t:TA}{σ:St}{H:Hp}{Q:VK}:(C6 sp zU E t σ H Q)=(t σ H fun vs H1=>sp (vs++zU) H1 Q E):=rfl
theorem GS{ta:TE}{tr:TA}{σ:St}{H:Hp}{Q:List V->Hp->Prop}:(yg ta tr σ H Q)=(ta σ H fun x H1=>tr σ H1 fun xs H2=>Q (x::xs) H2):=rfl
theorem Lg{σ:St}{H:Hp}{Q:List V->Hp->Prop}:(KG σ H Q)=(Q [] H):=rfl
theorem Lh{t:TA}{σ:St}{H:Hp}{Q:VK}:(VE t σ H Q)=(t σ H fun xs H1=>xs.length<=zdD/\∀p,H1 p=none->Q (.ref p) (upd H1 p (.tup xs))):=rfl
theorem Li{t:TA}{σ:St}{H:Hp}{Q:VK}:(VF t σ H Q)=(t σ H fun xs H1=>xs.length<=zdD/\∀p,H1 p=none->Q (.ref p) (upd H1 p (.lst xs))):=rfl
theorem OK{n:Nat}(h:n<=1000):n<=zdD:=zcs (IC h)
theorem aq.BD{H H1:Hp}(s:aq H H1){p:zdv}(h:H1 p=none)(o:HO):aq H (upd H1 p o):=s.trans (aq.new h o)
theorem Rep.new{K:zaa}{H:Hp}{p:zdv}{vs:List V}{ds:List Dp}(h:H p=none)(r:aD K H ds vs):Rep K (upd H p (.tup vs)) (.tup ds) (.ref p):=Rep.bE.mpr ⟨p,vs,rfl,.of ah,r.mono (aq.new h _)⟩
theorem Rep.Lj{K:zaa}{H:Hp}{p:zdv}{vs:List V}{ds:List Dp}(h:H p=none)(r:aD K H ds vs):Rep K (upd H p (.lst vs)) (.lst ds) (.ref p):=Rep.bN.mpr ⟨p,vs,rfl,.of ah,r.mono (aq.new h _)⟩
theorem OL{i j:Int}:Iq (.int i) (.int j)=true:=rfl
theorem OM{i j:Str}:Iq (.str i) (.str j)=true:=rfl
theorem ON{n:Nat}(h:n<=1000):(n<=zdD)=True:=eq_true (OK h)
theorem Lk{i j:Int}:(Vy i j)=(0<j/\j<1073741824):=rfl
theorem Ll{CX:CK}{P:zdH}{w:zdx}{K:zaa}{mg:Str->Option zdw}{base:Heap}{N:List Str}{qual:Str}{scope:Scope}{f:zdv}{cd:zdw}{A:zdG}{outer:List Env}{s:zdF}{H:Hp}{E:XK}:(ie CX P w K mg base N qual scope f cd A outer s H E).K=K:=rfl
theorem GU{X:Cx}{scope:Scope}{own:List Str}{ix:List Nat}{C:zdv}{s₀:zdF}{H₀:Hp}{ex:List zdv}:(kJ X scope own ix C s₀ H₀ ex).K=X.K:=rfl
theorem mulR{z b:Int}(h1 : -18446744073709551616<b)(h2:b<18446744073709551616):Ip z b:=.inr ⟨h1,h2⟩
theorem mulL{z b:Int}(h1 : -18446744073709551616<z)(h2:z<18446744073709551616):Ip z b:=.inl ⟨h1,h2⟩
theorem kh{x:Str}{pos:Pos}:xJ (.Name x pos):=fun _ _=>rfl
theorem av{c:Const}{k:Nat}{pos:Pos}:xJ (.Constant c k pos):=fun _ _=>rfl
theorem OO{a:Expr}{x:Str}{pos:Pos}:xJ (.Attribute a x pos):=fun _ _=>rfl
theorem mx{a b:Expr}{op:Operator}{pos:Pos}{es:List Expr}{env:Env}:zdB (.BinOp a op b pos::es) env=(false,eval (.BinOp a op b pos) env)::zdB es env:=rfl
theorem aH{x:Str}{pos:Pos}{es:List Expr}{env:Env}:zdB (.Name x pos::es) env=(false,eval (.Name x pos) env)::zdB es env:=rfl
theorem ax{c:Const}{k:Nat}{pos:Pos}{es:List Expr}{env:Env}:zdB (.Constant c k pos::es) env=(false,eval (.Constant c k pos) env)::zdB es env:=rfl
theorem bF{a b:Expr}{pos:Pos}{es:List Expr}{env:Env}:zdB (.Subscript a b pos::es) env=(false,eval (.Subscript a b pos) env)::zdB es env:=rfl
theorem bJ{f:Expr}{as:List Expr}{ks:List Keyword}{pos:Pos}{es:List Expr}{env:Env}:zdB (.Call f as ks pos::es) env=(false,eval (.Call f as ks pos) env)::zdB es env:=rfl
theorem VY{a:Expr}{op:UnaryOp}{pos:Pos}{es:List Expr}{env:Env}:zdB (.UnaryOp op a pos::es) env=(false,eval (.UnaryOp op a pos) env)::zdB es env:=rfl
theorem og{a:Expr}{x:Str}{pos:Pos}{es:List Expr}{env:Env}:zdB (.Attribute a x pos::es) env=(false,eval (.Attribute a x pos) env)::zdB es env:=rfl
theorem pS{as:List Expr}{pos:Pos}{es:List Expr}{env:Env}:zdB (.List as pos::es) env=(false,eval (.List as pos) env)::zdB es env:=rfl
theorem aV{as:List Expr}{k}{pos:Pos}{es:List Expr}{env:Env}:zdB (.Tuple as k pos::es) env=(false,eval (.Tuple as k pos) env)::zdB es env:=rfl
theorem Sz{a:Expr}{ops:List CmpOp}{cs:List Expr}{pos:Pos}{es:List Expr}{env:Env}:zdB (.Compare a ops cs pos::es) env=(false,eval (.Compare a ops cs pos) env)::zdB es env:=rfl
theorem ki{a:Expr}{gs:List Comprehension}{sc:Scope}{pos:Pos}{es:List Expr}{env:Env}:zdB (.ListComp a gs sc pos::es) env=(false,eval (.ListComp a gs sc pos) env)::zdB es env:=rfl
def Lm:Expr->Option V
 |.Constant (.int i) _ _=>some (.int i)
 |.Constant (.str x) _ _=>some (.str x)
 |.Constant (.bool b) _ _=>some (.bl b)
 |.Constant .none _ _=>some .dR
 |_=>none
def Ln (vs:List V):TA:=fun _ H Q=>Q vs H
theorem bC{X:Cx}:∀ {es:List Expr} {vs:List V},es.map Lm=vs.map some->PA X es (Ln vs)
 |[],[],_=>ag
 |[],_::_,h=>by cases h
 |_::_,[],h=>by cases h
 |e::es,v::vs,h=>by
  rw[zaq,zaq] at h
  injection h with h1 h2
  have ih:=bC (X:=X) h2;have one:∀ {e:Expr} {v:V},PE X e (tC v)->(zdB (e::es) X.env=(false,eval e X.env)::zdB es X.env)->PA X (e::es) (Ln (v::vs)):=fun he hs pos pins s σ H Q I q=>ae he ih hs pos pins s σ H Q I q;unfold Lm at h1;split at h1
  ·cases h1;exact one ao ax
  ·cases h1;exact one aN ax
  ·cases h1;exact one rU ax
  ·cases h1;exact one kH ax
  ·cases h1
theorem GV{vs:List V}{σ:St}{H:Hp}{Q:List V->Hp->Prop}:(Ln vs σ H Q)=(Q vs H):=rfl
theorem GW{td ty:TE}{σ:St}{H:Hp}{Q:VK}:(QY td ty σ H Q)=(td σ H fun x H1=>ty σ H1 fun y H2=>∃a v,x=.ref a/\xq H2 a y (some v)/\Q v H2):=rfl
theorem GX{td ty tv:TE}{D:Ends}{σ:St}{H:Hp}:(QZ td ty tv D σ H)=(tv σ H fun v H1=>td σ H1 fun x H2=>ty σ H2 fun y H3=>∃a H4,x=.ref a/\Ss H3 a y v H4/\D.nx σ H4):=rfl
theorem Q4{r:List V->Hp->VK->Prop}{t:TA}{σ:St}{H:Hp}{Q:VK}:(ZD r t σ H Q)=(t σ H fun vs H1=>r vs H1 Q):=rfl
theorem VZ{t:TE}{σ:St}{H:Hp}{Q:Bool->Hp->Prop}:(tB t σ H Q)=(t σ H fun x H1=>∃c,x=.bl c/\Q c H1):=rfl
theorem Lo{t:TT}{σ:St}{H:Hp}{Q:Bool->Hp->Prop}:(Vp t σ H Q)=(t σ H fun c H1=>Q (!c) H1):=rfl
theorem xq.s{H:Hp}{a:zdv}{kvs:List (Key×V)}{x:Str}{v:V}(e:H a=some (.dK kvs))(h:bL kvs (Sum.inr x)=some v):xq H a (.str x) (some v):=by
 have:=xq.k (k:=Sum.inr x) e;rw[h] at this;exact this
end L2
namespace PM
abbrev W:=List Nat
inductive Tr where
 |num (n:Int) |box (x:W) |bin (o:W) (l r:Tr)
 deriving DecidableEq
end PM
namespace L2
open PySem PySem.Spec PyProof.Rows
structure ZR(P:zdH)(w:zdx)(outer:List Env)(H:Hp)(s:zdF)(E:XK)(x:zdv)(s':zdF)(cls a0:zdw)(B:Heap)(H':Hp):Prop where
 fl:Heap.FlyingW B outer x cls a0 s'.heap
 os:s'.os=s.os
 bare:AllBare s'.gens
 un:Un (rB outer) [] H H' s.heap s'.heap
 bX:mq P w H' s'.heap
 old:∀b o,s.heap.get? b=some o->b ∉ rB outer->∃o',B.get? b=some o'
 Ka:∀b u,H' b=some u->∃o,B.get? b=some o
 want:E cls none H'
def oZ (P:zdH) (w:zdx):CK:=fun outer H s E e s'=>∃x cls a0 B H',e=.ref x/\ZR P w outer H s E x s' cls a0 B H'
section
variable{P:zdH}{w:zdx}{H H':Hp}{h h' B:Heap}{a:zdv}{o:HO}
theorem du.there(x:du P w H h a o):∃ob,h.get? a=some ob:=by
 induction o with
 |lst xs=>obtain⟨_,_,_,_,e⟩:=x;exact⟨_,e⟩
 |tup xs=>obtain⟨_,_,_,_,e,_⟩:=x;exact⟨_,e⟩
 |dK kvs=>obtain⟨_,_,_,_,o,_,_,e,_⟩:=x;exact⟨_,e⟩
 |dT kvs=>obtain⟨_,_,_,_,o,_,_,e,_⟩:=x;exact⟨_,e⟩
 |set S n=>obtain⟨o,_,_,_,e,_⟩:=x;exact⟨_,e⟩
 |ins C dx fs=>obtain⟨_,_,_,e,_⟩:=x;exact⟨_,e⟩
 |own y=>exact x
 |xd fs=>obtain⟨_,⟨_,_,_,e,_⟩,_⟩:=x;exact⟨_,e⟩
 |X5 lo hi=>obtain⟨_,_,_,e⟩:=x;exact⟨_,e⟩
 |Kn ob u=>obtain⟨e,_⟩:=x;exact⟨_,e⟩
 |nT ps=>exact⟨_,(show h.get? a=some _ from x)⟩
 |met f y=>exact⟨_,(show h.get? a=some _ from x)⟩
 |ext φ=>obtain⟨_,e,_⟩:=x;exact e
theorem mq.part(x:mq P w H h)(st:B.StaysIn h)(C2:B.StaysIn h')(t:∀b u,H b=some u->∃o,B.get? b=some o):mq P w H h':=fun a o e=>by
 refine(x a o e).sZ (fun c v hc q=>?_) (fun _ q=>q) fun _ _ q=>q;have tr:∃u,H c=some u:=by
  rcases hc with rfl |hc
  ·exact⟨_,e⟩
  ·exact⟨_,hc⟩
 obtain⟨u,hu⟩:=tr;obtain⟨o',rC⟩:=t c u hu;have:=st c o' rC;rw[q] at this;cases this;exact C2 c _ rC
end
section
variable{X:Cx}{pins:List (zdv×Obj)}{σ:St}{H H':Hp}{s s':zdF}{h':Heap}{E:XK}{x:zdv}{cls a0:zdw}{B:Heap}
theorem ZR.move(F:ZR X.prog X.w X.stack H s E x s' cls a0 B H')(I:Inv X pins σ H s)(st:B.StaysIn h')(up:s'.heap.UpToSlots h'):Un (rB X.stack) [] H H' s.heap h'/\mq X.prog X.w H' h':=by
 have fr:∀b∈rB X.stack,∃o,s.heap.get? b=some o/\∀vs,o.data≠.fields vs:=fun b hb=>(I.stack.mem hb).2;have slot:∀b o,s.heap.get? b=some o->H b=none->b∈rB X.stack->∃sl,h'.get? b=some {o with slots:=sl}:=fun b o e n hb=>by
  obtain⟨sl,e1⟩:=F.un.slot b o e n hb (by simp);obtain⟨o',rC,hd⟩:=fr b hb;rw[e] at rC;cases rC;obtain⟨Vm,e2⟩:=up b _ e1 hd;exact⟨Vm,e2⟩
 refine⟨⟨fun b o e n hb _=>?_,fun b o e n hb _=>slot b o e n hb,fun b o e n hx=>F.un.free b o e n hx,fun b o e _=>?_,F.un.pH,F.un.pj,F.un.pk⟩,F.bX.part F.fl.1 st F.Ka⟩
 ·obtain⟨o',rC⟩:=F.old b o e hb;have e1:=F.un.keep b o e n hb (by simp);have e2:=F.fl.1 b o' rC;rw[e1] at e2;cases e2;exact st b _ rC
 ·by_cases hb:b∈rB X.stack
  ·obtain⟨sl,e1⟩:=slot b o e (I.ur b hb) hb;exact⟨_,e1⟩
  ·obtain⟨o',rC⟩:=F.old b o e hb;exact⟨o',st b o' rC⟩
theorem Inv.Q5(I:Inv X pins σ H s)(hex:X.ex=[])(u:Un (rB X.stack) [] H H' s.heap h'):Un X.fs [] X.H₀ H' X.s₀.heap h':=by
 have nx:∀b,b ∉ X.ex:=fun b=>by rw[hex];simp
 have X6:∀b o,X.s₀.heap.get? b=some o->b≠X.env.locals:=fun b o e=>zaD (zaz (Heap.lt_size e) I.ok.above);refine⟨fun b o q n hb _=>?_,fun b o q n hb _=>?_,fun b o q n _=>?_,fun b o q _=>?_,fun b xs q=>u.pH b xs (I.base.pH b xs q),fun b ob xs q=>u.pj b ob xs (I.base.pj b ob xs q),fun b ps q=>?_⟩
 ·exact u.keep b o (I.base.keep b o q n hb (nx b)) (I.base.free b o q n (nx b)) (fun z=>(zah.mp (I.tj b z)).elim (X6 b o q) hb) (by simp)
 ·obtain⟨sl,e1⟩:=I.base.slot b o q n hb (nx b);obtain⟨Vm,e2⟩:=u.any e1 (I.base.free b o q n (nx b)) (by simp);exact⟨Vm,e2⟩
 ·obtain⟨o',e1⟩:=I.base.there b o q (nx b);exact u.free b o' e1 (I.base.free b o q n (nx b)) (by simp)
 ·obtain⟨o',e1⟩:=I.base.there b o q (nx b);exact u.there b o' e1 (by simp)
 ·obtain⟨m1,e1⟩:=I.base.pk b ps q;obtain⟨m2,e2⟩:=u.pk b _ e1;exact⟨m1++m2,by rw[e2,Array.append_assoc]⟩
theorem Inv.Lp(I:Inv X pins σ H s)(hex:X.ex=[])(old:∀b o,s.heap.get? b=some o->b ∉ rB X.stack->∃o',B.get? b=some o'):∀b o,X.s₀.heap.get? b=some o->b ∉ X.fs->∃o',B.get? b=some o':=fun b o e hb=>by
 obtain⟨o',e1⟩:=I.base.there b o e (by rw[hex];simp);exact old b o' e1 fun z=>(zah.mp (I.tj b z)).elim (zaD (zaz (Heap.lt_size e) I.ok.above)) hb
end
section
variable{P:zdH}{w:zdx}{K:zaa}{mg:Str->Option zdw}{base:Heap}{N:List Str}{qual:Str}{scope:Scope}{f:zdv}{cd:zdw}{A:zdG}{outer:List Env}{s₀:zdF}{H₀:Hp}{E:XK}
theorem Di:Passes (oZ P w) (ie (oZ P w) P w K mg base N qual scope f cd A outer s₀ H₀ E) E:=by
 intro pins σ H s e s' I h;obtain⟨x,cls,a0,B,H',rfl,F⟩:=h;show wpAny _ _ (leaving _ _) _ _ _;refine wpAny_leaves_onW I.ok.frames rfl F.fl fun h' fl up=>?_;obtain⟨u,bX⟩:=F.move I fl.1 up;exact⟨x,cls,a0,B,H',rfl,fl,F.os.trans I.os,F.bare,I.Q5 rfl u,bX,I.Lp rfl F.old,F.Ka,F.want⟩
def Q6 (X:Cx) (E:XK):Prop:=∀(pins:List (zdv×Obj)) (σ:St) (H:Hp) (s:zdF) (h1:Heap) (x:zdv) (cls:zdw) (vs:List zdw),Inv X pins σ H s->Heap.MadeExcOf s.heap h1 x cls vs->E cls none H->X.xe (.ref x) {s with heap:=h1}
theorem SA:Q6 (ie (oZ P w) P w K mg base N qual scope f cd A outer s₀ H₀ E) E:=by
 intro pins σ H s h1 x cls vs I hx want;have OP:∀env∈(ie (oZ P w) P w K mg base N qual scope f cd A outer s₀ H₀ E).stack,∀a,env.frame=some a->a∈rB (ie (oZ P w) P w K mg base N qual scope f cd A outer s₀ H₀ E).stack:=fun env he a hb=>zcJ.mpr ⟨env,he,hb⟩;show wpAny _ _ (leaving _ _) _ _ _;refine wpAny_leaves_madeW (base:=zcz s.heap (rB (ie (oZ P w) P w K mg base N qual scope f cd A outer s₀ H₀ E).stack)) I.ok.frames rfl (fun b o q=>zcM _ q) (PySem.W.funFrames_hide I.stack OP) hx fun h' t fl _ _ up=>?_;have Yf:∀b o,s.heap.get? b=some o->b ∉ rB (ie (oZ P w) P w K mg base N qual scope f cd A outer s₀ H₀ E).stack->(zcz s.heap (rB (ie (oZ P w) P w K mg base N qual scope f cd A outer s₀ H₀ E).stack)).get? b=some o:=fun b o e hb=>zdp _ e hb;have slot:∀b o,s.heap.get? b=some o->b∈rB (ie (oZ P w) P w K mg base N qual scope f cd A outer s₀ H₀ E).stack->∃sl,h'.get? b=some {o with slots:=sl}:=fun b o e hb=>by
  obtain⟨o',rC,hd⟩:=(I.stack.mem hb).2;rw[e] at rC;cases rC;exact up b o (hx.keeps b o e) hd
 have Ka:∀b u,H b=some u->∃o,(zcz s.heap (rB (ie (oZ P w) P w K mg base N qual scope f cd A outer s₀ H₀ E).stack)).get? b=some o:=fun b u e=>by
  obtain⟨o,ho⟩:=(I.bX b u e).there;refine⟨o,Yf b o ho fun z=>?_⟩;rw[I.ur b z] at e;cases e
 have u:Un (rB (ie (oZ P w) P w K mg base N qual scope f cd A outer s₀ H₀ E).stack) [] H H s.heap h':=by
  refine⟨fun b o e _ hb _=>fl.1 b o (Yf b o e hb),fun b o e _ hb _=>slot b o e hb,fun _ _ _ n _=>n,fun b o e _=>?_,fun _ _ q=>q,fun _ _ _ q=>q,fun _ ps q=>⟨#[],by rw[q];simp⟩⟩;by_cases hb:b∈rB (ie (oZ P w) P w K mg base N qual scope f cd A outer s₀ H₀ E).stack
  ·obtain⟨sl,e1⟩:=slot b o e hb;exact⟨_,e1⟩
  ·exact⟨o,fl.1 b o (Yf b o e hb)⟩
 exact⟨x,cls,_,_,H,rfl,fl,I.os,I.bare,I.Q5 rfl u,I.bX.part (fun b o q=>zcM _ q) fl.1 Ka,I.Lp rfl fun b o e hb=>⟨o,Yf b o e hb⟩,Ka,want⟩
theorem IG:PassesOwn (model P w) (ie (oZ P w) P w K mg base N qual scope f cd A outer s₀ H₀ E).A (ie (oZ P w) P w K mg base N qual scope f cd A outer s₀ H₀ E).env (ie (oZ P w) P w K mg base N qual scope f cd A outer s₀ H₀ E).xe:=PassesOwn.leaving
end
structure OQ(K:zaa)(C:zdv):Prop where
 q:zdm K C [.type "ValueError",.type "Exception",.type "BaseException",.type "object"] "ValueError.__new__"=true
theorem OQ.obj{K:zaa}{C:zdv}{h:Heap}(c:OQ K C)(X:K.In h):∃bm N nm q bs hdct sn sub ab col dd k0 k1 k2 k3 k5 mN,h.get? C=some (excClassObj nm q C N bs bm hdct sn sub ab col dd k0 k1 k2 k3 k5 "ValueError.__new__")/\h.Ns N mN/\mN "__init__"=none/\
 OwnTail h [.type "ValueError",.type "Exception",.type "BaseException",.type "object"] bm:=by
 have q:=c.q;unfold zdm at q;split at q
 ·rename_i dd cd sl ho;split at q
  ·rename_i C' bm k0 k1 k2 k3 n k5 hm hs;simp only[zbh,beq_iff_eq,Bool.not_eq_true'] at q;obtain⟨⟨⟨⟨⟨rfl,rfl⟩,V0⟩,ht⟩,bX⟩,Yg⟩:=q;obtain⟨nm,bs,mro,ns,qn,hd,sn,sub,ab,col,del⟩:=cd;dsimp only at hm V0 bX Yg;subst hm V0;have hsl:sl = #[k0,k1,k2,k3,some (.builtin "ValueError.__new__"),k5]:=by
    obtain⟨l⟩:=sl;simp only at hs;rw[hs]
   subst hsl;exact⟨bm,ns,nm,qn,bs,hd,sn,sub,ab,col,dd,k0,k1,k2,k3,k5,_,X _ _ ho,.of_isNs (PySem.W.isNs_of_in X bX),PySem.W.nsMap_none_of_in X bX Yg,PySem.W.tail_of_in X ht⟩
  ·cases q
 ·cases q
def SD (C:zdv) (E:XK) (ta:TA):TS:=fun _ σ H=>ta σ H fun vs H1=>vs.length<=zdD/\E (.ref C) none H1
section
variable{X:Cx}{C:zdv}{E:XK}{x:Str}{np gX pos:Pos}{e:Expr}{es:List Expr}{ta:TA}
theorem Lq(fl:Q6 X E)(c:OQ X.K C)(hg:Gl X x)(hm:X.mg x=some (.ref C))(rY:X.calm=true)(ha:PA X (e::es) ta)(E7:(x==("__debug__":Str))=false:=by decide)
 (he:zdB (e::es) X.env=(false,eval e X.env)::zdB es X.env:=by rfl) (zV:(backTo gX (zdB es X.env)).any (·.1)=false:=by rfl) :
 PS X (.Raise (some (.Call (.Name x np) (e::es) [] gX)) none pos) (SD C E ta):=by
 intro pins s σ H D I h;obtain⟨bm,N,nm,q,bs,hdct,sn,sub,ab,col,dd,k0,k1,k2,k3,k5,mN,hC,hN,Yg,T⟩:=c.obj I.ok.mod.RU;refine wpAny_Raise_call_subT (C:=C) (nm:=nm) (q:=q) (N:=N) (bs:=bs) (bm:=bm) (hdct:=hdct) (sn:=sn) (sub:=sub) (ab:=ab) (col:=col) (dd:=dd) (k0:=k0) (k1:=k1) (k2:=k2) (k3:=k3) (k5:=k5)
  PySem.F.excBase_ValueError (mN:=mN) (T.hasType PySem.F.excBase_ValueError.hasBase) (I.ok.hd rY) (by rw[he];show (false ||(backTo gX (zdB es X.env)).any (·.1))=false;rw[zV];rfl) Yg (nU I hg hm ⟨rfl,?_⟩ E7)
 have ha':=ha gX pins s σ H _ I h;rw[he] at ha' ⊢;refine Calls.evalArgs_plain (wpAny_mono ha' (fun us s1 ⟨vs,H1,I1,r,hl,q⟩=>⟨rfl,by rw[<- r.length];exact hl,I1.bk _ _ hC,hN.keeps I1.bk,T.keeps I1.bk,fun h' y hm=>?_⟩) fun _ _ y=>y);exact fl pins σ H1 s1 h' y (.ref C) us I1 hm q
end
abbrev Cx.gE (X:Cx) (x:zdv):Cx:={X with A:=X.A.mark (some (.ref x)),calm:=false,xe:=fun _ _=>False}
theorem Cx.Ok.gE{X:Cx}(ok:X.Ok)(x:zdv):(X.gE x).Ok:=
 ⟨ok.mod,ok.kind,ok.glob,ok.blt,ok.above,ok.inj,ok.has,ok.Ih,(fun z=>absurd z zai),ok.frames,ok.NW,ok.UA,ok.bs,ok.CV,ok.Bo,ok.CY,ok.mL,ok.Gy⟩
theorem Cx.Ok.jC{X:Cx}{x:zdv}(ok:(X.gE x).Ok)(hd:X.calm=true->X.A.handled=none):X.Ok:=
 ⟨ok.mod,ok.kind,ok.glob,ok.blt,ok.above,ok.inj,ok.has,ok.Ih,hd,ok.frames,ok.NW,ok.UA,ok.bs,ok.CV,ok.Bo,ok.CY,ok.mL,ok.Gy⟩
section
variable{X:Cx}{pins:List (zdv×Obj)}{σ:St}{H:Hp}{s:zdF}{x:zdv}
theorem Inv.gE(I:Inv X pins σ H s)(x:zdv):Inv (X.gE x) pins σ H s:=⟨I.ok.gE x,I.os,I.bare,I.base,I.loc,I.cell,I.free,I.i7,I.pin,I.bX,I.len⟩
theorem Inv.jC(I:Inv (X.gE x) pins σ H s)(hd:X.calm=true->X.A.handled=none):Inv X pins σ H s:=⟨I.ok.jC hd,I.os,I.bare,I.base,I.loc,I.cell,I.free,I.i7,I.pin,I.bX,I.len⟩
theorem SP.jC{D:Ends}{f:Flow}{s':zdF}(h:SP (X.gE x) pins D f s')(hd:X.calm=true->X.A.handled=none):SP X pins D f s':=by
 cases f with
 |next=>obtain⟨σ',H',I,q⟩:=h;exact⟨σ',H',I.jC hd,q⟩
 |brk=>obtain⟨σ',H',I,q⟩:=h;exact⟨σ',H',I.jC hd,q⟩
 |cont=>obtain⟨σ',H',I,q⟩:=h;exact⟨σ',H',I.jC hd,q⟩
 |ret u=>obtain⟨v,σ',H',I,r,q⟩:=h;exact⟨v,σ',H',I.jC hd,r,q⟩
theorem Inv.told{o:HO}(I:Inv X pins σ H s)(n:H x=none)(h0:X.s₀.heap.objs.size<=x)(hL:x≠X.env.locals)(hc:∀y c,X.env.cells.lookup y=some c->c≠x)(hp:∀p∈X.pn++pins,p.1≠x)(ok:du X.prog X.w (upd H x o) s.heap x o):Inv X pins σ (upd H x o) s:=by
 have nx:∀b u,X.s₀.heap.get? b=some u->b≠x:=fun b u e=>zaD (zaz (Heap.lt_size e) h0);refine⟨I.ok,I.os,I.bare,⟨I.base.keep,I.base.slot,fun b u e n' hx=>?_,I.base.there,fun b xs e=>?_,fun b ob u e=>?_,fun b ps e=>?_⟩,I.loc,I.cell,?_,fun y c e=>?_,fun p OF=>?_,fun b u e=>?_,I.len⟩
 ·rw[au (nx b u e)];exact I.base.free b u e n' hx
 ·have:=I.base.pH b xs e;rw[au (aj this n)];exact this
 ·have:=I.base.pj b ob u e;rw[au (aj this n)];exact this
 ·obtain⟨m,e1⟩:=I.base.pk b ps e;exact⟨m,by rw[au (aj e1 n)];exact e1⟩
 ·rw[au (Ne.symm hL)];exact I.free
 ·rw[au (hc y c e)];exact I.i7 y c e
 ·obtain⟨a,b,c⟩:=I.pin p OF;exact⟨a,by rw[au (hp p OF)];exact b,c⟩
 ·by_cases hb:b=x
  ·subst hb;rw[ah] at e;cases e;exact ok
  ·rw[au hb] at e;exact(I.bX b u e).sZ (fun _ _ _ q=>q) (fun c q=>by rw[au (aj q n)];exact q) fun c xs q=>by rw[au (aj q n)];exact q
end
abbrev Cx.pinned (X:Cx) (pins:List (zdv×Obj)) (xe:zdw->zdF->Prop):Cx:={X with pn:=X.pn++pins,xe:=xe}
theorem Cx.Ok.pinned{X:Cx}(ok:X.Ok)(pins:List (zdv×Obj))(xe:zdw->zdF->Prop):(X.pinned pins xe).Ok:=
 ⟨ok.mod,ok.kind,ok.glob,ok.blt,ok.above,ok.inj,ok.has,ok.Ih,ok.hd,ok.frames,ok.NW,ok.UA,ok.bs,ok.CV,ok.Bo,ok.CY,ok.mL,ok.Gy⟩
theorem Cx.Ok.mM{X:Cx}{pins:List (zdv×Obj)}{xe:zdw->zdF->Prop}(ok:(X.pinned pins xe).Ok):X.Ok:=
 ⟨ok.mod,ok.kind,ok.glob,ok.blt,ok.above,ok.inj,ok.has,ok.Ih,ok.hd,ok.frames,ok.NW,ok.UA,ok.bs,ok.CV,ok.Bo,ok.CY,ok.mL,ok.Gy⟩
section
variable{X:Cx}{pins wV:List (zdv×Obj)}{σ:St}{H:Hp}{s:zdF}{xe:zdw->zdF->Prop}
theorem Inv.ZS(I:Inv X pins σ H s)(xe:zdw->zdF->Prop):Inv (X.pinned pins xe) [] σ H s:=⟨I.ok.pinned pins xe,I.os,I.bare,I.base,I.loc,I.cell,I.free,I.i7,fun p hp=>I.pin p (by rw[zaG] at hp;exact hp),I.bX,I.len⟩
theorem Inv.SE(I:Inv (X.pinned pins xe) wV σ H s):Inv X pins σ H s:=⟨I.ok.mM,I.os,I.bare,I.base,I.loc,I.cell,I.free,I.i7,fun p hp=>I.pin p (zaN _ hp),I.bX,I.len⟩
end
open Builtin Builtin.Getset_descriptor Builtin.ObjectAttr PySem.Calls
structure N0(K:zaa)(C:zdv):Prop where
 cl:zby K C=true
 ga:zax K (.ref C) "__getattribute__"=some (some (.builtin "BaseException.__getattribute__"))
 gh:zax K (.ref C) "__getattr__"=some none
 ca:zax K (.ref C) "__class__"=some (some (.builtin "object.__class__"))
 ob:zcN K C (.type "object")=some true
 be:zcN K C (.type "BaseException")=some true
def o7 (x C:zdv) (h:Heap):Prop:=∃o,h.get? x=some o/\o.cls=.ref C
theorem o7.type{x C:zdv}{h:Heap}{M:Model}(p:o7 x C h):PySem.W.Looks M h (typeOf (.ref x)) (.ref C):=by
 obtain⟨o,h1,h2⟩:=p;exact h2▸(zc1 h1).andThen .now
section
variable{prog:zdH}{w:zdx}{A:zdG}{E:zdw->zdF->Prop}{s:zdF}{K:zaa}{x C:zdv}
theorem Lr{R:Result->zdF->Prop}{tp:zdw}(c:N0 K C)(X:K.In s.heap)(p:o7 x C s.heap)(fin:R (.ok (.ret (.ref C))) s) :
 codeAny (model prog w) A (.call (.builtin "getset_descriptor.__get__") ⟨[.builtin "object.__class__",.ref x,tp],[]⟩) R s:=by
 obtain⟨h1,g1,d1,t1,o1⟩:=s;have LA:=p.type (M:=model prog w);have LB:=zdq (M:=model prog w) X c.ob;refine codeAny_call_builtin PySem.W.KF.slot_gs.plain PySem.W.KF.entry_gs (PySem.W.KF.slot_gs.check _ _ _ _ _ _ _ _ PySem.W.KF.type_class (PySem.W.KF.args_gs _ _ _) ?go)
 case go=>
  unfold Builtin.«getset_descriptor.__get__» descrGet;rw[PySem.W.dga_obj];refine zdy (zdz ?go2)
  case go2=>
   unfold descrGetter descrCheckInstance descrNameAndClass isInstance;simp only[PySem.W.KF.owner_class]
   repeat lk
   refine⟨Code.quiet_builtin _ (by decide +kernel),codeAny_builtin PySem.W.KF.entry_class ?go3⟩
   case go3=>
    unfold Builtin.«object.__class__» shownTypeOf
    repeat lk
    exact fin
theorem Ff{tk:Tok}{Q:Fin->zdF->Prop}(c:N0 K C)(X:K.In s.heap)(p:o7 x C s.heap)(fin:Q (.done (.ret (.ref C))) s) :
 wpAny (model prog w) A (Builtin.«object.__getattribute__» ⟨[.ref x,.str "__class__" tk],[]⟩) Q E s:=by
 obtain⟨h1,g1,d1,t1,o1⟩:=s;have LA:=p.type (M:=model prog w);have LB:=zbZ (M:=model prog w) X c.ca;have f1:(⟨h1,g1,d1,t1,o1⟩:zdF).TypeIs (.builtin "object.__class__") "getset_descriptor":=F.typeOf_object_class;have f2:=F.typeOf_object_class;have f3:=F.slot_gs_get.lookup;have f4:=F.slot_gs_set.lookup
 repeat (any_goals (first |assumption |with_reducible refine LA.at ?_ |with_reducible refine LB.at ?_ |wp_step))
 refine Lr c X p ?_
 repeat (any_goals (first |assumption |wp_step))
theorem Fg{M:Model}{v:zdw}{Q:Unit->zdF->Prop}(c:N0 K C)(X:K.In s.heap)(p:o7 x C s.heap)(fin:Q () s) :
 wpAny M A (checkBuiltinCall "BaseException.__getattribute__" ⟨[.ref x,v],[]⟩) Q E s:=by
 obtain⟨h1,g1,d1,t1,o1⟩:=s;have k1:builtinKind "BaseException.__getattribute__"=some .slot:=by decide +kernel
 have k2:splitId "BaseException.__getattribute__"=some ("BaseException", "__getattribute__"):=by decide +kernel
 have k3:=F.args_bexc_ga (.ref x) v;have LA:=p.type (M:=M);have LB:=zdq (M:=M) X c.be;simp only[checkBuiltinCall,k1,k2];refine zdy ?_;unfold isInstance
 repeat (first |with_reducible refine LA.at ?_ |with_reducible refine LB.at ?_ |wp_step)
 exact fin
theorem IH{tk:Tok}{R:Result->zdF->Prop}(c:N0 K C)(X:K.In s.heap)(p:o7 x C s.heap)(fin:R (.ok (.ret (.ref C))) s) :
 codeAny (model prog w) A (.call (.builtin "BaseException.__getattribute__") ⟨[.ref x,.str "__class__" tk],[]⟩) R s:=
 codeAny_call_builtin F.excAttr_ValueError.ga.plain F.entry_bexc_ga (Fg c X p (Ff c X p fin))
theorem OR{tk:Tok}{Q:zdw->zdF->Prop}(c:N0 K C)(X:K.In s.heap)(p:o7 x C s.heap)(fin:Q (.ref C) s) :
 wpAny (model prog w) A (getAttrBy (.ref x) (.str "__class__" tk) false) Q E s:=by
 obtain⟨h1,g1,d1,t1,o1⟩:=s;have LA:=p.type (M:=model prog w);have LB:=zbZ (M:=model prog w) X c.ga;have LC:=zbZ (M:=model prog w) X c.gh;have b1:=F.excAttr_ValueError.ga.bind (.ref x);have b2:(false&&onTheHeap (Value.builtin "BaseException.__getattribute__"))=false:=rfl;have b3:(Value.builtin "BaseException.__getattribute__"==Value.builtin "object.__getattribute__")=false:=by decide +kernel
 have b4:(onTheHeap (Value.ref C)&&Value.builtin "BaseException.__getattribute__"==Value.builtin "object.__getattribute__")=false:=by rw[b3];exact Bool.and_false _
 repeat (any_goals (first |assumption |with_reducible refine LA.at ?_ |with_reducible refine LB.at ?_ |with_reducible refine LC.at ?_ |wp_step))
 refine IH c X p ?_
 repeat (any_goals (first |assumption |wp_step))
theorem II{Q:Option zdw->zdF->Prop}(c:N0 K C)(X:K.In s.heap)(p:o7 x C s.heap)(fin:Q (some (.ref C)) {s with toks:=s.toks+1}) :
 wpAny (model prog w) A (getAttr? (.ref x) "__class__") Q E s:=by
 obtain⟨h1,g1,d1,t1,o1⟩:=s;unfold getAttr? getAttrBy?;have X':K.In (⟨h1,g1,d1,t1+1,o1⟩:zdF).heap:=X;have p':o7 x C (⟨h1,g1,d1,t1+1,o1⟩:zdF).heap:=p
 repeat (any_goals (first |assumption |with_reducible apply OR c X' p' |wp_step))
end
theorem Dj{K:zaa}{x C:zdv}(c:N0 K C):PySem.W.KitX K (.ref x) (.ref C) (o7 x C) where
 ty:=fun _ _ _ p=>p.type
 it:=fun _ _ X _=>by
  obtain⟨cd,hc,_⟩:=zc0 c.cl;unfold PySem.W.clsIn at hc;split at hc
  ·rename_i ho;intro A' Q' E' s' k q;unfold isType loadHead;exact zdy (wpAny_loadPart (k _ _ (X _ _ ho)) (zdz q))
  ·cases hc
 ne:=fun h tp dd bq n sl X UD=>by
  obtain⟨cd,hc,_⟩:=zc0 c.cl;refine Bool.eq_false_iff.mpr fun q=>?_;have e:C=tp:=Value.ref.inj (beq_iff_eq.mp q);subst e;unfold PySem.W.clsIn at hc;split at hc
  ·rename_i ho;have z:=(X _ _ ho).symm.trans UD;cases z
  ·cases hc
 ca:=fun X p k=>II c X p k
def uP (x C:zdv):HO:=.ext (o7 x C)
theorem OS{P:zdH}{w:zdx}{H:Hp}{h:Heap}{x C:zdv}(p:o7 x C h):du P w H h x (uP x C):=by
 refine⟨p,?_,fun h1 h2 q k=>?_⟩
 ·obtain⟨o,h1,_⟩:=p;exact⟨o,h1⟩
 ·obtain⟨o,e1,e2⟩:=q;exact⟨o,k o e1,e2⟩
theorem eQ{X:Cx}{K:zaa}(hK:X.K=K):mO X (.builtin "isinstance") (fun xs H Q=>∃a C D b,xs=[.ref a,.ref D]/\H a=some (uP a C)/\N0 K C/\zay K (.ref C) (.ref D)=some b/\Q (.bl b) H):=by
 intro pins s σ H xs us Q I r h;subst hK;obtain⟨a,C,D,b,rfl,hE,hc,e,q⟩:=h;cases r with
 |cons r1 r2=>
  cases r2 with
  |cons r3 r4=>
   cases r4;cases (show _=Value.ref a from r1);cases (show _=Value.ref D from r3);have ok:du X.prog X.w H s.heap a (uP a C):=I.bX a _ hE;exact PySem.W.kia_one (Dj hc) I.AK ok.1 e (fun z=>nomatch z) fun tk=>⟨.bl b,H,I.tok tk,rfl,q⟩
theorem IJ{X:Cx}{K:zaa}(hK:X.K=K):mO X (.builtin "isinstance") (fun xs H Q=>∃a C T b,xs=[.ref a,.ty T]/\H a=some (uP a C)/\N0 K C/\zay K (.ref C) (.type T)=some b/\Q (.bl b) H):=by
 intro pins s σ H xs us Q I r h;subst hK;obtain⟨a,C,T,b,rfl,hE,hc,e,q⟩:=h;cases r with
 |cons r1 r2=>
  cases r2 with
  |cons r3 r4=>
   cases r4;cases (show _=Value.ref a from r1);cases (show _=Value.type T from r3);have ok:du X.prog X.w H s.heap a (uP a C):=I.bX a _ hE;exact PySem.W.kia_one (Dj hc) I.AK ok.1 e (fun z=>nomatch z) fun tk=>⟨.bl b,H,I.tok tk,rfl,q⟩
def Ends.drop (D:Ends) (i:Nat):Ends:={nx:=fun σ H=>D.nx (σ.set i none) H,rt:=D.rt,bk:=fun σ H=>D.bk (σ.set i none) H,ct:=fun σ H=>D.ct (σ.set i none) H}
section
variable{X:Cx}{pins:List (zdv×Obj)}{σ:St}{H:Hp}{s:zdF}{x:zdv}
theorem Inv.V5{o:HO}(I:Inv X pins σ H s)(n:H x=none)(h0:X.s₀.heap.get? x=none)(hL:x≠X.env.locals)(hc:∀y c,X.env.cells.lookup y=some c->c≠x)(hp:∀p∈X.pn++pins,p.1≠x)(ok:du X.prog X.w (upd H x o) s.heap x o):Inv X pins σ (upd H x o) s:=by
 have away:∀b u,X.s₀.heap.get? b=some u->b≠x:=fun b u e z=>by rw[z,h0] at e;cases e
 refine⟨I.ok,I.os,I.bare,⟨I.base.keep,I.base.slot,fun b u e n' hx=>?_,I.base.there,fun b xs e=>?_,fun b ob u e=>?_,fun b ps e=>?_⟩,I.loc,I.cell,?_,fun y c e=>?_,fun p OF=>?_,fun b u e=>?_,I.len⟩
 ·rw[au (away b u e)];exact I.base.free b u e n' hx
 ·have z:=I.base.pH b xs e;rw[au (aj z n)];exact z
 ·have z:=I.base.pj b ob u e;rw[au (aj z n)];exact z
 ·obtain⟨m,e1⟩:=I.base.pk b ps e;exact⟨m,by rw[au (aj e1 n)];exact e1⟩
 ·rw[au (Ne.symm hL)];exact I.free
 ·rw[au (hc y c e)];exact I.i7 y c e
 ·obtain⟨a,b,c⟩:=I.pin p OF;exact⟨a,by rw[au (hp p OF)];exact b,c⟩
 ·by_cases hb:b=x
  ·subst hb;rw[ah] at e;cases e;exact ok
  ·rw[au hb] at e;exact(I.bX b u e).sZ (fun _ _ _ q=>q) (fun c q=>by rw[au (aj q n)];exact q) fun c xs q=>by rw[au (aj q n)];exact q
theorem Inv.OT{M:Model}{A:zdG}{E:zdw->zdF->Prop}{i:Nat}{n:Str}{pos:Pos}{Q:Unit->zdF->Prop}(I:Inv X pins σ H s)(hN:X.N.Nodup)(hi:X.N[i]?=some n)(hk:X.env.scope.names.lookup n=some .local)
 (h:∀s',Inv X pins (σ.set i none) H s'->Q () s'):wpAny M A (do bindName X.env n .none;unbindBehindTheSuite X.env n pos) Q E s:=by
 obtain⟨m,hn,hl⟩:=id I.loc;have ZT:(X.env.scope.kind==.class ||(X.env.scope.kind==.module&&X.env.locals != X.env.globals))=false:=by rw[I.ok.kind];rfl
 have rV:i<σ.length:=by rw[I.len];exact(zam.mp hi).1
 have Kb:=I.Kb;obtain⟨oL,_,_,X8,_⟩:=id hn;refine wpAny_nameGoes_keeps hk hn ZT fun h' v Oh hs=>h _ ?_;have under:∀b o,X.s₀.heap.get? b=some o->h'.get? b=s.heap.get? b:=fun b o e=>hs.2 b (zaD (zaz (Heap.lt_size e) I.ok.above));refine⟨I.ok,I.os,I.bare,⟨fun b o e z hb hx=>(under b o e).trans (I.base.keep b o e z hb hx),fun b o e z hb hx=>?_,I.base.free,fun b o e hx=>?_,I.base.pH,I.base.pj,I.base.pk⟩,⟨_,Oh,fun j y v' e1 e2 e3=>?_⟩,fun y c e=>?_,I.free,I.i7,fun p hp=>?_,fun b ob e=>?_,by simpa using I.len⟩
 ·obtain⟨sl,e1⟩:=I.base.slot b o e z hb hx;exact⟨sl,(under b o e).trans e1⟩
 ·obtain⟨o',e1⟩:=I.base.there b o e hx;exact⟨o',(under b o e).trans e1⟩
 ·by_cases hj:j=i
  ·subst hj;rw[zbR rV] at e2;cases e2
  ·rw[zbU (Ne.symm hj)] at e2;obtain⟨u',r',q⟩:=hl j y v' e1 e2 e3;refine⟨u',r',?_⟩;rcases q with ⟨k,e⟩ |⟨k,c,e,z⟩
   ·have ny:y≠n:=fun z=>hj (xZ hN e1 (z▸hi));exact .inl ⟨k,by simp[ny,e]⟩
   ·exact .inr ⟨k,c,e,z.sameBut hs (Kb y c e)⟩
 ·obtain⟨w',z⟩:=I.cell y c e;exact⟨w',z.sameBut hs (Kb y c e)⟩
 ·obtain⟨e,z,ne,nf,d⟩:=I.pin p hp;exact⟨(hs.2 p.1 ne).trans e,z,ne,nf,d⟩
 ·refine(I.bX b ob e).sZ (fun c w' hc q=>(hs.2 c ?_).trans q) (fun _ q=>q) fun _ _ q=>q
  rintro rfl
  rcases hc with rfl |hc
  ·rw[I.free] at e;cases e
  ·rw[I.free] at hc;cases hc
end
def Ls (K:zaa) (CH:zdv) (i:Nat) (sp:Sp) (ta:TA) (ts:TS):TS:=fun D σ H=>ta σ H fun vs H1=>sp vs H1 (fun _ H2=>D.nx σ H2) fun cls _ H2=>zbH K cls (.ref CH)=some true/\
 ∃C,cls=.ref C/\∀y,H2 y=none->ts (D.drop i) (σ.set i (some (.ref y))) (upd H2 y (uP y C))
section
variable{X:Cx}{k i:Nat}{f CH:zdv}{fd:zdE}{ps:List Str}{sp:Sp}{fx cx n:Str}{p pos pos' np V6 Ox:Pos}{e:Expr}{es:List Expr}{ta:TA}{ts:TS}{b0:Stmt}{Q7:List Stmt}
theorem Lu(hN:X.N.Nodup)(hi:X.N[i]?=some n)(IK:X.env.scope.names.lookup n=some .local)(hex:X.ex=[])(F:bD X.prog X.w X.K X.mg X.base (oZ X.prog X.w) k f fd ps sp)(hr:gB k X.A)(hg:Gl X fx)(hm:X.mg fx=some (.ref f))(hk:zaY X.K (.ref f)=true)(hb:Binds X.K fd ps [])
 (ha:∀pn xe,PA {X with pn:=pn,xe:=xe} (e::es) ta) (Ii:X.stack=X.env::X.outer) (hfr:X.env.frame=some X.env.locals) (hgC:Gl X cx) (hmC:X.mg cx=some (.ref CH)) (hs:∀x,CZ (X.gE x) (b0::Q7) ts)
 (E7:(fx==("__debug__":Str))=false:=by decide) (hdc:(cx==("__debug__":Str))=false:=by decide) (he:zdB (e::es) X.env=(false,eval e X.env)::zdB es X.env:=by rfl) (zV:(backTo pos (zdB es X.env)).any (·.1)=false:=by rfl)
 (ZO:swapsWith (.Call (.Name fx p) (e::es) [] pos) none pos'.line X.env=pure false:=by rfl) :
 PS X (.Try [.Expr (.Call (.Name fx p) (e::es) [] pos) pos'] [.ExceptHandler (some (.Name cx np)) (some n) (b0::Q7) V6] [] [] Ox) (Ls X.K CH i sp ta ts):=by
 intro pins s σ H D I h;have hd:X.calm=true->X.A.handled=none:=I.ok.hd;have call:PE (X.pinned pins fun x s'=>∃H1 s1,Inv X pins σ H1 s1/\oZ X.prog X.w X.stack H1 s1 (fun cls _ H2=>zbH X.K cls (.ref CH)=some true/\∃C,cls=.ref C/\∀y,H2 y=none->ts (D.drop i) (σ.set i (some (.ref y))) (upd H2 y (uP y C))) x s') (.Call (.Name fx p) (e::es) [] pos)
  (fun σ' H' Q=>σ'=σ/\ta σ H' fun vs H1=>sp vs H1 Q fun cls _ H2=>zbH X.K cls (.ref CH)=some true/\∃C,cls=.ref C/\∀y,H2 y=none->ts (D.drop i) (σ.set i (some (.ref y))) (upd H2 y (uP y C))):=by
  intro wV s' σ' H' Q I' h';obtain⟨rfl,h'⟩:=h';refine wpAny_Call_Name_kw (nU I' hg hm ?_ E7);refine zb6 (h₀:=X.base) I'.ok.mod.RU hk (dE (ha _ _ pos wV s' σ' H' _ I' h') fun us s1 ⟨vs,H1,I1,r,q⟩=>⟨I1.AK,?_⟩) he zV;have hl:us.length=ps.length:=by rw[<- r.length];exact F.len _ _ _ _ q
  have bnd:=hb s1 us I1.AK (by rw[zaG];exact hl);rw[zaG] at bnd;refine wpAny_call (codeAny_mono (F.run X.A X.stack s1 H1 ⟨us,[]⟩ us vs Q _ hr I1.SE.KI bnd r q) fun r s2 hq=>?_);cases r with
  |error x=>exact⟨H1,s1,I1.SE,hq⟩
  |ok fl=>
   cases fl with
   |ret u=>exact I1.after hq
   |next=>exact False.elim hq
   |brk=>exact False.elim hq
   |cont=>exact False.elim hq
 have body:=ar (eG (pos:=pos') call ZO) [] s σ H {nx:=D.nx,rt:=fun _ _=>False} (I.ZS _) ⟨rfl,h⟩;refine wpAny_Try_except (wpAny_mono body (fun fl s1 hf=>?_) fun x s1 hx=>?_)
 ·cases fl with
  |next=>
   obtain⟨σ',H',I',q⟩:=hf;exact wpAny_execs_nil ⟨σ',H',I'.SE,q⟩
  |ret u=>obtain⟨_,_,_,_,_,q⟩:=hf;exact False.elim q
  |brk=>obtain⟨_,_,_,q⟩:=hf;exact False.elim q
  |cont=>obtain⟨_,_,_,q⟩:=hf;exact False.elim q
 ·obtain⟨H1,s0,I0,y,cls,a0,B,H',rfl,Y⟩:=hx;obtain⟨ZU,C,rfl,hq⟩:=Y.want;have fl:=Y.fl;have NW:X.A.frames=some (X.env::X.outer):=by rw[<- Ii];exact I.ok.frames
  rw[Ii] at fl;refine wpAny_looks_onW NW hfr fl fun h4 V7 up4=>?_;refine wpAny_landsW V7 fun h5 Lv up5=>?_;have up:=up4.trans up5;have state:∀ {h6:Heap},B.StaysIn h6->s1.heap.UpToSlots h6->Inv X pins σ H' {s1 with heap:=h6}:=fun {h6} st ZV=>by
   obtain⟨u,bX⟩:=Y.move I0 st ZV;exact I0.QP (s':={s1 with heap:=h6}) Y.os u bX Y.bare fun b z=>absurd z (by simp)
  have I5:=state Lv.1 up;refine wpAny_handleBy_cons (codeAny_handlers_test (nU (X:=X.gE y) (I5.gE y) hgC hmC ?_ hdc)) (by intro q;cases q);obtain⟨ob,hob,ZW⟩:=Lv.there;have LT:PySem.W.Looks (model X.prog X.w) h5 (typeOf (.ref y)) (.ref C):=by
   rw[<- ZW];exact(zc1 hob).andThen .now
  refine(PySem.W.exm_one (I5.AK) LT ZU).here ?_;refine codeAny_handlers_suite_as ?_;refine lands_againW Lv fun h6 Lw ZV=>?_;have I6:=state Lw.1 (up.trans ZV);obtain⟨o6,ZX,ZY⟩:=Lw.there;have noB:B.get? y=none:=fl.2.1;have nH:H' y=none:=by
   cases e:H' y with
   |none=>rfl
   |some u=>obtain⟨o,ho⟩:=Y.Ka y u e;rw[noB] at ho;cases ho
  have ZZ:∃vs,o6.data=.fields vs:=by
   obtain⟨_,_,_,oe,vs,_,_,_,he6,_,hd6,_⟩:=Lw;rw[ZX] at he6;cases he6;exact⟨vs,hd6⟩
  have V8:∀b∈rB X.stack,b≠y:=fun b hb z=>by
   obtain⟨_,o',rC,Lx⟩:=(I6.stack.mem hb)
   rw[z,ZX] at rC;cases rC;obtain⟨vs,hv⟩:=ZZ;exact Lx vs hv
  have out:∀b o,s0.heap.get? b=some o->b≠y:=fun b o e z=>by
   by_cases hb:b∈rB X.stack
   ·exact V8 b hb z
   ·obtain⟨o',rC⟩:=Y.old b o e hb;rw[z,noB] at rC;cases rC
  have hL:y≠X.env.locals:=by
   obtain⟨m0,⟨oL,_,_,X8,_⟩,_⟩:=I0.loc;exact fun z=>out _ _ X8 z.symm
  have hC:∀z c,X.env.cells.lookup z=some c->c≠y:=fun z c e=>by
   obtain⟨_,o',rC,_⟩:=I0.cell z c e;exact out c o' rC
  have hP:∀q∈X.pn++pins,q.1≠y:=fun q Sg=>out q.1 _ (I0.pin q Sg).1;have h0:X.s₀.heap.get? y=none:=by
   cases e:X.s₀.heap.get? y with
   |none=>rfl
   |some o=>
    obtain⟨o',rC⟩:=I0.base.there y o e (by rw[hex];simp);exact absurd rfl (out y o' rC)
  have I7:=(I6.V5 (o:=uP y C) nH h0 hL hC hP (OS ⟨o6,ZX,ZY⟩)).gE y;refine x4 (X:=X.gE y) I7 hN hi (.inl IK) (show RelV (.ref y) (.ref y) from rfl) (fun s8 I8=>?_) (.inr IK);refine wpAny_mono (hs y pins s8 (σ.set i (some (.ref y))) (upd H' y (uP y C)) (D.drop i) I8 (hq y nH)) (fun fl s9 q9=>?_) fun _ _ z=>False.elim z;have UE:=q9.jC hd;cases fl with
  |next=>obtain⟨σ',H9,I9,q⟩:=UE;exact I9.OT hN hi IK fun s' I'=>⟨_,_,I',q⟩
  |brk=>obtain⟨σ',H9,I9,q⟩:=UE;exact I9.OT hN hi IK fun s' I'=>⟨_,_,I',q⟩
  |cont=>obtain⟨σ',H9,I9,q⟩:=UE;exact I9.OT hN hi IK fun s' I'=>⟨_,_,I',q⟩
  |ret u=>obtain⟨v,σ',H9,I9,r,q⟩:=UE;exact I9.OT hN hi IK fun s' I'=>⟨v,_,_,I',r,q⟩
end
abbrev W:=PM.W
def S (w:W):Str:=⟨w.toArray⟩
theorem yq{a b:W}:S a=S b↔a=b:=⟨fun h=>by have:=congrArg (fun z:Str=>z.cps.toList) h;simpa[S] using this,fun h=>by rw[h]⟩
def pA:PM.Tr->Dp
 |.num n=>.tup [.str "number",.int n]
 |.box x=>.tup [.str "box",.str (S x)]
 |.bin o l r=>.tup [.str (S o),pA l,pA r]
def aS (p:zdv) (H H':Hp):Prop:=∀b o,b≠p->H b=some o->H' b=some o
theorem aS.refl(p:zdv)(H:Hp):aS p H H:=fun _ _ _ h=>h
theorem aS.trans{p:zdv}{H H1 H2:Hp}(a:aS p H H1)(b:aS p H1 H2):aS p H H2:=fun c o n h=>b c o n (a c o n h)
theorem aS.of{p:zdv}{H H':Hp}(s:aq H H'):aS p H H':=fun b o _ h=>s b o h
theorem aS.put{p:zdv}{H H1:Hp}(a:aS p H H1)(o:HO):aS p H (upd H1 p o):=fun b u n h=>by rw[au n];exact a b u n h
theorem aS.same{p:zdv}{H H':Hp}(a:aS p H H')(h:H p=none):aq H H':=fun b o e=>a b o (aj e h) e
theorem Fh{X:Cx}{P:zdH}{w:zdx}:Passes (oZ P w) X E0:=fun _ _ _ _ _ _ _ h=>by
 obtain⟨_,_,_,_,_,_,F⟩:=h;exact F.want.elim
section
variable{P:zdH}{w:zdx}{K:zaa}{mg:Str->Option zdw}{base:Heap}
theorem CL.Yh{x qual:Str}{st:Stmt}{f:zdv}{fd:zdE}{N ps:List Str}{k:Nat}{sp:Sp}(F:CL K x qual st f fd)(S:aT N ps (az st))(len:∀vs H Q E,sp vs H Q E->vs.length=ps.length)
 (pK:∀(eO:zdw) (A:zdG) (outer:List Env) (s:zdF) (H:Hp) (vs:List V) (Q:VK) (E:XK),gB k (A.deeper (envOfC qual (az st) s.heap.objs.size f eO))->sp vs H Q E->
  ∃t σ,CZ (ie (oZ P w) P w K mg base N qual (az st) f eO A outer s H E) (cS st) t/\L2.start N vs=σ/\t {nx:=fun _ H'=>Q .dR H',rt:=Q} σ H):bD P w K mg base (oZ P w) (k+1) f fd ps sp:=by
 obtain⟨oc,od,kV,doc,pm,an,eO,ct,E8,rfl,lk,C0⟩:=F.ex;refine KP lk C0 S len fun A outer s H vs Q E hr Kc=>?_;obtain⟨t,σ,h,e,q⟩:=pK eO A outer s H vs Q E hr Kc;exact⟨t,h,by rw[e];exact q⟩
end
theorem aw{t u:TS}{D:Ends}{σ:St}{H:Hp}(h:∀U:St->Hp->Prop,(∀σ' H',U σ' H'↔u D σ' H')->t {D with nx:=U} σ H):Oj t u D σ H:=h (u D) fun _ _=>Iff.rfl
theorem Ly{A:zdG}{k:Nat}(hr:gB k A):A.units+64<cLine:=hr.units
theorem Q8(ns:List Int)(h:ns.length<=63):Ae (ns.map V.int) none (some 63)=ns.map V.int:=by
 unfold Ae;rw[HT.yh,show (63:Int)=((63:Nat):Int) from rfl,HT.Bw,zad,zdg,Nat.sub_zero];exact zbp (by rw[zad];lia)
section
variable{X:Cx}{pins:List (zdv×Obj)}{σ:St}{H:Hp}{s:zdF}{h':Heap}
theorem Inv.qS{t':Nat}{fp:List zdv}(I:Inv X pins σ H s)(k:∀b o,b ∉ fp->s.heap.get? b=some o->h'.get? b=some o)(hf:∀b∈fp,uz X pins H b):Inv X pins σ H {s with heap:=h',toks:=t' }:=by
 have Vn:∀b u,H b=some u->b ∉ fp:=fun b u e z=>by rw[(hf b z).1] at e;cases e
 refine I.step (g':=s.gens) (d':=s.drawn) (ch:=fp) (fun b hb=>?_) (fun b o _ _ hc e _=>k b o hc e) (fun b o _ _ hc e _=>⟨o.slots,k b o hc e⟩) (fun _ _ _ _ n=>n)
  (fun b o hc e=>⟨o,k b o hc e⟩) (fun _ _ e=>e) (fun _ _ _ e=>e) (fun b ps e=>⟨#[],by rw[e];simp⟩) (fun m hm=>?_) (fun b u e=>?_) I.bare
 ·obtain⟨_,f1,_,f3,f4,f5⟩:=hf b hb;exact⟨f3,f1,f4,f5⟩
 ·obtain⟨o,es,ep,ho,r⟩:=hm;exact⟨o,es,ep,k _ o (fun z=>(hf _ z).2.1 rfl) ho,r⟩
 ·refine(I.bX b u e).sZ (fun c v hc q=>k c v ?_ q) (fun _ q=>q) fun _ _ q=>q;rcases hc with z |z
  ·rw[z];exact Vn b u e
  ·exact Vn c _ z
end
def Q9 (K:zaa) (a:zdv):It:=
 ⟨fun i H=>∃xs x,jc K H a xs/\xs[i]?=some x,fun i H x H'=>∃p y,x=.ref p/\H p=none/\H'=upd H p (.tup [.int i,y])/\∀xs,jc K H a xs->xs[i]?=some y,fun i H=>∃xs,jc K H a xs/\xs.length<=i⟩
theorem IL{P:zdH}{w:zdx}{K:zaa}{elts:List Expr}{x1}{pos:Pos}(a e it:zdv)(w5:e≠it) :
 Turn P w K (.Tuple elts x1 pos) (Q9 K a) [e,it] e (fun i h=>(∃old,IsEnum h e it i old)/\h.IsListIter it a i) where
 mem:=by simp
 obj:=fun i h st b hb=>by
  obtain⟨⟨old,he⟩,o,eo,c,d⟩:=st;rcases zah.mp hb with rfl |hb
  ·exact⟨_,he,fun v z=>by cases (show Data.fields _=Data.cell v from z)⟩
  ·have z:b=it:=by simpa using hb
   subst z;exact⟨o,eo,fun v z=>by rw[d] at z;cases z⟩
 keep:=fun i h h' st k=>⟨st.1.elim fun old he=>⟨old,k e (by simp) _ he⟩,st.2.at fun o x=>k it (by simp) o x⟩
 item:=by
  intro X hP hw hK hc i pins s σ H E I hf st hg;subst hP hw hK;obtain⟨xs,x,hq,hx⟩:=hg;obtain⟨⟨old,he⟩,hit⟩:=st;obtain⟨bq,rv,p,hz⟩:=I.list hq;obtain⟨u,hu,ru⟩:=rv.get hx;refine wpAny_pyNext_enum_item he hit p.isList (x:=u) (by simpa using hu) w5 fun h' ho Lz hT hsz hk=>?_;refine⟨_,rfl,?_⟩;refine wpAny_letOwnedTupleGo_enum ho fun h2 N1 sb=>?_;have V9:e<s.heap.objs.size:=Heap.lt_size he;have GY:it<s.heap.objs.size:=by obtain⟨_,x,_⟩:=hit;exact Heap.lt_size x
  have I1:Inv X pins σ H {s with heap:=h2,toks:=s.toks+1}:=I.qS (t':=s.toks+1) (fun b o hb q=>(sb.2 b fun z=>hb (by simp[z])).trans (hk b o (fun z=>hb (by simp[z])) (fun z=>hb (by simp[z])) q)) hf;have fr:H s.heap.objs.size=none:=I.bX.fresh (zag _);obtain⟨g0,g1,g2,g3,g4,g5⟩:=I.Br (zag _) fr;have OU:h2.get? s.heap.objs.size=some {cls:=.type "tuple",data:=.seq #[.int i s.toks,u]}:=(sb.2 _ (zbI V9)).trans hT;have I2:=I1.told (o:=.tup [.int i,x]) fr I.sz g1 g4 g5 ⟨(show (2:Nat)<=zdD by decide),[.int i s.toks,u],.cons ⟨_,rfl⟩ (.cons ru .nil),⟨_,OU,rfl,_,rfl⟩⟩;refine⟨.ref s.heap.objs.size,_,I2,rfl,⟨_,x,rfl,fr,rfl,fun ys hy=>by rw[I.C1 hy hq];exact hx⟩,⟨⟨_,by exact_mod_cast N1⟩,Lz.at fun o q=>(sb.2 it (Ne.symm w5)).trans q⟩,fun b hb=>?_⟩;rw[au ?_]
  ·exact(hf b hb).1
  ·rcases zah.mp hb with rfl |hb
   ·exact zaD V9
   ·have z:b=it:=by simpa using hb
    subst z;exact zaD GY
 done:=by
  intro X hP hw hK hc i pins s σ H E I hf st hg;subst hP hw hK;obtain⟨xs,hq,hx⟩:=hg;obtain⟨⟨old,he⟩,hit⟩:=st;obtain⟨bq,rv,p,hz⟩:=I.list hq;have hl:=rv.length;exact wpAny_pyNext_enum_end (I.ok.hd hc) he hit p.isList (by simp;lia) fun h' eb=>⟨rfl,I.qS (t':=s.toks) (fun b o hb q=>eb b o (fun z=>hb (by simp[z])) q) hf⟩
 self:=fun _ _ _ _ _ st h=>st.1.elim fun _ he=>wpAny_pyIter_enum he h
def Ra (K:zaa) (ta:TA):TI:=fun σ H R=>ta σ H fun vs H1=>∃a,vs=[.ref a]/\(∃xs,jc K H1 a xs)/\R (Q9 K a) H1
theorem GZ{X:Cx}{elts:List Expr}{x1}{tp:Pos}{a:Expr}{ta:TA}{p pos:Pos}(hg:Gl X "enumerate")(hm:X.mg "enumerate"=none)(ha:PA X [a] ta)(hs:zdB [a] X.env=[(false,eval a X.env)]:=by rfl) :
 PI X (.Tuple elts x1 tp) (.Call (.Name "enumerate" p) [a] [] pos) (Ra X.K ta):=by
 intro pins s σ H R I h;refine Call_ (tm I hg hm PyProof.Rows.Boot.«enumerate» (zbn (dE (ha pos pins s σ H _ I h) fun us s1 zqz=>?_) hs rfl));obtain⟨vs,H1,I1,r1,q1⟩:=zqz;obtain⟨l,e,⟨xs,hq⟩,q⟩:=q1;subst e;cases r1 with
 |cons r rr=>
  cases rr;cases (show _=Value.ref l from r);obtain⟨bq,rv,p,hz⟩:=I1.list hq;refine call_enumerate_list p.isList fun h' he hit hsz hk=>?_;refine wpAny_pyIter_enum he ?_;have fr:∀b,s1.heap.objs.size<=b->H1 b=none:=fun b hb=>I1.bX.fresh hb;refine⟨s1.heap.objs.size+1,[s1.heap.objs.size+1,s1.heap.objs.size],_,_,H1,rfl,I1.kept (t':=s1.toks) hk,IL l _ _ (Nat.succ_ne_self _),⟨⟨_,he⟩,hit⟩,fun b hb=>?_,q⟩;have Z0:s1.heap.objs.size<=b:=by
   rcases zah.mp hb with rfl |hb
   ·exact Nat.le_succ _
   ·have z:b=s1.heap.objs.size:=by simpa using hb
    rw[z];exact zag _
  exact I1.Br Z0 (fr b Z0)
theorem Dl{K:zaa}{a:zdv}{xs:List V}{g:TG}{tb:TS}{D:Ends}{σ:St}{H:Hp}(Pv:Nat->St->Hp->Prop)(h0:Pv 0 σ H)(hl:∀i σ H,i<=xs.length->Pv i σ H->jc K H a xs)
 (hs:∀i x σ H p,xs[i]?=some x->Pv i σ H->H p=none->g (.ref p) σ (upd H p (.tup [.int i,x])) fun σ2 H2=>tb {D with nx:=Pv (i+1),ct:=Pv (i+1),bk:=D.nx} σ2 H2) (hd:∀σ H,Pv xs.length σ H->D.nx σ H) :
 ∃W:Nat->Nat->St->Hp->Prop,(∃m,W 0 m σ H)/\∀i m σ H,W i m σ H->
  ((Q9 K a).stop i H/\D.nx σ H)\/((Q9 K a).go i H/\∃N:St->Hp->Prop,(∀σ' H',N σ' H'->∃m',m'<m/\W (i+1) m' σ' H')/\∀x H',(Q9 K a).Ik i H x H'->g x σ H' fun σ2 H2=>tb {D with nx:=N,ct:=N,bk:=D.nx} σ2 H2):=by
 refine⟨fun i m σ H=>m=xs.length-i/\i<=xs.length/\Pv i σ H,⟨xs.length,by simp,zaK _,h0⟩,?_⟩
 rintro i m σ H ⟨rfl,hi,p⟩
 have q:=hl i σ H hi p;by_cases rV:i<xs.length
 ·refine .inr ⟨⟨xs,xs[i],q,by simp[rV]⟩,Pv (i+1),fun σ' H' p'=>⟨xs.length-(i+1),by lia,rfl,rV,p'⟩,fun x H' y=>?_⟩;obtain⟨pp,v,rfl,hn,rfl,y⟩:=y;exact hs i v σ H pp (y xs q) p hn
 ·have e:i=xs.length:=by lia
  subst e;exact .inl ⟨⟨xs,q,zag _⟩,hd σ H p⟩
theorem Dm{X:Cx}:mO X (.type "int") (fun xs H Q=>∃b:Bool,xs=[.bl b]/\Q (.int (if b then 1 else 0)) H):=by
 intro pins s σ H xs us Q I r h;obtain⟨b,rfl,q⟩:=h;obtain⟨u,rfl,ru⟩:=vals1 r;cases (show u=Value.bool b from ru);exact PySem.call_int_bool ⟨.int (if b then 1 else 0),H,I.tok _,⟨_,rfl⟩,q⟩
section
variable{prog:zdH}{w:zdx}{A:zdG}{E:zdw->zdF->Prop}{s:zdF}
theorem Dn{it l:zdv}{bq:Array zdw}(w5:l≠it):∀(n i:Nat) (s:zdF) (Q:List zdw->zdF->Prop),s.heap.IsListIter it l i->s.heap.IsList l bq->i+n<=bq.size->
 (∀h',h'.IsListIter it l (i+n)->Heap.SameBut it s.heap h'->Q ((bq.toList.drop i).take n) {s with heap:=h' })->wpAny (model prog w) A (draw (.ref it) n) Q E s
 |0,i,s,Q,a,_,_,q=>by
  show wpAny _ _ (pure []) Q E s;exact zdz (by simpa using q s.heap a (Heap.SameBut.refl ..))
 |n+1,i,s,Q,a,b,le,q=>by
  have lt:i<bq.size:=by lia
  show wpAny _ _ (pyNext (.ref it) >>= _) Q E s;refine zdy (wpAny_pyNext_list_item a b (x:=bq[i]) (by simp[lt]) fun h1 a1 s1=>?_);have b1:h1.IsList l bq:=by
   obtain⟨o,ho,r⟩:=b;exact⟨o,(s1.2 l w5).trans ho,r⟩
  refine zdy (zdA (Dn w5 n (i+1) _ _ a1 b1 (by lia) fun h2 a2 s2=>zdz ?_));have e:bq.toList.drop i=bq[i]::bq.toList.drop (i+1):=by simp[zbu,lt]
  have z:=q h2 (by rw[show i+(n+1)=i+1+n by lia];exact a2) (s1.trans s2);rw[e,List.take_succ_cons] at z;exact z
theorem Fi{l:zdv}{bq:Array zdw}{ts:List (Bool×(zdw->Sem Unit))}{Q:Unit->zdF->Prop}(hh:A.handled=none)(b:s.heap.IsList l bq)(hn:ts.length=bq.size)(Ii:ts.findIdx? (·.1)=none)
 (h:∀h',Heap.ExtBut s.heap.objs.size s.heap h'->wpAny (model prog w) A (assignInOrder (ts.map (·.2)) bq.toList) Q E {s with heap:=h' }):wpAny (model prog w) A (unpack (.ref l) ts) Q E s:=by
 have lt:l≠s.heap.objs.size:=by obtain⟨o,ho,_⟩:=b;exact zaD (Heap.lt_size ho)
 unfold unpack;rw[hn,Ii];refine zdy (zdA ?_);unfold unpackItems;refine zdy ?_;unfold notIterableAtAll;refine zdy (wpAny_specialOf b.typeIs slot_list_iter.lookup ?_);refine zdz ?_;simp only[zaA,if_false];refine zdy (zdA (wpAny_pyIter_list b ?_));have sZ:∀ {h1 h2:Heap},Heap.ExtBut s.heap.objs.size h1 h2->h1.IsList l bq->h2.IsList l bq:=fun {h1 h2} e x=>by
  obtain⟨o,ho,r⟩:=x;exact⟨o,e l o lt ho,r⟩
 have b0:(s.heap.push {cls:=.type "list_iterator",data:=.fields #[.ref l,.int 0 0]}).IsList l bq:=by
  obtain⟨o,ho,r⟩:=b;exact⟨o,Heap.get?_push_of_some _ ho,r⟩
 refine zdy (zdA (Dn lt bq.size 0 _ _ ⟨_,Heap.get?_push_size _ rfl,rfl,rfl⟩ b0 (by lia) fun h1 a1 s1=>?_));have all:List.take bq.size (List.drop 0 bq.toList)=bq.toList:=by
  rw[zdg];exact zbp (by simp)
 rw[all,if_neg (by simp)];have b1:h1.IsList l bq:=sZ s1.extBut b0;refine zdy (zdA (wpAny_pyNext_list_end hh a1 b1 (by simp) fun h2 e2=>?_));simp only[Option.isSome_none,zaA,if_false];exact zdz (h h2 fun c o hc e=>e2 c o hc (s1.extBut c o hc (Heap.get?_push_of_some _ e)))
end
def SF (K:zaa) (n:Nat) (t:Om):TG:=fun v σ H Q=>∃a xs,v=.ref a/\jc K H a xs/\xs.length=n/\t xs σ H Q
theorem SG{X:Cx}{es:List Expr}{k}{pos:Pos}{t:Om}{n:Nat}(hc:X.calm=true)(h:Vs X es t)
 (hn:(assignEach es X.env).length=n:=by rfl) (Ii:(assignEach es X.env).findIdx? (·.1)=none:=by rfl):PG X (.Tuple es k pos) (SF X.K n t):=by
 intro pins s σ H v u Q I r hw;obtain⟨a,xs,rfl,hq,hl,hw⟩:=hw;cases r;obtain⟨bq,rv,hp,_⟩:=I.list hq;rw[assign_Tuple];refine zdy (wpAny_standAt (Fi (I.ok.hd hc) hp.isList (by simp[hn,<- hl,rv.length]) Ii fun h' hx=>?_));have I1:Inv X pins σ H {s with heap:=h' }:=I.kept (t':=s.toks) fun b o e=>hx b o (zaD (Heap.lt_size e)) e;exact h pins _ σ H xs _ Q I1 (by simpa using rv) hw
theorem G0{K:zaa}{H:Hp}{α:Type}{f:α->Dp}:∀ {l:List α} {vs:List V} {i:Nat} {v:V},aD K H (l.map f) vs->vs[i]?=some v->∃x,l[i]?=some x/\Rep K H (f x) v
 |[],vs,i,v,h,e=>by
  rw[zaW,aD.bZ] at h;subst h;cases e
 |x::l,vs,i,v,h,e=>by
  rw[zaq,aD.aL] at h;obtain⟨u,r,rfl,a,b⟩:=h;cases i with
  |zero=>cases e;exact⟨x,rfl,a⟩
  |succ i=>exact G0 (l:=l) b (show r[i]?=some v from e)
def gR (val:W->Int):PM.Tr->Int
 |.num n=>n
 |.box x=>val x
 |.bin o l r=>if o=[43] then gR val l+gR val r else if o=[45] then gR val l-gR val r else gR val l*gR val r
theorem kL{K:zaa}{tl:TE}{g:TG}{tb:TS}{D:Ends}{σ:St}{H:Hp} (h:∀U:zdv->Hp->Prop,(∀a H1,(∃W:Nat->Nat->St->Hp->Prop,(∃m,W 0 m σ H1)/\∀i m σ H,W i m σ H->
 ((GC K a).stop i H/\D.nx σ H)\/((GC K a).go i H/\∃N:St->Hp->Prop,(∀σ' H',N σ' H'->∃m',m'<m/\W (i+1) m' σ' H')/\∀x H',(GC K a).Ik i H x H'->g x σ H' fun σ2 H2=>tb {D with nx:=N,ct:=N,bk:=D.nx} σ2 H2))->U a H1)->
 tl σ H fun x H1=>∃a,x=.ref a/\(∃xs,jc K H1 a xs)/\U a H1):Oq (GD K tl) g tb D σ H:=h _ fun _ _ x=>x
theorem G1{a:Option V}{r:St}{H:Hp}{Q:VK}:(fN 10 (a::r) H Q)=(fN 9 r H Q):=rfl
theorem G5{a:Option V}{r:St}{H:Hp}{Q:VK}:(fN 11 (a::r) H Q)=(fN 10 r H Q):=rfl
theorem G6{a:Option V}{r:St}{H:Hp}{Q:VK}:(fN 12 (a::r) H Q)=(fN 11 r H Q):=rfl
open PySem.SeqAt
theorem AV{X:Cx}(hu:X.A.units+1<cLine):rD X (compareOp .Eq) (fun x y H Q=>∃a b xs,x=.ref a/\y=.ref b/\jc X.K H a xs/\jc X.K H b []/\Q (.bl xs.isEmpty) H):=by
 intro pins s σ H x y v u Q I rx ry h;obtain⟨a,b,xs,rfl,rfl,h1,h2,q⟩:=h;cases (show v=Value.ref a from rx);cases (show u=Value.ref b from ry);obtain⟨bq,v1,p1,_⟩:=I.list h1;obtain⟨its',v2,p2,_⟩:=I.list h2;cases v2;cases xs with
 |nil=>
  cases v1;exact(RcAt.lists (e:=fun _=>true) p1.isList p2.isList rfl (by lia) (fun j h1=>absurd h1 (by simp))) _ _ _ _ ⟨.bl true,H,I,rfl,q⟩
 |cons z zs=>
  cases v1;exact(RcAt.lists_lengths p1.isList p2.isList (by simp) (by lia)) _ _ _ _ ⟨.bl false,H,I,rfl,q⟩
end L2
namespace PG
open PM (W Tr)
structure ui where
 name:W
 size:Int
 first:Int
inductive cD where
 |ask (k:Int) (b:W)
 |put (k:Int) (b:W) (e:Tr)
 |say (k:Int) (e:Tr)
 |bW (k:Int) (sg:W) (l r:Tr)
 |stop (k:Int)
 |ifs (k:Int) (sg:W) (l r:Tr) (a b:List cD)
 |lC (k:Int) (sg:W) (l r:Tr) (a:List cD)
def cD.row:cD->Int
 |.ask k _=>k |.put k _ _=>k |.say k _=>k |.bW k _ _ _=>k |.stop k=>k |.ifs k _ _ _ _ _=>k |.lC k _ _ _ _=>k
inductive Wd where
 |ask |put |say |bW |stop |ifs |lC |Wa |fin
 deriving DecidableEq
def cD.wd:cD->Wd
 |.ask _ _=>.ask |.put _ _ _=>.put |.say _ _=>.say |.bW _ _ _ _=>.bW |.stop _=>.stop |.ifs _ _ _ _ _ _=>.ifs |.lC _ _ _ _ _=>.lC
def OV:List W:=[[60],[61]]
abbrev Row:=Int×Wd
structure Prog where
 aA:List ui
 body:List cD
end PG
namespace PG
open PM (W Tr)
mutual
def gZ:cD->List Row
 |.ifs k _ _ _ a b=>(k,.ifs)::(cG a++cG b)
 |.lC k _ _ _ a=>(k,.lC)::cG a
 |.ask k _=>[(k,.ask)]
 |.put k _ _=>[(k,.put)]
 |.say k _=>[(k,.say)]
 |.bW k _ _ _=>[(k,.bW)]
 |.stop k=>[(k,.stop)]
def cG:List cD->List Row
 |[]=>[]
 |s::r=>gZ s++cG r
end
def plainRow (r:Row):Bool:=decide (r.2≠.Wa/\r.2≠.fin)
end PG
namespace PG
open PM (W Tr)
abbrev eJ:=Int×Wd×List Int
def bg:List cD->Int->Int
 |[],x=>x
 |s::_,_=>s.row
mutual
def gQ:cD->Int->List eJ
 |.ifs k _ _ _ a b,x=>(k,.ifs,[bg a x,bg b x])::(aI a x++aI b x)
 |.lC k _ _ _ a,x=>(k,.lC,[bg a k,x])::aI a k
 |.ask k _,x=>[(k,.ask,[x])]
 |.put k _ _,x=>[(k,.put,[x])]
 |.say k _,x=>[(k,.say,[x])]
 |.bW k _ _ _,x=>[(k,.bW,[x])]
 |.stop k,_=>[(k,.stop,[0])]
def aI:List cD->Int->List eJ
 |[],_=>[]
 |s::r,x=>gQ s (bg r x)++aI r x
end
mutual
theorem IM:∀(s:cD) (x:Int),(gQ s x).map (fun r=>(r.1,r.2.1))=gZ s
 |.ifs k _ _ _ a b,x=>by simp[gQ,gZ,dw a x,dw b x]
 |.lC k _ _ _ a,x=>by simp[gQ,gZ,dw a k]
 |.ask k _,x=>rfl
 |.put k _ _,x=>rfl
 |.say k _,x=>rfl
 |.bW k _ _ _,x=>rfl
 |.stop k,_=>rfl
theorem dw:∀(b:List cD) (x:Int),(aI b x).map (fun r=>(r.1,r.2.1))=cG b
 |[],_=>rfl
 |s::r,x=>by simp[aI,cG,IM s _,dw r x]
end
inductive Tg where
 |row (k:Int) |side (k:Int) (b:Bool) |bW (k:Int) |fin
 deriving DecidableEq
def SH (r:Row):List Tg:=(if plainRow r then [.row r.1] else [])++(if r.2=.ifs\/r.2=.lC then [.side r.1 true,.side r.1 false] else [])++(if r.2=.bW then [.bW r.1] else [])
def tE (rows:List Row):List Tg:=rows.flatMap SH++[.fin]
end PG
namespace PG
open PM (W Tr)
mutual
def LD:cD->Nat
 |.ifs _ _ _ _ a b=>max (tF a) (tF b)+1
 |.lC _ _ _ _ a=>tF a+1
 |_=>0
def tF:List cD->Nat
 |[]=>0
 |s::r=>max (LD s) (tF r)
end
end PG
namespace PG
open PM (W Tr)
section
variable(nm:W->Prop)(ex:Tr->Prop)(sg:W->Prop)
mutual
def Dq:cD->Prop
 |.ask _ b=>nm b
 |.put _ b e=>nm b/\ex e
 |.say _ e=>ex e
 |.bW _ s l r=>sg s/\ex l/\ex r
 |.stop _=>True
 |.ifs _ s l r a b=>sg s/\ex l/\ex r/\zW a/\zW b
 |.lC _ s l r a=>sg s/\ex l/\ex r/\zW a
def zW:List cD->Prop
 |[]=>True
 |s::r=>Dq s/\zW r
end
end
def rF:Tr->Nat
 |.bin _ l r=>max (rF l) (rF r)+1
 |_=>0
mutual
theorem Dr:∀(s:cD) (r:Row),r∈gZ s->r.2≠.Wa/\r.2≠.fin
 |.ifs k _ _ _ a b,r,h=>by
  rw[gZ] at h;simp only[zah,zak] at h;rcases h with rfl |h |h
  ·simp
  ·exact jD a r h
  ·exact jD b r h
 |.lC k _ _ _ a,r,h=>by
  rw[gZ] at h;simp only[zah] at h;rcases h with rfl |h
  ·simp
  ·exact jD a r h
 |.ask k _,r,h=>by simp[gZ] at h;subst h;simp
 |.put k _ _,r,h=>by simp[gZ] at h;subst h;simp
 |.say k _,r,h=>by simp[gZ] at h;subst h;simp
 |.bW k _ _ _,r,h=>by simp[gZ] at h;subst h;simp
 |.stop k,r,h=>by simp[gZ] at h;subst h;simp
theorem jD:∀(b:List cD) (r:Row),r∈cG b->r.2≠.Wa/\r.2≠.fin
 |[],r,h=>by simp[cG] at h
 |s::t,r,h=>by
  rw[cG,zak] at h;rcases h with h |h
  ·exact Dr s r h
  ·exact jD t r h
end
def LF (r:eJ):List Tg:=SH (r.1,r.2.1)
theorem OW(b:List cD)(x:Int):(aI b x).flatMap LF=(cG b).flatMap SH:=by
 rw[<- dw b x,List.flatMap_map];rfl
theorem Ds(b:List cD)(x:Int)(r:eJ)(h:r∈aI b x):r.2.1≠.Wa/\r.2.1≠.fin:=by
 have:=jD b (r.1,r.2.1) (by rw[<- dw b x];exact zal.mpr ⟨r,h,rfl⟩);exact this
theorem OX(r:Row):(SH r).length<=3:=by
 obtain⟨k,w⟩:=r;cases w<;>simp[SH,plainRow]
end PG
namespace PG
open PM (W Tr)
mutual
def kM:cD->List cD
 |.ifs k sg l r a b=>.ifs k sg l r a b::(aB a++aB b)
 |.lC k sg l r a=>.lC k sg l r a::aB a
 |s=>[s]
def aB:List cD->List cD
 |[]=>[]
 |s::r=>kM s++aB r
end
mutual
theorem IP:∀s:cD,(kM s).map (fun x=>(x.row,x.wd))=gZ s
 |.ifs k sg l r a b=>by
  rw[kM,gZ,zaq,zat,iB a,iB b];rfl
 |.lC k sg l r a=>by
  rw[kM,gZ,zaq,iB a];rfl
 |.ask k _=>rfl
 |.put k _ _=>rfl
 |.say k _=>rfl
 |.bW k _ _ _=>rfl
 |.stop k=>rfl
theorem iB:∀b:List cD,(aB b).map (fun x=>(x.row,x.wd))=cG b
 |[]=>rfl
 |s::r=>by simp[aB,cG,IP s,iB r]
end
end PG
namespace PG
open PM (W Tr)
section
variable{nm:W->Prop}{ex:Tr->Prop}{sg:W->Prop}
mutual
theorem OY:∀(s x:cD),Dq nm ex sg s->x∈kM s->Dq nm ex sg x
 |.ifs k s l r a b,x,h,m=>by
  rw[kM] at m;rcases zah.mp m with rfl |m
  ·exact h
  ·rw[Dq] at h;rcases zak.mp m with m |m
   ·exact kj a x h.2.2.2.1 m
   ·exact kj b x h.2.2.2.2 m
 |.lC k s l r a,x,h,m=>by
  rw[kM] at m;rcases zah.mp m with rfl |m
  ·exact h
  ·rw[Dq] at h;exact kj a x h.2.2.2 m
 |.ask k b,x,h,m=>by simp only[kM,zab] at m;subst m;exact h
 |.put k b e,x,h,m=>by simp only[kM,zab] at m;subst m;exact h
 |.say k e,x,h,m=>by simp only[kM,zab] at m;subst m;exact h
 |.bW k s l r,x,h,m=>by simp only[kM,zab] at m;subst m;exact h
 |.stop k,x,h,m=>by simp only[kM,zab] at m;subst m;exact h
theorem kj:∀(b:List cD) (x:cD),zW nm ex sg b->x∈aB b->Dq nm ex sg x
 |[],x,_,m=>by simp[aB] at m
 |s::r,x,h,m=>by
  rw[aB] at m;rw[zW] at h;rcases zak.mp m with m |m
  ·exact OY s x h.1 m
  ·exact kj r x h.2 m
end
end
end PG
namespace PG
open PM (W Tr)
def kN (bs:List ui):Tr->Prop
 |.num n=>0<=n/\n<1000
 |.box x=>x∈bs.map (·.name)
 |.bin o l r=>o∈([[43],[45],[42]]:List W)/\kN bs l/\kN bs r
end PG
namespace PG
def oh (r:eJ):Prop:=0<r.2.2.length/\(r.2.1=.ifs\/r.2.1=.lC->1<r.2.2.length)
mutual
theorem IQ:∀(s:cD) (x:Int),∀r∈gQ s x,oh r
 |.ifs k sg l r a b,x,y,h=>by
  rw[gQ] at h;simp only[zah,zak] at h;rcases h with rfl |h |h
  ·simp[oh]
  ·exact jd a x y h
  ·exact jd b x y h
 |.lC k sg l r a,x,y,h=>by
  rw[gQ] at h;simp only[zah] at h;rcases h with rfl |h
  ·simp[oh]
  ·exact jd a k y h
 |.ask k _,x,y,h=>by simp[gQ] at h;subst h;simp[oh]
 |.put k _ _,x,y,h=>by simp[gQ] at h;subst h;simp[oh]
 |.say k _,x,y,h=>by simp[gQ] at h;subst h;simp[oh]
 |.bW k _ _ _,x,y,h=>by simp[gQ] at h;subst h;simp[oh]
 |.stop k,x,y,h=>by simp[gQ] at h;subst h;simp[oh]
theorem jd:∀(b:List cD) (x:Int),∀r∈aI b x,oh r
 |[],x,y,h=>by simp[aI] at h
 |s::r,x,y,h=>by
  rw[aI,zak] at h;rcases h with h |h
  ·exact IQ s _ y h
  ·exact jd r x y h
end
end PG
namespace PG
theorem pT:∀(b:List cD) (x:Int),bg b x=x\/∃t∈aB b,t.row=bg b x
 |[],x=>.inl rfl
 |s::r,x=>.inr ⟨s,by rw[aB];exact zaN _ (by cases s<;>simp[kM]),rfl⟩
mutual
theorem LG:∀(s:cD) (x:Int),∀r∈gQ s x,∀w∈r.2.2,w=0\/w=x\/∃t∈kM s,t.row=w
 |.ifs k sg l r a b,x,y,h,w,hw=>by
  rw[gQ] at h;simp only[zah,zak] at h;rw[kM];rcases h with rfl |h |h
  ·simp only[zah,List.mem_nil_iff,or_false] at hw;rcases hw with rfl |rfl
   ·rcases pT a x with e |⟨t,ht,e⟩
    ·exact .inr (.inl e)
    ·exact .inr (.inr ⟨t,by simp[ht],e⟩)
   ·rcases pT b x with e |⟨t,ht,e⟩
    ·exact .inr (.inl e)
    ·exact .inr (.inr ⟨t,by simp[ht],e⟩)
  ·rcases pU a x y h w hw with e |e |⟨t,ht,e⟩
   ·exact .inl e
   ·exact .inr (.inl e)
   ·exact .inr (.inr ⟨t,by simp[ht],e⟩)
  ·rcases pU b x y h w hw with e |e |⟨t,ht,e⟩
   ·exact .inl e
   ·exact .inr (.inl e)
   ·exact .inr (.inr ⟨t,by simp[ht],e⟩)
 |.lC k sg l r a,x,y,h,w,hw=>by
  rw[gQ] at h;simp only[zah] at h;rw[kM];have self:w=k->∃t∈(cD.lC k sg l r a::aB a),t.row=w:=fun e=>⟨_,zan ..,e.symm⟩
  rcases h with rfl |h
  ·simp only[zah,List.mem_nil_iff,or_false] at hw;rcases hw with rfl |rfl
   ·rcases pT a k with e |⟨t,ht,e⟩
    ·exact .inr (.inr (self e))
    ·exact .inr (.inr ⟨t,by simp[ht],e⟩)
   ·exact .inr (.inl rfl)
  ·rcases pU a k y h w hw with e |e |⟨t,ht,e⟩
   ·exact .inl e
   ·exact .inr (.inr (self e))
   ·exact .inr (.inr ⟨t,by simp[ht],e⟩)
 |.ask k _,x,y,h,w,hw=>by simp[gQ] at h;subst h;simp at hw;exact .inr (.inl hw)
 |.put k _ _,x,y,h,w,hw=>by simp[gQ] at h;subst h;simp at hw;exact .inr (.inl hw)
 |.say k _,x,y,h,w,hw=>by simp[gQ] at h;subst h;simp at hw;exact .inr (.inl hw)
 |.bW k _ _ _,x,y,h,w,hw=>by simp[gQ] at h;subst h;simp at hw;exact .inr (.inl hw)
 |.stop k,x,y,h,w,hw=>by simp[gQ] at h;subst h;simp at hw;exact .inl hw
theorem pU:∀(b:List cD) (x:Int),∀r∈aI b x,∀w∈r.2.2,w=0\/w=x\/∃t∈aB b,t.row=w
 |[],x,y,h,_,_=>by simp[aI] at h
 |s::r,x,y,h,w,hw=>by
  rw[aI,zak] at h;rw[aB];rcases h with h |h
  ·rcases LG s _ y h w hw with e |e |⟨t,ht,e⟩
   ·exact .inl e
   ·rcases pT r x with e2 |⟨t,ht,e2⟩
    ·exact .inr (.inl (e.trans e2))
    ·exact .inr (.inr ⟨t,zav _ ht,e2.trans e.symm⟩)
   ·exact .inr (.inr ⟨t,zaN _ ht,e⟩)
  ·rcases pU r x y h w hw with e |e |⟨t,ht,e⟩
   ·exact .inl e
   ·exact .inr (.inl e)
   ·exact .inr (.inr ⟨t,zav _ ht,e⟩)
end
def OZ (b:List cD) (row:Int):Nat:=(aB b).findIdx (fun s=>s.row==row)
theorem G7{b:List cD}(pw:(aB b).Pairwise (fun a b=>a.row<b.row))(i:Nat)(hi:i<(aB b).length):OZ b (aB b)[i].row=i:=by
 unfold OZ;rw[List.findIdx_eq hi];refine⟨by simp,fun j hj=>?_⟩;have:=zb4.mp pw j i (by lia) hi hj;simp only[beq_eq_false_iff_ne,ne_eq];lia
inductive gS where
 |on |out |bW (row:Int) |fin
deriving DecidableEq
section
variable(ask:Int->Bool)(step:Int->List Int->Int->Option (Int×List Int)×Option Int)
def take1 (a:Bool) (aU:List Int):Option (Int×List Int):=if a then (match aU with |[]=>none |f::r=>some (f,r)) else some (0,aU)
def endAt (row:Int):Option gS:=if row=0 then some .fin else none
def Ag (row:Int) (vals left:List Int):Option Int×List Int×Int×List Int×Option gS:=match take1 (ask row) left with
 |none=>(none,left,row,vals,some .out)
 |some (f,r)=>match step row vals f with
  |(none,s)=>(s,r,row,vals,some (.bW row))
  |(some x,s)=>(s,r,x.1,x.2,endAt x.1)
end
end PG
namespace L2
open PG
open PySem
def rZ:Wd->Str
 |.ask=>"ask" |.put=>"put" |.say=>"say" |.bW=>"must" |.stop=>"stop" |.ifs=>"if" |.lC=>"while" |.Wa=>"else" |.fin=>"end"
mutual
def fI:cD->Dp
 |.ask k b=>.tup [.str "ask",.int k,.str (S b)]
 |.put k b e=>.tup [.str "put",.int k,.str (S b),pA e]
 |.say k e=>.tup [.str "say",.int k,pA e]
 |.bW k sg l r=>.tup [.str "must",.int k,.str (S sg),pA l,pA r]
 |.stop k=>.tup [.str "stop",.int k]
 |.ifs k sg l r a b=>.tup [.str "if",.int k,.str (S sg),pA l,pA r,.lst (xv a),.lst (xv b)]
 |.lC k sg l r a=>.tup [.str "while",.int k,.str (S sg),pA l,pA r,.lst (xv a)]
def xv:List cD->List Dp
 |[]=>[]
 |s::r=>fI s::xv r
end
theorem mP:∀l:List cD,xv l=l.map fI
 |[]=>rfl
 |s::r=>by rw[xv,mP r];rfl
def j0 (b:ui):Dp:=.tup [.str (S b.name),.int b.size,.int b.first]
def my (p:PG.Prog):Dp:=.tup [.lst (p.aA.map j0),.lst (p.body.map fI)]
def g7:Tg->Dp
 |.row k=>.tup [.str "row",.int k]
 |.side k b=>.tup [.str "side",.int k,.bl b]
 |.bW k=>.tup [.str "must",.int k]
 |.fin=>.tup [.str "end"]
def bB (O:zdv->Prop) (H H':Hp):Prop:=∀b o,¬O b->H b=some o->H' b=some o
def Fix (K:zaa) (O:zdv->Prop) (H:Hp) (d:Dp) (v:V):Prop:=∀H',bB O H H'->Rep K H' d v
def jV (K:zaa) (O:zdv->Prop) (H:Hp) (ds:List Dp) (vs:List V):Prop:=∀H',bB O H H'->aD K H' ds vs
section
variable{K:zaa}{O O':zdv->Prop}{H H1 H2:Hp}{d:Dp}{ds:List Dp}{v:V}{vs:List V}{p:zdv}{o:HO}
theorem bB.refl:bB O H H:=fun _ _ _ e=>e
theorem bB.trans(a:bB O H H1)(b:bB O H1 H2):bB O H H2:=fun c u n e=>b c u n (a c u n e)
theorem bB.of(s:aq H H1):bB O H H1:=fun b u _ e=>s b u e
theorem bB.mono(a:bB O H H1)(i:∀b,O b->O' b):bB O' H H1:=fun b u n e=>a b u (fun z=>n (i b z)) e
theorem bB.one(a:aS p H H1)(hp:O p):bB O H H1:=fun b u n e=>a b u (fun z=>n (by rw[z];exact hp)) e
theorem bB.put(a:bB O H H1)(hp:O p)(u:HO):bB O H (upd H1 p u):=fun b w n e=>by rw[au (fun z=>n (by rw[z];exact hp))];exact a b w n e
theorem Fix.up(f:Fix K O H d v)(u:bB O H H1):Fix K O H1 d v:=fun H2 u2=>f H2 (u.trans u2)
theorem jV.up(f:jV K O H ds vs)(u:bB O H H1):jV K O H1 ds vs:=fun H2 u2=>f H2 (u.trans u2)
theorem jV.Wb(f:jV K O H ds vs):aD K H ds vs:=f H .refl
theorem jV.nil:jV K O H [] []:=fun _ _=>.nil
theorem jV.cons(a:Fix K O H d v)(b:jV K O H ds vs):jV K O H (d::ds) (v::vs):=fun H2 u=>.cons (a H2 u) (b H2 u)
theorem jV.snoc(b:jV K O H ds vs)(a:Fix K O H d v):jV K O H (ds++[d]) (vs++[v]):=fun H2 u=>(b H2 u).append (.cons (a H2 u) .nil)
theorem Fix.int{i:Int}:Fix K O H (.int i) (.int i):=fun _ _=>Rep.bO.mpr rfl
theorem Fix.str{x:Str}:Fix K O H (.str x) (.str x):=fun _ _=>Rep.cF.mpr rfl
theorem Fix.bl{x:Bool}:Fix K O H (.bl x) (.bl x):=fun _ _=>Rep.kK.mpr rfl
theorem Fix.tup(h:H p=some (.tup vs))(n:¬O p)(f:jV K O H ds vs):Fix K O H (.tup ds) (.ref p):=fun H2 u=>Rep.bE.mpr ⟨p,vs,rfl,.of (u p _ n h),f H2 u⟩
end
end L2
namespace L2
open PG
open PySem
theorem G8{a:Option V}{r:St}{H:Hp}{Q:VK}:(fN 13 (a::r) H Q)=(fN 12 r H Q):=rfl
theorem G9{a:Option V}{r:St}{H:Hp}{Q:VK}:(fN 14 (a::r) H Q)=(fN 13 r H Q):=rfl
theorem lF{X:Cx}{K:zaa}(h:X.K=K):Yc X (Sk K):=h▸aR
def aP:cD->List (List cD)
 |.ifs _ _ _ _ a b=>[a,b]
 |.lC _ _ _ _ a=>[a]
 |_=>[]
def iR (s:cD) (x:Int):Int:=match s with
 |.lC k _ _ _ _=>k
 |_=>x
def pV (s:cD) (x:Int):List Int:=match s with
 |.stop _=>[0]
 |.ifs _ _ _ _ a b=>[bg a x,bg b x]
 |.lC k _ _ _ a=>[bg a k,x]
 |_=>[x]
theorem LH(s:cD)(x:Int):gQ s x=(s.row,s.wd,pV s x)::((aP s).flatMap fun b=>aI b (iR s x)):=by
 cases s<;>simp[gQ,cD.row,cD.wd,pV,aP,iR]
def fR (r:eJ):Dp:=.tup [.int r.1,.str (rZ r.2.1),.tup (r.2.2.map .int)]
section
variable(K:zaa)
inductive lG(vs:List V)(H:Hp)(Q:VK)(E:XK):Prop
 |mk (b:zdv) (body:List cD) (x:Int):vs=[.ref b,.int x]->Rep K H (.lst (body.map fI)) (.ref b)->body.length<=100000->Q (.int (bg body x)) H->lG vs H Q E
inductive yr(vs:List V)(H:Hp)(Q:VK)(E:XK):Prop
 |mk (v:V) (st:cD) (x:Int):vs=[v,.int x]->Rep K H (fI st) v->Q (.int (iR st x)) H->yr vs H Q E
inductive uQ(vs:List V)(H:Hp)(Q:VK)(E:XK):Prop
 |mk (v:V) (st:cD) (H0:Hp):vs=[v]->Rep K H0 (fI st) v->aq H0 H->(∀l us H',aq H H'->H l=none->H' l=some (.lst us)->aD K H0 ((aP st).map fun b=>.lst (b.map fI)) us->Q (.ref l) H')->uQ vs H Q E
end
theorem je{K:zaa}{H:Hp}:∀(s:cD) {v:V},Rep K H (fI s) v->∃a ys,v=.ref a/\bQ K H a (.str (rZ s.wd) :: .int s.row::ys):=by
 intro s v h;have key:∃ds,fI s=.tup (.str (rZ s.wd) :: .int s.row::ds):=by
  cases s<;>exact⟨_,by rw[fI];rfl⟩
 obtain⟨ds,e⟩:=key;rw[e,Rep.bE] at h;obtain⟨a,xs,rfl,q,r⟩:=h;rw[aD.aL] at r;obtain⟨v1,t1,rfl,e1,r⟩:=r;rw[aD.aL] at r;obtain⟨v2,t2,rfl,e2,_⟩:=r;rw[Rep.cF] at e1;rw[Rep.bO] at e2;subst e1 e2;exact⟨a,t2,rfl,q⟩
section
variable(K:zaa)
def LI (st:cD):Prop:=∀b∈aP st,b.length<=100000
inductive Fj(vs:List V)(H:Hp)(Q:VK)(E:XK):Prop
 |mk (v:V) (st:cD) (x:Int):vs=[v,.int x]->Rep K H (fI st) v->LI st->(∀u H',aq H H'->Rep K H' (.tup ((pV st x).map .int)) u->Q u H')->Fj vs H Q E
end
mutual
def IS:Dp->Bool
 |.lst _=>false
 |.tup l=>pW l
 |_=>true
def pW:List Dp->Bool
 |[]=>true
 |d::r=>IS d&&pW r
end
section
variable{K:zaa}{H H':Hp}{tl:zdv}{xs:List V}
mutual
theorem Dt(h:H tl=some (.lst xs))(u:bB (·=tl) H H'):∀(d:Dp) (v:V),IS d=true->Rep K H d v->Rep K H' d v
 |.dR,v,_,r=>by rw[Rep.qR] at r ⊢;exact r
 |.bl b,v,_,r=>by rw[Rep.kK] at r ⊢;exact r
 |.int b,v,_,r=>by rw[Rep.bO] at r ⊢;exact r
 |.str b,v,_,r=>by rw[Rep.cF] at r ⊢;exact r
 |.lst l,v,e,_=>by rw[IS] at e;cases e
 |.tup l,v,e,r=>by
  rw[IS] at e;rw[Rep.bE] at r ⊢;obtain⟨a,ys,rfl,q,rs⟩:=r;refine⟨a,ys,rfl,?_,vY h u l ys e rs⟩;rcases q with (q |⟨o,q⟩) |q
  ·exact .inl (.inl (u _ _ (cE q h (by intro z;cases z)) q))
  ·exact .inl (.inr ⟨o,u _ _ (cE q h (by intro z;cases z)) q⟩)
  ·exact .inr q
theorem vY(h:H tl=some (.lst xs))(u:bB (·=tl) H H'):∀(ds:List Dp) (vs:List V),pW ds=true->aD K H ds vs->aD K H' ds vs
 |[],vs,_,r=>by rw[aD.bZ] at r ⊢;exact r
 |d::ds,vs,e,r=>by
  rw[pW,zbh] at e;rw[aD.aL] at r ⊢;obtain⟨v,t,rfl,r1,r2⟩:=r;exact⟨v,t,rfl,Dt h u d v e.1 r1,vY h u ds t e.2 r2⟩
end
theorem Ha(h:H tl=some (.lst xs)){ds:List Dp}{vs:List V}(e:pW ds=true)(r:aD K H ds vs):jV K (·=tl) H ds vs:=fun _ u=>vY h u ds vs e r
theorem SI(h:H tl=some (.lst xs)){d:Dp}{v:V}(e:IS d=true)(r:Rep K H d v):Fix K (·=tl) H d v:=fun _ u=>Dt h u d v e r
end
theorem vZ:∀l:List Int,pW (l.map .int)=true
 |[]=>by simp[pW]
 |i::r=>by rw[zaq,pW,vZ r];simp[IS]
theorem LJ(r:eJ):IS (fR r)=true:=by simp[fR,IS,pW,vZ]
theorem v7:∀l:List eJ,pW (l.map fR)=true
 |[]=>by simp[pW]
 |r::l=>by rw[zaq,pW,LJ,v7 l];rfl
section
variable(K:zaa)
inductive uR(n:Nat)(vs:List V)(H:Hp)(Q:VK)(E:XK):Prop
 |mk (b:zdv) (body:List cD) (x:Int):vs=[.ref b,.int x]->Rep K H (.lst (body.map fI)) (.ref b)->tF body<n->(cG body).length<=1000->(∀l us H',aq H H'->H l=none->H' l=some (.lst us)->aD K H' ((aI body x).map fR) us->Q (.ref l) H')->uR n vs H Q E
end
mutual
theorem om:∀(s:cD) (b:List cD),b∈aP s->(cG b).length+1<=(gZ s).length/\tF b+1<=LD s
 |.ifs k _ _ _ x y,b,h=>by
  simp only[aP,zah,zaH,or_false] at h;rw[gZ,LD];simp only[zap,zaf];rcases h with rfl |rfl<;>lia
 |.lC k _ _ _ x,b,h=>by
  simp only[aP,zah,zaH,or_false] at h;rw[gZ,LD];simp only[zap];subst h;lia
 |.ask _ _,b,h=>by cases h
 |.put _ _ _,b,h=>by cases h
 |.say _ _,b,h=>by cases h
 |.bW _ _ _ _,b,h=>by cases h
 |.stop _,b,h=>by cases h
end
theorem v9:∀(l:List cD) (s:cD),s∈l->(gZ s).length<=(cG l).length/\LD s<=tF l
 |[],s,h=>by cases h
 |a::r,s,h=>by
  rw[cG,tF,zaf];rcases zah.mp h with rfl |h
  ·lia
  ·have:=v9 r s h;lia
theorem IT(s:cD):1<=(gZ s).length:=by cases s<;>simp[gZ]
theorem mQ:∀l:List cD,l.length<=(cG l).length
 |[]=>zaK _
 |s::r=>by
  rw[cG,zaf,zap];have:=IT s;have:=mQ r;lia
section
variable(K:zaa)
def yt:Sp:=fun vs H Q _=>∃(v:V) (pr:PG.Prog),vs=[v]/\Rep K H (my pr) v/\tF pr.body<=3/\(cG pr.body).length<=1000/\
 ∀l us H',aq H H'->H l=none->H' l=some (.lst us)->aD K H' ((aI pr.body 0).map fR) us->Q (.ref l) H'
def IU:Sp:=fun vs H Q _=>∃(v:V) (pr:PG.Prog),vs=[v]/\Rep K H (my pr) v/\tF pr.body<=3/\(cG pr.body).length<=1000/\
 ∀l us H',aq H H'->H l=none->H' l=some (.lst us)->aD K H' ((tE (cG pr.body)).map g7) us->Q (.ref l) H'
end
end L2
namespace L2
open PG
open PySem
section
variable{X:Cx}
def SJ (K:zaa):R2:=fun x y H Q=>∃d,Rep K H d x/\Rep K H d y/\(∃l,d=.lst l)/\d.deep<=60/\Q (.bl true) H
theorem O0(hu:X.A.units+64<cLine):rD X (compareOp .Eq) (SJ X.K):=by
 intro pins s σ H x y v u Q I rx ry h;obtain⟨d,h1,h2,⟨l,rfl⟩,hd,q⟩:=h;rw[Rep.bN] at h1 h2;obtain⟨p,xs,rfl,q1,w1⟩:=h1;obtain⟨p',ZP,rfl,q2,w2⟩:=h2;cases (show v=Value.ref p from rx);cases (show u=Value.ref p' from ry);obtain⟨bq,v1,t1,_⟩:=I.list q1;obtain⟨its',v2,t2,_⟩:=I.list q2;unfold Dp.deep at hd;have items:=pR I w1 w2 v1 v2 (A:=X.A.in1) (by show X.A.units+1+_<_;lia);have n1:bq.length=its'.length:=by rw[<- v1.length,<- v2.length,w1.length,w2.length]
 refine SeqAt.eq_listAt (e:=fun _=>true) t1.isList t2.isList (by simpa using n1) (by lia) (fun j h1 h2=>items j bq[j] its'[j] (by simp at h1;simp[h1]) (by simp at h2;simp[h2])) ?_;rw[all_true];exact⟨.bl true,H,I,rfl,q⟩
end
structure O1(K:zaa)(H H2:Hp)(tl:zdv)(H3:Hp)(us:List V)(pre:List Tg):Prop where
 s:aq H H3
 u:bB (·=tl) H2 H3
 y:H3 tl=some (.lst us)
 f:jV K (·=tl) H3 (pre.map g7) us
 l:us.length=pre.length
section
variable{K:zaa}{H H2 H3 H4:Hp}{tl p:zdv}{us vs:List V}{pre:List Tg}{ds:List Dp}{g:Tg}
theorem O1.same(a:O1 K H H2 tl H3 us pre)(s:aq H3 H4):O1 K H H2 tl H4 us pre:=⟨a.s.trans s,a.u.trans (.of s),s _ _ a.y,a.f.up (.of s),a.l⟩
theorem O1.app(a:O1 K H H2 tl H3 us pre)(ht:H tl=none)(hp:H3 p=none)(hg:g7 g=.tup ds)(hv:∀Hx,jV K (·=tl) Hx ds vs) :
 O1 K H H2 tl (upd (upd H3 p (.tup vs)) tl (.lst (us++[.ref p]))) (us++[.ref p]) (pre++[g]):=by
 have b:=a.same (aq.new hp (.tup vs));have np:p≠tl:=(aj a.y hp).symm;have t:(upd H3 p (.tup vs)) p=some (.tup vs):=ah;generalize upd H3 p (.tup vs)=H5 at *;have uu:bB (·=tl) H5 (upd H5 tl (.lst (us++[.ref p]))):=bB.refl.put (O:=(·=tl)) rfl _;refine⟨fun z o e=>by rw[au (aj e ht)];exact b.s z o e,b.u.trans uu,ah,?_,by simp[a.l]⟩;rw[zat];refine(b.f.snoc (d:=g7 g) (v:=.ref p) ?_).up uu;rw[hg];exact Fix.tup t np (hv _)
end
theorem O3{K:zaa}{O:zdv->Prop}{H2:Hp}{fl:List eJ}{fv:List V}(g2:jV K O H2 (fl.map fR) fv){i:Nat}{y:V}(hi:fv[i]?=some y)(li:i<fl.length) :
 ∃a,y=.ref a/\∀H',bB O H2 H'->∃t,bQ K H' a (.int fl[i].1 :: .str (rZ fl[i].2.1)::t):=by
 have key:∀H',bB O H2 H'->∃a t,y=.ref a/\bQ K H' a (.int fl[i].1 :: .str (rZ fl[i].2.1)::t):=fun H' u=>by
  obtain⟨v',Iu,rv⟩:=(g2 H' u).get (i:=i) (d:=fR fl[i]) (by rw[zao,zae li];rfl);rw[hi] at Iu;cases Iu;unfold fR at rv;rw[Rep.bE] at rv;obtain⟨a,xs,rfl,hx,rs⟩:=rv;rw[aD.aL] at rs;obtain⟨v1,t1,rfl,r1,rs⟩:=rs;rw[aD.aL] at rs;obtain⟨v2,t2,rfl,r2,rs⟩:=rs;rw[Rep.bO] at r1;rw[Rep.cF] at r2;subst r1 r2;exact⟨a,t2,rfl,hx⟩
 obtain⟨a,_,rfl,_⟩:=key H2 .refl;refine⟨a,rfl,fun H' u=>?_⟩;obtain⟨a',t,e,h⟩:=key H' u;cases e;exact⟨t,h⟩
theorem Hb:∀w:Wd,Yd (V.str (rZ w)) [V.str (zac "if"),V.str (zac "while")]=decide (w=.ifs\/w=.lC):=by
 intro w;cases w<;>decide +kernel
theorem wb:∀w:Wd,(V.str (rZ w)=V.str (zac "must"))↔w=.bW:=by
 intro w;cases w<;>decide +kernel
theorem Fl{kvs:List (Key×V)}{k:Key}{v:V}(h:k ∉ kvs.map (·.1)):putK kvs k v=kvs++[(k,v)]:=by
 unfold putK;rw[if_neg];intro z;rw[zbz] at z;obtain⟨x,hx,e⟩:=z;exact h (zal.mpr ⟨x,hx,of_decide_eq_true e⟩)
theorem tG:∀(more kvs:List (Key×V)),((kvs++more).map (·.1)).Nodup->nY kvs more=kvs++more
 |[],kvs,_=>by simp[nY]
 |p::r,kvs,h=>by
  have hp:p.1 ∉ kvs.map (·.1):=fun z=>by
   rw[zat,za6] at h;exact h.2.2 _ z _ (by simp) rfl
  show nY (putK kvs p.1 p.2) r=_;rw[Fl hp,tG r _ (by rw[zaV];exact h),zaV];rfl
def j3 (ss:List cD) (vs:List V):List (Key×V):=zbc (fun s v=>(Sum.inl s.row,v)) ss vs
theorem yu:∀(ss:List cD) (vs:List V),vs.length=ss.length->(j3 ss vs).map (·.1)=ss.map fun s=>(Sum.inl s.row:Key)
 |[],[],_=>rfl
 |[],_::_,h=>by simp at h
 |_::_,[],h=>by simp at h
 |s::ss,v::vs,h=>by
  show _::(j3 ss vs).map (·.1)=_;rw[yu ss vs (by simpa using h)];rfl
theorem yv{ss:List cD}(h:ss.Pairwise fun a b=>a.row<b.row):(ss.map fun s=>(Sum.inl s.row:Key)).Nodup:=by
 refine zbd.mpr (h.imp fun {a b} Rb e=>?_);have:=Sum.inl.inj e;lia
theorem uS:∀(ss:List cD) (vs:List V),vs.length=ss.length->ss.Pairwise (fun a b=>a.row<b.row)->∀i (hi:i<ss.length) v,vs[i]?=some v->bL (j3 ss vs) (.inl ss[i].row)=some v
 |[],_,_,_,i,hi,_,_=>by simp at hi
 |_::_,[],h,_,_,_,_,_=>by simp at h
 |s::ss,v::vs,h,hp,0,hi,u,hu=>by
  simp at hu;subst hu;show bL ((_,v)::j3 ss vs) _=_;exact cu rfl
 |s::ss,v::vs,h,hp,i+1,hi,u,hu=>by
  rw[zbO] at hp;have lt:=hp.1 (ss[i]'(by simpa using hi)) (zas _);show bL ((.inl s.row,v)::j3 ss vs) (.inl (ss[i]'(by simpa using hi)).row)=_;rw[cA (fun e=>by have e:=Sum.inl.inj e;lia)];exact uS ss vs (by simpa using h) hp.2 i (by simpa using hi) u (by simpa using hu)
theorem O4(s:cD):kM s=s::(aP s).flatMap aB:=by
 cases s<;>simp[kM,aP]
section
variable(K:zaa)
inductive kl(n:Nat)(vs:List V)(H:Hp)(Q:VK)(E:XK):Prop
 |mk (b:zdv) (body:List cD) (H0:Hp):vs=[.ref b]->aq H0 H->Rep K H0 (.lst (body.map fI)) (.ref b)->tF body<n->(cG body).length<=1000->(∀l us H',aq H H'->H l=none->H' l=some (.lst us)->aD K H0 ((aB body).map fI) us->Q (.ref l) H')->kl n vs H Q E
end
theorem pX:∀a b:List cD,aB (a++b)=aB a++aB b
 |[],b=>by simp[aB]
 |s::r,b=>by
  show aB (s::(r++b))=_;rw[aB,aB,L2.pX r b,zaV]
theorem LK(s:cD):aB [s]=kM s:=by rw[aB,aB,zaG]
theorem Du(b:List cD):(aB b).length=(cG b).length:=by rw[<- iB,zad]
section
variable{K:zaa}{H H':Hp}{O:zdv->Prop}
theorem IV(hO:∀g,O g->∃ys,H g=some (.lst ys))(u:bB O H H'){a:zdv}{ys:List V}(q:bQ K H a ys):bQ K H' a ys:=by
 rcases q with (q |⟨o,q⟩) |q
 ·exact .inl (.inl (u _ _ (fun z=>by obtain⟨_,e⟩:=hO a z;rw[e] at q;cases q) q))
 ·exact .inl (.inr ⟨o,u _ _ (fun z=>by obtain⟨_,e⟩:=hO a z;rw[e] at q;cases q) q⟩)
 ·exact .inr q
mutual
theorem AW(hO:∀g,O g->∃ys,H g=some (.lst ys))(u:bB O H H'):∀(d:Dp) (v:V),IS d=true->Rep K H d v->Rep K H' d v
 |.dR,v,_,r=>by rw[Rep.qR] at r ⊢;exact r
 |.bl b,v,_,r=>by rw[Rep.kK] at r ⊢;exact r
 |.int b,v,_,r=>by rw[Rep.bO] at r ⊢;exact r
 |.str b,v,_,r=>by rw[Rep.cF] at r ⊢;exact r
 |.lst l,v,e,_=>by rw[IS] at e;cases e
 |.tup l,v,e,r=>by
  rw[IS] at e;rw[Rep.bE] at r ⊢;obtain⟨a,ys,rfl,q,rs⟩:=r;exact⟨a,ys,rfl,IV hO u q,tH hO u l ys e rs⟩
theorem tH(hO:∀g,O g->∃ys,H g=some (.lst ys))(u:bB O H H'):∀(ds:List Dp) (vs:List V),pW ds=true->aD K H ds vs->aD K H' ds vs
 |[],vs,_,r=>by rw[aD.bZ] at r ⊢;exact r
 |d::ds,vs,e,r=>by
  rw[pW,zbh] at e;rw[aD.aL] at r ⊢;obtain⟨v,t,rfl,r1,r2⟩:=r;exact⟨v,t,rfl,AW hO u d v e.1 r1,tH hO u ds t e.2 r2⟩
end
end
theorem tI{K:zaa}{a D:zdv}{xs:List V}{te:TE}{Q:VK}{r:St}{H:Hp}(Pv:Nat->List V->Hp->Prop)(hS:jc K H a xs)(hl:xs.length<=16000000)(hD:H D=none)(h0:Pv 0 [] (upd H D (.lst [])))
 (step:∀i x ys H2,xs[i]?=some x->aq H H2->H2 D=some (.lst ys)->ys.length=i->Pv i ys H2->∀R:VK,(∀v H3,aq H2 H3->Pv (i+1) (ys++[v]) (upd H3 D (.lst (ys++[v])))->R v H3)->te (some x::r) H2 R)
 (q:∀ys H2,aq H H2->H2 D=some (.lst ys)->Pv xs.length ys H2->Q (.ref D) H2):pQ (GC K a) D (dW 0) xu te Q (none::r) (upd H D (.lst [])):=by
 refine⟨fun i m τ H2=>m=xs.length-i/\i<=xs.length/\(∃x,τ=x::r)/\aq H H2/\∃ys,H2 D=some (.lst ys)/\ys.length=i/\Pv i ys H2,⟨xs.length,by simp,zaK _,⟨none,rfl⟩,aq.new hD _,[],ah,rfl,h0⟩,?_⟩
 rintro i m τ H2 ⟨rfl,hi,⟨x,rfl⟩,s2,ys,h2,ly,p2⟩
 by_cases rV:i<xs.length
 ·refine .inr ⟨⟨xs,xs[i],s2.seq hS,by simp[rV]⟩,fun τ' H'=>(∃x,τ'=x::r)/\aq H H'/\∃ys,H' D=some (.lst ys)/\ys.length=i+1/\Pv (i+1) ys H',fun τ' H' ⟨h1,h3,h4⟩=>⟨xs.length-(i+1),by lia,rfl,rV,h1,h3,h4⟩,fun y H' hy=>?_⟩;obtain⟨rfl,hy⟩:=hy;have ey:=hy _ (s2.seq hS);simp only[dW,za8,xu];rw[if_pos trivial];refine step i y ys _ ey s2 h2 ly p2 _ fun v H3 s3 p3=>⟨ys,s3 _ _ h2,?_,⟨_,rfl⟩,?_,ys++[v],ah,by simp[ly],p3⟩
  ·have:zdD=2 ^ 24:=rfl;lia
  ·intro b o e;rw[au (aj e hD)];exact s3 _ _ (s2 _ _ e)
 ·have e:i=xs.length:=by lia
  subst e;exact .inl ⟨⟨xs,s2.seq hS,zag _⟩,q ys H2 s2 h2 p2⟩
end L2
namespace L2
open PG
open PySem
theorem LL{K:zaa}{H:Hp}{fl:List eJ}{fv:List V}(g2:aD K H (fl.map fR) fv){i:Nat}{y:V}(hi:fv[i]?=some y)(li:i<fl.length) :
 ∃a p,y=.ref a/\bQ K H a [.int fl[i].1,.str (rZ fl[i].2.1),.ref p]/\bQ K H p (fl[i].2.2.map V.int):=by
 obtain⟨v',Iu,rv⟩:=g2.get (i:=i) (d:=fR fl[i]) (by rw[zao,zae li];rfl);rw[hi] at Iu;cases Iu;unfold fR at rv;rw[Rep.bE] at rv;obtain⟨a,xs,rfl,hx,rs⟩:=rv;rw[aD.aL] at rs;obtain⟨v1,t1,rfl,r1,rs⟩:=rs;rw[aD.aL] at rs;obtain⟨v2,t2,rfl,r2,rs⟩:=rs;rw[aD.aL] at rs;obtain⟨v3,t3,rfl,r3,rs⟩:=rs;rw[aD.bZ] at rs;rw[Rep.bO] at r1;rw[Rep.cF] at r2;obtain⟨p,ys,rfl,hp,ry⟩:=Rep.bE.mp r3;subst r1 r2 rs;have key:∀ {l:List Int} {ys:List V},aD K H (l.map Dp.int) ys->ys=l.map V.int:=by
  intro l
  induction l with
  |nil=>intro ys h;rw[zaW,aD.bZ] at h;exact h
  |cons i r ih=>
   intro ys h;rw[zaq,aD.aL] at h;obtain⟨v,t,rfl,h1,h2⟩:=h;rw[Rep.bO] at h1;rw[h1,ih h2];rfl
 rw[key ry] at hp;exact⟨a,p,rfl,hx,hp⟩
end L2
namespace L3
open PG
open PySem PyProof.Rows
theorem O5:typeLookup (.type "list") "keys"=pure none:=by rw[typeLookup_type,builtinLookup_eq_fast];kernel_rfl
theorem O6:typeLookup (.type "list") "__getattr__"=pure none:=by rw[typeLookup_type,builtinLookup_eq_fast];kernel_rfl
section
variable{prog:zdH}{w:zdx}{A:zdG}{E:zdw->zdF->Prop}
theorem LM(a:zdv)(u:Tok){hp:Heap}{g:Array GenState}{d:Drawn}{tk:Nat}{os:OsState}{bq:Array zdw}{n:Nat}{sl:Array (Option zdw)}{Q:Fin->zdF->Prop}(hx:hp.get? a=some ⟨.type "list",none,.seq bq n,sl⟩)(hA:A.handled=none)
 (h:∀h' O7 e,Heap.NewAttrErr hp h' e (.ref a) "keys"->E (.ref e) ⟨h',g,d,O7,os⟩) :
 wpAny (model prog w) A (Builtin.«object.__getattribute__» ⟨[.ref a,.str "keys" u],[]⟩) Q E ⟨hp,g,d,tk,os⟩:=by
 have hT:(⟨hp,g,d,tk,os⟩:zdF).TypeIs (.ref a) "list":=⟨_,hx,rfl⟩
 have f4:=O5;unfold Builtin.«object.__getattribute__»
 repeat (any_goals (first |assumption |wp_step))
 exact wpAny_raiseAttrError hA h (attrMsg_fits (by decide +kernel) (by size_fits))
theorem AX(a:zdv){s:zdF}{bq:Array zdw}{n:Nat}{sl:Array (Option zdw)}{Q:Option zdw->zdF->Prop}(hx:s.heap.get? a=some ⟨.type "list",none,.seq bq n,sl⟩)(hA:A.handled=none)
 (h:∀h' tk,(∀b ob,s.heap.get? b=some ob->h'.get? b=some ob)->Q none {s with heap:=h',toks:=tk}):wpAny (model prog w) A (getAttr? (.ref a) "keys") Q E s:=by
 obtain⟨hp,g,d,tk,os⟩:=s;have hT:∀O7,(⟨hp,g,d,O7,os⟩:zdF).TypeIs (.ref a) "list":=fun _=>⟨_,hx,rfl⟩
 have f1:=sub_AttributeError;have f2:=F.slot_list_getattribute.lookup;have f3:=F.slot_list_getattribute.bind (.ref a);have f5:=O6;unfold getAttr? getAttrBy? getAttrBy
 repeat (any_goals (first |assumption |exact hT _ |wp_step))
 all_goals
  refine codeAny_call_builtin F.slot_list_getattribute.plain F.entry_list_ga (F.slot_list_getattribute.check _ _ _ _ _ _ _ _ (show (⟨hp,g,d,tk+1,os⟩:zdF).TypeIs (.ref a) "list" from ⟨_,hx,rfl⟩) (F.args_list_getattribute_2 _ _) ?_)
 all_goals
  refine LM a tk hx hA fun h' O7 e ne=>?_
 all_goals
  obtain⟨t',u',he⟩:=ne.there;show wpAny _ _ (getattributeRaised _ _ _ _ _ _ _) _ _ _;unfold getattributeRaised
  repeat (any_goals (first |assumption |wp_step))
 all_goals exact h _ _ ne.keeps
theorem jf:entryFor table "dict.update.loop"=some Builtin.«dict.update.loop»:=entryFor_of_tree (by kernel_rfl)
theorem c7:plainId "dict.update.loop"=true:=by decide +kernel
theorem Dv{κ:Type}[DecidableEq κ](knd:KeyKind prog w κ)(d it l:zdv)(items:Array zdw)(res:zdw)(hA:A.handled=none)(w5:it≠d){R:Result->zdF->Prop}:∀(r:List (zdv×κ×zdw×zdw)) (i:Nat) (j:Int) (u:Tok) (kvs:List (κ×zdw)) (s:zdF),
 items.toList.drop i=r.map (fun q=>Value.ref q.1)->(∀q∈r,s.heap.IsTuple q.1 #[q.2.2.1,q.2.2.2]/\knd.is q.2.1 q.2.2.1=true)->s.heap.IsListIter it l i->s.heap.IsList l items->s.heap.DictOf knd d kvs->kvs.length+r.length<=zdD->
 (∀h' tk,h'.DictOf knd d (merged kvs (r.map fun q=>(q.2.1,q.2.2.2)))->(∀b o,b≠d->b≠it->s.heap.get? b=some o->h'.get? b=some o)->R (.ok (.ret res)) {s with heap:=h',toks:=tk})->
 codeAny (model prog w) A (.builtin "dict.update.loop" ⟨[.ref d,.ref it,.int j u,res],[]⟩) R s
 |[],i,j,u,kvs,s,hi,hp,hit,hl,hd,hz,hR=>by
  refine codeAny_builtin jf ?_;rw[Around.under_plainId c7 _];show wpAny _ A.in1 (pyNext (.ref it) >>= _) _ _ s;refine zdy (wpAny_pyNext_list_end hA hit hl (by rw[<- za9];rw[zaW] at hi;exact zcr (zct.mp hi)) fun h' ext=>?_);show wpAny _ _ (Builtin.Dict.addKeywords d [] >>= _) _ _ _;refine zdy (zdz (zdz (hR h' s.toks ?_ fun b o _ h2 e=>?_)))
  ·obtain⟨o,es,ep,ho,rest⟩:=hd;exact⟨o,es,ep,ext d o w5.symm ho,rest⟩
  ·exact ext b o h2 e
 |q::r,i,j,u,kvs,s,hi,hp,hit,hl,hd,hz,hR=>by
  have hx:items[i]?=some (Value.ref q.1):=by
   rw[<- za9,<- zcu,hi];rfl
  refine codeAny_builtin jf ?_;rw[Around.under_plainId c7 _];show wpAny _ A.in1 (pyNext (.ref it) >>= _) _ _ s;refine zdy (wpAny_pyNext_list_item hit hl hx fun h' Lz sb=>?_);obtain⟨⟨oq,Wc,UG,nq,Z1⟩,kq⟩:=hp q (zan ..);have niq:q.1≠it:=fun z=>by
   obtain⟨oi,Fm,LN,_⟩:=hit;rw[z,Fm] at Wc;cases Wc;rw[LN] at UG;exact absurd (Value.type.inj UG) (by decide)
  have LO:h'.get? q.1=some oq:=(sb.2 _ niq).trans Wc;have Ab:h'.DictOf knd d kvs:=by
   obtain⟨o,es,ep,ho,rest⟩:=hd;exact⟨o,es,ep,(sb.2 d w5.symm).trans ho,rest⟩
  show wpAny _ A.in1 (holding [Value.ref q.1] _ >>= _) _ _ _;refine zdy (zdA (zdy (wpAny_tryCatch ?_)));unfold Builtin.Dict.pairItems;refine zdy (wpAny_typeOf (T:="tuple") ⟨oq,LO,UG⟩ ?_);rw[if_pos (by decide)];refine zdy (wpAny_seqItems (s:={s with heap:=h' }) LO Z1 (zdz ?_));show wpAny _ A.in1 (holding [q.2.2.1,q.2.2.2] (dictSet d q.2.2.1 q.2.2.2)) _ _ _;refine zdA (wpAny_dictSet_pairs (s:={s with heap:=h' }) kq Ab (fun h2 hd2 Ke=>?_) (by simp only[zap] at hz;lia));refine zdz ⟨plainId_quiet c7 _,?_⟩;refine Dv knd d it l items res hA w5 r (i+1) (j+1) _ _ _ ?_ (fun p We=>?_) ?_ ?_ hd2 ?_ fun h3 tk Wf keep=>hR h3 tk Wf fun b o n1 n2 e=>keep b o n1 n2 ?_
  ·rw[<- zcF,hi];rfl
  ·obtain⟨⟨op,Oy,SK,np,Z3⟩,kp⟩:=hp p (zaj _ We);refine⟨⟨op,?_,SK,np,Z3⟩,kp⟩;have n1:p.1≠it:=fun z=>by
    obtain⟨oi,Fm,LN,_⟩:=hit;rw[z,Fm] at Oy;cases Oy;rw[LN] at SK;exact absurd (Value.type.inj SK) (by decide)
   have n2:p.1≠d:=fun z=>by
    obtain⟨od,_,_,SM,_,Lx,_⟩:=hd;rw[z,SM] at Oy;cases Oy;rw[Lx] at Z3;cases Z3
   exact(Ke.2 _ n2).trans ((sb.2 _ n1).trans Oy)
  ·obtain⟨oi,Fm,rest⟩:=Lz;exact⟨oi,(Ke.2 _ w5).trans Fm,rest⟩
  ·obtain⟨ol,LP,N2,nl,SN⟩:=hl;have n1:l≠it:=fun z=>by
    obtain⟨oi,Fm,LN,_⟩:=hit;rw[z,Fm] at LP;cases LP;rw[LN] at N2;exact absurd (Value.type.inj N2) (by decide)
   have n2:l≠d:=fun z=>by
    obtain⟨od,_,_,SM,_,Lx,_⟩:=hd;rw[z,SM] at LP;cases LP;rw[Lx] at SN;cases SN
   exact⟨ol,(Ke.2 _ n2).trans ((sb.2 _ n1).trans LP),N2,nl,SN⟩
  ·have:=stored_length_le kvs q.2.1 q.2.2.2;simp only[zap] at hz;lia
  ·exact(Ke.2 _ n1).trans ((sb.2 _ n2).trans e)
theorem dict_list{κ:Type}[DecidableEq κ](knd:KeyKind prog w κ)(l:zdv){s:zdF}{items:Array zdw}{n:Nat}{sl:Array (Option zdw)}{Q:zdw->zdF->Prop}(hA:A.handled=none)(r:List (zdv×κ×zdw×zdw))(hx:s.heap.get? l=some ⟨.type "list",none,.seq items n,sl⟩)
 (hi:items.toList=r.map (fun q=>Value.ref q.1)) (hp:∀q∈r,s.heap.IsTuple q.1 #[q.2.2.1,q.2.2.2]/\knd.is q.2.1 q.2.2.1=true) (hz:r.length<=zdD)
 (h:∀h' tk,h'.DictOf knd s.heap.objs.size (merged [] (r.map fun q=>(q.2.1,q.2.2.2)))->(∀b o,s.heap.get? b=some o->h'.get? b=some o)->Q (.ref s.heap.objs.size) {s with heap:=h',toks:=tk}) :
 wpAny (model prog w) A (call (.type "dict") [.ref l]) Q E s:=by
 refine callType_codes (Q₁:=fun obj s₁=>obj=.ref s.heap.objs.size/\s₁={s with heap:=s.heap.push {cls:=.type "dict",data:=.dict #[]} }) F.kt_called_dict (F.kt_typeCall_dict_1 _) F.entry_dict_init (kt_code_dict_new _ ⟨rfl,rfl⟩) ?_
 rintro obj s₁ ⟨rfl,rfl⟩
 have yw:(s.heap.push {cls:=.type "dict",data:=.dict #[]}).DictOf knd s.heap.objs.size []:=Heap.DictOf.new s.heap;have i8:∀b o,s.heap.get? b=some o->(s.heap.push {cls:=.type "dict",data:=.dict #[]}).get? b=some o:=fun b o e=>Heap.get?_push_of_some _ e;refine⟨yw.typeIs,F.args_dict_init_2 _ _,?_⟩;unfold Builtin.«dict.__init__»;refine zdy ?_;unfold Builtin.Dict.selfAndRest;refine zdy (wpAny_notOrdered_dict yw.typeIs ?_);show wpAny _ _ (pure (s.heap.objs.size,[Value.ref l])) _ _ _;refine zdz ?_;show wpAny _ _ (Builtin.Dict.updateFrom "dict.__init__" s.heap.objs.size (.ref l) [] .none) _ _ _;unfold Builtin.Dict.updateFrom;refine zdy (wpAny_typeOf (T:="list") ⟨_,i8 _ _ hx,rfl⟩ ?_);rw[if_pos (by decide)];refine zdy (AX (n:=n) (sl:=sl) l (i8 _ _ hx) hA fun h2 SO i9=>?_);rw[if_pos (show (none:Option zdw).isNone=true from rfl)];refine zdy (wpAny_rule ?_);have Kd:h2.IsList l items:=⟨_,i9 _ _ (i8 _ _ hx),rfl,n,rfl⟩
 have hd2:h2.DictOf knd s.heap.objs.size []:=by
  obtain⟨o,es,ep,ho,rest⟩:=yw;exact⟨o,es,ep,i9 _ _ ho,rest⟩
 refine zdy (wpAny_pyIter_list (s:={s with heap:=h2,toks:=SO}) Kd ?_);have pY:∀b o,h2.get? b=some o->(h2.push {cls:=.type "list_iterator",data:=.fields #[.ref l,.int 0 0]}).get? b=some o:=fun b o e=>Heap.get?_push_of_some _ e;have nd:h2.objs.size≠s.heap.objs.size:=by
  obtain⟨o,es,ep,ho,_⟩:=hd2;exact fun e=>absurd (Heap.lt_size ho) (by rw[e];exact zaP _)
 refine zdz ⟨plainId_quiet c7 _,?_⟩;refine Dv (A:=A.in1) knd s.heap.objs.size h2.objs.size l items .none hA nd r 0 0 _ [] _ (by simpa using hi) (fun q hq=>?_) ⟨_,Heap.get?_push_size _ rfl,rfl,rfl⟩ ?_ ?_ (by simpa using hz) fun h4 Wg Wh Dw=>?_
 ·obtain⟨⟨o,ho,rest⟩,kq⟩:=hp q hq;exact⟨⟨o,pY _ _ (i9 _ _ (i8 _ _ ho)),rest⟩,kq⟩
 ·obtain⟨o,ho,rest⟩:=Kd;exact⟨o,pY _ _ ho,rest⟩
 ·obtain⟨o,es,ep,ho,rest⟩:=hd2;exact⟨o,es,ep,pY _ _ ho,rest⟩
 ·refine⟨rfl,h h4 Wg Wh fun b o e=>Dw b o (fun z=>?_) (fun z=>?_) (pY _ _ (i9 _ _ (i8 _ _ e)))⟩
  ·rw[z] at e;exact absurd (Heap.lt_size e) (zaP _)
  ·have:=Heap.lt_size (i9 _ _ (i8 _ _ e));rw[z] at this;exact absurd this (zaP _)
end
end L3
namespace L2
open PG
open PySem PyProof.Rows
theorem tJ{X:Cx}(hc:X.calm=true):mO X (.type "dict") (fun xs H Q=>∃(a:zdv) (ps:List (zdv×Key×V)),xs=[.ref a]/\jc X.K H a (ps.map fun q=>V.ref q.1)/\(∀q∈ps,bQ X.K H q.1 [kV q.2.1,q.2.2])/\ps.length<=zdD/\
 ∀p,H p=none->Q (.ref p) (upd H p (.dK (nY [] (ps.map fun q=>(q.2.1,q.2.2)))))):=by
 intro pins s σ H xs us Q I r h;obtain⟨a,ps,rfl,ha,hp,hz,q⟩:=h;obtain⟨u,rfl,ru⟩:=vals1 r;cases (show u=Value.ref a from ru);obtain⟨bq,v1,t1,_⟩:=I.list ha;obtain⟨⟨cls,dct,dat,sl⟩,n,e1,Wi,SQ,Rc⟩:=t1;simp only at Wi SQ Rc;subst Wi SQ Rc;have mk:∀(l:List (zdv×Key×V)) (us:List zdw),Vals (l.map fun q=>V.ref q.1) us->(∀q∈l,bQ X.K H q.1 [kV q.2.1,q.2.2])->∃r:List (zdv×Key×zdw×zdw),us=r.map (fun q=>Value.ref q.1)/\r.length=l.length/\
  (∀q∈r,s.heap.IsTuple q.1 #[q.2.2.1,q.2.2.2]/\(bR X.prog X.w).is q.2.1 q.2.2.1=true)/\KV (l.map fun q=>(q.2.1,q.2.2)) (r.map fun q=>(q.2.1,q.2.2.2)):=by
  intro l
  induction l with
  |nil=>intro us v _;cases v;exact⟨[],rfl,rfl,fun _ z=>(by cases z),.nil⟩
  |cons x l ih=>
   intro us v hp;rw[zaq] at v;cases v with
   |cons v1 v2=>
    obtain⟨r,e,lr,hr,kv⟩:=ih _ v2 (fun q hq=>hp q (zaj _ hq));obtain⟨tD,w1,tu,_⟩:=I.tuple (hp x (zan ..));obtain⟨ku,vu,rfl,rk,rv⟩:=vals2 w1;cases v1;obtain⟨o,ho,hco,no,hdo⟩:=tu;refine⟨(x.1,x.2.1,ku,vu)::r,by rw[e];rfl,by simp[lr],fun q hq=>?_,.cons ⟨rfl,rv⟩ kv⟩;rcases zah.mp hq with rfl |hq
    ·exact⟨⟨o,ho,hco,no,hdo⟩,AU rk⟩
    ·exact hr q hq
 obtain⟨r',er,lr,hr,kv⟩:=mk ps bq v1 hp;refine L3.dict_list (bR X.prog X.w) a (I.ok.hd hc) r' e1 (by simpa using er) hr (by lia) fun h' tk dd keep=>?_;have hn:=I.bX.fresh (zag s.heap.objs.size);have hb:(s.heap.objs.size==sysModules)=false:=beq_eq_false_iff_ne.mpr (Ne.symm (zaD I.big));refine⟨.ref s.heap.objs.size,_,I.laid keep (zag _) (Fe ?_ hb (kv.merge .nil) dd),rfl,q _ hn⟩;have h1:=mw (ps.map fun q=>(q.2.1,q.2.2)) [];rw[zaQ,zad] at h1;lia
end L2
namespace L3
open PG
open PySem PyProof.Rows
section
variable{prog:zdH}{w:zdx}{A:zdG}{E:zdw->zdF->Prop}{s:zdF}
theorem Fn{j tp:zdv}{k:Nat}{bq:Array zdw}{v:zdw}{Q:zdw->zdF->Prop}(hj:s.heap.IsTupleIter j tp k)(ht:s.heap.IsTuple tp bq)(hv:bq[k]?=some v)
 (hQ:∀h',h'.IsTupleIter j tp (k+1)->Heap.SameBut j s.heap h'->Q v {s with heap:=h' }):wpAny (model prog w) A (Builtin.SmallTypes.nextOf (.ref j)) Q E s:=by
 obtain⟨oj,gj,cj,dj⟩:=id hj;obtain⟨ot,gt,_,nt,dt⟩:=ht;unfold Builtin.SmallTypes.nextOf;refine zdy (wpAny_callSpecial?_slot (name:=zac "__next__") hj.typeIs F.slot_tuple_iterator_next (wpAny_call_entry F.slot_tuple_iterator_next hj.typeIs F.entry_tuple_iterator_next ?_ (F.args_tuple_iterator_next_1 _)));show wpAny _ _ (field (.ref j) 0 >>= _) _ _ s;refine zdy (wpAny_field gj dj (x:=.ref tp) rfl ?_);show wpAny _ _ (if (Value.ref tp==Value.none)=true then _ else _) _ _ s;rw[if_neg (show ¬((Value.ref tp==Value.none)=true) from zai)];show wpAny _ _ (field (.ref j) 1 >>= _) _ _ s;refine zdy (wpAny_field gj dj (x:=.int k 0) rfl ?_);show wpAny _ _ (seqItems? (.ref tp) >>= _) _ _ s;refine zdy (wpAny_seqItems gt dt ?_);simp only[zaU,hv];refine zdy (wpAny_setField gj dj (by simp) (zdz ⟨v,rfl,zdz (hQ _ ?_ (Heap.SameBut.update ..))⟩));exact⟨_,Heap.get?_update_self _ gj (Obj.isFreed_of_fields (Obj.data_mapFields dj _)),(Obj.cls_mapFields ..).trans cj,by rw[Obj.data_mapFields dj];simp[rawInt]⟩
structure SR(prog:zdH)(w:zdx)(j tp:zdv)(ys:Array zdw)(I:Heap->Nat->Prop):Prop where
 Z4:∀ {A:zdG} {E:zdw->zdF->Prop} {s:zdF} {i:Nat} {y:zdw} {Q:zdw->zdF->Prop},I s.heap i->ys[i]?=some y->(∀h',I h' (i+1)->Heap.SameBut j s.heap h'->Q y {s with heap:=h' })->wpAny (model prog w) A (Builtin.SmallTypes.nextOf (.ref j)) Q E s
 kp:∀ {h h':Heap} {i:Nat},I h i->(∀b o,b=j\/b=tp->h.get? b=some o->h'.get? b=some o)->I h' i
 cj:∀ {h:Heap} {i:Nat},I h i->∃o c,h.get? j=some o/\o.cls=.type c/\c≠"zip"/\c≠"list"/\c≠"tuple"/\c≠"dict"
 ct:∀ {h:Heap} {i:Nat},I h i->∃o c,h.get? tp=some o/\o.cls=.type c/\c≠"zip"/\c≠"list_iterator"/\c≠"dict"
theorem O8{j tp:zdv}{ys:Array zdw}:SR prog w j tp ys (fun h i=>h.IsTupleIter j tp i/\h.IsTuple tp ys) where
 Z4:=fun ⟨hj,ht⟩ hy hQ=>Fn hj ht hy fun h' hj' sb=>hQ h' ⟨hj',by
  obtain⟨o,go,c,n,d⟩:=ht;refine⟨o,(sb.2 tp fun e=>?_).trans go,c,n,d⟩;obtain⟨r,gr,cr,_⟩:=hj;rw[e,gr] at go;cases go;rw[cr] at c;exact absurd (Value.type.inj c) (by decide)⟩ sb
 kp:=fun ⟨⟨o,go,r⟩,q,gq,r2⟩ k=>⟨⟨o,k _ _ (.inl rfl) go,r⟩,q,k _ _ (.inr rfl) gq,r2⟩
 cj:=fun ⟨⟨o,go,c,_⟩,_⟩=>⟨o,_,go,c,by decide,by decide,by decide,by decide⟩
 ct:=fun ⟨_,o,go,c,_⟩=>⟨o,_,go,c,by decide,by decide,by decide⟩
theorem jg{h:Heap}{a b:zdv}{o o':Obj}{c c':String}(e:h.get? a=some o)(e':h.get? b=some o')(hc:o.cls=.type c)(RW:o'.cls=.type c')(n:c≠c'):a≠b:=fun q=>by
 rw[q,e'] at e;cases e;rw[hc] at RW;exact n (Value.type.inj RW)
abbrev BE (h:Heap) (z ti to:zdv) (f g:zdw):Prop:=h.get? z=some {cls:=.type "zip",dict:=none,data:=.fields #[f,g,.bool false,.ref ti,.ref to],slots:=#[]}
theorem Dx{z ti to T:zdv}{u:Tok}{o:Obj}{g:Bool}{R:Bool->zdF->Prop}(hz:BE s.heap z ti to (.int T u) (.bool g))(hT:s.heap.get? T=some o)
 (h:∀h₀,BE h₀ z ti to (.int T u) (.bool true)->Heap.SameBut z s.heap h₀->R false {s with heap:=h₀}):wpAny (model prog w) A (Builtin.SmallTypes.ownedTupleIsFree (.ref z)) R E s:=by
 unfold Builtin.SmallTypes.ownedTupleIsFree;refine zdy (wpAny_field hz rfl (x:=.int T u) rfl ?_);show wpAny _ _ (loadIfAlive (T:Int).toNat >>= _) _ _ _;refine zdy ?_;have alive:∀ {R:Option Obj->zdF->Prop},R (some o) s->wpAny (model prog w) A (loadIfAlive (T:Int).toNat) R E s:=fun h=>by
  rw[zaU];intro Γ p hp;unfold loadIfAlive;rw[Sem.wp_loadIfAlive,hT];exact h
 refine alive ?_;rw[if_neg (by simp)];refine zdy (wpAny_field hz rfl (x:=.bool g) rfl ?_);cases g with
 |false=>
  rw[if_pos (by decide)];exact zdy (wpAny_setField_rec hz (by simp) fun h₀ Hc sb=>zdz (h h₀ Hc sb))
 |true=>
  rw[if_neg (by decide)];exact zdz (h s.heap hz (Heap.SameBut.refl _ _))
theorem Fo{z ti to j1 j2 l tp T:zdv}{xs ys:Array zdw}{I2:Heap->Nat->Prop}{i:Nat}{u:Tok}{o:Obj}{g:Bool}{x y:zdw}{Q:zdw->zdF->Prop}(Z2:SR prog w j2 tp ys I2)(hz:BE s.heap z ti to (.int T u) (.bool g))(hT:s.heap.get? T=some o)(hI:IsPair s.heap ti (.ref j1) (.ref j2))
 (h1:s.heap.IsListIter j1 l i) (h2:I2 s.heap i) (hl:s.heap.IsList l xs) (EL:z≠j1) (O9:z≠j2) (Rf:j1≠j2) (hx:xs[i]?=some x) (hy:ys[i]?=some y)
 (hQ:∀h',BE h' z ti to (.int T u) (.bool true)->h'.IsListIter j1 l (i+1)->I2 h' (i+1)->IsPair h' s.heap.objs.size x y->h'.objs.size=s.heap.objs.size+1->
  (∀c o,c≠z->c≠j1->c≠j2->s.heap.get? c=some o->h'.get? c=some o)->Q (.ref s.heap.objs.size) {s with heap:=h' }) :
 wpAny (model prog w) A (Builtin.«zip.__next__» ⟨[.ref z],[]⟩) (fun fin s'=>∃v,fin=.done (.ret v)/\Q v s') E s:=by
 have lz:l≠z:=fun e=>by
  obtain⟨q,gq,cq,_⟩:=hl;rw[e,hz] at gq;cases gq;exact absurd (Value.type.inj cq) (by decide)
 have lj1:l≠j1:=fun e=>by
  obtain⟨q,gq,cq,_⟩:=hl;obtain⟨r,gr,cr,_⟩:=h1;rw[e,gr] at gq;cases gq;rw[cr] at cq;exact absurd (Value.type.inj cq) (by decide)
 obtain⟨tq,tc,Wj,Wk,Z5,Z6,_⟩:=Z2.ct h2;have tz:tp≠z:=jg Wj hz Wk rfl Z5;have Z7:tp≠j1:=by
  obtain⟨r,gr,cr,_⟩:=id h1;exact jg Wj gr Wk cr Z6
 show wpAny _ _ (field (.ref z) 2 >>= _) _ _ _;refine zdy (wpAny_field hz rfl (x:=.bool false) rfl ?_);show wpAny _ _ (field (.ref z) 3 >>= _) _ _ _;refine zdy (wpAny_field hz rfl (x:=.ref ti) rfl ?_);refine zdy (wpAny_seqItems hI rfl ?_);show wpAny _ _ (Builtin.SmallTypes.ownedTupleIsFree (.ref z) >>= _) _ _ _;refine zdy (Dx hz hT fun h₀ Hc sj=>?_);dsimp only;rw[if_neg zai];refine zdy ?_;simp only[List.forIn_toArray,zbb,zbG];refine zdy (zdy (zdA ?_));show wpAny _ _ (Builtin.SmallTypes.nextOf (.ref j1) >>= _) _ _ _;refine zdy (wpAny_nextOf_list_item (s:={s with heap:=h₀}) (h1.extBut sj.extBut EL.symm) (hl.extBut sj.extBut lz) hx fun h₂ Wl jE=>zdz ?_);refine zdz ?_;refine zdy (zdy (zdA ?_));show wpAny _ _ (Builtin.SmallTypes.nextOf (.ref j2) >>= _) _ _ _;have Z8:I2 h₂ i:=Z2.kp h2 fun b o hb e=>by
  rcases hb with rfl |rfl
  ·exact jE.extBut _ _ Rf.symm (sj.extBut _ _ O9.symm e)
  ·exact jE.extBut _ _ Z7 (sj.extBut _ _ tz e)
 refine zdy (Z2.Z4 (s:={s with heap:=h₂}) Z8 hy fun h₃ Wm lH=>zdz ?_);refine zdz (zdz ?_);show wpAny _ _ (newTuple [x,y] >>= _) _ _ _;have hsz:h₃.objs.size=s.heap.objs.size:=by rw[lH.1,jE.1,sj.1]
 refine zdy (wpAny_newTuple (s:={s with heap:=h₃}) ?_);refine zdz ⟨_,rfl,?_⟩;show Q (.ref h₃.objs.size) _;have hp:IsPair (h₃.push {cls:=.type "tuple",data:=.seq #[x,y]}) h₃.objs.size x y:=Heap.get?_push_size _ rfl;have Rc:(h₃.push {cls:=.type "tuple",data:=.seq #[x,y]}).objs.size=h₃.objs.size+1:=Heap.size_push ..;rw[hsz] at hp Rc ⊢;have up:∀c o,h₃.get? c=some o->(h₃.push {cls:=.type "tuple",data:=.seq #[x,y]}).get? c=some o:=fun c o e=>Heap.get?_push_of_some _ e;refine hQ _ (up _ _ (lH.extBut _ _ O9 (jE.extBut _ _ EL Hc))) ?_ ?_ hp Rc fun c o c1 c2 c3 e=>up _ _ (lH.extBut _ _ c3 (jE.extBut _ _ c2 (sj.extBut _ _ c1 e)))
 ·obtain⟨q,gq,rest⟩:=Wl;exact⟨q,up _ _ (lH.extBut _ _ Rf gq),rest⟩
 ·exact Z2.kp Wm fun b o _ e=>up _ _ e
theorem IW{z ti to j1 j2 l T:zdv}{xs:Array zdw}{i:Nat}{u:Tok}{o:Obj}{g:Bool}{Q:Fin->zdF->Prop}(hA:A.handled=none)(hz:BE s.heap z ti to (.int T u) (.bool g))(hT:s.heap.get? T=some o)(hI:IsPair s.heap ti (.ref j1) (.ref j2))
 (h1:s.heap.IsListIter j1 l i) (hl:s.heap.IsList l xs) (EL:z≠j1) (hx:xs[i]?=none)
 (hE:∀h' e,(∀c o,c≠z->c≠j1->s.heap.get? c=some o->h'.get? c=some o)->(∃o,h'.get? e=some o/\o.cls=.type "StopIteration")->E (.ref e) {s with heap:=h' }) :
 wpAny (model prog w) A (Builtin.«zip.__next__» ⟨[.ref z],[]⟩) Q E s:=by
 have lz:l≠z:=fun e=>by
  obtain⟨q,gq,cq,_⟩:=hl;rw[e,hz] at gq;cases gq;exact absurd (Value.type.inj cq) (by decide)
 show wpAny _ _ (field (.ref z) 2 >>= _) _ _ _;refine zdy (wpAny_field hz rfl (x:=.bool false) rfl ?_);show wpAny _ _ (field (.ref z) 3 >>= _) _ _ _;refine zdy (wpAny_field hz rfl (x:=.ref ti) rfl ?_);refine zdy (wpAny_seqItems hI rfl ?_);show wpAny _ _ (Builtin.SmallTypes.ownedTupleIsFree (.ref z) >>= _) _ _ _;refine zdy (Dx hz hT fun h₀ Hc sj=>?_);dsimp only;rw[if_neg zai];refine zdy ?_;simp only[List.forIn_toArray,zbb,zbG];refine zdy (zdy (zdA ?_));show wpAny _ _ (Builtin.SmallTypes.nextOf (.ref j1) >>= _) _ _ _;exact zdy (wpAny_nextOf_list_end (s:={s with heap:=h₀}) hA (h1.extBut sj.extBut EL.symm) (hl.extBut sj.extBut lz) hx fun h₂ e jE he=>hE h₂ e (fun c o c1 c2 q=>jE _ _ c2 (sj.extBut _ _ c1 q)) he)
theorem Fp{z ti to j1 j2 l tp:zdv}{xs ys:Array zdw}{I2:Heap->Nat->Prop}{i:Nat}{a b x y:zdw}{Q:zdw->zdF->Prop}(Z2:SR prog w j2 tp ys I2)(hz:BE s.heap z ti to .none (.bool false))(hO:IsPair s.heap to a b)(hI:IsPair s.heap ti (.ref j1) (.ref j2))
 (h1:s.heap.IsListIter j1 l i) (h2:I2 s.heap i) (hl:s.heap.IsList l xs) (EL:z≠j1) (O9:z≠j2) (Wn:z≠to) (LQ:to≠j1) (LR:to≠j2) (Rf:j1≠j2) (Pa:tp≠to) (hx:xs[i]?=some x) (hy:ys[i]?=some y)
 (hQ:∀h',BE h' z ti to (rawInt s.heap.objs.size) (.bool false)->h'.IsListIter j1 l (i+1)->I2 h' (i+1)->IsPair h' s.heap.objs.size x y->h'.objs.size=s.heap.objs.size+1->
  (∀c o,c≠z->c≠to->c≠j1->c≠j2->s.heap.get? c=some o->h'.get? c=some o)->Q (.ref s.heap.objs.size) {s with heap:=h' }) :
 wpAny (model prog w) A (Builtin.«zip.__next__» ⟨[.ref z],[]⟩) (fun fin s'=>∃v,fin=.done (.ret v)/\Q v s') E s:=by
 have lz:l≠z:=fun e=>by
  obtain⟨q,gq,cq,_⟩:=hl;rw[e,hz] at gq;cases gq;exact absurd (Value.type.inj cq) (by decide)
 obtain⟨tq,tc,Wj,Wk,Z5,Z6,_⟩:=Z2.ct h2;have tz:tp≠z:=jg Wj hz Wk rfl Z5;have Z7:tp≠j1:=by
  obtain⟨r,gr,cr,_⟩:=id h1;exact jg Wj gr Wk cr Z6
 show wpAny _ _ (field (.ref z) 2 >>= _) _ _ _;refine zdy (wpAny_field hz rfl (x:=.bool false) rfl ?_);show wpAny _ _ (field (.ref z) 3 >>= _) _ _ _;refine zdy (wpAny_field hz rfl (x:=.ref ti) rfl ?_);refine zdy (wpAny_seqItems hI rfl ?_);show wpAny _ _ (Builtin.SmallTypes.ownedTupleIsFree (.ref z) >>= _) _ _ _;refine zdy ?_;unfold Builtin.SmallTypes.ownedTupleIsFree;refine zdy (wpAny_field hz rfl (x:=.none) rfl (zdz ?_));simp only[if_true];refine zdy (wpAny_rule ?_);refine zdy (wpAny_field hz rfl (x:=.ref to) rfl ?_);refine zdy (wpAny_setField_rec hz (by simp) fun h₁ z₁ pZ=>?_);replace z₁:BE h₁ z ti to .ellipsis (.bool false):=z₁;refine zdy ?_;simp only[List.zipIdx_cons,List.zipIdx_nil,zbb,zbG];refine zdy (zdy (wpAny_onRaise ?_));show wpAny _ _ (Builtin.SmallTypes.nextOf (.ref j1) >>= _) _ _ _;refine zdy (wpAny_nextOf_list_item (h1.extBut pZ.extBut EL.symm) (hl.extBut pZ.extBut lz) hx fun h₂ k₂ jE=>zdz ?_);have o₂:IsPair h₂ to a b:=jE.extBut _ _ LQ (pZ.extBut _ _ Wn.symm hO);refine zdy (wpAny_seqItems o₂ rfl ?_);refine zdy (wpAny_updateSeq_pair o₂ fun h₃ o₃ lH=>?_);replace o₃:IsPair h₃ to x b:=o₃;refine zdy (wpAny_letGo (zdz ?_));refine zdy (zdy (wpAny_onRaise ?_));show wpAny _ _ (Builtin.SmallTypes.nextOf (.ref j2) >>= _) _ _ _;have Z8:I2 h₃ i:=Z2.kp h2 fun b o hb e=>by
  rcases hb with rfl |rfl
  ·exact lH.extBut _ _ LR.symm (jE.extBut _ _ Rf.symm (pZ.extBut _ _ O9.symm e))
  ·exact lH.extBut _ _ Pa (jE.extBut _ _ Z7 (pZ.extBut _ _ tz e))
 refine zdy (Z2.Z4 Z8 hy fun h₄ k₄ Dy=>zdz ?_);have o₄:IsPair h₄ to x b:=Dy.extBut _ _ LR o₃;refine zdy (wpAny_seqItems o₄ rfl ?_);refine zdy (wpAny_updateSeq_pair o₄ fun h₅ o₅ AY=>?_);replace o₅:IsPair h₅ to x y:=o₅;refine zdy (wpAny_letGo (zdz (zdz ?_)));refine zdy (wpAny_seqItems o₅ rfl ?_);refine zdy (wpAny_newTuple ?_);have hsz:h₅.objs.size=s.heap.objs.size:=by rw[AY.1,Dy.1,lH.1,jE.1,pZ.1]
 have z₅:BE h₅ z ti to .ellipsis (.bool false):=AY.extBut _ _ Wn (Dy.extBut _ _ O9 (lH.extBut _ _ Wn (jE.extBut _ _ EL z₁)));have kp:∀c o,c≠z->c≠to->c≠j1->c≠j2->s.heap.get? c=some o->h₅.get? c=some o:=fun c o c1 c2 c3 c4 e=>AY.extBut _ _ c2 (Dy.extBut _ _ c4 (lH.extBut _ _ c2 (jE.extBut _ _ c3 (pZ.extBut _ _ c1 e))));have zlt:z<h₅.objs.size:=Heap.lt_size z₅;show wpAny _ _ (Builtin.SmallTypes.ownedTupleHandOut (.ref z) (.ref h₅.objs.size) >>= _) _ _ _;refine zdy ?_;unfold Builtin.SmallTypes.ownedTupleHandOut;have z₆:BE (h₅.push {cls:=.type "tuple",data:=.seq #[x,y]}) z ti to .ellipsis (.bool false):=Heap.get?_push_of_some _ z₅;refine zdy (wpAny_setField_rec z₆ (by simp) fun h₇ z₇ LS=>?_);replace z₇:BE h₇ z ti to (rawInt h₅.objs.size) (.bool false):=z₇;refine wpAny_setField_rec z₇ (by simp) fun h₈ z₈ LU=>?_;replace z₈:BE h₈ z ti to (rawInt h₅.objs.size) (.bool false):=z₈;have up:∀c o,c≠z->h₅.get? c=some o->h₈.get? c=some o:=fun c o c1 e=>LU.extBut _ _ c1 (LS.extBut _ _ c1 (Heap.get?_push_of_some _ e));have t₈:IsPair h₈ h₅.objs.size x y:=LU.extBut _ _ (zbI zlt) (LS.extBut _ _ (zbI zlt) (Heap.get?_push_size _ rfl));have n₈:h₈.objs.size=h₅.objs.size+1:=by rw[LU.1,LS.1,Heap.size_push]
 rw[hsz] at z₈ t₈ n₈;refine zdz ⟨_,rfl,?_⟩;show Q (.ref h₅.objs.size) _;rw[hsz];refine hQ h₈ z₈ ?_ ?_ t₈ n₈ fun c o c1 c2 c3 c4 e=>up c o c1 (kp c o c1 c2 c3 c4 e)
 ·obtain⟨q,gq,rest⟩:=k₂;exact⟨q,up _ _ EL.symm (AY.extBut _ _ LQ.symm (Dy.extBut _ _ Rf (lH.extBut _ _ LQ.symm gq))),rest⟩
 ·refine Z2.kp k₄ fun b o hb e=>?_;rcases hb with rfl |rfl
  ·exact up _ _ O9.symm (AY.extBut _ _ LR.symm e)
  ·exact up _ _ tz (AY.extBut _ _ Pa e)
theorem IX{z ti to j1 j2 l:zdv}{xs:Array zdw}{i:Nat}{Q:Fin->zdF->Prop}(hA:A.handled=none)(hz:BE s.heap z ti to .none (.bool false))(hI:IsPair s.heap ti (.ref j1) (.ref j2))
 (h1:s.heap.IsListIter j1 l i) (hl:s.heap.IsList l xs) (EL:z≠j1) (hx:xs[i]?=none)
 (hE:∀h' e,(∀c o,c≠z->c≠j1->s.heap.get? c=some o->h'.get? c=some o)->(∃o,h'.get? e=some o/\o.cls=.type "StopIteration")->E (.ref e) {s with heap:=h' }) :
 wpAny (model prog w) A (Builtin.«zip.__next__» ⟨[.ref z],[]⟩) Q E s:=by
 have lz:l≠z:=fun e=>by
  obtain⟨q,gq,cq,_⟩:=hl;rw[e,hz] at gq;cases gq;exact absurd (Value.type.inj cq) (by decide)
 show wpAny _ _ (field (.ref z) 2 >>= _) _ _ _;refine zdy (wpAny_field hz rfl (x:=.bool false) rfl ?_);show wpAny _ _ (field (.ref z) 3 >>= _) _ _ _;refine zdy (wpAny_field hz rfl (x:=.ref ti) rfl ?_);refine zdy (wpAny_seqItems hI rfl ?_);show wpAny _ _ (Builtin.SmallTypes.ownedTupleIsFree (.ref z) >>= _) _ _ _;refine zdy ?_;unfold Builtin.SmallTypes.ownedTupleIsFree;refine zdy (wpAny_field hz rfl (x:=.none) rfl (zdz ?_));simp only[if_true];refine zdy (wpAny_rule ?_);refine zdy (wpAny_field hz rfl (x:=.ref to) rfl ?_);refine zdy (wpAny_setField_rec hz (by simp) fun h₁ z₁ pZ=>?_);replace z₁:BE h₁ z ti to .ellipsis (.bool false):=z₁;refine zdy ?_;simp only[List.zipIdx_cons,List.zipIdx_nil,zbb,zbG];refine zdy (zdy (wpAny_onRaise ?_));show wpAny _ _ (Builtin.SmallTypes.nextOf (.ref j1) >>= _) _ _ _;refine zdy (wpAny_nextOf_list_end hA (h1.extBut pZ.extBut EL.symm) (hl.extBut pZ.extBut lz) hx fun h₂ e jE he=>?_);obtain⟨oe,ge,ce⟩:=he;have z₂:BE h₂ z ti to .ellipsis (.bool false):=jE _ _ EL z₁;have ez:e≠z:=fun q=>by subst q;rw[z₂] at ge;cases ge;simp at ce
 exact wpAny_setField_rec z₂ (by simp) fun h₃ _ lH=>hE h₃ e (fun c o c1 c3 q=>lH.extBut _ _ c1 (jE _ _ c3 (pZ.extBut _ _ c1 q))) ⟨oe,lH.extBut _ _ ez ge,ce⟩
structure UH(z ti to j1 j2 l tp:zdv):Prop where
 zti:z≠ti
 Wn:z≠to
 EL:z≠j1
 O9:z≠j2
 Z9:ti≠to
 aaa:ti≠j1
 aab:ti≠j2
 LQ:to≠j1
 LR:to≠j2
 Rf:j1≠j2
 lto:l≠to
 Pa:tp≠to
structure N3(h:Heap)(z ti to j1 j2 l tp:zdv)(xs:Array zdw)(I2:Heap->Nat->Prop)(i:Nat):Prop where
 zip:(∃a b,BE h z ti to .none (.bool false)/\IsPair h to a b)\/∃(T:zdv) (u:Tok) (a b:zdw) (g:Bool),BE h z ti to (.int T u) (.bool g)/\IsPair h T a b
 ins:IsPair h ti (.ref j1) (.ref j2)
 Pb:h.IsListIter j1 l i
 Rg:I2 h i
 ls:h.IsList l xs
theorem LV{z ti to j1 j2 l tp:zdv}{xs ys:Array zdw}{I2:Heap->Nat->Prop}{i:Nat}{x y:zdw}{Q:Option zdw->zdF->Prop}(Z2:SR prog w j2 tp ys I2)(ap:UH z ti to j1 j2 l tp)(st:N3 s.heap z ti to j1 j2 l tp xs I2 i)(hx:xs[i]?=some x)(hy:ys[i]?=some y)
 (hQ:∀h',N3 h' z ti to j1 j2 l tp xs I2 (i+1)->IsPair h' s.heap.objs.size x y->(∀c o,c≠z->c≠to->c≠j1->c≠j2->s.heap.get? c=some o->h'.get? c=some o)->Q (some (.ref s.heap.objs.size)) {s with heap:=h' }) :
 wpAny (model prog w) A (pyNext (.ref z)) Q E s:=by
 have zT:s.TypeIs (.ref z) "zip":=by
  rcases st.zip with ⟨a,b,hz,_⟩ |⟨T,u,a,b,g,hz,_⟩
  ·exact⟨_,hz,rfl⟩
  ·exact⟨_,hz,rfl⟩
 obtain⟨o1,g1,c1,_⟩:=st.Pb;obtain⟨o2,cc2,g2,c2,jn1,jn2,jn3,_⟩:=Z2.cj st.Rg;obtain⟨ol,gl,cl,_⟩:=st.ls;obtain⟨oz,gz,cz⟩:=zT;have lk:∀h',(∀c o,c≠z->c≠to->c≠j1->c≠j2->s.heap.get? c=some o->h'.get? c=some o)->IsPair h' ti (.ref j1) (.ref j2)/\h'.IsList l xs:=fun h' k=>by
  refine⟨k _ _ ap.zti.symm ap.Z9 ap.aaa ap.aab st.ins,?_⟩;obtain⟨q,gq,rest⟩:=st.ls;exact⟨q,k _ _ (jg gl gz cl cz (by decide)) ap.lto (jg gl g1 cl c1 (by decide)) (jg gl g2 cl c2 (Ne.symm jn2)) gq,rest⟩
 unfold pyNext;refine zdy (wpAny_attempt (wpAny_callSpecial?_slot (name:=zac "__next__") ⟨oz,gz,cz⟩ F.slot_zip_next (wpAny_call_entry F.slot_zip_next ⟨oz,gz,cz⟩ F.entry_zip_next ?_ (F.args_zip_next_1 _))));rcases st.zip with ⟨a,b,hz,hO⟩ |⟨T,u,a,b,g,hz,hT⟩
 ·refine Fp Z2 hz hO st.ins st.Pb st.Rg st.ls ap.EL ap.O9 ap.Wn ap.LQ ap.LR ap.Rf ap.Pa hx hy fun h' q1 q2 q3 q4 q5 q6=>zdz ?_;obtain⟨k1,k2⟩:=lk h' q6;exact hQ h' ⟨.inr ⟨_,_,x,y,false,q1,q4⟩,k1,q2,q3,k2⟩ q4 q6
 ·refine Fo Z2 hz hT st.ins st.Pb st.Rg st.ls ap.EL ap.O9 ap.Rf hx hy fun h' q1 q2 q3 q4 q5 q6=>zdz ?_;have q6':∀c o,c≠z->c≠to->c≠j1->c≠j2->s.heap.get? c=some o->h'.get? c=some o:=fun c o a1 _ a3 a4 e=>q6 c o a1 a3 a4 e;obtain⟨k1,k2⟩:=lk h' q6';exact hQ h' ⟨.inr ⟨T,u,a,b,true,q1,q6 _ _ (jg hT gz rfl cz (by decide)) (jg hT g1 rfl c1 (by decide)) (jg hT g2 rfl c2 (Ne.symm jn3)) hT⟩,k1,q2,q3,k2⟩ q4 q6'
theorem Pc{z ti to j1 j2 l tp:zdv}{xs:Array zdw}{I2:Heap->Nat->Prop}{i:Nat}{Q:Option zdw->zdF->Prop}(hA:A.handled=none)(ap:UH z ti to j1 j2 l tp)(st:N3 s.heap z ti to j1 j2 l tp xs I2 i)(hx:xs[i]?=none)
 (hQ:∀h',(∀c o,c≠z->c≠j1->s.heap.get? c=some o->h'.get? c=some o)->Q none {s with heap:=h' }):wpAny (model prog w) A (pyNext (.ref z)) Q E s:=by
 have zT:s.TypeIs (.ref z) "zip":=by
  rcases st.zip with ⟨a,b,hz,_⟩ |⟨T,u,a,b,g,hz,_⟩
  ·exact⟨_,hz,rfl⟩
  ·exact⟨_,hz,rfl⟩
 unfold pyNext;refine zdy (wpAny_attempt (wpAny_callSpecial?_slot (name:=zac "__next__") zT F.slot_zip_next (wpAny_call_entry F.slot_zip_next zT F.entry_zip_next ?_ (F.args_zip_next_1 _))));rcases st.zip with ⟨a,b,hz,hO⟩ |⟨T,u,a,b,g,hz,hT⟩
 ·refine IX hA hz st.ins st.Pb st.ls ap.EL hx fun h' e k he=>?_;obtain⟨oe,ge,ce⟩:=he;refine zdy (wpAny_isInstance (T:="StopIteration") (b:=true) ⟨oe,ge,ce⟩ isSubtype_stop ?_);exact zdz (hQ _ k)
 ·refine IW hA hz hT st.ins st.Pb st.ls ap.EL hx fun h' e k he=>?_;obtain⟨oe,ge,ce⟩:=he;refine zdy (wpAny_isInstance (T:="StopIteration") (b:=true) ⟨oe,ge,ce⟩ isSubtype_stop ?_);exact zdz (hQ _ k)
theorem N3.but{h h':Heap}{z ti to j1 j2 l tp:zdv}{xs ys:Array zdw}{I2:Heap->Nat->Prop}{i:Nat}{P:zdv->Prop}(Z2:SR prog w j2 tp ys I2)(st:N3 h z ti to j1 j2 l tp xs I2 i)(k:∀a o,P a->h.get? a=some o->h'.get? a=some o)(pl:P l)(pt:P tp)(pc:∀a o c,h.get? a=some o->o.cls=.type c->c≠"list"->c≠"dict"->P a):N3 h' z ti to j1 j2 l tp xs I2 i:=by
 have kc:∀a o c,h.get? a=some o->o.cls=.type c->c≠"list"->c≠"dict"->h'.get? a=some o:=fun a o c e hc n1 n2=>k _ _ (pc a o c e hc n1 n2) e;obtain⟨oj,cjj,gj,cj,_,jn2,_,jn4⟩:=Z2.cj st.Rg;refine⟨?_,kc _ _ _ st.ins rfl (by decide) (by decide),?_,Z2.kp st.Rg fun b o hb e=>?_,?_⟩
 ·rcases st.zip with ⟨a,b,hz,hO⟩ |⟨T,u,a,b,g,hz,hT⟩
  ·exact .inl ⟨a,b,kc _ _ _ hz rfl (by decide) (by decide),kc _ _ _ hO rfl (by decide) (by decide)⟩
  ·exact .inr ⟨T,u,a,b,g,kc _ _ _ hz rfl (by decide) (by decide),kc _ _ _ hT rfl (by decide) (by decide)⟩
 ·obtain⟨o,go,hc,hd⟩:=st.Pb;exact⟨o,kc _ _ _ go hc (by decide) (by decide),hc,hd⟩
 ·rcases hb with rfl |rfl
  ·rw[gj] at e;cases e;exact kc _ _ _ gj cj jn2 jn4
  ·exact k _ _ pt e
 ·obtain⟨o,go,rest⟩:=st.ls;exact⟨o,k _ _ pl go,rest⟩
theorem Hd{κ:Type}[DecidableEq κ](knd:KeyKind prog w κ)(d z ti to j1 j2 l tp:zdv)(xs ys:Array zdw){I2:Heap->Nat->Prop}(Z2:SR prog w j2 tp ys I2)(res:zdw)(hA:A.handled=none)(ap:UH z ti to j1 j2 l tp)(dto:d≠to){R:Result->zdF->Prop}:∀(r:List (κ×zdw×zdw)) (i:Nat) (j:Int) (u:Tok) (kvs:List (κ×zdw)) (s:zdF),
 xs.toList.drop i=r.map (·.2.1)->ys.toList.drop i=r.map (·.2.2)->(∀q∈r,knd.is q.1 q.2.1=true)->N3 s.heap z ti to j1 j2 l tp xs I2 i->s.heap.DictOf knd d kvs->kvs.length+r.length<=zdD->
 (∀h' tk,h'.DictOf knd d (merged kvs (r.map fun q=>(q.1,q.2.2)))->(∀b o,b≠d->b≠z->b≠to->b≠j1->b≠j2->s.heap.get? b=some o->h'.get? b=some o)->R (.ok (.ret res)) {s with heap:=h',toks:=tk})->
 codeAny (model prog w) A (.builtin "dict.update.loop" ⟨[.ref d,.ref z,.int j u,res],[]⟩) R s
 |[],i,j,u,kvs,s,hi,hk,hp,st,hd,hz,hR=>by
  refine codeAny_builtin jf ?_;rw[Around.under_plainId c7 _];show wpAny _ A.in1 (pyNext (.ref z) >>= _) _ _ s;have dn:∀a o,s.heap.get? a=some o->(∀es n,o.data≠.dict es n)->a≠d:=fun a o e n q=>by
   obtain⟨od,_,_,Dz,_,Lx,_⟩:=hd;rw[q,Dz] at e;cases e;exact n _ _ Lx
  refine zdy (Pc hA ap st (by rw[<- za9];rw[zaW] at hi;exact zcr (zct.mp hi)) fun h' kp=>?_);show wpAny _ _ (Builtin.Dict.addKeywords d [] >>= _) _ _ _;refine zdy (zdz (zdz (hR h' s.toks ?_ fun b o _ c1 _ c3 _ e=>kp b o c1 c3 e)));have dz:d≠z:=by
   rcases st.zip with ⟨a,b,gz,_⟩ |⟨T,u,a,b,g,gz,_⟩
   ·exact(dn _ _ gz (by intro es n q;cases q)).symm
   ·exact(dn _ _ gz (by intro es n q;cases q)).symm
  have dj:d≠j1:=by
   obtain⟨o,go,hc,Ab⟩:=st.Pb;exact(dn _ _ go (by intro es n q;rw[Ab] at q;cases q)).symm
  obtain⟨o,es,ep,ho,rest⟩:=hd;exact⟨o,es,ep,kp d o dz dj ho,rest⟩
 |q::r,i,j,u,kvs,s,hi,hk,hp,st,hd,hz,hR=>by
  have hx:xs[i]?=some q.2.1:=by
   rw[<- za9,<- zcu,hi];rfl
  have hy:ys[i]?=some q.2.2:=by
   rw[<- za9,<- zcu,hk];rfl
  have dn:∀a o,s.heap.get? a=some o->(∀es n,o.data≠.dict es n)->a≠d:=fun a o e n q=>by
   obtain⟨od,_,_,Dz,_,Lx,_⟩:=hd;rw[q,Dz] at e;cases e;exact n _ _ Lx
  have dz:d≠z:=by
   rcases st.zip with ⟨a,b,gz,_⟩ |⟨T,u,a,b,g,gz,_⟩
   ·exact(dn _ _ gz (by intro es n q;cases q)).symm
   ·exact(dn _ _ gz (by intro es n q;cases q)).symm
  have dj1:d≠j1:=by
   obtain⟨o,go,hc,Ab⟩:=st.Pb;exact(dn _ _ go (by intro es n q;rw[Ab] at q;cases q)).symm
  have dj2:d≠j2:=by
   obtain⟨o,c,go,hc,_,_,_,n4⟩:=Z2.cj st.Rg;obtain⟨od,_,_,Dz,hex,_⟩:=hd;exact jg Dz go hex.1 hc (Ne.symm n4)
  refine codeAny_builtin jf ?_;rw[Around.under_plainId c7 _];show wpAny _ A.in1 (pyNext (.ref z) >>= _) _ _ s;refine zdy (LV Z2 ap st hx hy fun h' C2 pr kp=>?_);have Ab:h'.DictOf knd d kvs:=by
   obtain⟨o,es,ep,ho,rest⟩:=hd;exact⟨o,es,ep,kp d o dz dto dj1 dj2 ho,rest⟩
  show wpAny _ A.in1 (holding [Value.ref s.heap.objs.size] _ >>= _) _ _ _;refine zdy (zdA (zdy (wpAny_tryCatch ?_)));unfold Builtin.Dict.pairItems;refine zdy (wpAny_typeOf (T:="tuple") ⟨_,pr,rfl⟩ ?_);rw[if_pos (by decide)];refine zdy (wpAny_seqItems (s:={s with heap:=h' }) pr rfl (zdz ?_));show wpAny _ A.in1 (holding [q.2.1,q.2.2] (dictSet d q.2.1 q.2.2)) _ _ _;refine zdA (wpAny_dictSet_pairs (s:={s with heap:=h' }) (hp q (zan ..)) Ab (fun h2 hd2 Ke=>?_) (by simp only[zap] at hz;lia));refine zdz ⟨plainId_quiet c7 _,?_⟩;refine Hd knd d z ti to j1 j2 l tp xs ys Z2 res hA ap dto r (i+1) (j+1) _ _ _ ?_ ?_ (fun p We=>hp p (zaj _ We)) (C2.but (P:=(·≠d)) Z2 (fun a o n e=>Ke.extBut _ _ n e) ?_ ?_ fun a o c e hc _ n2 w=>?_) hd2 ?_ fun h3 tk Wf keep=>hR h3 tk Wf fun b o n1 n2 n3 n4 n5 e=>keep b o n1 n2 n3 n4 n5 ?_
  ·rw[<- zcF,hi];rfl
  ·rw[<- zcF,hk];rfl
  ·obtain⟨ol,gl,cl,_⟩:=C2.ls;obtain⟨od,_,_,Dz,hex,_⟩:=Ab;exact jg gl Dz cl hex.1 (by decide)
  ·obtain⟨ot,c,gt,ct,_,_,n3⟩:=Z2.ct C2.Rg;obtain⟨od,_,_,Dz,hex,_⟩:=Ab;exact jg gt Dz ct hex.1 n3
  ·obtain⟨od,_,_,Dz,hex,_⟩:=Ab;rw[w,Dz] at e;cases e;rw[hex.1] at hc;exact n2 (Value.type.inj hc).symm
  ·have:=stored_length_le kvs q.1 q.2.2;simp only[zap] at hz;lia
  ·exact(Ke.2 _ n1).trans (kp b o n2 n3 n4 n5 e)
theorem LW:typeLookup (.type "zip") "keys"=pure none:=by rw[typeLookup_type,builtinLookup_eq_fast];kernel_rfl
theorem LX:typeLookup (.type "zip") "__getattr__"=pure none:=by rw[typeLookup_type,builtinLookup_eq_fast];kernel_rfl
theorem BF:entryFor table "zip.__getattribute__"=some Builtin.«object.__getattribute__»:=entryFor_alias (id':="object.__getattribute__") (by kernel_rfl) (by first |rfl |decide +kernel) (by decide +kernel) (by kernel_rfl)
theorem IY(a:zdv)(u:Tok){hp:Heap}{g:Array GenState}{d:Drawn}{tk:Nat}{os:OsState}{vs:Array zdw}{Q:Fin->zdF->Prop}(hx:hp.get? a=some ⟨.type "zip",none,.fields vs, #[]⟩)(hA:A.handled=none)
 (h:∀h' O7 e,Heap.NewAttrErr hp h' e (.ref a) "keys"->E (.ref e) ⟨h',g,d,O7,os⟩) :
 wpAny (model prog w) A (Builtin.«object.__getattribute__» ⟨[.ref a,.str "keys" u],[]⟩) Q E ⟨hp,g,d,tk,os⟩:=by
 have hT:(⟨hp,g,d,tk,os⟩:zdF).TypeIs (.ref a) "zip":=⟨_,hx,rfl⟩
 have f4:=LW;unfold Builtin.«object.__getattribute__»
 repeat (any_goals (first |assumption |wp_step))
 exact wpAny_raiseAttrError hA h (attrMsg_fits (by decide +kernel) (by size_fits))
theorem Fq(a:zdv){s:zdF}{vs:Array zdw}{Q:Option zdw->zdF->Prop}(hx:s.heap.get? a=some ⟨.type "zip",none,.fields vs, #[]⟩)(hA:A.handled=none)
 (h:∀h' tk,(∀b ob,s.heap.get? b=some ob->h'.get? b=some ob)->Q none {s with heap:=h',toks:=tk}):wpAny (model prog w) A (getAttr? (.ref a) "keys") Q E s:=by
 obtain⟨hp,g,d,tk,os⟩:=s;have hT:∀O7,(⟨hp,g,d,O7,os⟩:zdF).TypeIs (.ref a) "zip":=fun _=>⟨_,hx,rfl⟩
 have f1:=sub_AttributeError;have f2:=F.slot_zip_getattribute.lookup;have f3:=F.slot_zip_getattribute.bind (.ref a);have f5:=LX;unfold getAttr? getAttrBy? getAttrBy
 repeat (any_goals (first |assumption |exact hT _ |wp_step))
 all_goals
  refine codeAny_call_builtin F.slot_zip_getattribute.plain BF (F.slot_zip_getattribute.check _ _ _ _ _ _ _ _ (show (⟨hp,g,d,tk+1,os⟩:zdF).TypeIs (.ref a) "zip" from ⟨_,hx,rfl⟩) (F.args_zip_getattribute_2 _ _) ?_)
 all_goals
  refine IY a tk hx hA fun h' O7 e ne=>?_
 all_goals
  obtain⟨t',u',he⟩:=ne.there;show wpAny _ _ (getattributeRaised _ _ _ _ _ _ _) _ _ _;unfold getattributeRaised
  repeat (any_goals (first |assumption |wp_step))
 all_goals exact h _ _ ne.keeps
end
abbrev zA (h:Heap) (l:zdv):Heap:=h.push {cls:=.type "list_iterator",data:=.fields #[.ref l,.int 0 0]}
abbrev zB (h:Heap) (l tp:zdv):Heap:=(zA h l).push {cls:=.type "tuple_iterator",data:=.fields #[.ref tp,.int 0 0]}
abbrev zC (h:Heap) (l tp:zdv):Heap:=(zB h l tp).push {cls:=.type "tuple",data:=.seq #[.ref h.objs.size,.ref (zA h l).objs.size]}
abbrev zD (h:Heap) (l tp:zdv):Heap:=(zC h l tp).push {cls:=.type "tuple",data:=.seq #[.none,.none]}
abbrev zE (h:Heap) (l tp:zdv):Heap:=(zD h l tp).push {cls:=.type "zip",data:=.fields #[.none,.bool false,.bool false,.ref (zB h l tp).objs.size,.ref (zC h l tp).objs.size]}
theorem LY(l tp:zdv)(xs ys:Array zdw):Meets (Builtin.«zip.__new__» ⟨[.type "zip",.ref l,.ref tp],[]⟩) (fun _ R s=>s.heap.IsList l xs/\s.heap.IsTuple tp ys/\R (.ok (.ret (.ref (zD s.heap l tp).objs.size))) {s with heap:=zE s.heap l tp}):=
 .of_wp fun prog w A R s h=>by
  obtain⟨hp,g,d,tk,os⟩:=s;obtain⟨g1,g2,h⟩:=h;have afr:=sub_zip;have k1:Heap.IsList (Shared.heap ⟨hp,g,d,tk,os⟩) l xs:=g1;have k2:Heap.IsTuple (Shared.heap ⟨hp.push {cls:=.type "list_iterator",data:=.fields #[.ref l,.int 0 0]},g,d,tk,os⟩) tp ys:=by
   obtain⟨o,go,rest⟩:=g2;exact⟨o,Heap.get?_push_of_some _ go,rest⟩
  wp_walk using wpAny_pyIter_list k1,wpAny_pyIter_tuple k2
  exact⟨_,rfl,h⟩
section
variable{prog:zdH}{w:zdx}{A:zdG}{E:zdw->zdF->Prop}{s:zdF}
theorem Pd(n l tp:Nat)(h1:l<n)(h2:tp<n):UH (n+4) (n+2) (n+3) n (n+1) l tp:=by
 constructor<;>(show (_:Nat)≠_;lia)
theorem Fs{l tp:zdv}{xs ys:Array zdw}{Q:zdw->zdF->Prop}(hl:s.heap.IsList l xs)(ht:s.heap.IsTuple tp ys)
 (h:∀h',UH (s.heap.objs.size+4) (s.heap.objs.size+2) (s.heap.objs.size+3) s.heap.objs.size (s.heap.objs.size+1) l tp->N3 h' (s.heap.objs.size+4) (s.heap.objs.size+2) (s.heap.objs.size+3) s.heap.objs.size (s.heap.objs.size+1) l tp xs (fun h i=>h.IsTupleIter (s.heap.objs.size+1) tp i/\h.IsTuple tp ys) 0->
  BE h' (s.heap.objs.size+4) (s.heap.objs.size+2) (s.heap.objs.size+3) .none (.bool false)->(∀c o,s.heap.get? c=some o->h'.get? c=some o)->Q (.ref (s.heap.objs.size+4)) {s with heap:=h' }) :
 wpAny (model prog w) A (call (.type "zip") [.ref l,.ref tp]) Q E s:=by
 refine callType_new F.called_zip (by decide) (F.typeCall_zip_2 _ _) (F.newCall_zip_2 _ _) (fun obj=>F.args_object_init_3 obj _ _) F.entry_zip_new (LY l tp xs ys) ⟨hl,ht,?_⟩;have z1:(zA s.heap l).objs.size=s.heap.objs.size+1:=Heap.size_push ..;have z2:(zB s.heap l tp).objs.size=s.heap.objs.size+2:=by rw[Heap.size_push,z1]
 have z3:(zC s.heap l tp).objs.size=s.heap.objs.size+3:=by rw[Heap.size_push,z2]
 have z4:(zD s.heap l tp).objs.size=s.heap.objs.size+4:=by rw[Heap.size_push,z3]
 have g5:(zE s.heap l tp).get? (zD s.heap l tp).objs.size=some _:=Heap.get?_push_size _ rfl;have g4:(zE s.heap l tp).get? (zC s.heap l tp).objs.size=some _:=Heap.get?_push_of_some _ (Heap.get?_push_size _ rfl);have g3:(zE s.heap l tp).get? (zB s.heap l tp).objs.size=some _:=Heap.get?_push_of_some _ (Heap.get?_push_of_some _ (Heap.get?_push_size _ rfl));have g2:(zE s.heap l tp).get? (zA s.heap l).objs.size=some _:=Heap.get?_push_of_some _ (Heap.get?_push_of_some _ (Heap.get?_push_of_some _ (Heap.get?_push_size _ rfl)));have g1:(zE s.heap l tp).get? s.heap.objs.size=some _:=Heap.get?_push_of_some _ (Heap.get?_push_of_some _ (Heap.get?_push_of_some _ (Heap.get?_push_of_some _ (Heap.get?_push_size _ rfl))));have up:∀c o,s.heap.get? c=some o->(zE s.heap l tp).get? c=some o:=fun c o e=>Heap.get?_push_of_some _ (Heap.get?_push_of_some _ (Heap.get?_push_of_some _ (Heap.get?_push_of_some _ (Heap.get?_push_of_some _ e))));show _/\_;rw[z2,z3,z4] at g5;rw[z1,z2] at g3;rw[z3] at g4;rw[z1] at g2;rw[z4];obtain⟨ol,gl,rl⟩:=id hl;obtain⟨ot,gt,rt⟩:=id ht;have ll:=Heap.lt_size gl;have lt:=Heap.lt_size gt;refine⟨⟨_,g5,rfl⟩,h _ (Pd _ _ _ ll lt) ⟨.inl ⟨_,_,g5,g4⟩,g3,⟨_,g1,rfl,rfl⟩,⟨⟨_,g2,rfl,rfl⟩,ot,up _ _ gt,rt⟩,⟨ol,up _ _ gl,rl⟩⟩ g5 up⟩
theorem LZ{κ:Type}[DecidableEq κ](knd:KeyKind prog w κ)(z ti to j1 j2 l tp:zdv){xs ys:Array zdw}{I2:Heap->Nat->Prop}(Z2:SR prog w j2 tp ys I2){Q:zdw->zdF->Prop}(hA:A.handled=none)(ap:UH z ti to j1 j2 l tp)(st:N3 s.heap z ti to j1 j2 l tp xs I2 0)(gz:BE s.heap z ti to .none (.bool false))(r:List (κ×zdw×zdw))
 (hi:xs.toList=r.map (·.2.1)) (hk:ys.toList=r.map (·.2.2)) (hp:∀q∈r,knd.is q.1 q.2.1=true) (hz:r.length<=zdD) (lto:to<s.heap.objs.size)
 (h:∀h' tk,h'.DictOf knd s.heap.objs.size (merged [] (r.map fun q=>(q.1,q.2.2)))->(∀b o,b≠z->b≠to->b≠j1->b≠j2->s.heap.get? b=some o->h'.get? b=some o)->Q (.ref s.heap.objs.size) {s with heap:=h',toks:=tk}) :
 wpAny (model prog w) A (call (.type "dict") [.ref z]) Q E s:=by
 refine callType_codes (Q₁:=fun obj s₁=>obj=.ref s.heap.objs.size/\s₁={s with heap:=s.heap.push {cls:=.type "dict",data:=.dict #[]} }) F.kt_called_dict (F.kt_typeCall_dict_1 _) F.entry_dict_init (kt_code_dict_new _ ⟨rfl,rfl⟩) ?_
 rintro obj s₁ ⟨rfl,rfl⟩
 have yw:(s.heap.push {cls:=.type "dict",data:=.dict #[]}).DictOf knd s.heap.objs.size []:=Heap.DictOf.new s.heap;have i8:∀b o,s.heap.get? b=some o->(s.heap.push {cls:=.type "dict",data:=.dict #[]}).get? b=some o:=fun b o e=>Heap.get?_push_of_some _ e;refine⟨yw.typeIs,F.args_dict_init_2 _ _,?_⟩;unfold Builtin.«dict.__init__»;refine zdy ?_;unfold Builtin.Dict.selfAndRest;refine zdy (wpAny_notOrdered_dict yw.typeIs ?_);show wpAny _ _ (pure (s.heap.objs.size,[Value.ref z])) _ _ _;refine zdz ?_;show wpAny _ _ (Builtin.Dict.updateFrom "dict.__init__" s.heap.objs.size (.ref z) [] .none) _ _ _;unfold Builtin.Dict.updateFrom;refine zdy (wpAny_typeOf (T:="zip") ⟨_,i8 _ _ gz,rfl⟩ ?_);rw[if_pos (by decide)];refine zdy (Fq z (i8 _ _ gz) hA fun h2 SO i9=>?_);rw[if_pos (show (none:Option zdw).isNone=true from rfl)];refine zdy (wpAny_rule ?_);have up:∀b o,s.heap.get? b=some o->h2.get? b=some o:=fun b o e=>i9 _ _ (i8 _ _ e);have hd2:h2.DictOf knd s.heap.objs.size []:=by
  obtain⟨o,es,ep,ho,rest⟩:=yw;exact⟨o,es,ep,i9 _ _ ho,rest⟩
 refine zdy (wpAny_pyIter_zip (s:={s with heap:=h2,toks:=SO}) (up _ _ gz) ?_);refine zdz ⟨plainId_quiet c7 _,?_⟩;have Io:N3 h2 z ti to j1 j2 l tp xs I2 0:=by
  refine⟨?_,up _ _ st.ins,?_,Z2.kp st.Rg fun b o _ e=>up _ _ e,?_⟩
  ·rcases st.zip with ⟨a,b,e1,e2⟩ |⟨T,u,a,b,g,e1,e2⟩
   ·exact .inl ⟨a,b,up _ _ e1,up _ _ e2⟩
   ·exact .inr ⟨T,u,a,b,g,up _ _ e1,up _ _ e2⟩
  ·obtain⟨o,go,rest⟩:=st.Pb;exact⟨o,up _ _ go,rest⟩
  ·obtain⟨o,go,rest⟩:=st.ls;exact⟨o,up _ _ go,rest⟩
 refine Hd (A:=A.in1) knd s.heap.objs.size z ti to j1 j2 l tp xs ys Z2 .none hA ap (zbI lto) r 0 0 _ [] _ (by simpa using hi) (by simpa using hk) hp Io hd2 (by simpa using hz) fun h4 Wg Wh Dw=>?_;refine⟨rfl,h h4 Wg Wh fun b o n1 n2 n3 n4 e=>Dw b o (fun w=>?_) n1 n2 n3 n4 (up _ _ e)⟩;rw[w] at e;exact absurd (Heap.lt_size e) (zaP _)
end
end L3
namespace L2
open PG
open PySem PyProof.Rows
theorem Ft(c n k:Nat)(h:c<n):c≠n+k:=by lia
def tDZ (K:zaa) (t:TA):TE:=fun σ H Q=>t σ H fun xs H1=>∃(a b:zdv) (ks:List Key) (vs:List V),xs=[.ref a,.ref b]/\jc K H1 a (ks.map kV)/\bQ K H1 b vs/\vs.length=ks.length/\∀p,H1 p=none->Q (.ref p) (upd H1 p (.dK (nY [] (ks.zip vs))))
theorem Fu{X:Cx}(hc:X.calm=true){ea eb:Expr}{p1 p2 Wo IZ:Pos}{t:TA}(hg1:Gl X "dict")(hm1:X.mg "dict"=none)(hg2:Gl X "zip")(hm2:X.mg "zip"=none)(ha:PA X [ea,eb] t)
 (he:zdB [ea,eb] X.env=(false,eval ea X.env)::zdB [eb] X.env:=by rfl) (zV:(backTo IZ (zdB [eb] X.env)).any (·.1)=false:=by rfl)
 (N1:zdB [.Call (.Name "zip" p2) [ea,eb] [] IZ] X.env=(false,eval (.Call (.Name "zip" p2) [ea,eb] [] IZ) X.env)::zdB [] X.env:=by rfl) :
 PE X (.Call (.Name "dict" p1) [.Call (.Name "zip" p2) [ea,eb] [] IZ] [] Wo) (tDZ X.K t):=by
 intro pins s σ H Q I h;refine wpAny_Call_Name_kw (tm I hg1 hm1 PyProof.Rows.Boot.«dict» ?_ (by decide) (by decide));refine zbn ?_ N1 rfl;rw[N1];show wpAny _ _ (spliced ((false,eval (.Call (.Name "zip" p2) [ea,eb] [] IZ) X.env)::backTo Wo (zdB [] X.env))) _ _ s;refine Calls.spliced_cons ?_;refine wpAny_Call_Name_kw (tm I hg2 hm2 PyProof.Rows.Boot.«zip» ?_ (by decide) (by decide));refine zbn (dE (ha IZ pins s σ H _ I h) fun us s1 zqz=>?_) he zV;obtain⟨xs,H1,I1,r1,q1⟩:=zqz;obtain⟨a,b,ks,vs,rfl,ha1,hb1,lk,q⟩:=q1;obtain⟨u1,u2,rfl,ru1,ru2⟩:=vals2 r1;cases (show u1=Value.ref a from ru1);cases (show u2=Value.ref b from ru2);obtain⟨aaf,v1,t1,z1⟩:=I1.list ha1;obtain⟨tD,v2,t2,z2⟩:=I1.tuple hb1;have mk:∀(ks:List Key) (vs:List V) (Yi SS:List zdw),Vals (ks.map kV) Yi->Vals vs SS->vs.length=ks.length->∃r:List (Key×zdw×zdw),Yi=r.map (·.2.1)/\SS=r.map (·.2.2)/\(∀q∈r,(bR X.prog X.w).is q.1 q.2.1=true)/\KV (ks.zip vs) (r.map fun q=>(q.1,q.2.2))/\r.length=ks.length:=by
  intro ks
  induction ks with
  |nil=>
   intro vs Yi SS w1 w2 l;have:vs=[]:=zc5.mp l;subst this;cases w1;cases w2;exact⟨[],rfl,rfl,fun _ z=>(by cases z),.nil,rfl⟩
  |cons k ks ih=>
   intro vs Yi SS w1 w2 l;cases vs with
   |nil=>simp at l
   |cons v vs=>
    rw[zaq] at w1;cases w1 with
    |@cons _ ku _ kus w11 w12=>
     cases w2 with
     |@cons _ vu _ vus w21 w22=>
      obtain⟨r,e1,e2,h3,h4,h5⟩:=ih vs kus vus w12 w22 (by simpa using l);refine⟨(k,ku,vu)::r,by rw[e1];rfl,by rw[e2];rfl,fun q hq=>?_,.cons ⟨rfl,w21⟩ h4,by simp[h5]⟩;rcases zah.mp hq with rfl |hq
      ·exact AU w11
      ·exact h3 q hq
 obtain⟨r,e1,e2,kis,kv,lr⟩:=mk ks vs aaf tD v1 v2 lk;rw[zad] at z1;refine L3.Fs t1.isList (show s1.heap.IsTuple b tD.toArray from t2) fun h' ap st gz keep=>?_;refine Calls.spliced_nil ?_;have big:(s1.heap.objs.size+4:Nat)<h'.objs.size:=Heap.lt_size gz;have hle:s1.heap.objs.size<=h'.objs.size:=by lia
 refine L3.LZ (s:={s1 with heap:=h' }) (bR X.prog X.w) _ _ _ _ _ a b L3.O8 (I1.ok.hd hc) ap st gz r (by simpa using e1) (by simpa using e2) kis (by lia) (show (s1.heap.objs.size+3:Nat)<h'.objs.size by lia) fun h2 tk dd i9=>?_;have hn:=I1.bX.fresh hle;have hb:(h'.objs.size==sysModules)=false:=beq_eq_false_iff_ne.mpr (Ne.symm (zaD (zaz I1.big hle)));refine⟨.ref h'.objs.size,_,I1.laid (fun c o e=>i9 c o ?_ ?_ ?_ ?_ (keep c o e)) hle (Fe ?_ hb (kv.merge .nil) dd),rfl,q _ hn⟩
 ·have lc:(c:Nat)<s1.heap.objs.size:=Heap.lt_size e;exact Ft _ _ _ lc
 ·have lc:(c:Nat)<s1.heap.objs.size:=Heap.lt_size e;exact Ft _ _ _ lc
 ·have lc:(c:Nat)<s1.heap.objs.size:=Heap.lt_size e;exact zaD lc
 ·have lc:(c:Nat)<s1.heap.objs.size:=Heap.lt_size e;exact Ft _ _ _ lc
 ·have h1:=mw (ks.zip vs) [];rw[zaQ,List.length_zip] at h1;lia
section
variable{K:zaa}{H H':Hp}{p C dx:zdv}{fs:List (Str×V)}
mutual
theorem qT(h:H p=some (.ins C dx fs))(u:bB (·=p) H H'):∀(d:Dp) (v:V),Rep K H d v->Rep K H' d v
 |.dR,v,r=>by rw[Rep.qR] at r ⊢;exact r
 |.bl b,v,r=>by rw[Rep.kK] at r ⊢;exact r
 |.int b,v,r=>by rw[Rep.bO] at r ⊢;exact r
 |.str b,v,r=>by rw[Rep.cF] at r ⊢;exact r
 |.lst l,v,r=>by
  rw[Rep.bN] at r ⊢;obtain⟨a,ys,rfl,q,rs⟩:=r;refine⟨a,ys,rfl,?_,mR h u l ys rs⟩;rcases q with (q |⟨o,q⟩) |q
  ·exact .inl (.inl (u _ _ (cE q h (by intro z;cases z)) q))
  ·exact .inl (.inr ⟨o,u _ _ (cE q h (by intro z;cases z)) q⟩)
  ·exact .inr q
 |.tup l,v,r=>by
  rw[Rep.bE] at r ⊢;obtain⟨a,ys,rfl,q,rs⟩:=r;refine⟨a,ys,rfl,?_,mR h u l ys rs⟩;rcases q with (q |⟨o,q⟩) |q
  ·exact .inl (.inl (u _ _ (cE q h (by intro z;cases z)) q))
  ·exact .inl (.inr ⟨o,u _ _ (cE q h (by intro z;cases z)) q⟩)
  ·exact .inr q
theorem mR(h:H p=some (.ins C dx fs))(u:bB (·=p) H H'):∀(ds:List Dp) (vs:List V),aD K H ds vs->aD K H' ds vs
 |[],vs,r=>by rw[aD.bZ] at r ⊢;exact r
 |d::ds,vs,r=>by
  rw[aD.aL] at r ⊢;obtain⟨v,t,rfl,r1,r2⟩:=r;exact⟨v,t,rfl,qT h u d v r1,mR h u ds t r2⟩
end
end
theorem tK{K:zaa}{a D:zdv}{xs:List V}{te:TE}{Q:VK}{r:St}{H:Hp}(kf:Nat->Key×V)(hS:jc K H a xs)(hl:xs.length<=16000000)(hD:H D=none)
 (step:∀i x H2,xs[i]?=some x->aq H H2->∀R:VK,(∀p,H2 p=none->R (.ref p) (upd H2 p (.tup [kV (kf i).1,(kf i).2])))->te (some x::r) H2 R)
 (q:∀(ps:List (zdv×Key×V)) H2,aq H H2->H2 D=some (.lst (ps.map fun q=>V.ref q.1))->(∀q∈ps,H2 q.1=some (.tup [kV q.2.1,q.2.2]))->ps.map (·.2)=(zaB xs.length).map kf->Q (.ref D) H2) :
 pQ (GC K a) D (dW 0) xu te Q (none::r) (upd H D (.lst [])):=by
 refine tI (K:=K) (fun i ys H2=>∃ps:List (zdv×Key×V),ys=ps.map (fun q=>V.ref q.1)/\(∀q∈ps,H2 q.1=some (.tup [kV q.2.1,q.2.2]))/\ps.map (·.2)=(zaB i).map kf) hS hl hD ⟨[],rfl,fun _ z=>(by cases z),rfl⟩ ?_ ?_
 ·rintro i x ys H2 hx s2 SU ly ⟨ps,rfl,Pe,ep⟩ R hR
  refine step i x H2 hx s2 R fun p hp=>hR _ _ (aq.new hp _) ⟨ps++[(p,kf i)],by simp,fun q hq=>?_,by rw[zat,ep,zaR,zat];rfl⟩;have pD:D≠p:=aj SU hp;rcases zak.mp hq with hq |hq
  ·have e:=Pe q hq;rw[au (cE e SU (by intro z;cases z))];exact aq.new hp _ _ _ e
  ·rw[zab.mp hq];show upd (upd H2 p _) D _ p=_;rw[au pD.symm,ah]
 ·rintro ys H2 s2 SU ⟨ps,rfl,Pe,ep⟩
  exact q ps H2 s2 SU Pe ep
theorem wc{K:zaa}{a D:zdv}{xs:List V}{te:TE}{Q:VK}{r:St}{H:Hp}(f:Nat->V)(hS:jc K H a xs)(hl:xs.length<=16000000)(hD:H D=none)
 (step:∀i x H2,xs[i]?=some x->aq H H2->∀R:VK,R (f i) H2->te (some x::r) H2 R)
 (q:∀H2,aq H H2->H2 D=some (.lst ((zaB xs.length).map f))->Q (.ref D) H2):pQ (GC K a) D (dW 0) xu te Q (none::r) (upd H D (.lst [])):=by
 refine tI (K:=K) (fun i ys H2=>ys=(zaB i).map f) hS hl hD rfl ?_ ?_
 ·rintro i x ys H2 hx s2 SU ly rfl R hR
  exact step i x H2 hx s2 R (hR _ _ (aq.refl _) (by rw[zaR,zat];rfl))
 ·rintro ys H2 s2 SU rfl
  exact q H2 s2 SU
structure rG(K:zaa)(C:zdv)(H:Hp)(p:zdv)(pr:PG.Prog):Prop where
 at_:∃(dx nl sd fa va st wy:zdv) (us ws:List V),H p=some (.ins C dx [("names",.ref nl),("sizes",.ref sd),("first",.ref fa),("statements",.ref st),("ways",.ref wy)])/\H dx=some (.own p)/\
  H nl=some (.lst (pr.aA.map fun b=>.str (S b.name)))/\H sd=some (.dK (pr.aA.map fun b=>(.inr (S b.name),.int b.size)))/\
  H fa=some (.tup [.int (bg pr.body 0),.ref va])/\H va=some (.tup (pr.aA.map fun b=>.int b.first))/\
  us.length=(aB pr.body).length/\H st=some (.dK (j3 (aB pr.body) us))/\aD K H ((aB pr.body).map fI) us/\
  ws.length=(aI pr.body 0).length/\H wy=some (.dK (zbc (fun r v=>(Sum.inl r.1,v)) (aI pr.body 0) ws))/\∀i (hi:i<(aI pr.body 0).length),∃q,ws[i]?=some (.ref q)/\bQ K H q ((aI pr.body 0)[i].2.2.map V.int)
section
variable(K:zaa)(C:zdv)
inductive He(vs:List V)(H:Hp)(Q:VK)(E:XK):Prop
 |mk (p dx:zdv) (v:V) (pr:PG.Prog):vs=[.ref p,v]->H p=some (.ins C dx [])->H dx=some (.own p)->Rep K H (my pr) v->tF pr.body<=3->(cG pr.body).length<=1000->(aB pr.body).Pairwise (fun a b=>a.row<b.row)->(pr.aA.map (·.name)).Nodup->pr.aA.length<=10->(∀H',aS p H H'->rG K C H' p pr->Q .dR H')->He vs H Q E
end
end L2
namespace L2
open PG
open PySem
def SV (kvs:List (Key×V)) (x:W):Int:=match bL kvs (.inr (S x)) with
 |some (.int i)=>i
 |_=>0
def Kf (kvs:List (Key×V)):PM.Tr->Prop
 |.num n=>n.natAbs<=2 ^ 12
 |.box x=>∃i:Int,bL kvs (.inr (S x))=some (.int i)/\i.natAbs<=2 ^ 12
 |.bin o l r=>(o=[43]\/o=[45]\/o=[42])/\Kf kvs l/\Kf kvs r
theorem L0{kvs:List (Key×V)}{x:W}{i:Int}(h:bL kvs (.inr (S x))=some (.int i)):SV kvs x=i:=by
 unfold SV;rw[h]
theorem uT{kvs:List (Key×V)}:∀ {t:PM.Tr},Kf kvs t->(gR (SV kvs) t).natAbs<=2 ^ (14*2 ^ rF t)
 |.num n,h=>by
  rw[Kf] at h;rw[gR];simp only[rF];exact zaw h (za7 (by decide) (by decide))
 |.box x,h=>by
  rw[Kf] at h;obtain⟨i,e,hi⟩:=h;rw[gR,L0 e];simp only[rF];exact zaw hi (za7 (by decide) (by decide))
 |.bin o l r,h=>by
  rw[Kf] at h;have hl:=uT h.2.1;have hr:=uT h.2.2;have one:∀a b:Nat,1<=2 ^ max a b:=fun a b=>Nat.one_le_two_pow;have ml:(gR (SV kvs) l).natAbs<=2 ^ (14*2 ^ max (rF l) (rF r)):=zaw hl (za7 (by decide) (zdo _ (za7 (by decide) (Nat.le_max_left _ _))));have mr:(gR (SV kvs) r).natAbs<=2 ^ (14*2 ^ max (rF l) (rF r)):=zaw hr (za7 (by decide) (zdo _ (za7 (by decide) (Nat.le_max_right _ _))));rw[rF,show 14*2 ^ (max (rF l) (rF r)+1)=14*2 ^ max (rF l) (rF r)+14*2 ^ max (rF l) (rF r) by rw[Nat.pow_succ];lia];have k14:14<=14*2 ^ max (rF l) (rF r):=Nat.le_mul_of_pos_right _ (one _ _);generalize 14*2 ^ max (rF l) (rF r)=k at *;have two:2<=2 ^ k:=zaw (by decide:2<=2 ^ 1) (za7 (by decide) (by lia));rw[Nat.pow_add];have b2:2*2 ^ k<=2 ^ k*2 ^ k:=zcv _ two;have ab:=zaw (Nat.add_le_add ml mr) (by rw[<- Nat.two_mul];exact b2);rw[gR];split
  ·exact zaw (Int.natAbs_add_le _ _) ab
  ·split
   ·rw[Int.sub_eq_add_neg];refine zaw (Int.natAbs_add_le _ _) ?_;rw[Int.natAbs_neg];exact ab
   ·rw[Int.natAbs_mul];exact zbl ml mr
theorem L1{a:Int}{d:Nat}(h:a.natAbs<=2 ^ (14*2 ^ d))(hd:d<=6):a.natAbs<2 ^ 4000:=by
 refine zbi h (Nat.pow_lt_pow_right (by decide) ?_);have:2 ^ d<=2 ^ 6:=za7 (by decide) hd;lia
section
variable(K:zaa)
inductive Wq(n:Nat)(vs:List V)(H:Hp)(Q:VK)(E:XK):Prop
 |mk (v:V) (d:zdv) (tr:PM.Tr) (kvs:List (Key×V)):vs=[v,.ref d]->Rep K H (pA tr) v->H d=some (.dK kvs)->Kf kvs tr->rF tr<n->rF tr<=6->(∀H',aq H H'->Q (.int (gR (SV kvs) tr)) H')->Wq n vs H Q E
end
theorem rG.mono{K:zaa}{C p:zdv}{H H':Hp}{pr:PG.Prog}(c:rG K C H p pr)(s:aq H H'):rG K C H' p pr:=by
 obtain⟨dx,nl,sd,fa,va,st,wy,us,ws,h1,h2,h3,h4,h5,h6,h7,h8,h9,N4,Kg,N5⟩:=c.at_;exact⟨⟨dx,nl,sd,fa,va,st,wy,us,ws,s _ _ h1,s _ _ h2,s _ _ h3,s _ _ h4,s _ _ h5,s _ _ h6,h7,s _ _ h8,h9.mono s,N4,s _ _ Kg,fun i hi=>let ⟨q,e,r⟩:=N5 i hi;⟨q,e,s.bM r⟩⟩⟩
theorem qU{α β:Type}(g:α->β)(d:α)(l:List α):(zaB l.length).map (fun i=>g (l.getD i d))=l.map g:=by
 apply zco
 ·simp
 ·intro i h1 h2;simp at h1 h2;simp[h2]
def eR (bs:List ui) (vs:List V):List (Key×V):=zbc (fun b v=>(Sum.inr (S b.name),v)) bs vs
theorem yy:∀(bs:List ui) (vs:List V),(bs.map fun b=>(Sum.inr (S b.name):Key)).zip vs=eR bs vs
 |[],vs=>by simp[eR]
 |b::bs,[]=>by simp[eR]
 |b::bs,v::vs=>by
  show _::(bs.map fun b=>(Sum.inr (S b.name):Key)).zip vs=_::eR bs vs;rw[yy bs vs]
theorem w8:∀(bs:List ui) (vs:List V),vs.length=bs.length->(eR bs vs).map (·.1)=bs.map fun b=>(Sum.inr (S b.name):Key)
 |[],[],_=>rfl
 |[],_::_,h=>by simp at h
 |_::_,[],h=>by simp at h
 |b::bs,v::vs,h=>by
  show _::(eR bs vs).map (·.1)=_;rw[w8 bs vs (by simpa using h)];rfl
theorem names_nodup{bs:List ui}(nb:(bs.map (·.name)).Nodup):(bs.map fun b=>(Sum.inr (S b.name):Key)).Nodup:=by
 refine zbd.mpr ((zbd.mp nb).imp fun {a b} Rb e=>Rb ?_);exact yq.mp (Sum.inr.inj e)
theorem mS:∀(bs:List ui) (vs:List V),vs.length=bs.length->(bs.map (·.name)).Nodup->∀i (hi:i<bs.length) v,vs[i]?=some v->bL (eR bs vs) (.inr (S bs[i].name))=some v
 |[],_,_,_,i,hi,_,_=>by simp at hi
 |_::_,[],h,_,_,_,_,_=>by simp at h
 |b::bs,v::vs,h,nb,0,hi,u,hu=>by
  simp at hu;subst hu;show bL ((_,v)::eR bs vs) _=_;exact cu rfl
 |b::bs,v::vs,h,nb,i+1,hi,u,hu=>by
  rw[zaq,zbv] at nb;have mem:(bs[i]'(by simpa using hi)).name∈bs.map (·.name):=zal.mpr ⟨_,zas _,rfl⟩;show bL ((.inr (S b.name),v)::eR bs vs) (.inr (S (bs[i]'(by simpa using hi)).name))=_;rw[cA (fun e=>by have e:=yq.mp (Sum.inr.inj e);exact nb.1 (e▸mem))];exact mS bs vs (by simpa using h) nb.2 i (by simpa using hi) u (by simpa using hu)
section
variable(K:zaa)(C:zdv)
inductive AZ(vs:List V)(H:Hp)(Q:VK)(E:XK):Prop
 |mk (p a:zdv) (pr:PG.Prog) (us:List V):vs=[.ref p,.ref a]->rG K C H p pr->bQ K H a us->us.length=pr.aA.length->(pr.aA.map (·.name)).Nodup->pr.aA.length<=10->(∀d H',aq H H'->H d=none->H' d=some (.dK (eR pr.aA us))->Q (.ref d) H')->AZ vs H Q E
inductive A0(vs:List V)(H:Hp)(Q:VK)(E:XK):Prop
 |mk (p d:zdv) (pr:PG.Prog) (kvs:List (Key×V)) (us:List V):vs=[.ref p,.ref d]->rG K C H p pr->H d=some (.dK kvs)->us.length=pr.aA.length->(∀i (hi:i<pr.aA.length),bL kvs (.inr (S pr.aA[i].name))=us[i]?)->pr.aA.length<=10->(∀a H',aq H H'->bQ K H' a us->Q (.ref a) H')->A0 vs H Q E
inductive DA(vs:List V)(H:Hp)(Q:VK)(E:XK):Prop
 |mk (p:zdv) (pr:PG.Prog) (row:Int):vs=[.ref p,.int row]->rG K C H p pr->(aB pr.body).Pairwise (fun a b=>a.row<b.row)->((row=0/\Q (.str "end") H)\/(row≠0/\∃i,∃hi:i<(aB pr.body).length,(aB pr.body)[i].row=row/\Q (.str (rZ (aB pr.body)[i].wd)) H))->DA vs H Q E
end
def w9:cD->Option (W×PM.Tr×PM.Tr)
 |.bW _ sg l r=>some (sg,l,r)
 |.ifs _ sg l r _ _=>some (sg,l,r)
 |.lC _ sg l r _=>some (sg,l,r)
 |_=>none
def tL (sg:W) (a b:Int):Bool:=if sg=[60] then decide (a<b) else decide (a=b)
def wv (bs:List ui) (vals:List Int) (e:PM.Tr):Int:=gR (SV (eR bs (vals.map V.int))) e
abbrev Fv (bs:List ui) (vals:List Int) (e:PM.Tr):Prop:=Kf (eR bs (vals.map V.int)) e/\rF e<=2
theorem Fw{K:zaa}{H:Hp}{st:cD}{v:V}{sg:W}{l r:PM.Tr}(h:Rep K H (fI st) v)(c:w9 st=some (sg,l,r)):∃a w0 vl vr ys,v=.ref a/\bQ K H a (w0 :: .int st.row :: .str (S sg)::vl::vr::ys)/\Rep K H (pA l) vl/\Rep K H (pA r) vr:=by
 have key:∃w ds,fI st=.tup (.str w :: .int st.row :: .str (S sg)::pA l::pA r::ds):=by
  cases st<;>simp only[w9,za1.injEq,Prod.mk.injEq,reduceCtorEq] at c<;>obtain⟨rfl,rfl,rfl⟩:=c<;>exact⟨_,_,by rw[fI];rfl⟩
 obtain⟨w0,ds,e⟩:=key;rw[e,Rep.bE] at h;obtain⟨a,xs,rfl,q,rs⟩:=h;rw[aD.aL] at rs;obtain⟨v0,t0,rfl,_,rs⟩:=rs;rw[aD.aL] at rs;obtain⟨v1,t1,rfl,e1,rs⟩:=rs;rw[aD.aL] at rs;obtain⟨v2,t2,rfl,e2,rs⟩:=rs;rw[aD.aL] at rs;obtain⟨v3,t3,rfl,e3,rs⟩:=rs;rw[aD.aL] at rs;obtain⟨v4,t4,rfl,e4,rs⟩:=rs;rw[Rep.bO] at e1;rw[Rep.cF] at e2;subst e1 e2;exact⟨a,v0,v3,v4,t4,rfl,q,e3,e4⟩
def cQ (K:zaa) (H:Hp) (sa:zdv) (row:Int) (vals:List Int):Prop:=∃va,bQ K H sa [.int row,.ref va]/\bQ K H va (vals.map V.int)
theorem cQ.mono{K:zaa}{H H':Hp}{sa:zdv}{row:Int}{vals:List Int}(h:cQ K H sa row vals)(s:aq H H'):cQ K H' sa row vals:=by obtain⟨va,h1,h2⟩:=h;exact⟨va,s.bM h1,s.bM h2⟩
structure Fx(pr:PG.Prog):Prop where
 pw:(aB pr.body).Pairwise (fun a b=>a.row<b.row)
 nb:(pr.aA.map (·.name)).Nodup
 CM:pr.aA.length<=10
 pos:∀s∈aB pr.body,0<s.row
section
variable(K:zaa)(C:zdv)
inductive Hf(vs:List V)(H:Hp)(Q:VK)(E:XK):Prop
 |mk (p sa:zdv) (pr:PG.Prog) (vals:List Int) (i:Nat) (hi:i<(aB pr.body).length) (sg:W) (l r:PM.Tr):vs=[.ref p,.ref sa]->rG K C H p pr->Fx pr->cQ K H sa (aB pr.body)[i].row vals->vals.length=pr.aA.length->w9 (aB pr.body)[i]=some (sg,l,r)->Fv pr.aA vals l->Fv pr.aA vals r->(∀H',aq H H'->Q (.bl (tL sg (wv pr.aA vals l) (wv pr.aA vals r))) H')->Hf vs H Q E
end
theorem A1:∀(fl:List eJ) (vs:List V),vs.length=fl.length->fl.Pairwise (fun a b=>a.1<b.1)->∀i (hi:i<fl.length) v,vs[i]?=some v->bL (zbc (fun r v=>((Sum.inl r.1:Key),v)) fl vs) (.inl fl[i].1)=some v
 |[],_,_,_,i,hi,_,_=>by simp at hi
 |_::_,[],h,_,_,_,_,_=>by simp at h
 |s::ss,v::vs,h,hp,0,hi,u,hu=>by
  simp at hu;subst hu;rw[zdb];exact cu rfl
 |s::ss,v::vs,h,hp,i+1,hi,u,hu=>by
  rw[zbO] at hp;have lt:=hp.1 (ss[i]'(by simpa using hi)) (zas _);rw[zdb];show bL _ (Sum.inl (ss[i]'(by simpa using hi)).1:Key)=_;rw[cA (fun e=>by have e:=Sum.inl.inj e;lia)];exact A1 ss vs (by simpa using h) hp.2 i (by simpa using hi) u (by simpa using hu)
theorem qc(b:List cD)(i:Nat)(hi:i<(aB b).length):∃hf:i<(aI b 0).length,(aI b 0)[i].1=(aB b)[i].row/\(aI b 0)[i].2.1=(aB b)[i].wd:=by
 have e:((aI b 0).map fun r=>(r.1,r.2.1))=(aB b).map fun x=>(x.row,x.wd):=by rw[dw,iB]
 have l:=congrArg zba e;rw[zad,zad] at l;have hf:i<(aI b 0).length:=by lia
 refine⟨hf,?_⟩;have h1:((aI b 0).map fun r=>(r.1,r.2.1))[i]?=((aB b).map fun x=>(x.row,x.wd))[i]?:=by rw[e]
 rw[zao,zao,zae hf,zae hi] at h1;have h1:=za1.inj h1;exact⟨congrArg Prod.fst h1,congrArg Prod.snd h1⟩
theorem Ja{b:List cD}(pw:(aB b).Pairwise fun a b=>a.row<b.row):(aI b 0).Pairwise fun a b=>a.1<b.1:=by
 have e:((aI b 0).map fun r=>(r.1,r.2.1))=(aB b).map fun x=>(x.row,x.wd):=by rw[dw,iB]
 have h:((aB b).map fun x=>(x.row,x.wd)).Pairwise fun a b=>a.1<b.1:=zbd.mpr pw;rw[<- e,zbd] at h;exact h
theorem rG.way{K:zaa}{C p:zdv}{H:Hp}{pr:PG.Prog}(c:rG K C H p pr)(ok:Fx pr)(i:Nat)(hi:i<(aB pr.body).length)(hf:i<(aI pr.body 0).length):∃dx fs wy q,H p=some (.ins C dx fs)/\fs.lookup (zac "ways")=some (V.ref wy)/\xq H wy (.int (aB pr.body)[i].row) (some (.ref q))/\bQ K H q ((aI pr.body 0)[i].2.2.map V.int):=by
 obtain⟨dx,nl,sd,fa,va,st,wy,us,ws,h1,h2,h3,h4,h5,h6,h7,h8,h9,N4,Kg,N5⟩:=c.at_;obtain⟨q,e,hq⟩:=N5 i hf;obtain⟨hf',e1,_⟩:=qc pr.body i hi;have g:=A1 _ _ N4 (Ja ok.pw) i hf _ e;rw[e1] at g;exact⟨dx,_,wy,q,h1,rfl,.inl ⟨_,.inl _,.inl Kg,rfl,g.symm⟩,hq⟩
def yz (K:zaa) (H:Hp):Option (Int×List Int)->V->Prop
 |none,v=>v=.dR
 |some x,v=>∃a,v=.ref a/\cQ K H a x.1 x.2
def jF (bs:List ui) (st:cD) (ws:List Int) (vals:List Int):Option (Int×List Int):=match w9 st with
 |none=>none
 |some (sg,l,r)=>if tL sg (wv bs vals l) (wv bs vals r) then some (ws.getD 0 0,vals) else if st.wd=.bW then none else some (ws.getD 1 0,vals)
section
variable(K:zaa)(C:zdv)
inductive A2(vs:List V)(H:Hp)(Q:VK)(E:XK):Prop
 |mk (p sa:zdv) (pr:PG.Prog) (vals:List Int) (i:Nat) (hi:i<(aB pr.body).length) (hf:i<(aI pr.body 0).length) (sg:W) (l r:PM.Tr):vs=[.ref p,.ref sa]->rG K C H p pr->Fx pr->cQ K H sa (aB pr.body)[i].row vals->vals.length=pr.aA.length->w9 (aB pr.body)[i]=some (sg,l,r)->Fv pr.aA vals l->Fv pr.aA vals r->0<(aI pr.body 0)[i].2.2.length->((aB pr.body)[i].wd≠.bW->1<(aI pr.body 0)[i].2.2.length)->(∀v H',aq H H'->yz K H' (jF pr.aA (aB pr.body)[i] (aI pr.body 0)[i].2.2 vals) v->Q v H')->A2 vs H Q E
end
open PyProof.Rows
def ja (bs:List ui) (x:W):Nat:=(bs.map (·.name)).idxOf x
def xw (bs:List ui) (vals:List Int) (x:W) (v:Int):List Int:=vals.set (ja bs x) v
def iD (bs:List ui) (x:W):Int:=((bs[ja bs x]?).map (·.size)).getD 1
def mT (bs:List ui) (st:cD) (ws vals:List Int) (Hg:Int):Option (Int×List Int)×Option Int:=match st with
 |.ask _ b=>(some (ws.getD 0 0,xw bs vals b (Hg%iD bs b)),none)
 |.put _ b e=>(some (ws.getD 0 0,xw bs vals b (wv bs vals e%iD bs b)),none)
 |.say _ e=>(some (ws.getD 0 0,vals),some (wv bs vals e))
 |.stop _=>(some (ws.getD 0 0,vals),none)
 |st=>(jF bs st ws vals,none)
def L4 (bs:List ui) (vals:List Int):cD->Prop
 |.ask _ b=>b∈bs.map (·.name)
 |.put _ b e=>b∈bs.map (·.name)/\Fv bs vals e
 |.say _ e=>Fv bs vals e
 |.bW _ _ l r=>Fv bs vals l/\Fv bs vals r
 |.ifs _ _ l r _ _=>Fv bs vals l/\Fv bs vals r
 |.lC _ _ l r _=>Fv bs vals l/\Fv bs vals r
 |.stop _=>True
def DB:Option Int->V
 |none=>.dR
 |some n=>.int n
theorem qd{bs:List ui}{x:W}(h:x∈bs.map (·.name)):∃hi:ja bs x<bs.length,bs[ja bs x].name=x:=by
 have l:ja bs x<(bs.map (·.name)).length:=List.idxOf_lt_length_iff.mpr h;have e:(bs.map (·.name))[ja bs x]=x:=List.getElem_idxOf l;rw[zad] at l;rw[zbW] at e;exact⟨l,e⟩
theorem Fy{bs:List ui}{vs:List V}(l:vs.length=bs.length)(nb:(bs.map (·.name)).Nodup){x:W}(h:x∈bs.map (·.name))(v:V)(i:Nat)(hi:i<bs.length) :
 bL (putK (eR bs vs) (.inr (S x)) v) (.inr (S bs[i].name))=(vs.set (ja bs x) v)[i]?:=by
 obtain⟨hx,ex⟩:=qd h;rw[uI];by_cases e:i=ja bs x
 ·subst e;rw[if_pos (by rw[ex]),zbR (by lia)]
 ·have ne:bs[i].name≠x:=fun z=>e (by
   have p1:=zb4.mp nb;rw[<- ex] at z;rcases Nat.lt_trichotomy i (ja bs x) with lt |eq |gt
   ·exact absurd (by rw[zbW,zbW];exact z) (p1 i (ja bs x) (by simpa using hi) (by simpa using hx) lt)
   ·exact eq
   ·exact absurd (by rw[zbW,zbW];exact z.symm) (p1 (ja bs x) i (by simpa using hx) (by simpa using hi) gt))
  rw[if_neg (fun z=>ne (yq.mp (Sum.inr.inj z))),zbU (fun z=>e z.symm)];have li:i<vs.length:=by lia
  rw[mS bs vs l nb i hi vs[i] (zae li),zae li]
theorem DC{bs:List ui}(nb:(bs.map (·.name)).Nodup){x:W}(h:x∈bs.map (·.name)):bL (bs.map fun b=>((Sum.inr (S b.name):Key),V.int b.size)) (.inr (S x))=some (.int (iD bs x)):=by
 obtain⟨hx,ex⟩:=qd h;have e:(bs.map fun b=>((Sum.inr (S b.name):Key),V.int b.size))=eR bs (bs.map fun b=>V.int b.size):=by
  unfold eR;rw[List.zipWith_map_right,List.zipWith_self]
 rw[e];have:=mS bs (bs.map fun b=>V.int b.size) (by simp) nb (ja bs x) hx (.int bs[ja bs x].size) (by rw[zao,zae hx];rfl);rw[ex] at this;rw[this];unfold iD;rw[zae hx];rfl
section
variable(K:zaa)(C:zdv)
inductive DD(vs:List V)(H:Hp)(Q:VK)(E:XK):Prop
 |mk (p sa:zdv) (fv:V) (pr:PG.Prog) (vals:List Int) (Hg:Int) (i:Nat) (hi:i<(aB pr.body).length) (hf:i<(aI pr.body 0).length):vs=[.ref p,.ref sa,fv]->rG K C H p pr->Fx pr->(∀b∈pr.aA,0<b.size)->cQ K H sa (aB pr.body)[i].row vals->vals.length=pr.aA.length->((aB pr.body)[i].wd=.ask->fv=.int Hg)->L4 pr.aA vals (aB pr.body)[i]->0<(aI pr.body 0)[i].2.2.length->((aB pr.body)[i].wd=.ifs\/(aB pr.body)[i].wd=.lC->1<(aI pr.body 0)[i].2.2.length)->(∀q sv H',aq H H'->bQ K H' q [sv,DB (mT pr.aA (aB pr.body)[i] (aI pr.body 0)[i].2.2 vals Hg).2]->yz K H' (mT pr.aA (aB pr.body)[i] (aI pr.body 0)[i].2.2 vals Hg).1 sv->Q (.ref q) H')->DD vs H Q E
end
open PySem.Spec
def Wr (K:zaa):R2:=fun x y H Q=>∃a b xs ys,x=.ref a/\y=.ref b/\bQ K H a xs/\bQ K H b ys/\xs.length+ys.length<=zdD/\∀p H',aq H H'->bQ K H' p (xs++ys)->Q (.ref p) H'
theorem Pf{X:Cx}:rD X (binaryOp .Add) (Wr X.K):=by
 intro pins s σ H x y v u Q I rx ry h;by_cases hx:∃Yj,(∃a b ys,x=.ref a/\y=.ref b/\bQ X.K H a Yj/\bQ X.K H b ys/\Yj.length+ys.length<=zdD/\∀p H',aq H H'->bQ X.K H' p (Yj++ys)->Q (.ref p) H')/\Yj=[]
 ·obtain⟨xs,⟨a,b,ys,rfl,rfl,ha,hb,hz,q⟩,rfl⟩:=hx;cases rx;cases ry;obtain⟨bq,r1,p1,_⟩:=I.tuple ha;obtain⟨tD,r2,p2,_⟩:=I.tuple hb;obtain⟨⟨cls,dd,data,sl⟩,ho,hc,n,hd⟩:=id p1;obtain⟨⟨ZE,Yb,data2,VH⟩,Sj,VI,n2,hd2⟩:=id p2;simp only at hc hd VI hd2;subst hc hd VI hd2;cases r1;exact concat_meets ⟨_,ho,rfl⟩ ⟨_,Sj,rfl⟩ noFill_tuple_add seq_tuple_add zcj zcf (zb7 _ _)
   (tuple_addW0 a b _ tD.toArray n n2 dd Yb sl VH rfl) ⟨ho,Sj,⟨.ref b,H,I,rfl,q _ _ (aq.refl _) hb⟩⟩
 ·obtain⟨a,b,xs,ys,rfl,rfl,ha,hb,hz,q⟩:=h;refine OA pins s σ H _ _ v u Q I rx ry ⟨a,b,xs,ys,rfl,rfl,ha,hb,fun e=>hx ⟨xs,⟨a,b,ys,rfl,rfl,ha,hb,hz,q⟩,e⟩,hz,fun e=>q _ _ (aq.refl _) ?_,fun _ p hp=>q _ _ (aq.new hp _) (.of ah)⟩;rw[e,zaG];exact ha
def aag:cD->Prop
 |.bW _ sg _ _=>sg∈OV
 |.ifs _ sg _ _ _ _=>sg∈OV
 |.lC _ sg _ _ _=>sg∈OV
 |_=>True
theorem we{H H':Hp}{b:zdv}(s:aq H H')(h:H' b=none):H b=none:=by
 cases z:H b with
 |none=>rfl
 |some o=>rw[s _ _ z] at h;cases h
theorem bQ.Ah{K:zaa}{H H':Hp}{D a:zdv}{xs ys:List V}(h:bQ K H a xs)(hD:H D=some (.lst ys))(u:aS D H H'):bQ K H' a xs:=by
 rcases h with (q |⟨o,q⟩) |q
 ·exact .inl (.inl (u _ _ (cE q hD (by intro z;cases z)) q))
 ·exact .inl (.inr ⟨o,u _ _ (cE q hD (by intro z;cases z)) q⟩)
 ·exact .inr q
theorem BG{bs:List ui}{vals:List Int}(lv:vals.length=bs.length)(nb:(bs.map (·.name)).Nodup)(hv:∀v∈vals,v.natAbs<=2 ^ 12):∀e:PM.Tr,kN bs e->Kf (eR bs (vals.map V.int)) e
 |.num n,h=>by rw[kN] at h;rw[Kf];lia
 |.box x,h=>by
  rw[kN] at h;rw[Kf];obtain⟨hx,ex⟩:=qd h;have li:ja bs x<vals.length:=by lia
  refine⟨vals[ja bs x],?_,hv _ (zas li)⟩;have:=mS bs (vals.map V.int) (by simpa using lv) nb (ja bs x) hx (.int vals[ja bs x]) (by rw[zao,zae li];rfl);rw[ex] at this;exact this
 |.bin o l r,h=>by
  rw[kN] at h;rw[Kf];exact⟨by simpa using h.1,BG lv nb hv l h.2.1,BG lv nb hv r h.2.2⟩
theorem FA{bs:List ui}{vals:List Int}(lv:vals.length=bs.length)(nb:(bs.map (·.name)).Nodup)(hv:∀v∈vals,v.natAbs<=2 ^ 12){st:cD}(h:Dq (·∈bs.map (·.name)) (fun e=>kN bs e/\rF e<=2) (·∈OV) st):L4 bs vals st/\aag st:=by
 have k:∀e,(kN bs e/\rF e<=2)->Fv bs vals e:=fun e h=>⟨BG lv nb hv e h.1,h.2⟩
 cases st<;>rw[Dq] at h
 ·exact⟨h,trivial⟩
 ·exact⟨⟨h.1,k _ h.2⟩,trivial⟩
 ·exact⟨k _ h,trivial⟩
 ·exact⟨⟨k _ h.2.1,k _ h.2.2⟩,h.1⟩
 ·exact⟨trivial,trivial⟩
 ·exact⟨⟨k _ h.2.1,k _ h.2.2.1⟩,h.1⟩
 ·exact⟨⟨k _ h.2.1,k _ h.2.2.1⟩,h.1⟩
section
variable{K:zaa}{H H':Hp}{p C dx a:zdv}{fs:List (Str×V)}{xs:List V}
theorem bQ.ins(h:bQ K H a xs)(hp:H p=some (.ins C dx fs))(u:aS p H H'):bQ K H' a xs:=by
 rcases h with (q |⟨o,q⟩) |q
 ·exact .inl (.inl (u _ _ (cE q hp (by intro z;cases z)) q))
 ·exact .inl (.inr ⟨o,u _ _ (cE q hp (by intro z;cases z)) q⟩)
 ·exact .inr q
theorem cQ.ins{row:Int}{vals:List Int}(h:cQ K H a row vals)(hp:H p=some (.ins C dx fs))(u:aS p H H'):cQ K H' a row vals:=by obtain⟨va,h1,h2⟩:=h;exact⟨va,h1.ins hp u,h2.ins hp u⟩
theorem rG.ins{CC ch:zdv}{pr:PG.Prog}(c:rG K CC H ch pr)(hp:H p=some (.ins C dx fs))(n:ch≠p)(u:aS p H H'):rG K CC H' ch pr:=by
 obtain⟨dx,nl,sd,fa,va,st,wy,us,ws,h1,h2,h3,h4,h5,h6,h7,h8,h9,N4,Kg,N5⟩:=c.at_;have k:∀ {b:zdv} {o:HO},H b=some o->(∀C dx fs,o≠.ins C dx fs)->H' b=some o:=fun e no=>u _ _ (cE e hp (no _ _ _)) e;exact⟨⟨dx,nl,sd,fa,va,st,wy,us,ws,u _ _ n h1,k h2 (by intro _ _ _ z;cases z),k h3 (by intro _ _ _ z;cases z),k h4 (by intro _ _ _ z;cases z),k h5 (by intro _ _ _ z;cases z),k h6 (by intro _ _ _ z;cases z),h7,k h8 (by intro _ _ _ z;cases z),mR hp (bB.one u rfl) _ _ h9,N4,k Kg (by intro _ _ _ z;cases z),fun i hi=>let ⟨q,e,r⟩:=N5 i hi;⟨q,e,r.ins hp u⟩⟩⟩
end
theorem FC{tc:TT}{tb:TS}{D:Ends}{σ:St}{H:Hp}(h:∀B:TS,(∀D σ H,tb D σ H->B D σ H)->EU tc B D σ H):EU tc tb D σ H:=h tb fun _ _ _ x=>x
theorem iS{f:Str}{y:V}:∀ {fs:List (Str×V)} {n:Nat},fs.length<=n->(jU f y fs).length<=n+1
 |[],n,h=>by simp[jU]
 |(g,x)::r,n,h=>by
  unfold jU;split
  ·simp only[zap] at h ⊢;lia
  ·obtain⟨m,rfl⟩:∃m,n=m+1:=⟨n-1,by simp only[zap] at h;lia⟩
   have:=iS (f:=f) (y:=y) (fs:=r) (n:=m) (by simp only[zap] at h;lia);simp only[zap];lia
def aah:gS->List V
 |.on=>[.str "on"]
 |.out=>[.str "out"]
 |.bW r=>[.str "must",.int r]
 |.fin=>[.str "end"]
def wg (K:zaa) (H:Hp):Option gS->V->Prop
 |none,v=>v=.dR
 |some e,v=>∃a,v=.ref a/\bQ K H a (aah e)
theorem wg.mono{K:zaa}{H H':Hp}{e:Option gS}{v:V}(h:wg K H e v)(s:aq H H'):wg K H' e v:=by
 cases e with
 |none=>exact h
 |some x=>obtain⟨a,e,q⟩:=h;exact⟨a,e,s.bM q⟩
theorem wg.ins{K:zaa}{H H':Hp}{p C dx:zdv}{fs:List (Str×V)}{e:Option gS}{v:V}(h:wg K H e v)(hp:H p=some (.ins C dx fs))(u:aS p H H'):wg K H' e v:=by
 cases e with
 |none=>exact h
 |some x=>obtain⟨a,e,q⟩:=h;exact⟨a,e,q.ins hp u⟩
def Ws (ch fl:zdv) (n:Nat) (sa:zdv) (ev:V):List (Str×V):=[("chart",.ref ch),("figures",.ref fl),("taken",.int n),("standing",.ref sa),("end",ev)]
def rH (b:List cD) (row:Int):cD:=((aB b)[OZ b row]?).getD (.stop 0)
def FD (b:List cD) (row:Int):List Int:=(((aI b 0)[OZ b row]?).map (·.2.2)).getD []
def dy (b:List cD) (row:Int):Bool:=decide ((rH b row).wd=.ask)
def cI (pr:PG.Prog) (row:Int) (vals:List Int) (f:Int):Option (Int×List Int)×Option Int:=mT pr.aA (rH pr.body row) (FD pr.body row) vals f
theorem oo{b:List cD}(pw:(aB b).Pairwise (fun a b=>a.row<b.row))(i:Nat)(hi:i<(aB b).length):rH b (aB b)[i].row=(aB b)[i]:=by
 unfold rH;rw[G7 pw i hi,zae hi];rfl
theorem BH{b:List cD}(pw:(aB b).Pairwise (fun a b=>a.row<b.row))(i:Nat)(hi:i<(aB b).length)(hf:i<(aI b 0).length):FD b (aB b)[i].row=(aI b 0)[i].2.2:=by
 unfold FD;rw[G7 pw i hi,zae hf];rfl
structure yA(pr:PG.Prog)(row:Int)(vals:List Int):Prop where
 row:row=0\/∃i,∃hi:i<(aB pr.body).length,(aB pr.body)[i].row=row
 len:vals.length=pr.aA.length
 small:∀v∈vals,v.natAbs<=2 ^ 12
structure dO(pr:PG.Prog):Prop where
 ok:Fx pr
 dep:tF pr.body<=3
 CM:(cG pr.body).length<=1000
 own:zW (·∈pr.aA.map (·.name)) (fun e=>kN pr.aA e/\rF e<=2) (·∈OV) pr.body
 size:∀b∈pr.aA,2<=b.size/\b.size<=10/\0<=b.first/\b.first<b.size
theorem Hh{pr:PG.Prog}{w:Int}(h:w=0\/w=0\/∃t∈aB pr.body,t.row=w):w=0\/∃i,∃hi:i<(aB pr.body).length,(aB pr.body)[i].row=w:=by
 rcases h with h |h |⟨t,ht,e⟩
 ·exact .inl h
 ·exact .inl h
 ·obtain⟨i,hi,e2⟩:=zbX.mp ht;exact .inr ⟨i,hi,by rw[e2];exact e⟩
theorem dO.first{pr:PG.Prog}(d:dO pr):yA pr (bg pr.body 0) (pr.aA.map (·.first)):=by
 refine⟨Hh (.inr ?_),by simp,fun v hv=>?_⟩
 ·rcases pT pr.body 0 with e |e
  ·exact .inl e
  ·exact .inr e
 ·obtain⟨b,hb,rfl⟩:=zal.mp hv;have:=d.size b hb;lia
theorem DE{pr:PG.Prog}(d:dO pr){x:W}(h:x∈pr.aA.map (·.name)):2<=iD pr.aA x/\iD pr.aA x<=10:=by
 obtain⟨hx,_⟩:=qd h;unfold iD;rw[zae hx];have:=d.size _ (zas hx);exact⟨this.1,this.2.1⟩
theorem yA.step{pr:PG.Prog}(d:dO pr){i:Nat}(hi:i<(aB pr.body).length)(hf:i<(aI pr.body 0).length){vals:List Int}{f:Int}(lv:vals.length=pr.aA.length)(sm:∀v∈vals,v.natAbs<=2 ^ 12){x:Int×List Int}{s:Option Int}
 (h:mT pr.aA (aB pr.body)[i] (aI pr.body 0)[i].2.2 vals f=(some x,s)):yA pr x.1 x.2:=by
 have L5:=kj pr.body _ d.own (zas hi);obtain⟨w0,w1⟩:=jd pr.body 0 _ (zas hf);have win:=pU pr.body 0 _ (zas hf);obtain⟨_,_,ew⟩:=qc pr.body i hi;rw[ew] at w1;generalize (aI pr.body 0)[i].2.2=ws at *;generalize (aB pr.body)[i]=st at *;have r0:∀j,j<ws.length->ws.getD j 0=0\/∃i,∃hi:i<(aB pr.body).length,(aB pr.body)[i].row=ws.getD j 0:=fun j hj=>by
  rw[zar,zae hj];exact Hh (win _ (zas hj))
 have set:∀(b:W) (z:Int),b∈pr.aA.map (·.name)->(xw pr.aA vals b (z%iD pr.aA b)).length=pr.aA.length/\∀v∈xw pr.aA vals b (z%iD pr.aA b),v.natAbs<=2 ^ 12:=fun b z hb=>by
  unfold xw;refine⟨by rw[zc8];exact lv,fun v hv=>?_⟩;rcases List.mem_or_eq_of_mem_set hv with hv |rfl
  ·exact sm v hv
  ·have:=DE d hb;have m1:=zbB z (b:=iD pr.aA b) (by lia);have m2:=zbr z (b:=iD pr.aA b) (by lia);lia
 have cs:jF pr.aA st ws vals=some x->(st.wd=.bW\/st.wd=.ifs\/st.wd=.lC)->yA pr x.1 x.2:=by
  intro e hw;unfold jF at e;split at e
  ·cases e
  ·split at e
   ·cases e;exact⟨r0 0 w0,lv,sm⟩
   ·split at e
    ·cases e
    ·rename_i nm;cases e;exact⟨r0 1 (w1 (hw.resolve_left nm)),lv,sm⟩
 have CN:∀(y:Int×List Int) (s':Option Int),(some y,s')=(some x,s)->yA pr y.1 y.2->yA pr x.1 x.2:=fun y s' e h=>by cases e;exact h
 cases st<;>rw[Dq] at L5
 ·exact CN _ _ h ⟨r0 0 w0,(set _ _ L5).1,(set _ _ L5).2⟩
 ·exact CN _ _ h ⟨r0 0 w0,(set _ _ L5.1).1,(set _ _ L5.1).2⟩
 ·exact CN _ _ h ⟨r0 0 w0,lv,sm⟩
 ·exact cs (congrArg Prod.fst h) (.inl rfl)
 ·exact CN _ _ h ⟨r0 0 w0,lv,sm⟩
 ·exact cs (congrArg Prod.fst h) (.inr (.inl rfl))
 ·exact cs (congrArg Prod.fst h) (.inr (.inr rfl))
abbrev yB (pr:PG.Prog):=Ag (dy pr.body) (cI pr)
theorem L6{pr:PG.Prog}{row f:Int}{vals left r:List Int}{s:Option Int}(ht:PG.take1 (dy pr.body row) left=some (f,r))(hs:cI pr row vals f=(none,s)):yB pr row vals left=(s,r,row,vals,some (.bW row)):=by
 show Ag _ _ _ _ _=_;unfold Ag;rw[ht];simp only[hs]
theorem L7{pr:PG.Prog}{row f:Int}{vals left r:List Int}{s:Option Int}{x:Int×List Int}(ht:PG.take1 (dy pr.body row) left=some (f,r))(hs:cI pr row vals f=(some x,s)):yB pr row vals left=(s,r,x.1,x.2,PG.endAt x.1):=by
 show Ag _ _ _ _ _=_;unfold Ag;rw[ht];simp only[hs]
theorem Pg{pr:PG.Prog}{row:Int}{vals left:List Int}(ht:PG.take1 (dy pr.body row) left=none):yB pr row vals left=(none,left,row,vals,some .out):=by
 show Ag _ _ _ _ _=_;unfold Ag;rw[ht]
section
variable{K:zaa}{H H1:Hp}{p:zdv}{vs:List V}{ds:List Dp}
theorem gT(e:upd H p (.tup vs)=H1)(hp:H p=none):aq H H1:=e▸aq.new hp _
theorem gL(e:upd H p (.lst vs)=H1)(hp:H p=none):aq H H1:=e▸aq.new hp _
theorem A3(e:upd H p (.tup vs)=H1)(hp:H p=none)(hr:aD K H ds vs):Rep K H1 (.tup ds) (.ref p):=e▸Rep.new hp hr
theorem Wt(e:upd H p (.lst vs)=H1)(hp:H p=none)(hr:aD K H ds vs):Rep K H1 (.lst ds) (.ref p):=e▸Rep.Lj hp hr
theorem Ai(e:upd H p (.lst vs)=H1):H1 p=some (.lst vs):=e▸ah
end
theorem rS{K:zaa}{H:Hp}{x:Str}:Rep K H (.str x) (.str x):=Rep.cF.mpr rfl
theorem mJ{K:zaa}{H:Hp}{x:Int}:Rep K H (.int x) (.int x):=Rep.bO.mpr rfl
section
variable{prog:zdH}{w:zdx}
def wj (prog:zdH) (w:zdx) (h:Heap) (x:Key×List Key) (a:zdv):Prop:=∃(o:Obj) (n:Nat) (u:zdw) (b:zdv),h.get? a=some o/\o.cls=.type "tuple"/\o.data=.seq #[u,.ref b] n/\um x.1 u=true/\IsTupleKey (bR prog w) h x.2 b
theorem wj.ty{s:zdF}{x:Key×List Key}{a:zdv}(h:wj prog w s.heap x a):s.TypeIs (.ref a) "tuple":=by obtain⟨o,_,_,_,e,c,_⟩:=h;exact⟨o,e,c⟩
def L8 (w:zdx) (prog:zdH) (x:Key×List Key):Int:=reduceHash (Builtin.Tuple.tupleHashOf [Of w x.1,tupleKeyHash (bR prog w) x.2])
theorem wj.one{h:Heap}{a:zdv}{x y:Key×List Key}(hx:wj prog w h x a)(hy:wj prog w h y a):x=y:=by
 obtain⟨o,n,u,b,e,_,d,i,t⟩:=hx;obtain⟨o',n',u',b',e',_,d',i',t'⟩:=hy;rw[e] at e';cases e';rw[d] at d'
 injection d' with d1 _
 have d1:=congrArg Array.toList d1;simp only[zdt.injEq,Value.ref.injEq,and_true] at d1;obtain⟨rfl,rfl⟩:=d1;exact Prod.ext ((bR prog w).inj _ _ _ i i') (t.inj t')
theorem wj.kp{h h':Heap}{x:Key×List Key}{a d:zdv}{o:Obj}{es ep}(hx:wj prog w h x a)(ho:h.get? d=some o)(hd:o.data=.dict es ep)(hs:Heap.SameBut d h h'):wj prog w h' x a:=by
 obtain⟨o',n,u,b,e,c,d',i,t⟩:=hx;have ne:a≠d:=fun z=>by
  rw[z,ho] at e;cases e;rw[hd] at d';cases d'
 exact⟨o',n,u,b,(hs.2 a ne).trans e,c,d',i,t.keeps ho hd hs⟩
variable{A:zdG}{E:zdw->zdF->Prop}{s:zdF}
theorem Ph{x:Key×List Key}{a:zdv}{Q:Int->zdF->Prop}(hu:A.units+8<cLine)(hk:wj prog w s.heap x a)(h:Q (L8 w prog x) {s with toks:=s.toks+(x.2.length+3)}) :
 wpAny (model prog w) A (pyHash (.ref a)) Q E s:=by
 have ty:=hk.ty;obtain⟨o,n,u,b,e,c,d,i,t⟩:=hk;refine zdr (T:="tuple") ty F.slot_tuple_hash F.entry_tuple_hash (F.args_tuple_hash_1 _) (beq_builtin_none _) (.inr (by lia)) ((show wpAny _ _ (Builtin.Tuple.tupleItemsOf (.ref a) >>= _) _ _ s from ?_));refine zdy (wpAny_tupleItemsOf e d (zdy ?_));rw[<- zcL];show wpAny _ _ (forIn [u,Value.ref b] #[] _) _ _ s;rw[zbb];refine zdy (zdy ((bR prog w).pyHash i (zdz ?_)));show wpAny _ _ (forIn [Value.ref b] _ _) _ _ _;rw[zbb];refine zdy (zdy (wpAny_pyHash_tuple (ks:=x.2) (by show A.units+1<cLine;lia) (show IsTupleKey (bR prog w) _ x.2 b from t) (zdz ?_)));show wpAny _ _ (forIn ([]:List zdw) _ _) _ _ _;rw[zbG];refine zdz ?_;show wpAny _ _ (retInt (Builtin.Tuple.tupleHashOf [Of w x.1,tupleKeyHash (bR prog w) x.2])) _ _ _;refine zdy (wpAny_mkInt (zdz ⟨_,_,rfl,?_⟩));rw[show s.toks+(x.2.length+3)=s.toks+1+(x.2.length+1)+1 by lia] at h;exact h
theorem Wu{x y:Key×List Key}{a b:zdv}{Q:Bool->zdF->Prop}(hu:A.units+8<cLine)(hx:wj prog w s.heap x a)(hy:wj prog w s.heap y b)(h:Q (decide (x=y)) s):wpAny (model prog w) A (eqBool (.ref a) (.ref b)) Q E s:=by
 unfold eqBool
 try with_reducible refine zdA ?_
 show wpAny _ _ (if (Value.ref a==Value.ref b)=true then _ else _) Q E s;by_cases Rb:(Value.ref a==Value.ref b)=true
 ·rw[if_pos Rb];have e:a=b:=by have:=eq_of_beq Rb;injection this
  subst e;cases hx.one hy;exact zdy (wpAny_rule (zdz (by simpa using h)))
 ·rw[if_neg Rb];refine zdy (wpAny_richCompare_same_room (op:=.Eq) hx.ty hy.ty F.slot_tuple_eq (wpAny_call_entry F.slot_tuple_eq hx.ty F.entry_tuple_eq ?_ (F.args_tuple_eq_2 _ _)) (by lia));have hTb:=hy.ty;obtain⟨o1,n1,u1,b1,e1,c1,d1,i1,t1⟩:=hx;obtain⟨o2,n2,u2,b2,e2,c2,d2,i2,t2⟩:=hy;show wpAny _ _ (isInstance (.ref b) (.type "tuple") >>= _) _ _ s;refine zdy (wpAny_isInstance hTb isSubtype_tuple_tuple ?_);simp only[zbD,zaA,if_false];refine zdy (wpAny_tupleItemsOf e1 d1 (zdy (wpAny_tupleItemsOf e2 d2 (zdy ?_))));show wpAny _ _ (forIn [(u1,u2),(Value.ref b1,Value.ref b2)] _ _) _ _ s;have fin:∀c:Bool,c=decide (x=y)->∃v,(Fin.done (Flow.ret (Value.bool c)))=Fin.done (Flow.ret v)/\v≠Value.notImplemented/\wpAny (model prog w) A (truthOfDropped v) Q E s:=fun c hc=>⟨_,rfl,(fun z=>nomatch z),wpAny_truthy_bool (hc▸h)⟩
  rw[zbb];refine zdy (zdy ((bR prog w).eqBool (a:=x.1) (b:=y.1) i1 i2 ?_));by_cases k1:x.1=y.1
  ·rw[decide_eq_true k1];simp only[zbD,zaA,if_false];refine zdz ?_;show wpAny _ _ (forIn [(Value.ref b1,Value.ref b2)] _ _) _ _ s;rw[zbb];refine zdy (zdy (wpAny_eqBool_tuple (x:=x.2) (y:=y.2) (by show A.units+1<cLine;lia) t1 t2 ?_));by_cases k2:x.2=y.2
   ·rw[decide_eq_true k2];simp only[zbD,zaA,if_false];refine zdz ?_;show wpAny _ _ (forIn ([]:List (zdw×zdw)) _ _) _ _ s;rw[zbG];exact zdz (zdz (fin true (decide_eq_true (Prod.ext k1 k2)).symm))
   ·rw[decide_eq_false k2];simp only[Bool.not_false,if_true];exact zdy (zdz (zdz (zdz (zdz (fin false (decide_eq_false fun z=>k2 (congrArg Prod.snd z)).symm)))))
  ·rw[decide_eq_false k1];simp only[Bool.not_false,if_true];exact zdy (zdz (zdz (zdz (zdz (fin false (decide_eq_false fun z=>k1 (congrArg Prod.fst z)).symm)))))
theorem FE(m:Nat){l:List Key}{b:zdv}{Q:Bool->zdF->Prop}(hk:IsTupleKey (bR prog w) s.heap l b)(h:Q true s):wpAny (model prog w) A (eqIsQuiet (m+1) (.ref b)) Q E s:=by
 have ty:=hk.typeIs;obtain⟨o,bq,n,e,_,d,hi⟩:=hk;unfold eqIsQuiet;refine zdy (wpAny_specialOf ty F.slot_tuple_eq.lookup ((show wpAny _ _ (isInstance (.ref b) (.type "tuple") >>= _) _ _ s from ?_)));refine zdy (wpAny_isInstance ty isSubtype_tuple_tuple ?_);simp only[zbD,zaA,if_false];refine zdy (wpAny_seqItems e d (zdy ((show wpAny _ _ (forIn bq _ _) _ _ s from ?_))));rw[<- zcL];have all:=hi.byValue;generalize bq.toList=vs at all;refine wpAny_forIn_list _ (fun r (c:Option Bool×Unit) s'=>c.1=none/\s'=s/\∀v∈r,carriedByValue v=true) _ (fun v r c s' hv=>?_) (fun c s' hv=>?_) _ _ ⟨rfl,rfl,all⟩
 ·obtain⟨_,rfl,hv⟩:=hv;rw[eqIsQuiet_byValue _ (hv v (zan ..))];refine zdy (zdz ?_);simp only[zbD,zaA,if_false];exact zdz ⟨rfl,rfl,fun z hz=>hv z (zaj _ hz)⟩
 ·obtain⟨c1,c2⟩:=c;obtain⟨hc,rfl,_⟩:=hv;cases (show c1=none from hc);exact zdz h
theorem Ma{x:Key×List Key}{a:zdv}{Q:Bool->zdF->Prop}(hk:wj prog w s.heap x a)(h:Q true s):wpAny (model prog w) A (eqIsQuiet 8 (.ref a)) Q E s:=by
 have ty:=hk.ty;obtain⟨o,n,u,b,e,c,d,i,t⟩:=hk;unfold eqIsQuiet;refine zdy (wpAny_specialOf ty F.slot_tuple_eq.lookup ((show wpAny _ _ (isInstance (.ref a) (.type "tuple") >>= _) _ _ s from ?_)));refine zdy (wpAny_isInstance ty isSubtype_tuple_tuple ?_);simp only[zbD,zaA,if_false];refine zdy (wpAny_seqItems e d (zdy ?_));have key:∀ {z:zdw} {k:Key} {m:Nat},um k z=true->eqIsQuiet m z=pure true:=fun {z k m} hz=>eqIsQuiet_byValue m ((bR prog w).byValue k z hz);show wpAny _ _ (forIn #[u,Value.ref b] _ _) _ _ s;rw[<- zcL];show wpAny _ _ (forIn [u,Value.ref b] _ _) _ _ s;rw[zbb,key i];refine zdy (zdy (zdz ?_));simp only[zbD,zaA,if_false];refine zdz ?_;show wpAny _ _ (forIn [Value.ref b] _ _) _ _ s;rw[zbb];refine zdy (zdy (FE 6 t ?_));simp only[zbD,zaA,if_false];refine zdz ?_;show wpAny _ _ (forIn ([]:List zdw) _ _) _ _ s;rw[zbG];exact zdz (zdz h)
end
def SW (prog:zdH) (w:zdx):HeapKind prog w (Key×List Key) where
 is:=wj prog w
 hash:=L8 w prog
 draws:=fun x=>x.2.length+3
 room:=fun A=>A.units+8<cLine
 inj:=fun hx hy=>hx.one hy
 keeps:=fun hx ho hd hs=>hx.kp ho hd hs
 pyHash:=fun hu hk h=>Ph hu hk h
 eqBool:=fun hu hx hy h=>Wu hu hx hy h
 quiet:=fun hk h=>Ma hk h
def tN (b:Bool):Int:=if b then 1 else 0
def Pj (k:Key) (v:zdw):Bool:=match v with
 |.bool b=>decide (k=.inl (tN b))
 |v=>um k v
theorem eZ{k:Key}{v:zdw}(h:Pj k v=true):(∃i t,k=.inl i/\v=.int i t)\/(∃x t,k=.inr x/\v=.str x t)\/∃b,k=.inl (tN b)/\v=.bool b:=by
 unfold Pj at h;split at h
 ·rename_i b;exact .inr (.inr ⟨b,of_decide_eq_true h,rfl⟩)
 ·rcases dq h with z |z
  ·exact .inl z
  ·exact .inr (.inl z)
theorem Mb{a b:Bool}:(tN a==tN b)=(a==b):=by cases a<;>cases b<;>rfl
def Wv (prog:zdH) (w:zdx):PySem.KeyKind prog w Key where
 is:=Pj
 hash:=Of w
 inj:=fun v a b ha hb=>by
  rcases eZ ha with ⟨i,t,rfl,rfl⟩ |⟨x,t,rfl,rfl⟩ |⟨c,rfl,rfl⟩<;>rcases eZ hb with ⟨j,u,rfl,e⟩ |⟨y,u,rfl,e⟩ |⟨d,rfl,e⟩<;>cases e<;>rfl
 byValue:=fun k v h=>by
  rcases eZ h with ⟨i,t,rfl,rfl⟩ |⟨x,t,rfl,rfl⟩ |⟨c,rfl,rfl⟩<;>rfl
 pyHash:=fun hv h=>by
  rcases eZ hv with ⟨i,t,rfl,rfl⟩ |⟨x,t,rfl,rfl⟩ |⟨c,rfl,rfl⟩
  ·exact wpAny_pyHash_int h
  ·exact wpAny_pyHash_str h
  ·refine zdr (T:="bool") rfl F.slot_bool_hash entry_int_hash (args_int_hash _) (beq_builtin_none _) (.inl rfl) ?_;cases c
   ·exact(show wpAny _ _ (do ret (<- mkInt 0)) _ _ _ from zdy (wpAny_mkInt (zdz ⟨_,_,rfl,h⟩)))
   ·exact(show wpAny _ _ (do ret (<- mkInt 1)) _ _ _ from zdy (wpAny_mkInt (zdz ⟨_,_,rfl,h⟩)))
 eqBool:=fun hu hv h=>by
  rcases eZ hu with ⟨i,t,rfl,rfl⟩ |⟨x,t,rfl,rfl⟩ |⟨c,rfl,rfl⟩
  ·rcases eZ hv with ⟨j,u,rfl,rfl⟩ |⟨y,u,rfl,rfl⟩ |⟨d,rfl,rfl⟩
   ·rw[xY] at h;exact wpAny_eqBool_int h
   ·rw[ER] at h;exact SeqAt.EqAt.int_str i t y u _ _ _ _ h
   ·rw[xY] at h;exact SeqAt.EqAt.int_bool i t d _ _ _ _ h
  ·rcases eZ hv with ⟨j,u,rfl,rfl⟩ |⟨y,u,rfl,rfl⟩ |⟨d,rfl,rfl⟩
   ·rw[ES] at h;exact SeqAt.EqAt.str_int x t j u _ _ _ _ h
   ·rw[Km] at h;exact wpAny_eqBool_str h
   ·rw[ES] at h;exact SeqAt.EqAt.str_bool x t d _ _ _ _ h
  ·rcases eZ hv with ⟨j,u,rfl,rfl⟩ |⟨y,u,rfl,rfl⟩ |⟨d,rfl,rfl⟩
   ·rw[xY] at h;exact SeqAt.EqAt.bool_int c j u _ _ _ _ h
   ·rw[ER] at h;exact SeqAt.EqAt.bool_str c y u _ _ _ _ h
   ·rw[xY,Mb] at h;exact SeqAt.EqAt.bool_bool c d _ _ _ _ h
 «strs»:=fun k x t v h=>by
  rcases eZ h with ⟨i,u,rfl,e⟩ |⟨y,u,rfl,e⟩ |⟨d,rfl,e⟩
  ·cases e
  ·cases e;cases v<;>rfl
  ·cases e
structure KH(κ:Type)[DecidableEq κ] where
 knd:∀(P:zdH) (w:zdx),HeapKind P w κ
 on:zaa->Hp->κ->zdv->Prop
 up:∀ {K:zaa} {H H':Hp} {x:κ} {a:zdv},(∀b ys,bQ K H b ys->bQ K H' b ys)->on K H x a->on K H' x a
 of:∀ {X:Cx} {pins:List (zdv×Obj)} {σ:St} {H:Hp} {s:zdF} {x:κ} {a:zdv},Inv X pins σ H s->on X.K H x a->(knd X.prog X.w).is s.heap x a
 room:∀ {P:zdH} {w:zdx} {A:zdG},A.units+16<cLine->(knd P w).room A.in1
section
variable{κ:Type}[DecidableEq κ](J:KH κ)
def eS (P:zdH) (w:zdx) (a:zdv) (xs:List (κ×zdv×zdw)):Heap->Prop:=fun h=>∃o es ep,h.get? a=some o/\o.ExactDict/\o.data=.dict es ep/\es.toList=xs.map (entryOfKey (J.knd P w))
abbrev KS (K:zaa) (H:Hp):List (κ×V)->List (κ×zdv×zdw)->Prop:=Paired fun p q=>p.1=q.1/\J.on K H p.1 q.2.1/\RelV p.2 q.2.2
structure DS(P:zdH)(w:zdx)(K:zaa)(H:Hp)(a:zdv)(kvs:List (κ×V)):Prop where
 len:kvs.length<=zdD
 sys:(a==sysModules)=false
 at_:∃xs,H a=some (.ext (eS J P w a xs))/\KS J K H kvs xs/\(xs.map (·.1)).Nodup
variable{J}
section
variable{K:zaa}{H H':Hp}{kvs:List (κ×V)}{xs:List (κ×zdv×zdw)}
theorem KS.val(r:KS J K H kvs xs)(k:κ):mh (bL kvs k) ((atKey xs k).map (·.2)):=by
 induction r with
 |nil=>exact True.intro
 |@cons p q ps qs h t ih=>
  by_cases e:p.1=k
  ·rw[cu e,show atKey (q::qs) k=some q.2 by simp[atKey,h.1.symm.trans e]];exact h.2.2
  ·have e':¬q.1=k:=fun z=>e (h.1.trans z);rw[cA e,show atKey (q::qs) k=atKey qs k by simp[atKey,e']];exact ih
theorem KS.put(r:KS J K H kvs xs)(k:κ){b:zdv}{y:V}{u:zdw}(hb:J.on K H k b)(ry:RelV y u):KS J K H (putK kvs k y) (storedH xs k b u):=by
 have e:(kvs.any fun kv=>decide (kv.1=k))=(atKey xs k).isSome:=by rw[gY,(r.val k).qP,zcg]
 unfold putK storedH;rw[e];by_cases q:(atKey xs k).isSome=true
 ·rw[if_pos q,if_pos q];clear e q
  induction r with
  |nil=>exact .nil
  |@cons p q ps qs h t ih=>
   refine .cons ?_ ih;dsimp only;unfold putAt;by_cases e:p.1=k
   ·rw[if_pos e];rw[if_pos (h.1.symm.trans e)];exact⟨h.1,h.2.1,ry⟩
   ·rw[if_neg e];rw[if_neg fun z=>e (h.1.trans z)];exact h
 ·rw[if_neg q,if_neg q];exact Paired.snoc r ⟨rfl,hb,ry⟩
theorem KS.up(r:KS J K H kvs xs)(t:∀b ys,bQ K H b ys->bQ K H' b ys):KS J K H' kvs xs:=Paired.uo r fun _ _ z=>⟨z.1,J.up t z.2.1,z.2.2⟩
end
section
variable{X:Cx}{pins:List (zdv×Obj)}{σ:St}{H:Hp}{s:zdF}{a b:zdv}{v:V}{u r:zdw}{A:zdG}{E:zdw->zdF->Prop}{kvs:List (κ×V)}{k:κ}
theorem xb(I:Inv X pins σ H s){xs:List (κ×zdv×zdw)}(e:H a=some (.ext (eS J X.prog X.w a xs)))(r:KS J X.K H kvs xs)(nd:(xs.map (·.1)).Nodup):s.heap.DictOfH (J.knd X.prog X.w) a xs:=by
 obtain⟨⟨o,es,ep,h1,h2,h3,h4⟩, -⟩:=(show du X.prog X.w H s.heap a (.ext (eS J X.prog X.w a xs)) from I.bX a _ e)
 refine⟨o,es,ep,h1,h2,h3,h4,?_,nd⟩;clear h4 nd e
 induction r with
 |nil=>intro x hx;cases hx
 |@cons p q ps qs hq t ih=>
  intro x hx;rcases zah.mp hx with rfl |hx
  ·exact J.of I (hq.1▸hq.2.1)
  ·exact ih x hx
theorem Ww{Q:zdw->zdF->Prop}(hu:A.units+16<cLine)(I:Inv X pins σ H s)(d:DS J X.prog X.w X.K H a kvs)(hk:J.on X.K H k b)(h:∀s',Inv X pins σ H s'->Q (.bool (bL kvs k).isSome) s') :
 wpAny (model X.prog X.w) A (compareOp .In (.ref b) (.ref a)) Q E s:=by
 obtain⟨z,sy,xs,e,r,nd⟩:=d;refine wpAny_in_heap (knd:=J.knd X.prog X.w) (J.room hu) (J.of I hk) sy (xb I e r nd) ?_;have q:=(r.val k).qP;rw[zcg] at q;rw[<- q];exact h _ (I.tok _)
theorem Mc{Q:zdw->zdF->Prop}(hu:A.units+16<cLine)(I:Inv X pins σ H s)(d:DS J X.prog X.w X.K H a kvs)(hk:J.on X.K H k b)(h:∀s',Inv X pins σ H s'->Q (.bool (!(bL kvs k).isSome)) s') :
 wpAny (model X.prog X.w) A (compareOp .NotIn (.ref b) (.ref a)) Q E s:=by
 obtain⟨z,sy,xs,e,r,nd⟩:=d;refine PyProof.Rows.wpAny_notIn_heap (knd:=J.knd X.prog X.w) (J.room hu) (J.of I hk) sy (xb I e r nd) ?_;have q:=(r.val k).qP;rw[zcg] at q;rw[<- q];exact h _ (I.tok _)
theorem SX{Q:zdw->zdF->Prop}(hu:A.units+16<cLine)(I:Inv X pins σ H s)(d:DS J X.prog X.w X.K H a kvs)(hk:J.on X.K H k b)(l:bL kvs k=some v)(h:∀w' s',Inv X pins σ H s'->RelV v w'->Q w' s') :
 wpAny (model X.prog X.w) A (getItem (.ref a) (.ref b)) Q E s:=by
 obtain⟨z,sy,xs,e,r,nd⟩:=d;obtain⟨w',hw,E9⟩:=mh.some_of (v:=v) (o:=(atKey xs k).map (·.2)) (by rw[<- l];exact r.val k);obtain⟨p,hp,BB⟩:=zaM.mp hw;refine wpAny_getItem_heap (knd:=J.knd X.prog X.w) (J.room hu) (J.of I hk) (xb I e r nd) hp ?_;rw[BB];exact h w' _ (I.tok _) E9
theorem bQ.ext{K:zaa}{H:Hp}{a c:zdv}{φ:Heap->Prop}{o:HO}{ys:List V}(h:bQ K H c ys)(e:H a=some (.ext φ)):bQ K (upd H a o) c ys:=by
 rcases h with (q |⟨o',q⟩) |q
 ·exact .inl (.inl (by rw[au (cE q e (by intro z;cases z))];exact q))
 ·exact .inl (.inr ⟨o',by rw[au (cE q e (by intro z;cases z))];exact q⟩)
 ·exact .inr q
theorem SY{Q:Unit->zdF->Prop}(hu:A.units+16<cLine)(I:Inv X pins σ H s)(d:DS J X.prog X.w X.K H a kvs)(hk:J.on X.K H k b)(l:kvs.length<zdD)(rv:RelV v r)
 (h:∀s' H',Inv X pins σ H' s'->DS J X.prog X.w X.K H' a (putK kvs k v)->(∃φ,H'=upd H a (.ext φ))->Q () s') :
 wpAny (model X.prog X.w) A (setItem (.ref a) (.ref b) r) Q E s:=by
 obtain⟨z,sy,xs,e,rel,nd⟩:=d;have hz:xs.length<=zdD:=by rw[<- Paired.length rel];exact z
 have hl:(putK kvs k v).length<=zdD:=by have:=dX kvs k v;lia
 refine wpAny_setItem_heap (knd:=J.knd X.prog X.w) (hsz:=hz) (J.room hu) (J.of I hk) (xb I e rel nd) fun h' QX hs=>?_;obtain⟨q,es,ep,hq,h2,h3,h4,_,h5⟩:=QX;have ph:eS J X.prog X.w a (storedH xs k b r) h':=⟨q,es,ep,hq,h2,h3,h4⟩
 refine h _ (upd H a (.ext (eS J X.prog X.w a (storedH xs k b r)))) (uJ I (by rw[e];exact True.intro) hs ⟨q,hq⟩ ⟨ph,⟨q,hq⟩,fun g1 g2 p1 kp=>?_⟩) ⟨hl,sy,_,ah,(rel.put k hk rv).up fun c ys ec=>ec.ext e,h5⟩ ⟨_,rfl⟩;obtain⟨o,es,ep,h1,h2,h3,h4⟩:=p1;exact⟨o,es,ep,kp o h1,h2,h3,h4⟩
end
theorem DS.Kh{P:zdH}{w:zdx}{K:zaa}{H H':Hp}{a:zdv}{kvs:List (κ×V)}(d:DS J P w K H a kvs)(e:∀o,H a=some o->H' a=some o)(t:∀b ys,bQ K H b ys->bQ K H' b ys):DS J P w K H' a kvs:=⟨d.len,d.sys,let ⟨xs,h,r,nd⟩:=d.at_;⟨xs,e _ h,r.up t,nd⟩⟩
theorem DS.mono{P:zdH}{w:zdx}{K:zaa}{H H':Hp}{a:zdv}{kvs:List (κ×V)}(d:DS J P w K H a kvs)(s:aq H H'):DS J P w K H' a kvs:=d.Kh (fun o h=>s _ _ h) fun b ys q=>s.bM q
section
variable{X:Cx}{o i value:Expr}{pos pos':Pos}{td ty tv:TE}
def FF (J:KH κ) (P:zdH) (w:zdx):TE:=fun _ H Q=>∀p,H p=none->(p==sysModules)=false->Q (.ref p) (upd H p (.ext (eS J P w p [])))
theorem wm{P:zdH}{w:zdx}{K:zaa}{H:Hp}{p:zdv}(h:(p==sysModules)=false):DS J P w K (upd H p (.ext (eS J P w p []))) p []:=⟨zaK _,h,[],ah,.nil,zbs⟩
theorem mU:PE X (.Dict [] [] pos) (FF J X.prog X.w):=fun pins s σ H Q I h=>by
 have big:=I.big;refine wpAny_Dict_empty ⟨.ref s.heap.objs.size,_,I.laid (a:=s.heap.objs.size) (o:=.ext (eS J X.prog X.w s.heap.objs.size [])) (t':=s.toks) (fun _ _ q=>Heap.get?_push_of_some _ q) (zag _) ⟨⟨_, #[],0,Heap.get?_push_size _ rfl,⟨rfl,rfl,rfl⟩,rfl,rfl⟩,⟨_,Heap.get?_push_size _ rfl⟩,fun g1 g2 p1 kp=>?_⟩,rfl,h _ (I.bX.fresh (zag _)) (beq_eq_false_iff_ne.mpr (Ne.symm (zaD big)))⟩;obtain⟨ob,es,ep,h1,h2,h3,h4⟩:=p1;exact⟨ob,es,ep,kp ob h1,h2,h3,h4⟩
theorem S0(hu:X.A.units+16<cLine):rD X (compareOp .In) (fun x y H Q=>∃(a b:zdv) (kvs:List (κ×V)) (k:κ),x=.ref b/\y=.ref a/\DS J X.prog X.w X.K H a kvs/\J.on X.K H k b/\Q (.bl (bL kvs k).isSome) H):=by
 intro pins s σ H x y v u Q I rx ry h;obtain⟨a,b,kvs,k,rfl,rfl,d,hk,q⟩:=h;cases rx;cases ry;exact Ww hu I d hk fun s' I'=>⟨.bl (bL kvs k).isSome,H,I',rfl,q⟩
theorem A4(hu:X.A.units+16<cLine):rD X (compareOp .NotIn) (fun x y H Q=>∃(a b:zdv) (kvs:List (κ×V)) (k:κ),x=.ref b/\y=.ref a/\DS J X.prog X.w X.K H a kvs/\J.on X.K H k b/\Q (.bl (!(bL kvs k).isSome)) H):=by
 intro pins s σ H x y v u Q I rx ry h;obtain⟨a,b,kvs,k,rfl,rfl,d,hk,q⟩:=h;cases rx;cases ry;exact Mc hu I d hk fun s' I'=>⟨.bl (!(bL kvs k).isSome),H,I',rfl,q⟩
def FG (J:KH κ) (P:zdH) (w:zdx) (K:zaa) (td ty tv:TE):TS:=fun D σ H=>tv σ H fun v H1=>td σ H1 fun x H2=>ty σ H2 fun y H3=>∃(a b:zdv) (kvs:List (κ×V)) (k:κ),x=.ref a/\y=.ref b/\DS J P w K H3 a kvs/\J.on K H3 k b/\kvs.length<zdD/\
 ∀H4,DS J P w K H4 a (putK kvs k v)->(∃φ,H4=upd H3 a (.ext φ))->D.nx σ H4
theorem qe(hu:X.A.units+16<cLine)(ho:PE X o td)(hi:PE X i ty)(hv:PE X value tv)(hs:swapsWith value (some (.Subscript o i pos')) pos.line X.env=pure false):PS X (.Assign [.Subscript o i pos'] value pos) (FG J X.prog X.w X.K td ty tv):=by
 intro pins s σ H D I h;refine wpAny_Assign_Subscript (dE (hv pins s σ H _ I h) fun r s1 zqz=>?_) hs;obtain⟨v,H1,I1,rv,q1⟩:=zqz;refine dE (ho pins s1 σ H1 _ I1 q1) fun u s2 zqz=>?_;obtain⟨x,H2,I2,rx,q2⟩:=zqz;refine dE (hi pins s2 σ H2 _ I2 q2) fun iv s3 zqz=>?_;obtain⟨y,H3,I3,ry,a,b,kvs,k,ex,ey,d,hk,l,q3⟩:=zqz;subst ex ey;cases rx;cases ry;exact SY hu I3 d hk l rv fun s4 H4 I4 d4 e4=>⟨σ,H4,I4,q3 H4 d4 e4⟩
def BJ (J:KH κ) (P:zdH) (w:zdx) (K:zaa) (td ty:TE):TE:=fun σ H Q=>td σ H fun x H1=>ty σ H1 fun y H2=>∃(a b:zdv) (kvs:List (κ×V)) (k:κ) (v:V),x=.ref a/\y=.ref b/\DS J P w K H2 a kvs/\J.on K H2 k b/\bL kvs k=some v/\Q v H2
theorem DF(hu:X.A.units+16<cLine)(ho:PE X o td)(hi:PE X i ty)(hs:K0 i):PE X (.Subscript o i pos) (BJ J X.prog X.w X.K td ty):=by
 intro pins s σ H Q I h;refine BC PySem.F.slot_dict_getitem.lookup hs (dE (ho pins s σ H _ I h) fun u s1 zqz=>?_);obtain⟨x,H1,I1,rx,q1⟩:=zqz;refine dE (hi pins s1 σ H1 _ I1 q1) fun iv s2 zqz=>?_;obtain⟨y,H2,I2,ry,a,b,kvs,k,v,ex,ey,d,hk,l,q2⟩:=zqz;subst ex ey;cases rx;cases ry;have dd:=d;obtain⟨z,sy,xs,e,r,nd⟩:=dd;exact⟨(xb I2 e r nd).typeIs,SX hu I2 d hk l fun w' s3 I3 E9=>⟨v,H2,I3,E9,q2⟩⟩
end
end
abbrev tM:=Key×List Key
def SkH (K:zaa) (H:Hp) (x:tM) (a:zdv):Prop:=∃b,bQ K H a [kV x.1,.ref b]/\bQ K H b (x.2.map kV)
def uj:KH tM where
 knd:=SW
 on:=SkH
 up:=fun t ⟨b,h1,h2⟩=>⟨b,t _ _ h1,t _ _ h2⟩
 of:=fun {X pins σ H s x a} I ⟨c,h1,h2⟩=>by
  obtain⟨i1,r1,⟨o1,e1,c1,n1,d1⟩,_⟩:=I.tuple h1;obtain⟨i2,r2,⟨o2,e2,c2,n2,d2⟩,_⟩:=I.tuple h2;obtain⟨u1,u2,rfl,q1,q2⟩:=vals2 r1;cases (show u2=Value.ref c from q2);exact⟨o1,n1,u1,c,e1,c1,d1,AU (P:=X.prog) (w:=X.w) q1,o2,i2.toArray,n2,e2,c2,d2,by simpa using qQ r2⟩
 room:=fun {P w A} h=>by show A.units+1+8<cLine;lia
def Yk (k:Key) (v:V):Prop:=v=kV k\/∃b,v=.bl b/\k=.inl (tN b)
theorem Pk{k:Key}{v:V}{u:zdw}(h:Yk k v)(r:RelV v u):Pj k u=true:=by
 rcases h with rfl |⟨b,rfl,rfl⟩
 ·cases k with
  |inl i=>obtain⟨t,rfl⟩:=(show ∃t,u=Value.int i t from r);exact AI i t
  |inr x=>obtain⟨t,rfl⟩:=(show ∃t,u=Value.str x t from r);exact AJ x t
 ·cases (show u=Value.bool b from r);exact decide_eq_true rfl
theorem Md{P:zdH}{w:zdx}:∀ {ks:List Key} {vs:List V} {us:List zdw},Paired Yk ks vs->Vals vs us->ItemsAre (Wv P w) ks us
 |_,_,_,.nil,r=>by cases r;exact .nil
 |_,_,_,.cons h t,r=>by
  cases r with
  |cons r1 r2=>exact .cons (Pk h r1) (Md t r2)
def jT:KH (List Key) where
 knd:=fun P w=>tupleKind (Wv P w)
 on:=fun K H x a=>∃vs,bQ K H a vs/\Paired Yk x vs
 up:=fun t ⟨vs,h1,h2⟩=>⟨vs,t _ _ h1,h2⟩
 of:=fun {X pins σ H s x a} I ⟨vs,h1,h2⟩=>by
  obtain⟨i1,r1,⟨o1,e1,c1,n1,d1⟩,_⟩:=I.tuple h1;exact⟨o1,i1.toArray,n1,e1,c1,d1,by simpa using Md h2 r1⟩
 room:=fun {P w A} h=>by show A.units+1<cLine;lia
def j4 (h:Heap) (d:zdv) (es:Array DictEntry) (ep:Nat):Prop:=∃o,h.get? d=some o/\o.ExactDict/\o.data=.dict es ep
section
variable{prog:zdH}{w:zdx}{A:zdG}{E:zdw->zdF->Prop}{s:zdF}{d it:zdv}{es:Array DictEntry}{ep i:Nat}
theorem j4.ty(x:j4 s.heap d es ep):s.TypeIs (.ref d) "dict":=by obtain⟨o,g,c,_⟩:=x;exact⟨o,g,c.1⟩
theorem DG{Q:zdw->zdF->Prop}(hd:(d==sysModules)=false)(x:j4 s.heap d es ep)
 (q:Q (.ref s.heap.objs.size) {s with heap:=s.heap.push {cls:=.type "dict_keyiterator",data:=.fields #[.ref d,.int 0 0,.int es.size 0,.int ep 0]} }):wpAny (model prog w) A (pyIter (.ref d)) Q E s:=by
 have tyd:=x.ty;obtain⟨od,gd,cd,dd⟩:=x;refine wpAny_pyIter_slot tyd F.slot_dict_iter (wpAny_call_entry F.slot_dict_iter tyd F.entry_dict_iter ?_ (F.args_dict_iter_1 _));unfold Builtin.«dict.__iter__» Builtin.Dict.dictSlotNone;refine zdy (zdy (wpAny_notOrdered_dict tyd ?_));show wpAny _ _ (pure (Value.ref d)) _ _ s;refine zdz ?_;show wpAny _ _ (Builtin.Dict.showsAll d >>= _) _ _ s;unfold Builtin.Dict.showsAll;rw[if_neg (by rw[hd];exact zai)];refine zdy (zdz (zdy (wpAny_dictEntries gd dd (zdy (wpAny_dictEpoch gd dd ?_)))));refine zdy (wpAny_newObj_type (zdz ⟨_,rfl, "dict_keyiterator",_,⟨_,Heap.get?_push_size _ rfl,rfl⟩,F.slot_dict_keyiterator_next.lookup,?_⟩));simpa[rawInt] using q
theorem Me{Q:Option zdw->zdF->Prop}(x:s.heap.IsKeyIter it d i es.size ep)(y:j4 s.heap d es ep)(li:i<es.size)
 (q:∀h',h'.IsKeyIter it d (i+1) es.size ep->Heap.SameBut it s.heap h'->Q (some es[i].key) {s with heap:=h' }):wpAny (model prog w) A (pyNext (.ref it)) Q E s:=by
 have Aj:=x.typeIs;obtain⟨oi,gi,ci,di⟩:=id x;obtain⟨od,gd,_,dd⟩:=id y;have ow:Builtin.Dict_items.ownsTuple "dict_keyiterator"=false:=by decide
 unfold pyNext;refine zdy (wpAny_attempt (wpAny_callSpecial?_slot (name:=zac "__next__") Aj F.slot_dict_keyiterator_next (wpAny_call_entry F.slot_dict_keyiterator_next Aj F.entry_dict_keyiterator_next ?_ (F.args_dict_keyiterator_next_1 _))));refine zdy (zdz (zdy (zdy ?_)));refine zdy (wpAny_typeNameOfWhole_keyiter Aj (zdz (zdy (wpAny_fieldsOf gi di ?_))));simp only[ow,zaA,if_false];show wpAny _ _ (if (Value.ref d==Value.none)=true then _ else _) _ _ s;rw[if_neg (show ¬((Value.ref d==Value.none)=true) from zai)];refine zdy (zdz (zdy (wpAny_dictEntries gd dd ?_)));rw[if_neg (by simp)];refine zdy (zdz (zdy (wpAny_dictEpoch gd dd ?_)));rw[if_neg (by simp)];refine zdz ?_;simp only[show ¬((i:Int)<0) from by lia,if_false,zaU,zbF li];refine zdy (zdy (wpAny_typeNameOfWhole_keyiter Aj (zdz (zdy (wpAny_isOneOf_keyiter Aj ?_)))));show wpAny _ _ (setField (.ref it) 1 (rawInt ((i:Int)+1)) >>= _) _ _ s;refine zdy (wpAny_setField gi di (by simp) ?_);have z:(s.heap.update it (Obj.mapFields (·.setIfInBounds 1 (rawInt ((i:Int)+1))))).IsKeyIter it d (i+1) es.size ep:=
  ⟨_,Heap.get?_update_self _ gi (Obj.isFreed_of_fields (Obj.data_mapFields di _)),(Obj.cls_mapFields ..).trans ci,by rw[Obj.data_mapFields di];simp[rawInt]⟩
 refine zdy (zdA (zdy (wpAny_isOneOf_keyiter (s:={s with heap:=s.heap.update it (Obj.mapFields (·.setIfInBounds 1 (rawInt ((i:Int)+1))))}) z.typeIs ?_)));show wpAny _ _ (pure es[i].key) _ _ _;exact zdz (zdz ⟨_,rfl,zdz (q _ z (Heap.SameBut.update ..))⟩)
theorem Pl{Q:Option zdw->zdF->Prop}(hA:A.handled=none)(x:s.heap.IsKeyIter it d i es.size ep)(y:j4 s.heap d es ep)(li:es.size<=i)
 (q:∀h',Heap.ExtBut it s.heap h'->Q none {s with heap:=h' }):wpAny (model prog w) A (pyNext (.ref it)) Q E s:=by
 have Aj:=x.typeIs;obtain⟨oi,gi,ci,di⟩:=id x;obtain⟨od,gd,_,dd⟩:=id y;have ow:Builtin.Dict_items.ownsTuple "dict_keyiterator"=false:=by decide
 unfold pyNext;refine zdy (wpAny_attempt (wpAny_callSpecial?_slot (name:=zac "__next__") Aj F.slot_dict_keyiterator_next (wpAny_call_entry F.slot_dict_keyiterator_next Aj F.entry_dict_keyiterator_next ?_ (F.args_dict_keyiterator_next_1 _))));refine zdy (zdz (zdy (zdy ?_)));refine zdy (wpAny_typeNameOfWhole_keyiter Aj (zdz (zdy (wpAny_fieldsOf gi di ?_))));simp only[ow,zaA,if_false];show wpAny _ _ (if (Value.ref d==Value.none)=true then _ else _) _ _ s;rw[if_neg (show ¬((Value.ref d==Value.none)=true) from zai)];refine zdy (zdz (zdy (wpAny_dictEntries gd dd ?_)));rw[if_neg (by simp)];refine zdy (zdz (zdy (wpAny_dictEpoch gd dd ?_)));rw[if_neg (by simp)];refine zdz ?_;simp only[show ¬((i:Int)<0) from by lia,if_false,zaU,zci li];refine zdy (zdy (wpAny_typeNameOfWhole_keyiter Aj (zdz ?_)));show wpAny _ _ (setField (.ref it) 0 .none >>= _) _ _ s;refine zdy (wpAny_setField gi di (by simp) ?_);show wpAny _ _ (newExc (.type "StopIteration") [] >>= _) _ _ _;refine zdy ?_;simp only[newExc,newTuple];refine zdy (wpAny_newObj_type (zdy (m:=firstArgMember _ _) (wpAny_of_eq (a:=Value.none) (by first |rfl |(simp only[firstArgMember];rfl)) (wpAny_newObj_type ?_ (by size_fits)))) (by size_fits));simp only[raiseNew];refine zdy (wpAny_handled ?_);rw[show A.in1.handled=none from hA];refine zdy (zdz (wpAny_throw (zdy ?_)));refine wpAny_isInstance (T:="StopIteration") (b:=true) ⟨_,Heap.get?_push_size _ rfl,rfl⟩ isSubtype_stop ?_;exact zdz (q _ (((Heap.SameBut.update ..).extBut.push _).push _))
end
end L2
namespace PG
section
variable{β:Type}(ask:Int->Bool)(step:Int->List Int->Int->Option (Int×List Int)×Option Int)(tg:Int×List Int->List β)
abbrev bh:=Int×List Int
def wt (x:bh×List Int):Option (bh×List Int):=if x.1.1=0 then none else match take1 (ask x.1.1) x.2 with
 |none=>none
 |some (f,r)=>(step x.1.1 x.1.2 f).1.map fun y=>(y,r)
inductive Met:bh×List Int->β->Prop
 |here {s t}:t∈tg s.1->Met s t
 |on {s s' t}:wt ask step s=some s'->Met s' t->Met s t
variable{ask step tg}
theorem mV{s:bh}{l:List Int}(h0:s.1≠0)(ha:ask s.1=false):wt ask step (s,l)=(step s.1 s.2 0).1.map fun y=>(y,l):=by
 unfold wt;rw[if_neg h0];simp only[take1,ha,zaA,if_false]
theorem BK{s:bh}{f:Int}{l:List Int}(h0:s.1≠0)(ha:ask s.1=true):wt ask step (s,f::l)=(step s.1 s.2 f).1.map fun y=>(y,l):=by
 unfold wt;rw[if_neg h0];simp only[take1,ha,if_true]
theorem Hi{s:bh}(ha:ask s.1=true):wt ask step (s,[])=none:=by
 unfold wt;split
 ·rfl
 ·simp only[take1,ha,if_true]
theorem yE{s:bh}{l:List Int}(h0:s.1=0):wt ask step (s,l)=none:=by
 unfold wt;rw[if_pos h0]
structure MI(ask:Int->Bool)(step:Int->List Int->Int->Option (Int×List Int)×Option Int)(tg:Int×List Int->List β)(s0:bh×List Int)(ms:List β)(seen:List bh)(s:bh×List Int):Prop where
 a:∀t,Met ask step tg s0 t->t∈ms\/Met ask step tg s t
 b:∀t∈ms,Met ask step tg s0 t
 c:∀t,Met ask step tg s t->Met ask step tg s0 t
 d:∀x∈seen,(∀t∈tg x,t∈ms)/\x.1≠0/\ask x.1=false/\∀y,(step x.1 x.2 0).1=some y->y∈seen\/y=s.1
variable{s0 s s':bh×List Int}{ms Pm:List β}{seen:List bh}
theorem MI.start:MI ask step tg s0 [] [] s0:=⟨fun t h=>.inr h,fun t h=>(by cases h),fun t h=>h,fun x h=>(by cases h)⟩
theorem Pn(h:wt ask step s=none){t:β}(m:Met ask step tg s t):t∈tg s.1:=by
 cases m with
 |here m=>exact m
 |on e _=>rw[h] at e;cases e
theorem MI.fin(h:MI ask step tg s0 ms seen s)(hm:∀t,t∈Pm↔t∈ms\/t∈tg s.1)(he:wt ask step s=none\/s.1∈seen)(t:β):t∈Pm↔Met ask step tg s0 t:=by
 rw[hm];refine⟨fun z=>z.elim (h.b t) fun z=>h.c t (.here z),fun z=>?_⟩;rcases h.a t z with z |z
 ·exact .inl z
 rcases he with he |he
 ·exact .inr (Pn he z)
 ·have key:∀s' t,Met ask step tg s' t->s'.1∈seen->t∈ms:=by
   intro s' t m
   induction m with
   |here m=>exact fun q=>(h.d _ q).1 _ m
   |@on a b t e _ ih=>
    intro q;obtain⟨_,h0,ha,hs⟩:=h.d _ q;obtain⟨a1,a2⟩:=a;rw[mV h0 ha] at e;obtain⟨y,hy,rfl⟩:=zaM.mp e;rcases hs y hy with q2 |rfl
    ·exact ih q2
    ·exact ih he
  exact .inl (key _ _ z he)
theorem MI.next(h:MI ask step tg s0 ms seen s)(hm:∀t,t∈Pm↔t∈ms\/t∈tg s.1)(hn:wt ask step s=some s'\/wt ask step s=none/\s'=s) :
 (∀t,Met ask step tg s0 t->t∈Pm\/Met ask step tg s' t)/\(∀t∈Pm,Met ask step tg s0 t)/\∀t,Met ask step tg s' t->Met ask step tg s0 t:=by
 refine⟨fun t m=>?_,fun t m=>?_,fun t m=>?_⟩
 ·rw[hm];rcases h.a t m with z |z
  ·exact .inl (.inl z)
  ·rcases hn with hn |⟨hn,rfl⟩
   ·cases z with
    |here z=>exact .inl (.inr z)
    |on e z=>rw[hn] at e;cases e;exact .inr z
   ·exact .inr z
 ·rcases(hm t).mp m with z |z
  ·exact h.b t z
  ·exact h.c t (.here z)
 ·rcases hn with hn |⟨hn,rfl⟩
  ·exact h.c t (.on hn m)
  ·exact h.c t m
theorem MI.asked(h:MI ask step tg s0 ms seen s)(hm:∀t,t∈Pm↔t∈ms\/t∈tg s.1)(hn:wt ask step s=some s'\/wt ask step s=none/\s'=s):MI ask step tg s0 Pm [] s':=
 let ⟨a,b,c⟩:=h.next hm hn
 ⟨a,b,c,fun x q=>(by cases q)⟩
theorem MI.go(h:MI ask step tg s0 ms seen s)(hm:∀t,t∈Pm↔t∈ms\/t∈tg s.1)(hn:wt ask step s=some s'\/wt ask step s=none/\s'=s)(h0:s.1.1≠0)(ha:ask s.1.1=false):MI ask step tg s0 Pm (seen++[s.1]) s':=by
 obtain⟨a,b,c⟩:=h.next hm hn;refine⟨a,b,c,fun x q=>?_⟩;rcases zak.mp q with q |q
 ·obtain⟨d1,d2,d3,d4⟩:=h.d x q;refine⟨fun t m=>(hm t).mpr (.inl (d1 t m)),d2,d3,fun y hy=>.inl ?_⟩;rcases d4 y hy with z |rfl
  ·exact zaN _ z
  ·exact zav _ (zab.mpr rfl)
 ·cases zab.mp q;refine⟨fun t m=>(hm t).mpr (.inr m),h0,ha,fun y hy=>.inr ?_⟩;obtain⟨s1,s2⟩:=s;rw[mV h0 ha,hy] at hn;rcases hn with hn |⟨hn,_⟩
  ·cases hn;rfl
  ·cases hn
theorem Po(hk:∀row vals f,ask row=true->(step row vals f).1≠none){row:Int}{vals left:List Int}(h:row≠0) :
 (wt ask step ((row,vals),left)=some (((Ag ask step row vals left).2.2.1,(Ag ask step row vals left).2.2.2.1),(Ag ask step row vals left).2.1)/\(Ag ask step row vals left).2.2.2.2=endAt (Ag ask step row vals left).2.2.1/\(ask row=true->(Ag ask step row vals left).2.1.length<left.length)/\(ask row=false->(Ag ask step row vals left).2.1=left))\/
 (wt ask step ((row,vals),left)=none/\(((Ag ask step row vals left).2.2.1,(Ag ask step row vals left).2.2.2.1),(Ag ask step row vals left).2.1)=((row,vals),left)/\∃e,(Ag ask step row vals left).2.2.2.2=some e):=by
 cases ha:ask row with
 |false=>
  rw[mV (s:=(row,vals)) h ha];unfold Ag;simp only[take1,ha,zaA,if_false];rcases hs:step row vals 0 with ⟨o,sd⟩
  cases o with
  |none=>exact .inr ⟨rfl,rfl,_,rfl⟩
  |some x=>exact .inl ⟨rfl,rfl,fun z=>absurd z (by simp),fun _=>rfl⟩
 |true=>
  cases left with
  |nil=>
   rw[Hi (s:=(row,vals)) ha];unfold Ag;simp only[take1,ha,if_true];exact .inr ⟨trivial,trivial,_,rfl⟩
  |cons f l=>
   rw[BK (s:=(row,vals)) h ha];have:=hk row vals f ha;unfold Ag;simp only[take1,ha,if_true];rcases hs:step row vals f with ⟨o,sd⟩
   cases o with
   |none=>rw[hs] at this;exact absurd rfl this
   |some x=>exact .inl ⟨rfl,rfl,fun _=>(by simp),fun z=>(by cases z)⟩
end
theorem jh{α:Type}[DecidableEq α]:∀(xs ys:List α),xs.Nodup->(∀x∈xs,x∈ys)->xs.length<=ys.length
 |[],ys,_,_=>zaK _
 |x::r,ys,h,q=>by
  obtain⟨nx,nr⟩:=zbv.mp h;have hx:=q x (zan ..);have:=jh r (ys.erase x) nr fun y hy=>(List.mem_erase_of_ne (fun e:y=x=>nx (e▸hy))).mpr (q y (zaj _ hy));have l:=List.length_erase_of_mem hx;have p:=zdc hx;simp only[zap];lia
def iL:List Int->List (List Int)
 |[]=>[[]]
 |s::r=>(zaB s.toNat).flatMap fun (v:Nat)=>(iL r).map fun t=>((v:Int)::t)
def nR:List Int->List Int->Prop
 |[],[]=>True
 |s::r,v::t=>(0<=v/\v<s)/\nR r t
 |[],_::_=>False
 |_::_,[]=>False
theorem nR.mem:∀ {ss vs:List Int},nR ss vs->vs∈iL ss
 |[],[],_=>by simp[iL]
 |s::r,v::t,h=>by
  rw[nR] at h;simp only[iL,zbj,zaS,zal];exact⟨v.toNat,by lia,t,h.2.mem,by rw[zbo h.1.1]⟩
 |[],v::t,h=>by rw[nR] at h;exact h.elim
 |s::r,[],h=>by rw[nR] at h;exact h.elim
theorem nR.set:∀ {ss vs:List Int} (i:Nat) (v:Int),nR ss vs->(∀s,ss[i]?=some s->0<=v/\v<s)->nR ss (vs.set i v)
 |[],[],i,v,h,_=>h
 |s::r,u::t,0,v,h,q=>by
  rw[nR] at h;rw[List.set_cons_zero,nR];exact⟨q s rfl,h.2⟩
 |s::r,u::t,i+1,v,h,q=>by
  rw[nR] at h;rw[List.set_cons_succ,nR];exact⟨h.1,h.2.set i v fun z hz=>q z (by simpa using hz)⟩
 |[],u::t,i,v,h,q=>by rw[nR] at h;exact h.elim
 |s::r,[],i,v,h,q=>by rw[nR] at h;exact h.elim
theorem yF:∀(ss:List Int),(∀s∈ss,s<=10)->(iL ss).length<=10 ^ ss.length
 |[],_=>by simp[iL]
 |s::r,h=>by
  have ih:=yF r fun x hx=>h x (zaj _ hx);have hs:=h s (zan ..);have k:∀n:Nat,((zaB n).flatMap fun (v:Nat)=>(iL r).map fun t=>((v:Int)::t)).length=n*(iL r).length:=fun n=>by
   induction n with
   |zero=>simp
   |succ n ih=>rw[zaR,zbf,zaf,ih];simp[zbT]
  rw[iL,k,zap,Nat.pow_succ,Nat.mul_comm (10 ^ r.length)];exact zbl (by lia) ih
def univ (rows ss:List Int):List bh:=(0::rows).flatMap fun r=>(iL ss).map fun v=>(r,v)
theorem Mf{rows ss:List Int}{s:bh}(h:s.1=0\/s.1∈rows)(q:nR ss s.2):s∈univ rows ss:=by
 simp only[univ,zbj,zal,zah];exact⟨s.1,h,s.2,q.mem,rfl⟩
theorem yG(rows ss:List Int):(univ rows ss).length=(rows.length+1)*(iL ss).length:=by
 have k:∀l:List Int,(l.flatMap fun r=>(iL ss).map fun v=>((r,v):bh)).length=l.length*(iL ss).length:=fun l=>by
  induction l with
  |nil=>simp
  |cons a r ih=>rw[zbE,zaf,ih];simp[zbT,Nat.add_comm]
 rw[univ,k];simp
end PG
namespace L2
open PG
open PySem
def FH (K:zaa) (x:Str) (st:Stmt) (f:zdv):Prop:=zaE K zdC x=some (some (.ref f))/\∃fd,CL K x x st f fd
theorem FH.of{K:zaa}{x:Str}{st:Stmt}{f:zdv}{oc:zdw}{od an:Option zdv}{E8:Array (Option zdw)}{kV doc pm eO ct:zdw}(a:zaE K zdC x=some (some (.ref f)))(l:K.lookup f=some ⟨oc,od,.func (zaX x x (eI st) (cS st) (az st) .none kV doc pm an eO ct),E8⟩)
 (c:zbt K eO x=true) (k:zaY K (.ref f)=true):FH K x st f:=⟨a,_,vW l c k⟩
theorem FI{α:Type}{P:List α->Prop}(h:∀a,P [a])(us:List α)(e:us.length=1):P us:=match us,e with |[a],_=>h a
theorem BL{α:Type}{P:List α->Prop}(h:∀a b,P [a,b])(us:List α)(e:us.length=2):P us:=match us,e with |[a,b],_=>h a b
theorem bn3{α:Type}{P:List α->Prop}(h:∀a b c,P [a,b,c])(us:List α)(e:us.length=3):P us:=match us,e with |[a,b,c],_=>h a b c
theorem bn4{α:Type}{P:List α->Prop}(h:∀a b c d,P [a,b,c,d])(us:List α)(e:us.length=4):P us:=match us,e with |[a,b,c,d],_=>h a b c d
theorem rJ{K:zaa}{mg:Str->Option zdw}{h:Heap}{x:Str}{st:Stmt}{f:zdv}{ps:List Str}(X:K.In h)(G:h.Ns zdC mg)(q:FH K x st f)
 (b:∀(kV doc pm:zdw) (an:Option zdv) (eO ct:zdw) (us:List zdw),us.length=ps.length->bindArgs (zaX x x (eI st) (cS st) (az st) .none kV doc pm an eO ct) ⟨us,[]⟩=pure (ps.zip us)):∃fd,cV K mg x st ps f fd:=
 let ⟨a,fd,F⟩:=q
 ⟨fd,F,F.binds b,zaL X G a⟩
theorem FJ{A:zdG}{k:Nat}(hr:gB k A):A.units+16<cLine:=by have:=Ly hr;lia
theorem Mg{CX:CK}{P:zdH}{w:zdx}{K:zaa}{mg:Str->Option zdw}{base:Heap}{N:List Str}{qual:Str}{scope:Scope}{f:zdv}{cd:zdw}{A:zdG}{outer:List Env}{s:zdF}{H:Hp}{E:XK}:(ie CX P w K mg base N qual scope f cd A outer s H E).prog=P:=rfl
theorem Mh{CX:CK}{P:zdH}{w:zdx}{K:zaa}{mg:Str->Option zdw}{base:Heap}{N:List Str}{qual:Str}{scope:Scope}{f:zdv}{cd:zdw}{A:zdG}{outer:List Env}{s:zdF}{H:Hp}{E:XK}:(ie CX P w K mg base N qual scope f cd A outer s H E).w=w:=rfl
def b7:Tg->List Key
 |.row k=>[.inr "row",.inl k]
 |.side k b=>[.inr "side",.inl k,.inl (tN b)]
 |.bW k=>[.inr "must",.inl k]
 |.fin=>[.inr "end"]
theorem mW{a b:Tg}(h:b7 a=b7 b):a=b:=by
 have s1:(zac "row":Str)≠zac "must":=by decide +kernel
 cases a<;>cases b<;>simp only[b7,zdt.injEq,Sum.inl.injEq,Sum.inr.injEq,and_true,reduceCtorEq,and_false] at h
 ·rw[h.2]
 ·exact absurd h.1 s1
 ·obtain⟨_,rfl,e⟩:=h;have e:=(beq_iff_eq (α:=Int)).mpr e;rw[Mb] at e;rw[beq_iff_eq.mp e]
 ·exact absurd h.1.symm s1
 ·rw[h.2]
 ·rfl
theorem Mi{K:zaa}{H:Hp}{g:Tg}{v:V}(h:Rep K H (g7 g) v):∃a,v=.ref a/\jT.on K H (b7 g) a:=by
 have k:∀k:Key,Yk k (kV k):=fun k=>.inl rfl;cases g with
 |row k=>
  simp only[g7,Rep.bE,aD.aL,aD.bZ,Rep.cF,Rep.bO] at h;obtain⟨a,ys,rfl,hS,_,_,rfl,rfl,_,_,rfl,rfl,rfl⟩:=h;exact⟨a,rfl,_,hS,.cons (.inl rfl) (.cons (.inl rfl) .nil)⟩
 |side k b=>
  simp only[g7,Rep.bE,aD.aL,aD.bZ,Rep.cF,Rep.bO,Rep.kK] at h;obtain⟨a,ys,rfl,hS,_,_,rfl,rfl,_,_,rfl,rfl,_,_,rfl,rfl,rfl⟩:=h;exact⟨a,rfl,_,hS,.cons (.inl rfl) (.cons (.inl rfl) (.cons (.inr ⟨b,rfl,rfl⟩) .nil))⟩
 |bW k=>
  simp only[g7,Rep.bE,aD.aL,aD.bZ,Rep.cF,Rep.bO] at h;obtain⟨a,ys,rfl,hS,_,_,rfl,rfl,_,_,rfl,rfl,rfl⟩:=h;exact⟨a,rfl,_,hS,.cons (.inl rfl) (.cons (.inl rfl) .nil)⟩
 |fin=>
  simp only[g7,Rep.bE,aD.aL,aD.bZ,Rep.cF] at h;obtain⟨a,ys,rfl,hS,_,_,rfl,rfl,rfl⟩:=h;exact⟨a,rfl,_,hS,.cons (.inl rfl) .nil⟩
def tO (s:bh):tM:=(.inl s.1,s.2.map .inl)
theorem DH{a b:bh}(h:tO a=tO b):a=b:=by
 obtain⟨a1,a2⟩:=a;obtain⟨b1,b2⟩:=b;simp only[tO,Prod.mk.injEq,Sum.inl.injEq] at h;obtain⟨rfl,h⟩:=h;have h:=(List.map_inj_right (fun x y (e:(Sum.inl x:Key)=.inl y)=>Sum.inl.inj e)).mp h;rw[h]
theorem A5(l:List Int):(l.map (Sum.inl:Int->Key)).map kV=l.map V.int:=by rw[zbq];rfl
theorem Hj{K:zaa}{H:Hp}{a:zdv}{s:bh}(h:cQ K H a s.1 s.2):uj.on K H (tO s) a:=by obtain⟨b,h1,h2⟩:=h;exact⟨b,h1,by rw[tO,A5];exact h2⟩
theorem S1{K:zaa}{H:Hp}{a:zdv}{s:bh}(h:uj.on K H (tO s) a):cQ K H a s.1 s.2:=by obtain⟨b,h1,h2⟩:=h;exact⟨b,h1,by rw[tO,A5] at h2;exact h2⟩
def xc (l:List bh):List (tM×V):=l.map fun s=>(tO s,V.bl true)
theorem DI(l:List bh)(s:bh):(bL (xc l) (tO s)).isSome=decide (s∈l):=by
 induction l with
 |nil=>rfl
 |cons a r ih=>
  rw[xc,zaq];by_cases e:a=s
  ·rw[cu (by rw[e]),e];simp
  ·rw[cA (fun z=>e (DH z))];refine(show _=_ from ih).trans ?_;simp[Ne.symm e]
theorem Jb{l:List bh}{s:bh}(h:s ∉ l):putK (xc l) (tO s) (.bl true)=xc (l++[s]):=by
 unfold putK;rw[gY,DI,decide_eq_false h,if_neg zai];simp[xc]
section
variable{κ:Type}[DecidableEq κ]{J:KH κ}{P:zdH}{w:zdx}{K:zaa}{H H':Hp}{a b p C dx:zdv}{kvs:List (κ×V)}{φ:Heap->Prop}{fs:List (Str×V)}{xs:List V}
theorem DS.km(d:DS J P w K H a kvs):∃φ,H a=some (.ext φ):=by obtain⟨xs,h,_⟩:=d.at_;exact⟨_,h⟩
theorem DS.ins(d:DS J P w K H a kvs)(hp:H p=some (.ins C dx fs))(u:aS p H H'):DS J P w K H' a kvs:=by
 obtain⟨φ,e⟩:=d.km;exact d.Kh (fun o h=>u _ _ (cE e hp (by intro z;cases z)) h) fun b ys q=>q.ins hp u
theorem bQ.lD(h:bQ K H a xs)(hb:H b=some (.ext φ))(u:aS b H H'):bQ K H' a xs:=by
 rcases h with (q |⟨o',q⟩) |q
 ·exact .inl (.inl (u _ _ (cE q hb (by intro z;cases z)) q))
 ·exact .inl (.inr ⟨o',u _ _ (cE q hb (by intro z;cases z)) q⟩)
 ·exact .inr q
theorem DS.other(d:DS J P w K H a kvs)(hb:H b=some (.ext φ))(n:a≠b)(u:aS b H H'):DS J P w K H' a kvs:=d.Kh (fun o h=>u _ _ n h) fun c ys q=>q.lD hb u
theorem cQ.ext{row:Int}{vals:List Int}(h:cQ K H a row vals)(hb:H b=some (.ext φ))(u:aS b H H'):cQ K H' a row vals:=by obtain⟨va,h1,h2⟩:=h;exact⟨va,h1.lD hb u,h2.lD hb u⟩
theorem wg.ext{e:Option gS}{v:V}(h:wg K H e v)(hb:H b=some (.ext φ))(u:aS b H H'):wg K H' e v:=by
 cases e with
 |none=>exact h
 |some x=>obtain⟨a,e,q⟩:=h;exact⟨a,e,q.lD hb u⟩
end
theorem Pp{K:zaa}{H H':Hp}{l:zdv}{ys:List V}{d:Dp}{v:V}(hl:H l=some (.lst ys))(u:aS l H H')(hn:IS d=true)(r:Rep K H d v):Rep K H' d v:=AW (O:=(·=l)) (fun g e=>⟨ys,e▸hl⟩) (bB.one u rfl) d v hn r
theorem Mj{K:zaa}{H H':Hp}{l:zdv}{ys:List V}{ds:List Dp}{vs:List V}(hl:H l=some (.lst ys))(u:aS l H H')(hn:pW ds=true)(r:aD K H ds vs):aD K H' ds vs:=tH (O:=(·=l)) (fun g e=>⟨ys,e▸hl⟩) (bB.one u rfl) ds vs hn r
theorem Hk:∀l:List Tg,pW (l.map g7)=true
 |[]=>rfl
 |g::r=>by
  rw[zaq,pW,Hk r];cases g<;>rfl
def ig (pr:PG.Prog):List Int:=pr.aA.map (·.size)
def A6 (pr:PG.Prog):List Int:=(aB pr.body).map (·.row)
def aM (pr:PG.Prog):Nat:=(PG.univ (A6 pr) (ig pr)).length
structure c8(pr:PG.Prog)(s:bh):Prop where
 ok:yA pr s.1 s.2
 inv:PG.nR (ig pr) s.2
theorem c8.mem{pr:PG.Prog}{s:bh}(h:c8 pr s):s∈PG.univ (A6 pr) (ig pr):=by
 refine Mf ?_ h.inv;rcases h.ok.row with e |⟨i,hi,e⟩
 ·exact .inl e
 ·exact .inr (zal.mpr ⟨_,zas hi,e⟩)
theorem g8{pr:PG.Prog}{l:List bh}(nd:l.Nodup)(h:∀s∈l,c8 pr s):l.length<=aM pr:=jh l _ nd fun s hs=>(h s hs).mem
theorem nR.first:∀ {bs:List ui},(∀b∈bs,2<=b.size/\b.size<=10/\0<=b.first/\b.first<b.size)->PG.nR (bs.map (·.size)) (bs.map (·.first))
 |[],_=>trivial
 |b::r,h=>by
  simp only[zaq,PG.nR];have:=h b (zan ..);exact⟨⟨by lia,by lia⟩,nR.first fun x hx=>h x (zaj _ hx)⟩
theorem c8.first{pr:PG.Prog}(d:dO pr):c8 pr (bg pr.body 0,pr.aA.map (·.first)):=⟨d.first,nR.first d.size⟩
theorem nR.xw{pr:PG.Prog}(d:dO pr){vals:List Int}(h:PG.nR (ig pr) vals){b:W}(hb:b∈pr.aA.map (·.name))(z:Int):PG.nR (ig pr) (xw pr.aA vals b (z%iD pr.aA b)):=by
 refine h.set _ _ fun s hs=>?_;obtain⟨hx,_⟩:=qd hb;have e:iD pr.aA b=s:=by
  unfold iD;rw[ig,zao,zae hx] at hs;rw[zae hx];exact za1.inj hs
 have:=DE d hb;rw[e] at this ⊢;exact⟨zbB z (by lia),zbr z (by lia)⟩
theorem nR.step{pr:PG.Prog}(d:dO pr){st:cD}(ok:Dq (·∈pr.aA.map (·.name)) (fun e=>kN pr.aA e/\rF e<=2) (·∈OV) st){ws vals:List Int}{f:Int}(h:PG.nR (ig pr) vals){x:bh}(e:(mT pr.aA st ws vals f).1=some x):PG.nR (ig pr) x.2:=by
 have cs:jF pr.aA st ws vals=some x->PG.nR (ig pr) x.2:=by
  intro e;unfold jF at e;split at e
  ·cases e
  ·split at e
   ·cases e;exact h
   ·split at e
    ·cases e
    ·cases e;exact h
 cases st<;>rw[Dq] at ok
 ·cases e;exact nR.xw d h ok _
 ·cases e;exact nR.xw d h ok.1 _
 ·cases e;exact h
 ·exact cs e
 ·cases e;exact h
 ·exact cs e
 ·exact cs e
theorem Ml{pr:PG.Prog}(ok:Fx pr){i:Nat}(hi:i<(aB pr.body).length)(hf:i<(aI pr.body 0).length)(vals:List Int)(f:Int):cI pr (aB pr.body)[i].row vals f=mT pr.aA (aB pr.body)[i] (aI pr.body 0)[i].2.2 vals f:=by
 unfold cI;rw[oo ok.pw i hi,BH ok.pw i hi hf]
theorem c8.next{pr:PG.Prog}(d:dO pr){s x:bh}(h:c8 pr s)(h0:s.1≠0){f:Int}(e:(cI pr s.1 s.2 f).1=some x):c8 pr x:=by
 obtain⟨row,vals⟩:=s;obtain⟨i,hi,rfl⟩:=h.ok.row.resolve_left h0;obtain⟨hf,_,_⟩:=qc pr.body i hi;rw[Ml d.ok hi hf] at e;refine⟨?_,nR.step d (kj pr.body _ d.own (zas hi)) h.inv e⟩;rcases hs:mT pr.aA (aB pr.body)[i] (aI pr.body 0)[i].2.2 vals f with ⟨o,sd⟩
 rw[hs] at e;exact yA.step d hi hf h.ok.len h.ok.small (by rw[hs];exact congrArg (·,sd) e)
theorem yH{pr:PG.Prog}(row:Int)(vals:List Int)(f:Int)(h:dy pr.body row=true):(cI pr row vals f).1≠none:=by
 unfold dy at h;unfold cI;obtain⟨k,b,e⟩:∃k b,rH pr.body row=.ask k b:=by
  generalize rH pr.body row=st at h;cases st<;>first |exact⟨_,_,rfl⟩ |(have h:=of_decide_eq_true h;cases h)
 rw[e];intro z;cases z
theorem c8.nx{pr:PG.Prog}(d:dO pr){s s':bh×List Int}(h:c8 pr s.1)(e:wt (dy pr.body) (cI pr) s=some s'):c8 pr s'.1:=by
 unfold wt at e;split at e
 ·cases e
 ·rename_i h0;split at e
  ·cases e
  ·obtain⟨y,hy,rfl⟩:=zaM.mp e;exact h.next d h0 hy
def muM (N L k:Nat):Option gS->Nat
 |none=>L*(N+1)+(N-k)+1
 |some _=>0
theorem Pq{N L L' k:Nat}(h:L'<L)(e:Option gS):muM N L' 0 e<muM N L k none:=by
 have:=zcv (N+1) (show L'+1<=L from h);rw[zbT] at this;cases e<;>simp only[muM]<;>lia
theorem S2{N L k:Nat}(h:k<N)(e:Option gS):muM N L (k+1) e<muM N L k none:=by
 cases e<;>simp only[muM]<;>lia
def iE (pr:PG.Prog) (s:bh):List Tg:=if s.1=0 then [.fin] else match w9 (rH pr.body s.1) with
 |none=>[.row s.1]
 |some (sg,l,r)=>if (rH pr.body s.1).wd=.bW then (if tL sg (wv pr.aA s.2 l) (wv pr.aA s.2 r) then [.row s.1] else [.row s.1,.bW s.1]) else [.row s.1,.side s.1 (tL sg (wv pr.aA s.2 l) (wv pr.aA s.2 r))]
theorem xN(pr:PG.Prog)(s:bh):(iE pr s).length<=2:=by
 unfold iE;split
 ·simp
 ·split
  ·simp
  ·split
   ·split<;>simp
   ·simp
abbrev yI (pr:PG.Prog) (aU:List Int):Tg->Prop:=PG.Met (dy pr.body) (cI pr) (iE pr) ((bg pr.body 0,pr.aA.map (·.first)),aU)
section
variable(P:zdH)(w:zdx)(K:zaa)(CC:zdv)
def Mm (H:Hp) (l:zdv) (us:List V) (ts:List Tg):Prop:=H l=some (.lst us)/\aD K H (ts.map g7) us
def S4:Sp:=fun vs H Q _=>∃(ch sa:zdv) (pr:PG.Prog) (s:bh),vs=[.ref ch,.ref sa]/\rG K CC H ch pr/\dO pr/\cQ K H sa s.1 s.2/\c8 pr s/\
 ∀l us H',aq H H'->H l=none->Mm K H' l us (iE pr s)->Q (.ref l) H'
def j5 (H:Hp) (g:List bh) (us:List V):Prop:=Paired (fun (s:bh) v=>∃a,v=.ref a/\cQ K H a s.1 s.2) g us
end
theorem j5.at{K:zaa}{H:Hp}{g:List bh}{us:List V}(h:j5 K H g us):us.length=g.length/\∀(i:Nat) (s:bh),g[i]?=some s->∃a,us[i]?=some (V.ref a)/\cQ K H a s.1 s.2:=by
 unfold j5 at h
 induction h with
 |nil=>exact⟨rfl,fun i s h=>by simp at h⟩
 |@cons x y l1 l2 z t ih=>
  obtain⟨a,e,q⟩:=z;obtain⟨l,g⟩:=ih;refine⟨by simp[l],fun i s h=>?_⟩;cases i with
  |zero=>simp at h;subst h;exact⟨a,by simp[e],q⟩
  |succ i=>simp at h;obtain⟨b,hb,k⟩:=g i s h;exact⟨b,by simp[hb],k⟩
theorem j5.mono{K:zaa}{H H':Hp}{g:List bh}{us:List V}(h:j5 K H g us)(s:aq H H'):j5 K H' g us:=Paired.uo h fun _ _ ⟨a,e,q⟩=>⟨a,e,q.mono s⟩
open PyProof.Rows
theorem qf{J:It}{D:zdv}{g:TG}{te:TE}{Q:VK}{τ0:St}{H:Hp}(G:St->Prop)(xs:List V)(Pv:Nat->List V->Hp->Prop)
 (go:∀i H2,aq H H2->i<xs.length->J.go i H2) (stop:∀H2,aq H H2->J.stop xs.length H2) (Ik:∀i H2 x H3,aq H H2->i<xs.length->J.Ik i H2 x H3->H3=H2/\xs[i]?=some x)
 (hl:xs.length<=16000000) (hD:H D=none) (g0:G τ0) (h0:Pv 0 [] (upd H D (.lst [])))
 (step:∀i x ys τ H2,xs[i]?=some x->G τ->aq H H2->H2 D=some (.lst ys)->ys.length=i->Pv i ys H2->∀R:St->VK,(∀τ' v H3,G τ'->aq H2 H3->Pv (i+1) (ys++[v]) (upd H3 D (.lst (ys++[v])))->R τ' v H3)->g x τ H2 fun τ' H'=>te τ' H' (R τ'))
 (q:∀ys H2,aq H H2->H2 D=some (.lst ys)->ys.length=xs.length->Pv xs.length ys H2->Q (.ref D) H2):pQ J D g xu te Q τ0 (upd H D (.lst [])):=by
 refine⟨fun i m τ H2=>m=xs.length-i/\i<=xs.length/\G τ/\aq H H2/\∃ys,H2 D=some (.lst ys)/\ys.length=i/\Pv i ys H2,⟨xs.length,by simp,zaK _,g0,aq.new hD _,[],ah,rfl,h0⟩,?_⟩
 rintro i m τ H2 ⟨rfl,hi,gt,s2,ys,h2,ly,p2⟩
 by_cases rV:i<xs.length
 ·refine .inr ⟨go i H2 s2 rV,fun τ' H'=>G τ'/\aq H H'/\∃ys,H' D=some (.lst ys)/\ys.length=i+1/\Pv (i+1) ys H',fun τ' H' ⟨h1,h3,h4⟩=>⟨xs.length-(i+1),by lia,rfl,rV,h1,h3,h4⟩,fun y H' hy=>?_⟩;obtain⟨rfl,ey⟩:=Ik i H2 y H' s2 rV hy;simp only[xu,if_true];refine step i y ys τ _ ey gt s2 h2 ly p2 (fun τ' v H4=>_) fun τ' v H3 Yl s3 p3=>⟨ys,s3 _ _ h2,?_,Yl,?_,ys++[v],ah,by simp[ly],p3⟩
  ·have:zdD=2 ^ 24:=rfl;lia
  ·intro b o e;rw[au (aj e hD)];exact s3 _ _ (s2 _ _ e)
 ·have e:i=xs.length:=by lia
  subst e;exact .inl ⟨stop H2 s2,q ys H2 s2 h2 ly p2⟩
theorem Jc{K:zaa}{a D:zdv}{xs:List V}{g:TG}{te:TE}{Q:VK}{τ0:St}{H:Hp}(G:St->Prop)(Pv:Nat->List V->Hp->Prop)(hS:jc K H a xs)
 (hl:xs.length<=16000000) (hD:H D=none) (g0:G τ0) (h0:Pv 0 [] (upd H D (.lst [])))
 (step:∀i x ys τ H2,xs[i]?=some x->G τ->aq H H2->H2 D=some (.lst ys)->ys.length=i->Pv i ys H2->∀R:St->VK,(∀τ' v H3,G τ'->aq H2 H3->Pv (i+1) (ys++[v]) (upd H3 D (.lst (ys++[v])))->R τ' v H3)->g x τ H2 fun τ' H'=>te τ' H' (R τ'))
 (q:∀ys H2,aq H H2->H2 D=some (.lst ys)->ys.length=xs.length->Pv xs.length ys H2->Q (.ref D) H2):pQ (GC K a) D g xu te Q τ0 (upd H D (.lst [])):=
 qf G xs Pv (fun i H2 s2 h=>⟨xs,xs[i],s2.seq hS,by simp[h]⟩) (fun H2 s2=>⟨xs,s2.seq hS,zag _⟩) (fun i H2 x H3 s2 h y=>⟨y.1,y.2 _ (s2.seq hS)⟩) hl hD g0 h0 step q
theorem Mn{K:zaa}{ta:TA}{g:TG}{tb:TS}{D:Ends}{σ:St}{H:Hp} (h:∀U:zdv->Hp->Prop,(∀a H1,(∃W:Nat->Nat->St->Hp->Prop,(∃m,W 0 m σ H1)/\∀i m σ H,W i m σ H->
 ((Q9 K a).stop i H/\D.nx σ H)\/((Q9 K a).go i H/\∃N:St->Hp->Prop,(∀σ' H',N σ' H'->∃m',m'<m/\W (i+1) m' σ' H')/\∀x H',(Q9 K a).Ik i H x H'->g x σ H' fun σ2 H2=>tb {D with nx:=N,ct:=N,bk:=D.nx} σ2 H2))->U a H1)->
 ta σ H fun vs H1=>∃a,vs=[.ref a]/\(∃xs,jc K H1 a xs)/\U a H1):Oq (Ra K ta) g tb D σ H:=h _ fun _ _ x=>x
section
variable{prog:zdH}{w:zdx}{A:zdG}{E:zdw->zdF->Prop}{s:zdF}{d:zdv}{es:Array DictEntry}{ep:Nat}
theorem Mo(hd:(d==sysModules)=false) :
 MeetsIn prog w (Builtin.«dict.__len__» ⟨[.ref d],[]⟩) (fun _ R s=>∃es ep,j4 s.heap d es ep/\R (.ok (.ret (.int es.size s.toks))) {s with toks:=s.toks+1}):=by
 refine .of_wp fun A R s hh=>?_;obtain⟨es,ep,⟨o,g,_,aak⟩,h⟩:=hh;show wpAny _ _ (dictSize d >>= _) _ _ s;unfold dictSize;refine zdy (zdy (wpAny_dictEntries g aak (zdz ?_)));show wpAny _ _ (Builtin.Dict.pendingCount d >>= _) _ _ s;refine zdy (wpAny_pendingCount_other hd (wpAny_ret_mkInt ?_));rw[Nat.add_zero];exact h
theorem Pr{Q:zdw->zdF->Prop}(hd:(d==sysModules)=false)(x:j4 s.heap d es ep)(afK:(es.size:Int)<2 ^ 63)(h:Q (.int es.size (s.toks+1)) {s with toks:=s.toks+1+1}):wpAny (model prog w) A (call (.builtin "len") [.ref d]) Q E s:=by
 refine Calls.call_function_entry kind_len plain_len entry_len (args_len1 _) ?_;unfold Builtin.«len»;refine zdy (m:=oneArg "len" _) (zdz ?_);refine zdy (m:=callSpecial? (.ref d) (zac "__len__")) (wpAny_callSpecial?_slot (name:=zac "__len__") x.ty F.slot_dict_len
  (call_meetsIn F.slot_dict_len x.ty F.entry_dict_len (F.args_dict_len_1 _) (Mo hd) ⟨es,ep,x,?_⟩))
 show wpAny _ _ _ _ _ {s with toks:=s.toks+1};refine zdy (zdA (zdz (zdy (wpAny_letGo ?_))));show wpAny _ _ (if ((es.size:Nat):Int)<0 then _ else _) _ _ _;rw[if_neg (by first|decide|omega)];show wpAny _ _ (if ((es.size:Nat):Int) ≥ 2 ^ 63 then _ else _) _ _ _;rw[if_neg (by first|decide|omega)];exact zdy (wpAny_mkInt (zdz ⟨_,rfl,h⟩))
end
section
variable{κ:Type}[DecidableEq κ]{J:KH κ}{X:Cx}
theorem Jd:mO X (.builtin "len") (fun xs H Q=>∃(a:zdv) (kvs:List (κ×V)),xs=[.ref a]/\DS J X.prog X.w X.K H a kvs/\Q (.int kvs.length) H):=by
 intro pins s σ H xs us Q I r h;obtain⟨a,kvs,rfl,⟨z,sy,ks,e,rel,nd⟩,q⟩:=h;obtain⟨u,rfl,ru⟩:=vals1 r;cases (show u=Value.ref a from ru);obtain⟨o,es,ep,h1,h2,h3,h4,_,_⟩:=xb I e rel nd;have le:es.size=kvs.length:=by rw[<- zb1,h4,zad,Paired.length rel]
 have line:zdD=2 ^ 24:=rfl;exact Pr sy (⟨o,h1,h2,h3⟩:j4 s.heap a es ep) (by rw[le];omega) ⟨.int kvs.length,H,I.tok _,⟨_,by rw[le]⟩,q⟩
end
open PySem.Spec
def DJ (CX:CK) (P:zdH) (w:zdx) (K:zaa) (mg:Str->Option zdw) (base:Heap) (N:List Str) (qual:Str) (scope:Scope) (f:zdv) (cd:zdw) (cl:List (Str×zdv)) (A:zdG) (outer:List Env) (s:zdF) (H:Hp) (E:XK):Cx where
 prog:=P
 w:=w
 K:=K
 mg:=mg
 base:=base
 A:=A.deeper (zb8 qual scope s.heap.objs.size f cd cl)
 N:=N
 s₀:=s
 H₀:=H
 env:=zb8 qual scope s.heap.objs.size f cd cl
 outer:=outer
 stack:=zb8 qual scope s.heap.objs.size f cd cl::outer
 ex:=[]
 calm:=true
 fn:=fun _=>false
 pn:=[]
 xe:=fun e s'=>wpAny (model P w) (A.deeper (zb8 qual scope s.heap.objs.size f cd cl)) (leaving (zb8 qual scope s.heap.objs.size f cd cl) e) (fun _ NY=>CX outer H s E e NY) (fun e' NY=>CX outer H s E e' NY) s'
structure uU(x y:Str)(sc:Scope):Prop where
 kind:sc.kind=.function
 co:sc.isCoroutine=false
 gen:sc.isGenerator=false
 px:sc.names.lookup x=some .local
 py:sc.names.lookup y=some .free
 only:∀z,(sc.names.lookup z=some .cell\/sc.names.lookup z=some .free)->z=y
 S5:∀z∈sc.names,z.2≠.cell
theorem Pu{CX:CK}{P:zdH}{w:zdx}{K:zaa}{mg:Str->Option zdw}{base:Heap}{x y:Str}{qual:Str}{scope:Scope}{f cc:zdv}{cd:zdw}{A:zdG}{outer:List Env}{s:zdF}{H:Hp}{E:XK}{u uc:zdw}{v vc:V}{h1:Heap}{tk:Nat}
 (S:uU x y scope) (hd:A.handled=none) (e0:tw P w K mg base A outer s H) (rv:RelV v u) (GA:H cc=none) (wW:s.heap.IsCell cc (some uc)) (rc:RelV vc uc)
 (Q0:h1.Ns s.heap.objs.size fun z=>zbk z [(x,u)].reverse) (hk:∀b o,s.heap.get? b=some o->h1.get? b=some o) :
 Inv (DJ CX P w K mg base [x,y] qual scope f cd [(y,cc)] A outer s H E) [] [some v,some vc] H {s with heap:=h1,toks:=tk}:=by
 have Si:∀b:zdv,b ∉ (DJ CX P w K mg base [x,y] qual scope f cd [(y,cc)] A outer s H E).ex:=fun b z=>absurd (show b∈([]:List zdv) from z) (by simp);have lk:∀z c,zbk z [(y,cc)]=some c->z=y/\c=cc:=fun z c e=>by
  rw[za3] at e;cases hb:z==y with
  |true=>rw[hb] at e;cases e;exact⟨eq_of_beq hb,rfl⟩
  |false=>rw[hb] at e;cases e
 have lky:zbk y [(y,cc)]=some cc:=by rw[za3,beq_self_eq_true]
 have Mp:h1.IsCell cc (some uc):=by obtain⟨o,ho,q⟩:=wW;exact⟨o,hk _ _ ho,q⟩
 refine⟨⟨e0.mod,S.kind,rfl,rfl,zag _,fun a b c h1 h2=>?_,fun z hz=>?_,fun z c hf _=>?_,fun _=>hd,Around.frames_deeper e0.frames,.inr ⟨rfl,rfl⟩,fun b z=>absurd z (Si b),e0.bs,e0.CV,fun b _ _=>Si b,fun b z=>absurd z (Si b),e0.mL,e0.Gy⟩,
  rfl,e0.bare,Un.kept hk,⟨_,Q0,fun i z v' h1 h2 h3=>?_⟩,fun z c h=>?_,e0.bX.fresh (zag _),fun z c h=>?_,fun p hp=>absurd (show p∈([]:List (zdv×Obj)) from hp) (by simp),e0.bX.kept hk,rfl⟩
 ·exact(lk a c h1).1.trans (lk b c h2).1.symm
 ·have hz:scope.names.lookup z=some .cell\/scope.names.lookup z=some .free:=hz;rw[S.only z hz];exact⟨cc,lky⟩
 ·cases hf
 ·rcases i with _ |_ |i
  ·cases h1;cases h2;refine⟨u,rv,.inl ⟨S.px,?_⟩⟩;show zbk x [(x,u)].reverse=some u;rw[List.reverse_singleton,za3,beq_self_eq_true]
  ·cases h1;cases h2;exact⟨uc,rc,.inr ⟨.inr S.py,cc,lky,Mp⟩⟩
  ·cases h1
 ·rw[(lk z c h).2];exact⟨_,Mp⟩
 ·rw[(lk z c h).2];exact GA
theorem Px{CX:CK}{P:zdH}{w:zdx}{K:zaa}{mg:Str->Option zdw}{base:Heap}{k:Nat}{x y:Str}{name qual:Str}{params:Arguments}{body:Expr}{scope:Scope}{fo cc c':zdv}{pm xf:zdw}{A:zdG}{outer:List Env}{s:zdF}{H:Hp}{E:XK}{Q:VK}{u uc:zdw}{v vc:V}
 (S:uU x y scope) (hr:gB (k+1) A) (e0:tw P w K mg base A outer s H) (Wx:s.heap.get? fo=some (zbQ name qual params body scope [(y,cc)] pm c' xf)) (hcr:s.heap.CodeRec (.ref c') qual)
 (GA:H cc=none) (wW:s.heap.IsCell cc (some uc)) (rc:RelV vc uc) (rv:RelV v u) (yJ:bindArgs (zdh name qual params body scope [(y,cc)] pm (.ref c') xf) ⟨[u],[]⟩=pure [(x,u)])
 {t:TE} (ht:PE (DJ CX P w K mg base [x,y] qual scope fo (.ref c') [(y,cc)] A outer s H E) body t) (hq:t [some v,some vc] H Q) :
 codeAny (model P w) A (.call (.ref fo) ⟨[u],[]⟩) (CR CX outer P w H s Q E) s:=by
 have lim:s.heap.NoLimit:=e0.mod.nolimit.keeps fun b o e=>(e0.bs b o e).1;refine PySem.W.kla_callFunE hr.depth Wx rfl S.co S.gen rfl hcr ?_;rw[yJ];refine zdz (wpAny_newFunctionEnv S.S5 (fun z hz=>?_) (fun h1 Q0 ZN=>?_) S.kind)
 ·rw[zab.mp hz];exact S.px
 have hk:∀b o,s.heap.get? b=some o->h1.get? b=some o:=fun b o e=>ZN.extBut b o (zaD (Heap.lt_size e)) (Heap.get?_push_of_some _ e);refine⟨lim.keeps hk,?_⟩;show codeAny _ _ (.expr body (zb8 qual scope s.heap.objs.size fo (.ref c') [(y,cc)])) _ _;refine PySem.W.kla_codeExpr (wpAny_mono (ht [] _ _ _ Q (Pu S hr.hd e0 rv GA wW rc Q0 hk) hq) (fun u' s' h=>?_) fun e s' z=>z);obtain⟨v',H',J,rv',q'⟩:=h;exact⟨v',H',J.os,J.bare,J.base,J.bX,rv',q'⟩
def cO (a:zdv) (o:Obj):HO:=.ext fun h=>h.get? a=some o
def wo (H:Hp) (a:zdv):Hp:=fun b=>if b=a then none else H b
theorem gF{H:Hp}{a:zdv}:wo H a a=none:=if_pos rfl
theorem cZ{H:Hp}{a b:zdv}(h:b≠a):wo H a b=H b:=if_neg h
section
variable{P:zdH}{w:zdx}{H:Hp}{h:Heap}{a:zdv}{o:Obj}
theorem cO.get(x:mq P w H h)(e:H a=some (cO a o)):h.get? a=some o:=(x a _ e).1
theorem cO.ok{H':Hp}(e:h.get? a=some o):du P w H' h a (cO a o):=⟨e,⟨o,e⟩,fun _ _ p k=>k _ p⟩
theorem mq.add(x:mq P w H h)(hn:H a=none)(e:h.get? a=some o):mq P w (upd H a (cO a o)) h:=fun b u q=>by
 by_cases hb:b=a
 ·subst hb;rw[ah] at q;cases q;exact cO.ok e
 ·rw[au hb] at q;exact(x b u q).sZ (fun c v _ r=>r) (fun c r=>by rw[au (aj r hn)];exact r) fun c xs r=>by rw[au (aj r hn)];exact r
theorem mq.wo(x:mq P w H h)(ha:H a=some (cO a o)):mq P w (wo H a) h:=fun b u q=>by
 by_cases hb:b=a
 ·subst hb;rw[gF] at q;cases q
 ·rw[cZ hb] at q;refine(x b u q).sZ (fun c v _ r=>r) (fun c r=>?_) fun c xs r=>?_
  ·rw[cZ (cE r ha (by intro z;cases z))];exact r
  ·rw[cZ (cE r ha (by intro z;cases z))];exact r
end
def Rh (y name qual:Str) (params:Arguments) (body:Expr) (scope:Scope) (H:Hp) (fo cc:zdv) (mK:Obj) (vc:V):Prop:=
 ∃(c':zdv) (pm xf uc:zdw) (oc:Obj) (vs:Array zdw) (tk:Nat),H fo=some (cO fo (zbQ name qual params body scope [(y,cc)] pm c' xf))/\H c'=some (cO c' oc)/\oc.data=.fields vs/\vs[1]?=some (.str qual tk)/\
  H cc=some (cO cc mK)/\mK.data=.cell (some uc)/\RelV vc uc
def S6 (y name qual:Str) (params:Arguments) (body:Expr) (scope:Scope) (tb tf:TE) (ta:TA):TE:=fun σ H Q=>tf σ H fun f H1=>ta σ H1 fun vs H2=>∃(a:V) (fo cc:zdv) (mK:Obj) (vc:V),vs=[a]/\f=.ref fo/\Rh y name qual params body scope H2 fo cc mK vc/\
 tb [some a,some vc] (wo H2 cc) fun v H3=>H3 cc=none->Q v (upd H3 cc (cO cc mK))
theorem tw.wo{P:zdH}{w:zdx}{K:zaa}{mg:Str->Option zdw}{base:Heap}{A:zdG}{outer:List Env}{s:zdF}{H:Hp}{a:zdv}{o:Obj}(e:tw P w K mg base A outer s H)(ha:H a=some (cO a o)):tw P w K mg base A outer s (L2.wo H a):=
 ⟨e.frames,e.mod,fun b o hb=>⟨(e.bs b o hb).1,by unfold L2.wo;rw[(e.bs b o hb).2];split<;>rfl⟩,e.CV,e.mL,fun b hb=>by unfold L2.wo;rw[e.Gy b hb];split<;>rfl,e.bX.wo ha,e.bare⟩
theorem CE.back{outer:List Env}{P:zdH}{w:zdx}{H:Hp}{s s':zdF}{Q:VK}{u:zdw}{a:zdv}{o:Obj}(bX:mq P w H s.heap)(ha:H a=some (cO a o))(hf:a ∉ rB outer)(h:CE outer P w (wo H a) s (fun v H3=>H3 a=none->Q v (upd H3 a (cO a o))) u s'):CE outer P w H s Q u s':=by
 obtain⟨v,H3,os,bare,un,Py,rv,q⟩:=h;have g0:=cO.get bX ha;have n3:H3 a=none:=un.free a o g0 gF (by simp);have g1:=un.keep a o g0 gF hf (by simp);have nb:∀ {b:zdv},H b=none->b≠a:=fun {b} n z=>by rw[z,ha] at n;cases n
 refine⟨v,upd H3 a (cO a o),os,bare,⟨fun b ob e n hb hx=>un.keep b ob e (by rw[cZ (nb n)];exact n) hb hx,fun b ob e n hb hx=>un.slot b ob e (by rw[cZ (nb n)];exact n) hb hx,fun b ob e n hx=>?_,un.there,fun b xs e=>?_,fun b ob x e=>?_,fun b ps e=>?_⟩,Py.add n3 g1,rv,q n3⟩
 ·rw[au (nb n)];exact un.free b ob e (by rw[cZ (nb n)];exact n) hx
 ·have ne:=cE e ha (by intro z;cases z);rw[au ne];exact un.pH b xs (by rw[cZ ne];exact e)
 ·have ne:=cE e ha (by intro z;cases z);rw[au ne];exact un.pj b ob x (by rw[cZ ne];exact e)
 ·have ne:=cE e ha (by intro z;cases z);rw[au ne];exact un.pk b ps (by rw[cZ ne];exact e)
theorem FK{M:Model}{A:zdG}{E:zdw->zdF->Prop}{s:zdF}{env:Env}{pos:Pos}{f:zdw}{first:List zdw}{Q:zdw->zdF->Prop}{P:Heap->Prop}{e:Expr}{rest:List Expr}
 (hk:∀h,P h->∃k,(k=Keeper.frame\/k=Keeper.machine\/k=Keeper.boundFrame)/\PySem.W.Looks M h (keeperOf f) k) (h:wpAny M A (spliced (backTo pos (zdB (e::rest) env))) (fun vs s₁=>P s₁.heap/\wpAny M A (call f (first++vs)) Q E s₁) E s)
 (he:zdB (e::rest) env=(false,eval e env)::zdB rest env) (zV:(backTo pos (zdB rest env)).any (·.1)=false):wpAny M A (callWith pos f first (backTo pos (zdB (e::rest) env)) []) Q E s:=by
 rw[he] at h ⊢;exact PySem.W.callWith_of (by show ((false ||(backTo pos (zdB rest env)).any (·.1)) ||false)=false;rw[zV];rfl) hk (Calls.evalArgs_plain h)
theorem Mq{X:Cx}{x y z name qual:Str}{params:Arguments}{body e:Expr}{scope:Scope}{tb tf:TE}{ta:TA}{p pos:Pos}{k:Nat}{CX:CK}{E:XK}(hr:gB (k+1) X.A)(S:uU x y scope)(hf:PE X (.Name z p) tf)(ha:PA X [e] ta)(Su:∀pins σ (H:Hp) (s:zdF) e s' a o,Inv X pins σ H s->H a=some (cO a o)->CX X.stack (wo H a) s E e s'->X.xe e s')
 (yJ:∀(u:zdw) (cc c':zdv) (pm xf:zdw),bindArgs (zdh name qual params body scope [(y,cc)] pm (.ref c') xf) ⟨[u],[]⟩=pure [(x,u)])
 (hb:∀(fo cc c':zdv) (s:zdF) (H:Hp),PE (DJ CX X.prog X.w X.K X.mg X.base [x,y] qual scope fo (.ref c') [(y,cc)] X.A X.stack s H E) body tb)
 (he:zdB [e] X.env=(false,eval e X.env)::zdB [] X.env:=by rfl) (zV:(backTo pos (zdB [] X.env)).any (·.1)=false:=by rfl) :
 PE X (.Call (.Name z p) [e] [] pos) (S6 y name qual params body scope tb tf ta):=by
 intro pins s σ H Q I h;refine wpAny_Call_Name_kw (dE (hf pins s σ H _ I h) fun u0 s1 zqz=>?_);obtain⟨f,H1,I1,rf,h1⟩:=zqz;refine FK (P:=fun h=>∃fo cc c' pm xf,u0=.ref fo/\h.get? fo=some (zbQ name qual params body scope [(y,cc)] pm c' xf)) (fun h ⟨fo,cc,c',pm,xf,eu,hg⟩=>?_) ?_ he zV
 ·subst eu;exact⟨.frame,.inl rfl,(zc1 (part:=none) hg).andThen .now⟩
 ·refine dE (ha pos pins s1 σ H1 _ I1 h1) fun us s2 zqz=>?_;obtain⟨vs,H2,I2,r,a,fo,cc,mK,vc,ev,ef,la,hq⟩:=zqz;subst ev ef;obtain⟨u,rfl,ru⟩:=r.one;obtain rfl:u0=Value.ref fo:=rf;obtain⟨c',pm,xf,uc,oc,ovs,tk,g1,g2,d2,q2,g3,d3,rc⟩:=la;have e1:=cO.get I2.bX g1;have e2:=cO.get I2.bX g2;have e3:=cO.get I2.bX g3;refine⟨⟨fo,cc,c',pm,xf,rfl,e1⟩,?_⟩;have hnf:cc ∉ rB X.stack:=fun hb=>by rw[I2.ur cc hb] at g3;cases g3
  refine wpAny_call (codeAny_mono (Px (CX:=CX) (E:=E) S hr (I2.KI.wo g3) e1 ⟨c',oc,ovs,tk,rfl,e2,d2,q2⟩ gF ⟨mK,e3,d3⟩ rc ru (yJ u cc c' pm xf) (hb fo cc c' s2 (wo H2 cc)) hq) fun r s' yK=>?_);cases r with
  |error e=>exact Su pins σ H2 s2 e s' cc mK I2 g3 yK
  |ok fl=>
   cases fl with
   |ret u'=>exact I2.after (CE.back I2.bX g3 hnf yK)
   |next=>exact False.elim yK
   |brk=>exact False.elim yK
   |cont=>exact False.elim yK
def TabOk (qual:Str) (lp:Pos) (H:Hp) (ps:Array zdw):Prop:=
 ps = #[]\/∃(c':zdv) (oc:Obj) (vs:Array zdw) (tk:Nat),ps = #[rawInt lp.line,rawInt lp.col,.ref c']/\H c'=some (cO c' oc)/\oc.data=.fields vs/\vs[1]?=some (.str qual tk)
structure hZ(K:zaa)(mg:Str->Option zdw)(base:Heap)(c P:zdv):Prop where
 hd:PySem.W.CodeHd base c P
 bm:∃bm o,mg "__builtins__"=some (.ref bm)/\bm≠builtinsNs/\bm≠zdC/\base.get? bm=some o/\o.cls=.type "module"/\o.dict=some builtinsNs/\o.data=.plain
def aam (cy:zdv->Prop) (P:zdv) (y qual:Str) (params:Arguments) (body:Expr) (scope:Scope) (lp:Pos):TE:=fun _ H Q=>∃ps,H P=some (.nT ps)/\TabOk qual lp H ps/\
 ∀(fo cc c':zdv) (pm xf:zdw) (oc:Obj) (vs sk:Array zdw) (tk:Nat) (H':Hp),cy cc->H fo=none->(H c'=none\/ps = #[rawInt lp.line,rawInt lp.col,.ref c'])->(∀b o,b≠P->H b=some o->H' b=some o)->(∀b,H' b≠none->H b≠none\/b=fo\/b=c')->
  H' fo=some (cO fo (zbQ "<lambda>" qual params body scope [(y,cc)] pm c' xf))->H' c'=some (cO c' oc)->oc.data=.fields vs->vs[1]?=some (.str qual tk)->H' P=some (.nT sk)->sk = #[rawInt lp.line,rawInt lp.col,.ref c']->Q (.ref fo) H'
def gG (H:Hp) (P:zdv) (ps:Array zdw) (c':zdv) (oc:Obj) (fo:zdv) (ob:Obj):Hp:=upd (upd (upd H P (.nT ps)) c' (cO c' oc)) fo (cO fo ob)
section
variable{H:Hp}{P:zdv}{ps:Array zdw}{c':zdv}{oc:Obj}{fo:zdv}{ob:Obj}
theorem gG.keep(hF:H fo=none)(hc:H c'=some (cO c' oc)\/H c'=none){b:zdv}{o:HO}(n:b≠P)(e:H b=some o):gG H P ps c' oc fo ob b=some o:=by
 unfold gG;rw[au (aj e hF)];by_cases z:b=c'
 ·subst z;rcases hc with q |q
  ·rw[ah,<- q,e]
  ·rw[q] at e;cases e
 ·rw[au z,au n,e]
theorem gG.back(hP:H P≠none){b:zdv}(n:gG H P ps c' oc fo ob b≠none):H b≠none\/b=fo\/b=c':=by
 by_cases z1:b=fo
 ·exact .inr (.inl z1)
 ·by_cases z2:b=c'
  ·exact .inr (.inr z2)
  ·by_cases z3:b=P
   ·rw[z3];exact .inl hP
   ·unfold gG at n;rw[au z1,au z2,au z3] at n;exact .inl n
theorem gG.fo_:gG H P ps c' oc fo ob fo=some (cO fo ob):=ah
theorem gG.c_(n:c'≠fo):gG H P ps c' oc fo ob c'=some (cO c' oc):=by unfold gG;rw[au n,ah]
theorem gG.P_(n1:P≠fo)(n2:P≠c'):gG H P ps c' oc fo ob P=some (.nT ps):=by unfold gG;rw[au n1,au n2,ah]
end
theorem Inv.lam{X:Cx}{pins:List (zdv×Obj)}{σ:St}{H:Hp}{s:zdF}{P fo c':zdv}{ps more:Array zdw}{h1:Heap}{oc ob:Obj}{tk:Nat}(I:Inv X pins σ H s)(hP:H P=some (.nT ps))(hx:Heap.ExtBut P s.heap h1)(gP:h1.get? P=some (zdi (ps++more)))
 (Wx:s.heap.objs.size<=fo) (hc:H c'=some (cO c' oc)\/s.heap.objs.size<=c') (nf:c'≠fo) (gc:h1.get? c'=some oc) (gf:h1.get? fo=some ob):Inv X pins σ (gG H P (ps++more) c' oc fo ob) {s with heap:=h1,toks:=tk}:=by
 have nP:∀ {b:zdv},H b=none->b≠P:=fun {b} n z=>by rw[z,hP] at n;cases n
 have hF:H fo=none:=I.bX.fresh Wx;have cP:c'≠P:=fun z=>by
  rcases hc with e |e
  ·rw[z,hP] at e;cases e
  ·have:=I.bX.fresh e;rw[z,hP] at this;cases this
 have fP:fo≠P:=nP hF;have Ym:∀ {b:zdv},b≠fo->b≠c'->b≠P->gG H P (ps++more) c' oc fo ob b=H b:=fun n1 n2 n3=>by
  unfold gG;rw[au n1,au n2,au n3]
 have Hl:∀ {b:zdv} {u:HO},H b=some u->(∀sk,u≠.nT sk)->gG H P (ps++more) c' oc fo ob b=some u:=fun {b u} e nt=>by
  have n1:b≠fo:=aj e hF;have n3:b≠P:=fun z=>by rw[z,hP] at e;cases e;exact nt _ rfl
  by_cases n2:b=c'
  ·subst n2;rcases hc with z |z
   ·rw[e] at z;cases z;unfold gG;rw[au n1,ah]
   ·rw[I.bX.fresh z] at e;cases e
  ·rw[Ym n1 n2 n3];exact e
 have Wy:∀ {b:zdv} {o:Obj},s.heap.get? b=some o->H b=none->gG H P (ps++more) c' oc fo ob b=none:=fun {b o} e n=>by
  have lt:=Heap.lt_size e;have n1:b≠fo:=fun z=>by rw[z] at lt;exact absurd (zaz lt Wx) (zaP _)
  have n2:b≠c':=fun z=>by
   rcases hc with q |q
   ·rw[z,q] at n;cases n
   ·rw[z] at lt;exact absurd (zaz lt q) (zaP _)
  rw[Ym n1 n2 (nP n)];exact n
 refine I.call (g':=s.gens) (d':=s.drawn) (t':=tk) (ch:=[]) ⟨fun b o e n _ _=>hx b o (nP n) e,fun b o e n _ _=>⟨o.slots,hx b o (nP n) e⟩,fun b o e n _=>Wy e n,fun b o e _=>?_,fun b xs e=>Hl e (fun _ z=>by cases z),fun b o u e=>Hl e (fun _ z=>by cases z),fun b sk e=>?_⟩ (fun b u q=>?_) I.bare (fun b z=>absurd z (by simp))
 ·by_cases z:b=P
  ·exact⟨_,by rw[z];exact gP⟩
  ·exact⟨o,hx b o z e⟩
 ·by_cases z:b=P
  ·subst z;rw[hP] at e;cases e;refine⟨more,?_⟩;unfold gG;rw[au fP.symm,au cP.symm,ah]
  ·refine⟨#[],?_⟩;have n1:b≠fo:=aj e hF;have n2:b≠c':=fun y=>by
    rcases hc with q |q
    ·rw[y,q] at e;cases e
    ·rw[y,I.bX.fresh q] at e;cases e
   rw[Ym n1 n2 z,e];simp
 ·by_cases z1:b=fo
  ·subst z1;unfold gG at q;rw[ah] at q;cases q;exact cO.ok gf
  ·by_cases z2:b=c'
   ·subst z2;unfold gG at q;rw[au z1,ah] at q;cases q;exact cO.ok gc
   ·by_cases z3:b=P
    ·subst z3;unfold gG at q;rw[au z1,au z2,ah] at q;cases q;exact gP
    ·rw[Ym z1 z2 z3] at q;refine(I.bX b u q).sZ (fun c v hcv r=>hx c v ?_ r) (fun c r=>Hl r (fun _ z=>by cases z)) fun c xs r=>Hl r (fun _ z=>by cases z);rcases hcv with rfl |r2
     ·exact z3
     ·intro z;rw[z,hP] at r2;cases r2
theorem S7{X:Cx}{c P:zdv}{y qual:Str}{params:Arguments}{body:Expr}{scope:Scope}{lp:Pos}(B:hZ X.K X.mg X.base c P)(Ri:X.env.code=.ref c)(hq:X.env.qual ++ "<lambda>"=qual)
 (hcy:∃cc,X.env.cells.lookup y=some cc/\closureFor scope X.env=pure [(y,cc)]) (aan:defaultsOf params X.env=([],[])) :
 PE X (.Lambda params body scope lp) (aam (fun cc=>X.env.cells.lookup y=some cc) P y qual params body scope lp):=by
 intro pins s σ H Q I h;obtain⟨ps,hP,tok,q⟩:=h;obtain⟨cc,S8,N2⟩:=hcy;have gP:s.heap.get? P=some (zdi ps):=I.bX P _ hP;have hgP:zdC≠P:=fun z=>by
  obtain⟨o,es,ep,e,_⟩:=I.mod.glob;have:=(I.bs _ _ e).2;rw[z,hP] at this;cases this
 have hb:s.heap.BuiltinsAt X.mg P:=by
  obtain⟨bm,o,e1,e2,e3,e4,r⟩:=B.bm;have nbP:bm≠P:=fun z=>by
   have:=(I.bs _ _ e4).2;rw[z,hP] at this;cases this
  exact⟨bm,o,e1,e2,e3,nbP,(I.bs _ _ e4).1,r⟩
 have C:PySem.W.CodeHd s.heap c P:=B.hd.keeps I.bk;have tri:TriplesOk ps.toList:=by
  rcases tok with rfl |⟨c',oc,vs,tk,rfl,_⟩
  ·trivial
  ·exact trivial
 have nP:∀ {b:zdv},H b=none->b≠P:=fun {b} n z=>by rw[z,hP] at n;cases n
 refine PySem.W.kla_eval aan ?_;rw[hq];rcases tok with rfl |⟨c',oc,vs,tk,rfl,hc,d1,d2⟩
 ·refine PySem.W.kla_makeFunction N2 I.ok.glob (I.mod.glob.keeps I.bk) Ri C gP tri rfl hgP hb fun c' xf h' tk hx hge rV Mr htb=>?_;obtain⟨c2,oc,vs,t2,e2,RX,d1,d2⟩:=Mr;cases e2;have ge:s.heap.objs.size<=h'.objs.size:=zcs (zbi hge rV);have Rj:H h'.objs.size=none:=I.bX.fresh ge;have nc:H c'=none:=I.bX.fresh hge;have Wz:c'≠h'.objs.size:=zaD rV;have J:=I.lam (more:=#[rawInt lp.line,rawInt lp.col,.ref c']) (tk:=tk) hP (fun b o n e=>Heap.get?_push_of_some _ (hx b o n e)) (Heap.get?_push_of_some _ htb) ge (.inr hge) Wz (Heap.get?_push_of_some _ RX) (Heap.get?_push_size h' (o:=zbQ "<lambda>" qual params body scope [(y,cc)] ((X.mg "__name__").getD .none) c' xf) rfl);exact⟨.ref h'.objs.size,_,J,rfl,q _ cc c' _ xf oc vs _ t2 _ S8 Rj (.inl nc) (fun b o n e=>gG.keep Rj (.inr nc) n e) (fun b n=>gG.back (by rw[hP];simp) n) gG.fo_ (gG.c_ Wz) d1 d2 (gG.P_ (nP Rj).symm (nP nc).symm) (by simp)⟩
 ·refine PySem.W.kla_makeFunctionHit (cv:=.ref c') N2 I.ok.glob (I.mod.glob.keeps I.bk) Ri C gP tri ?_ hb fun xf h' SO hk hsz=>?_
  ·exact codeAmong_snoc [] trivial rfl
  ·have Rj:H h'.objs.size=none:=I.bX.fresh hsz;have Wz:c'≠h'.objs.size:=aj hc Rj;have cP:c'≠P:=fun z=>by rw[z,hP] at hc;cases hc
   have J:=I.lam (more:=#[]) (tk:=SO) hP (fun b o n e=>Heap.get?_push_of_some _ (hk b o e)) (by simpa using Heap.get?_push_of_some _ (hk _ _ gP)) hsz (.inl hc) Wz (Heap.get?_push_of_some _ (hk _ _ (cO.get I.bX hc))) (Heap.get?_push_size h' (o:=zbQ "<lambda>" qual params body scope [(y,cc)] ((X.mg "__name__").getD .none) c' xf) rfl);exact⟨.ref h'.objs.size,_,J,rfl,q _ cc c' _ xf oc vs _ tk _ S8 Rj (.inr rfl) (fun b o n e=>gG.keep Rj (.inl hc) n e) (fun b n=>gG.back (by rw[hP];simp) n) gG.fo_ (gG.c_ Wz) d1 d2 (gG.P_ (nP Rj).symm cP.symm) (by simp)⟩
theorem tw.add{P:zdH}{w:zdx}{K:zaa}{mg:Str->Option zdw}{base:Heap}{A:zdG}{outer:List Env}{s:zdF}{H:Hp}{a:zdv}{o:Obj}(e:tw P w K mg base A outer s H)(ha:H a=none)(hb:base.get? a=none)(hf:a ∉ rB outer)(g:s.heap.get? a=some o):tw P w K mg base A outer s (upd H a (cO a o)):=
 ⟨e.frames,e.mod,fun b ob hB=>⟨(e.bs b ob hB).1,by rw[au (fun z=>by rw[z,hb] at hB;cases hB)];exact(e.bs b ob hB).2⟩,e.CV,e.mL,fun b hB=>by rw[au (fun z:b=a=>hf (by rw[<- z];exact hB))];exact e.Gy b hB,e.bX.add ha g,e.bare⟩
theorem CE.out{outer:List Env}{P:zdH}{w:zdx}{H:Hp}{s s':zdF}{Q:VK}{u:zdw}{a:zdv}{o:Obj}(ha:H a=none)(g:s.heap.get? a=some o)(h:CE outer P w (upd H a (cO a o)) s (fun v H3=>H3 a=some (cO a o)/\Q v (wo H3 a)) u s'):CE outer P w H s Q u s':=by
 obtain⟨v,H3,os,bare,un,Py,rv,h3,q⟩:=h;have g3:=cO.get Py h3;refine⟨v,wo H3 a,os,bare,⟨fun b ob e n hb hx=>?_,fun b ob e n hb hx=>?_,fun b ob e n hx=>?_,un.there,fun b xs e=>?_,fun b ob x e=>?_,fun b ps e=>?_⟩,Py.wo h3,rv,q⟩
 ·by_cases z:b=a
  ·rw[z] at e ⊢;rw[g] at e;cases e;exact g3
  ·exact un.keep b ob e (by rw[au z];exact n) hb hx
 ·by_cases z:b=a
  ·rw[z] at e ⊢;rw[g] at e;cases e;exact⟨o.slots,g3⟩
  ·exact un.slot b ob e (by rw[au z];exact n) hb hx
 ·by_cases z:b=a
  ·rw[z];exact gF
  ·rw[cZ z];exact un.free b ob e (by rw[au z];exact n) hx
 ·have ne:b≠a:=aj e ha;rw[cZ ne];exact un.pH b xs (by rw[au ne];exact e)
 ·have ne:b≠a:=aj e ha;rw[cZ ne];exact un.pj b ob x (by rw[au ne];exact e)
 ·have ne:b≠a:=aj e ha;rw[cZ ne];exact un.pk b ps (by rw[au ne];exact e)
theorem Je{P:zdH}{w:zdx}{K:zaa}{mg mb:Str->Option zdw}{CX:CK}{k:Nat}{fa a c Pt:zdv}{fd:zdE}{x:Str}{sp:Sp}{s₁:zdF}{vs:List zdw}{ns:List Int}
 (KX:K.In s₁.heap) (Q0:s₁.heap.Ns zdC mg) (hb:s₁.heap.Ns builtinsNs mb) (hbb:∀x:Str,x≠"__name__"->mb x=bootBuiltins x) (aaq:s₁.heap.NoLimit) (hg:s₁.gens = #[])
 (ha:s₁.heap.get? a=some {cls:=.type "list",data:=.seq vs.toArray}) (hi:IntsAre vs ns) (hl:ns.length<=zdD) (hr:gB k callerA) (hd:PySem.W.CodeHd s₁.heap c Pt) (zX:s₁.heap.get? Pt=some (zdi #[])) (WA:K.lookup Pt=none)
 (hbm:∃bm o,mg "__builtins__"=some (.ref bm)/\bm≠builtinsNs/\bm≠zdC/\s₁.heap.get? bm=some o/\o.cls=.type "module"/\o.dict=some builtinsNs/\o.data=.plain)
 (F:∀base:Heap,K.In base->base.Ns zdC mg->hZ K mg base c Pt->bD P w K mg base CX k fa fd [x] sp) (yJ:∀(s:zdF) (u:zdw),BindsTo s fd ⟨[u],[]⟩ [(x,u)])
 (Kc:∀H:Hp,jc K H a (ns.map V.int)->H Pt=some (.nT #[])->sp [.ref a] H (fun v _=>v=.bl true) fun _ _ _=>False)
 (hCX:∀H e s',CX [] H s₁ (fun _ _ _=>False) e s'->False) :
 codeAny (model P w) callerA (.call (.ref fa) ⟨[.ref a],[]⟩) (fun r s'=>r=.ok (.ret (.bool true))/\OldK s₁.heap s'.heap/\s'.os=s₁.os/\AllBare s'.gens) s₁:=by
 have rv:=AR hi;have aat:=hi.length;have Yn:a≠Pt:=fun z=>by rw[z,zX] at ha;cases ha
 obtain⟨H,hHP,hHa,Yo,hS,hK⟩:∃H:Hp,H Pt=some (.nT #[])/\(H a=none\/H a=some (.Kn {cls:=.type "list",data:=.seq vs.toArray} (.lst (ns.map V.int))))/\(∀b,b≠Pt->b≠a->H b=none)/\jc K H a (ns.map V.int)/\(H a≠none->K.lookup a=none):=by
  cases hk:K.lookup a with
  |some o=>
   have e:=KX a o hk;rw[ha] at e;cases e;exact⟨fun b=>if b=Pt then some (.nT #[]) else none,if_pos rfl,.inl (if_neg Yn),fun b n _=>if_neg n,.inr ⟨_,vs.toArray,_,hk,rfl,rfl,rfl,by rw[zau,aat];exact hl,by simpa using rv⟩,fun z=>absurd (if_neg Yn) z⟩
  |none=>exact⟨fun b=>if b=Pt then some (.nT #[]) else if b=a then some (.Kn {cls:=.type "list",data:=.seq vs.toArray} (.lst (ns.map V.int))) else none,if_pos rfl,.inr ((if_neg Yn).trans (if_pos rfl)),fun b n1 n2=>(if_neg n1).trans (if_neg n2),.inl (.inr ⟨_,(if_neg Yn).trans (if_pos rfl)⟩),fun _=>rfl⟩
 have bX:mq P w H s₁.heap:=fun b u q=>by
  by_cases z:b=Pt
  ·subst z;rw[hHP] at q;cases q;exact zX
  ·by_cases z2:b=a
   ·subst z2;rcases hHa with e |e
    ·rw[e] at q;cases q
    ·rw[e] at q;cases q;exact⟨ha,by rw[zad];exact hl,vs,_,rv,ha⟩
   ·rw[Yo b z z2] at q;cases q
 have free:∀ {b:zdv} {o:Obj},s₁.heap.get? b=some o->(∀xs n,o.data≠.seq xs n)->(∀fs,o.data≠.fields fs\/o.cls≠.none)->H b=none:=fun {b o} e n1 n2=>by
  refine Yo b (fun z=>?_) (fun z=>?_)
  ·rw[z,zX] at e;cases e;exact(n2 #[]).elim (fun q=>q rfl) fun q=>q rfl
  ·rw[z,ha] at e;cases e;exact n1 _ _ rfl
 have Yp:∀ {b:zdv} {m:Str->Option zdw},s₁.heap.Ns b m->(Bn s₁.heap H).Ns b m:=fun {b m} ⟨o,es,ep,e,d,r⟩=>⟨o,es,ep,uq e (free e (fun _ _ z=>by rw[d] at z;cases z) fun _=>.inl fun z=>by rw[d] at z;cases z),d,r⟩
 have hKb:K.In (Bn s₁.heap H):=fun b o e=>uq (KX b o e) (by
  by_cases z:b=Pt
  ·rw[z,WA] at e;cases e
  ·by_cases z2:b=a
   ·rcases hHa with q |q
    ·rw[z2];exact q
    ·rw[z2,hK (by rw[q];simp)] at e;cases e
   ·exact Yo b z z2)
 have hM:Mod K mg (Bn s₁.heap H):=⟨hKb,Yp Q0,⟨mb,Yp hb,hbb⟩,let ⟨mc,h1,h2⟩:=aaq;⟨mc,Yp h1,h2⟩⟩
 have e0:tw P w K mg (Bn s₁.heap H) callerA [] s₁ H:=⟨rfl,hM,fun b o e=>Og e,zds (Ig _ _),trivial,fun b hb=>absurd (show b∈([]:List zdv) from hb) (by simp),bX,.of_eq hg⟩
 have hL:hZ K mg (Bn s₁.heap H) c Pt:=by
  refine⟨?_,?_⟩
  ·obtain⟨o,vs',file,tf,flags,tg,inF,text,tt,e1,r1,r2,r⟩:=hd;exact⟨o,vs',file,tf,flags,tg,inF,text,tt,uq e1 (free e1 (fun _ _ z=>by rw[r2] at z;cases z) fun _=>.inr fun z=>by rw[r1] at z;cases z),r1,r2,r⟩
  ·obtain⟨bm,o,e1,e2,e3,e4,r1,r2,r3⟩:=hbm;exact⟨bm,o,e1,e2,e3,uq e4 (free e4 (fun _ _ z=>by rw[r3] at z;cases z) fun _=>.inl fun z=>by rw[r3] at z;cases z),r1,r2,r3⟩
 refine codeAny_mono ((F _ hKb (Yp Q0) hL).run callerA [] s₁ H ⟨[.ref a],[]⟩ [.ref a] [.ref a] _ _ hr e0 (yJ s₁ (.ref a)) (.cons rfl .nil) (Kc H hS hHP)) fun r s' h=>?_;cases r with
 |error e=>exact(hCX H e s' h).elim
 |ok fl=>
  cases fl with
  |next=>exact False.elim h
  |brk=>exact False.elim h
  |cont=>exact False.elim h
  |ret u=>
   obtain⟨v,H',os,bare,un,WB,r',q⟩:=h;have q':v=.bl true:=q;subst q';obtain rfl:u=Value.bool true:=r';refine⟨rfl,⟨fun b o e=>?_,fun b o e=>un.there b o e (by simp)⟩,os,bare⟩;by_cases z:b=Pt
   ·subst z;rw[zX] at e;cases e;obtain⟨more,em⟩:=un.pk b _ hHP;have g':=WB b _ em;obtain⟨oc,vs',file,tf,flags,tg,inF,text,tt,e1,r1,r2,r3,_⟩:=hd;exact .inr (.inl ⟨⟨c,oc,vs',e1,r1,r2,r3⟩,rfl, #[],more,rfl,g'⟩)
   ·refine .inl ?_;by_cases z2:b=a
    ·subst z2;rcases hHa with n |n
     ·exact un.keep b o e n (by intro z;exact absurd (show b∈([]:List zdv) from z) (by simp)) (by simp)
     ·have z3:=un.pj b _ _ n;obtain⟨e2,_⟩:=WB b _ z3;rw[ha] at e;cases e;exact e2
    ·exact un.keep b o e (Yo b z z2) (by intro z;exact absurd (show b∈([]:List zdv) from z) (by simp)) (by simp)
theorem Ms{l:PySem.W.OpenLaw}{n k:Nat}{q:zdH}{loose:List Str}{XP:(Str->Option zdw)->Heap->Prop}{YP:zdx->Heap->Prop}{d dF:DefRec}{K:Params->zaa}{CX:zdx->CK}{sp:zdx->Sp}{x fn:Str}{c Pt:zdv}
 (hn:l.most=some n) (Ya:n<=zdD) (VP:d.params.defaults=[]) (hr:gB k callerA)
 (hY:∀(w:zdx) (h:Heap),YP w h->(K w.params).In h) (Mr:(recsOf q).find? (fun e=>e.name==fn)=some dF) (Mt:∀w:zdx,zcl (K w.params) fn=some (c,Pt)) (WA:∀w:zdx,(K w.params).lookup Pt=none)
 (F:∀(w:zdx) (mg:Str->Option zdw) (fa:zdv) (h:Heap),(K w.params).In h->h.Ns zdC mg->mg d.name=some (.ref fa)->
  ∃fd:zdE,(∀(s:zdF) (u:zdw),BindsTo s fd ⟨[u],[]⟩ [(x,u)])/\
   ∀base:Heap,(K w.params).In base->base.Ns zdC mg->hZ (K w.params) mg base c Pt->bD l.prog w (K w.params) mg base (CX w) k fa fd [x] (sp w))
 (Kc:∀(w:zdx) (H:Hp) (a:zdv) (ns:List Int),ns.length<=n->jc (K w.params) H a (ns.map V.int)->H Pt=some (.nT #[])->sp w [.ref a] H (fun v _=>v=.bl true) fun _ _ _=>False)
 (hCX:∀(w:zdx) (H:Hp) (s:zdF) (e:zdw) (s':zdF),CX w [] H s (fun _ _ _=>False) e s'->False) :
 PySem.W.WalkO q loose XP YP l.row.toRowW d [] (fun f vs=>PySem.call f vs):=by
 refine Att.Dc hn VP fun w s₀ s₁ mg mb fa o pm cd doc a vs ns G Y ho hd C0 VQ Sq hints hlen hg=>?_;have KX:=hY w _ Y;obtain⟨fd,hb,hF⟩:=F w mg fa _ KX G.T.g VQ;obtain⟨SQ,hd2⟩:=PySem.W.tab_of G.T KX Mr (Mt w);have hbm:∃bm o,mg "__builtins__"=some (.ref bm)/\bm≠builtinsNs/\bm≠zdC/\s₁.heap.get? bm=some o/\o.cls=.type "module"/\o.dict=some builtinsNs/\o.data=.plain:=by
  obtain⟨bm,ob,b1,b2,b3,b4,b5,b6⟩:=G.T.bmain;refine⟨bm,ob,b1,b2,fun z=>?_,b3,b4,b5,b6⟩;obtain⟨o,es,ep,e,hd,_⟩:=G.T.g;rw[z,e] at b3;cases b3;rw[hd] at b6;cases b6
 exact Je KX G.T.g G.T.b G.T.builtins G.T.nolimit hg Sq hints (zaw hlen Ya) hr SQ hd2 (WA w) hbm hF hb (fun H hS hP=>Kc w H a ns hlen hS hP) fun H e s'=>hCX w H s₁ e s'
def qg (K:zaa) (f c:zdv):Prop:=∀oc od fd E8,K.lookup f=some ⟨oc,od,.func fd,E8⟩->fd.code=.ref c
theorem Mu{K:zaa}{x:Str}{f c P:zdv}(h:zcl K x=some (c,P))(hn:zaE K zdC x=some (some (.ref f))):qg K f c:=by
 intro oc od fd E8 hl;unfold zcl at h;rw[hn] at h;simp only[hl] at h;split at h
 ·rename_i c2 hc;split at h
  ·split at h
   ·cases h;exact hc
   ·cases h
  ·cases h
 ·cases h
def fJ (st:Stmt):Expr:=match cS st with
 |[.Return (some (.Call _ [_,l] _ _)) _]=>l
 |_=>.Constant .none 0 ⟨0,0,0,0⟩
def FL:Expr->Arguments
 |.Lambda p _ _ _=>p
 |_=>{posonlyargs:=[],args:=[],vararg:=none,kwonlyargs:=[],kw_defaults:=[],kwarg:=none,defaults:=[]}
def xO:Expr->Expr
 |.Lambda _ b _ _=>b
 |e=>e
def mX:Expr->Scope
 |.Lambda _ _ s _=>s
 |_=>{kind:=.function,names:=[],isGenerator:=false,isCoroutine:=false}
def kO:Expr->Pos
 |.Lambda _ _ _ p=>p
 |_=>⟨0,0,0,0⟩
def Jf (y qual:Str) (l:Expr) (H:Hp) (fo cc:zdv) (mK:Obj) (vc:V):Prop:=Rh y "<lambda>" qual (FL l) (xO l) (mX l) H fo cc mK vc
def aY (pr:PG.Prog) (s:bh):List bh:=if s.1=0 then [] else if dy pr.body s.1=true then (zaB 10).map fun f=>((cI pr s.1 s.2 (f:Nat)).1.getD s) else (cI pr s.1 s.2 0).1.toList
theorem uV{pr:PG.Prog}(d:dO pr){s:bh}(h:c8 pr s):∀x∈aY pr s,c8 pr x:=by
 intro x hx;unfold aY at hx;split at hx
 ·cases hx
 ·rename_i h0;split at hx
  ·rename_i ha;obtain⟨f,_,rfl⟩:=zal.mp hx;cases e:(cI pr s.1 s.2 (f:Nat)).1 with
   |none=>exact h
   |some y=>exact h.next d h0 e
  ·rw[Option.mem_toList] at hx;exact h.next d h0 hx
theorem cQ.upL{K:zaa}{H H':Hp}{D a:zdv}{row:Int}{vals:List Int}{ys:List V}(h:cQ K H a row vals)(hD:H D=some (.lst ys))(u:aS D H H'):cQ K H' a row vals:=by obtain⟨va,h1,h2⟩:=h;exact⟨va,h1.Ah hD u,h2.Ah hD u⟩
theorem uW{K:zaa}{H H':Hp}{g:List bh}{us:List V}(h:j5 K H g us)(f:∀a row vals,cQ K H a row vals->cQ K H' a row vals):j5 K H' g us:=Paired.uo h fun _ _ ⟨a,e,q⟩=>⟨a,e,f _ _ _ q⟩
theorem DK{K:zaa}{H:Hp}:∀ {g:List bh} {us:List V} {x:bh} {a:zdv},j5 K H g us->cQ K H a x.1 x.2->j5 K H (g++[x]) (us++[.ref a])
 |[],_,_,_,h,q=>by cases h;exact .cons ⟨_,rfl,q⟩ .nil
 |_::_,_,_,_,h,q=>by
  cases h with
  |cons a b=>exact .cons a (DK b q)
section
variable(P:zdH)(w:zdx)(K:zaa)(CC:zdv)
inductive Hm(vs:List V)(H:Hp)(Q:VK)(E:XK):Prop
 |mk (ch sa:zdv) (pr:PG.Prog) (s:bh):vs=[.ref ch,.ref sa]->rG K CC H ch pr->dO pr->cQ K H sa s.1 s.2->c8 pr s->(∀l us H',aq H H'->H l=none->H' l=some (.lst us)->j5 K H' (aY pr s) us->Q (.ref l) H')->Hm vs H Q E
end
abbrev jb:=List (bh×List Int)
def kP (led:bh->List bh):Nat->jb->bh->List Int->jb×Option (List bh)
 |0,f,_,_=>(f,none)
 |n+1,f,s,g=>if s∈f.map (·.1) then (f,none) else match led s with
  |[t]=>kP led n (f++[(s,g)]) t g
  |l=>(f++[(s,g)],some l)
def iT (K:zaa) (H:Hp) (f:jb) (kvs:List (tM×V)):Prop:=Paired (fun (x:bh×List Int) (kv:tM×V)=>kv.1=tO x.1/\∃a,kv.2=.ref a/\bQ K H a (x.2.map V.int)) f kvs
section
variable{K:zaa}{H H':Hp}
theorem iT.imp{f:jb}{kvs:List (tM×V)}(h:iT K H f kvs)(t:∀a xs,bQ K H a xs->bQ K H' a xs):iT K H' f kvs:=Paired.uo h fun _ _ ⟨e,a,e2,q⟩=>⟨e,a,e2,t _ _ q⟩
theorem iT.WC:∀ {f:jb} {kvs:List (tM×V)},iT K H f kvs->∀s:bh,(bL kvs (tO s)).isSome=decide (s∈f.map (·.1))
 |[],_,h,s=>by cases h;rfl
 |x::r,_,h,s=>by
  cases h with
  |@cons _ kv _ _ a b=>
   obtain⟨k,v⟩:=kv;obtain⟨e,_⟩:=a;simp only at e;subst e;by_cases z:x.1=s
   ·rw[cu (by rw[z]),zaq,z];simp
   ·rw[cA (fun y=>z (DH y)),iT.WC b s,zaq];simp[Ne.symm z]
theorem iT.len{f:jb}{kvs:List (tM×V)}(h:iT K H f kvs):kvs.length=f.length:=(Paired.length h).symm
theorem iT.put{f:jb}{kvs:List (tM×V)}(h:iT K H f kvs){s:bh}{g:List Int}{a:zdv}(n:s ∉ f.map (·.1))(q:bQ K H a (g.map V.int)):iT K H (f++[(s,g)]) (putK kvs (tO s) (.ref a)):=by
 unfold putK;rw[gY,h.WC,decide_eq_false n,if_neg zai];exact Paired.snoc h ⟨rfl,a,rfl,q⟩
end
section
variable(P:zdH)(w:zdx)(K:zaa)(CC:zdv)(l:Expr)(qual:Str)
def Mv (H0 H:Hp) (us:List V) (gv:V):Option (List bh)->Prop
 |none=>us=[]
 |some Yq=>∃ta la vS,us=[.ref ta]/\bQ K H ta [gv,.ref la]/\H0 la=none/\H la=some (.lst vS)/\j5 K H Yq vS
end
theorem Jf.mono{y qual:Str}{l:Expr}{H H':Hp}{fo cc:zdv}{mK:Obj}{vc:V}(h:Jf y qual l H fo cc mK vc)(s:aq H H'):Jf y qual l H' fo cc mK vc:=by
 obtain⟨c',pm,xf,uc,oc,vs,tk,g1,g2,d2,q2,g3,d3,rc⟩:=h;exact⟨c',pm,xf,uc,oc,vs,tk,s _ _ g1,s _ _ g2,d2,q2,s _ _ g3,d3,rc⟩
theorem Mw{H H':Hp}{D:zdv}(u:aS D H H'):aq (wo H D) H':=fun b o e=>by
 by_cases z:b=D
 ·subst z;rw[gF] at e;cases e
 ·rw[cZ z] at e;exact u b o z e
theorem mz{H:Hp}{D:zdv}{o:HO}:wo (upd H D o) D=wo H D:=funext fun b=>by
 by_cases z:b=D
 ·subst z;rw[gF,gF]
 ·rw[cZ z,cZ z,au z]
theorem xP{H H':Hp}{D:zdv}(s:aq H H')(n:H D=none):aq H (wo H' D):=fun b o e=>by
 rw[cZ (aj e n)];exact s b o e
theorem BM{H H':Hp}{D:zdv}(s:aq H H'):aq (wo H D) (wo H' D):=fun b o e=>by
 by_cases z:b=D
 ·subst z;rw[gF] at e;cases e
 ·rw[cZ z] at e ⊢;exact s b o e
theorem qh{H:Hp}{D:zdv}:aq (wo H D) H:=Mw (.refl _ _)
theorem S9{H H':Hp}{D b:zdv}(u:aS D H H'):aS D (wo H b) (wo H' b):=fun a o n e=>by
 by_cases z:a=b
 ·subst z;rw[gF] at e;cases e
 ·rw[cZ z] at e ⊢;exact u a o n e
theorem xQ{H:Hp}{a:zdv}:aS a H (wo H a):=fun b o n e=>by rw[cZ n];exact e
theorem Pz{H H3:Hp}{a:zdv}{o:Obj}(ha:H a=some (cO a o))(s:aq (wo H a) H3):aq H (upd H3 a (cO a o)):=fun b u e=>by
 by_cases z:b=a
 ·subst z;rw[ha] at e;cases e;exact ah
 ·rw[au z];exact s b u (by rw[cZ z];exact e)
section
variable{K:zaa}{H H':Hp}{p:zdv}{φ:Heap->Prop}
mutual
theorem PB(h:H p=some (.ext φ))(u:aS p H H'):∀(d:Dp) (v:V),Rep K H d v->Rep K H' d v
 |.dR,v,r=>by rw[Rep.qR] at r ⊢;exact r
 |.bl b,v,r=>by rw[Rep.kK] at r ⊢;exact r
 |.int b,v,r=>by rw[Rep.bO] at r ⊢;exact r
 |.str b,v,r=>by rw[Rep.cF] at r ⊢;exact r
 |.lst l,v,r=>by
  rw[Rep.bN] at r ⊢;obtain⟨a,ys,rfl,q,rs⟩:=r;refine⟨a,ys,rfl,?_,mY h u l ys rs⟩;rcases q with (q |⟨o,q⟩) |q
  ·exact .inl (.inl (u _ _ (cE q h (by intro z;cases z)) q))
  ·exact .inl (.inr ⟨o,u _ _ (cE q h (by intro z;cases z)) q⟩)
  ·exact .inr q
 |.tup l,v,r=>by
  rw[Rep.bE] at r ⊢;obtain⟨a,ys,rfl,q,rs⟩:=r;exact⟨a,ys,rfl,q.lD h u,mY h u l ys rs⟩
theorem mY(h:H p=some (.ext φ))(u:aS p H H'):∀(ds:List Dp) (vs:List V),aD K H ds vs->aD K H' ds vs
 |[],vs,r=>by rw[aD.bZ] at r ⊢;exact r
 |d::ds,vs,r=>by
  rw[aD.aL] at r ⊢;obtain⟨v,t,rfl,r1,r2⟩:=r;exact⟨v,t,rfl,PB h u d v r1,mY h u ds t r2⟩
end
theorem rG.ext{C ch:zdv}{pr:PG.Prog}(c:rG K C H ch pr)(h:H p=some (.ext φ))(u:aS p H H'):rG K C H' ch pr:=by
 obtain⟨dx,nl,sd,fa,va,st,wy,us,ws,h1,h2,h3,h4,h5,h6,h7,h8,h9,N4,Kg,N5⟩:=c.at_;have k:∀ {b:zdv} {o:HO},H b=some o->(∀ψ,o≠.ext ψ)->H' b=some o:=fun {b o} e n=>u _ _ (cE e h (n φ)) e;exact⟨⟨dx,nl,sd,fa,va,st,wy,us,ws,k h1 (fun _ z=>by cases z),k h2 (fun _ z=>by cases z),k h3 (fun _ z=>by cases z),k h4 (fun _ z=>by cases z),k h5 (fun _ z=>by cases z),k h6 (fun _ z=>by cases z),h7,k h8 (fun _ z=>by cases z),mY h u _ _ h9,N4,k Kg (fun _ z=>by cases z),fun i hi=>let ⟨q,e,r⟩:=N5 i hi;⟨q,e,r.lD h u⟩⟩⟩
end
end L2
namespace L2
open PG
open PySem PySem.Spec PyProof.Rows
def qi (g:List Int):Option (List bh)->List (List Int×List bh)
 |none=>[]
 |some l=>[(g,l)]
def cR (led:bh->List bh) (n:Nat):jb->jb->jb×List (List Int×List bh)
 |f,[]=>(f,[])
 |f,(s,g)::r=>((cR led n (kP led n f s g).1 r).1,qi g (kP led n f s g).2++(cR led n (kP led n f s g).1 r).2)
def aZ (as:List (List Int×List bh)):jb:=as.flatMap fun a=>(zaB a.2.length).map fun i:Nat=>(a.2.getD i (0,[]),a.1++[((i:Nat):Int)])
def pB (led:bh->List bh) (n:Nat):Nat->jb->List (List Int×List bh)->jb
 |0,f,_=>f
 |m+1,f,as=>if as=[] then f else pB led n m (cR led n f (aZ as)).1 (cR led n f (aZ as)).2
def aK (pr:PG.Prog) (s:bh):jb:=pB (aY pr) (aM pr+1) (aM pr+2) (kP (aY pr) (aM pr+1) [] s []).1 (qi [] (kP (aY pr) (aM pr+1) [] s []).2)
section
variable{led:bh->List bh}{S:bh->Prop}
structure yM(S:bh->Prop)(f:jb):Prop where
 nd:(f.map (·.1)).Nodup
 BN:∀x∈f,S x.1
theorem yM.nil:yM S []:=⟨zbs,fun x h=>by cases h⟩
theorem yM.put{f:jb}{s:bh}{g:List Int}(h:yM S f)(n:s ∉ f.map (·.1))(hs:S s):yM S (f++[(s,g)]):=by
 refine⟨?_,fun x hx=>?_⟩
 ·rw[zat];exact za6.mpr ⟨h.nd,by simp,fun a ha b hb=>by rw[zaq,zaW,zab] at hb;rw[hb];exact fun y=>n (by rw[<- show a=s from y];exact ha)⟩
 ·rcases zak.mp hx with hx |hx
  ·exact h.BN x hx
  ·rw[zab.mp hx];exact hs
structure uX(S:bh->Prop)(m:Nat)(as:List (List Int×List bh)):Prop where
 BN:∀a∈as,∀x∈a.2,S x
 len:∀a∈as,a.1.length<=m
theorem uX.nil{m:Nat}:uX S m []:=⟨fun a h=>(by cases h),fun a h=>(by cases h)⟩
theorem uX.app{m:Nat}{as bs:List (List Int×List bh)}(h:uX S m as)(h2:uX S m bs):uX S m (as++bs):=⟨fun a ha=>(zak.mp ha).elim (h.BN a) (h2.BN a),fun a ha=>(zak.mp ha).elim (h.len a) (h2.len a)⟩
theorem qj(li:∀s,S s->∀x∈led s,S x){m:Nat}:∀(n:Nat) (f:jb) (s:bh) (g:List Int),yM S f->S s->g.length<=m->yM S (kP led n f s g).1/\uX S m (qi g (kP led n f s g).2)/\f.length+(qi g (kP led n f s g).2).length<=(kP led n f s g).1.length
 |0,f,s,g,h,_,_=>⟨h,.nil,zag _⟩
 |n+1,f,s,g,h,hs,hg=>by
  rw[kP];split
  ·exact⟨h,.nil,zag _⟩
  ·rename_i hn;have h1:=h.put (g:=g) hn hs;split
   ·rename_i t e;have:=qj li n (f++[(s,g)]) t g h1 (li s hs t (by rw[e];exact zab.mpr rfl)) hg;refine⟨this.1,this.2.1,?_⟩;have:=this.2.2;rw[zaf,zaC] at this;lia
   ·refine⟨h1,⟨fun a ha x hx=>?_,fun a ha=>?_⟩,?_⟩
    ·rw[zab.mp ha] at hx;exact li s hs x hx
    ·rw[zab.mp ha];exact hg
    ·rw[zaf];exact zag _
theorem mZ(li:∀s,S s->∀x∈led s,S x){m n:Nat}:∀(l:jb) (f:jb),yM S f->(∀x∈l,S x.1/\x.2.length<=m)->yM S (cR led n f l).1/\uX S m (cR led n f l).2/\f.length+(cR led n f l).2.length<=(cR led n f l).1.length
 |[],f,h,_=>⟨h,.nil,zag _⟩
 |(s,g)::r,f,h,hl=>by
  obtain⟨a1,a2,a3⟩:=qj li n f s g h (hl _ (zan ..)).1 (hl _ (zan ..)).2;obtain⟨b1,b2,b3⟩:=mZ li r _ a1 fun x hx=>hl x (zaj _ hx);refine⟨b1,a2.app b2,?_⟩;show f.length+(qi g (kP led n f s g).2++(cR led n (kP led n f s g).1 r).2).length<=_;rw[zaf];show _<=(cR led n (kP led n f s g).1 r).1.length;lia
theorem wu{n:Nat}:∀(l k:jb) (f:jb),cR led n f (l++k)=((cR led n (cR led n f l).1 k).1,(cR led n f l).2++(cR led n (cR led n f l).1 k).2)
 |[],k,f=>rfl
 |(s,g)::r,k,f=>by
  rw[zbV,cR,wu r k];simp only[cR,zaV]
theorem Jg{n:Nat}{f:jb}{s:bh}{g:List Int}:cR led n f [(s,g)]=((kP led n f s g).1,qi g (kP led n f s g).2):=by simp only[cR,zaG]
theorem ji{m:Nat}{as:List (List Int×List bh)}(h:uX S m as):∀x∈aZ as,S x.1/\x.2.length<=m+1:=by
 intro x hx;obtain⟨a,ha,hx⟩:=zbj.mp hx;obtain⟨i,hi,rfl⟩:=zal.mp hx;have hi:=zaS.mp hi;refine⟨h.BN a ha _ ?_,?_⟩
 ·rw[zar,zae hi];exact zas hi
 ·have:=h.len a ha;rw[zaf,zaC];lia
def fK (a:List Int×List bh) (j:Nat):jb:=(zaB j).map fun i:Nat=>(a.2.getD i (0,[]),a.1++[((i:Nat):Int)])
theorem xg{a:List Int×List bh}{as:List (List Int×List bh)}:aZ (as++[a])=aZ as++fK a a.2.length:=by
 unfold aZ;rw[zbf];simp only[zbE,zcp,zaG];rfl
theorem BO{a:List Int×List bh}{j:Nat}:fK a (j+1)=fK a j++[(a.2.getD j (0,[]),a.1++[((j:Nat):Int)])]:=by
 unfold fK;rw[zaR,zat];rfl
theorem FN{m j:Nat}{a:List Int×List bh}(h1:∀x∈a.2,S x)(h2:a.1.length<=m)(hj:j<=a.2.length):∀x∈fK a j,S x.1/\x.2.length<=m+1:=by
 intro x hx;obtain⟨i,hi,rfl⟩:=zal.mp hx;have hi:=zaS.mp hi;refine⟨h1 _ ?_,?_⟩
 ·rw[zar,zae (by lia)];exact zas (by lia)
 ·rw[zaf,zaC];lia
theorem Mx{n m:Nat}{f:jb}:pB led n m f []=f:=by
 cases m
 ·rfl
 ·rw[pB,if_pos rfl]
end
section
variable(K:zaa)
def eF (H:Hp) (as:List (List Int×List bh)) (us:List V):Prop:=Paired (fun (a:List Int×List bh) (v:V)=>∃ta ga la vS,v=.ref ta/\bQ K H ta [.ref ga,.ref la]/\bQ K H ga (a.1.map V.int)/\H la=some (.lst vS)/\j5 K H a.2 vS) as us
end
section
variable{K:zaa}{H H':Hp}
theorem eF.imp{as:List (List Int×List bh)}{us:List V}(h:eF K H as us)(t:∀a xs,bQ K H a xs->bQ K H' a xs)(l:∀a xs,H a=some (.lst xs)->H' a=some (.lst xs)):eF K H' as us:=
 Paired.uo h fun _ _ ⟨ta,ga,la,vS,e,q1,q2,q3,q4⟩=>⟨ta,ga,la,vS,e,t _ _ q1,t _ _ q2,l _ _ q3,uW q4 fun a row vals ⟨va,h1,h2⟩=>⟨va,t _ _ h1,t _ _ h2⟩⟩
theorem eF.mono{as:List (List Int×List bh)}{us:List V}(h:eF K H as us)(s:aq H H'):eF K H' as us:=h.imp (fun a xs q=>s.bM q) fun a xs q=>s _ _ q
theorem eF.ext{as:List (List Int×List bh)}{us:List V}{D:zdv}{φ:Heap->Prop}(h:eF K H as us)(hD:H D=some (.ext φ))(u:aS D H H'):eF K H' as us:=h.imp (fun a xs q=>q.lD hD u) fun a xs q=>u _ _ (cE q hD (by intro z;cases z)) q
theorem eF.of{H0:Hp}{us:List V}{ga b:zdv}{ys:List V}{g:List Int}{o:Option (List bh)}(h:Mv K H0 H us (.ref ga) o)(q:bQ K H ga (g.map V.int))(n:H0 b≠none)(hb:H b=some (.lst ys)):eF K (wo H b) (qi g o) us:=by
 have u:aS b H (wo H b):=xQ;cases o with
 |none=>rw[show us=[] from h];exact .nil
 |some l=>
  obtain⟨ta,la,vS,rfl,q1,n1,q2,q3⟩:=h;refine .cons ⟨ta,ga,la,vS,rfl,q1.Ah hb u,q.Ah hb u,?_,uW q3 fun a row vals ⟨va,h1,h2⟩=>⟨va,h1.Ah hb u,h2.Ah hb u⟩⟩ .nil;rw[cZ (fun z=>n (by rw[<- z];exact n1))];exact q2
theorem eF.of1{H0:Hp}{us:List V}{ga:zdv}{g:List Int}{o:Option (List bh)}(h:Mv K H0 H us (.ref ga) o)(q:bQ K H ga (g.map V.int)):eF K H (qi g o) us:=by
 cases o with
 |none=>rw[show us=[] from h];exact .nil
 |some l=>
  obtain⟨ta,la,vS,rfl,q1,n1,q2,q3⟩:=h;exact .cons ⟨ta,ga,la,vS,rfl,q1,q,q2,q3⟩ .nil
theorem yO{α β:Type}{R:α->β->Prop}:∀ {as:List α} {us:List β} {bs:List α} {vs:List β},Paired R as us->Paired R bs vs->Paired R (as++bs) (us++vs)
 |[],_,_,_,h,h2=>by cases h;exact h2
 |_::_,_,_,_,h,h2=>by
  cases h with
  |cons a b=>exact .cons a (yO b h2)
theorem c0{α β:Type}{R:α->β->Prop}:∀ {as:List α} {us:List β} {i:Nat} {v:β},Paired R as us->us[i]?=some v->∃a,as[i]?=some a/\R a v
 |[],_,_,_,h,e=>by cases h;simp at e
 |_::_,_,0,_,h,e=>by
  cases h with
  |cons a b=>cases e;exact⟨_,rfl,a⟩
 |_::_,_,i+1,_,h,e=>by
  cases h with
  |cons a b=>
   obtain⟨x,e1,e2⟩:=c0 (i:=i) b (by simpa using e);exact⟨x,by simpa using e1,e2⟩
end
def Kp (H H':Hp):Prop:=∀b o,H b=some o->(∀ps,o≠.nT ps)->H' b=some o
section
variable{K:zaa}{H H':Hp}
theorem Kp.of{Pt:zdv}{ps:Array zdw}(u:aS Pt H H')(h:H Pt=some (.nT ps)):Kp H H':=fun b o e n=>u b o (cE e h (n ps)) e
theorem bQ.kp{a:zdv}{xs:List V}(h:bQ K H a xs)(k:Kp H H'):bQ K H' a xs:=by
 rcases h with (q |⟨o',q⟩) |q
 ·exact .inl (.inl (k _ _ q (by intro _ z;cases z)))
 ·exact .inl (.inr ⟨o',k _ _ q (by intro _ z;cases z)⟩)
 ·exact .inr q
theorem jc.kp{a:zdv}{xs:List V}(h:jc K H a xs)(k:Kp H H'):jc K H' a xs:=by
 rcases h with (q |⟨o',q⟩) |q
 ·exact .inl (.inl (k _ _ q (by intro _ z;cases z)))
 ·exact .inl (.inr ⟨o',k _ _ q (by intro _ z;cases z)⟩)
 ·exact .inr q
mutual
theorem My(k:Kp H H'):∀(d:Dp) (v:V),Rep K H d v->Rep K H' d v
 |.dR,v,r=>by rw[Rep.qR] at r ⊢;exact r
 |.bl b,v,r=>by rw[Rep.kK] at r ⊢;exact r
 |.int b,v,r=>by rw[Rep.bO] at r ⊢;exact r
 |.str b,v,r=>by rw[Rep.cF] at r ⊢;exact r
 |.lst l,v,r=>by
  rw[Rep.bN] at r ⊢;obtain⟨a,ys,rfl,q,rs⟩:=r;exact⟨a,ys,rfl,jc.kp q k,xR k l ys rs⟩
 |.tup l,v,r=>by
  rw[Rep.bE] at r ⊢;obtain⟨a,ys,rfl,q,rs⟩:=r;exact⟨a,ys,rfl,bQ.kp q k,xR k l ys rs⟩
theorem xR(k:Kp H H'):∀(ds:List Dp) (vs:List V),aD K H ds vs->aD K H' ds vs
 |[],vs,r=>by rw[aD.bZ] at r ⊢;exact r
 |d::ds,vs,r=>by
  rw[aD.aL] at r ⊢;obtain⟨v,t,rfl,r1,r2⟩:=r;exact⟨v,t,rfl,My k d v r1,xR k ds t r2⟩
end
theorem rG.kp{C ch:zdv}{pr:PG.Prog}(c:rG K C H ch pr)(k:Kp H H'):rG K C H' ch pr:=by
 obtain⟨dx,nl,sd,fa,va,st,wy,us,ws,h1,h2,h3,h4,h5,h6,h7,h8,h9,N4,Kg,N5⟩:=c.at_;exact⟨⟨dx,nl,sd,fa,va,st,wy,us,ws,k _ _ h1 (fun _ z=>by cases z),k _ _ h2 (fun _ z=>by cases z),k _ _ h3 (fun _ z=>by cases z),k _ _ h4 (fun _ z=>by cases z),k _ _ h5 (fun _ z=>by cases z),k _ _ h6 (fun _ z=>by cases z),h7,k _ _ h8 (fun _ z=>by cases z),xR k _ _ h9,N4,k _ _ Kg (fun _ z=>by cases z),fun i hi=>let ⟨q,e,r⟩:=N5 i hi;⟨q,e,r.kp k⟩⟩⟩
theorem cQ.kp{a:zdv}{row:Int}{vals:List Int}(h:cQ K H a row vals)(k:Kp H H'):cQ K H' a row vals:=by obtain⟨va,h1,h2⟩:=h;exact⟨va,h1.kp k,h2.kp k⟩
theorem TabOk.kp{qual:Str}{lp:Pos}{ps:Array zdw}(h:TabOk qual lp H ps)(k:Kp H H'):TabOk qual lp H' ps:=by
 rcases h with h |⟨c',oc,vs,tk,e,h1,h2,h3⟩
 ·exact .inl h
 ·exact .inr ⟨c',oc,vs,tk,e,k _ _ h1 (fun _ z=>by cases z),h2,h3⟩
theorem Kp.same(s:aq H H'):Kp H H':=fun b o e _=>s b o e
end
theorem FO{a b:List (List Int×List bh)}:aZ (a++b)=aZ a++aZ b:=zbf
end L2
namespace L2
open PG
open PySem PySem.Spec PyProof.Rows
abbrev bf (pr:PG.Prog):bh:=(bg pr.body 0,pr.aA.map (·.first))
section
variable(P:zdH)(w:zdx)(K:zaa)(CC:zdv)
def BP (Pt:zdv):Sp:=fun vs H Q _=>∃(a:zdv) (ns:List Int),vs=[.ref a]/\jc K H a (ns.map V.int)/\ns.length<=63/\H Pt=some (.nT #[])/\∀H',Q (.bl true) H'
end
theorem TabOk.up{H H':Hp}{qual:Str}{lp:Pos}{ps:Array zdw}(h:TabOk qual lp H ps)(k:∀b φ,H b=some (.ext φ)->H' b=some (.ext φ)):TabOk qual lp H' ps:=by
 rcases h with h |⟨c',oc,vs,tk,e,h1,h2,h3⟩
 ·exact .inl h
 ·exact .inr ⟨c',oc,vs,tk,e,k _ _ h1,h2,h3⟩
theorem Hn{led:bh->List bh}{S:bh->Prop}(li:∀s,S s->∀x∈led s,S x){n:Nat}:∀(m k:Nat) (f:jb) (as:List (List Int×List bh)),yM S f->uX S k as->yM S (pB led n m f as)
 |0,_,f,as,h,_=>h
 |m+1,k,f,as,h,h2=>by
  rw[pB];split
  ·exact h
  ·have:=mZ li (n:=n) (m:=k+1) (aZ as) f h (ji h2);exact Hn li m (k+1) _ _ this.1 this.2.1
theorem yQ{pr:PG.Prog}(d:dO pr):yM (c8 pr) (aK pr (bf pr)):=by
 have li:∀s,c8 pr s->∀x∈aY pr s,c8 pr x:=fun s h=>uV d h;have:=qj li (m:=0) (aM pr+1) [] (bf pr) [] .nil (c8.first d) (zag _);exact Hn li _ 0 _ _ this.1 this.2.1
section
variable{prog:zdH}{w:zdx}{A:zdG}{E:zdw->zdF->Prop}{s:zdF}{d it:zdv}{es:Array DictEntry}{ep i:Nat}
theorem DL(d:zdv)(hd:(d==sysModules)=false) :
 MeetsIn prog w (Builtin.«dict.items» ⟨[.ref d],[]⟩) (fun _ R s=>(∃es ep,j4 s.heap d es ep)/\R (.ok (.ret (.ref s.heap.objs.size))) {s with heap:=s.heap.push {cls:=.type "dict_items",data:=.fields #[.ref d]} }):=
 .of_wp fun A R s ⟨⟨es,ep,en⟩,h⟩=>by
  unfold Builtin.«dict.items»;refine zdy ?_;unfold Builtin.Dict.noArgs;refine zdy (wpAny_notOrdered_dict en.ty ?_);show wpAny _ _ (pure d) _ _ s;refine zdz ?_;show wpAny _ _ (Builtin.Dict.showsAll d >>= _) _ _ s;unfold Builtin.Dict.showsAll;rw[if_neg (by rw[hd];exact zai)];refine zdy (zdz ?_);exact zdy (wpAny_newObj_type (zdz ⟨_,rfl,h⟩))
theorem Jh{v:zdv}{Q:zdw->zdF->Prop}(hv:s.heap.IsItemsView v d)(en:j4 s.heap d es ep)
 (q:Q (.ref s.heap.objs.size) {s with heap:=s.heap.push {cls:=.type "dict_itemiterator",data:=.fields #[.none,.bool false,.ref d,.int 0 0,.int es.size 0,.int ep 0,.none,.none]} }) :
 wpAny (model prog w) A (pyIter (.ref v)) Q E s:=by
 obtain⟨ov,gv,cv,dv⟩:=id hv;obtain⟨o,ho,hc,dt⟩:=id en;refine wpAny_pyIter_slot hv.typeIs F.slot_dict_items_iter (wpAny_call_entry F.slot_dict_items_iter hv.typeIs F.entry_dict_items_iter ?_ (F.args_dict_items_iter_1 _));unfold Builtin.«dict_items.__iter__»;refine zdy (zdz (zdy ?_));unfold Builtin.Dict_items.dictOf;refine zdy (wpAny_field gv dv (x:=.ref d) rfl (zdz (zdy ?_)));unfold Builtin.Dict_items.newIterator;refine zdy (wpAny_dictEntries ho dt (zdy (wpAny_dictEpoch ho dt ?_)));have ow:Builtin.Dict_items.ownsTuple "dict_itemiterator"=true:=by decide
 simp only[ow,if_true];refine wpAny_newObj_type (zdz ⟨_,rfl, "dict_itemiterator",_,⟨_,Heap.get?_push_size _ rfl,rfl⟩,F.slot_dict_itemiterator_next.lookup,?_⟩)
  (by simp only[sizeOk,Builtin.Dict_items.ownedTupleFields,zau,zaf,zap,zaQ,sizeLine_eq];omega)
 simpa[rawInt,Builtin.Dict_items.ownedTupleFields] using q
theorem Ji{ok ov:zdw}{Q:Option zdw->zdF->Prop}(st:IsItemIter s.heap it d i es.size ep ok ov)(en:j4 s.heap d es ep)(li:i<es.size)
 (q:∀h',IsItemIterOut h' it d (i+1) es.size ep es[i].key es[i].val s.heap.objs.size->h'.get? s.heap.objs.size=some {cls:=.type "tuple",data:=.seq #[es[i].key,es[i].val]}->h'.objs.size=s.heap.objs.size+1->
  (∀b o,b≠it->s.heap.get? b=some o->h'.get? b=some o)->Q (some (.ref s.heap.objs.size)) {s with heap:=h' }) :
 wpAny (model prog w) A (pyNext (.ref it)) Q E s:=by
 obtain⟨hp,g,dr,tk,os⟩:=s;obtain⟨od,Dz,cod,WD⟩:=id en;have hT:Shared.TypeIs ⟨hp,g,dr,tk,os⟩ (.ref it) "dict_itemiterator":=⟨_,st,rfl⟩
 unfold pyNext;refine zdy (wpAny_attempt (wpAny_callSpecial?_slot (name:=zac "__next__") hT F.slot_dict_itemiterator_next (wpAny_call_entry F.slot_dict_itemiterator_next hT F.entry_dict_itemiterator_next ?_ (F.args_dict_itemiterator_next_1 _))));refine zdy (zdz (zdy (zdy ?_)));refine zdy (wpAny_typeNameOfWhole_itemiter hT (zdz (zdy (wpAny_fieldsOf st rfl ?_))));have ow:Builtin.Dict_items.ownsTuple "dict_itemiterator"=true:=by decide
 simp only[ow,if_true];show wpAny _ _ (if (Value.ref d==Value.none)=true then _ else _) _ _ _;rw[if_neg (show ¬((Value.ref d==Value.none)=true) from zai)];refine zdy (zdz (zdy (wpAny_dictEntries Dz WD ?_)));rw[if_neg (by simp)];refine zdy (zdz (zdy (wpAny_dictEpoch Dz WD ?_)));rw[if_neg (by simp)];refine zdz ?_;simp only[show ¬((i:Int)<0) from by first|decide|omega,if_false,zaU,zbF li];refine zdy (zdy (wpAny_typeNameOfWhole_itemiter hT (zdz (zdy (wpAny_isOneOf_itemiter hT ?_)))));show wpAny _ _ (setField (.ref it) 3 (rawInt ((i:Int)+1)) >>= _) _ _ ⟨hp,g,dr,tk,os⟩;refine zdy (wpAny_setField_rec st (by simp) fun ga ea sa=>?_);replace sa:Heap.SameBut it hp ga:=sa;replace ea:IsItemIter ga it d (i+1) es.size ep ok ov:=by
  have e:((i+1:Nat):Int)=(i:Int)+1:=by first|decide|omega
  unfold IsItemIter;rw[e];simpa[rawInt] using ea
 have ta:Shared.TypeIs ⟨ga,g,dr,tk,os⟩ (.ref it) "dict_itemiterator":=⟨_,ea,rfl⟩
 refine zdy (zdA (zdy (wpAny_isOneOf_itemiter ta (zdy (wpAny_isOneOf_itemiter ta ?_)))));show wpAny _ _ (Builtin.Dict_items.pairFromOwner (.ref it) 6 es[i].key es[i].val) _ _ ⟨ga,g,dr,tk,os⟩;unfold Builtin.Dict_items.pairFromOwner;refine zdy (wpAny_newTuple ?_);have eb:IsItemIter (ga.push {cls:=.type "tuple",data:=.seq #[es[i].key,es[i].val]}) it d (i+1) es.size ep ok ov:=Heap.get?_push_of_some _ ea;generalize qb:ga.push {cls:=.type "tuple",data:=.seq #[es[i].key,es[i].val]}=gb at eb;have za:ga.objs.size=hp.objs.size:=sa.1;have lti:it<hp.objs.size:=Heap.lt_size st;have tb:gb.get? hp.objs.size=some {cls:=.type "tuple",data:=.seq #[es[i].key,es[i].val]}:=by rw[<- qb,<- za];exact Heap.get?_push_size _ rfl
 have zb:gb.objs.size=hp.objs.size+1:=by rw[<- qb,Heap.size_push,za]
 have kb:∀b o,b≠it->hp.get? b=some o->gb.get? b=some o:=fun b o hb e=>by rw[<- qb];exact Heap.get?_push_of_some _ (sa.extBut b o hb e)
 show wpAny _ _ (Builtin.Dict_items.ownedTupleIsFree (.ref it) >>= _) _ _ ⟨gb,g,dr,tk,os⟩;rw[za];clear qb ea sa ta za ga;refine zdy ?_;unfold Builtin.Dict_items.ownedTupleIsFree;refine zdy (wpAny_field eb rfl (x:=.none) rfl (zdz ?_));simp only[if_true];refine zdy (wpAny_field eb rfl (x:=ok) rfl (zdy (wpAny_field eb rfl (x:=ov) rfl ?_)));refine zdy (wpAny_setField_rec eb (by simp) fun gc ec sc=>?_);replace ec:IsItemIter gc it d (i+1) es.size ep es[i].key ov:=ec;refine zdy (wpAny_setField_rec ec (by simp) fun gd ed sd=>?_);replace ed:IsItemIter gd it d (i+1) es.size ep es[i].key es[i].val:=ed;refine zdy (wpAny_setField_rec ed (by simp) fun ge ee se=>?_);replace ee:IsItemIterOut ge it d (i+1) es.size ep es[i].key es[i].val hp.objs.size:=ee;refine zdy (wpAny_setField_rec ee (by simp) fun gf ef sf=>?_);replace ef:IsItemIterOut gf it d (i+1) es.size ep es[i].key es[i].val hp.objs.size:=ef;have all:∀b o,b≠it->gb.get? b=some o->gf.get? b=some o:=fun b o hb e=>sf.extBut b o hb (se.extBut b o hb (sd.extBut b o hb (sc.extBut b o hb e)));refine zdy (wpAny_letGo (zdz (zdz ⟨_,rfl,zdz (q gf ef (all _ _ (zbI lti) tb) ?_ fun b o hb e=>all b o hb (kb b o hb e))⟩)));show gf.objs.size=hp.objs.size+1;rw[sf.1,se.1,sd.1,sc.1];exact zb
theorem Mz{ok ov:zdw}{Q:Option zdw->zdF->Prop}(hA:A.handled=none)(st:IsItemIter s.heap it d i es.size ep ok ov)(en:j4 s.heap d es ep)(li:es.size<=i)
 (q:∀h',Heap.ExtBut it s.heap h'->Q none {s with heap:=h' }):wpAny (model prog w) A (pyNext (.ref it)) Q E s:=by
 obtain⟨od,Dz,cod,WD⟩:=id en;have hT:s.TypeIs (.ref it) "dict_itemiterator":=⟨_,st,rfl⟩
 unfold pyNext;refine zdy (wpAny_attempt (wpAny_callSpecial?_slot (name:=zac "__next__") hT F.slot_dict_itemiterator_next (wpAny_call_entry F.slot_dict_itemiterator_next hT F.entry_dict_itemiterator_next ?_ (F.args_dict_itemiterator_next_1 _))));refine zdy (zdz (zdy (zdy ?_)));refine zdy (wpAny_typeNameOfWhole_itemiter hT (zdz (zdy (wpAny_fieldsOf st rfl ?_))));have ow:Builtin.Dict_items.ownsTuple "dict_itemiterator"=true:=by decide
 simp only[ow,if_true];show wpAny _ _ (if (Value.ref d==Value.none)=true then _ else _) _ _ s;rw[if_neg (show ¬((Value.ref d==Value.none)=true) from zai)];refine zdy (zdz (zdy (wpAny_dictEntries Dz WD ?_)));rw[if_neg (by simp)];refine zdy (zdz (zdy (wpAny_dictEpoch Dz WD ?_)));rw[if_neg (by simp)];refine zdz ?_;simp only[show ¬((i:Int)<0) from by first|decide|omega,if_false,zaU,zci li];refine zdy (zdy (wpAny_typeNameOfWhole_itemiter hT (zdz ?_)));show wpAny _ _ (setField (.ref it) 2 .none >>= _) _ _ s;refine zdy (wpAny_setField st rfl (by simp) ?_);show wpAny _ _ (newExc (.type "StopIteration") [] >>= _) _ _ _;refine zdy ?_;simp only[newExc,newTuple];refine zdy (wpAny_newObj_type (zdy (m:=firstArgMember _ _) (wpAny_of_eq (a:=Value.none) (by first |rfl |(simp only[firstArgMember];rfl)) (wpAny_newObj_type ?_ (by size_fits)))) (by size_fits));simp only[raiseNew];refine zdy (wpAny_handled ?_);rw[show A.in1.handled=none from hA];refine zdy (zdz (wpAny_throw (zdy ?_)));refine wpAny_isInstance (T:="StopIteration") (b:=true) ⟨_,Heap.get?_push_size _ rfl,rfl⟩ isSubtype_stop ?_;exact zdz (q _ (((Heap.SameBut.update ..).extBut.push _).push _))
end
def EV (ps:List (zdv×V)) (es:Array DictEntry):Prop:=Paired (fun (p:zdv×V) (e:DictEntry)=>e.key=.ref p.1/\RelV p.2 e.val) ps es.toList
theorem EV.size{ps:List (zdv×V)}{es:Array DictEntry}(h:EV ps es):es.size=ps.length:=by rw[<- zb1];exact(Paired.length h).symm
theorem EV.at{ps:List (zdv×V)}{es:Array DictEntry}(h:EV ps es){i:Nat}(hi:i<es.size):∃b v,ps[i]?=some (b,v)/\es[i].key=.ref b/\RelV v es[i].val:=by
 obtain⟨⟨b,v⟩,e,e2⟩:=c0 h (i:=i) (v:=es[i]) (by rw[za9,zbF hi]);exact⟨b,v,e,e2.1,e2.2⟩
def Rk (d:zdv) (o:Obj) (ps:List (zdv×V)):It:=
 ⟨fun i H=>H d=some (cO d o)/\i<ps.length,fun i H x H'=>H'=H/\∃b v,x=.ref b/\ps[i]?=some (b,v),fun i H=>H d=some (cO d o)/\ps.length<=i⟩
def Itm (d:zdv) (o:Obj) (ps:List (zdv×V)):It:=
 ⟨fun i H=>H d=some (cO d o)/\i<ps.length,fun i H x H'=>∃p b v,x=.ref p/\H p=none/\H'=upd H p (.tup [.ref b,v])/\ps[i]?=some (b,v),fun i H=>H d=some (cO d o)/\ps.length<=i⟩
theorem A7{P:zdH}{w:zdx}{K:zaa}{tg:Expr}{d it:zdv}{o:Obj}{ps:List (zdv×V)}{es:Array DictEntry}{ep:Nat}(hx:o.ExactDict)(hd:o.data=.dict es ep)(ev:EV ps es) :
 Turn P w K tg (Rk d o ps) [it] it (fun i h=>h.IsKeyIter it d i es.size ep) where
 mem:=by simp
 obj:=fun i h st b hb=>by
  obtain⟨oi,eo,c,dd⟩:=st;have z:b=it:=by simpa using hb
  subst z;exact⟨oi,eo,fun v z=>by rw[dd] at z;cases z⟩
 keep:=fun i h h' st k=>st.at fun o x=>k it (by simp) o x
 item:=by
  intro X hP hw hK hc i pins s σ H E I hf st hg;subst hP hw hK;obtain⟨hH,hi⟩:=hg;rw[<- ev.size] at hi;obtain⟨f0,f1,f2,f3,f4,f5⟩:=hf it (by simp);obtain⟨b,v,e1,e2,_⟩:=ev.at hi;refine Me st ⟨o,cO.get I.bX hH,hx,hd⟩ hi fun h' C2 sb=>?_;obtain⟨oi,eo,c,dd⟩:=id C2;refine⟨_,rfl,GB (s:={s with heap:=h' }) (n:="dict_keyiterator") eo c dd (by decide) ⟨.ref b,H,I.turned (t':=s.toks) (fun b o hb e=>sb.extBut b o hb e) f0 f1 f3 f4 f5,e2,⟨rfl,b,v,rfl,e1⟩,C2,fun b hb=>(hf b hb).1⟩⟩
 done:=by
  intro X hP hw hK hc i pins s σ H E I hf st hg;subst hP hw hK;obtain⟨hH,hi⟩:=hg;rw[<- ev.size] at hi;obtain⟨f0,f1,f2,f3,f4,f5⟩:=hf it (by simp);exact Pl (I.ok.hd hc) st ⟨o,cO.get I.bX hH,hx,hd⟩ hi fun h' eb=>⟨rfl,I.turned (t':=s.toks) (fun b o hb e=>eb b o hb e) f0 f1 f3 f4 f5⟩
 self:=fun _ _ _ _ _ st h=>wpAny_pyIter_keyiter st h
theorem FP{P:zdH}{w:zdx}{K:zaa}{elts:List Expr}{x1}{pos:Pos}{d it:zdv}{o:Obj}{ps:List (zdv×V)}{es:Array DictEntry}{ep:Nat}(hx:o.ExactDict)(hd:o.data=.dict es ep)(ev:EV ps es) :
 Turn P w K (.Tuple elts x1 pos) (Itm d o ps) [it] it (fun i h=>∃ok ov,IsItemIter h it d i es.size ep ok ov) where
 mem:=by simp
 obj:=fun i h st b hb=>by
  obtain⟨ok,ov,he⟩:=st;have z:b=it:=by simpa using hb
  subst z;exact⟨_,he,fun v z=>by cases (show Data.fields _=Data.cell v from z)⟩
 keep:=fun i h h' st k=>let ⟨ok,ov,he⟩:=st;⟨ok,ov,k it (by simp) _ he⟩
 item:=by
  intro X hP hw hK hc i pins s σ H E I hf st hg;subst hP hw hK;obtain⟨hH,hi⟩:=hg;rw[<- ev.size] at hi;obtain⟨b,v,e1,e2,rv⟩:=ev.at hi;obtain⟨ok,ov,he⟩:=st;refine Ji he ⟨o,cO.get I.bX hH,hx,hd⟩ hi fun h' ho hT hsz hk=>?_;refine⟨_,rfl,?_⟩;refine wpAny_letOwnedTupleGo_items ho fun h2 N1 sb=>?_;have GY:it<s.heap.objs.size:=Heap.lt_size he;have I1:Inv X pins σ H {s with heap:=h2,toks:=s.toks}:=I.qS (t':=s.toks) (fun b o hb q=>(sb.2 b fun z=>hb (by simp[z])).trans (hk b o (fun z=>hb (by simp[z])) q)) hf;have fr:H s.heap.objs.size=none:=I.bX.fresh (zag _);obtain⟨g0,g1,g2,g3,g4,g5⟩:=I.Br (zag _) fr;have OU:h2.get? s.heap.objs.size=some {cls:=.type "tuple",data:=.seq #[es[i].key,es[i].val]}:=(sb.2 _ (zbI GY)).trans hT;rw[e2] at OU;have I2:=I1.told (o:=.tup [.ref b,v]) fr I.sz g1 g4 g5 ⟨(show (2:Nat)<=zdD by decide),[.ref b,es[i].val],.cons rfl (.cons rv .nil),⟨_,OU,rfl,_,rfl⟩⟩;refine⟨.ref s.heap.objs.size,_,I2,rfl,⟨_,b,v,rfl,fr,rfl,e1⟩,⟨_,_,N1⟩,fun c hb=>?_⟩;have z:c=it:=by simpa using hb
  subst z;rw[au (zaD GY)];exact(hf c hb).1
 done:=by
  intro X hP hw hK hc i pins s σ H E I hf st hg;subst hP hw hK;obtain⟨hH,hi⟩:=hg;rw[<- ev.size] at hi;obtain⟨ok,ov,he⟩:=st;exact Mz (I.ok.hd hc) he ⟨o,cO.get I.bX hH,hx,hd⟩ hi fun h' eb=>⟨rfl,I.qS (t':=s.toks) (fun b o hb q=>eb b o (fun z=>hb (by simp[z])) q) hf⟩
 self:=fun _ _ _ _ _ st h=>let ⟨_,_,he⟩:=st;PySem.W.kcp_self he h
section
variable{prog:zdH}{w:zdx}{κ:Type}[DecidableEq κ]{knd:HeapKind prog w κ}{A:zdG}{E:zdw->zdF->Prop}{s:zdF}
theorem PC{d a:zdv}{xs:List (κ×zdv×zdw)}{k:κ}{v:zdw}{Q:zdw->zdF->Prop}(hu:knd.room A)(E3:knd.is s.heap k a)(hm:s.heap.DictOfH knd d xs)(hsz:xs.length<=zdD)
 (h1:∀p,atKey xs k=some p->Q p.2 {s with toks:=s.toks+knd.draws k})
 (h2:atKey xs k=none->∀h',h'.DictOfH knd d (storedH xs k a v)->Heap.SameBut d s.heap h'->Q v {s with heap:=h',toks:=s.toks+knd.draws k}) :
 wpAny (model prog w) A (dictSetDefault d (.ref a) v) Q E s:=by
 obtain⟨o,es,ep,ho,hc,hd,he,Yr,hn⟩:=hm;unfold dictSetDefault
 try with_reducible refine zdA ?_
 refine zdy (knd.pyHash hu E3 (zdy (wpAny_dictFind_heap (s:={s with toks:=s.toks+knd.draws k}) hu E3 ho hd he Yr hn ?_ ?_)))
 ·intro WE;have aax:k ∉ xs.map (·.1):=not_mem_keys_of_get WE;refine zdy (wpAny_rule (zdy (wpAny_updateDictKeys (hz:=by have e:=size_of_entries he;omega) (s:={s with toks:=s.toks+knd.draws k}) ho hd (zdz (h2 (atKey_none_of_get WE) _ ⟨_,_,ep+1,Heap.get?_update_self _ ho (Obj.isFreed_of_dict (Obj.data_mapDictKeys hd _)),
   hc.mapDictKeys _,Obj.data_mapDictKeys hd _,?_,?_,?_⟩ (Heap.SameBut.update ..))))))
  ·rw[storedH_new (atKey_none_of_get WE)];simp[he,entryOfKey]
  ·rw[storedH_new (atKey_none_of_get WE)];intro x hx;rcases zak.mp hx with hx |hx
   ·exact knd.keeps (Yr x hx) ho hd (Heap.SameBut.update ..)
   ·simp only[zab] at hx;subst hx;exact knd.keeps E3 ho hd (Heap.SameBut.update ..)
  ·rw[storedH_new (atKey_none_of_get WE),zat,za6];refine⟨hn,by simp,?_⟩;intro x hx y hy;simp only[zaq,zaW,zab] at hy;subst hy;exact fun e=>aax (e▸hx)
 ·intro j p hj;refine zdy (wpAny_dictEntries (s:={s with toks:=s.toks+knd.draws k}) ho hd ?_);rw[entry_at he j,hj];exact zdy (wpAny_rule (zdz (h1 p (atKey_of_get hn hj))))
theorem BQ{d a:zdv}{k:κ}{v:zdw}(hd:(d==sysModules)=false) :
 MeetsIn prog w (Builtin.«dict.setdefault» ⟨[.ref d,.ref a,v],[]⟩) (fun A R s=>∃xs,knd.room A.in1/\knd.is s.heap k a/\s.heap.DictOfH knd d xs/\xs.length<=zdD/\
  (∀p,atKey xs k=some p->R (.ok (.ret p.2)) {s with toks:=s.toks+knd.draws k})/\
  (atKey xs k=none->∀h',h'.DictOfH knd d (storedH xs k a v)->Heap.SameBut d s.heap h'->R (.ok (.ret v)) {s with heap:=h',toks:=s.toks+knd.draws k})):=
 .of_wp fun A R s ⟨xs,hu,E3,hm,hz,h1,h2⟩=>by
  unfold Builtin.«dict.setdefault»;refine zdy ?_;unfold Builtin.Dict.keyAndDefault;refine zdy (wpAny_notOrdered_dict hm.typeIs ?_);show wpAny _ _ (pure (d,Value.ref a,some v)) _ _ s;refine zdz ?_;show wpAny _ _ (if (d==sysModules)=true then _ else (dictSetDefault d (.ref a) v >>= _)) _ _ s;rw[if_neg (by rw[hd];exact zai)];exact zdy (PC hu E3 hm hz (fun p hp=>zdz ⟨p.2,rfl,h1 p hp⟩) fun hn h' hm' WG=>zdz ⟨v,rfl,h2 hn h' hm' WG⟩)
end
section
variable{κ:Type}[DecidableEq κ](J:KH κ)
structure Fz(P:zdH)(w:zdx)(K:zaa)(H:Hp)(d:zdv)(kvs:List (κ×V))(o:Obj):Prop where
 len:kvs.length<=zdD
 sys:(d==sysModules)=false
 at_:∃xs,(∀h:Heap,h.get? d=some o->eS J P w d xs h)/\KS J K H kvs xs/\(xs.map (·.1)).Nodup
def xx (K:zaa) (H:Hp) (kvs:List (κ×V)) (ps:List (zdv×V)):Prop:=Paired (fun (kv:κ×V) (p:zdv×V)=>J.on K H kv.1 p.1/\p.2=kv.2) kvs ps
def Rl (P:zdH) (w:zdx) (K:zaa) (tl:TE):TI:=fun σ H R=>tl σ H fun x H1=>∃d kvs,x=.ref d/\DS J P w K H1 d kvs/\∀o ps,Fz J P w K H1 d kvs o->xx J K H1 kvs ps->R (Rk d o ps) (upd H1 d (cO d o))
def lJ (p d:zdv):Heap->Prop:=fun h=>h.IsItemsView p d
def MA (P:zdH) (w:zdx) (K:zaa) (to:TE):TE:=fun σ H Q=>to σ H fun x H1=>∃d kvs,x=.ref d/\DS J P w K H1 d kvs/\∀p,H1 p=none->Q (.ref p) (upd H1 p (.ext (lJ p d)))
def MB (P:zdH) (w:zdx) (K:zaa) (tl:TE):TI:=fun σ H R=>tl σ H fun x H1=>∃p d kvs,x=.ref p/\H1 p=some (.ext (lJ p d))/\DS J P w K H1 d kvs/\∀o ps,Fz J P w K H1 d kvs o->xx J K H1 kvs ps->R (Itm d o ps) (upd H1 d (cO d o))
def Rm (P:zdH) (w:zdx) (K:zaa) (to:TE) (t:TA):TE:=fun σ H Q=>to σ H fun x H1=>∃a,x=.ref a/\(∃kvs,DS J P w K H1 a kvs)/\t σ H1 fun vs H2=>∃b kvs k v,vs=[.ref b,v]/\DS J P w K H2 a kvs/\J.on K H2 k b/\kvs.length<zdD/\
 (∀u,bL kvs k=some u->Q u H2)/\(bL kvs k=none->∀H3,DS J P w K H3 a (putK kvs k v)->(∃φ,H3=upd H2 a (.ext φ))->Q v H3)
variable{J}
theorem MC{P:zdH}{w:zdx}{K:zaa}{H:Hp}:∀ {kvs:List (κ×V)} {xs:List (κ×zdv×zdw)},KS J K H kvs xs->∃ps,xx J K H kvs ps/\Paired (fun (p:zdv×V) (e:DictEntry)=>e.key=.ref p.1/\RelV p.2 e.val) ps (xs.map (entryOfKey (J.knd P w)))
 |[],_,h=>by cases h;exact⟨[],.nil,.nil⟩
 |(k,v)::r,_,h=>by
  cases h with
  |cons a b=>
   obtain⟨ps,p1,p2⟩:=MC (P:=P) (w:=w) b;exact⟨(_,v)::ps,.cons ⟨a.2.1,rfl⟩ p1,.cons ⟨rfl,a.2.2⟩ p2⟩
section
variable{X:Cx}{tg l e e1 e2:Expr}{es:List Expr}{tl te to:TE}{ta:TA}{pins:List (zdv×Obj)}{σ:St}{H:Hp}{s:zdF}{apos gX:Pos}
theorem freeze{d:zdv}{kvs:List (κ×V)}(I:Inv X pins σ H s)(ds:DS J X.prog X.w X.K H d kvs):∃o es ep ps,s.heap.get? d=some o/\o.ExactDict/\o.data=.dict es ep/\EV ps es/\Fz J X.prog X.w X.K H d kvs o/\xx J X.K H kvs ps/\Inv X pins σ (upd H d (cO d o)) s:=by
 obtain⟨z,sy,xs,e,rel,nd⟩:=ds;obtain⟨⟨o,es,ep,h1,h2,h3,h4⟩, -⟩:=(show du X.prog X.w H s.heap d (.ext (eS J X.prog X.w d xs)) from I.bX d _ e)
 obtain⟨ps,p1,p2⟩:=MC (P:=X.prog) (w:=X.w) rel;refine⟨o,es,ep,ps,h1,h2,h3,?_,⟨z,sy,xs,fun h eh=>⟨o,es,ep,eh,h2,h3,h4⟩,rel,nd⟩,p1,uJ (h':=s.heap) (t':=s.toks) I (by rw[e];exact True.intro) ⟨rfl,fun _ _=>rfl⟩ ⟨o,h1⟩ (cO.ok h1)⟩;unfold EV;rw[h4];exact p2
theorem MD(hl:PE X l tl):PI X tg l (Rl J X.prog X.w X.K tl):=by
 intro pins s σ H R I h;refine dE (hl pins s σ H _ I h) fun v s1 zqz=>?_;obtain⟨x,H1,I1,r1,q1⟩:=zqz;obtain⟨d,kvs,rfl,ds,q⟩:=q1;cases r1;obtain⟨o,es,ep,ps,h1,h2,h3,ev,fz,po,I2⟩:=freeze I1 ds;refine DG ds.sys ⟨o,h1,h2,h3⟩ ?_;have I3:=I2.kept (t':=s1.toks) (h':=s1.heap.push {cls:=.type "dict_keyiterator",data:=.fields #[.ref d,.int 0 0,.int es.size 0,.int ep 0]}) fun b o e=>Heap.get?_push_of_some _ e;refine⟨s1.heap.objs.size,[s1.heap.objs.size],_,Rk d o ps,_,rfl,I3,A7 h2 h3 ev,⟨_,Heap.get?_push_size _ rfl,rfl,rfl⟩,fun b hb=>?_,q o ps fz po⟩;have e:b=s1.heap.objs.size:=by simpa using hb
 subst e;exact I2.Br (zag _) (I2.bX.fresh (zag _))
theorem ME(ho:PE X e to)(yk:attributeBase e "items" X.env (eval e X.env)=eval e X.env:=by rfl)(ym:(apos.endLine==gX.line)=true:=by rfl):PE X (.Call (.Attribute e "items" apos) [] [] gX) (MA J X.prog X.w X.K to):=by
 intro pins s σ H Q I h;refine wpAny_Call_method0_late yk ym (dE (ho pins s σ H _ I h) fun v s1 zqz=>?_);obtain⟨x,H1,I1,r1,q1⟩:=zqz;obtain⟨d,kvs,rfl,ds,q⟩:=q1;cases r1;obtain⟨o,es,ep,ps,h1,h2,h3,ev,fz,po,I2⟩:=freeze I1 ds;refine⟨"dict", "dict.items",zbM,zc6,PySem.F.type_dict_items,⟨o,h1,h2.1⟩,fun a e2=>by cases e2;exact⟨o,h1,h2.2.1⟩,Calls.callWith_builtin rfl (PySem.evalArgs_none ?_)⟩;refine call_meetsIn zc6 ⟨o,h1,h2.1⟩ PySem.F.entry_dict_items (PySem.F.args_dict_items_1 _) (DL d ds.sys) ⟨⟨es,ep,o,h1,h2,h3⟩,?_⟩;refine⟨.ref s1.heap.objs.size,_,I1.laid (a:=s1.heap.objs.size) (o:=.ext (lJ s1.heap.objs.size d)) (t':=s1.toks) (fun _ _ q=>Heap.get?_push_of_some _ q) (zag _) ⟨⟨_,Heap.get?_push_size _ rfl,rfl,rfl⟩,⟨_,Heap.get?_push_size _ rfl⟩,fun g1 g2 p1 kp=>?_⟩,rfl,q _ (I1.bX.fresh (zag _))⟩;obtain⟨ob,e1,e2⟩:=p1;exact⟨ob,kp ob e1,e2⟩
theorem Jj{elts:List Expr}{x1}{tp:Pos}(hl:PE X l tl):PI X (.Tuple elts x1 tp) l (MB J X.prog X.w X.K tl):=by
 intro pins s σ H R I h;refine dE (hl pins s σ H _ I h) fun v s1 zqz=>?_;obtain⟨x,H1,I1,r1,q1⟩:=zqz;obtain⟨p,d,kvs,rfl,hp,ds,q⟩:=q1;cases r1;obtain⟨o,es,ep,ps,h1,h2,h3,ev,fz,po,I2⟩:=freeze I1 ds;have hv:s1.heap.IsItemsView p d:=(I1.bX p _ hp).1;refine Jh hv ⟨o,h1,h2,h3⟩ ?_;have I3:=I2.kept (t':=s1.toks) (h':=s1.heap.push {cls:=.type "dict_itemiterator",data:=.fields #[.none,.bool false,.ref d,.int 0 0,.int es.size 0,.int ep 0,.none,.none]}) fun b o e=>Heap.get?_push_of_some _ e;refine⟨s1.heap.objs.size,[s1.heap.objs.size],_,Itm d o ps,_,rfl,I3,FP h2 h3 ev,⟨_,_,Heap.get?_push_size _ rfl⟩,fun b hb=>?_,q o ps fz po⟩;have e:b=s1.heap.objs.size:=by simpa using hb
 subst e;exact I2.Br (zag _) (I2.bX.fresh (zag _))
theorem Jk(hu:X.A.units+16<cLine)(ho:PE X e to)(ha:PA X [e1,e2] ta)
 (yk:attributeBase e "setdefault" X.env (eval e X.env)=eval e X.env:=by rfl)
 (So:((backTo gX (zdB [e1,e2] X.env)).all (fun x=>!x.1)&&(backToKw gX (keywordEach [] X.env)).all (fun x=>x.1.isSome)
  && decide ([e1,e2].length+([]:List Keyword).length+(if ([]:List Keyword).isEmpty then 0 else 1)<30))=true:=by rfl)
 (ym:(apos.endLine==gX.line)=true:=by rfl) (hs:zdB [e1,e2] X.env=(false,eval e1 X.env)::zdB [e2] X.env:=by rfl) (Fc:(backTo gX (zdB [e2] X.env)).any (·.1)=false:=by rfl) :
 PE X (.Call (.Attribute e "setdefault" apos) [e1,e2] [] gX) (Rm J X.prog X.w X.K to ta):=by
 intro pins s σ H Q I h;refine wpAny_Call_method_late yk So ym rfl (dE (ho pins s σ H _ I h) fun v s1 zqz=>?_);obtain⟨x,H1,I1,r1,q1⟩:=zqz;obtain⟨d,rfl,⟨Ta,UI⟩,q⟩:=q1;cases r1;obtain⟨o,es,ep,ps,h1,h2,h3,ev,fz,po,I2⟩:=freeze I1 UI;refine⟨"dict", "dict.setdefault",zbM,zcI,PySem.F.type_dict_setdefault,⟨o,h1,h2.1⟩,fun a e2=>by cases e2;exact⟨o,h1,h2.2.1⟩,?_⟩;have hA:=ha gX pins s1 σ H1 _ I1 q;rw[hs] at hA ⊢;refine Calls.callWith_builtin (by show (false ||(backTo gX (zdB [e2] X.env)).any (·.1))=false;rw[Fc]<;>rfl) (Calls.evalArgs_plain ?_);refine dE hA fun us s2 zqz=>?_;obtain⟨vs,H2,I2,r2,q2⟩:=zqz;obtain⟨b,kvs,k,v,rfl,ds,hk,lt,w1,w2⟩:=q2;obtain⟨u,rfl,rv⟩:∃u,us=[.ref b,u]/\RelV v u:=by
  cases r2 with
  |cons ra rb=>
   cases rb with
   |cons rv rn=>
    cases rn;cases ra;exact⟨_,rfl,rv⟩
 have dd:=ds;obtain⟨z,sy,xs,e,rel,nd⟩:=dd;have D2:=xb I2 e rel nd;have hz:xs.length<=zdD:=by rw[<- Paired.length rel];exact z
 have rl:=rel.val k;refine call_meetsIn zcI D2.typeIs PySem.F.entry_dict_setdefault (PySem.F.args_dict_setdefault_3 _ _ _) (BQ (knd:=J.knd X.prog X.w) (k:=k) sy) ⟨xs,J.room hu,J.of I2 hk,D2,hz,fun p hp=>?_,fun hn h' QX hs=>?_⟩
 ·rw[hp] at rl;cases hv:bL kvs k with
  |none=>rw[hv] at rl;exact rl.elim
  |some y=>
   rw[hv] at rl;exact⟨y,H2,I2.tok _,rl,w1 y hv⟩
 ·have hv:bL kvs k=none:=by
   rw[hn] at rl;cases hv:bL kvs k with
   |none=>rfl
   |some y=>rw[hv] at rl;exact rl.elim
  obtain⟨q,es,ep,hq,g2,g3,g4,_,g5⟩:=QX;have ph:eS J X.prog X.w d (storedH xs k b u) h':=⟨q,es,ep,hq,g2,g3,g4⟩
  have hl:(putK kvs k v).length<=zdD:=by have:=dX kvs k v;lia
  refine⟨v,upd H2 d (.ext (eS J X.prog X.w d (storedH xs k b u))),uJ I2 (by rw[e];exact True.intro) hs ⟨q,hq⟩ ⟨ph,⟨q,hq⟩,fun g1 g2 p1 kp=>?_⟩,rv,w2 hv _ ⟨hl,sy,_,ah,(rel.put k hk rv).up fun c ys ec=>ec.ext e,g5⟩ ⟨_,rfl⟩⟩;obtain⟨ob,es,ep,h1,h2,h3,h4⟩:=p1;exact⟨ob,es,ep,kp ob h1,h2,h3,h4⟩
end
end
theorem qk{wi:TI}{g:TG}{tb:TS}{D:Ends}{σ:St}{H:Hp} (h:∀U:It->Hp->Prop,(∀J H1,(∃W:Nat->Nat->St->Hp->Prop,(∃m,W 0 m σ H1)/\∀i m σ H,W i m σ H->
 (J.stop i H/\D.nx σ H)\/(J.go i H/\∃N:St->Hp->Prop,(∀σ' H',N σ' H'->∃m',m'<m/\W (i+1) m' σ' H')/\∀x H',J.Ik i H x H'->g x σ H' fun σ2 H2=>tb {D with nx:=N,ct:=N,bk:=D.nx} σ2 H2))->U J H1)->wi σ H U):Oq wi g tb D σ H:=h _ fun _ _ x=>x
theorem PD{d:zdv}{o:Obj}{ps:List (zdv×V)}{g:TG}{tb:TS}{D:Ends}{σ:St}{H:Hp}(Pv:Nat->St->Hp->Prop)(h0:Pv 0 σ H)(hl:∀i σ H,i<=ps.length->Pv i σ H->H d=some (cO d o))
 (hs:∀i b v σ H p,ps[i]?=some (b,v)->Pv i σ H->H p=none->g (.ref p) σ (upd H p (.tup [.ref b,v])) fun σ2 H2=>tb {D with nx:=Pv (i+1),ct:=Pv (i+1),bk:=D.nx} σ2 H2) (hd:∀σ H,Pv ps.length σ H->D.nx σ H) :
 ∃W:Nat->Nat->St->Hp->Prop,(∃m,W 0 m σ H)/\∀i m σ H,W i m σ H->
  ((Itm d o ps).stop i H/\D.nx σ H)\/((Itm d o ps).go i H/\∃N:St->Hp->Prop,(∀σ' H',N σ' H'->∃m',m'<m/\W (i+1) m' σ' H')/\∀x H',(Itm d o ps).Ik i H x H'->g x σ H' fun σ2 H2=>tb {D with nx:=N,ct:=N,bk:=D.nx} σ2 H2):=by
 refine⟨fun i m σ H=>m=ps.length-i/\i<=ps.length/\Pv i σ H,⟨ps.length,by simp,zaK _,h0⟩,?_⟩
 rintro i m σ H ⟨rfl,hi,p⟩
 have q:=hl i σ H hi p;by_cases rV:i<ps.length
 ·refine .inr ⟨⟨q,rV⟩,Pv (i+1),fun σ' H' p'=>⟨ps.length-(i+1),by lia,rfl,rV,p'⟩,fun x H' y=>?_⟩;obtain⟨pp,b,v,rfl,hn,rfl,e⟩:=y;exact hs i b v σ H pp e p hn
 ·have e:i=ps.length:=by lia
  subst e;exact .inl ⟨⟨q,zag _⟩,hd σ H p⟩
theorem xS{d:zdv}{o:Obj}{ps:List (zdv×V)}{g:TG}{tb:TS}{D:Ends}{σ:St}{H:Hp}(Pv:Nat->St->Hp->Prop)(h0:Pv 0 σ H)(hl:∀i σ H,i<=ps.length->Pv i σ H->H d=some (cO d o))
 (hs:∀i b v σ H,ps[i]?=some (b,v)->Pv i σ H->g (.ref b) σ H fun σ2 H2=>tb {D with nx:=Pv (i+1),ct:=Pv (i+1),bk:=D.nx} σ2 H2) (hd:∀σ H,Pv ps.length σ H->D.nx σ H) :
 ∃W:Nat->Nat->St->Hp->Prop,(∃m,W 0 m σ H)/\∀i m σ H,W i m σ H->
  ((Rk d o ps).stop i H/\D.nx σ H)\/((Rk d o ps).go i H/\∃N:St->Hp->Prop,(∀σ' H',N σ' H'->∃m',m'<m/\W (i+1) m' σ' H')/\∀x H',(Rk d o ps).Ik i H x H'->g x σ H' fun σ2 H2=>tb {D with nx:=N,ct:=N,bk:=D.nx} σ2 H2):=by
 refine⟨fun i m σ H=>m=ps.length-i/\i<=ps.length/\Pv i σ H,⟨ps.length,by simp,zaK _,h0⟩,?_⟩
 rintro i m σ H ⟨rfl,hi,p⟩
 have q:=hl i σ H hi p;by_cases rV:i<ps.length
 ·refine .inr ⟨⟨q,rV⟩,Pv (i+1),fun σ' H' p'=>⟨ps.length-(i+1),by lia,rfl,rV,p'⟩,fun x H' y=>?_⟩;obtain⟨rfl,b,v,rfl,e⟩:=y;exact hs i b v σ H' e p
 ·have e:i=ps.length:=by lia
  subst e;exact .inl ⟨⟨q,zag _⟩,hd σ H p⟩
theorem Tb{κ:Type}[DecidableEq κ]{J:KH κ}{P:zdH}{w:zdx}{a:zdv}{oc:Obj}{vs:Array zdw}{xs:List (κ×zdv×zdw)}(hd:oc.data=.fields vs):cO a oc≠.ext (eS J P w a xs):=by
 intro h;have e:=HO.ext.inj h;have g:Heap.get? ⟨zc9 (a+1) oc,{}⟩ a=some oc:=by
  obtain⟨c,d,dt,sl⟩:=oc;cases (show dt=_ from hd);unfold Heap.get?;rw[Array.getElem?_replicate,if_pos (zcm a)]
 have f:=congrFun e ⟨zc9 (a+1) oc,{}⟩;have k:eS J P w a xs ⟨zc9 (a+1) oc,{}⟩:=by rw[<- f];exact g
 obtain⟨o,es,ep,h1,h2,h3,h4⟩:=k;rw[g] at h1;cases h1;rw[hd] at h3;cases h3
theorem TabOk.ds{κ:Type}[DecidableEq κ]{J:KH κ}{P:zdH}{w:zdx}{K:zaa}{H H':Hp}{qual:Str}{lp:Pos}{ps:Array zdw}{D:zdv}{kvs:List (κ×V)}(h:TabOk qual lp H ps)(d:DS J P w K H D kvs)(u:aS D H H'):TabOk qual lp H' ps:=by
 rcases h with h |⟨c',oc,vs,tk,e,h1,h2,h3⟩
 ·exact .inl h
 ·refine .inr ⟨c',oc,vs,tk,e,u _ _ (fun z=>?_) h1,h2,h3⟩;obtain⟨xs,e1,_⟩:=d.at_;subst z;rw[e1] at h1;exact Tb h2 (za1.inj h1).symm
end L2
namespace PG
open PM
structure Dk where
 cs:List Int
 gs:List Bool
 pos:Int
 left:Int
 row:Int
 gap:Int
def draw (d:Dk) (many:Int):Int×Dk:=
 if d.cs=[] then ((d.pos*d.pos*7+d.pos/3)%many,{d with pos:=d.pos+1})
 else if d.gs.getD (d.pos%d.cs.length).toNat false=true then (d.cs.getD (d.pos%d.cs.length).toNat 0%many,{d with pos:=d.pos+1,cs:=d.cs.set (d.pos%d.cs.length).toNat (d.cs.getD (d.pos%d.cs.length).toNat 0/many)})
 else ((d.cs.getD (d.pos%d.cs.length).toNat 0%2147483629+62233*(d.pos+1))*48271%2147483629*((d.cs.getD (d.pos%d.cs.length).toNat 0%2147483629+62233*(d.pos+1))*48271%2147483629)%2147483587*69621%2147483579/8%many,{d with pos:=d.pos+1})
theorem PF(d:Dk){many:Int}(h:0<many):0<=(draw d many).1/\(draw d many).1<many:=by
 have k:∀x:Int,0<=x%many/\x%many<many:=fun x=>⟨zbB _ (by lia),zbr _ h⟩
 unfold draw;split
 ·exact k _
 ·split<;>exact k _
def tP (sc:List Int):Dk:=⟨sc.map fun c=>if c ≥ 10 ^ 18 then c-10 ^ 18 else c,sc.map fun c=>decide (c ≥ 10 ^ 18),0,0,0,0⟩
theorem uY{d d':Dk}{many x:Int}(h:draw d many=(x,d'))(p:0<many):0<=x/\x<many:=by have:=PF d p;rw[h] at this;exact this
theorem pX:∀(a b:List cD),aB (a++b)=aB a++aB b
 |[],b=>rfl
 |s::r,b=>by
  show kM s++aB (r++b)=(kM s++aB r)++aB b;rw[pX r b,zaV]
theorem uZ{d d':Dk}{many x:Int}(h:draw d many=(x,d')):d'.pos=d.pos+1:=by
 unfold draw at h;split at h
 ·cases h;rfl
 ·split at h<;>cases h<;>rfl
end PG
namespace L2
open PG
open PySem PySem.Spec PyProof.Rows
section
variable{X:Cx}
theorem Jl(hc:X.calm=true):mO X (.builtin "any") (fun xs H Q=>∃(p:zdv) (bs:List Bool),xs=[.ref p]/\jc X.K H p (bs.map V.bl)/\Q (.bl (bs.any id)) H):=by
 intro pins s σ H xs us Q I r h;obtain⟨p,bs,rfl,hl,q⟩:=h;obtain⟨u,rfl,ru⟩:=vals1 r;cases (show u=Value.ref p from ru);obtain⟨bq,rv,pl,_⟩:=I.list hl;have rV:p<s.heap.objs.size:=let ⟨_,_,e,_⟩:=pl;Heap.lt_size e;have ln:bq.toArray.size=bs.length:=by rw[zau,<- rv.length,zad]
 refine call_any_walk (wpAny_pyIter_list pl.isList ?_);refine⟨s.heap.objs.size,_,_,_,_,_,fun i=>bs.getD i false,rfl,Walks.list (show X.A.in1.handled=none from I.ok.hd hc) _ p (zaD rV) bq.toArray,⟨⟨_,Heap.get?_push_size _ rfl,rfl,rfl⟩,pl.isList.push _⟩,fun i v s' Q' E' hv hq=>?_,fun h' tk hk=>?_⟩
 ·have Iu:bq[i]?=some v:=by simpa using hv
  have li:i<bs.length:=by
   have:=(zam.mp Iu).1;rw[zau] at ln;lia
  obtain⟨u,hu,ru⟩:=rv.get (i:=i) (x:=.bl bs[i]) (by rw[zao,zae li];rfl);rw[Iu] at hu;cases hu;cases (show v=Value.bool bs[i] from ru);have hq:Q' (bs.getD i false) s':=hq;rw[zar,zae li] at hq;exact zdz hq
 ·refine⟨.bl (bs.any id),H,I.kept (h':=h') (t':=tk) (fun b o e=>hk b o ?_ (Heap.get?_push_of_some _ e)),?_,q⟩
  ·simpa using zaD (Heap.lt_size e)
  ·show Value.bool ((zaB bq.toArray.size).any fun i=>bs.getD i false)=Value.bool (bs.any id);rw[ln]
   congr 1
   rw[zbA,zbz,zbz]
   constructor
   ·rintro ⟨i,hi,h⟩
    have hi:=zaS.mp hi;rw[zar,zae hi] at h;exact⟨_,zas hi,h⟩
   ·rintro ⟨x,hx,h⟩
    obtain⟨i,hi,rfl⟩:=List.getElem_of_mem hx;exact⟨i,zaS.mpr hi,by rw[zar,zae hi];exact h⟩
end
open PG
open PM (W Tr)
theorem Ys{a b x y:Int}(h1:a<=x)(h2:x<=b):min (a*y) (b*y)<=x*y/\x*y<=max (a*y) (b*y):=by
 by_cases hy:0<=y
 ·have e1:=zcw h1 hy;have e2:=zcw h2 hy;exact⟨zcx (Int.min_le_left _ _) e1,zcx e2 (Int.le_max_right _ _)⟩
 ·have hy:y<=0:=by lia
  have e1:=zcy h1 hy;have e2:=zcy h2 hy;exact⟨zcx (Int.min_le_right _ _) e2,zcx e1 (Int.le_max_left _ _)⟩
end L2
namespace L3
open PG
open PySem PyProof.Rows
def xh (h h':Heap):Prop:=∀b o,h.get? b=some o->o.cls=.type "tuple"->h'.get? b=some o
def vd {κ:Type} [DecidableEq κ] (xs:List (κ×zdv×zdw)) (r:List (zdv×κ×zdv×zdw)):List (κ×zdv×zdw):=r.foldl (fun acc q=>storedH acc q.2.1 q.2.2.1 q.2.2.2) xs
theorem DM{κ:Type}[DecidableEq κ](xs:List (κ×zdv×zdw))(k:κ)(a:zdv)(v:zdw):(storedH xs k a v).length<=xs.length+1:=by
 unfold storedH;split<;>simp
section
variable{prog:zdH}{w:zdx}{A:zdG}{E:zdw->zdF->Prop}{κ:Type}[DecidableEq κ]{knd:HeapKind prog w κ}
theorem xT(kp:∀(h h':Heap) (x:κ) (a:zdv),knd.is h x a->xh h h'->knd.is h' x a){h h':Heap}{d:zdv}{xs:List (κ×zdv×zdw)}(hd:h.DictOfH knd d xs)(t:xh h h')(e:∀o,h.get? d=some o->h'.get? d=some o):h'.DictOfH knd d xs:=by
 obtain⟨o,es,ep,ho,hc,hd,he,Yr,hn⟩:=hd;exact⟨o,es,ep,e _ ho,hc,hd,he,fun x hx=>kp _ _ _ _ (Yr x hx) t,hn⟩
theorem A8(kp:∀(h h':Heap) (x:κ) (a:zdv),knd.is h x a->xh h h'->knd.is h' x a)(d it l:zdv)(items:Array zdw)(res:zdw)(hA:A.handled=none)(w5:it≠d)(hu:knd.room A.in1){R:Result->zdF->Prop}:∀(r:List (zdv×κ×zdv×zdw)) (i:Nat) (j:Int) (u:Tok) (xs:List (κ×zdv×zdw)) (s:zdF),
 items.toList.drop i=r.map (fun q=>Value.ref q.1)->(∀q∈r,s.heap.IsTuple q.1 #[.ref q.2.2.1,q.2.2.2]/\knd.is s.heap q.2.1 q.2.2.1)->s.heap.IsListIter it l i->s.heap.IsList l items->s.heap.DictOfH knd d xs->xs.length+r.length<=zdD->
 (∀h' tk,h'.DictOfH knd d (vd xs r)->(∀b o,b≠d->b≠it->s.heap.get? b=some o->h'.get? b=some o)->R (.ok (.ret res)) {s with heap:=h',toks:=tk})->
 codeAny (model prog w) A (.builtin "dict.update.loop" ⟨[.ref d,.ref it,.int j u,res],[]⟩) R s
 |[],i,j,u,xs,s,hi,hp,hit,hl,hd,hz,hR=>by
  refine codeAny_builtin jf ?_;rw[Around.under_plainId c7 _];show wpAny _ A.in1 (pyNext (.ref it) >>= _) _ _ s;refine zdy (wpAny_pyNext_list_end hA hit hl (by rw[<- za9];rw[zaW] at hi;exact zcr (zct.mp hi)) fun h' ext=>?_);show wpAny _ _ (Builtin.Dict.addKeywords d [] >>= _) _ _ _;refine zdy (zdz (zdz (hR h' s.toks ?_ fun b o _ h2 e=>?_)))
  ·refine xT kp hd (fun b o e c=>ext b o (fun z=>?_) e) fun o ho=>ext d o w5.symm ho;obtain⟨oi,Fm,LN,_⟩:=hit;rw[z,Fm] at e;cases e;rw[LN] at c;exact absurd (Value.type.inj c) (by decide)
  ·exact ext b o h2 e
 |q::r,i,j,u,xs,s,hi,hp,hit,hl,hd,hz,hR=>by
  have hx:items[i]?=some (Value.ref q.1):=by
   rw[<- za9,<- zcu,hi];rfl
  refine codeAny_builtin jf ?_;rw[Around.under_plainId c7 _];show wpAny _ A.in1 (pyNext (.ref it) >>= _) _ _ s;refine zdy (wpAny_pyNext_list_item hit hl hx fun h' Lz sb=>?_);have t1:xh s.heap h':=fun b o e c=>(sb.2 b fun z=>by
   obtain⟨oi,Fm,LN,_⟩:=hit;rw[z,Fm] at e;cases e;rw[LN] at c;exact absurd (Value.type.inj c) (by decide)).trans e
  obtain⟨⟨oq,Wc,UG,nq,Z1⟩,kq⟩:=hp q (zan ..);have LO:h'.get? q.1=some oq:=t1 _ _ Wc UG;have Ab:h'.DictOfH knd d xs:=xT kp hd t1 fun o ho=>(sb.2 d w5.symm).trans ho;show wpAny _ A.in1 (holding [Value.ref q.1] _ >>= _) _ _ _;refine zdy (zdA (zdy (wpAny_tryCatch ?_)));unfold Builtin.Dict.pairItems;refine zdy (wpAny_typeOf (T:="tuple") ⟨oq,LO,UG⟩ ?_);rw[if_pos (by decide)];refine zdy (wpAny_seqItems (s:={s with heap:=h' }) LO Z1 (zdz ?_));show wpAny _ A.in1 (holding [Value.ref q.2.2.1,q.2.2.2] (dictSet d (.ref q.2.2.1) q.2.2.2)) _ _ _;have Ki:xs.length<=zdD:=by simp only[zap] at hz;lia
  refine zdA (wpAny_dictSet_heap (s:={s with heap:=h' }) hu (kp _ _ _ _ kq t1) Ab (fun h2 hd2 Ke=>?_) Ki);have t2:xh h' h2:=fun b o e c=>(Ke.2 b fun z=>by
   obtain⟨od,_,_,SM,hex,_⟩:=Ab;rw[z,SM] at e;cases e;rw[hex.1] at c;exact absurd (Value.type.inj c) (by decide)).trans e
  refine zdz ⟨plainId_quiet c7 _,?_⟩;refine A8 kp d it l items res hA w5 hu r (i+1) (j+1) _ _ _ ?_ (fun p We=>?_) ?_ ?_ hd2 ?_ fun h3 tk Wf keep=>hR h3 tk Wf fun b o n1 n2 e=>keep b o n1 n2 ?_
  ·rw[<- zcF,hi];rfl
  ·obtain⟨⟨op,Oy,SK,rest⟩,kpp⟩:=hp p (zaj _ We);exact⟨⟨op,t2 _ _ (t1 _ _ Oy SK) SK,SK,rest⟩,kp _ _ _ _ (kp _ _ _ _ kpp t1) t2⟩
  ·obtain⟨oi,Fm,rest⟩:=Lz;exact⟨oi,(Ke.2 _ w5).trans Fm,rest⟩
  ·obtain⟨ol,LP,N2,nl,SN⟩:=hl;have n1:l≠it:=fun z=>by
    obtain⟨oi,Fm,LN,_⟩:=hit;rw[z,Fm] at LP;cases LP;rw[LN] at N2;exact absurd (Value.type.inj N2) (by decide)
   have n2:l≠d:=fun z=>by
    obtain⟨od,_,_,SM,_,Lx,_⟩:=hd;rw[z,SM] at LP;cases LP;rw[Lx] at SN;cases SN
   exact⟨ol,(Ke.2 _ n2).trans ((sb.2 _ n1).trans LP),N2,nl,SN⟩
  ·have:=DM xs q.2.1 q.2.2.1 q.2.2.2;simp only[zap] at hz;lia
  ·exact(Ke.2 _ n1).trans ((sb.2 _ n2).trans e)
theorem FQ(kp:∀(h h':Heap) (x:κ) (a:zdv),knd.is h x a->xh h h'->knd.is h' x a)(l:zdv){s:zdF}{items:Array zdw}{n:Nat}{sl:Array (Option zdw)}{Q:zdw->zdF->Prop}(hA:A.handled=none)(hu:knd.room A.in1.in1)(r:List (zdv×κ×zdv×zdw))(hx:s.heap.get? l=some ⟨.type "list",none,.seq items n,sl⟩)
 (hi:items.toList=r.map (fun q=>Value.ref q.1)) (hp:∀q∈r,s.heap.IsTuple q.1 #[.ref q.2.2.1,q.2.2.2]/\knd.is s.heap q.2.1 q.2.2.1) (hz:r.length<=zdD)
 (h:∀h' tk,h'.DictOfH knd s.heap.objs.size (vd [] r)->(∀b o,s.heap.get? b=some o->h'.get? b=some o)->Q (.ref s.heap.objs.size) {s with heap:=h',toks:=tk}) :
 wpAny (model prog w) A (call (.type "dict") [.ref l]) Q E s:=by
 refine callType_codes (Q₁:=fun obj s₁=>obj=.ref s.heap.objs.size/\s₁={s with heap:=s.heap.push {cls:=.type "dict",data:=.dict #[]} }) F.kt_called_dict (F.kt_typeCall_dict_1 _) F.entry_dict_init (kt_code_dict_new _ ⟨rfl,rfl⟩) ?_
 rintro obj s₁ ⟨rfl,rfl⟩
 have yw:(s.heap.push {cls:=.type "dict",data:=.dict #[]}).DictOfH knd s.heap.objs.size []:=Heap.DictOfH.new s.heap;have i8:∀b o,s.heap.get? b=some o->(s.heap.push {cls:=.type "dict",data:=.dict #[]}).get? b=some o:=fun b o e=>Heap.get?_push_of_some _ e;refine⟨yw.typeIs,F.args_dict_init_2 _ _,?_⟩;unfold Builtin.«dict.__init__»;refine zdy ?_;unfold Builtin.Dict.selfAndRest;refine zdy (wpAny_notOrdered_dict yw.typeIs ?_);show wpAny _ _ (pure (s.heap.objs.size,[Value.ref l])) _ _ _;refine zdz ?_;show wpAny _ _ (Builtin.Dict.updateFrom "dict.__init__" s.heap.objs.size (.ref l) [] .none) _ _ _;unfold Builtin.Dict.updateFrom;refine zdy (wpAny_typeOf (T:="list") ⟨_,i8 _ _ hx,rfl⟩ ?_);rw[if_pos (by decide)];refine zdy (AX (n:=n) (sl:=sl) l (i8 _ _ hx) hA fun h2 SO i9=>?_);rw[if_pos (show (none:Option zdw).isNone=true from rfl)];refine zdy (wpAny_rule ?_);have Kd:h2.IsList l items:=⟨_,i9 _ _ (i8 _ _ hx),rfl,n,rfl⟩
 have hd2:h2.DictOfH knd s.heap.objs.size []:=xT kp yw (fun b o e _=>i9 b o e) fun o e=>i9 _ _ e;refine zdy (wpAny_pyIter_list (s:={s with heap:=h2,toks:=SO}) Kd ?_);have pY:∀b o,h2.get? b=some o->(h2.push {cls:=.type "list_iterator",data:=.fields #[.ref l,.int 0 0]}).get? b=some o:=fun b o e=>Heap.get?_push_of_some _ e;have nd:h2.objs.size≠s.heap.objs.size:=by
  obtain⟨o,es,ep,ho,_⟩:=hd2;exact fun e=>absurd (Heap.lt_size ho) (by rw[e];exact zaP _)
 refine zdz ⟨plainId_quiet c7 _,?_⟩;refine A8 (A:=A.in1) kp s.heap.objs.size h2.objs.size l items .none hA nd hu r 0 0 _ [] _ (by simpa using hi) (fun q hq=>?_) ⟨_,Heap.get?_push_size _ rfl,rfl,rfl⟩ ?_ ?_ (by simpa using hz) fun h4 Wg Wh Dw=>?_
 ·obtain⟨⟨o,ho,rest⟩,kq⟩:=hp q hq;exact⟨⟨o,pY _ _ (i9 _ _ (i8 _ _ ho)),rest⟩,kp _ _ _ _ kq fun b o e _=>pY _ _ (i9 _ _ (i8 _ _ e))⟩
 ·obtain⟨o,ho,rest⟩:=Kd;exact⟨o,pY _ _ ho,rest⟩
 ·exact xT kp hd2 (fun b o e _=>pY b o e) fun o e=>pY _ _ e
 ·refine⟨rfl,h h4 Wg Wh fun b o e=>Dw b o (fun z=>?_) (fun z=>?_) (pY _ _ (i9 _ _ (i8 _ _ e)))⟩
  ·rw[z] at e;exact absurd (Heap.lt_size e) (zaP _)
  ·have:=Heap.lt_size (i9 _ _ (i8 _ _ e));rw[z] at this;exact absurd this (zaP _)
end
end L3
namespace L2
open PG
open PySem PyProof.Rows
section
variable{κ:Type}[DecidableEq κ]
def tQ (kvs more:List (κ×V)):List (κ×V):=more.foldl (fun acc kv=>putK acc kv.1 kv.2) kvs
theorem yR:∀(more kvs:List (κ×V)),(tQ kvs more).length<=kvs.length+more.length
 |[],kvs=>zag _
 |kv::r,kvs=>by
  have h1:=yR r (putK kvs kv.1 kv.2);have h2:=dX kvs kv.1 kv.2;show (tQ (putK kvs kv.1 kv.2) r).length<=_;rw[zap];lia
theorem FR{X:Cx}{J:KH κ}(kp:∀(h h':Heap) (x:κ) (a:zdv),(J.knd X.prog X.w).is h x a->L3.xh h h'->(J.knd X.prog X.w).is h' x a)(hc:X.calm=true)(hu:X.A.units+64<cLine):mO X (.type "dict") (fun xs H Q=>∃(a:zdv) (ps:List (zdv×κ×zdv×V)),xs=[.ref a]/\jc X.K H a (ps.map fun q=>V.ref q.1)/\(∀q∈ps,bQ X.K H q.1 [.ref q.2.2.1,q.2.2.2]/\J.on X.K H q.2.1 q.2.2.1)/\ps.length<=zdD/\
 ∀p H',H p=none->(∃φ,H'=upd H p (.ext φ))->DS J X.prog X.w X.K H' p (tQ [] (ps.map fun q=>(q.2.1,q.2.2.2)))->Q (.ref p) H'):=by
 intro pins s σ H xs us Q I r h;obtain⟨a,ps,rfl,ha,hp,hz,q⟩:=h;obtain⟨u,rfl,ru⟩:=vals1 r;cases (show u=Value.ref a from ru);obtain⟨bq,v1,t1,_⟩:=I.list ha;obtain⟨⟨cls,dct,dat,sl⟩,n,e1,Wi,SQ,Rc⟩:=t1;simp only at Wi SQ Rc;subst Wi SQ Rc;have mk:∀(l:List (zdv×κ×zdv×V)) (us:List zdw),Vals (l.map fun q=>V.ref q.1) us->(∀q∈l,bQ X.K H q.1 [.ref q.2.2.1,q.2.2.2]/\J.on X.K H q.2.1 q.2.2.1)->∃r:List (zdv×κ×zdv×zdw),us=r.map (fun q=>Value.ref q.1)/\r.length=l.length/\
  (∀q∈r,s.heap.IsTuple q.1 #[.ref q.2.2.1,q.2.2.2]/\(J.knd X.prog X.w).is s.heap q.2.1 q.2.2.1)/\Paired (fun (p:zdv×κ×zdv×V) (q:zdv×κ×zdv×zdw)=>p.2.1=q.2.1/\J.on X.K H p.2.1 q.2.2.1/\RelV p.2.2.2 q.2.2.2) l r:=by
  intro l
  induction l with
  |nil=>intro us v _;cases v;exact⟨[],rfl,rfl,fun _ z=>(by cases z),.nil⟩
  |cons x l ih=>
   intro us v hp;rw[zaq] at v;cases v with
   |cons v1 v2=>
    obtain⟨r,e,lr,hr,kv⟩:=ih _ v2 (fun q hq=>hp q (zaj _ hq));obtain⟨N6,hx2⟩:=hp x (zan ..);obtain⟨tD,w1,tu,_⟩:=I.tuple N6;obtain⟨ku,vu,rfl,rk,rv⟩:=vals2 w1;cases v1;cases (show ku=Value.ref x.2.2.1 from rk);refine⟨(x.1,x.2.1,x.2.2.1,vu)::r,by rw[e];rfl,by simp[lr],fun q hq=>?_,.cons ⟨rfl,hx2,rv⟩ kv⟩;rcases zah.mp hq with rfl |hq
    ·exact⟨tu,J.of I hx2⟩
    ·exact hr q hq
 obtain⟨r',er,lr,hr,kv⟩:=mk ps bq v1 hp;refine L3.FQ kp a (I.ok.hd hc) (J.room (A:=X.A.in1) (by show X.A.units+1+16<cLine;lia)) r' e1 (by simpa using er) hr (by lia) fun h' tk dd keep=>?_;have hn:=I.bX.fresh (zag s.heap.objs.size);have hb:(s.heap.objs.size==sysModules)=false:=beq_eq_false_iff_ne.mpr (Ne.symm (zaD I.big));obtain⟨o,es,ep,ho,hx,hd,he,_,nd⟩:=dd;have ks:∀(l:List (zdv×κ×zdv×V)) (r:List (zdv×κ×zdv×zdw)) (kvs:List (κ×V)) (xs:List (κ×zdv×zdw)),Paired (fun (p:zdv×κ×zdv×V) (q:zdv×κ×zdv×zdw)=>p.2.1=q.2.1/\J.on X.K H p.2.1 q.2.2.1/\RelV p.2.2.2 q.2.2.2) l r->KS J X.K H kvs xs->KS J X.K H (tQ kvs (l.map fun q=>(q.2.1,q.2.2.2))) (L3.vd xs r):=by
  intro l r kvs xs hp
  induction hp generalizing kvs xs with
  |nil=>exact id
  |@cons p q ps qs h t ih=>
   intro k;refine ih _ _ ?_;show KS J X.K H (putK kvs p.2.1 p.2.2.2) (storedH xs q.2.1 q.2.2.1 q.2.2.2);rw[<- h.1];exact k.put _ h.2.1 h.2.2
 have k0:=ks ps r' [] [] kv .nil;have ph:eS J X.prog X.w s.heap.objs.size (L3.vd [] r') h':=⟨o,es,ep,ho,hx,hd,he⟩
 refine⟨.ref s.heap.objs.size,_,I.laid (o:=.ext (eS J X.prog X.w s.heap.objs.size (L3.vd [] r'))) keep (zag _) ⟨ph,⟨o,ho⟩,fun g1 g2 p1 kp2=>?_⟩,rfl,q _ _ hn ⟨_,rfl⟩ ⟨?_,hb,_,ah,k0.up fun b ys q=>(aq.new hn _).bM q,nd⟩⟩
 ·obtain⟨ob,es,ep,h1,h2,h3,h4⟩:=p1;exact⟨ob,es,ep,kp2 ob h1,h2,h3,h4⟩
 ·have h1:=yR (ps.map fun q=>(q.2.1,q.2.2.2)) [];rw[zaQ,zad] at h1;lia
end
open PySem.Spec
def BR (m:Nat) (f:jb):Prop:=∀x∈f,x.2.length<=m
section
variable{led:bh->List bh}
theorem BS{m:Nat}:∀(n:Nat) (f:jb) (s:bh) (g:List Int),BR m f->g.length<=m->BR m (kP led n f s g).1
 |0,f,s,g,h,_=>h
 |n+1,f,s,g,h,hg=>by
  have h1:BR m (f++[(s,g)]):=fun x hx=>by
   rcases zak.mp hx with hx |hx
   ·exact h x hx
   ·rw[zab.mp hx];exact hg
  rw[kP];split
  ·exact h
  ·split
   ·exact BS n _ _ g h1 hg
   ·exact h1
theorem A9{m n:Nat}:∀(l:jb) (f:jb),BR m f->BR m l->BR m (cR led n f l).1
 |[],f,h,_=>h
 |(s,g)::r,f,h,hl=>A9 r _ (BS n f s g h (hl _ (zan ..))) fun x hx=>hl x (zaj _ hx)
theorem DN{S:bh->Prop}(li:∀s,S s->∀x∈led s,S x){n:Nat}:∀(m k:Nat) (f:jb) (as:List (List Int×List bh)),yM S f->BR k f->uX S k as->BR (k+m) (pB led n m f as)
 |0,_,f,as,_,h,_=>h
 |m+1,k,f,as,h0,h,h2=>by
  rw[pB];split
  ·exact fun x hx=>zaw (h x hx) (by lia)
  ·have g:=mZ li (n:=n) (m:=k+1) (aZ as) f h0 (ji h2);have:=DN li (n:=n) m (k+1) _ _ g.1 (A9 (n:=n) (aZ as) f (fun x hx=>Nat.le_succ_of_le (h x hx)) fun x hx=>(ji h2 x hx).2) g.2.1;rw[show k+(m+1)=k+1+m by lia];exact this
end
theorem Jm{pr:PG.Prog}(d:dO pr):BR (aM pr+2) (aK pr (bf pr)):=by
 have li:∀s,c8 pr s->∀x∈aY pr s,c8 pr x:=fun s h=>uV d h;have g:=qj li (m:=0) (aM pr+1) [] (bf pr) [] .nil (c8.first d) (zag _);have:=DN li (n:=aM pr+1) (aM pr+2) 0 _ _ g.1 (BS (aM pr+1) [] (bf pr) [] (fun x hx=>by cases hx) (zag _)) g.2.1;rw[zcX] at this;exact this
theorem Kj{α β γ:Type}(F:α->β->γ->Prop->Prop):∃X:α->β->γ->Prop,(∀a b c,(∀zq,F a b c zq->zq)->X a b c)/\∀a b c,X a b c->∀zq,F a b c zq->zq:=⟨fun a b c=>∀zq,F a b c zq->zq,fun _ _ _ h=>h,fun _ _ _ h=>h⟩
section
variable{X:Cx}{k n:Nat}{f:zdv}{fd:zdE}{ps:List Str}{sp:Sp}{x:Str}{st:Stmt}{e:Expr}{es:List Expr}{t:TA}{te:TE}{p pos pos':Pos}
theorem nS(F:bD X.prog X.w X.K X.mg X.base gD k f fd ps sp)(D:cV X.K X.mg x st ps f fd)(hr:gB n X.A)(ha:PA X (e::es) t)(h:k<=n:=by first |decide |omega)(hg:Gl X x:=by rfl)(E7:(x==("__debug__":Str))=false:=by decide)
 (he:zdB (e::es) X.env=(false,eval e X.env)::zdB es X.env:=by rfl) (zV:(backTo pos (zdB es X.env)).any (·.1)=false:=by rfl):PE X (.Call (.Name x p) (e::es) [] pos) (C6 sp [] E0 t):=
 cB F (hr.mono h) hg D.m D.F.kp D.b .nil fj ha E7 he zV
theorem kE(i:Nat)(hN:X.N.Nodup)(he:PE X e te)(hi:X.N[i]?=some x:=by rfl)(hx:Loc X.env.scope x:=by exact zaJ rfl)(hs:swapsWith e (some (.Name x pos')) pos.line X.env=pure false:=by rfl)(hf:X.fn x=true\/X.env.scope.names.lookup x=some .local:=by first |exact .inl rfl |exact .inr rfl |assumption) :
 PS X (.Assign [.Name x pos'] e pos) (Ij te (dW i)):=eE hN hi hx he hs hf
theorem CO(i:Nat)(hN:X.N.Nodup)(hi:X.N[i]?=some x:=by rfl)(hx:Loc X.env.scope x:=by exact zaJ rfl)(hf:X.fn x=true\/X.env.scope.names.lookup x=some .local:=by first |exact .inl rfl |exact .inr rfl |assumption):PG X (.Name x pos) (dW i):=cH hN hi hx hf
theorem dG(i:Nat)(hr:PA X es t)(hN:X.N[i]?=some x:=by rfl)(hv:Vk X.env.scope x:=by first |exact zaJ rfl |exact zcK (zaJ rfl) |exact zcK (zcK rfl))(hd:(x==("__debug__":Str))=false:=by decide)(C0:(x==("__classdict__":Str))=false:=by decide):PA X (.Name x pos::es) (yg (fN i) t):=ae (pv i hN hv hd C0) hr aH
end
def nA (a:Int):List Int->Int
 |[]=>a
 |d::r=>nA (10*a+d+1) r
def Dg (g:List Int):Prop:=∀d∈g,0<=d/\d<=9
theorem FT:∀(g r:List Int) (a:Int),nA a (g++r)=nA (nA a g) r
 |[],r,a=>rfl
 |d::g,r,a=>FT g r _
theorem Rn:∀(g:List Int) (a:Int),0<=a->Dg g->a<=nA a g
 |[],a,_,_=>zaF _
 |d::r,a,h,q=>by
  have:=q d (zan ..);have:=Rn r (10*a+d+1) (by lia) fun x hx=>q x (zaj _ hx);rw[nA];lia
theorem Ro:∀(g h:List Int) (a b:Int),a<b->g.length=h.length->Dg g->Dg h->nA a g<nA b h
 |[],[],a,b,h,_,_,_=>h
 |x::g,y::h,a,b,l,e,q1,q2=>by
  have:=q1 x (zan ..);have:=q2 y (zan ..);exact Ro g h _ _ (by lia) (by simpa using e) (fun z hz=>q1 z (zaj _ hz)) fun z hz=>q2 z (zaj _ hz)
 |[],_::_,_,_,_,e,_,_=>by simp at e
 |_::_,[],_,_,_,e,_,_=>by simp at e
theorem WH{g h:List Int}(l:g.length<h.length)(q1:Dg g)(q2:Dg h):nA 0 g<nA 0 h:=by
 have e:h=h.take (h.length-g.length)++h.drop (h.length-g.length):=(zbC _ _).symm;have d1:Dg (h.take (h.length-g.length)):=fun x hx=>q2 x (zbw hx);have d2:Dg (h.drop (h.length-g.length)):=fun x hx=>q2 x (List.mem_of_mem_drop hx);have l2:(h.drop (h.length-g.length)).length=g.length:=by rw[zbJ];lia
 have l1:(h.take (h.length-g.length)).length≠0:=by rw[zcn];lia
 rw[e,FT];refine Ro _ _ _ _ ?_ l2.symm q1 d2;generalize h.take (h.length-g.length)=t at *;cases t with
 |nil=>exact absurd rfl l1
 |cons x r=>
  have:=d1 x (zan ..);have:=Rn r (10*0+x+1) (by lia) fun z hz=>d1 z (zaj _ hz);rw[nA];lia
section
variable(led:bh->List bh)(s0:bh)
inductive Cm:bh->List Int->Prop
 |start:Cm s0 []
 |one {s t g}:Cm s g->led s=[t]->Cm t g
 |many {s t g} {i:Nat}:Cm s g->(led s).length≠1->(led s)[i]?=some t->Cm t (g++[(i:Int)])
end
section
variable{led:bh->List bh}{s0:bh}
theorem Cm.dg(hl:∀s,(led s).length<=10){s:bh}{g:List Int}(h:Cm led s0 s g):Dg g:=by
 induction h with
 |start=>exact fun d h=>by cases h
 |one _ _ ih=>exact ih
 |@many s t g i _ _ e ih=>
  intro d hd;rcases zak.mp hd with hd |hd
  ·exact ih d hd
  ·rw[zab.mp hd];have:=(zam.mp e).1;have:=hl s;lia
theorem Cm.BN{S:bh->Prop}(li:∀s,S s->∀x∈led s,S x)(h0:S s0){s:bh}{g:List Int}(h:Cm led s0 s g):S s:=by
 induction h with
 |start=>exact h0
 |one _ e ih=>exact li _ ih _ (by rw[e];exact zab.mpr rfl)
 |many _ _ e ih=>exact li _ ih _ (za0 e)
structure BI(led:bh->List bh)(s0:bh)(k:Nat)(f l:jb)(as:List (List Int×List bh)):Prop where
 Yt:f.Pairwise fun x y=>nA 0 x.2<=nA 0 y.2
 fl:∀x∈f,∀y∈l,nA 0 x.2<=nA 0 y.2
 ll:l.Pairwise fun x y=>nA 0 x.2<nA 0 y.2
 al:∀a∈as,∀y∈l,nA 0 a.1<nA 0 y.2
 aa:as.Pairwise fun a b=>nA 0 a.1<nA 0 b.1
 fk:∀x∈f,x.2.length<=k
 lk:∀x∈l,x.2.length=k
 ak:∀a∈as,a.1.length=k
 sf:∀x∈f,Cm led s0 x.1 x.2
 sl:∀x∈l,Cm led s0 x.1 x.2
 sa:∀a∈as,∃s,Cm led s0 s a.1/\a.2=led s/\(led s).length≠1
 c1:∀x∈f,∀t,led x.1=[t]->(∃y∈f,y.1=t/\nA 0 y.2<=nA 0 x.2)\/(t,x.2)∈l
 c2:∀x∈f,(led x.1).length≠1->∀(i:Nat) t,(led x.1)[i]?=some t->(∃y∈f,y.1=t/\nA 0 y.2<=nA 0 (x.2++[(i:Int)]))\/(t,x.2++[(i:Int)])∈l\/(x.2,led x.1)∈as
 st:(∃y∈f,y.1=s0/\nA 0 y.2<=0)\/(s0,[])∈l
theorem BI.start:BI led s0 0 [] [(s0,[])] [] where
 Yt:=.nil
 fl:=fun x h=>by cases h
 ll:=zcd _ _
 al:=fun x h=>by cases h
 aa:=.nil
 fk:=fun x h=>by cases h
 lk:=fun x h=>by rw[zab.mp h];rfl
 ak:=fun x h=>by cases h
 sf:=fun x h=>by cases h
 sl:=fun x h=>by rw[zab.mp h];exact .start
 sa:=fun x h=>by cases h
 c1:=fun x h=>by cases h
 c2:=fun x h=>by cases h
 st:=.inr (zab.mpr rfl)
section
variable{k:Nat}{f r:jb}{s:bh}{g:List Int}{as:List (List Int×List bh)}
theorem BI.skip(h:BI led s0 k f ((s,g)::r) as)(hs:s∈f.map (·.1)):BI led s0 k f r as:=by
 obtain⟨y,hy,ey⟩:=zal.mp hs;have ny:=h.fl y hy (s,g) (zan ..);refine⟨h.Yt,fun x hx z hz=>h.fl x hx z (zaj _ hz),(zbO.mp h.ll).2,fun a ha z hz=>h.al a ha z (zaj _ hz),h.aa,h.fk,fun x hx=>h.lk x (zaj _ hx),h.ak,h.sf,fun x hx=>h.sl x (zaj _ hx),h.sa,fun x hx t e=>?_,fun x hx n i t e=>?_,?_⟩
 ·rcases h.c1 x hx t e with z |z
  ·exact .inl z
  ·rcases zah.mp z with z |z
   ·cases z;exact .inl ⟨y,hy,ey,ny⟩
   ·exact .inr z
 ·rcases h.c2 x hx n i t e with z |z |z
  ·exact .inl z
  ·rcases zah.mp z with z |z
   ·cases z;exact .inl ⟨y,hy,ey,ny⟩
   ·exact .inr (.inl z)
  ·exact .inr (.inr z)
 ·rcases h.st with z |z
  ·exact .inl z
  ·rcases zah.mp z with z |z
   ·cases z;exact .inl ⟨y,hy,ey,ny⟩
   ·exact .inr z
theorem BI.put(h:BI led s0 k f ((s,g)::r) as){l:jb}{bs:List (List Int×List bh)}(hl:l=r/\bs=[(g,led s)]/\(led s).length≠1\/∃t,led s=[t]/\l=(t,g)::r/\bs=[]):BI led s0 k (f++[(s,g)]) l (as++bs):=by
 have hg:=zan (a:=(s,g)) (l:=r);obtain⟨gr,rr⟩:=zbO.mp h.ll;have inr:∀x∈r,x∈l:=fun x hx=>by
  rcases hl with ⟨rfl,_⟩ |⟨t,_,rfl,_⟩
  ·exact hx
  ·exact zaj _ hx
 have Ys:∀x∈l,x∈r\/x.2=g/\led s=[x.1]:=fun x hx=>by
  rcases hl with ⟨rfl,_⟩ |⟨t,e,rfl,_⟩
  ·exact .inl hx
  ·rcases zah.mp hx with rfl |hx
   ·exact .inr ⟨rfl,e⟩
   ·exact .inl hx
 have bin:∀a∈bs,a=(g,led s)/\l=r/\(led s).length≠1:=fun a ha=>by
  rcases hl with ⟨e,rfl,n⟩ |⟨t,e,rfl,rfl⟩
  ·exact⟨zab.mp ha,e,n⟩
  ·cases ha
 have nf:∀x∈f++[(s,g)],nA 0 x.2<=nA 0 g:=fun x hx=>by
  rcases zak.mp hx with hx |hx
  ·exact h.fl x hx _ hg
  ·rw[zab.mp hx];exact zaF _
 have ng:∀y∈l,nA 0 g<=nA 0 y.2:=fun y hy=>by
  rcases Ys y hy with z |⟨z,_⟩
  ·exact Int.le_of_lt (gr y z)
  ·rw[z];exact zaF _
 have me:(s,g)∈f++[(s,g)]:=zav _ (zab.mpr rfl);have up:∀ {P:bh×List Int->Prop},(∃y∈f,P y)->∃y∈f++[(s,g)],P y:=fun ⟨y,hy,p⟩=>⟨y,zaN _ hy,p⟩
 refine⟨zdk.mpr ⟨h.Yt,zcd _ _,fun x hx y hy=>?_⟩,fun x hx y hy=>zcx (nf x hx) (ng y hy),?_,?_,?_,?_,?_,?_,?_,?_,?_,fun x hx t e=>?_,fun x hx n i t e=>?_,?_⟩
 ·rw[zab.mp hy];exact h.fl x hx _ hg
 ·rcases hl with ⟨rfl,_⟩ |⟨t,_,rfl,_⟩
  ·exact rr
  ·exact zbO.mpr ⟨fun y hy=>gr y hy,rr⟩
 ·intro a ha y hy;rcases zak.mp ha with ha |ha
  ·exact Int.lt_of_lt_of_le (h.al a ha _ hg) (ng y hy)
  ·obtain⟨rfl,rfl,_⟩:=bin a ha;exact gr y hy
 ·refine zdk.mpr ⟨h.aa,?_,fun a ha b hb=>?_⟩
  ·rcases hl with ⟨_,rfl,_⟩ |⟨_,_,_,rfl⟩
   ·exact zcd _ _
   ·exact .nil
  ·rw[(bin b hb).1];exact h.al a ha _ hg
 ·intro x hx;rcases zak.mp hx with hx |hx
  ·exact h.fk x hx
  ·rw[zab.mp hx];exact zds (h.lk _ hg)
 ·intro x hx;rcases Ys x hx with z |⟨z,_⟩
  ·exact h.lk x (zaj _ z)
  ·rw[z];exact h.lk _ hg
 ·intro a ha;rcases zak.mp ha with ha |ha
  ·exact h.ak a ha
  ·rw[(bin a ha).1];exact h.lk _ hg
 ·intro x hx;rcases zak.mp hx with hx |hx
  ·exact h.sf x hx
  ·rw[zab.mp hx];exact h.sl _ hg
 ·intro x hx;rcases Ys x hx with z |⟨z,e⟩
  ·exact h.sl x (zaj _ z)
  ·rw[z];exact .one (h.sl _ hg) e
 ·intro a ha;rcases zak.mp ha with ha |ha
  ·exact h.sa a ha
  ·obtain⟨rfl,_,n⟩:=bin a ha;exact⟨s,h.sl _ hg,rfl,n⟩
 ·rcases zak.mp hx with hx |hx
  ·rcases h.c1 x hx t e with z |z
   ·exact .inl (up z)
   ·rcases zah.mp z with z |z
    ·cases z;exact .inl ⟨_,me,rfl,zaF _⟩
    ·exact .inr (inr _ z)
  ·rw[zab.mp hx] at e ⊢;rcases hl with ⟨_,_,n⟩ |⟨t',e',rfl,_⟩
   ·exact absurd (by rw[show led s=[t] from e];rfl) n
   ·rw[show led s=[t] from e] at e';cases e';exact .inr (zan ..)
 ·rcases zak.mp hx with hx |hx
  ·rcases h.c2 x hx n i t e with z |z |z
   ·exact .inl (up z)
   ·rcases zah.mp z with z |z
    ·cases z;exact .inl ⟨_,me,rfl,zaF _⟩
    ·exact .inr (.inl (inr _ z))
   ·exact .inr (.inr (zaN _ z))
  ·rw[zab.mp hx] at n ⊢;rcases hl with ⟨_,rfl,_⟩ |⟨t',e',_⟩
   ·exact .inr (.inr (zav _ (zab.mpr rfl)))
   ·exact absurd (by rw[show led s=[t'] from e'];rfl) n
 ·rcases h.st with z |z
  ·exact .inl (up z)
  ·rcases zah.mp z with z |z
   ·cases z;exact .inl ⟨_,me,rfl,zaF _⟩
   ·exact .inr (inr _ z)
end
variable{S:bh->Prop}{M:Nat}
theorem BI.kP(li:∀s,S s->∀x∈led s,S x)(hM:∀f:jb,yM S f->f.length<=M){k:Nat}:∀(n:Nat) (f r:jb) (s:bh) (g:List Int) (as:List (List Int×List bh)),M<f.length+n->yM S f->S s->BI led s0 k f ((s,g)::r) as->BI led s0 k (kP led n f s g).1 r (as++qi g (kP led n f s g).2)
 |0,f,r,s,g,as,hn,o,_,_=>absurd (hM f o) (by lia)
 |n+1,f,r,s,g,as,hn,o,hs,h=>by
  rw[L2.kP];split
  ·rename_i OP;show BI led s0 k f r (as++[]);rw[zaG];exact h.skip OP
  ·rename_i OP;have o1:=o.put (g:=g) OP hs;split
   ·rename_i t e;have h2:=h.put (l:=(t,g)::r) (bs:=[]) (.inr ⟨t,e,rfl,rfl⟩);rw[zaG] at h2;exact BI.kP li hM n _ r t g as (by rw[zaf,zaC];lia) o1 (li s hs t (by rw[e];exact zab.mpr rfl)) h2
   ·rename_i l1 ne;refine h.put (.inl ⟨rfl,rfl,fun z=>?_⟩);obtain⟨t,e⟩:=zbS.mp z;exact ne t e
theorem BI.all(li:∀s,S s->∀x∈led s,S x)(hM:∀f:jb,yM S f->f.length<=M){k n:Nat}(hn:M<n):∀(l f:jb) (as:List (List Int×List bh)),yM S f->(∀x∈l,S x.1)->BI led s0 k f l as->BI led s0 k (cR led n f l).1 [] (as++(cR led n f l).2)
 |[],f,as,_,_,h=>by
  show BI led s0 k f [] (as++[]);rw[zaG];exact h
 |(s,g)::r,f,as,o,hl,h=>by
  have h1:=BI.kP li hM n f r s g as (by lia) o (hl _ (zan ..)) h;have o1:=(qj li (m:=g.length) n f s g o (hl _ (zan ..)) (zag _)).1;have:=BI.all li hM hn r _ _ o1 (fun x hx=>hl x (zaj _ hx)) h1;rw[zaV] at this;exact this
theorem BI.level(hl:∀s,(led s).length<=10){k:Nat}{f:jb}{as:List (List Int×List bh)}(h:BI led s0 k f [] as):BI led s0 (k+1) f (aZ as) []:=by
 have mem:∀x∈aZ as,∃a∈as,∃i:Nat,i<a.2.length/\a.2[i]?=some x.1/\x.2=a.1++[(i:Int)]:=fun x hx=>by
  obtain⟨a,ha,hx⟩:=zbj.mp hx;obtain⟨i,hi,rfl⟩:=zal.mp hx;have hi:=zaS.mp hi;exact⟨a,ha,i,hi,by rw[zar,zae hi];rfl,rfl⟩
 have sl:∀x∈aZ as,Cm led s0 x.1 x.2:=fun x hx=>by
  obtain⟨a,ha,i,_,e,e2⟩:=mem x hx;obtain⟨s,c,es,n⟩:=h.sa a ha;rw[e2];rw[es] at e;exact .many c n e
 have lk:∀x∈aZ as,x.2.length=k+1:=fun x hx=>by
  obtain⟨a,ha,i,_,_,e2⟩:=mem x hx;rw[e2,zaf,h.ak a ha];rfl
 have sn:∀(g:List Int) (i:Int),nA 0 (g++[i])=10*nA 0 g+i+1:=fun g i=>by rw[FT];rfl
 refine⟨h.Yt,fun x hx y hy=>?_,?_,fun a ha=>(by cases ha),.nil,fun x hx=>Nat.le_succ_of_le (h.fk x hx),lk,fun a ha=>(by cases ha),h.sf,sl,fun a ha=>(by cases ha),fun x hx t e=>?_,fun x hx n i t e=>?_,?_⟩
 ·exact Int.le_of_lt (WH (by have:=h.fk x hx;have:=lk y hy;lia) ((h.sf x hx).dg hl) ((sl y hy).dg hl))
 ·have key:∀bs:List (List Int×List bh),(∀a∈bs,a.2.length<=10)->bs.Pairwise (fun a b=>nA 0 a.1<nA 0 b.1)->(aZ bs).Pairwise fun x y=>nA 0 x.2<nA 0 y.2:=by
   intro bs hb p;unfold aZ;refine List.pairwise_flatMap.mpr ⟨fun a ha=>?_,p.imp_of_mem fun {a b} ha Z0 q x hx y hy=>?_⟩
   ·refine zbd.mpr (List.pairwise_lt_range.imp fun {i j} hij=>?_);show nA 0 (a.1++[(i:Int)])<nA 0 (a.1++[(j:Int)]);rw[sn,sn];lia
   ·obtain⟨i,hi,rfl⟩:=zal.mp hx;obtain⟨j,hj,rfl⟩:=zal.mp hy;have hi:=zaS.mp hi;have:=hb a ha;show nA 0 (a.1++[(i:Int)])<nA 0 (b.1++[(j:Int)]);rw[sn,sn];lia
  exact key as (fun a ha=>by obtain⟨s,_,e,_⟩:=h.sa a ha;rw[e];exact hl s) h.aa
 ·exact .inl ((h.c1 x hx t e).resolve_right fun z=>by cases z)
 ·rcases h.c2 x hx n i t e with z |z |z
  ·exact .inl z
  ·cases z
  ·refine .inr (.inl (zbj.mpr ⟨_,z,zal.mpr ⟨i,zaS.mpr (zam.mp e).1,?_⟩⟩));show (((led x.1).getD i (0,[]),x.2++[(i:Int)]):bh×List Int)=_;rw[zar,e];rfl
 ·exact .inl (h.st.resolve_right fun z=>by cases z)
theorem BI.pB(li:∀s,S s->∀x∈led s,S x)(hl:∀s,(led s).length<=10)(hM:∀f:jb,yM S f->f.length<=M){n:Nat}(hn:M<n):∀(m k:Nat) (f:jb) (as:List (List Int×List bh)),(as≠[]->M<f.length+m)->yM S f->uX S k as->BI led s0 k f [] as->∃k',BI led s0 k' (pB led n m f as) [] []
 |0,k,f,as,hm,o,_,h=>by
  by_cases e:as=[]
  ·subst e;exact⟨k,h⟩
  ·exact absurd (hM f o) (by have:=hm e;lia)
 |m+1,k,f,as,hm,o,oa,h=>by
  rw[L2.pB];split
  ·rename_i e;subst e;exact⟨k,h⟩
  ·rename_i e;have q:=mZ li (n:=n) (m:=k+1) (aZ as) f o (ji oa);have h1:=BI.all li hM hn (aZ as) f [] o (fun x hx=>(ji oa x hx).1) (h.level hl);refine BI.pB li hl hM hn m (k+1) _ _ (fun e2=>?_) q.1 q.2.1 h1;have:=q.2.2;have:=hm e;have:0<(cR led n f (aZ as)).2.length:=zb2.mpr e2;lia
end
theorem Ho(pr:PG.Prog)(s:bh):(aY pr s).length<=10:=by
 unfold aY;split
 ·exact zaK _
 ·split
  ·rw[zad,zaZ];exact zag _
  ·cases (cI pr s.1 s.2 0).1<;>simp
theorem Tc{pr:PG.Prog}{s0 s:bh}{g:List Int}(c:Cm (aY pr) s0 s g):∀(r:List Int) (t:Tg),PG.Met (dy pr.body) (cI pr) (iE pr) (s,r) t->PG.Met (dy pr.body) (cI pr) (iE pr) (s0,g++r) t:=by
 induction c with
 |start=>exact fun r t m=>m
 |@one s x g _ e ih=>
  intro r t m;refine ih r t (.on (s':=(x,r)) ?_ m);unfold aY at e;split at e
  ·cases e
  ·rename_i h0;split at e
   ·have:=congrArg zba e;simp at this
   ·rename_i ha;rw[mV h0 (by simpa using ha),Option.toList_eq_singleton_iff.mp e];rfl
 |@many s x g i _ n e ih=>
  intro r t m;rw[zaV];refine ih _ t (.on (s':=(x,r)) ?_ m);unfold aY at e n;split at e
  ·cases e
  ·rename_i h0;rw[if_neg h0] at n;split at e
   ·rename_i ha;have hi:=(zam.mp e).1;rw[zad,zaZ] at hi;rw[zao,zcC hi] at e;show wt _ _ (s,(i:Int)::r)=_;rw[BK h0 ha];have:=yH s.1 s.2 (i:Int) ha;cases es:(cI pr s.1 s.2 (i:Int)).1 with
    |none=>exact absurd es this
    |some y=>
     have e:some ((cI pr s.1 s.2 (i:Int)).1.getD s)=some x:=e;rw[es] at e;cases e;rfl
   ·rename_i ha;rw[if_neg ha] at n;cases es:(cI pr s.1 s.2 0).1 with
    |none=>rw[es] at e;cases e
    |some y=>rw[es] at n;exact absurd rfl n
theorem ql{pr:PG.Prog}(d:dO pr):∃k,BI (aY pr) (bf pr) k (aK pr (bf pr)) [] []:=by
 have li:∀s,c8 pr s->∀x∈aY pr s,c8 pr x:=fun s h=>uV d h;have hM:∀f:jb,yM (c8 pr) f->f.length<=aM pr:=fun f h=>by
  have:=g8 h.nd fun s hs=>by obtain⟨x,hx,rfl⟩:=zal.mp hs;exact h.BN x hx
  rwa [zad] at this
 have g:=qj li (m:=0) (aM pr+1) [] (bf pr) [] .nil (c8.first d) (zag _);have h:=BI.kP li hM (aM pr+1) [] [] (bf pr) [] [] (by simp) .nil (c8.first d) (BI.start (led:=aY pr));exact BI.pB li (Ho pr) hM (zcm _) (aM pr+2) 0 _ _ (fun _=>by lia) g.1 g.2.1 h
theorem qV{D:zdv}{n:Nat}{te:TE}{Q:VK}{r:St}{H:Hp}(Pv:Nat->List V->Hp->Prop)(hl:n<=16000000)(hD:H D=none)(h0:Pv 0 [] (upd H D (.lst [])))
 (step:∀(i:Nat) ys H2,i<n->aq H H2->H2 D=some (.lst ys)->ys.length=i->Pv i ys H2->∀R:VK,(∀v H3,aq H2 H3->Pv (i+1) (ys++[v]) (upd H3 D (.lst (ys++[v])))->R v H3)->te (some (.int i)::r) H2 R)
 (q:∀ys H2,aq H H2->H2 D=some (.lst ys)->ys.length=n->Pv n ys H2->Q (.ref D) H2):pQ (UB 0 n) D (dW 0) xu te Q (none::r) (upd H D (.lst [])):=by
 have ln:((zaB n).map fun i:Nat=>V.int i).length=n:=by rw[zad,zaZ]
 refine qf (fun τ=>∃x,τ=x::r) ((zaB n).map fun i:Nat=>V.int i) Pv (fun i H2 _ hi=>by rw[ln] at hi;exact hi) (fun H2 _=>by rw[ln];exact zag n) (fun i H2 x H3 _ hi y=>?_) (by rw[ln];exact hl) hD ⟨_,rfl⟩ h0 (fun i x ys τ H2 hx ⟨z,e⟩ s2 h2 ly p2 R hR=>?_) (by rw[ln];exact q)
 ·rw[ln] at hi;obtain⟨rfl,rfl⟩:=y;refine⟨rfl,?_⟩;rw[zao,zcC hi,Int.zero_add];rfl
 ·have hi:=(zam.mp hx).1;rw[ln] at hi;rw[zao,zcC hi] at hx;cases hx;subst e;exact step i ys H2 hi s2 h2 ly p2 (R (some (.int i)::r)) fun v H3 s3 p3=>hR _ v H3 ⟨_,rfl⟩ s3 p3
abbrev O2 (D C:zdv):zdv->Prop:=fun b=>b=D\/b=C
structure xy(D C:zdv)(H H':Hp):Prop where
 u:bB (O2 D C) H H'
 dom:∀b,H b≠none->H' b≠none
section
variable{K:zaa}{H0 H H1 H2:Hp}{D C:zdv}
theorem xy.refl:xy D C H H:=⟨.refl,fun _ h=>h⟩
theorem xy.trans(a:xy D C H H1)(b:xy D C H1 H2):xy D C H H2:=⟨a.u.trans b.u,fun z h=>b.dom z (a.dom z h)⟩
theorem xy.of(s:aq H H1):xy D C H H1:=⟨.of s,fun b h=>by
 cases e:H b with
 |none=>exact absurd e h
 |some o=>rw[s b o e];simp⟩
theorem xy.put(o:HO){p:zdv}(hp:p=D\/p=C):xy D C H (upd H p o):=⟨bB.refl.put hp o,fun b h=>by
 by_cases z:b=p
 ·subst z;rw[ah];simp
 ·rw[au z];exact h⟩
theorem xy.get(a:xy D C H H1){b:zdv}{o:HO}(h:H b=some o)(n1:b≠D)(n2:b≠C):H1 b=some o:=a.u b o (fun z=>z.elim n1 n2) h
end
section
variable{κ:Type}[DecidableEq κ]{J:KH κ}
theorem Fz.up{P:zdH}{w:zdx}{K:zaa}{H H':Hp}{d:zdv}{kvs:List (κ×V)}{o:Obj}(f:Fz J P w K H d kvs o)(t:∀b ys,bQ K H b ys->bQ K H' b ys):Fz J P w K H' d kvs o:=by obtain⟨xs,h1,h2,h3⟩:=f.at_;exact⟨f.len,f.sys,xs,h1,h2.up t,h3⟩
theorem PH{X:Cx}{pins:List (zdv×Obj)}{σ:St}{H:Hp}{s:zdF}{a:zdv}{kvs:List (κ×V)}{o:Obj}(I:Inv X pins σ H s)(e:H a=some (cO a o))(f:Fz J X.prog X.w X.K H a kvs o):∃xs,s.heap.DictOfH (J.knd X.prog X.w) a xs/\KS J X.K H kvs xs:=by
 obtain⟨hg, -⟩:=(show du X.prog X.w H s.heap a (cO a o) from I.bX a _ e)
 obtain⟨xs,h1,h2,h3⟩:=f.at_;obtain⟨o',es,ep,g1,g2,g3,g4⟩:=h1 s.heap hg;refine⟨xs,⟨o',es,ep,g1,g2,g3,g4,?_,h3⟩,h2⟩;clear h1 h3 g4 f
 induction h2 with
 |nil=>intro x hx;cases hx
 |@cons p q ps qs hq t ih=>
  intro x hx;rcases zah.mp hx with rfl |hx
  ·exact J.of I (hq.1▸hq.2.1)
  ·exact ih x hx
end
end L2
namespace PG
section
variable{α τ:Type}[DecidableEq τ]
def fc(M:α->List τ)(l:List α)(t:τ):Int:=((l.filter fun f=>decide (t∈M f)).length:Int)
theorem m4{M:α->List τ}{t:τ}:fc M [] t=0:=rfl
theorem m6{M:α->List τ}{f:α}{r:List α}{t:τ}:fc M (f::r) t=(if t∈M f then 1 else 0)+fc M r t:=by
 unfold fc;by_cases h:t∈M f
 ·rw[zcq,if_pos (decide_eq_true h),if_pos h,zap];omega
 ·rw[zcq,if_neg (by rw[decide_eq_false h];exact zai),if_neg h];omega
theorem yS{M:α->List τ}{a b:List α}{t:τ}:fc M (a++b) t=fc M a t+fc M b t:=by
 unfold fc;rw[zbP,zaf];omega
theorem yT{M:α->List τ}{l:List α}{t:τ}:0<=fc M l t:=by unfold fc;omega
theorem qm{M:α->List τ}{l:List α}{t:τ}:1<=fc M l t↔∃f∈l,t∈M f:=by
 unfold fc
 constructor
 ·intro h;obtain⟨f,hf⟩:=List.exists_mem_of_length_pos (l:=l.filter fun f=>decide (t∈M f)) (by first|decide|omega);obtain⟨h1,h2⟩:=zb3.mp hf;exact⟨f,h1,of_decide_eq_true h2⟩
 ·rintro ⟨f,h1,h2⟩
  have:=zdc (zb3.mpr ⟨h1,decide_eq_true h2⟩:f∈l.filter fun f=>decide (t∈M f));omega
def hJ(M:α->List τ):List α->(τ->Int)->List α
 |[],_=>[]
 |f::r,c=>if (M f).any (fun t=>decide (c t=1))=true then f::hJ M r c else hJ M r (fun t=>if t∈M f then c t-1 else c t)
theorem qo{M:α->List τ}:∀(l k:List α) (c:τ->Int),(∀t,c t=fc M k t+fc M l t)->
 (∀t,fc M (k++hJ M l c) t<=c t)/\(∀t,1<=c t->1<=fc M (k++hJ M l c) t)/\(∀f∈hJ M l c,f∈l/\∃t∈M f,fc M (k++hJ M l c) t=1)/\(hJ M l c).Sublist l
 |[],k,c,h=>by
  have e:∀t,c t=fc M k t:=fun t=>by rw[h t,m4];omega
  rw[hJ,zaG];exact⟨fun t=>by rw[e t];exact zaF _,fun t z=>by rw[<- e t];exact z,fun f hf=>absurd hf zaH,List.Sublist.slnil⟩
 |f::r,k,c,h=>by
  rw[hJ];by_cases z:(M f).any (fun t=>decide (c t=1))=true
  ·rw[if_pos z];have h':∀t,c t=fc M (k++[f]) t+fc M r t:=fun t=>by
    rw[h t,yS,m6,m6,m4];omega
   obtain⟨h1,h2,h3,h4⟩:=qo r (k++[f]) c h';rw[show k++f::hJ M r c=(k++[f])++hJ M r c by rw[zaV];rfl];refine⟨h1,h2,fun g hg=>?_,h4.cons_cons f⟩;rcases zah.mp hg with rfl |hg
   ·obtain⟨t,ht,e⟩:=zbz.mp z;have e:=of_decide_eq_true e;refine⟨zan ..,t,ht,?_⟩;have:=h1 t;have:=h2 t (by first|decide|omega);omega
   ·obtain⟨a,b⟩:=h3 g hg;exact⟨zaj _ a,b⟩
  ·rw[if_neg z];have two:∀t∈M f,2<=c t:=fun t ht=>by
    have n1:¬c t=1:=fun e=>z (zbz.mpr ⟨t,ht,decide_eq_true e⟩);have:=h t;rw[m6,if_pos ht] at this;have p1:=yT (M:=M) (l:=k) (t:=t);have p2:=yT (M:=M) (l:=r) (t:=t);omega
   have h':∀t,(if t∈M f then c t-1 else c t)=fc M k t+fc M r t:=fun t=>by
    rw[h t,m6];by_cases y:t∈M f
    ·rw[if_pos y,if_pos y];omega
    ·rw[if_neg y,if_neg y];omega
   obtain⟨h1,h2,h3,h4⟩:=qo r k _ h';refine⟨fun t=>?_,fun t ht=>?_,fun g hg=>?_,h4.cons f⟩
   ·have:=h1 t;by_cases y:t∈M f
    ·rw[if_pos y] at this;omega
    ·rw[if_neg y] at this;exact this
   ·refine h2 t ?_;by_cases y:t∈M f
    ·rw[if_pos y];have:=two t y;omega
    ·rw[if_neg y];exact ht
   ·obtain⟨a,b⟩:=h3 g hg;exact⟨zaj _ a,b⟩
theorem Jn{M:α->List τ}{l:List α}{t:τ}(h:∃f∈l,t∈M f):∃f∈hJ M l (fc M l),t∈M f:=by
 obtain⟨_,h2,_⟩:=qo (M:=M) l [] (fc M l) (fun t=>by rw[m4];omega);exact qm.mp (h2 t (qm.mpr h))
theorem Jo{M:α->List τ}{l:List α}{i:Nat}(hi:i<(hJ M l (fc M l)).length):∃t∈M (hJ M l (fc M l))[i],∀j (hj:j<(hJ M l (fc M l)).length),j≠i->¬t∈M (hJ M l (fc M l))[j]:=by
 obtain⟨_,_,h3,_⟩:=qo (M:=M) l [] (fc M l) (fun t=>by rw[m4];omega);obtain⟨_,t,ht,e⟩:=h3 _ (zas hi);rw[zb5] at e;refine⟨t,ht,fun j hj n z=>?_⟩;generalize hJ M l (fc M l)=q at *;have two:∀(q:List α) (i j:Nat) (hi:i<q.length) (hj:j<q.length),i<j->t∈M q[i]->t∈M q[j]->2<=fc M q t:=by
  intro q i j hi hj lt h1 h2;have e:q=q.take j++q.drop j:=(zbC j q).symm;rw[e,yS];have a1:1<=fc M (q.take j) t:=qm.mpr ⟨q[i],zcT.mpr ⟨i,by first|decide|omega,rfl⟩,h1⟩;have a2:1<=fc M (q.drop j) t:=qm.mpr ⟨q[j],List.mem_drop_iff_getElem.mpr ⟨0,by first|decide|omega,by simp⟩,h2⟩;omega
 rcases Nat.lt_or_gt_of_ne n with lt |lt
 ·have:=two q j i hj hi lt z ht;omega
 ·have:=two q i j hi hj lt ht z;omega
end
end PG
namespace L2
open PG
open PySem PySem.Spec PyProof.Rows
theorem PJ(us:List V)(k:Nat):Ae us none (some (k:Int))=us.take k:=by
 unfold Ae;rw[HT.yh,HT.Bw,zdg,Nat.sub_zero];by_cases z:k<=us.length
 ·rw[Nat.min_eq_left z]
 ·rw[Nat.min_eq_right (by lia),zbp (zag _),zbp (by lia)]
theorem Ba{K:zaa}{a D:zdv}{xs:List V}{g:TG}{tc:TT}{te:TE}{Q:VK}{τ0:St}{H:Hp}(G:St->Prop)(Pv:Nat->List V->Hp->Prop)(hS:jc K H a xs)
 (hl:xs.length<=16000000) (hD:H D=none) (g0:G τ0) (h0:Pv 0 [] (upd H D (.lst [])))
 (step:∀i x ys τ H2,xs[i]?=some x->G τ->aq H H2->H2 D=some (.lst ys)->ys.length<=i->Pv i ys H2->∀R:St->Bool->Hp->Prop,(∀τ' H3 b,G τ'->aq H2 H3->(b=false->Pv (i+1) ys H3)->(b=true->∀R':VK,(∀v H4,aq H3 H4->Pv (i+1) (ys++[v]) (upd H4 D (.lst (ys++[v])))->R' v H4)->te τ' H3 R')->R τ' b H3)->g x τ H2 fun τ' H'=>tc τ' H' (R τ'))
 (q:∀ys H2,aq H H2->H2 D=some (.lst ys)->ys.length<=xs.length->Pv xs.length ys H2->Q (.ref D) H2):pQ (GC K a) D g tc te Q τ0 (upd H D (.lst [])):=by
 refine⟨fun i m τ H2=>m=xs.length-i/\i<=xs.length/\G τ/\aq H H2/\∃ys,H2 D=some (.lst ys)/\ys.length<=i/\Pv i ys H2,⟨xs.length,by simp,zaK _,g0,aq.new hD _,[],ah,zag _,h0⟩,?_⟩
 rintro i m τ H2 ⟨rfl,hi,gt,s2,ys,h2,ly,p2⟩
 by_cases rV:i<xs.length
 ·refine .inr ⟨⟨xs,xs[i],s2.seq hS,by simp[rV]⟩,fun τ' H'=>G τ'/\aq H H'/\∃ys,H' D=some (.lst ys)/\ys.length<=i+1/\Pv (i+1) ys H',fun τ' H' ⟨h1,h3,h4⟩=>⟨xs.length-(i+1),by lia,rfl,rV,h1,h3,h4⟩,fun y H' hy=>?_⟩;obtain⟨rfl,hy⟩:=hy;have ey:=hy _ (s2.seq hS);refine step i y ys τ _ ey gt s2 h2 ly p2 (fun τ' b H3=>_) fun τ' H3 b Yl s3 hf ht=>?_;cases b with
  |false=>
   rw[if_neg (by decide)];exact⟨Yl,s2.trans s3,ys,s3 _ _ h2,by lia,hf rfl⟩
  |true=>
   rw[if_pos rfl];refine ht rfl _ fun v H4 s4 p4=>⟨ys,s4 _ _ (s3 _ _ h2),?_,Yl,?_,ys++[v],ah,by rw[zaf,zaC];lia,p4⟩
   ·have:zdD=2 ^ 24:=rfl;lia
   ·intro b o e;rw[au (aj e hD)];exact s4 _ _ (s3 _ _ (s2 _ _ e))
 ·have e:i=xs.length:=by lia
  subst e;exact .inl ⟨⟨xs,s2.seq hS,zag _⟩,q ys H2 s2 h2 ly p2⟩
section
variable{prog:zdH}{w:zdx}{A:zdG}{E:zdw->zdF->Prop}{s:zdF}{d it:zdv}{es:Array DictEntry}{ep i:Nat}
theorem Jp{Q:Option zdw->zdF->Prop}(x:s.heap.IsValIter it d i es.size ep)(y:j4 s.heap d es ep)(li:i<es.size)
 (q:∀h',h'.IsValIter it d (i+1) es.size ep->Heap.SameBut it s.heap h'->Q (some es[i].val) {s with heap:=h' }):wpAny (model prog w) A (pyNext (.ref it)) Q E s:=by
 have Aj:=x.typeIs;obtain⟨oi,gi,ci,di⟩:=id x;obtain⟨od,gd,_,dd⟩:=id y;have ow:Builtin.Dict_items.ownsTuple "dict_valueiterator"=false:=by decide
 unfold pyNext;refine zdy (wpAny_attempt (wpAny_callSpecial?_slot (name:=zac "__next__") Aj F.slot_dict_valueiterator_next (wpAny_call_entry F.slot_dict_valueiterator_next Aj F.entry_dict_valueiterator_next ?_ (F.args_dict_valueiterator_next_1 _))));refine zdy (zdz (zdy (zdy ?_)));refine zdy (wpAny_typeNameOfWhole_valiter Aj (zdz (zdy (wpAny_fieldsOf gi di ?_))));simp only[ow,zaA,if_false];show wpAny _ _ (if (Value.ref d==Value.none)=true then _ else _) _ _ s;rw[if_neg (show ¬((Value.ref d==Value.none)=true) from zai)];refine zdy (zdz (zdy (wpAny_dictEntries gd dd ?_)));rw[if_neg (by simp)];refine zdy (zdz (zdy (wpAny_dictEpoch gd dd ?_)));rw[if_neg (by simp)];refine zdz ?_;simp only[show ¬((i:Int)<0) from by lia,if_false,zaU,zbF li];refine zdy (zdy (wpAny_typeNameOfWhole_valiter Aj (zdz (zdy (wpAny_isOneOf_valiter Aj ?_)))));show wpAny _ _ (setField (.ref it) 1 (rawInt ((i:Int)+1)) >>= _) _ _ s;refine zdy (wpAny_setField gi di (by simp) ?_);have z:(s.heap.update it (Obj.mapFields (·.setIfInBounds 1 (rawInt ((i:Int)+1))))).IsValIter it d (i+1) es.size ep:=
  ⟨_,Heap.get?_update_self _ gi (Obj.isFreed_of_fields (Obj.data_mapFields di _)),(Obj.cls_mapFields ..).trans ci,by rw[Obj.data_mapFields di];simp[rawInt]⟩
 refine zdy (zdA (zdy (wpAny_isOneOf_valiter (s:={s with heap:=s.heap.update it (Obj.mapFields (·.setIfInBounds 1 (rawInt ((i:Int)+1))))}) z.typeIs ?_)));refine zdy (wpAny_isOneOf_valiter (s:={s with heap:=s.heap.update it (Obj.mapFields (·.setIfInBounds 1 (rawInt ((i:Int)+1))))}) z.typeIs ?_);show wpAny _ _ (pure es[i].val) _ _ _;exact zdz (zdz ⟨_,rfl,zdz (q _ z (Heap.SameBut.update ..))⟩)
theorem MF{Q:Option zdw->zdF->Prop}(hA:A.handled=none)(x:s.heap.IsValIter it d i es.size ep)(y:j4 s.heap d es ep)(li:es.size<=i)
 (q:∀h',Heap.ExtBut it s.heap h'->Q none {s with heap:=h' }):wpAny (model prog w) A (pyNext (.ref it)) Q E s:=by
 have Aj:=x.typeIs;obtain⟨oi,gi,ci,di⟩:=id x;obtain⟨od,gd,_,dd⟩:=id y;have ow:Builtin.Dict_items.ownsTuple "dict_valueiterator"=false:=by decide
 unfold pyNext;refine zdy (wpAny_attempt (wpAny_callSpecial?_slot (name:=zac "__next__") Aj F.slot_dict_valueiterator_next (wpAny_call_entry F.slot_dict_valueiterator_next Aj F.entry_dict_valueiterator_next ?_ (F.args_dict_valueiterator_next_1 _))));refine zdy (zdz (zdy (zdy ?_)));refine zdy (wpAny_typeNameOfWhole_valiter Aj (zdz (zdy (wpAny_fieldsOf gi di ?_))));simp only[ow,zaA,if_false];show wpAny _ _ (if (Value.ref d==Value.none)=true then _ else _) _ _ s;rw[if_neg (show ¬((Value.ref d==Value.none)=true) from zai)];refine zdy (zdz (zdy (wpAny_dictEntries gd dd ?_)));rw[if_neg (by simp)];refine zdy (zdz (zdy (wpAny_dictEpoch gd dd ?_)));rw[if_neg (by simp)];refine zdz ?_;simp only[show ¬((i:Int)<0) from by lia,if_false,zaU,zci li];refine zdy (zdy (wpAny_typeNameOfWhole_valiter Aj (zdz ?_)));show wpAny _ _ (setField (.ref it) 0 .none >>= _) _ _ s;refine zdy (wpAny_setField gi di (by simp) ?_);show wpAny _ _ (newExc (.type "StopIteration") [] >>= _) _ _ _;refine zdy ?_;simp only[newExc,newTuple];refine zdy (wpAny_newObj_type (zdy (m:=firstArgMember _ _) (wpAny_of_eq (a:=Value.none) (by first |rfl |(simp only[firstArgMember];rfl)) (wpAny_newObj_type ?_ (by size_fits)))) (by size_fits));simp only[raiseNew];refine zdy (wpAny_handled ?_);rw[show A.in1.handled=none from hA];refine zdy (zdz (wpAny_throw (zdy ?_)));refine wpAny_isInstance (T:="StopIteration") (b:=true) ⟨_,Heap.get?_push_size _ rfl,rfl⟩ isSubtype_stop ?_;exact zdz (q _ (((Heap.SameBut.update ..).extBut.push _).push _))
theorem FU(d:zdv)(hd:(d==sysModules)=false) :
 MeetsIn prog w (Builtin.«dict.values» ⟨[.ref d],[]⟩) (fun _ R s=>(∃es ep,j4 s.heap d es ep)/\R (.ok (.ret (.ref s.heap.objs.size))) {s with heap:=s.heap.push {cls:=.type "dict_values",data:=.fields #[.ref d]} }):=
 .of_wp fun A R s ⟨⟨es,ep,en⟩,h⟩=>by
  refine zdy ?_;unfold Builtin.Dict.noArgs;refine zdy (wpAny_notOrdered_dict en.ty ?_);show wpAny _ _ (pure d) _ _ s;refine zdz ?_;show wpAny _ _ (Builtin.Dict.showsAll d >>= _) _ _ s;unfold Builtin.Dict.showsAll;rw[if_neg (by rw[hd];exact zai)];refine zdy (zdz ?_);exact zdy (wpAny_newObj_type (zdz ⟨_,rfl,h⟩))
theorem Jq{v:zdv}{Q:zdw->zdF->Prop}(hv:s.heap.IsValuesView v d)(en:j4 s.heap d es ep)
 (q:Q (.ref s.heap.objs.size) {s with heap:=s.heap.push {cls:=.type "dict_valueiterator",data:=.fields #[.ref d,.int 0 0,.int es.size 0,.int ep 0]} }) :
 wpAny (model prog w) A (pyIter (.ref v)) Q E s:=by
 obtain⟨ov,gv,cv,dv⟩:=id hv;obtain⟨o,ho,hc,dt⟩:=id en;refine wpAny_pyIter_slot hv.typeIs F.slot_dict_values_iter (wpAny_call_entry F.slot_dict_values_iter hv.typeIs F.entry_dict_values_iter ?_ (F.args_dict_values_iter_1 _));unfold Builtin.«dict_values.__iter__»;refine zdy (zdz (zdy ?_));unfold Builtin.Dict_items.dictOf;refine zdy (wpAny_field gv dv (x:=.ref d) rfl (zdz (zdy ?_)));unfold Builtin.Dict_items.newIterator;refine zdy (wpAny_dictEntries ho dt (zdy (wpAny_dictEpoch ho dt ?_)));have ow:Builtin.Dict_items.ownsTuple "dict_valueiterator"=false:=by decide
 simp only[ow,zaA,if_false];refine wpAny_newObj_type (zdz ⟨_,rfl, "dict_valueiterator",_,⟨_,Heap.get?_push_size _ rfl,rfl⟩,F.slot_dict_valueiterator_next.lookup,?_⟩);simpa[rawInt] using q
end
def Itv (d:zdv) (o:Obj) (ps:List (zdv×V)):It:=
 ⟨fun i H=>H d=some (cO d o)/\i<ps.length,fun i H x H'=>H'=H/\∃b,ps[i]?=some (b,x),fun i H=>H d=some (cO d o)/\ps.length<=i⟩
theorem Jr{P:zdH}{w:zdx}{K:zaa}{tg:Expr}{d it:zdv}{o:Obj}{ps:List (zdv×V)}{es:Array DictEntry}{ep:Nat}(hx:o.ExactDict)(hd:o.data=.dict es ep)(ev:EV ps es) :
 Turn P w K tg (Itv d o ps) [it] it (fun i h=>h.IsValIter it d i es.size ep) where
 mem:=by simp
 obj:=fun i h st b hb=>by
  obtain⟨oi,eo,c,dd⟩:=st;have z:b=it:=by simpa using hb
  subst z;exact⟨oi,eo,fun v z=>by rw[dd] at z;cases z⟩
 keep:=fun i h h' st k=>st.at fun o x=>k it (by simp) o x
 item:=by
  intro X hP hw hK hc i pins s σ H E I hf st hg;subst hP hw hK;obtain⟨hH,hi⟩:=hg;rw[<- ev.size] at hi;obtain⟨f0,f1,f2,f3,f4,f5⟩:=hf it (by simp);obtain⟨b,v,e1,_,rv⟩:=ev.at hi;refine Jp st ⟨o,cO.get I.bX hH,hx,hd⟩ hi fun h' C2 sb=>?_;obtain⟨oi,eo,c,dd⟩:=id C2;refine⟨_,rfl,GB (s:={s with heap:=h' }) (n:="dict_valueiterator") eo c dd (by decide) ⟨v,H,I.turned (t':=s.toks) (fun b o hb e=>sb.extBut b o hb e) f0 f1 f3 f4 f5,rv,⟨rfl,b,e1⟩,C2,fun b hb=>(hf b hb).1⟩⟩
 done:=by
  intro X hP hw hK hc i pins s σ H E I hf st hg;subst hP hw hK;obtain⟨hH,hi⟩:=hg;rw[<- ev.size] at hi;obtain⟨f0,f1,f2,f3,f4,f5⟩:=hf it (by simp);exact MF (I.ok.hd hc) st ⟨o,cO.get I.bX hH,hx,hd⟩ hi fun h' eb=>⟨rfl,I.turned (t':=s.toks) (fun b o hb e=>eb b o hb e) f0 f1 f3 f4 f5⟩
 self:=fun _ _ _ _ _ st h=>wpAny_pyIter_valiter st h
section
variable{κ:Type}[DecidableEq κ](J:KH κ)
def kQ (p d:zdv):Heap->Prop:=fun h=>h.IsValuesView p d
def MG (P:zdH) (w:zdx) (K:zaa) (to:TE):TE:=fun σ H Q=>to σ H fun x H1=>∃d kvs,x=.ref d/\DS J P w K H1 d kvs/\∀p,H1 p=none->Q (.ref p) (upd H1 p (.ext (kQ p d)))
def Rp (P:zdH) (w:zdx) (K:zaa) (tl:TE):TI:=fun σ H R=>tl σ H fun x H1=>∃p d kvs,x=.ref p/\H1 p=some (.ext (kQ p d))/\DS J P w K H1 d kvs/\∀o ps,Fz J P w K H1 d kvs o->xx J K H1 kvs ps->R (Itv d o ps) (upd H1 d (cO d o))
def tFz (P:zdH) (w:zdx) (K:zaa) (tl:TE):TE:=fun σ H Q=>tl σ H fun x H1=>∃d kvs,x=.ref d/\DS J P w K H1 d kvs/\∀o,Fz J P w K H1 d kvs o->Q (.ref d) (upd H1 d (cO d o))
def yU (P:zdH) (w:zdx) (K:zaa) (tl:TE):TI:=fun σ H R=>tl σ H fun x H1=>∃d o kvs,x=.ref d/\H1 d=some (cO d o)/\Fz J P w K H1 d kvs o/\∀ps,xx J K H1 kvs ps->R (Rk d o ps) H1
def BU (P:zdH) (w:zdx) (K:zaa) (td ty:TE):TE:=fun σ H Q=>td σ H fun x H1=>ty σ H1 fun y H2=>∃(a b:zdv) (kvs:List (κ×V)) (k:κ) (v:V) (o:Obj),x=.ref a/\y=.ref b/\H2 a=some (cO a o)/\Fz J P w K H2 a kvs o/\J.on K H2 k b/\bL kvs k=some v/\Q v H2
def Rq (P:zdH) (w:zdx) (K:zaa) (td ty tx:TE):TE:=fun σ H Q=>td σ H fun x H1=>∃a,x=.ref a/\(∃kvs,DS J P w K H1 a kvs)/\ty σ H1 fun y H2=>tx σ H2 fun z H3=>∃(b:zdv) (kvs:List (κ×V)) (k:κ),y=.ref b/\DS J P w K H3 a kvs/\J.on K H3 k b/\Q ((bL kvs k).getD z) H3
variable{J}
section
variable{X:Cx}{P:zdH}{w:zdx}{K:zaa}{tg l e f o i:Expr}{tl to td ty tx:TE}{apos gX pos:Pos}
theorem PK(ho:PE X e to)(yk:attributeBase e "values" X.env (eval e X.env)=eval e X.env:=by rfl)(ym:(apos.endLine==gX.line)=true:=by rfl):PE X (.Call (.Attribute e "values" apos) [] [] gX) (MG J X.prog X.w X.K to):=by
 intro pins s σ H Q I h;refine wpAny_Call_method0_late yk ym (dE (ho pins s σ H _ I h) fun v s1 zqz=>?_);obtain⟨x,H1,I1,r1,q1⟩:=zqz;obtain⟨d,kvs,rfl,ds,q⟩:=q1;cases r1;obtain⟨o,es,ep,ps,h1,h2,h3,ev,fz,po,I2⟩:=freeze I1 ds;refine⟨"dict", "dict.values",zbM,zc2,PySem.F.type_dict_values,⟨o,h1,h2.1⟩,fun a e2=>by cases e2;exact⟨o,h1,h2.2.1⟩,Calls.callWith_builtin rfl (PySem.evalArgs_none ?_)⟩;refine call_meetsIn zc2 ⟨o,h1,h2.1⟩ PySem.F.entry_dict_values (PySem.F.args_dict_values_1 _) (FU d ds.sys) ⟨⟨es,ep,o,h1,h2,h3⟩,?_⟩;refine⟨.ref s1.heap.objs.size,_,I1.laid (a:=s1.heap.objs.size) (o:=.ext (kQ s1.heap.objs.size d)) (t':=s1.toks) (fun _ _ q=>Heap.get?_push_of_some _ q) (zag _) ⟨⟨_,Heap.get?_push_size _ rfl,rfl,rfl⟩,⟨_,Heap.get?_push_size _ rfl⟩,fun g1 g2 p1 kp=>?_⟩,rfl,q _ (I1.bX.fresh (zag _))⟩;obtain⟨ob,e1,e2⟩:=p1;exact⟨ob,kp ob e1,e2⟩
theorem MH(hl:PE X l tl):PI X tg l (Rp J X.prog X.w X.K tl):=by
 intro pins s σ H R I h;refine dE (hl pins s σ H _ I h) fun v s1 zqz=>?_;obtain⟨x,H1,I1,r1,q1⟩:=zqz;obtain⟨p,d,kvs,rfl,hp,ds,q⟩:=q1;cases r1;obtain⟨o,es,ep,ps,h1,h2,h3,ev,fz,po,I2⟩:=freeze I1 ds;have hv:s1.heap.IsValuesView p d:=(I1.bX p _ hp).1;refine Jq hv ⟨o,h1,h2,h3⟩ ?_;have I3:=I2.kept (t':=s1.toks) (h':=s1.heap.push {cls:=.type "dict_valueiterator",data:=.fields #[.ref d,.int 0 0,.int es.size 0,.int ep 0]}) fun b o e=>Heap.get?_push_of_some _ e;refine⟨s1.heap.objs.size,[s1.heap.objs.size],_,Itv d o ps,_,rfl,I3,Jr h2 h3 ev,⟨_,Heap.get?_push_size _ rfl,rfl,rfl⟩,fun b hb=>?_,q o ps fz po⟩;have e:b=s1.heap.objs.size:=by simpa using hb
 subst e;exact I2.Br (zag _) (I2.bX.fresh (zag _))
theorem WI(hl:PE X l tl):PE X l (tFz J X.prog X.w X.K tl):=by
 intro pins s σ H Q I h;refine dE (hl pins s σ H _ I h) fun v s1 zqz=>?_;obtain⟨x,H1,I1,r1,q1⟩:=zqz;obtain⟨d,kvs,rfl,ds,q⟩:=q1;cases r1;obtain⟨o,es,ep,ps,h1,h2,h3,ev,fz,po,I2⟩:=freeze I1 ds;exact⟨.ref d,_,I2,rfl,q o fz⟩
theorem Td(eP:X.prog=P)(ew:X.w=w)(eK:X.K=K)(hl:PE X l tl):PE X l (tFz J P w K tl):=by subst eP ew eK;exact WI hl
theorem WJ{pins:List (zdv×Obj)}{σ:St}{H:Hp}{s:zdF}{a:zdv}{kvs:List (κ×V)}{o:Obj}(I:Inv X pins σ H s)(e:H a=some (cO a o))(z:Fz J X.prog X.w X.K H a kvs o):s.heap.get? a=some o/\∃es ep ps,o.ExactDict/\o.data=.dict es ep/\EV ps es/\xx J X.K H kvs ps:=by
 have hg:=cO.get I.bX e;refine⟨hg,?_⟩;obtain⟨xs,h1,h2,h3⟩:=z.at_;obtain⟨o',es,ep,g1,g2,g3,g4⟩:=h1 s.heap hg;rw[hg] at g1;cases g1;obtain⟨ps,p1,p2⟩:=MC (P:=X.prog) (w:=X.w) h2;refine⟨es,ep,ps,g2,g3,?_,p1⟩;unfold EV;rw[g4];exact p2
theorem ve(hl:PE X l tl):PI X tg l (yU J X.prog X.w X.K tl):=by
 intro pins s σ H R I h;refine dE (hl pins s σ H _ I h) fun v s1 zqz=>?_;obtain⟨x,H1,I1,r1,q1⟩:=zqz;obtain⟨d,o,kvs,rfl,hd,fz,q⟩:=q1;cases r1;obtain⟨h1,es,ep,ps,h2,h3,ev,po⟩:=WJ I1 hd fz;refine DG fz.sys ⟨o,h1,h2,h3⟩ ?_;have I3:=I1.kept (t':=s1.toks) (h':=s1.heap.push {cls:=.type "dict_keyiterator",data:=.fields #[.ref d,.int 0 0,.int es.size 0,.int ep 0]}) fun b o e=>Heap.get?_push_of_some _ e;refine⟨s1.heap.objs.size,[s1.heap.objs.size],_,Rk d o ps,_,rfl,I3,A7 h2 h3 ev,⟨_,Heap.get?_push_size _ rfl,rfl,rfl⟩,fun b hb=>?_,q ps po⟩;have e:b=s1.heap.objs.size:=by simpa using hb
 subst e;exact I1.Br (zag _) (I1.bX.fresh (zag _))
theorem yV(hu:X.A.units+16<cLine)(ho:PE X o td)(hi:PE X i ty)(hs:K0 i):PE X (.Subscript o i pos) (BU J X.prog X.w X.K td ty):=by
 intro pins s σ H Q I h;refine BC PySem.F.slot_dict_getitem.lookup hs (dE (ho pins s σ H _ I h) fun u s1 zqz=>?_);obtain⟨x,H1,I1,rx,q1⟩:=zqz;refine dE (hi pins s1 σ H1 _ I1 q1) fun iv s2 zqz=>?_;obtain⟨y,H2,I2,ry,a,b,kvs,k,v,ob,ex,ey,e,z,hk,lv,q2⟩:=zqz;subst ex ey;cases rx;cases ry;obtain⟨xs,dd,ks⟩:=PH I2 e z;refine⟨dd.typeIs,?_⟩;obtain⟨w',hw,E9⟩:=mh.some_of (v:=v) (o:=(atKey xs k).map (·.2)) (by rw[<- lv];exact ks.val k);obtain⟨p,hp,BB⟩:=zaM.mp hw;refine wpAny_getItem_heap (knd:=J.knd X.prog X.w) (J.room hu) (J.of I2 hk) dd hp ?_;rw[BB];exact⟨v,H2,I2.tok _,E9,q2⟩
theorem PL(hu:X.A.units+16<cLine)(ho:PE X o td)(he:PE X e ty)(hf:PE X f tx)(m:M2 X o "get" apos e f gX):PE X (.Call (.Attribute o "get" apos) [e,f] [] gX) (Rq J X.prog X.w X.K td ty tx):=by
 intro pins s σ H Q I h;refine wpAny_Call_method m.base m.CM m.line zbM zdj PySem.F.type_dict_get (dE (ho pins s σ H _ I h) fun u s1 zqz=>?_);obtain⟨x,H1,I1,rx,q1⟩:=zqz;obtain⟨a,ex,⟨Ta,UI⟩,q1⟩:=q1;subst ex;cases rx;obtain⟨ob,es,ep,ps,h1,h2,h3,ev,fz,po,_⟩:=freeze I1 UI;refine⟨⟨ob,h1,h2.1⟩,fun a e2=>by cases e2;exact⟨ob,h1,h2.2.1⟩,?_⟩;rw[m.trees];refine Calls.callWith_builtin rfl (Calls.evalArgs_plain (Calls.spliced_cons (dE (he pins s1 σ H1 _ I1 q1) fun iv s2 ⟨y,H2,I2,ry,q2⟩=>Calls.spliced_cons (dE (hf pins s2 σ H2 _ I2 q2) fun fv s3 ⟨z,H3,I3,rz,b,kvs,k,ey,ds,hk,q3⟩=>Calls.spliced_nil ?_))));subst ey;cases ry;have dd:=ds;obtain⟨zz,sy,xs,e3,rel,nd⟩:=dd;have D2:=xb I3 e3 rel nd;refine call_meetsIn zdj D2.typeIs PySem.F.entry_dict_get (PySem.F.args_dict_get_3 _ _ _) (meetsH_dict_get_default (J.knd X.prog X.w) a b sy fv) ⟨J.room hu,k,xs,J.of I3 hk,D2,?_⟩;exact⟨_,H3,I3.tok _,(rel.val k).getD rz,q3⟩
end
end
structure CP(K:zaa)(CC CW:zdv)(H:Hp)(wk ch fl:zdv)(pr:PG.Prog)(aU:List Int)(n:Nat)(row:Int)(vals:List Int)(e:Option gS):Prop where
 at_:∃(dx sa:zdv) (ev:V),H wk=some (.ins CW dx (Ws ch fl n sa ev))/\cQ K H sa row vals/\wg K H e ev
 WK:rG K CC H ch pr
 Yu:bQ K H fl (aU.map V.int)
 Yv:ch≠wk
theorem CP.mono{K:zaa}{CC CW:zdv}{H H':Hp}{wk ch fl:zdv}{pr:PG.Prog}{aU:List Int}{n:Nat}{row:Int}{vals:List Int}{e:Option gS}(h:CP K CC CW H wk ch fl pr aU n row vals e)(s:aq H H'):CP K CC CW H' wk ch fl pr aU n row vals e:=
 let ⟨dx,sa,ev,h1,h2,h3⟩:=h.at_
 ⟨⟨dx,sa,ev,s _ _ h1,h2.mono s,h3.mono s⟩,h.WK.mono s,s.bM h.Yu,h.Yv⟩
theorem CP.put{K:zaa}{CC CW:zdv}{H:Hp}{wk ch fl dx sa Yw:zdv}{pr:PG.Prog}{aU:List Int}{n n':Nat}{row WL:Int}{vals Rr:List Int}{e e':Option gS}{ev Yx:V}(h:CP K CC CW H wk ch fl pr aU n row vals e)(hw:H wk=some (.ins CW dx (Ws ch fl n sa ev)))
 (hs:cQ K H Yw WL Rr) (he:wg K H e' Yx):CP K CC CW (upd H wk (.ins CW dx (Ws ch fl n' Yw Yx))) wk ch fl pr aU n' WL Rr e':=by
 have u:aS wk H (upd H wk (.ins CW dx (Ws ch fl n' Yw Yx))):=(aS.refl _ _).put _;exact⟨⟨dx,Yw,Yx,ah,hs.ins hw u,he.ins hw u⟩,h.WK.ins hw h.Yv u,h.Yu.ins hw u,h.Yv⟩
section
variable(K:zaa)(CC CW:zdv)
def MJ:Sp:=fun vs H Q _=>∃(wk dx ch fl:zdv) (pr:PG.Prog) (aU:List Int),vs=[.ref wk,.ref ch,.ref fl]/\H wk=some (.ins CW dx [])/\rG K CC H ch pr/\bQ K H fl (aU.map V.int)/\
 ∀H',aS wk H H'->CP K CC CW H' wk ch fl pr aU 0 (bg pr.body 0) (pr.aA.map (·.first)) (PG.endAt (bg pr.body 0))->Q .dR H'
def MK:Sp:=fun vs H Q _=>∃(wk ch fl:zdv) (pr:PG.Prog) (aU:List Int) (n:Nat) (row:Int) (vals:List Int),vs=[.ref wk]/\CP K CC CW H wk ch fl pr aU n row vals none/\
 ∀H',aS wk H H'->CP K CC CW H' wk ch fl pr aU n row vals (PG.endAt row)->Q .dR H'
def PN:Sp:=fun vs H Q _=>∃(wk ch fl:zdv) (pr:PG.Prog) (aU:List Int) (n:Nat) (vals:List Int) (e:Option gS) (i:Nat) (hi:i<(aB pr.body).length),vs=[.ref wk]/\Fx pr/\CP K CC CW H wk ch fl pr aU n (aB pr.body)[i].row vals e/\
 Q (.bl (decide ((aB pr.body)[i].wd=.ask))) H
def Te:Sp:=fun vs H Q _=>∃(wk ch fl:zdv) (pr:PG.Prog) (aU:List Int) (n:Nat) (row:Int) (vals:List Int),vs=[.ref wk]/\dO pr/\CP K CC CW H wk ch fl pr aU n row vals none/\row≠0/\yA pr row vals/\n<=aU.length/\aU.length<=3000/\
 ∀H' n',aS wk H H'->n'<=aU.length->aU.drop n'=(yB pr row vals (aU.drop n)).2.1->CP K CC CW H' wk ch fl pr aU n' (yB pr row vals (aU.drop n)).2.2.1 (yB pr row vals (aU.drop n)).2.2.2.1 (yB pr row vals (aU.drop n)).2.2.2.2->
  yA pr (yB pr row vals (aU.drop n)).2.2.1 (yB pr row vals (aU.drop n)).2.2.2.1->Q (DB (yB pr row vals (aU.drop n)).1) H'
end
section
variable{K:zaa}{H H':Hp}{a b:zdv}{φ:Heap->Prop}
theorem CP.ext{CC CW wk ch fl:zdv}{pr:PG.Prog}{aU:List Int}{n:Nat}{row:Int}{vals:List Int}{e:Option gS}(h:CP K CC CW H wk ch fl pr aU n row vals e)(hb:H b=some (.ext φ))(u:aS b H H')(c:rG K CC H' ch pr)(f:bQ K H' fl (aU.map V.int)):CP K CC CW H' wk ch fl pr aU n row vals e:=by
 obtain⟨dx,sa,ev,h1,h2,h3⟩:=h.at_;exact⟨⟨dx,sa,ev,u _ _ (cE h1 hb (by intro z;cases z)) h1,h2.ext hb u,h3.ext hb u⟩,c,f,h.Yv⟩
end
section
variable(P:zdH)(w:zdx)(K:zaa)(CC:zdv)
inductive Hq(vs:List V)(H:Hp)(Q:VK)(E:XK):Prop
 |mk (ch fl:zdv) (pr:PG.Prog) (aU:List Int):vs=[.ref ch,.ref fl]->rG K CC H ch pr->dO pr->bQ K H fl (aU.map V.int)->aU.length<=3000->(aU.length+2)*(aM pr+2)<=4000000->(∀d kvs H',aq H H'->H d=none->DS jT P w K H' d kvs->(∀kv∈kvs,∃t,kv.1=b7 t)->(∀t,(bL kvs (b7 t)).isSome=true↔yI pr aU t)->Q (.ref d) H')->Hq vs H Q E
end
theorem ML{kvs:List (List Key×V)}{k:List Key}{v:V}(h:∀kv∈kvs,∃t,kv.1=b7 t)(t0:Tg)(e:k=b7 t0):∀kv∈putK kvs k v,∃t,kv.1=b7 t:=by
 intro kv hk;unfold putK at hk;split at hk
 ·obtain⟨x,hx,rfl⟩:=zal.mp hk;split
  ·rename_i z;exact⟨t0,by simp only[z,e]⟩
  ·exact h x hx
 ·rcases zak.mp hk with hx |hx
  ·exact h kv hx
  ·rw[zab.mp hx];exact⟨t0,e⟩
def qp (g:List Int) (m:List (Tg×List Int)) (t:Tg):List (Tg×List Int):=if t∈m.map (·.1) then m else m++[(t,g)]
def ou (pr:PG.Prog) (f:jb):List (Tg×List Int):=f.foldl (fun m x=>(iE pr x.1).foldl (qp x.2) m) []
theorem vf(pr:PG.Prog)(f:jb)(x:bh×List Int):ou pr (f++[x])=(iE pr x.1).foldl (qp x.2) (ou pr f):=by
 unfold ou;rw[zcO];rfl
def rK (K:zaa) (H:Hp) (m:List (Tg×List Int)) (kvs:List (List Key×V)):Prop:=Paired (fun (x:Tg×List Int) (kv:List Key×V)=>kv.1=b7 x.1/\∃a,kv.2=.ref a/\bQ K H a (x.2.map V.int)) m kvs
section
variable{K:zaa}{H H':Hp}{m:List (Tg×List Int)}{kvs:List (List Key×V)}
theorem rK.imp(h:rK K H m kvs)(t:∀a xs,bQ K H a xs->bQ K H' a xs):rK K H' m kvs:=Paired.uo h fun _ _ ⟨e,a,e2,q⟩=>⟨e,a,e2,t _ _ q⟩
theorem rK.m7(h:rK K H m kvs)(t:Tg):(bL kvs (b7 t)).isSome=true↔t∈m.map (·.1):=by
 induction h with
 |nil=>exact⟨fun z=>(by cases z),fun z=>(by cases z)⟩
 |@cons x kv r s h1 _ ih=>
  obtain⟨e,a,e2,q⟩:=h1;rw[zaq,zah];by_cases z:kv.1=b7 t
  ·rw[cu z];exact⟨fun _=>.inl (mW (z.symm.trans e)),fun _=>rfl⟩
  ·rw[cA z,ih];exact⟨.inr,fun y=>y.resolve_left fun y=>z (by rw[e,y])⟩
theorem rK.add(h:rK K H m kvs){t:Tg}{g:List Int}{a:zdv}(hn:bL kvs (b7 t)=none)(q:bQ K H a (g.map V.int)):rK K H (qp g m t) (putK kvs (b7 t) (.ref a)):=by
 have n1:¬t∈m.map (·.1):=fun z=>by
  have:=(h.m7 t).mpr z;rw[hn] at this;cases this
 unfold qp;rw[if_neg n1];unfold putK;rw[if_neg (by rw[gY,hn];exact zai)];exact Paired.snoc h ⟨rfl,a,rfl,q⟩
theorem rK.same(h:rK K H m kvs){t:Tg}{g:List Int}{u:V}(hu:bL kvs (b7 t)=some u):qp g m t=m:=by
 unfold qp;rw[if_pos ((h.m7 t).mp (by rw[hu];rfl))]
end
theorem MM(g:List Int)(l:List Tg):∀(m:List (Tg×List Int)) (t:Tg),t∈(l.foldl (qp g) m).map (·.1)↔t∈m.map (·.1)\/t∈l:=by
 induction l with
 |nil=>intro m t;simp
 |cons a r ih=>
  intro m t;rw[zbg,ih,zah];unfold qp;by_cases z:a∈m.map (·.1)
  ·rw[if_pos z];exact⟨fun h=>h.imp_right .inr,fun h=>h.elim .inl fun h=>h.elim (fun e=>.inl (e▸z)) .inr⟩
  ·rw[if_neg z,zat,zak,zaq,zaW,zab,or_assoc]
theorem FV(g:List Int)(l:List Tg):∀(m:List (Tg×List Int)),(m.map (·.1)).Nodup->((l.foldl (qp g) m).map (·.1)).Nodup:=by
 induction l with
 |nil=>intro m h;exact h
 |cons a r ih=>
  intro m h;rw[zbg];refine ih _ ?_;unfold qp;by_cases z:a∈m.map (·.1)
  ·rw[if_pos z];exact h
  ·rw[if_neg z,zat,zaq,zaW];exact za6.mpr ⟨h,by simp,fun x hx y hy=>by rw[zab.mp hy];intro e;rw[e] at hx;exact z hx⟩
theorem MN(g:List Int)(l:List Tg):∀(m:List (Tg×List Int)),(l.foldl (qp g) m).length<=m.length+l.length:=by
 induction l with
 |nil=>intro m;exact zag _
 |cons a r ih=>
  intro m;rw[zbg];have:=ih (qp g m a);have:(qp g m a).length<=m.length+1:=by
   unfold qp;split
   ·lia
   ·rw[zaf];exact zag _
  rw[zap];lia
theorem PQ(g:List Int)(l:List Tg):∀(m:List (Tg×List Int)) (x:Tg×List Int),x∈l.foldl (qp g) m->x∈m\/x.1∈l/\x.2=g:=by
 induction l with
 |nil=>intro m x h;exact .inl h
 |cons a r ih=>
  intro m x h;rw[zbg] at h;rcases ih _ x h with h |⟨h1,h2⟩
  ·unfold qp at h;split at h
   ·exact .inl h
   ·rcases zak.mp h with h |h
    ·exact .inl h
    ·rw[zab.mp h];exact .inr ⟨zan ..,rfl⟩
  ·exact .inr ⟨zaj _ h1,h2⟩
theorem snoc_ind{α:Type}{p:List α->Prop}(h0:p [])(h1:∀l x,p l->p (l++[x]))(l:List α):p l:=by
 have:∀r:List α,p r.reverse:=fun r=>by
  induction r with
  |nil=>exact h0
  |cons a r ih=>rw[List.reverse_cons];exact h1 _ _ ih
 have:=this l.reverse
 rwa [List.reverse_reverse] at this
theorem BV(pr:PG.Prog)(f:jb):∀t:Tg,t∈(ou pr f).map (·.1)↔∃x∈f,t∈iE pr x.1:=by
 refine snoc_ind (p:=fun f=>∀t:Tg,t∈(ou pr f).map (·.1)↔∃x∈f,t∈iE pr x.1) (fun t=>⟨fun z=>(by cases z),fun ⟨_,z,_⟩=>(by cases z)⟩) (fun l x ih t=>?_) f;rw[vf,MM,ih]
 constructor
 ·rintro (⟨y,hy,ht⟩ |ht)
  ·exact⟨y,zaN _ hy,ht⟩
  ·exact⟨x,zav _ (zab.mpr rfl),ht⟩
 ·rintro ⟨y,hy,ht⟩
  rcases zak.mp hy with hy |hy
  ·exact .inl ⟨y,hy,ht⟩
  ·rw[zab.mp hy] at ht;exact .inr ht
theorem BW(pr:PG.Prog)(f:jb):∀x∈ou pr f,∃y∈f,x.1∈iE pr y.1/\x.2=y.2:=by
 refine snoc_ind (p:=fun f=>∀x∈ou pr f,∃y∈f,x.1∈iE pr y.1/\x.2=y.2) (fun x z=>by cases z) (fun l y ih x hx=>?_) f;rw[vf] at hx;rcases PQ _ _ _ _ hx with h |⟨h1,h2⟩
 ·obtain⟨z,hz,r⟩:=ih x h;exact⟨z,zaN _ hz,r⟩
 ·exact⟨y,zav _ (zab.mpr rfl),h1,h2⟩
theorem Js(pr:PG.Prog)(f:jb):((ou pr f).map (·.1)).Nodup:=by
 refine snoc_ind (p:=fun f=>((ou pr f).map (·.1)).Nodup) zbs (fun l x ih=>?_) f;rw[vf];exact FV _ _ _ ih
theorem Hr(pr:PG.Prog)(f:jb):(ou pr f).length<=2*f.length:=by
 refine snoc_ind (p:=fun f:jb=>(ou pr f).length<=2*f.length) (zag _) (fun l x ih=>?_) f;rw[vf,zaf,zaC];have:=MN x.2 (iE pr x.1) (ou pr l);have:=xN pr x.1;lia
def BX:KH (List Key) where
 knd:=fun P w=>tupleKind (bR P w)
 on:=fun K H x a=>bQ K H a (x.map kV)
 up:=fun t h=>t _ _ h
 of:=fun {X pins σ H s x a} I h=>by
  obtain⟨i1,r1,⟨o1,e1,c1,n1,d1⟩,_⟩:=I.tuple h;exact⟨o1,i1.toArray,n1,e1,c1,d1,by simpa using qQ r1⟩
 room:=fun {P w A} h=>by show A.units+1<cLine;lia
theorem Tf{P:zdH}{w:zdx}{h h':Heap}{x:List Key}{a:zdv}(hx:(BX.knd P w).is h x a)(t:L3.xh h h'):(BX.knd P w).is h' x a:=by
 obtain⟨o,bq,n,e,c,d,it⟩:=hx;exact⟨o,bq,n,t _ _ e c,c,d,it⟩
def fe (f:List Int):List Key:=f.map Sum.inl
theorem tR{f g:List Int}(h:fe f=fe g):f=g:=(List.map_inj_right fun _ _ e=>Sum.inl.inj e).mp h
theorem WM(f:List Int):(fe f).map kV=f.map V.int:=by
 unfold fe;rw[zbq];rfl
theorem wx{K:zaa}{H:Hp}{f:List Int}{a:zdv}:BX.on K H (fe f) a↔bQ K H a (f.map V.int):=by
 show bQ K H a ((fe f).map kV)↔_;rw[WM]
theorem Jt{κ:Type}[DecidableEq κ]{J:KH κ}{X:Cx}{P:zdH}{w:zdx}{K:zaa}{o i:Expr}{td ty:TE}{pos:Pos}(eP:X.prog=P)(ew:X.w=w)(eK:X.K=K)(hu:X.A.units+16<cLine)(ho:PE X o td)(hi:PE X i ty)(hs:K0 i):PE X (.Subscript o i pos) (BJ J P w K td ty):=by subst eP ew eK;exact DF hu ho hi hs
theorem FW{κ:Type}[DecidableEq κ]{J:KH κ}{X:Cx}{P:zdH}{w:zdx}{K:zaa}(eP:X.prog=P)(ew:X.w=w)(eK:X.K=K)(hu:X.A.units+16<cLine):rD X (compareOp .NotIn) (fun x y H Q=>∃(a b:zdv) (kvs:List (κ×V)) (k:κ),x=.ref b/\y=.ref a/\DS J P w K H a kvs/\J.on K H k b/\Q (.bl (!(bL kvs k).isSome)) H):=by subst eP ew eK;exact A4 hu
def xA (fs:List (List Int)) (f:List Int):List (List Int):=if f∈fs then fs else fs++[f]
def dS (pr:PG.Prog):List (List Int):=((ou pr (aK pr (bf pr))).map (·.2)).foldl xA []
theorem MO(l:List (List Int)):∀(fs:List (List Int)) (f:List Int),f∈l.foldl xA fs↔f∈fs\/f∈l:=by
 induction l with
 |nil=>intro fs f;simp
 |cons a r ih=>
  intro fs f;rw[zbg,ih,zah];unfold xA;by_cases z:a∈fs
  ·rw[if_pos z];exact⟨fun h=>h.imp_right .inr,fun h=>h.elim .inl fun h=>h.elim (fun e=>.inl (by rw[e];exact z)) .inr⟩
  ·rw[if_neg z,zak,zab,or_assoc]
theorem FX(l:List (List Int)):∀(fs:List (List Int)),fs.Nodup->(l.foldl xA fs).Nodup:=by
 induction l with
 |nil=>intro fs h;exact h
 |cons a r ih=>
  intro fs h;rw[zbg];refine ih _ ?_;unfold xA;by_cases z:a∈fs
  ·rw[if_pos z];exact h
  ·rw[if_neg z];exact za6.mpr ⟨h,by simp,fun x hx y hy=>by rw[zab.mp hy];intro e;rw[e] at hx;exact z hx⟩
theorem DO(l:List (List Int)):∀(fs:List (List Int)),(l.foldl xA fs).length<=fs.length+l.length:=by
 induction l with
 |nil=>intro fs;exact zag _
 |cons a r ih=>
  intro fs;rw[zbg];have:=ih (xA fs a);have:(xA fs a).length<=fs.length+1:=by
   unfold xA;split
   ·lia
   ·rw[zaf];exact zag _
  rw[zap];lia
theorem vg(pr:PG.Prog)(f:List Int):f∈dS pr↔f∈(ou pr (aK pr (bf pr))).map (·.2):=by
 unfold dS;rw[MO];exact⟨fun h=>h.resolve_left fun z=>(by cases z),.inr⟩
theorem yW(pr:PG.Prog):(dS pr).Nodup:=FX _ _ zbs
theorem yX{pr:PG.Prog}(d:dO pr):(aK pr (bf pr)).length<=aM pr:=by
 have h:=yQ d;have:=g8 h.nd fun s hs=>by obtain⟨x,hx,rfl⟩:=zal.mp hs;exact h.BN x hx
 rwa [zad] at this
theorem DP{pr:PG.Prog}(d:dO pr):(dS pr).length<=2*aM pr:=by
 have h1:=DO ((ou pr (aK pr (bf pr))).map (·.2)) [];have h2:=Hr pr (aK pr (bf pr));have h3:=yX d;rw[zaQ,zad] at h1;unfold dS;lia
theorem PR{pr:PG.Prog}(d:dO pr){f:List Int}(h:f∈dS pr):Dg f/\f.length<=aM pr+2:=by
 obtain⟨x,hx,rfl⟩:=zal.mp ((vg pr f).mp h);obtain⟨y,hy,_,e⟩:=BW pr _ x hx;obtain⟨k,b⟩:=ql d;rw[e];exact⟨(b.sf y hy).dg (Ho pr),Jm d y hy⟩
def Hs (pr:PG.Prog):List Tg:=(PG.univ (A6 pr) (ig pr)).flatMap (iE pr)
theorem wz{α β:Type}(f:α->List β)(n:Nat)(hn:∀x,(f x).length<=n):∀l:List α,(l.flatMap f).length<=n*l.length
 |[]=>zaK _
 |a::r=>by
  rw[zbE,zaf,zap,Nat.mul_succ];have:=wz f n hn r;have:=hn a;lia
theorem Ju(pr:PG.Prog):(Hs pr).length<=2*aM pr:=wz _ 2 (fun x=>xN pr x) _
theorem Ht{pr:PG.Prog}(d:dO pr){x:bh×List Int}{t:Tg}(m:PG.Met (dy pr.body) (cI pr) (iE pr) x t):c8 pr x.1->t∈Hs pr:=by
 induction m with
 |@here x t m=>intro h;exact zbj.mpr ⟨_,h.mem,m⟩
 |@on x y t e _ ih=>intro h;exact ih (h.nx d e)
def pC (pr:PG.Prog) (f:List Int):List Tg:=Classical.epsilon fun l:List Tg=>∀t,t∈l↔yI pr f t
theorem qr{pr:PG.Prog}(d:dO pr){f:List Int}(t:Tg):t∈pC pr f↔yI pr f t:=by
 have ex:∃l:List Tg,∀t,t∈l↔yI pr f t:=by
  classical
  refine⟨(Hs pr).filter fun t=>decide (yI pr f t),fun t=>?_⟩;rw[zb3,decide_eq_true_iff];exact⟨fun h=>h.2,fun h=>⟨Ht d h (c8.first d),h⟩⟩
 exact Classical.epsilon_spec ex t
def fq (pr:PG.Prog):List (List Int):=hJ (pC pr) (dS pr) (fc (pC pr) (dS pr))
inductive Hu(P:zdH)(w:zdx)(K:zaa)(pr:PG.Prog)(H:Hp)(f:List Int)(v:V):Prop
 |mk (D:zdv) (o:Obj) (kvs:List (List Key×V)) (ts:List Tg):v=.ref D->H D=some (cO D o)->Fz jT P w K H D kvs o->kvs.map (·.1)=ts.map b7->ts.Nodup->(∀t,t∈ts↔t∈pC pr f)->ts.length<=2*aM pr->Hu P w K pr H f v
section
variable{P:zdH}{w:zdx}{K:zaa}{pr:PG.Prog}{H H':Hp}{f:List Int}{v:V}
theorem Hu.mono(h:Hu P w K pr H f v)(s:aq H H'):Hu P w K pr H' f v:=by
 obtain⟨D,o,kvs,ts,e,hD,fz,r1,r2,r3,r4⟩:=h;exact⟨D,o,kvs,ts,e,s _ _ hD,fz.up fun b ys q=>s.bM q,r1,r2,r3,r4⟩
theorem Hv:∀ {kvs:List (List Key×V)},(∀kv∈kvs,∃t,kv.1=b7 t)->∃ts:List Tg,kvs.map (·.1)=ts.map b7
 |[],_=>⟨[],rfl⟩
 |kv::r,h=>by
  obtain⟨t,e⟩:=h kv (zan ..);obtain⟨ts,e2⟩:=Hv (kvs:=r) fun x hx=>h x (zaj _ hx);exact⟨t::ts,by rw[zaq,zaq,e,e2]⟩
theorem HB{κ:Type}[DecidableEq κ]:∀(kvs:List (κ×V)) (k:κ),(bL kvs k).isSome=true↔k∈kvs.map (·.1)
 |[],k=>⟨fun z=>(by cases z),fun z=>(by cases z)⟩
 |kv::r,k=>by
  rw[zaq,zah];by_cases z:kv.1=k
  ·rw[cu z];exact⟨fun _=>.inl z.symm,fun _=>rfl⟩
  ·rw[cA z,HB r k];exact⟨.inr,fun y=>y.resolve_left fun y=>z y.symm⟩
theorem MP{κ:Type}[DecidableEq κ]{J:KH κ}{kvs:List (κ×V)}{xs:List (κ×zdv×zdw)}(h:KS J K H kvs xs):kvs.map (·.1)=xs.map (·.1):=by
 induction h with
 |nil=>rfl
 |cons a _ ih=>rw[zaq,zaq,a.1,ih]
theorem Fz.nodup{κ:Type}[DecidableEq κ]{J:KH κ}{d:zdv}{kvs:List (κ×V)}{o:Obj}(h:Fz J P w K H d kvs o):(kvs.map (·.1)).Nodup:=by
 obtain⟨xs,_,ks,nd⟩:=h.at_;rw[MP ks];exact nd
theorem Hu.of{D:zdv}{o:Obj}{kvs:List (List Key×V)}(d:dO pr)(hD:H' D=some (cO D o))(fz:Fz jT P w K H' D kvs o)(hk:∀kv∈kvs,∃t,kv.1=b7 t)(hm:∀t,(bL kvs (b7 t)).isSome=true↔yI pr f t):Hu P w K pr H' f (.ref D):=by
 obtain⟨ts,e⟩:=Hv hk;have nd:=fz.nodup;rw[e] at nd;have n2:ts.Nodup:=(zbd.mp nd).imp fun h z=>h (by rw[z]);have mem:∀t,t∈ts↔yI pr f t:=fun t=>by
  rw[<- hm,HB,e];exact⟨fun h=>zal.mpr ⟨t,h,rfl⟩,fun h=>by obtain⟨u,hu,z⟩:=zal.mp h;rw[<- mW z];exact hu⟩
 refine⟨D,o,kvs,ts,rfl,hD,fz,e,n2,fun t=>by rw[mem,qr d],?_⟩;exact zaw (jh ts (Hs pr) n2 fun t ht=>Ht d ((mem t).mp ht) (c8.first d)) (Ju pr)
def qt (Φ:List Int->V->Prop) (fs:List (List Int)) (kvs:List (List Key×V)):Prop:=Paired (fun (f:List Int) (kv:List Key×V)=>kv.1=fe f/\Φ f kv.2) fs kvs
theorem qt.m7{Φ:List Int->V->Prop}{fs:List (List Int)}{kvs:List (List Key×V)}(h:qt Φ fs kvs)(f:List Int):(bL kvs (fe f)).isSome=true↔f∈fs:=by
 induction h with
 |nil=>exact⟨fun z=>(by cases z),fun z=>(by cases z)⟩
 |@cons x kv r s h1 _ ih=>
  rw[zah];by_cases z:kv.1=fe f
  ·rw[cu z];exact⟨fun _=>.inl (tR (z.symm.trans h1.1)),fun _=>rfl⟩
  ·rw[cA z,ih];exact⟨.inr,fun y=>y.resolve_left fun y=>z (by rw[h1.1,y])⟩
theorem qt.val{Φ:List Int->V->Prop}{fs:List (List Int)}{kvs:List (List Key×V)}(h:qt Φ fs kvs)(f:List Int)(hf:f∈fs):∃v,bL kvs (fe f)=some v/\Φ f v:=by
 induction h with
 |nil=>cases hf
 |@cons x kv r s h1 _ ih=>
  by_cases z:kv.1=fe f
  ·rw[cu z];exact⟨_,rfl,by rw[tR (z.symm.trans h1.1)];exact h1.2⟩
  ·rw[cA z];exact ih ((zah.mp hf).resolve_left fun y=>z (by rw[h1.1,y]))
theorem qt.put{Φ:List Int->V->Prop}{fs:List (List Int)}{kvs:List (List Key×V)}(h:qt Φ fs kvs){f:List Int}{v:V}(q:Φ f v):qt Φ (xA fs f) (putK kvs (fe f) v):=by
 unfold xA putK;rw[gY];by_cases z:f∈fs
 ·rw[if_pos z,if_pos ((h.m7 f).mpr z)];clear z
  induction h with
  |nil=>exact .nil
  |@cons x kv r s h1 _ ih=>
   refine .cons ?_ ih;dsimp only;by_cases e:kv.1=fe f
   ·rw[if_pos e];refine⟨h1.1,?_⟩;have:x=f:=tR (h1.1.symm.trans e);rw[this];exact q
   ·rw[if_neg e];exact h1
 ·rw[if_neg z,if_neg (fun y=>z ((h.m7 f).mp y))];exact Paired.snoc h ⟨rfl,q⟩
theorem qt.merge{Φ:List Int->V->Prop}:∀(l:List (List Int)) (es:List (List Key×V)) (fs:List (List Int)) (kvs:List (List Key×V)),qt Φ fs kvs->qt Φ l es->qt Φ (l.foldl xA fs) (tQ kvs es):=by
 intro l es fs kvs h g
 induction g generalizing fs kvs with
 |nil=>exact h
 |@cons f kv r s h1 _ ih=>
  rw[zbg];show qt Φ _ (tQ (putK kvs kv.1 kv.2) s);rw[h1.1];exact ih _ _ (h.put h1.2)
end
def Jv (K:zaa) (H:Hp) (fs:List (List Int)) (us:List V):Prop:=Paired (fun (f:List Int) v=>∃a,v=.ref a/\bQ K H a (f.map V.int)) fs us
theorem Jv.imp{K:zaa}{H H':Hp}{fs:List (List Int)}{us:List V}(h:Jv K H fs us)(t:∀a xs,bQ K H a xs->bQ K H' a xs):Jv K H' fs us:=Paired.uo h fun _ _ ⟨a,e,q⟩=>⟨a,e,t _ _ q⟩
theorem Hu.Kh{P:zdH}{w:zdx}{K:zaa}{pr:PG.Prog}{H H':Hp}{f:List Int}{v:V}(h:Hu P w K pr H f v)(t1:∀b φ,H b=some (.ext φ)->H' b=some (.ext φ))(t2:∀b ys,bQ K H b ys->bQ K H' b ys):Hu P w K pr H' f v:=by
 obtain⟨D,o,kvs,ts,e,hD,fz,r1,r2,r3,r4⟩:=h;exact⟨D,o,kvs,ts,e,t1 _ _ hD,fz.up t2,r1,r2,r3,r4⟩
inductive UJ(P:zdH)(w:zdx)(K:zaa)(pr:PG.Prog)(H:Hp)(f:List Int)(v:V):Prop
 |mk (q a:zdv) (u:V):v=.ref q->bQ K H q [.ref a,u]->bQ K H a (f.map V.int)->Hu P w K pr H f u->UJ P w K pr H f v
theorem UJ.Kh{P:zdH}{w:zdx}{K:zaa}{pr:PG.Prog}{H H':Hp}{f:List Int}{v:V}(h:UJ P w K pr H f v)(t1:∀b φ,H b=some (.ext φ)->H' b=some (.ext φ))(t2:∀b ys,bQ K H b ys->bQ K H' b ys):UJ P w K pr H' f v:=by
 obtain⟨q,a,u,e,h1,h2,h3⟩:=h;exact⟨q,a,u,e,t2 _ _ h1,t2 _ _ h2,h3.Kh t1 t2⟩
theorem PU{P:zdH}{w:zdx}{K:zaa}{pr:PG.Prog}{H:Hp}{fs:List (List Int)}{ys:List V}(h:Paired (UJ P w K pr H) fs ys):∃ps:List (zdv×List Key×zdv×V),ys=ps.map (fun q=>V.ref q.1)/\(∀q∈ps,bQ K H q.1 [.ref q.2.2.1,q.2.2.2]/\BX.on K H q.2.1 q.2.2.1)/\qt (Hu P w K pr H) fs (ps.map fun q=>(q.2.1,q.2.2.2)):=by
 induction h with
 |nil=>exact⟨[],rfl,fun _ z=>(by cases z),.nil⟩
 |@cons f v r s h1 _ ih=>
  obtain⟨ps,e,h2,h3⟩:=ih;obtain⟨q,a,u,e1,g1,g2,g3⟩:=h1;refine⟨(q,fe f,a,u)::ps,by rw[zaq,e1,e],fun x hx=>?_,.cons ⟨rfl,g3⟩ h3⟩;rcases zah.mp hx with rfl |hx
  ·exact⟨g1,wx.mpr g2⟩
  ·exact h2 x hx
theorem PV{K:zaa}{H:Hp}{N:zdv}{ys:List V}{o:HO}(h:H N=some (.lst ys)):(∀b φ,H b=some (.ext φ)->(upd H N o) b=some (.ext φ))/\(∀b xs,bQ K H b xs->bQ K (upd H N o) b xs):=
 ⟨fun b φ e=>by rw[au (cE e h (by intro z;cases z))];exact e,fun b xs q=>q.Ah h ((aS.refl _ _).put _)⟩
theorem MQ{H H':Hp}(s:aq H H'):∀b φ,H b=some (.ext φ)->H' b=some (.ext φ):=fun b φ e=>s _ _ e
def FY (ck:List (List Key×V)) (c:Tg->Int):Prop:=∀t,bL ck (b7 t)=if c t=0 then none else some (.int (c t))
theorem FY.getD{ck:List (List Key×V)}{c:Tg->Int}(h:FY ck c)(t:Tg):(bL ck (b7 t)).getD (.int 0)=.int (c t):=by
 rw[h t];split
 ·rename_i z;rw[z];rfl
 ·rfl
theorem FY.put{ck:List (List Key×V)}{c c':Tg->Int}(h:FY ck c){t:Tg}{n:Int}(e:c' t=n)(n0:n≠0)(r:∀u,u≠t->c' u=c u):FY (putK ck (b7 t) (.int n)) c':=fun u=>by
 rw[uI];by_cases z:u=t
 ·rw[if_pos (by rw[z]),z,e,if_neg n0]
 ·rw[if_neg (fun y=>z (mW y)),h u,r u z]
theorem MR{κ:Type}[DecidableEq κ]{kvs:List (κ×V)}{k:κ}{v u:V}(h:bL kvs k=some u):(putK kvs k v).length=kvs.length:=by
 unfold putK;rw[if_pos (by rw[gY,h];rfl),zad]
theorem MS{K:zaa}{H:Hp}{kvs:List (List Key×V)}{ts:List Tg}{ps:List (zdv×V)}(e:kvs.map (·.1)=ts.map b7)(po:xx jT K H kvs ps){j:Nat}{b:zdv}{v:V}(h:ps[j]?=some (b,v)):∃hj:j<ts.length,jT.on K H (b7 ts[j]) b:=by
 obtain⟨kv,hk,on,_⟩:=c0 po h;have h2:(kvs.map (·.1))[j]?=some kv.1:=by rw[zao,hk];rfl
 rw[e,zao] at h2;obtain⟨t,ht,e2⟩:=zaM.mp h2;obtain⟨hj,e3⟩:=zam.mp ht;exact⟨hj,by rw[e3,e2];exact on⟩
theorem FZ{K:zaa}{H:Hp}{kvs:List (List Key×V)}{ts:List Tg}{ps:List (zdv×V)}(e:kvs.map (·.1)=ts.map b7)(po:xx jT K H kvs ps):ps.length=ts.length:=by
 have:=congrArg zba e;rw[zad,zad] at this;rw[<- this];exact(Paired.length po).symm
theorem Rt{K:zaa}{H:Hp}{Φ:List Int->V->Prop}{kvs:List (List Key×V)}{fs:List (List Int)}{ps:List (zdv×V)}(m:qt Φ fs kvs)(po:xx BX K H kvs ps){j:Nat}{b:zdv}{v:V}(h:ps[j]?=some (b,v)):∃hj:j<fs.length,bQ K H b ((fs[j]).map V.int):=by
 obtain⟨kv,hk,on,_⟩:=c0 po h;obtain⟨f,hf,e,_⟩:=c0 m hk;obtain⟨hj,e3⟩:=zam.mp hf;refine⟨hj,?_⟩;rw[e] at on;rw[e3];exact wx.mp on
theorem MT{K:zaa}{H:Hp}{Φ:List Int->V->Prop}{kvs:List (List Key×V)}{fs:List (List Int)}{ps:List (zdv×V)}(m:qt Φ fs kvs)(po:xx BX K H kvs ps):ps.length=fs.length:=(Paired.length po).symm.trans (Paired.length m).symm
theorem qW{α:Type}{l:List α}{j:Nat}(hj:j<l.length)(u:α):u∈l.take (j+1)↔u∈l.take j\/u=l[j]:=by rw[zaI hj,zak,zab]
theorem DQ{α:Type}{l:List α}(nd:l.Nodup){j:Nat}(hj:j<l.length):¬l[j]∈l.take j:=fun h=>by
 obtain⟨i,hi,e⟩:=zcT.mp h;exact(zb4.mp nd) i j (by lia) hj (by lia) e
theorem MU{tt:TT}{a b:TS}{D:Ends}{σ:St}{H:Hp}(h:∀U1 U2:St->Hp->Prop,(∀σ' H',U1 σ' H'↔a D σ' H')->(∀σ' H',U2 σ' H'↔b D σ' H')->tt σ H fun c H1=>if c=true then U1 σ H1 else U2 σ H1):Ol tt a b D σ H:=h (a D) (b D) (fun _ _=>Iff.rfl) fun _ _=>Iff.rfl
theorem Ak{X:Cx}{K:zaa}(h:X.K=K):mO X (.type "list") (fun xs H Q=>∃p ys,xs=[.ref p]/\(jc K H p ys\/bQ K H p ys)/\∀l,H l=none->Q (.ref l) (upd H l (.lst ys))):=h▸BA
def ox (pr:PG.Prog):List Tg:=(tE (cG pr.body)).filter fun t=>!decide (t∈(ou pr (aK pr (bf pr))).map (·.1))
def aaB (H H':Hp) (fs:List (List Int)) (us:List V):Prop:=Paired (fun (f:List Int) v=>∃a,v=.ref a/\H a=none/\H' a=some (.lst (f.map V.int))) fs us
structure Th(K:zaa)(H H':Hp)(pr:PG.Prog)(q li ln:zdv)(us nv:List V):Prop where
 q_:bQ K H' q [.ref li,.ref ln]
 li_:H' li=some (.lst us)
 ln_:H' ln=some (.lst nv)
 li0:H li=none
 ln0:H ln=none
 ne:li≠ln
 WC:aaB H H' (fq pr) us
 nd:us.Nodup
 n1:¬V.ref li∈us
 n2:¬V.ref ln∈us
 nv_:aD K H' ((ox pr).map g7) nv
theorem qX(pr:PG.Prog):(fq pr).Sublist (dS pr):=by
 obtain⟨_,_,_,h⟩:=qo (M:=pC pr) (dS pr) [] (fc (pC pr) (dS pr)) (fun t=>by rw[m4];lia);exact h
theorem Jw{pr:PG.Prog}(d:dO pr):(fq pr).length<=2*aM pr:=zaw (qX pr).length_le (DP d)
theorem Jx(rows:List PG.Row):(tE rows).length<=4*rows.length+1:=by
 unfold tE;rw[zaf,zaC];have:=wz SH 4 (fun r=>by
  unfold SH;rw[zaf,zaf];have h1:(if PG.plainRow r then [Tg.row r.1] else []).length<=1:=by split<;>simp
  have h2:(if r.2=.ifs\/r.2=.lC then [Tg.side r.1 true,.side r.1 false] else []).length<=2:=by split<;>simp
  have h3:(if r.2=.bW then [Tg.bW r.1] else []).length<=1:=by split<;>simp
  lia) rows
 lia
theorem F0{kvs:List (List Key×V)}{t:Tg}{K:zaa}{H:Hp}{m:List (Tg×List Int)}(h:rK K H m kvs):(!(bL kvs (b7 t)).isSome) = !decide (t∈m.map (·.1)):=by
 congr 1
 rw[zbA,h.m7,decide_eq_true_iff]
theorem HC{X:Cx}{K:zaa}(eK:X.K=K)(hu:X.A.units+64<cLine):rD X (compareOp .NotEq) (fun x y H Q=>∃l,Rep K H (.lst l) x/\Rep K H (.lst l) y/\(Dp.lst l).deep<=60/\Q (.bl false) H):=by
 subst eK;intro pins s σ H x y v u Q I rx ry h;obtain⟨l,h1,h2,hd,q⟩:=h;rw[Rep.bN] at h1 h2;obtain⟨p,xs,rfl,q1,w1⟩:=h1;obtain⟨p',ZP,rfl,q2,w2⟩:=h2;cases (show v=Value.ref p from rx);cases (show u=Value.ref p' from ry);obtain⟨bq,v1,t1,_⟩:=I.list q1;obtain⟨its',v2,t2,_⟩:=I.list q2;unfold Dp.deep at hd;have items:=pR I w1 w2 v1 v2 (A:=X.A.in1) (by show X.A.units+1+_<_;lia);have n1:bq.length=its'.length:=by rw[<- v1.length,<- v2.length,w1.length,w2.length]
 refine SeqAt.RcNeAt.lists (e:=fun _=>true) t1.isList t2.isList (by simpa using n1) (by lia) (fun j h1 h2=>items j bq[j] its'[j] (by simp at h1;simp[h1]) (by simp at h2;simp[h2])) _ _ _ _ ?_;rw[all_true];exact⟨.bl false,H,I,rfl,q⟩
theorem Jy{pr:PG.Prog}(d:dO pr){gl:List bh}(h0:bf pr∈gl)(hc:∀x∈gl,∀y∈aY pr x,y∈gl)(hr:∀S:bh->Prop,S (bf pr)->(∀x,S x->∀y∈aY pr x,S y)->∀x∈gl,S x)(x:bh):x∈gl↔x∈(aK pr (bf pr)).map (·.1):=by
 obtain⟨k,b⟩:=ql d
 constructor
 ·refine hr (fun x=>x∈(aK pr (bf pr)).map (·.1)) ?_ (fun x hx y hy=>?_) x
  ·rcases b.st with ⟨y,hy,e,_⟩ |z
   ·exact zal.mpr ⟨y,hy,e⟩
   ·cases z
  ·obtain⟨z,hz,rfl⟩:=zal.mp hx;by_cases n:(aY pr z.1).length=1
   ·obtain⟨t,e⟩:=zbS.mp n;rw[e] at hy;cases zab.mp hy;rcases b.c1 z hz y e with ⟨u,hu,e,_⟩ |q
    ·exact zal.mpr ⟨u,hu,e⟩
    ·cases q
   ·obtain⟨i,e⟩:=List.getElem?_of_mem hy;rcases b.c2 z hz n i y e with ⟨u,hu,e,_⟩ |q |q
    ·exact zal.mpr ⟨u,hu,e⟩
    ·cases q
    ·cases q
 ·intro h;obtain⟨z,hz,rfl⟩:=zal.mp h;exact(b.sf z hz).BN (S:=fun x=>x∈gl) hc h0
theorem yY{pr:PG.Prog}(d:dO pr){t:Tg}(h:t∈(ou pr (aK pr (bf pr))).map (·.1)):∃f∈fq pr,yI pr f t:=by
 obtain⟨x,hx,rfl⟩:=zal.mp h;obtain⟨y,hy,ht,e⟩:=BW pr _ x hx;obtain⟨k,b⟩:=ql d;have m:=Tc (b.sf y hy) [] x.1 (.here ht);rw[zaG] at m;have h2:∃f∈dS pr,x.1∈pC pr f:=⟨y.2,(vg pr _).mpr (zal.mpr ⟨x,hx,e⟩),(qr d _).mpr m⟩
 obtain⟨f,hf,ht⟩:=Jn h2;exact⟨f,hf,(qr d _).mp ht⟩
theorem MV{pr:PG.Prog}(d:dO pr){i:Nat}(hi:i<(fq pr).length):∃t,yI pr (fq pr)[i] t/\∀j (hj:j<(fq pr).length),j≠i->¬yI pr (fq pr)[j] t:=by
 obtain⟨t,ht,h⟩:=Jo (M:=pC pr) (l:=dS pr) hi;exact⟨t,(qr d _).mp ht,fun j hj n z=>h j hj n ((qr d _).mpr z)⟩
theorem PX{pr:PG.Prog}(d:dO pr){f:List Int}(h:f∈fq pr):Dg f/\f.length<=aM pr+2:=PR d ((qX pr).subset h)
theorem DR:∀l:List Tg,Dp.uO (l.map g7)<=2
 |[]=>by simp[Dp.uO]
 |g::r=>by
  have:=DR r;rw[zaq,Dp.uO];have:(g7 g).deep<=2:=by cases g<;>simp[g7,Dp.deep,Dp.uO]
  lia
theorem MW(l:List Tg):(Dp.lst (l.map g7)).deep<=60:=by
 have:=DR l;simp only[Dp.deep];lia
theorem Un.out{fs:List zdv}{H H3:Hp}{h h3:Heap}{a:zdv}{o:Obj}(ha:H a=none)(g:h.get? a=some o)(g3:h3.get? a=some o)(un:Un fs [] (upd H a (cO a o)) H3 h h3):Un fs [] H (wo H3 a) h h3:=by
 refine⟨fun b ob e n hb hx=>?_,fun b ob e n hb hx=>?_,fun b ob e n hx=>?_,un.there,fun b xs e=>?_,fun b ob x e=>?_,fun b ps e=>?_⟩
 ·by_cases z:b=a
  ·rw[z] at e ⊢;rw[g] at e;cases e;exact g3
  ·exact un.keep b ob e (by rw[au z];exact n) hb hx
 ·by_cases z:b=a
  ·rw[z] at e ⊢;rw[g] at e;cases e;exact⟨o.slots,g3⟩
  ·exact un.slot b ob e (by rw[au z];exact n) hb hx
 ·by_cases z:b=a
  ·rw[z];exact gF
  ·rw[cZ z];exact un.free b ob e (by rw[au z];exact n) hx
 ·have ne:b≠a:=aj e ha;rw[cZ ne];exact un.pH b xs (by rw[au ne];exact e)
 ·have ne:b≠a:=aj e ha;rw[cZ ne];exact un.pj b ob x (by rw[au ne];exact e)
 ·have ne:b≠a:=aj e ha;rw[cZ ne];exact un.pk b ps (by rw[au ne];exact e)
theorem oZ.out{P:zdH}{w:zdx}{outer:List Env}{H:Hp}{s s':zdF}{E:XK}{e:zdw}{a:zdv}{o:Obj}(ha:H a=none)(g:s.heap.get? a=some o)(h:oZ P w outer (upd H a (cO a o)) s (fun cls z H3=>H3 a=some (cO a o)/\E cls z (wo H3 a)) e s'):oZ P w outer H s E e s':=by
 obtain⟨x,cls,a0,B,H3,rfl,F⟩:=h;have h3:=F.want.1;refine⟨x,cls,a0,B,wo H3 a,rfl,F.fl,F.os,F.bare,F.un.out ha g (cO.get F.bX h3),F.bX.wo h3,F.old,fun b u e=>F.Ka b u (qh _ _ e),F.want.2⟩
def HD (cy:zdv->Prop) (i:Nat) (sp:Sp) (E:XK) (t:TA):TE:=fun σ H Q=>t σ H fun vs H1=>∃vc,σ[i]?=some (some vc)/\∀(cc:zdv) (mK:Obj) (uc:zdw),cy cc->H1 cc=none->mK.data=.cell (some uc)->RelV vc uc->
 sp vs (upd H1 cc (cO cc mK)) (fun v H2=>H2 cc=some (cO cc mK)/\Q v (wo H2 cc)) (fun cls z H2=>H2 cc=some (cO cc mK)/\E cls z (wo H2 cc))
theorem Jz{X:Cx}{k i:Nat}{f:zdv}{fd:zdE}{ps:List Str}{sp:Sp}{E:XK}{x y:Str}{p pos:Pos}{e:Expr}{es:List Expr}{t:TA}(F:bD X.prog X.w X.K X.mg X.base (oZ X.prog X.w) k f fd ps sp)(hr:gB k X.A)(hg:Gl X x)(hm:X.mg x=some (.ref f))(hk:zaY X.K (.ref f)=true)(hb:Binds X.K fd ps [])
 (Su:Passes (oZ X.prog X.w) X E)
 (ha:PA X (e::es) t) (hN:X.N[i]?=some y) (hy:X.env.scope.names.lookup y=some .cell) (RV:X.fn y=true) (E7:(x==("__debug__":Str))=false:=by decide) (he:zdB (e::es) X.env=(false,eval e X.env)::zdB es X.env:=by rfl) (zV:(backTo pos (zdB es X.env)).any (·.1)=false:=by rfl) :
 PE X (.Call (.Name x p) (e::es) [] pos) (HD (fun cc=>X.env.cells.lookup y=some cc) i sp E t):=by
 intro pins s σ H Q I h;refine wpAny_Call_Name_kw (nU I hg hm ?_ E7);refine zb6 (h₀:=X.base) I.ok.mod.RU hk (dE (ha pos pins s σ H _ I h) fun us s1 ⟨vs,H1,I1,r,vc,hσ,q⟩=>⟨I1.AK,?_⟩) he zV;obtain⟨m,hn,hl⟩:=I1.loc;obtain⟨uc,rc,lk⟩:=hl i y vc hN hσ (.inr (.inl hy));rcases lk with ⟨K2,_⟩ |⟨_,cc,S8,mK,gcc,dcc⟩
 ·have K2:X.env.scope.names.lookup y=some .local:=K2;rw[hy] at K2;cases K2
 have Yy:=I1.i7 y cc S8;have Ih:=I1.ok.Ih y cc RV S8;have bcc:X.base.get? cc=none:=Heap.get?_none_of_le (zaw I1.ok.CV Ih);have hnf:cc ∉ rB X.stack:=fun hb=>by
  rcases zah.mp (I1.tj cc hb) with z |z
  ·exact I1.Kb y cc S8 z
  ·obtain⟨_,o,ho,_⟩:=I1.ok.mL.mem z;exact absurd (zaz (Heap.lt_size ho) Ih) (zaP _)
 have Ti:=q cc mK uc S8 Yy dcc rc;have hl':(us++[]).length=ps.length:=by rw[zaG,<- r.length];exact F.len _ _ _ _ Ti
 have hbs:=hb s1 us I1.AK hl';rw[zaG] at hbs;refine wpAny_call (codeAny_mono (F.run X.A X.stack s1 (upd H1 cc (cO cc mK)) ⟨us,[]⟩ us vs _ _ hr (I1.KI.add Yy bcc hnf gcc) hbs r Ti) fun r s' yK=>?_);cases r with
 |error e=>exact Su pins σ H1 s1 e s' I1 (oZ.out Yy gcc yK)
 |ok fl=>
  cases fl with
  |ret u'=>exact I1.after (CE.out Yy gcc yK)
  |next=>exact False.elim yK
  |brk=>exact False.elim yK
  |cont=>exact False.elim yK
theorem CL.aaD{P:zdH}{w:zdx}{K:zaa}{mg:Str->Option zdw}{base:Heap}{x qual:Str}{st:Stmt}{f c:zdv}{fd:zdE}{N ps:List Str}{k:Nat}{sp:Sp}(F:CL K x qual st f fd)(S:aT N ps (az st))(hc:qg K f c)(len:∀vs H Q E,sp vs H Q E->vs.length=ps.length)
 (pK:∀(A:zdG) (outer:List Env) (s:zdF) (H:Hp) (vs:List V) (Q:VK) (E:XK),gB k (A.deeper (envOfC qual (az st) s.heap.objs.size f (.ref c)))->sp vs H Q E->
  ∃t σ,CZ (ie (oZ P w) P w K mg base N qual (az st) f (.ref c) A outer s H E) (cS st) t/\start N vs=σ/\t {nx:=fun _ H'=>Q .dR H',rt:=Q} σ H):bD P w K mg base (oZ P w) (k+1) f fd ps sp:=by
 obtain⟨oc,od,kV,doc,pm,an,eO,ct,E8,rfl,lk,C0⟩:=F.ex;have e:eO=.ref c:=hc _ _ _ _ lk;subst e;refine KP lk C0 S len fun A outer s H vs Q E hr Kc=>?_;obtain⟨t,σ,h,e,q⟩:=pK A outer s H vs Q E hr Kc;subst e;exact⟨t,h,q⟩
theorem yZ(led:bh->List bh):∀(n:Nat) (f:jb) (s:bh) (g:List Int),f.length<=(kP led n f s g).1.length
 |0,f,s,g=>zag _
 |n+1,f,s,g=>by
  rw[kP];split
  ·exact zag _
  ·split
   ·have:=yZ led n (f++[(s,g)]) (by assumption) g;rw[zaf,zaC] at this;exact Nat.le_of_succ_le this
   ·rw[zaf];exact Nat.le_add_right _ _
theorem tS(led:bh->List bh)(n:Nat):∀(l f:jb),f.length<=(cR led n f l).1.length
 |[],f=>zag _
 |x::r,f=>by
  rw[cR];exact zaw (yZ led n f x.1 x.2) (tS led n r _)
theorem wA(led:bh->List bh)(n:Nat):∀(m:Nat) (f:jb) (as:List (List Int×List bh)),f.length<=(pB led n m f as).length
 |0,f,as=>zag _
 |m+1,f,as=>by
  rw[pB];split
  ·exact zag _
  ·exact zaw (tS led n _ f) (wA led n m _ _)
theorem F1{as:List (List Int×List bh)}{i j:Nat}{a:List Int×List bh}(ha:as[i]?=some a)(hj:j+1<=a.2.length):∃r,aZ as=(aZ (as.take i)++fK a (j+1))++r:=by
 have e:as=(as.take i++[a])++as.drop (i+1):=by
  have h:=(zbC (i+1) as).symm;rw[zcP,ha] at h;exact h
 obtain⟨k,ek⟩:∃k,a.2.length=(j+1)+k:=⟨a.2.length-(j+1),by lia⟩
 have e2:fK a a.2.length=fK a (j+1)++((zaB k).map ((j+1) + ·)).map fun i:Nat=>(a.2.getD i (0,[]),a.1++[((i:Nat):Int)]):=by
  rw[ek];unfold fK;rw[List.range_add,zat]
 refine⟨(((zaB k).map ((j+1) + ·)).map fun i:Nat=>(a.2.getD i (0,[]),a.1++[((i:Nat):Int)]))++aZ (as.drop (i+1)),?_⟩;rw[<- zaV,zaV (aZ (as.take i)),<- e2,<- xg];show _=aZ _++aZ _;rw[<- FO,<- e]
section
variable(P:zdH)(w:zdx)(K:zaa)(CC CT:zdv)(l:Expr)(qual:Str)
inductive HE(vs:List V)(H:Hp)(Q:VK)(E:XK):Prop
 |mk (sa fo D ga cc ch:zdv) (mK:Obj) (pr:PG.Prog) (s:bh) (f:jb) (g:List Int) (kvs:List (tM×V)):vs=[.ref sa,.ref fo,.ref ga,.ref D]->rG K CC H ch pr->dO pr->cQ K H sa s.1 s.2->c8 pr s->Jf "chart" qual l (wo H D) fo cc mK (.ref ch)->bQ K H ga (g.map V.int)->DS uj P w K H D kvs->iT K H f kvs->(f.map (·.1)).Nodup->(∀x∈f,c8 pr x.1)->f.length<=2000->
  ((kP (aY pr) (aM pr+1) f s g).1.length<=2000->∀L us WN H',aS D H H'->H L=none->H' L=some (.lst us)->DS uj P w K H' D WN->iT K H' (kP (aY pr) (aM pr+1) f s g).1 WN->Mv K H H' us (.ref ga) (kP (aY pr) (aM pr+1) f s g).2->Q (.ref L) H')->
  (2000<(kP (aY pr) (aM pr+1) f s g).1.length->∀H',aS D H H'->E (.ref CT) none H')->HE vs H Q E
inductive DT(vs:List V)(H:Hp)(Q:VK)(E:XK):Prop
 |mk (sa fo cc ch:zdv) (mK:Obj) (pr:PG.Prog) (s:bh):vs=[.ref sa,.ref fo]->rG K CC H ch pr->dO pr->cQ K H sa s.1 s.2->c8 pr s->Jf "chart" qual l H fo cc mK (.ref ch)->aM pr<=1000000->
  ((aK pr s).length<=2000->∀D kvs H',aq H H'->H D=none->DS uj P w K H' D kvs->iT K H' (aK pr s) kvs->Q (.ref D) H')->
  (2000<(aK pr s).length->∀H',aq H H'->E (.ref CT) none H')->DT vs H Q E
inductive DU(Pt:zdv)(lp:Pos)(vs:List V)(H:Hp)(Q:VK)(E:XK):Prop
 |mk (ch:zdv) (pr:PG.Prog) (ps:Array zdw):vs=[.ref ch]->rG K CC H ch pr->dO pr->aM pr<=1000000->H Pt=some (.nT ps)->TabOk qual lp H ps->
  ((aK pr (bf pr)).length<=2000->∀D kvs H' sk,aS Pt H H'->H D=none->DS uj P w K H' D kvs->iT K H' (aK pr (bf pr)) kvs->H' Pt=some (.nT sk)->TabOk qual lp H' sk->Q (.ref D) H')->
  (2000<(aK pr (bf pr)).length->∀H' sk,aS Pt H H'->H' Pt=some (.nT sk)->TabOk qual lp H' sk->E (.ref CT) none H')->DU Pt lp vs H Q E
inductive Ru(Pt:zdv)(lp:Pos)(vs:List V)(H:Hp)(Q:VK)(E:XK):Prop
 |mk (ch:zdv) (pr:PG.Prog) (ps:Array zdw):vs=[.ref ch]->rG K CC H ch pr->dO pr->aM pr<=1000000->H Pt=some (.nT ps)->TabOk qual lp H ps->
  ((aK pr (bf pr)).length<=2000->∀D kvs H' sk,aS Pt H H'->H D=none->DS jT P w K H' D kvs->rK K H' (ou pr (aK pr (bf pr))) kvs->H' Pt=some (.nT sk)->TabOk qual lp H' sk->Q (.ref D) H')->
  (2000<(aK pr (bf pr)).length->∀H' sk,aS Pt H H'->H' Pt=some (.nT sk)->TabOk qual lp H' sk->E (.ref CT) none H')->Ru Pt lp vs H Q E
inductive HF(vs:List V)(H:Hp)(Q:VK)(E:XK):Prop
 |mk (ch D:zdv) (pr:PG.Prog) (kvs:List (List Key×V)):vs=[.ref ch,.ref D]->rG K CC H ch pr->dO pr->aM pr<=200000->(dS pr).length*(2*aM pr)<=4000000->(∀x∈ou pr (aK pr (bf pr)),x.2.length<=10)->DS jT P w K H D kvs->rK K H (ou pr (aK pr (bf pr))) kvs->(∀l us H',aS D H H'->H l=none->H' l=some (.lst us)->Jv K H' (fq pr) us->Q (.ref l) H')->HF vs H Q E
inductive Rv(Pt:zdv)(lp:Pos)(vs:List V)(H:Hp)(Q:VK)(E:XK):Prop
 |mk (v:V) (pr:PG.Prog) (ps:Array zdw):vs=[v]->Rep K H (my pr) v->dO pr->aM pr<=200000->((aK pr (bf pr)).length<=2000->(dS pr).length*(2*aM pr)<=4000000/\∀x∈ou pr (aK pr (bf pr)),x.2.length<=10)->H Pt=some (.nT ps)->TabOk qual lp H ps->
  ((aK pr (bf pr)).length<=2000->∀q li ln us nv H' sk,aS Pt H H'->H' Pt=some (.nT sk)->TabOk qual lp H' sk->Th K H H' pr q li ln us nv->Q (.ref q) H')->
  (2000<(aK pr (bf pr)).length->∀H' sk,aS Pt H H'->H' Pt=some (.nT sk)->TabOk qual lp H' sk->E (.ref CT) none H')->Rv Pt lp vs H Q E
end
structure jW(H:Hp)(D C G:zdv)(d:Dk):Prop where
 oy:H D=some (.lst [.ref C,.int d.pos,.ref G,.int d.left,.int d.row])
 cs:H C=some (.lst (d.cs.map V.int))
 gs:H G=some (.lst (d.gs.map V.bl))
 MX:D≠C
 UK:D≠G
 UL:C≠G
 len:d.cs.length<=63
 gl:d.gs.length=d.cs.length
 pos:0<=d.pos
section
variable{H H':Hp}{D C G:zdv}{d:Dk}
theorem jW.same(h:jW H D C G d)(s:aq H H'):jW H' D C G d:=⟨s _ _ h.oy,s _ _ h.cs,s _ _ h.gs,h.MX,h.UK,h.UL,h.len,h.gl,h.pos⟩
theorem jW.put(h:jW H D C G d){d':Dk}(u:aS D H H')(y:H' D=some (.lst [.ref C,.int d'.pos,.ref G,.int d'.left,.int d'.row]))(e1:d'.cs=d.cs)(e2:d'.gs=d.gs)(p:0<=d'.pos):jW H' D C G d':=by
 refine⟨y,?_,?_,h.MX,h.UK,h.UL,?_,?_,p⟩
 ·rw[e1];exact u _ _ h.MX.symm h.cs
 ·rw[e2];exact u _ _ h.UK.symm h.gs
 ·rw[e1];exact h.len
 ·rw[e1,e2];exact h.gl
theorem jW.dD(h:jW H D C G d):H D≠none:=by rw[h.oy];simp
theorem jW.dC(h:jW H D C G d):H C≠none:=by rw[h.cs];simp
end
section
variable(K:zaa)
inductive HG(vs:List V)(H:Hp)(Q:VK)(E:XK):Prop
 |mk (D C G:zdv) (d:Dk) (many:Int):vs=[.ref D,.int many]->jW H D C G d->0<many->many<=1000000000->d.pos<=2 ^ 50->(∀x d' H',PG.draw d many=(x,d')->xy D C H H'->jW H' D C G d'->Q (.int x) H')->HG vs H Q E
def PY:Sp:=fun vs H Q _=>∃(a:zdv) (ns:List Int),vs=[.ref a]/\jc K H a (ns.map V.int)/\ns.length<=63/\
 ∀D C G H',aq H H'->H D=none->H C=none->jW H' D C G (tP ns)->Q (.ref D) H'
end
theorem count_eq{pr:PG.Prog}(d:dO pr){U:List bh}(nd:U.Nodup)(h0:bf pr∈U)(hc:∀x∈U,∀y∈aY pr x,y∈U)(hr:∀S:bh->Prop,S (bf pr)->(∀x,S x->∀y∈aY pr x,S y)->∀x∈U,S x):(aK pr (bf pr)).length=U.length/\∀x,x∈U↔x∈(aK pr (bf pr)).map (·.1):=by
 have m:=Jy d h0 hc hr;have n2:=(yQ d).nd;refine⟨?_,m⟩;rw[<- zad (f:=(·.1)) (as:=aK pr (bf pr))];exact Nat.le_antisymm (jh _ _ n2 fun x hx=>(m x).mpr hx) (jh _ _ nd fun x hx=>(m x).mp hx)
def lK (rs:List Int) (vs:List (List Int)):List bh:=rs.flatMap fun r=>vs.map fun v=>(r,v)
theorem bj{rs:List Int}{vs:List (List Int)}{s:bh}:s∈lK rs vs↔s.1∈rs/\s.2∈vs:=by
 unfold lK;rw[zbj]
 constructor
 ·rintro ⟨r,hr,h⟩
  obtain⟨v,hv,rfl⟩:=zal.mp h;exact⟨hr,hv⟩
 ·rintro ⟨h1,h2⟩
  exact⟨s.1,h1,zal.mpr ⟨s.2,h2,rfl⟩⟩
theorem iF(vs:List (List Int)):∀rs:List Int,(lK rs vs).length=rs.length*vs.length
 |[]=>by simp[lK]
 |r::t=>by
  have ih:=iF vs t;unfold lK at ih ⊢;rw[zbE,zaf,ih,zad,zap,zbT,Nat.add_comm]
theorem eW{vs:List (List Int)}(hv:vs.Nodup):∀ {rs:List Int},rs.Nodup->(lK rs vs).Nodup
 |[],_=>zbs
 |r::t,h=>by
  obtain⟨h1,h2⟩:=zbv.mp h;show ((vs.map fun v=>((r,v):bh))++lK t vs).Nodup;refine za6.mpr ⟨?_,eW hv h2,fun x hx y hy e=>?_⟩
  ·exact List.Pairwise.map _ (fun a b n e=>n (congrArg Prod.snd e)) hv
  ·obtain⟨v,_,rfl⟩:=zal.mp hx;rw[<- e] at hy;exact h1 (bj.mp hy).1
theorem nh{a b:List bh}{P:Int->Prop}(ha:a.Nodup)(hb:b.Nodup)(h1:∀x∈a,P x.1)(h2:∀x∈b,¬P x.1):(a++b).Nodup:=za6.mpr ⟨ha,hb,fun x hx y hy e=>h2 y hy (e▸h1 x hx)⟩
theorem kR:∀ {ss vs:List Int},vs∈iL ss->PG.nR ss vs
 |[],vs,h=>by
  cases zab.mp h
  trivial
 |s::r,vs,h=>by
  simp only[iL,zbj,zaS,zal] at h;obtain⟨v,hv,t,ht,rfl⟩:=h;exact⟨⟨by lia,by lia⟩,kR ht⟩
theorem ij:∀ss:List Int,(iL ss).Nodup
 |[]=>by simp[iL]
 |s::r=>by
  have ih:=ij r;rw[iL];generalize iL r=l at *;have key:∀n:Nat,((zaB n).flatMap fun (v:Nat)=>l.map fun t=>((v:Int)::t)).Nodup:=fun n=>by
   induction n with
   |zero=>simp
   |succ n ih2=>
    rw[zaR,zbf,zbE,zcp,zaG];refine za6.mpr ⟨ih2,List.Pairwise.map _ (fun a b n e=>n (zdt.inj e).2) ih,fun x hx y hy e=>?_⟩;obtain⟨v,hv,h⟩:=zbj.mp hx;obtain⟨t,_,rfl⟩:=zal.mp h;obtain⟨t2,_,rfl⟩:=zal.mp hy;have:=zaS.mp hv;have:=(zdt.inj e).1;lia
  exact key _
theorem iH:∀ss:List Int,(iL ss).length=(ss.map zdu).foldr (· * ·) 1
 |[]=>rfl
 |s::r=>by
  have ih:=iH r;have k:∀n:Nat,((zaB n).flatMap fun (v:Nat)=>(iL r).map fun t=>((v:Int)::t)).length=n*(iL r).length:=fun n=>by
   induction n with
   |zero=>simp
   |succ n ih=>rw[zaR,zbf,zaf,ih];simp[zbT]
  rw[iL,k,ih];rfl
theorem Tj{p q r s:Int}{vs:List Int}(h:PG.nR [p,q,r,s] vs):∃x y z u,vs=[x,y,z,u]/\0<=x/\x<p/\0<=y/\y<q/\0<=z/\z<r/\0<=u/\u<s:=by
 match vs,h with
 |[x,y,z,u],⟨⟨a1,a2⟩,⟨b1,b2⟩,⟨c1,c2⟩,⟨d1,d2⟩,_⟩=>exact⟨x,y,z,u,rfl,a1,a2,b1,b2,c1,c2,d1,d2⟩
section
variable{a b c:Int}{X:Int}{sr:List Int}{S:bh->Prop}
structure WO(a b c X:Int)(sr:List Int)(S:bh->Prop):Prop where
 k0:S (5,[0,0,0,0])
 k5:∀x y z,S (5,[x,y,z,0])->S (6,[x,y,z,0])
 k6:∀x y z,S (6,[x,y,z,0])->S (7,[(x+1)%a,y,z,0])
 k7:∀x y z,S (7,[x,y,z,0])->(x=0->S (8,[x,y,z,0]))/\(x≠0->S (X,[x,y,z,0]))
 k8:∀x y z,S (8,[x,y,z,0])->S (9,[x,(y+1)%b,z,0])
 k9:∀x y z,S (9,[x,y,z,0])->(y=0->S (10,[x,y,z,0]))/\(y≠0->S (X,[x,y,z,0]))
 Yz:∀x y z,S (10,[x,y,z,0])->S (X,[x,y,(z+1)%c,0])
 kX:∀x y z,S (X,[x,y,z,0])->S (5,[x,y,z,0])/\∀r∈sr,S (r,[x,y,z,0])
theorem F2{x a:Int}(h0:0<=x)(h1:x<a):∃x',0<=x'/\x'<a/\(x'+1)%a=x:=by
 by_cases z:x=0
 ·exact⟨a-1,by lia,by lia,by rw[z,Int.sub_add_cancel,zdl]⟩
 ·exact⟨x-1,by lia,by lia,by rw[Int.sub_add_cancel,zcQ h0 h1]⟩
theorem WO.at5(h:WO a b c X sr S):∀ {x y z:Int},0<=x->x<a->0<=y->y<b->0<=z->z<c->S (5,[x,y,z,0]):=by
 have e:∀ {x m:Int},0<=x->x+1<m->(x+1)%m=x+1:=fun h1 h2=>zcQ (by lia) h2;have up7:∀ {x y z:Int},S (5,[x,y,z,0])->S (7,[(x+1)%a,y,z,0]):=fun s=>h.k6 _ _ _ (h.k5 _ _ _ s);have WQ:∀ {x y z:Int},0<=x->x+1<a->S (5,[x,y,z,0])->S (5,[x+1,y,z,0]):=fun h1 h2 s=>by
  have s:=up7 s;rw[e h1 h2] at s;exact(h.kX _ _ _ ((h.k7 _ _ _ s).2 (by lia))).1
 have WR:∀(n:Nat) {y z:Int},(n:Int)<a->S (5,[0,y,z,0])->S (5,[(n:Int),y,z,0]):=fun n=>by
  induction n with
  |zero=>intro y z _ s;exact s
  |succ n ih=>intro y z hn s;exact WQ (by lia) (by lia) (ih (by lia) s)
 have r9:∀ {y z:Int},0<a->S (5,[0,y,z,0])->S (9,[0,(y+1)%b,z,0]):=fun {y z} ha s=>by
  have s:=up7 (WR (a-1).toNat (by lia) s);rw[show ((a-1).toNat:Int)+1=a by lia,zdl] at s;exact h.k8 _ _ _ ((h.k7 _ _ _ s).1 rfl)
 have WS:∀ {y z:Int},0<a->0<=y->y+1<b->S (5,[0,y,z,0])->S (5,[0,y+1,z,0]):=fun ha h1 h2 s=>by
  have s:=r9 ha s;rw[e h1 h2] at s;exact(h.kX _ _ _ ((h.k9 _ _ _ s).2 (by lia))).1
 have WT:∀(n:Nat) {z:Int},0<a->(n:Int)<b->S (5,[0,0,z,0])->S (5,[0,(n:Int),z,0]):=fun n=>by
  induction n with
  |zero=>intro z _ _ s;exact s
  |succ n ih=>intro z ha hn s;exact WS ha (by lia) (by lia) (ih ha (by lia) s)
 have aaE:∀(n:Nat),0<a->0<b->(n:Int)<c->S (5,[0,0,(n:Int),0]):=fun n=>by
  induction n with
  |zero=>intro _ _ _;exact h.k0
  |succ n ih=>
   intro ha hb hn;have s:=r9 ha (WT (b-1).toNat ha (by lia) (ih ha hb (by lia)));rw[show ((b-1).toNat:Int)+1=b by lia,zdl] at s;have s:=h.Yz _ _ _ ((h.k9 _ _ _ s).1 rfl);rw[e (by lia) hn] at s;exact(h.kX _ _ _ s).1
 intro x y z UM N6 PZ Rw MY Ki;have s:=WR x.toNat (y:=y) (z:=z) (by lia) (by
  have s:=WT y.toNat (z:=z) (by lia) (by lia) (by
   have s:=aaE z.toNat (by lia) (by lia) (by lia)
   rwa [zbo MY] at s)
  rwa [zbo PZ] at s)
 rwa [zbo UM] at s
theorem WO.all(h:WO a b c X sr S){x y z:Int}(UM:0<=x)(N6:x<a)(PZ:0<=y)(Rw:y<b)(MY:0<=z)(Ki:z<c):S (5,[x,y,z,0])/\S (6,[x,y,z,0])/\S (7,[x,y,z,0])/\(∀r∈sr,S (r,[x,y,z,0]))/\S (8,[0,y,z,0])/\S (9,[0,y,z,0])/\S (10,[0,0,z,0]):=by
 have a6:∀ {x y z:Int},0<=x->x<a->0<=y->y<b->0<=z->z<c->S (6,[x,y,z,0]):=fun h1 h2 h3 h4 h5 h6=>h.k5 _ _ _ (h.at5 h1 h2 h3 h4 h5 h6);have a7:∀ {x y z:Int},0<=x->x<a->0<=y->y<b->0<=z->z<c->S (7,[x,y,z,0]):=fun {x y z} h1 h2 h3 h4 h5 h6=>by
  obtain⟨x',q1,q2,q3⟩:=F2 h1 h2;rw[<- q3];exact h.k6 _ _ _ (a6 q1 q2 h3 h4 h5 h6)
 have a8:∀ {y z:Int},0<=y->y<b->0<=z->z<c->S (8,[0,y,z,0]):=fun h3 h4 h5 h6=>(h.k7 _ _ _ (a7 (zaF 0) (by lia) h3 h4 h5 h6)).1 rfl;have a9:∀ {y z:Int},0<=y->y<b->0<=z->z<c->S (9,[0,y,z,0]):=fun {y z} h3 h4 h5 h6=>by
  obtain⟨y',q1,q2,q3⟩:=F2 h3 h4;rw[<- q3];exact h.k8 _ _ _ (a8 q1 q2 h5 h6)
 have a10:∀ {z:Int},0<=z->z<c->S (10,[0,0,z,0]):=fun h5 h6=>(h.k9 _ _ _ (a9 (zaF 0) (by lia) h5 h6)).1 rfl;refine⟨h.at5 UM N6 PZ Rw MY Ki,a6 UM N6 PZ Rw MY Ki,a7 UM N6 PZ Rw MY Ki,?_,a8 PZ Rw MY Ki,a9 PZ Rw MY Ki,a10 MY Ki⟩;have sX:S (X,[x,y,z,0]):=by
  by_cases e1:x=0
  ·rw[e1];by_cases e2:y=0
   ·rw[e2];obtain⟨z',q1,q2,q3⟩:=F2 MY Ki;rw[<- q3];exact h.Yz _ _ _ (a10 q1 q2)
   ·exact(h.k9 _ _ _ (a9 PZ Rw MY Ki)).2 e2
  ·exact(h.k7 _ _ _ (a7 UM N6 PZ Rw MY Ki)).2 e1
 exact(h.kX _ _ _ sX).2
end
def dQ (x:PM.W):PM.Tr:=.bin [43] (.box x) (.num 1)
def Tn (n:Nat):List cD:=[.lC 5 [60] (.num 0) (.num 1) ([.put 6 [97] (dQ [97]),.ifs 7 [61] (.box [97]) (.num 0) [.put 8 [98] (dQ [98]),.ifs 9 [61] (.box [98]) (.num 0) [.put 10 [99] (dQ [99])] []] []]++(zaB n).map fun k:Nat=>.say (13+k) (.num k))]
def pE (a b c:Int) (n:Nat):PG.Prog:=⟨[⟨[97],a,0⟩,⟨[98],b,0⟩,⟨[99],c,0⟩,⟨[100],10,0⟩],Tn n⟩
def ctX (n:Nat):Int:=if n=0 then 5 else 13
def YA (n:Nat):List Int:=(zaB n).map fun k:Nat=>13+(k:Int)
structure P0(pr:PG.Prog)(a b c X:Int)(sr:List Int):Prop where
 f:bf pr=(5,[0,0,0,0])
 l5:∀x y z,aY pr (5,[x,y,z,0])=[(6,[x,y,z,0])]
 l6:∀x y z,aY pr (6,[x,y,z,0])=[(7,[(x+1)%a,y,z,0])]
 l7:∀x y z,aY pr (7,[x,y,z,0])=(if decide (x=0)=true then some ((8,[x,y,z,0]):bh) else some (X,[x,y,z,0])).toList
 l8:∀x y z,aY pr (8,[x,y,z,0])=[(9,[x,(y+1)%b,z,0])]
 l9:∀x y z,aY pr (9,[x,y,z,0])=(if decide (y=0)=true then some ((10,[x,y,z,0]):bh) else some (X,[x,y,z,0])).toList
 N7:∀x y z,aY pr (10,[x,y,z,0])=[(X,[x,y,(z+1)%c,0])]
 ls:∀r∈sr,∃r',(r'=5\/r'∈sr)/\∀v,aY pr (r,v)=[(r',v)]
 xr:X=5\/X∈sr
 lX:∀S:bh->Prop,(∀x,S x->∀y∈aY pr x,S y)->∀v,S (X,v)->S (5,v)/\∀r∈sr,S (r,v)
 nr:([5,6,7]++sr).Nodup
 big:∀r∈sr,10<r
theorem To(a b c:Int):∀n,n<4->P0 (pE a b c n) a b c (ctX n) (YA n)
 |0,_=>⟨rfl,fun _ _ _=>rfl,fun _ _ _=>rfl,fun _ _ _=>rfl,fun _ _ _=>rfl,fun _ _ _=>rfl,fun _ _ _=>rfl,fun r h=>(by cases h),.inl rfl,fun S _ v s=>⟨s,fun r h=>(by cases h)⟩,by decide +kernel,fun r h=>(by cases h)⟩
 |1,_=>⟨rfl,fun _ _ _=>rfl,fun _ _ _=>rfl,fun _ _ _=>rfl,fun _ _ _=>rfl,fun _ _ _=>rfl,fun _ _ _=>rfl,fun r h=>by
  cases zab.mp (show r∈[(13:Int)] from h);exact⟨5,.inl rfl,fun v=>rfl⟩,.inr (by decide +kernel),fun S hS v s=>⟨hS _ s _ (zab.mpr rfl),fun r h=>by
  cases zab.mp (show r∈[(13:Int)] from h);exact s⟩,by decide +kernel,by decide +kernel⟩
 |2,_=>⟨rfl,fun _ _ _=>rfl,fun _ _ _=>rfl,fun _ _ _=>rfl,fun _ _ _=>rfl,fun _ _ _=>rfl,fun _ _ _=>rfl,fun r h=>by
  rcases zah.mp (show r∈[(13:Int),14] from h) with rfl |h
  ·exact⟨14,.inr (by decide +kernel),fun v=>rfl⟩
  ·cases zab.mp h;exact⟨5,.inl rfl,fun v=>rfl⟩,.inr (by decide +kernel),fun S hS v s=>by
  have ni:S (14,v):=hS _ s _ (zab.mpr rfl);refine⟨hS _ ni _ (zab.mpr rfl),fun r h=>?_⟩;rcases zah.mp (show r∈[(13:Int),14] from h) with rfl |h
  ·exact s
  ·cases zab.mp h;exact ni,by decide +kernel,by decide +kernel⟩
 |3,_=>⟨rfl,fun _ _ _=>rfl,fun _ _ _=>rfl,fun _ _ _=>rfl,fun _ _ _=>rfl,fun _ _ _=>rfl,fun _ _ _=>rfl,fun r h=>by
  rcases zah.mp (show r∈[(13:Int),14,15] from h) with rfl |h
  ·exact⟨14,.inr (by decide +kernel),fun v=>rfl⟩
  rcases zah.mp h with rfl |h
  ·exact⟨15,.inr (by decide +kernel),fun v=>rfl⟩
  ·cases zab.mp h;exact⟨5,.inl rfl,fun v=>rfl⟩,.inr (by decide +kernel),fun S hS v s=>by
  have ni:S (14,v):=hS _ s _ (zab.mpr rfl);have o8:S (15,v):=hS _ ni _ (zab.mpr rfl);refine⟨hS _ o8 _ (zab.mpr rfl),fun r h=>?_⟩;rcases zah.mp (show r∈[(13:Int),14,15] from h) with rfl |h
  ·exact s
  rcases zah.mp h with rfl |h
  ·exact ni
  ·cases zab.mp h;exact o8,by decide +kernel,by decide +kernel⟩
 |n+4,h=>by lia
theorem P0.S{pr:PG.Prog}{a b c X:Int}{sr:List Int}(l:P0 pr a b c X sr){S:bh->Prop}(h0:S (bf pr))(hS:∀x,S x->∀y∈aY pr x,S y):WO a b c X sr S:=by
 have one:∀ {s t:bh},aY pr s=[t]->S s->S t:=fun e h=>hS _ h _ (by rw[e];exact zab.mpr rfl);refine⟨by rw[<- l.f];exact h0,fun x y z=>one (l.l5 x y z),fun x y z=>one (l.l6 x y z),fun x y z h=>⟨fun e=>one (by rw[l.l7,if_pos (decide_eq_true e)];rfl) h,fun e=>one (by rw[l.l7,if_neg (by rw[decide_eq_false e];exact zai)];rfl) h⟩,fun x y z=>one (l.l8 x y z),fun x y z h=>⟨fun e=>one (by rw[l.l9,if_pos (decide_eq_true e)];rfl) h,fun e=>one (by rw[l.l9,if_neg (by rw[decide_eq_false e];exact zai)];rfl) h⟩,fun x y z=>one (l.N7 x y z),fun x y z h=>l.lX S hS _ h⟩
def DV (a b c:Int) (sr:List Int):List bh:=lK ([5,6,7]++sr) (iL [a,b,c,1])++(lK [8,9] (iL [1,b,c,1])++lK [10] (iL [1,1,c,1]))
section
variable{pr:PG.Prog}{a b c X:Int}{sr:List Int}
theorem vh{r x y z:Int}(hr:r=5\/r=6\/r=7\/r∈sr)(h1:0<=x)(h2:x<a)(h3:0<=y)(h4:y<b)(h5:0<=z)(h6:z<c):(r,[x,y,z,0])∈DV a b c sr:=by
 refine zaN _ (bj.mpr ⟨?_,PG.nR.mem ⟨⟨h1,h2⟩,⟨h3,h4⟩,⟨h5,h6⟩,⟨zaF 0,by decide⟩,trivial⟩⟩);rcases hr with rfl |rfl |rfl |hr
 ·simp
 ·simp
 ·simp
 ·exact zav _ hr
theorem MZ{r y z:Int}(hr:r=8\/r=9)(h3:0<=y)(h4:y<b)(h5:0<=z)(h6:z<c):(r,[0,y,z,0])∈DV a b c sr:=by
 refine zav _ (zaN _ (bj.mpr ⟨?_,PG.nR.mem ⟨⟨zaF 0,by decide⟩,⟨h3,h4⟩,⟨h5,h6⟩,⟨zaF 0,by decide⟩,trivial⟩⟩));rcases hr with rfl |rfl<;>simp
theorem Rx{z:Int}(h5:0<=z)(h6:z<c):((10:Int),[0,0,z,0])∈DV a b c sr:=
 zav _ (zav _ (bj.mpr ⟨zab.mpr rfl,PG.nR.mem ⟨⟨zaF 0,by decide⟩,⟨zaF 0,by decide⟩,⟨h5,h6⟩,⟨zaF 0,by decide⟩,trivial⟩⟩))
theorem qY{s:bh}(h:s∈DV a b c sr):(∃r x y z,s=(r,[x,y,z,0])/\(r=5\/r=6\/r=7\/r∈sr)/\0<=x/\x<a/\0<=y/\y<b/\0<=z/\z<c)\/(∃r y z,s=(r,[0,y,z,0])/\(r=8\/r=9)/\0<=y/\y<b/\0<=z/\z<c)\/∃z,s=(10,[0,0,z,0])/\0<=z/\z<c:=by
 obtain⟨r,v⟩:=s;rcases zak.mp h with h |h
 ·obtain⟨hr,hv⟩:=bj.mp h;obtain⟨x,y,z,u,e,h1,h2,h3,h4,h5,h6,h7,h8⟩:=Tj (kR hv);simp only at e hr;obtain rfl:u=0:=by lia
  subst e;refine .inl ⟨r,x,y,z,rfl,?_,h1,h2,h3,h4,h5,h6⟩;rcases zak.mp hr with hr |hr
  ·simp only[zah,zaH,or_false] at hr;rcases hr with hr |hr |hr
   ·exact .inl hr
   ·exact .inr (.inl hr)
   ·exact .inr (.inr (.inl hr))
  ·exact .inr (.inr (.inr hr))
 rcases zak.mp h with h |h
 ·obtain⟨hr,hv⟩:=bj.mp h;obtain⟨x,y,z,u,e,h1,h2,h3,h4,h5,h6,h7,h8⟩:=Tj (kR hv);simp only at e hr;obtain rfl:u=0:=by lia
  obtain rfl:x=0:=by lia
  subst e;simp only[zah,zaH,or_false] at hr;exact .inr (.inl ⟨r,y,z,rfl,hr,h3,h4,h5,h6⟩)
 ·obtain⟨hr,hv⟩:=bj.mp h;obtain⟨x,y,z,u,e,h1,h2,h3,h4,h5,h6,h7,h8⟩:=Tj (kR hv);simp only at e hr;obtain rfl:u=0:=by lia
  obtain rfl:x=0:=by lia
  obtain rfl:y=0:=by lia
  subst e;cases zab.mp hr;exact .inr (.inr ⟨z,rfl,h5,h6⟩)
theorem JA(l:P0 pr a b c X sr):(DV a b c sr).Nodup:=by
 refine nh (P:=fun r=>r<8\/10<r) (eW (ij _) l.nr) (nh (P:=fun r=>r<10) (eW (ij _) (by decide)) (eW (ij _) (by decide)) (fun x hx=>?_) (fun x hx=>?_)) (fun x hx=>?_) (fun x hx=>?_)
 ·have:=(bj.mp hx).1;simp only[zah,zaH,or_false] at this;lia
 ·have:=(bj.mp hx).1;simp only[zah,zaH,or_false] at this;lia
 ·have:=(bj.mp hx).1;rcases zak.mp this with h |h
  ·simp only[zah,zaH,or_false] at h;lia
  ·exact .inr (l.big _ h)
 ·rcases zak.mp hx with h |h
  ·have:=(bj.mp h).1;simp only[zah,zaH,or_false] at this;lia
  ·have:=(bj.mp h).1;simp only[zah,zaH,or_false] at this;lia
theorem DW(l:P0 pr a b c X sr)(ha:0<a)(hb:0<b)(hc:0<c):∀s∈DV a b c sr,∀t∈aY pr s,t∈DV a b c sr:=by
 have m:∀ {x m:Int},0<m->0<=x%m/\x%m<m:=fun h=>⟨zbB _ (by lia),zbr _ h⟩
 have rX:∀ {r:Int},(r=5\/r∈sr)->(r=5\/r=6\/r=7\/r∈sr):=fun h=>h.elim .inl fun h=>.inr (.inr (.inr h));have cond:∀ {p q t:bh} {d:Bool},p∈DV a b c sr\/d=false->q∈DV a b c sr\/d=true->t∈(if d=true then some p else some q).toList->t∈DV a b c sr:=fun {p q t d} h1 h2 h=>by
  cases d with
  |true=>rw[zab.mp h];exact h1.resolve_right (by simp)
  |false=>rw[zab.mp h];exact h2.resolve_right (by simp)
 intro s hs t ht;rcases qY hs with ⟨r,x,y,z,rfl,hr,h1,h2,h3,h4,h5,h6⟩ |⟨r,y,z,rfl,hr,h3,h4,h5,h6⟩ |⟨z,rfl,h5,h6⟩
 ·rcases hr with rfl |rfl |rfl |hr
  ·rw[l.l5] at ht;rw[zab.mp ht];exact vh (.inr (.inl rfl)) h1 h2 h3 h4 h5 h6
  ·rw[l.l6] at ht;rw[zab.mp ht];exact vh (.inr (.inr (.inl rfl))) (m ha).1 (m ha).2 h3 h4 h5 h6
  ·rw[l.l7] at ht;refine cond ?_ (.inl (vh (rX l.xr) h1 h2 h3 h4 h5 h6)) ht;by_cases e:x=0
   ·subst e;exact .inl (MZ (.inl rfl) h3 h4 h5 h6)
   ·exact .inr (decide_eq_false e)
  ·obtain⟨r',YB,e⟩:=l.ls r hr;rw[e] at ht;rw[zab.mp ht];exact vh (rX YB) h1 h2 h3 h4 h5 h6
 ·rcases hr with rfl |rfl
  ·rw[l.l8] at ht;rw[zab.mp ht];exact MZ (.inr rfl) (m hb).1 (m hb).2 h5 h6
  ·rw[l.l9] at ht;refine cond ?_ (.inl (vh (rX l.xr) (zaF 0) ha h3 h4 h5 h6)) ht;by_cases e:y=0
   ·subst e;exact .inl (Rx h5 h6)
   ·exact .inr (decide_eq_false e)
 ·rw[l.N7] at ht;rw[zab.mp ht];exact vh (rX l.xr) (zaF 0) ha (zaF 0) hb (m hc).1 (m hc).2
theorem JB(l:P0 pr a b c X sr)(ha:0<a)(hb:0<b)(hc:0<c):∀S:bh->Prop,S (bf pr)->(∀x,S x->∀y∈aY pr x,S y)->∀x∈DV a b c sr,S x:=by
 intro S h0 hS s hs;have k:=l.S h0 hS;rcases qY hs with ⟨r,x,y,z,rfl,hr,h1,h2,h3,h4,h5,h6⟩ |⟨r,y,z,rfl,hr,h3,h4,h5,h6⟩ |⟨z,rfl,h5,h6⟩
 ·obtain⟨q5,q6,q7,qs,_⟩:=k.all h1 h2 h3 h4 h5 h6;rcases hr with rfl |rfl |rfl |hr
  ·exact q5
  ·exact q6
  ·exact q7
  ·exact qs r hr
 ·obtain⟨_,_,_,_,q8,q9,_⟩:=k.all (zaF 0) ha h3 h4 h5 h6;rcases hr with rfl |rfl
  ·exact q8
  ·exact q9
 ·obtain⟨_,_,_,_,_,_,UE⟩:=k.all (zaF 0) ha (zaF 0) hb h5 h6;exact UE
theorem Qa:(DV a b c sr).length=(3+sr.length)*(a.toNat*(b.toNat*c.toNat))+(2*(b.toNat*c.toNat)+c.toNat):=by
 unfold DV;rw[zaf,zaf,iF,iF,iF,iH,iH,iH];simp only[zaq,zaW,List.foldr_cons,List.foldr_nil,zaf,zap,zaQ,Int.toNat_one,Nat.mul_one,Nat.one_mul,zcX]
theorem DX(d:dO pr)(l:P0 pr a b c X sr)(ha:0<a)(hb:0<b)(hc:0<c):(aK pr (bf pr)).length=(3+sr.length)*(a.toNat*(b.toNat*c.toNat))+(2*(b.toNat*c.toNat)+c.toNat)/\∀x,x∈DV a b c sr↔x∈(aK pr (bf pr)).map (·.1):=by
 rw[<- Qa];exact count_eq d (JA l) (by rw[l.f];exact vh (.inl rfl) (zaF 0) ha (zaF 0) hb (zaF 0) hc) (DW l ha hb hc) (JB l ha hb hc)
end
theorem Ry{pr:PG.Prog}(d:dO pr){U:List bh}(h0:bf pr∈U)(hc:∀x∈U,∀y∈aY pr x,y∈U)(h1:∀x∈U,(aY pr x).length<=1):∀x∈aK pr (bf pr),x.2=[]:=by
 obtain⟨k,b⟩:=ql d;intro x hx;have key:∀ {s:bh} {g:List Int},Cm (aY pr) (bf pr) s g->s∈U/\g=[]:=fun {s g} c=>by
  induction c with
  |start=>exact⟨h0,rfl⟩
  |@one s t g _ e ih=>exact⟨hc _ ih.1 _ (by rw[e];exact zab.mpr rfl),ih.2⟩
  |@many s t g i _ n e ih=>
   have h2:=h1 _ ih.1;have h3:=(zam.mp e).1;exact absurd (by lia) n
 exact(key (b.sf x hx)).2
theorem DY{pr:PG.Prog}(d:dO pr)(h:∀x∈aK pr (bf pr),x.2=[])(w5:aK pr (bf pr)≠[]):fq pr=[[]]/\(dS pr).length<=1/\∀x∈ou pr (aK pr (bf pr)),x.2=[]:=by
 have hs:∀x∈ou pr (aK pr (bf pr)),x.2=[]:=fun x hx=>by
  obtain⟨y,hy,_,e⟩:=BW pr _ x hx;rw[e];exact h y hy
 have hi:∀f∈dS pr,f=[]:=fun f hf=>by
  obtain⟨x,hx,rfl⟩:=zal.mp ((vg pr f).mp hf);exact hs x hx
 have li:(dS pr).length<=1:=jh (dS pr) [[]] (yW pr) fun f hf=>by rw[hi f hf];exact zab.mpr rfl
 refine⟨?_,li,hs⟩;obtain⟨x,r,e⟩:=List.exists_cons_of_ne_nil w5;have tne:∃t,t∈iE pr x.1:=by
  unfold iE;split
  ·exact⟨_,zan ..⟩
  ·split
   ·exact⟨_,zan ..⟩
   ·split
    ·split<;>exact⟨_,zan ..⟩
    ·exact⟨_,zan ..⟩
 obtain⟨t,ht⟩:=tne;obtain⟨f,hf,_⟩:=yY d ((BV pr _ t).mpr ⟨x,by rw[e];exact zan ..,ht⟩);have sub:=qX pr;have l1:(fq pr).length<=1:=zaw sub.length_le li;have ef:=hi f (sub.subset hf);subst ef
 match hk:fq pr,hf,l1 with
 |[g],hf,_=>rw[zab.mp hf]
 |[],hf,_=>cases hf
 |_::_::_,_,l1=>simp at l1
theorem y0{pr:PG.Prog}{U:List bh}{nv:Tg->Bool}(hU:∀x,x∈U↔x∈(aK pr (bf pr)).map (·.1))(h:∀t∈tE (cG pr.body),(∃s∈U,t∈iE pr s)↔nv t=false):ox pr=(tE (cG pr.body)).filter nv:=by
 unfold ox;refine List.filter_congr fun t ht=>?_;have k:t∈(ou pr (aK pr (bf pr))).map (·.1)↔nv t=false:=by
  rw[BV,<- h t ht]
  constructor
  ·rintro ⟨x,hx,m⟩
   exact⟨x.1,(hU _).mpr (zal.mpr ⟨x,hx,rfl⟩),m⟩
  ·rintro ⟨s,hs,m⟩
   obtain⟨x,hx,rfl⟩:=zal.mp ((hU s).mp hs);exact⟨x,hx,m⟩
 cases e:nv t with
 |true=>rw[decide_eq_false fun z=>by rw[k,e] at z;cases z];rfl
 |false=>rw[decide_eq_true (k.mpr e)];rfl
theorem WU{a b c:Int}(ha:2<=a/\a<=10)(hb:2<=b/\b<=10)(hc:2<=c/\c<=10):∀n,n<4->dO (pE a b c n):=by
 have sz:∀n,∀x∈(pE a b c n).aA,2<=x.size/\x.size<=10/\0<=x.first/\x.first<x.size:=fun n x hx=>by
  simp only[pE,zah,zaH,or_false] at hx;rcases hx with rfl |rfl |rfl |rfl<;>(simp only;lia)
 have own:∀n,n<4->zW (·∈(pE a b c n).aA.map (·.name)) (fun e=>kN (pE a b c n).aA e/\rF e<=2) (·∈OV) (pE a b c n).body:=fun n hn=>by
  have h:n=0\/n=1\/n=2\/n=3:=by lia
  rcases h with rfl |rfl |rfl |rfl<;>simp[pE,Tn,dQ,zW,Dq,kN,rF,OV,zaR]
 intro n hn;have h:n=0\/n=1\/n=2\/n=3:=by lia
 refine⟨⟨?_,by show ([[97],[98],[99],[100]]:List PM.W).Nodup;decide,by show 4<=10;decide,?_⟩,?_,?_,own n hn,sz n⟩
 ·rcases h with rfl |rfl |rfl |rfl<;>simp[pE,Tn,dQ,aB,kM,cD.row,zaR]
 ·rcases h with rfl |rfl |rfl |rfl<;>simp[pE,Tn,dQ,aB,kM,cD.row,zaR]
 ·show tF (Tn n)<=3;rcases h with rfl |rfl |rfl |rfl<;>decide +kernel
 ·show (cG (Tn n)).length<=1000;rcases h with rfl |rfl |rfl |rfl<;>decide +kernel
structure CtT(pr:PG.Prog)(sr:List Int):Prop where
 tg:tE (cG pr.body)=[.row 5,.side 5 true,.side 5 false,.row 6,.row 7,.side 7 true,.side 7 false,.row 8,.row 9,.side 9 true,.side 9 false,.row 10]++sr.map Tg.row++[.fin]
 t5:∀x y z,iE pr (5,[x,y,z,0])=[.row 5,.side 5 true]
 t6:∀x y z,iE pr (6,[x,y,z,0])=[.row 6]
 t7:∀x y z,iE pr (7,[x,y,z,0])=[.row 7,.side 7 (decide (x=0))]
 t8:∀x y z,iE pr (8,[x,y,z,0])=[.row 8]
 t9:∀x y z,iE pr (9,[x,y,z,0])=[.row 9,.side 9 (decide (y=0))]
 YC:∀x y z,iE pr (10,[x,y,z,0])=[.row 10]
 ts:∀r∈sr,∀v,iE pr (r,v)=[.row r]
theorem WV(a b c:Int):∀n,n<4->CtT (pE a b c n) (YA n)
 |0,_=>⟨rfl,fun _ _ _=>rfl,fun _ _ _=>rfl,fun _ _ _=>rfl,fun _ _ _=>rfl,fun _ _ _=>rfl,fun _ _ _=>rfl,fun r h=>(by cases h)⟩
 |1,_=>⟨rfl,fun _ _ _=>rfl,fun _ _ _=>rfl,fun _ _ _=>rfl,fun _ _ _=>rfl,fun _ _ _=>rfl,fun _ _ _=>rfl,fun r h=>by
  cases zab.mp (show r∈[(13:Int)] from h);exact fun v=>rfl⟩
 |2,_=>⟨rfl,fun _ _ _=>rfl,fun _ _ _=>rfl,fun _ _ _=>rfl,fun _ _ _=>rfl,fun _ _ _=>rfl,fun _ _ _=>rfl,fun r h=>by
  rcases zah.mp (show r∈[(13:Int),14] from h) with rfl |h
  ·exact fun v=>rfl
  ·cases zab.mp h;exact fun v=>rfl⟩
 |3,_=>⟨rfl,fun _ _ _=>rfl,fun _ _ _=>rfl,fun _ _ _=>rfl,fun _ _ _=>rfl,fun _ _ _=>rfl,fun _ _ _=>rfl,fun r h=>by
  rcases zah.mp (show r∈[(13:Int),14,15] from h) with rfl |h
  ·exact fun v=>rfl
  rcases zah.mp h with rfl |h
  ·exact fun v=>rfl
  ·cases zab.mp h;exact fun v=>rfl⟩
 |n+4,h=>by lia
section
variable{pr:PG.Prog}{a b c X:Int}{sr:List Int}
theorem M0(d:dO pr)(l:P0 pr a b c X sr)(t:CtT pr sr)(ha:2<=a)(hb:2<=b)(hc:2<=c):ox pr=[.side 5 false,.fin]:=by
 have hU:=(DX d l (by lia) (by lia) (by lia)).2;have z0:(0:Int)<=0:=zaF 0;rw[y0 (nv:=fun t=>decide (t=.side 5 false\/t=.fin)) hU fun g hg=>?_]
 ·rw[t.tg,zbP,zbP];have:(sr.map Tg.row).filter (fun t=>decide (t=.side 5 false\/t=.fin))=[]:=zdd.mpr fun x hx=>by
   obtain⟨r,_,rfl⟩:=zal.mp hx;simp
  rw[this];rfl
 ·rw[decide_eq_false_iff_not]
  constructor
  ·rintro ⟨s,hs,m⟩
   rcases qY hs with ⟨r,x,y,z,rfl,hr,h1,h2,h3,h4,h5,h6⟩ |⟨r,y,z,rfl,hr,h3,h4,h5,h6⟩ |⟨z,rfl,h5,h6⟩
   ·rcases hr with rfl |rfl |rfl |hr
    ·rw[t.t5] at m;simp at m;rcases m with rfl |rfl<;>simp
    ·rw[t.t6] at m;simp at m;rw[m];simp
    ·rw[t.t7] at m;simp at m;rcases m with rfl |rfl<;>simp
    ·rw[t.ts r hr] at m;simp at m;rw[m];simp
   ·rcases hr with rfl |rfl
    ·rw[t.t8] at m;simp at m;rw[m];simp
    ·rw[t.t9] at m;simp at m;rcases m with rfl |rfl<;>simp
   ·rw[t.YC] at m;simp at m;rw[m];simp
  ·intro n;have u1:∀r x,(r=5\/r=6\/r=7\/r∈sr)->0<=x->x<a->(r,[x,0,0,0])∈DV a b c sr:=fun r x hr h1 h2=>vh hr h1 h2 z0 (by lia) z0 (by lia);have u2:∀r y,(r=8\/r=9)->0<=y->y<b->(r,[0,y,0,0])∈DV a b c sr:=fun r y hr h1 h2=>MZ hr h1 h2 z0 (by lia);rw[t.tg] at hg;rcases zak.mp hg with hg |hg
   ·rcases zak.mp hg with hg |hg
    ·simp only[zah,zaH,or_false] at hg;rcases hg with rfl |rfl |rfl |rfl |rfl |rfl |rfl |rfl |rfl |rfl |rfl |rfl
     ·exact⟨_,u1 5 0 (.inl rfl) z0 (by lia),by rw[t.t5];simp⟩
     ·exact⟨_,u1 5 0 (.inl rfl) z0 (by lia),by rw[t.t5];simp⟩
     ·exact absurd (.inl rfl) n
     ·exact⟨_,u1 6 0 (.inr (.inl rfl)) z0 (by lia),by rw[t.t6];simp⟩
     ·exact⟨_,u1 7 0 (.inr (.inr (.inl rfl))) z0 (by lia),by rw[t.t7];simp⟩
     ·exact⟨_,u1 7 0 (.inr (.inr (.inl rfl))) z0 (by lia),by rw[t.t7];simp⟩
     ·exact⟨_,u1 7 1 (.inr (.inr (.inl rfl))) (by decide) (by lia),by rw[t.t7];simp⟩
     ·exact⟨_,u2 8 0 (.inl rfl) z0 (by lia),by rw[t.t8];simp⟩
     ·exact⟨_,u2 9 0 (.inr rfl) z0 (by lia),by rw[t.t9];simp⟩
     ·exact⟨_,u2 9 0 (.inr rfl) z0 (by lia),by rw[t.t9];simp⟩
     ·exact⟨_,u2 9 1 (.inr rfl) (by decide) (by lia),by rw[t.t9];simp⟩
     ·exact⟨_,Rx z0 (by lia:(0:Int)<c),by rw[t.YC];simp⟩
    ·obtain⟨r,hr,rfl⟩:=zal.mp hg;exact⟨_,u1 r 0 (.inr (.inr (.inr hr))) z0 (by lia),by rw[t.ts r hr];simp⟩
   ·exact absurd (.inr (zab.mp hg)) n
theorem Qb(l:P0 pr a b c X sr):∀s∈DV a b c sr,(aY pr s).length<=1:=by
 intro s hs;have cond:∀ {p q:bh} {d:Bool},(if d=true then some p else some q).toList.length<=1:=fun {p q d}=>by cases d<;>exact zag _
 rcases qY hs with ⟨r,x,y,z,rfl,hr,h1,h2,h3,h4,h5,h6⟩ |⟨r,y,z,rfl,hr,h3,h4,h5,h6⟩ |⟨z,rfl,h5,h6⟩
 ·rcases hr with rfl |rfl |rfl |hr
  ·rw[l.l5];exact zag _
  ·rw[l.l6];exact zag _
  ·rw[l.l7];exact cond
  ·obtain⟨r',YB,e⟩:=l.ls r hr;rw[e];exact zag _
 ·rcases hr with rfl |rfl
  ·rw[l.l8];exact zag _
  ·rw[l.l9];exact cond
 ·rw[l.N7];exact zag _
end
theorem Tp{a b c:Int}(ha:2<=a/\a<=10)(hb:2<=b/\b<=10)(hc:2<=c/\c<=10){n:Nat}(hn:n<4) :
 dO (pE a b c n)/\aM (pE a b c n)<=200000/\((aK (pE a b c n) (bf (pE a b c n))).length:Int)=a*b*c*(3+n)+2*b*c+c/\fq (pE a b c n)=[[]]/\ox (pE a b c n)=[.side 5 false,.fin]/\(dS (pE a b c n)).length*(2*aM (pE a b c n))<=4000000/\∀x∈ou (pE a b c n) (aK (pE a b c n) (bf (pE a b c n))),x.2.length<=10:=by
 have d:=WU ha hb hc n hn;have l:=To a b c n hn;have fd:=DX d l (by lia) (by lia) (by lia);have cnt:((aK (pE a b c n) (bf (pE a b c n))).length:Int)=a*b*c*(3+n)+2*b*c+c:=by
  rw[fd.1];have:(YA n).length=n:=by unfold YA;rw[zad,zaZ]
  rw[this];obtain⟨a',rfl⟩:∃k:Nat,a=k:=⟨a.toNat,by lia⟩
  obtain⟨b',rfl⟩:∃k:Nat,b=k:=⟨b.toNat,by lia⟩
  obtain⟨c',rfl⟩:∃k:Nat,c=k:=⟨c.toNat,by lia⟩
  simp only[zaU]
  push_cast
  grind
 have many:aM (pE a b c n)<=200000:=by
  unfold aM;rw[yG];have h1:(A6 (pE a b c n)).length+1<=20:=by
   have h:n=0\/n=1\/n=2\/n=3:=by lia
   show ((aB (Tn n)).map (·.row)).length+1<=20;rcases h with rfl |rfl |rfl |rfl<;>decide +kernel
  have h2:=yF (ig (pE a b c n)) fun s hs=>by
   obtain⟨x,hx,rfl⟩:=zal.mp hs;exact(d.size x hx).2.1
  exact zaw (zbl h1 h2) (by show 20*10 ^ 4<=200000;decide)
 have Hg:=Ry d (by rw[l.f];exact vh (.inl rfl) (zaF 0) (by lia) (zaF 0) (by lia) (zaF 0) (by lia)) (DW l (by lia) (by lia) (by lia)) (Qb l);have w5:aK (pE a b c n) (bf (pE a b c n))≠[]:=fun z=>by
  rw[z] at cnt;have h1:=zcb (zcb (zcb (by lia:0<=a) (by lia:0<=b)) (by lia:0<=c)) (by lia:(0:Int)<=3+n);have h2:=zcb (zcb (by decide:(0:Int)<=2) (by lia:0<=b)) (by lia:0<=c);simp only[zaQ] at cnt;lia
 obtain⟨k1,k2,k3⟩:=DY d Hg w5;exact⟨d,many,cnt,k1,M0 d l (WV a b c n hn) ha.1 hb.1 hc.1,zaw (zbl k2 (zbl (zag 2) many)) (by decide),fun x hx=>by rw[k3 x hx];exact zaK _⟩
def kn (r:Int) (n:Nat):List cD:=(zaB n).map fun k:Nat=>.say (r+k) (.num k)
def Al (m:Nat):List cD:=[.bW 4 [61] (.num 1) (.num 1)]++kn 5 m++[.ask (5+m) [97]]++(kn (6+m) 8++[.ask (14+m) [97,98],.ask (15+m) [98]])++[.say (16+m) (.box [98])]
def dB (m:Nat):PG.Prog:=⟨[⟨[97],10,0⟩,⟨[97,98],10,3⟩,⟨[98],9,1⟩],Al m⟩
theorem Qc:∀m<14,5<=m->(∀i<m+1,FD (Al m) ((4+i:Nat):Int)=[((5+i:Nat):Int)]/\(rH (Al m) ((4+i:Nat):Int)).wd=if i=0 then .bW else .say)/\(∀i<8,FD (Al m) ((6+m+i:Nat):Int)=[((7+m+i:Nat):Int)]/\(rH (Al m) ((6+m+i:Nat):Int)).wd=.say):=by decide +kernel
theorem HH:∀m<14,5<=m->(∀t∈tE (cG (Al m)),t=.bW 4\/t=.fin\/∃i,i<13+m/\t=.row ((4+i:Nat):Int))/\(tE (cG (Al m))).filter (fun t=>decide (t=.bW 4))=[.bW 4]/\(aB (Al m)).length=13+m/\tF (Al m)<=3/\(cG (Al m)).length<60:=by decide +kernel
structure AkL(m:Nat):Prop where
 f:bf (dB m)=(4,[0,3,1])
 l4:∀v,aY (dB m) (4,v)=[(5,v)]
 l2:∀x y z,aY (dB m) (((5+m:Nat):Int),[x,y,z])=(zaB 10).map fun f:Nat=>(((6+m:Nat):Int),[(f:Int)%10,y,z])
 l5:∀x y z,aY (dB m) (((14+m:Nat):Int),[x,y,z])=(zaB 10).map fun f:Nat=>(((15+m:Nat):Int),[x,(f:Int)%10,z])
 l6:∀x y z,aY (dB m) (((15+m:Nat):Int),[x,y,z])=(zaB 10).map fun f:Nat=>(((16+m:Nat):Int),[x,y,(f:Int)%9])
 l7:∀v,aY (dB m) (((16+m:Nat):Int),v)=[(0,v)]
 t4:∀v,iE (dB m) (4,v)=[.row 4]
 t2:∀v,iE (dB m) (((5+m:Nat):Int),v)=[.row ((5+m:Nat):Int)]
 t5:∀v,iE (dB m) (((14+m:Nat):Int),v)=[.row ((14+m:Nat):Int)]
 t6:∀v,iE (dB m) (((15+m:Nat):Int),v)=[.row ((15+m:Nat):Int)]
 t7:∀v,iE (dB m) (((16+m:Nat):Int),v)=[.row ((16+m:Nat):Int)]
 a2:dy (Al m) ((5+m:Nat):Int)=true/\dy (Al m) ((14+m:Nat):Int)=true/\dy (Al m) ((15+m:Nat):Int)=true/\dy (Al m) ((16+m:Nat):Int)=false
theorem Tq:∀m,m<14->5<=m->AkL m
 |5,_,_=>⟨rfl,fun _=>rfl,fun _ _ _=>rfl,fun _ _ _=>rfl,fun _ _ _=>rfl,fun _=>rfl,fun _=>rfl,fun _=>rfl,fun _=>rfl,fun _=>rfl,fun _=>rfl,rfl,rfl,rfl,rfl⟩
 |6,_,_=>⟨rfl,fun _=>rfl,fun _ _ _=>rfl,fun _ _ _=>rfl,fun _ _ _=>rfl,fun _=>rfl,fun _=>rfl,fun _=>rfl,fun _=>rfl,fun _=>rfl,fun _=>rfl,rfl,rfl,rfl,rfl⟩
 |7,_,_=>⟨rfl,fun _=>rfl,fun _ _ _=>rfl,fun _ _ _=>rfl,fun _ _ _=>rfl,fun _=>rfl,fun _=>rfl,fun _=>rfl,fun _=>rfl,fun _=>rfl,fun _=>rfl,rfl,rfl,rfl,rfl⟩
 |8,_,_=>⟨rfl,fun _=>rfl,fun _ _ _=>rfl,fun _ _ _=>rfl,fun _ _ _=>rfl,fun _=>rfl,fun _=>rfl,fun _=>rfl,fun _=>rfl,fun _=>rfl,fun _=>rfl,rfl,rfl,rfl,rfl⟩
 |9,_,_=>⟨rfl,fun _=>rfl,fun _ _ _=>rfl,fun _ _ _=>rfl,fun _ _ _=>rfl,fun _=>rfl,fun _=>rfl,fun _=>rfl,fun _=>rfl,fun _=>rfl,fun _=>rfl,rfl,rfl,rfl,rfl⟩
 |10,_,_=>⟨rfl,fun _=>rfl,fun _ _ _=>rfl,fun _ _ _=>rfl,fun _ _ _=>rfl,fun _=>rfl,fun _=>rfl,fun _=>rfl,fun _=>rfl,fun _=>rfl,fun _=>rfl,rfl,rfl,rfl,rfl⟩
 |11,_,_=>⟨rfl,fun _=>rfl,fun _ _ _=>rfl,fun _ _ _=>rfl,fun _ _ _=>rfl,fun _=>rfl,fun _=>rfl,fun _=>rfl,fun _=>rfl,fun _=>rfl,fun _=>rfl,rfl,rfl,rfl,rfl⟩
 |12,_,_=>⟨rfl,fun _=>rfl,fun _ _ _=>rfl,fun _ _ _=>rfl,fun _ _ _=>rfl,fun _=>rfl,fun _=>rfl,fun _=>rfl,fun _=>rfl,fun _=>rfl,fun _=>rfl,rfl,rfl,rfl,rfl⟩
 |13,_,_=>⟨rfl,fun _=>rfl,fun _ _ _=>rfl,fun _ _ _=>rfl,fun _ _ _=>rfl,fun _=>rfl,fun _=>rfl,fun _=>rfl,fun _=>rfl,fun _=>rfl,fun _=>rfl,rfl,rfl,rfl,rfl⟩
 |0,_,h=>by lia
 |1,_,h=>by lia
 |2,_,h=>by lia
 |3,_,h=>by lia
 |4,_,h=>by lia
 |n+14,h,_=>by lia
theorem HI{pr:PG.Prog}{r r':Int}(h0:r≠0)(hw:FD pr.body r=[r'])(hs:(rH pr.body r).wd=.say)(v:List Int):aY pr (r,v)=[(r',v)]/\iE pr (r,v)=[.row r]/\dy pr.body r=false:=by
 have ha:dy pr.body r=false:=by unfold dy;rw[hs];rfl
 refine⟨?_,?_,ha⟩
 ·unfold aY;rw[if_neg h0,if_neg (by rw[ha];exact zai)];unfold cI;show (mT pr.aA (rH pr.body r) (FD pr.body r) v 0).1.toList=_;rw[hw];generalize rH pr.body r=st at hs;cases st<;>first |rfl |cases hs
 ·unfold iE;rw[if_neg h0];simp only;generalize rH pr.body r=st at hs ⊢;cases st<;>first |rfl |cases hs
def F3 (r n:Nat):List Int:=(zaB n).map fun i:Nat=>((r+i:Nat):Int)
theorem qu{r n:Nat}{x:Int}:x∈F3 r n↔∃i,i<n/\x=((r+i:Nat):Int):=by
 unfold F3;rw[zal];exact⟨fun ⟨i,h,e⟩=>⟨i,zaS.mp h,e.symm⟩,fun ⟨i,h,e⟩=>⟨i,zaS.mpr h,e.symm⟩⟩
theorem zc(r n:Nat):(F3 r n).Nodup:=List.Pairwise.map _ (fun a b h e=>h (by lia)) (List.nodup_range (n:=n))
theorem DZ(r n:Nat):(F3 r n).length=n:=by unfold F3;rw[zad,zaZ]
def JC:List (List Int):=(iL [10]).map (·++[3,1])
def JD:List (List Int):=(iL [10,10]).map (·++[1])
def M1:List (List Int):=iL [10,10,9]
theorem M3{v:List Int}:v∈JC↔∃x,v=[x,3,1]/\0<=x/\x<10:=by
 unfold JC;rw[zal]
 constructor
 ·rintro ⟨w,hw,rfl⟩
  match w,kR hw with
  |[x],⟨⟨a,b⟩,_⟩=>exact⟨x,rfl,a,b⟩
 ·rintro ⟨x,rfl,a,b⟩
  exact⟨[x],PG.nR.mem ⟨⟨a,b⟩,trivial⟩,rfl⟩
theorem M4{v:List Int}:v∈JD↔∃x y,v=[x,y,1]/\0<=x/\x<10/\0<=y/\y<10:=by
 unfold JD;rw[zal]
 constructor
 ·rintro ⟨w,hw,rfl⟩
  match w,kR hw with
  |[x,y],⟨⟨a,b⟩,⟨c,d⟩,_⟩=>exact⟨x,y,rfl,a,b,c,d⟩
 ·rintro ⟨x,y,rfl,a,b,c,d⟩
  exact⟨[x,y],PG.nR.mem ⟨⟨a,b⟩,⟨c,d⟩,trivial⟩,rfl⟩
theorem M5{v:List Int}:v∈M1↔∃x y z,v=[x,y,z]/\0<=x/\x<10/\0<=y/\y<10/\0<=z/\z<9:=by
 unfold M1
 constructor
 ·intro hw
  match v,kR hw with
  |[x,y,z],⟨⟨a,b⟩,⟨c,d⟩,⟨e,f⟩,_⟩=>exact⟨x,y,z,rfl,a,b,c,d,e,f⟩
 ·rintro ⟨x,y,z,rfl,a,b,c,d,e,f⟩
  exact PG.nR.mem ⟨⟨a,b⟩,⟨c,d⟩,⟨e,f⟩,trivial⟩
def UO (m:Nat):List bh:=lK (F3 4 (m+2)) [[0,3,1]]++(lK (F3 (6+m) 9) JC++(lK [((15+m:Nat):Int)] JD++lK [((16+m:Nat):Int),0] M1))
inductive Bb(m:Nat):bh->Prop
 |one (i:Nat):i<m+2->Bb m (((4+i:Nat):Int),[0,3,1])
 |two (i:Nat) (x:Int):i<9->0<=x->x<10->Bb m (((6+m+i:Nat):Int),[x,3,1])
 |three (x y:Int):0<=x->x<10->0<=y->y<10->Bb m (((15+m:Nat):Int),[x,y,1])
 |four (x y z:Int):0<=x->x<10->0<=y->y<10->0<=z->z<9->Bb m (((16+m:Nat):Int),[x,y,z])
 |D0 (x y z:Int):0<=x->x<10->0<=y->y<10->0<=z->z<9->Bb m (0,[x,y,z])
theorem ko{m:Nat}{s:bh}:s∈UO m↔Bb m s:=by
 obtain⟨r,v⟩:=s;unfold UO;rw[zak,zak,zak,bj,bj,bj,bj];simp only;rw[qu,qu,M3,M4,M5]
 constructor
 ·rintro (⟨⟨i,hi,rfl⟩,hv⟩ |⟨⟨i,hi,rfl⟩,x,rfl,a,b⟩ |⟨hr,x,y,rfl,a,b,c,d⟩ |⟨hr,x,y,z,rfl,a,b,c,d,e,f⟩)
  ·rw[zab.mp hv];exact .one i hi
  ·exact .two i x hi a b
  ·rw[zab.mp hr];exact .three x y a b c d
  ·simp only[zah,zaH,or_false] at hr;rcases hr with rfl |rfl
   ·exact .four x y z a b c d e f
   ·exact .D0 x y z a b c d e f
 ·intro h;cases h with
  |one i hi=>exact .inl ⟨⟨i,hi,rfl⟩,zab.mpr rfl⟩
  |two i x hi a b=>exact .inr (.inl ⟨⟨i,hi,rfl⟩,x,rfl,a,b⟩)
  |three x y a b c d=>exact .inr (.inr (.inl ⟨zab.mpr rfl,x,y,rfl,a,b,c,d⟩))
  |four x y z a b c d e f=>exact .inr (.inr (.inr ⟨zan ..,x,y,z,rfl,a,b,c,d,e,f⟩))
  |D0 x y z a b c d e f=>exact .inr (.inr (.inr ⟨zaj _ (zab.mpr rfl),x,y,z,rfl,a,b,c,d,e,f⟩))
theorem Qd(m:Nat):(UO m).length=1992+m:=by
 unfold UO;rw[zaf,zaf,zaf,iF,iF,iF,iF,DZ,DZ];have h1:JC.length=10:=by unfold JC;rw[zad,iH];rfl
 have h2:JD.length=100:=by unfold JD;rw[zad,iH];rfl
 have h3:M1.length=900:=by unfold M1;rw[iH];rfl
 rw[h1,h2,h3];simp only[zap,zaQ];lia
theorem JE(m:Nat):(UO m).Nodup:=by
 have n1:JC.Nodup:=List.Pairwise.map _ (fun a b n e=>n (zcY e)) (ij _);have n2:JD.Nodup:=List.Pairwise.map _ (fun a b n e=>n (zcY e)) (ij _);refine nh (P:=fun r=>r≠0/\r<((6+m:Nat):Int)) (eW (by simp) (zc _ _)) (nh (P:=fun r=>r≠0/\r<((15+m:Nat):Int)) (eW n1 (zc _ _)) (nh (P:=fun r=>r=((15+m:Nat):Int)) (eW n2 (by simp)) (eW (ij _) ?_) ?_ ?_) ?_ ?_) ?_ ?_
 ·refine zbv.mpr ⟨fun z=>?_,by simp⟩;have:=zab.mp z;lia
 ·intro x hx;exact zab.mp (bj.mp hx).1
 ·intro x hx;have:=(bj.mp hx).1;simp only[zah,zaH,or_false] at this;lia
 ·intro x hx;obtain⟨i,hi,e⟩:=qu.mp (bj.mp hx).1;lia
 ·intro x hx;rcases zak.mp hx with h |h
  ·have:=zab.mp (bj.mp h).1;lia
  ·have:=(bj.mp h).1;simp only[zah,zaH,or_false] at this;lia
 ·intro x hx;obtain⟨i,hi,e⟩:=qu.mp (bj.mp hx).1;lia
 ·intro x hx;rcases zak.mp hx with h |h
  ·obtain⟨i,hi,e⟩:=qu.mp (bj.mp h).1;lia
  rcases zak.mp h with h |h
  ·have:=zab.mp (bj.mp h).1;lia
  ·have:=(bj.mp h).1;simp only[zah,zaH,or_false] at this;lia
structure Rz(m:Nat):Prop where
 f:bf (dB m)=(4,[0,3,1])
 l1:∀i,i<m+1->∀v,aY (dB m) (((4+i:Nat):Int),v)=[(((5+i:Nat):Int),v)]
 l2:∀x y z,aY (dB m) (((5+m:Nat):Int),[x,y,z])=(zaB 10).map fun f:Nat=>(((6+m:Nat):Int),[(f:Int)%10,y,z])
 l3:∀i,i<8->∀v,aY (dB m) (((6+m+i:Nat):Int),v)=[(((7+m+i:Nat):Int),v)]
 l5:∀x y z,aY (dB m) (((14+m:Nat):Int),[x,y,z])=(zaB 10).map fun f:Nat=>(((15+m:Nat):Int),[x,(f:Int)%10,z])
 l6:∀x y z,aY (dB m) (((15+m:Nat):Int),[x,y,z])=(zaB 10).map fun f:Nat=>(((16+m:Nat):Int),[x,y,(f:Int)%9])
 l7:∀v,aY (dB m) (((16+m:Nat):Int),v)=[(0,v)]
 t:∀i,i<13+m->∀v,iE (dB m) (((4+i:Nat):Int),v)=[.row ((4+i:Nat):Int)]
 na:∀i,i<13+m->dy (Al m) ((4+i:Nat):Int)=decide (i=m+1\/i=m+10\/i=m+11)
theorem RA{m:Nat}(h1:m<14)(h2:5<=m):Rz m:=by
 have l:=Tq m h1 h2;obtain⟨r1,r2⟩:=Qc m h1 h2;have a4:dy (Al m) 4=false:=by
  have:=(r1 0 (by lia)).2;unfold dy;rw[show (4:Int)=((4+0:Nat):Int) from rfl,this];rfl
 have s1:∀i,0<i->i<m+1->∀v,_:=fun i h0 hi v=>HI (pr:=dB m) (r:=((4+i:Nat):Int)) (r':=((5+i:Nat):Int)) (by lia) (r1 i hi).1 (by rw[show (rH (dB m).body _).wd=_ from (r1 i hi).2,if_neg (by lia)]) v;have s3:∀i,i<8->∀v,_:=fun i hi v=>HI (pr:=dB m) (r:=((6+m+i:Nat):Int)) (r':=((7+m+i:Nat):Int)) (by lia) (r2 i hi).1 (r2 i hi).2 v;refine⟨l.f,fun i hi v=>?_,l.l2,fun i hi v=>(s3 i hi v).1,l.l5,l.l6,l.l7,fun i hi v=>?_,fun i hi=>?_⟩
 ·by_cases z:i=0
  ·subst z;exact l.l4 v
  ·exact(s1 i (by lia) hi v).1
 ·by_cases z:i=0
  ·subst z;exact l.t4 v
  by_cases z1:i<m+1
  ·exact(s1 i (by lia) z1 v).2.1
  by_cases z2:i=m+1
  ·subst z2;rw[show 4+(m+1)=5+m by lia];exact l.t2 v
  by_cases z3:i<m+10
  ·have:=(s3 (i-(m+2)) (by lia) v).2.1
   rwa [show 6+m+(i-(m+2))=4+i by lia] at this
  by_cases z4:i=m+10
  ·subst z4;rw[show 4+(m+10)=14+m by lia];exact l.t5 v
  by_cases z5:i=m+11
  ·subst z5;rw[show 4+(m+11)=15+m by lia];exact l.t6 v
  ·obtain rfl:i=m+12:=by lia
   rw[show 4+(m+12)=16+m by lia];exact l.t7 v
 ·by_cases z:i=0
  ·subst z;rw[decide_eq_false (by lia)];exact a4
  by_cases z1:i<m+1
  ·rw[decide_eq_false (by lia)];exact(s1 i (by lia) z1 []).2.2
  by_cases z2:i=m+1
  ·subst z2;rw[show 4+(m+1)=5+m by lia,decide_eq_true (.inl rfl)];exact l.a2.1
  by_cases z3:i<m+10
  ·have:=(s3 (i-(m+2)) (by lia) []).2.2;rw[show 6+m+(i-(m+2))=4+i by lia] at this;rw[decide_eq_false (by lia)];exact this
  by_cases z4:i=m+10
  ·subst z4;rw[show 4+(m+10)=14+m by lia,decide_eq_true (.inr (.inl rfl))];exact l.a2.2.1
  by_cases z5:i=m+11
  ·subst z5;rw[show 4+(m+11)=15+m by lia,decide_eq_true (.inr (.inr rfl))];exact l.a2.2.2.1
  ·obtain rfl:i=m+12:=by lia
   rw[decide_eq_false (by lia),show 4+(m+12)=16+m by lia];exact l.a2.2.2.2
theorem dig{x m:Int}(h0:0<=x)(h1:x<m)(h2:m<=10):∃f∈zaB 10,((f:Nat):Int)%m=x:=⟨x.toNat,zaS.mpr (by lia),by rw[zbo h0,zcQ h0 h1]⟩
theorem vi{m:Nat}(g:Rz m){s t:bh}(h:Bb m s)(ht:t∈aY (dB m) s):Bb m t/\(t.1=0/\s.1=((16+m:Nat):Int)\/t.1=s.1+1/\s.1≠((16+m:Nat):Int)):=by
 have md:∀(f:Nat) {k:Int},0<k->0<=(f:Int)%k/\(f:Int)%k<k:=fun f k h=>⟨zbB _ (by lia),zbr _ h⟩
 cases h with
 |one i hi=>
  by_cases z:i<m+1
  ·rw[g.l1 i z] at ht;rw[zab.mp ht];exact⟨by rw[show 5+i=4+(i+1) by lia];exact .one (i+1) (by lia),.inr ⟨by simp only;lia,by simp only;lia⟩⟩
  ·obtain rfl:i=m+1:=by lia
   rw[show 4+(m+1)=5+m by lia] at ht ⊢;rw[g.l2] at ht;obtain⟨f,_,rfl⟩:=zal.mp ht;exact⟨.two 0 _ (by decide) (md f (by decide)).1 (md f (by decide)).2,.inr ⟨by simp only;lia,by simp only;lia⟩⟩
 |two i x hi a b=>
  by_cases z:i<8
  ·rw[g.l3 i z] at ht;rw[zab.mp ht];exact⟨by rw[show 7+m+i=6+m+(i+1) by lia];exact .two (i+1) x (by lia) a b,.inr ⟨by simp only;lia,by simp only;lia⟩⟩
  ·obtain rfl:i=8:=by lia
   rw[show 6+m+8=14+m by lia] at ht ⊢;rw[g.l5] at ht;obtain⟨f,_,rfl⟩:=zal.mp ht;exact⟨.three x _ a b (md f (by decide)).1 (md f (by decide)).2,.inr ⟨by simp only;lia,by simp only;lia⟩⟩
 |three x y a b c d=>
  rw[g.l6] at ht;obtain⟨f,_,rfl⟩:=zal.mp ht;exact⟨.four x y _ a b c d (md f (by decide)).1 (md f (by decide)).2,.inr ⟨by simp only;lia,by simp only;lia⟩⟩
 |four x y z a b c d e f=>
  rw[g.l7] at ht;rw[zab.mp ht];exact⟨.D0 x y z a b c d e f,.inl ⟨rfl,rfl⟩⟩
 |D0 x y z a b c d e f=>cases ht
theorem M6{m:Nat}(g:Rz m)(S:bh->Prop)(h0:S (bf (dB m)))(hS:∀x,S x->∀y∈aY (dB m) x,S y):∀s,Bb m s->S s:=by
 have r1:∀i,i<m+2->S (((4+i:Nat):Int),[0,3,1]):=fun i=>by
  induction i with
  |zero=>intro _;rw[g.f] at h0;exact h0
  |succ i ih=>intro hi;exact hS _ (ih (by lia)) _ (by rw[g.l1 i (by lia),show 4+(i+1)=5+i by lia];exact zab.mpr rfl)
 have r2:∀i,i<9->∀x,0<=x->x<10->S (((6+m+i:Nat):Int),[x,3,1]):=fun i=>by
  induction i with
  |zero=>
   intro _ x a b;obtain⟨f,hf,e⟩:=dig a b (zaF 10);have:=r1 (m+1) (by lia);rw[show 4+(m+1)=5+m by lia] at this;exact hS _ this _ (by rw[g.l2];exact zal.mpr ⟨f,hf,by rw[e];rfl⟩)
  |succ i ih=>
   intro hi x a b;exact hS _ (ih (by lia) x a b) _ (by rw[g.l3 i (by lia),show 6+m+(i+1)=7+m+i by lia];exact zab.mpr rfl)
 have r3:∀x y,0<=x->x<10->0<=y->y<10->S (((15+m:Nat):Int),[x,y,1]):=fun x y a b c d=>by
  obtain⟨f,hf,e⟩:=dig c d (zaF 10);have:=r2 8 (by decide) x a b;rw[show 6+m+8=14+m by lia] at this;exact hS _ this _ (by rw[g.l5];exact zal.mpr ⟨f,hf,by rw[e]⟩)
 have r4:∀x y z,0<=x->x<10->0<=y->y<10->0<=z->z<9->S (((16+m:Nat):Int),[x,y,z]):=fun x y z a b c d e f=>by
  obtain⟨k,hk,ek⟩:=dig e f (by decide);exact hS _ (r3 x y a b c d) _ (by rw[g.l6];exact zal.mpr ⟨k,hk,by rw[ek]⟩)
 intro s h;cases h with
 |one i hi=>exact r1 i hi
 |two i x hi a b=>exact r2 i hi x a b
 |three x y a b c d=>exact r3 x y a b c d
 |four x y z a b c d e f=>exact r4 x y z a b c d e f
 |D0 x y z a b c d e f=>exact hS _ (r4 x y z a b c d e f) _ (by rw[g.l7];exact zab.mpr rfl)
theorem vk{m:Nat}(g:Rz m):Bb m (bf (dB m)):=by
 rw[g.f];exact .one 0 (by lia)
theorem RB{m:Nat}(h1:m<14)(h2:5<=m):dO (dB m):=by
 have tg:=HH m h1 h2;have key:∀m<14,5<=m->(aB (Al m)).Pairwise (fun a b=>a.row<b.row)/\(∀s∈aB (Al m),0<s.row):=by decide +kernel
 obtain⟨k1,k2⟩:=key m h1 h2;refine⟨⟨k1,by show ([[97],[97,98],[98]]:List PM.W).Nodup;decide,by show 3<=10;decide,k2⟩,tg.2.2.2.1,by have:=tg.2.2.2.2;show (cG (Al m)).length<=1000;lia,?_,fun x hx=>?_⟩
 ·have app:∀ {nm ex sg} (a b:List cD),zW nm ex sg a->zW nm ex sg b->zW nm ex sg (a++b):=fun {nm ex sg} a b ha hb=>by
   induction a with
   |nil=>exact hb
   |cons s r ih=>simp only[zW,zbV] at ha ⊢;exact⟨ha.1,ih ha.2⟩
  have says:∀ {nm ex sg} (r:Int) (n:Nat),(∀k:Nat,k<n->ex (.num k))->zW nm ex sg (kn r n):=fun {nm ex sg} r n h=>by
   unfold kn
   induction n with
   |zero=>simp[zW]
   |succ n ih=>
    rw[zaR,zat];refine app _ _ (ih fun k hk=>h k (by lia)) ?_;simp only[zaq,zaW,zW,Dq,and_true];exact h n (by lia)
  have num:∀k:Nat,k<1000->kN (dB m).aA (.num k)/\rF (.num k)<=2:=fun k hk=>⟨⟨by lia,by lia⟩,by show 0<=2;decide⟩
  refine app _ _ (app _ _ (app _ _ (app _ _ ?_ (says _ _ fun k hk=>num k (by lia))) ?_) (app _ _ (says _ _ fun k hk=>num k (by lia)) ?_)) ?_
  ·simp[zW,Dq,kN,rF,OV]
  ·simp[zW,Dq,dB]
  ·simp[zW,Dq,dB]
  ·simp[zW,Dq,kN,rF,dB]
 ·simp only[dB,zah,zaH,or_false] at hx;rcases hx with rfl |rfl |rfl<;>decide
theorem M7{m:Nat}(h1:m<14)(h2:5<=m):(aK (dB m) (bf (dB m))).length=1992+m/\∀x,Bb m x↔x∈(aK (dB m) (bf (dB m))).map (·.1):=by
 have g:=RA h1 h2;have c:=count_eq (RB h1 h2) (JE m) (ko.mpr (vk g)) (fun x hx y hy=>ko.mpr (vi g (ko.mp hx) hy).1) (fun S h0 hS x hx=>M6 g S h0 hS x (ko.mp hx));exact⟨by rw[c.1,Qd],fun x=>by rw[<- c.2 x];exact ko.symm⟩
theorem M8{pr:PG.Prog}{x x':bh×List Int}(e:wt (dy pr.body) (cI pr) x=some x')(hd:Dg x.2):x.1.1≠0/\x'.1∈aY pr x.1/\Dg x'.2/\x.2.length=x'.2.length+if dy pr.body x.1.1=true then 1 else 0:=by
 obtain⟨s,l⟩:=x;by_cases h0:s.1=0
 ·rw[yE h0] at e;cases e
 refine⟨h0,?_⟩;cases ha:dy pr.body s.1 with
 |false=>
  rw[mV h0 ha] at e;obtain⟨y,hy,rfl⟩:=zaM.mp e;refine⟨?_,hd,by simp⟩;unfold aY;rw[if_neg h0,if_neg (by rw[ha];exact zai),hy];exact zab.mpr rfl
 |true=>
  cases l with
  |nil=>rw[Hi ha] at e;cases e
  |cons f r=>
   rw[BK h0 ha] at e;obtain⟨y,hy,rfl⟩:=zaM.mp e;have hf:=hd f (zan ..);refine⟨?_,fun z hz=>hd z (zaj _ hz),by simp⟩;unfold aY;rw[if_neg h0,if_pos ha];refine zal.mpr ⟨f.toNat,zaS.mpr (by lia),?_⟩;rw[zbo hf.1,hy];rfl
def nF (m i:Nat):Nat:=if i<=m+1 then 3 else if i<=m+10 then 2 else if i<=m+11 then 1 else 0
theorem BY(m i:Nat):nF m i=nF m (i+1)+if i=m+1\/i=m+10\/i=m+11 then 1 else 0:=by
 unfold nF
 grind
theorem Qe(m:Nat):nF m (m+12)=0:=by
 unfold nF;rw[if_neg (by lia),if_neg (by lia),if_neg (by lia)]
theorem WW(m i:Nat):nF m i<=3:=by
 unfold nF
 grind
def zd (m:Nat) (r:Int):Nat:=if r=0 then 0 else nF m (r-4).toNat
theorem jG(m i:Nat){r:Int}(h:r=((4+i:Nat):Int)):zd m r=nF m i:=by
 unfold zd;rw[if_neg (by lia),show (r-4).toNat=i by lia]
theorem BZ{m:Nat}{s:bh}(h:Bb m s):s.1=0\/∃i,i<13+m/\s.1=((4+i:Nat):Int):=by
 cases h with
 |one i hi=>exact .inr ⟨i,by lia,rfl⟩
 |two i x hi a b=>exact .inr ⟨m+2+i,by lia,by simp only;lia⟩
 |three x y a b c d=>exact .inr ⟨m+11,by lia,by simp only;lia⟩
 |four x y z a b c d e f=>exact .inr ⟨m+12,by lia,by simp only;lia⟩
 |D0 x y z a b c d e f=>exact .inl rfl
theorem Ts{m:Nat}(g:Rz m){x:bh×List Int}{t:Tg}(h:PG.Met (dy (dB m).body) (cI (dB m)) (iE (dB m)) x t):t=.fin->Bb m x.1->Dg x.2->(∀i,i<13+m->x.1.1≠0->x.1.1<=((4+i:Nat):Int)->PG.Met (dy (dB m).body) (cI (dB m)) (iE (dB m)) x (.row ((4+i:Nat):Int)))/\zd m x.1.1<=x.2.length:=by
 induction h with
 |@here s t ht=>
  intro e hc hd;subst e;rcases BZ hc with h0 |⟨i,hi,e⟩
  ·exact⟨fun _ _ n=>absurd h0 n,by unfold zd;rw[if_pos h0];exact zaK _⟩
  ·obtain⟨⟨r,v⟩,l⟩:=s;simp only at e;subst e;rw[g.t i hi] at ht;cases zab.mp ht
 |@on s s' t e m' ih=>
  intro et hc hd;obtain⟨h0,hl,Ab,ln⟩:=M8 e hd;obtain⟨RW,nx⟩:=vi g hc hl;obtain⟨q1,q2⟩:=ih et RW Ab;obtain⟨j,hj,ej⟩:=(BZ hc).resolve_left h0;have na:=g.na j hj;rw[<- ej] at na;have na:dy (dB m).body s.1.1=decide (j=m+1\/j=m+10\/j=m+11):=na;refine⟨fun i hi _ hle=>?_,?_⟩
  ·by_cases z:s.1.1=((4+i:Nat):Int)
   ·refine .here ?_;obtain⟨⟨r,v⟩,l⟩:=s;simp only at z;subst z;rw[g.t i hi];exact zab.mpr rfl
   ·refine .on e (q1 i hi ?_ ?_)
    ·rcases nx with ⟨_,n2⟩ |⟨n1,_⟩
     ·lia
     ·lia
    ·rcases nx with ⟨_,n2⟩ |⟨n1,_⟩
     ·lia
     ·lia
  ·rw[ln,na,jG m j ej];rcases nx with ⟨n1,n2⟩ |⟨n1,n2⟩
   ·obtain rfl:j=m+12:=by lia
    rw[Qe];exact zaK _
   ·rw[jG m (j+1) (by lia)] at q2;rw[BY];by_cases d:j=m+1\/j=m+10\/j=m+11
    ·rw[if_pos d,if_pos (decide_eq_true d)];exact Nat.add_le_add_right q2 1
    ·rw[if_neg d,if_neg (by rw[decide_eq_false d];exact zai)];exact q2
theorem B0{m:Nat}(g:Rz m){s:bh}(h:Bb m s){t:Tg}(ht:t∈iE (dB m) s):t=.fin\/∃i,i<13+m/\t=.row ((4+i:Nat):Int):=by
 obtain⟨r,v⟩:=s;rcases BZ h with h0 |⟨i,hi,e⟩
 ·unfold iE at ht;rw[if_pos h0] at ht;exact .inl (zab.mp ht)
 ·simp only at e;subst e;rw[g.t i hi] at ht;exact .inr ⟨i,hi,zab.mp ht⟩
theorem Tt{m:Nat}(g:Rz m){x:bh×List Int}{t:Tg}(h:PG.Met (dy (dB m).body) (cI (dB m)) (iE (dB m)) x t):Bb m x.1->Dg x.2->t=.fin\/∃i,i<13+m/\t=.row ((4+i:Nat):Int):=by
 induction h with
 |here ht=>exact fun hc _=>B0 g hc ht
 |on e _ ih=>
  intro hc hd;obtain⟨_,hl,Ab,_⟩:=M8 e hd;exact ih (vi g hc hl).1 Ab
theorem Tu{m:Nat}(g:Rz m){s:bh}{f:List Int}(c:Cm (aY (dB m)) (bf (dB m)) s f):Bb m s/\f.length+zd m s.1<=3:=by
 have nz:∀ {s t:bh},Bb m s->t∈aY (dB m) s->∃j,j<13+m/\s.1=((4+j:Nat):Int):=fun {s t} h ht=>by
  rcases BZ h with h0 |h
  ·cases h with
   |D0 x y z a b c d e f=>cases ht
   |one i hi=>simp only at h0;lia
   |two i x hi a b=>simp only at h0;lia
   |three x y a b c d=>simp only at h0;lia
   |four x y z a b c d e f=>simp only at h0;lia
  ·exact h
 induction c with
 |start=>
  refine⟨vk g,?_⟩;rw[g.f,jG m 0 (show ((4:Int),([0,3,1]:List Int)).1=((4+0:Nat):Int) from rfl),zaQ,zcX];exact WW m 0
 |@one s t f _ e ih=>
  obtain⟨i1,i2⟩:=ih;have ht:t∈aY (dB m) s:=by rw[e];exact zab.mpr rfl
  obtain⟨n1,n2⟩:=vi g i1 ht;obtain⟨j,hj,ej⟩:=nz i1 ht;refine⟨n1,zaw (zdn ?_ _) i2⟩;rw[jG m j ej];rcases n2 with ⟨n3,n4⟩ |⟨n3,n4⟩
  ·unfold zd;rw[if_pos n3];exact zaK _
  ·rw[jG m (j+1) (by lia),BY m j];exact Nat.le_add_right _ _
 |@many s t f i _ n e ih=>
  obtain⟨i1,i2⟩:=ih;have ht:t∈aY (dB m) s:=za0 e;obtain⟨n1,n2⟩:=vi g i1 ht;obtain⟨j,hj,ej⟩:=nz i1 ht;refine⟨n1,?_⟩;rw[zaf,zaC];have hk:j=m+1\/j=m+10\/j=m+11:=by
   refine Classical.byContradiction fun d=>n ?_;have na:=g.na j hj;rw[decide_eq_false d,<- ej] at na;have na:dy (dB m).body s.1=false:=na;have hl:=ht;unfold aY at hl ⊢;rw[if_neg (by lia),if_neg (by rw[na];exact zai)] at hl ⊢;cases hs:(cI (dB m) s.1 s.2 0).1 with
   |none=>rw[hs] at hl;cases hl
   |some y=>rfl
  rw[jG m j ej] at i2;rcases n2 with ⟨n3,n4⟩ |⟨n3,n4⟩
  ·lia
  ·rw[jG m (j+1) (by lia)];rw[BY m j,if_pos hk] at i2;lia
theorem Tv{m:Nat}(h1:m<14)(h2:5<=m):dO (dB m)/\aM (dB m)<=200000/\(aK (dB m) (bf (dB m))).length=1992+m/\(∃f,fq (dB m)=[f]/\3<=f.length/\Dg f)/\ox (dB m)=[.bW 4]/\(dS (dB m)).length*(2*aM (dB m))<=4000000/\∀x∈ou (dB m) (aK (dB m) (bf (dB m))),x.2.length<=10:=by
 have g:=RA h1 h2;have d:=RB h1 h2;obtain⟨cnt,mem⟩:=M7 h1 h2;obtain⟨tg1,tg2,tg3,_⟩:=HH m h1 h2;have many:aM (dB m)<=24300:=by
  unfold aM;rw[yG];have e1:(A6 (dB m)).length=13+m:=by unfold A6;rw[zad];exact tg3
  have e2:(iL (ig (dB m))).length=900:=by rw[iH];rfl
  rw[e1,e2];lia
 have keys:∀t,t∈(ou (dB m) (aK (dB m) (bf (dB m)))).map (·.1)↔∃s,Bb m s/\t∈iE (dB m) s:=fun t=>by
  rw[BV]
  constructor
  ·rintro ⟨x,hx,h⟩
   exact⟨x.1,(mem _).mpr (zal.mpr ⟨x,hx,rfl⟩),h⟩
  ·rintro ⟨s,hs,h⟩
   obtain⟨x,hx,rfl⟩:=zal.mp ((mem s).mp hs);exact⟨x,hx,h⟩
 have WX:Bb m (0,[0,0,0]):=.D0 0 0 0 (by decide) (by decide) (by decide) (by decide) (by decide) (by decide);obtain⟨f,hf,mf⟩:=yY d ((keys .fin).mpr ⟨_,WX,by unfold iE;rw[if_pos rfl];exact zab.mpr rfl⟩);have kd:∀f∈fq (dB m),Dg f:=fun f hf=>(PX d hf).1;obtain⟨all,len⟩:=Ts g mf rfl (vk g) (kd f hf);have e4:(bf (dB m)).1=((4+0:Nat):Int):=by rw[g.f];rfl
 have len:3<=f.length:=by
  have l:zd m (bf (dB m)).1<=f.length:=len;rw[jG m 0 e4] at l;have:nF m 0=3:=by unfold nF;rw[if_pos (by lia)]
  lia
 have aaF:∀t,(t=.fin\/∃i,i<13+m/\t=.row ((4+i:Nat):Int))->yI (dB m) f t:=fun t ht=>by
  rcases ht with rfl |⟨i,hi,rfl⟩
  ·exact mf
  ·exact all i hi (by rw[show (_:Int)=_ from e4];lia) (by rw[show (_:Int)=_ from e4];lia)
 have one:fq (dB m)=[f]:=by
  obtain⟨i,hi,ei⟩:=zbX.mp hf;have only:∀j (hj:j<(fq (dB m)).length),j=i:=fun j hj=>Classical.byContradiction fun n=>by
   obtain⟨t,m1,m2⟩:=MV d hj;refine m2 i hi (fun z=>n z.symm) ?_;rw[ei];exact aaF t (Tt g m1 (vk g) (kd _ (zas hj)))
  have l1:(fq (dB m)).length=1:=by
   have h0:=only 0 (by lia);refine Nat.le_antisymm ?_ (by lia);refine zcV fun z=>?_;have:=only 1 z;lia
  obtain⟨q,eq⟩:=zbS.mp l1;rw[eq] at hf ⊢;rw[zab.mp hf]
 refine⟨d,by lia,cnt,⟨f,one,len,kd f hf⟩,?_,?_,fun x hx=>?_⟩
 ·rw[y0 (U:=UO m) (nv:=fun t=>decide (t=.bW 4)) (fun x=>by rw[ko];exact mem x) fun t ht=>?_]
  ·exact tg2
  ·rw[decide_eq_false_iff_not]
   constructor
   ·rintro ⟨s,hs,h⟩ e
    rcases B0 g (ko.mp hs) h with z |⟨i,_,z⟩
    ·rw[z] at e;cases e
    ·rw[z] at e;cases e
   ·intro n;rcases tg1 t ht with z |rfl |⟨i,hi,rfl⟩
    ·exact absurd z n
    ·exact⟨_,ko.mpr WX,by unfold iE;rw[if_pos rfl];exact zab.mpr rfl⟩
    ·have:∃v,Bb m (((4+i:Nat):Int),v):=by
      by_cases z1:i<m+2
      ·exact⟨_,.one i z1⟩
      by_cases z2:i<m+11
      ·exact⟨_,by rw[show 4+i=6+m+(i-(m+2)) by lia];exact .two (i-(m+2)) 0 (by lia) (by decide) (by decide)⟩
      by_cases z3:i=m+11
      ·exact⟨_,by rw[show 4+i=15+m by lia];exact .three 0 0 (by decide) (by decide) (by decide) (by decide)⟩
      ·exact⟨_,by rw[show 4+i=16+m by lia];exact .four 0 0 0 (by decide) (by decide) (by decide) (by decide) (by decide) (by decide)⟩
     obtain⟨v,hv⟩:=this;exact⟨_,ko.mpr hv,by rw[g.t i hi];exact zab.mpr rfl⟩
 ·have l1:(dS (dB m)).length<=(ou (dB m) (aK (dB m) (bf (dB m)))).length:=by
   have:=DO ((ou (dB m) (aK (dB m) (bf (dB m)))).map (·.2)) [];rw[zaQ,zad,zcX] at this;exact this
  have l2:(ou (dB m) (aK (dB m) (bf (dB m)))).length<=13+m+1:=by
   have:=jh _ ((zaB (13+m)).map (fun i:Nat=>Tg.row ((4+i:Nat):Int))++[.fin]) (Js (dB m) (aK (dB m) (bf (dB m)))) fun t ht=>by
    obtain⟨s,hs,h⟩:=(keys t).mp ht;rcases B0 g hs h with rfl |⟨i,hi,rfl⟩
    ·exact zav _ (zab.mpr rfl)
    ·exact zaN _ (zal.mpr ⟨i,zaS.mpr hi,rfl⟩)
   simp only[zaf,zad,zaZ,zaC] at this;exact this
  exact zaw (zbl (show (dS (dB m)).length<=27 by lia) (zbl (zag 2) many)) (by decide)
 ·obtain⟨y,hy,_,e⟩:=BW _ _ x hx;obtain⟨k,b⟩:=ql d;have:=(Tu g (b.sf y hy)).2;rw[e];lia
def xU (bs:List ui):PG.Prog:=⟨bs,[]⟩
theorem Tw{bs:List ui}(nb:(bs.map (·.name)).Nodup)(lb:bs.length<=4)(sz:∀b∈bs,2<=b.size/\b.size<=10/\0<=b.first/\b.first<b.size):dO (xU bs)/\aM (xU bs)<=200000/\(aK (xU bs) (bf (xU bs))).length<=2000/\fq (xU bs)=[[]]/\ox (xU bs)=[]/\(dS (xU bs)).length*(2*aM (xU bs))<=4000000/\∀x∈ou (xU bs) (aK (xU bs) (bf (xU bs))),x.2.length<=10:=by
 have d:dO (xU bs):=⟨⟨.nil,nb,by show bs.length<=10;lia,fun s hs=>by cases hs⟩,by show 0<=3;decide,by show 0<=1000;decide,by show zW _ _ _ [];simp[zW],sz⟩
 have l0:aY (xU bs) (bf (xU bs))=[]:=by unfold aY;rw[if_pos (show (bf (xU bs)).1=0 from rfl)]
 have c:=count_eq d (U:=[bf (xU bs)]) (by simp) (zab.mpr rfl) (fun x hx y hy=>by rw[zab.mp hx,l0] at hy;cases hy) (fun S h0 _ x hx=>by rw[zab.mp hx];exact h0);have many:aM (xU bs)<=10000:=by
  unfold aM;rw[yG];have h2:=yF (ig (xU bs)) fun s hs=>by
   obtain⟨x,hx,rfl⟩:=zal.mp hs;exact(sz x hx).2.1
  have h3:(10:Nat) ^ (ig (xU bs)).length<=10 ^ 4:=za7 (by decide) (by unfold ig;rw[zad];exact lb);show (0+1)*_<=_;lia
 have Hg:=Ry d (U:=[bf (xU bs)]) (zab.mpr rfl) (fun x hx y hy=>by rw[zab.mp hx,l0] at hy;cases hy) (fun x hx=>by rw[zab.mp hx,l0];exact zaK _);have w5:aK (xU bs) (bf (xU bs))≠[]:=fun z=>by
  have:=c.1;rw[z] at this;cases this
 obtain⟨k1,k2,k3⟩:=DY d Hg w5;refine⟨d,by lia,by rw[c.1];show 1<=2000;decide,k1,?_,zaw (zbl k2 (zbl (zag 2) many)) (by decide),fun x hx=>by rw[k3 x hx];exact zaK _⟩;rw[y0 (nv:=fun _=>false) c.2 fun t ht=>⟨fun _=>rfl,fun _=>⟨_,zab.mpr rfl,?_⟩⟩]
 ·exact zdd.mpr fun _ _=>by simp
 ·cases zab.mp (show t∈[Tg.fin] from ht);unfold iE;rw[if_pos (show (bf (xU bs)).1=0 from rfl)];exact zab.mpr rfl
theorem B1{H:Hp}{D p:zdv}{u:HO}(hp:H p=none)(hD:H D=some u)(o:HO):wo (upd H p o) D=upd (wo H D) p o/\wo H D p=none:=by
 have ne:p≠D:=fun e=>by rw[e,hD] at hp;cases hp
 refine⟨funext fun b=>?_,by rw[cZ ne];exact hp⟩;by_cases e:b=D
 ·subst e;rw[gF,au (Ne.symm ne),gF]
 ·rw[cZ e];by_cases e2:b=p
  ·subst e2;rw[ah,ah]
  ·rw[au e2,au e2,cZ e]
theorem qv{K:zaa}{H:Hp}{g:Nat->Bool}:∀l:List Nat,aD K H (l.map fun k=>Dp.bl (g k)) (l.map fun k=>V.bl (g k))
 |[]=>.nil
 |_::r=>.cons (Rep.kK.mpr rfl) (qv r)
section
variable(K:zaa)(qual:Str)(Pt:zdv)(lp:Pos)
inductive M9(vs:List V)(H:Hp)(Q:VK)(E:XK):Prop
 |mk (r:Int) (n:Nat):vs=[.int r,.int n]->n<=100->(∀l us H',aq H H'->H l=none->H' l=some (.lst us)->aD K H' ((kn r n).map fI) us->Q (.ref l) H')->M9 vs H Q E
inductive Ea(vs:List V)(H:Hp)(Q:VK)(E:XK):Prop
 |mk (m:Nat):vs=[.int m]->m<=100->(∀v H',aq H H'->Rep K H' (my (dB m)) v->Q v H')->Ea vs H Q E
inductive Na(vs:List V)(H:Hp)(Q:VK)(E:XK):Prop
 |mk (v:V) (pr:PG.Prog) (ps:Array zdw):vs=[v]->Rep K H (my pr) v->dO pr->aM pr<=200000->2000<(aK pr (bf pr)).length->H Pt=some (.nT ps)->TabOk qual lp H ps->(∀l H' sk,aS Pt H H'->H' Pt=some (.nT sk)->TabOk qual lp H' sk->H' l=some (.lst ((zaB 14).map fun k=>V.bl (decide (k=12))))->Q (.ref l) H')->Na vs H Q E
inductive B2(vs:List V)(H:Hp)(Q:VK)(E:XK):Prop
 |mk (q li ln fa ne:zdv) (least:Int) (f:List Int) (nv nw:List V) (ts:List Tg):vs=[.ref q,.ref ne,.int least]->bQ K H q [.ref li,.ref ln]->H li=some (.lst [.ref fa])->H ln=some (.lst nv)->H fa=some (.lst (f.map V.int))->H ne=some (.lst nw)->aD K H (ts.map g7) nv->aD K H (ts.map g7) nw->least<=f.length->f.length<=10000->Dg f->(∀H',aq H H'->Q (.bl true) H')->B2 vs H Q E
inductive Nb(vs:List V)(H:Hp)(Q:VK)(E:XK):Prop
 |mk (m:Nat) (ps:Array zdw):vs=[.int m]->m<14->5<=m->H Pt=some (.nT ps)->TabOk qual lp H ps->(∀H',Q (.bl true) H')->Nb vs H Q E
end
theorem Tz{K:zaa}{H H':Hp}{pr:PG.Prog}{q li ln:zdv}{us nv:List V}{f:List Int}(su:Th K H H' pr q li ln us nv)(k:fq pr=[f])(b:∀x∈ou pr (aK pr (bf pr)),x.2.length<=10) :
 f.length<=10/\∃fa,us=[.ref fa]/\H' fa=some (.lst (f.map V.int)):=by
 have i:=su.WC;rw[k] at i;have hf:f∈dS pr:=(qX pr).subset (by rw[k];exact zab.mpr rfl);obtain⟨x,hx,rfl⟩:=zal.mp ((vg pr f).mp hf);refine⟨b x hx,?_⟩;cases i with
 |cons h t=>
  cases t;obtain⟨a,rfl,_,ya⟩:=h;exact⟨a,rfl,ya⟩
theorem F4{K:zaa}{H H' H2:Hp}{pr:PG.Prog}{q li ln ne:zdv}{us nv nw:List V}{f:List Int}{least:Int}{Q:VK}{E:XK}(su:Th K H H' pr q li ln us nv)(s:aq H' H2)(k:fq pr=[f])(b:∀x∈ou pr (aK pr (bf pr)),x.2.length<=10)
 (dg:Dg f) (hl:least<=f.length) (ye:H2 ne=some (.lst nw)) (rw_:aD K H2 ((ox pr).map g7) nw) (qq:∀H',aq H2 H'->Q (.bl true) H'):B2 K [.ref q,.ref ne,.int least] H2 Q E:=by
 obtain⟨lf,fa,rfl,ya⟩:=Tz su k b;exact⟨q,li,ln,fa,ne,least,f,nv,nw,_,rfl,s.bM su.q_,s _ _ su.li_,s _ _ su.ln_,s _ _ ya,ye,aD.mono s su.nv_,rw_,hl,by lia,dg,qq⟩
def sub (H H':Hp):Hp:=fun b=>match H b with
 |none=>H' b
 |some _=>none
section
variable{K:zaa}{H H1 H2:Hp}{p:zdv}{vs:List V}{ds:List Dp}
theorem oA{b:zdv}(h:H b=none):sub H H1 b=H1 b:=by unfold sub;rw[h]
theorem zf{b:zdv}(h:H b≠none):sub H H1 b=none:=by
 unfold sub;cases e:H b with
 |none=>exact absurd e h
 |some _=>rfl
theorem TB:aq (sub H H1) H1:=fun b o e=>by
 by_cases z:H b=none
 ·rw[oA z] at e;exact e
 ·rw[zf z] at e;cases e
theorem bG(s:aq H1 H2):aq (sub H H1) (sub H H2):=fun b o e=>by
 by_cases z:H b=none
 ·rw[oA z] at e ⊢;exact s _ _ e
 ·rw[zf z] at e;cases e
theorem same_none(s:aq H H1)(h:H1 p=none):H p=none:=by
 cases e:H p with
 |none=>rfl
 |some o=>rw[s _ _ e] at h;cases h
theorem HJ(h0:H p=none)(o:HO):sub H (upd H1 p o)=upd (sub H H1) p o:=funext fun b=>by
 by_cases e:b=p
 ·subst e;rw[ah,oA h0,ah]
 ·rw[au e];by_cases z:H b=none
  ·rw[oA z,oA z,au e]
  ·rw[zf z,zf z]
theorem Qf(h0:H p=none)(hp:H1 p=none)(hr:aD K (sub H H1) ds vs):Rep K (sub H (upd H1 p (.tup vs))) (.tup ds) (.ref p):=by
 rw[HJ h0];exact Rep.new (by rw[oA h0];exact hp) hr
theorem Lj(h0:H p=none)(hp:H1 p=none)(hr:aD K (sub H H1) ds vs):Rep K (sub H (upd H1 p (.lst vs))) (.lst ds) (.ref p):=by
 rw[HJ h0];exact Rep.Lj (by rw[oA h0];exact hp) hr
theorem zY(s:aq H H1)(e:upd H1 p (.tup vs)=H2)(hp:H1 p=none)(hr:aD K (sub H H1) ds vs):Rep K (sub H H2) (.tup ds) (.ref p):=e▸Qf (same_none s hp) hp hr
theorem TC(s:aq H H1)(e:upd H1 p (.lst vs)=H2)(hp:H1 p=none)(hr:aD K (sub H H1) ds vs):Rep K (sub H H2) (.lst ds) (.ref p):=e▸Lj (same_none s hp) hp hr
end
section
variable(K:zaa)
inductive Eb(vs:List V)(H:Hp)(Q:VK)(E:XK):Prop
 |mk (sz:zdv) (a b c:Int) (n:Nat):vs=[.ref sz,.int n]->H sz=some (.lst [.int a,.int b,.int c])->n<=100->(∀p bl dl zg N H',aq H H'->aq N H'->(∀b,H b≠none->N b=none)->bQ K N p [.ref bl,.ref dl]->N bl=some (.lst zg)->aD K N ((pE a b c n).aA.map j0) zg->Rep K N (my (pE a b c n)) (.ref p)->Q (.ref p) H')->Eb vs H Q E
end
theorem F5{D Dk C G:zdv}{n:Nat}{te:TE}{Q:VK}{r:St}{H:Hp}{d:PG.Dk}(ok:V->Prop)(hl:n<=16000000)(hD:H D=none)(dk:jW H Dk C G d)
 (step:∀(i:Nat) x H2 d2,i<n->jW H2 Dk C G d2->d2.pos=d.pos+i->∀R:VK,(∀v H3 d3,ok v->xy Dk C H2 H3->jW H3 Dk C G d3->d3.pos=d2.pos+1->R v H3)->te (some x::r) H2 R)
 (q:∀(vs:List V) H2 d2,vs.length=n->(∀m∈vs,ok m)->xy Dk C H H2->jW H2 Dk C G d2->d2.pos=d.pos+n->H2 D=some (.lst vs)->D≠Dk->D≠C->Q (.ref D) H2) :
 pQ (UB 0 n) D (dW 0) xu te Q (none::r) (upd H D (.lst [])):=by
 have nD:D≠Dk:=fun z=>by rw[z,dk.oy] at hD;cases hD
 have nC:D≠C:=fun z=>by rw[z,dk.cs] at hD;cases hD
 have nG:D≠G:=fun z=>by rw[z,dk.gs] at hD;cases hD
 have dkp:∀ {H2:Hp} {d2:PG.Dk} {o:HO},jW H2 Dk C G d2->jW (upd H2 D o) Dk C G d2:=fun d=>⟨by rw[au nD.symm];exact d.oy,by rw[au nC.symm];exact d.cs,by rw[au nG.symm];exact d.gs,d.MX,d.UK,d.UL,d.len,d.gl,d.pos⟩
 have cg:∀ {H2:Hp} {o:HO},xy Dk C H H2->xy Dk C H (upd H2 D o):=fun u=>⟨fun b w n e=>by rw[au (aj e hD)];exact u.u b w n e,fun b h=>by
  by_cases e:b=D
  ·rw[e,ah];simp
  ·rw[au e];exact u.dom b h⟩
 refine⟨fun i m τ H2=>m=n-i/\i<=n/\(∃x,τ=x::r)/\xy Dk C H H2/\∃d2,jW H2 Dk C G d2/\d2.pos=d.pos+i/\∃vs:List V,H2 D=some (.lst vs)/\vs.length=i/\∀m∈vs,ok m,⟨n,by simp,zaK _,⟨none,rfl⟩,cg .refl,d,dkp dk,by simp,[],ah,rfl,fun m z=>by simp at z⟩,?_⟩
 rintro i m τ H2 ⟨rfl,hi,⟨x,rfl⟩,u2,d2,k2,p2,vs,h2,ly,o2⟩
 by_cases rV:i<n
 ·refine .inr ⟨rV,fun τ' H'=>(∃x,τ'=x::r)/\xy Dk C H H'/\∃d2,jW H' Dk C G d2/\d2.pos=d.pos+(i+1:Nat)/\∃vs:List V,H' D=some (.lst vs)/\vs.length=i+1/\∀m∈vs,ok m,fun τ' H' ⟨h1,h3,h4⟩=>⟨n-(i+1),by lia,rfl,rV,h1,h3,h4⟩,fun y H' hy=>?_⟩;obtain⟨rfl,rfl⟩:=hy;simp only[dW,za8,xu];rw[if_pos trivial];refine step i _ _ d2 rV k2 p2 _ fun v H3 d3 hv u3 k3 p3=>⟨vs,u3.get h2 nD nC,?_,⟨_,rfl⟩,cg (u2.trans u3),d3,dkp k3,by rw[p3,p2];lia,vs++[v],ah,by simp[ly],fun m hm=>?_⟩
  ·have:zdD=2 ^ 24:=rfl;lia
  ·rcases zak.mp hm with hm |hm
   ·exact o2 m hm
   ·rw[zab.mp hm];exact hv
 ·have e:i=n:=by lia
  subst e;exact .inl ⟨zag _,q vs H2 d2 ly o2 u2 k2 p2 h2 nD nC⟩
theorem Nc{H H':Hp}{D C G Pt:zdv}{d:Dk}{ps:Array zdw}(k:jW H D C G d)(u:aS Pt H H')(y:H Pt=some (.nT ps)):jW H' D C G d:=
 ⟨u _ _ (fun z=>by have:=k.oy;rw[z,y] at this;cases this) k.oy,u _ _ (fun z=>by have:=k.cs;rw[z,y] at this;cases this) k.cs,u _ _ (fun z=>by have:=k.gs;rw[z,y] at this;cases this) k.gs,k.MX,k.UK,k.UL,k.len,k.gl,k.pos⟩
theorem WY{N H H':Hp}{Pt:zdv}(s:aq N H)(u:aS Pt H H')(n:N Pt=none):aq N H':=fun b o e=>u _ _ (aj e n) (s _ _ e)
theorem WZ{N H H':Hp}{D C:zdv}(s:aq N H)(c:xy D C H H')(n:N D=none)(n2:N C=none):aq N H':=fun b o e=>c.get (s _ _ e) (aj e n) (aj e n2)
theorem HK{K:zaa}{H:Hp}:∀ {ds:List Dp} {vs:List V},aD K H ds vs->∀k,aD K H (ds.take k) (vs.take k)
 |_,_,_,0=>.nil
 |[],_,h,k+1=>by unfold aD at h;rw[h];exact .nil
 |_::_,_,h,k+1=>by
  unfold aD at h;obtain⟨v,r,e1,e2,e3⟩:=h;rw[e1];exact .cons e2 (HK e3 k)
end L2
section
set_option maxHeartbeats 4000000
namespace TF
open PG
open PySem L2
def top (i:Nat):Stmt:=PySem.Challenge.pw_everyrow_k52_suites_of_counters.main.body.getD i (.Pass ⟨0,0,0,0⟩)
abbrev F6:Stmt:=top 2
abbrev kS:Stmt:=top 3
abbrev qw:Stmt:=top 4
abbrev mB:Stmt:=top 5
abbrev wB:Stmt:=top 6
abbrev qx:Stmt:=top 7
abbrev jX:Stmt:=top 8
abbrev B3:Stmt:=top 25
abbrev wC:Stmt:=top 28
abbrev tT:Stmt:=top 29
abbrev tU:Stmt:=top 30
abbrev B4:Stmt:=top 31
abbrev wD:Stmt:=top 35
abbrev ik:Stmt:=top 36
abbrev oB:Stmt:=top 37
abbrev wF:Stmt:=top 40
abbrev oC:Stmt:=top 41
abbrev zh:Stmt:=top 42
abbrev iU:Stmt:=top 43
abbrev aF:Stmt:=top 44
abbrev oE:Stmt:=top 45
abbrev iI:Stmt:=top 46
abbrev B5:Stmt:=top 48
abbrev zi:Stmt:=top 49
abbrev qy:Stmt:=top 51
abbrev qz:Stmt:=top 52
abbrev kT:Stmt:=top 53
abbrev qA:Stmt:=top 54
abbrev mC:Stmt:=top 55
abbrev kU:Stmt:=top 56
abbrev jj:Stmt:=top 57
abbrev gU:Stmt:=top 58
abbrev Nd:Stmt:=top 59
abbrev dc:Stmt:=inClass (top 27) 0
abbrev el:Stmt:=inClass (top 34) 0
abbrev bu:Stmt:=inClass (top 34) 1
abbrev bU:Stmt:=inClass (top 34) 2
abbrev de:Stmt:=inClass (top 34) 3
theorem HL:aT ["program"] ["program"] (az F6):=⟨rfl,rfl,rfl,by decide +kernel,rfl,by decide +kernel,by decide +kernel⟩
theorem o9:aT ["body", "behind", "told", "place", "statement", "after", "inner"] ["body", "behind"] (az kS):=⟨rfl,rfl,rfl,by decide +kernel,rfl,by decide +kernel,by decide +kernel⟩
theorem vm:aT ["body", "behind"] ["body", "behind"] (az qw):=⟨rfl,rfl,rfl,by decide +kernel,rfl,by decide +kernel,by decide +kernel⟩
theorem qB:aT ["statement", "after"] ["statement", "after"] (az mB):=⟨rfl,rfl,rfl,by decide +kernel,rfl,by decide +kernel,by decide +kernel⟩
theorem zj:aT ["statement", "after", "word"] ["statement", "after"] (az wB):=⟨rfl,rfl,rfl,by decide +kernel,rfl,by decide +kernel,by decide +kernel⟩
theorem vn:aT ["statement"] ["statement"] (az qx):=⟨rfl,rfl,rfl,by decide +kernel,rfl,by decide +kernel,by decide +kernel⟩
theorem nj:aT ["body", "found", "statement", "inner"] ["body"] (az jX):=⟨rfl,rfl,rfl,by decide +kernel,rfl,by decide +kernel,by decide +kernel⟩
theorem Ec:aT ["e", "values", "kind", "left", "right"] ["e", "values"] (az B3):=⟨rfl,rfl,rfl,by decide +kernel,rfl,by decide +kernel,by decide +kernel⟩
theorem zl:aT ["chart", "row"] ["chart", "row"] (az wC):=⟨rfl,rfl,rfl,by decide +kernel,rfl,by decide +kernel,by decide +kernel⟩
theorem xi:aT ["chart", "parts"] ["chart", "parts"] (az tT):=⟨rfl,rfl,rfl,by decide +kernel,rfl,by decide +kernel,by decide +kernel⟩
theorem xj:aT ["chart", "named"] ["chart", "named"] (az tU):=⟨rfl,rfl,rfl,by decide +kernel,rfl,by decide +kernel,by decide +kernel⟩
theorem Ed:aT ["chart", "standing", "statement", "values", "left", "right"] ["chart", "standing"] (az B4):=⟨rfl,rfl,rfl,by decide +kernel,rfl,by decide +kernel,by decide +kernel⟩
theorem zm:aT ["chart", "standing", "figure", "row", "statement", "word", "values", "said"] ["chart", "standing", "figure"] (az wD):=⟨rfl,rfl,rfl,by decide +kernel,rfl,by decide +kernel,by decide +kernel⟩
theorem j6:aT ["chart", "standing", "row"] ["chart", "standing"] (az ik):=⟨rfl,rfl,rfl,by decide +kernel,rfl,by decide +kernel,by decide +kernel⟩
theorem sC:aT ["chart", "standing", "word", "behind"] ["chart", "standing"] (az oB):=⟨rfl,rfl,rfl,by decide +kernel,rfl,by decide +kernel,by decide +kernel⟩
theorem zo:aT ["program", "told", "entry", "row"] ["program"] (az wF):=⟨rfl,rfl,rfl,by decide +kernel,rfl,by decide +kernel,by decide +kernel⟩
theorem sE:aT ["chart", "standing", "row", "word"] ["chart", "standing"] (az oC):=⟨rfl,rfl,rfl,by decide +kernel,rfl,by decide +kernel,by decide +kernel⟩
theorem Bc:aT ["chart", "figures", "walk", "met", "seen", "target"] ["chart", "figures"] (az zh):=⟨rfl,rfl,rfl,by decide +kernel,rfl,by decide +kernel,by decide +kernel⟩
theorem kW:aT ["chart", "met", "standing", "figures", "target"] ["chart"] (az iU):=⟨rfl,rfl,rfl,by decide +kernel,rfl,by decide +kernel,by decide +kernel⟩
theorem pb:aT ["chart"] ["chart"] (az aF):=⟨rfl,rfl,rfl,by decide +kernel,rfl,by decide +kernel,by decide +kernel⟩
theorem sF:aT ["first", "led_from", "found", "asking", "behind", "figures", "led", "figure", "place"] ["first", "led_from"] (az oE):=⟨rfl,rfl,rfl,by decide +kernel,rfl,by decide +kernel,by decide +kernel⟩
theorem zp:aT ["place", "led_from", "figures", "found", "led"] ["place", "led_from", "figures", "found"] (az iI):=⟨rfl,rfl,rfl,by decide +kernel,rfl,by decide +kernel,by decide +kernel⟩
theorem Ee:aT ["program", "chart", "shortest_by", "never"] ["program"] (az B5):=⟨rfl,rfl,rfl,by decide +kernel,rfl,by decide +kernel,by decide +kernel⟩
theorem Be:aT ["chart", "shortest_by", "met", "counts", "figures", "target", "kept"] ["chart", "shortest_by"] (az zi):=⟨rfl,rfl,rfl,by decide +kernel,rfl,by decide +kernel,by decide +kernel⟩
theorem vo:aT ["deck", "many", "at", "place", "found", "number"] ["deck", "many"] (az qy):=⟨rfl,rfl,rfl,by decide +kernel,rfl,by decide +kernel,by decide +kernel⟩
theorem vp:aT ["script", "great"] ["script"] (az qz):=⟨rfl,rfl,rfl,by decide +kernel,rfl,by decide +kernel,by decide +kernel⟩
theorem pd:aT ["sizes", "says", "boxes", "one", "last", "inner", "body"] ["sizes", "says"] (az kT):=⟨rfl,rfl,rfl,by decide +kernel,rfl,by decide +kernel,by decide +kernel⟩
theorem vq:aT ["row", "many"] ["row", "many"] (az qA):=⟨rfl,rfl,rfl,by decide +kernel,rfl,by decide +kernel,by decide +kernel⟩
theorem qC:aT ["ahead", "boxes", "body"] ["ahead"] (az mC):=⟨rfl,rfl,rfl,by decide +kernel,rfl,by decide +kernel,by decide +kernel⟩
theorem pe:aT ["program", "told", "e"] ["program"] (az kU):=⟨rfl,rfl,rfl,by decide +kernel,rfl,by decide +kernel,by decide +kernel⟩
theorem lL:aT ["told", "never", "least"] ["told", "never", "least"] (az jj):=⟨rfl,rfl,rfl,by decide +kernel,rfl,by decide +kernel,by decide +kernel⟩
theorem jH:aT ["ahead", "program"] ["ahead"] (az gU):=⟨rfl,rfl,rfl,by decide +kernel,rfl,by decide +kernel,by decide +kernel⟩
theorem Nf:aT ["script", "deck", "a", "b", "c", "says", "program"] ["script"] (az Nd):=⟨rfl,rfl,rfl,by decide +kernel,rfl,by decide +kernel,by decide +kernel⟩
theorem sH:aT ["self", "program", "boxes", "body"] ["self", "program"] (az dc):=⟨rfl,rfl,rfl,by decide +kernel,rfl,by decide +kernel,by decide +kernel⟩
theorem vt:aT ["self", "chart", "figures"] ["self", "chart", "figures"] (az el):=⟨rfl,rfl,rfl,by decide +kernel,rfl,by decide +kernel,by decide +kernel⟩
theorem jI:aT ["self"] ["self"] (az bu):=⟨rfl,rfl,rfl,by decide +kernel,rfl,by decide +kernel,by decide +kernel⟩
theorem lM:aT ["self"] ["self"] (az bU):=⟨rfl,rfl,rfl,by decide +kernel,rfl,by decide +kernel,by decide +kernel⟩
theorem sI:aT ["self", "figure", "told"] ["self"] (az de):=⟨rfl,rfl,rfl,by decide +kernel,rfl,by decide +kernel,by decide +kernel⟩
set_option genInjectivity false in
structure Ad where
 oG:zdv
 lN:zdE
 dI:zdv
 dU:zdE
 cW:zdv
 cT:zdE
 fC:zdv
 fS:zdE
 kF:zdv
 kY:zdE
 fT:zdv
 gH:zdE
 bH:zdv
 bK:zdE
 oH:zdv
 nu:zdE
 nB:zdv
 oI:zdE
 kZ:zdv
 lO:zdE
 lg:zdv
 lP:zdE
 vv:zdv
 vw:zdE
 nE:zdv
 oJ:zdE
 dJ:zdv
 eM:zdE
 iV:zdv
 jx:zdE
 nJ:zdv
 oK:zdE
 iW:zdv
 jy:zdE
 qD:zdv
 qZ:zdE
 eA:zdv
 ff:zdE
 bS:zdv
 ia:zdE
 iX:zdv
 jz:zdE
 fD:zdv
 oN:zdE
 vx:zdv
 vy:zdE
 qF:zdv
 rg:zdE
 jJ:zdv
 kr:zdE
 jK:zdv
 ky:zdE
 fU:zdv
 ib:zdE
 jL:zdv
 kz:zdE
 hV:zdv
 iY:zdE
 fV:zdv
 ic:zdE
 eT:zdv
 fL:zdE
 c9:zdv
 eB:zdE
 HM:zdv
 wG:zdE
 df:zdv
 mD:zdE
 eC:zdv
 oO:zdE
 bw:zdv
 fW:zdE
 bV:zdv
 iZ:zdE
 dh:zdv
 mE:zdE
 aE:zdv
 bI:zdv
 fX:zdv
 jk:zdv
 oP:zdv
 jm:zdv
 jn:zdv
 fY:zdv
 oQ:zdv
 tV:zdv
 oR:zdv
 tW:zdv
 ay:zdv
 lh:zdv
 jo:zdv
 ip:zdv
set_option genInjectivity false in
structure Tx(K:zaa)(mg:Str->Option zdw)(t:Ad):Prop where
 zr:cV K mg "flow" F6 ["program"] t.oG t.lN
 fZ:cV K mg "flow_of_body" kS ["body", "behind"] t.dI t.dU
 eX:cV K mg "first_row" qw ["body", "behind"] t.cW t.cT
 jA:cV K mg "behind_body" mB ["statement", "after"] t.fC t.fS
 rh:cV K mg "ways_of" wB ["statement", "after"] t.kF t.kY
 jM:cV K mg "bodies_in" qx ["statement"] t.fT t.gH
 fw:cV K mg "statements_in" jX ["body"] t.bH t.bK
 kA:cV K mg "worth" B3 ["e", "values"] t.oH t.nu
 jq:cV K mg "word_at" wC ["chart", "row"] t.nB t.oI
 lq:cV K mg "by_names" tT ["chart", "parts"] t.kZ t.lO
 oS:cV K mg "in_order" tU ["chart", "named"] t.lg t.lP
 rj:cV K mg "holds" B4 ["chart", "standing"] t.vv t.vw
 kG:cV K mg "step_by" wD ["chart", "standing", "figure"] t.nE t.oJ
 fg:cV K mg "behind_condition" ik ["chart", "standing"] t.dJ t.eM
 gI:cV K mg "all_led_to" oB ["chart", "standing"] t.iV t.jx
 rm:cV K mg "targets" wF ["program"] t.nJ t.oK
 i0:cV K mg "targets_at" oC ["chart", "standing"] t.iW t.jy
 vz:cV K mg "met_by" zh ["chart", "figures"] t.qD t.qZ
 c5:cV K mg "shortest_inputs" iU ["chart"] t.eA t.ff
 eU:cV K mg "first_inputs" aF ["chart"] t.bS t.ia
 gJ:cV K mg "found_from" oE ["first", "led_from"] t.iX t.jz
 gK:cV K mg "gone_on" iI ["place", "led_from", "figures", "found"] t.fD t.oN
 fh:cV K mg "suite" B5 ["program"] t.vx t.vy
 vA:cV K mg "needed" zi ["chart", "shortest_by"] t.qF t.rg
 bt:cV K mg "_law_draw" qy ["deck", "many"] t.jJ t.kr
 iJ:cV K mg "_law_deck" qz ["script"] t.jK t.ky
 eV:cV K mg "_law_counter" kT ["sizes", "says"] t.fU t.ib
 eD:cV K mg "_law_says" qA ["row", "many"] t.jL t.kz
 fE:cV K mg "_law_asking" mC ["ahead"] t.hV t.iY
 cJ:cV K mg "_law_refused" kU ["program"] t.fV t.ic
 bo:cV K mg "_law_one_input" jj ["told", "never", "least"] t.eT t.fL
 cL:cV K mg "_law_asking_right" gU ["ahead"] t.c9 t.eB
 HN:cV K mg "law" Nd ["script"] t.HM t.wG
 kB:CL K "__init__" "Chart.__init__" dc t.df t.mD
 B6:Binds K t.mD ["self", "program"] []
 lQ:CL K "__init__" "Walk.__init__" el t.eC t.oO
 Ef:Binds K t.oO ["self", "chart", "figures"] []
 eN:CL K "look_for_end" "Walk.look_for_end" bu t.bw t.fW
 j7:Binds K t.fW ["self"] []
 j8:Meth K t.bI "look_for_end" t.bw
 gM:CL K "is_at_ask" "Walk.is_at_ask" bU t.bV t.iZ
 nK:Binds K t.iZ ["self"] []
 nL:Meth K t.bI "is_at_ask" t.bV
 kC:CL K "go_on" "Walk.go_on" de t.dh t.mE
 B7:Binds K t.mE ["self"] []
 B8:Meth K t.bI "go_on" t.dh
 cX:KD K t.aE
 Ng:mg "Chart"=some (.ref t.aE)
 zt:Mk K t.aE t.df
 gg:fQ K t.aE "names"
 gm:fQ K t.aE "sizes"
 gu:fQ K t.aE "first"
 cN:fQ K t.aE "statements"
 fG:fQ K t.aE "ways"
 bP:KD K t.bI
 Qg:mg "Walk"=some (.ref t.bI)
 B9:Mk K t.bI t.eC
 hX:fQ K t.bI "chart"
 fB:fQ K t.bI "figures"
 fH:fQ K t.bI "taken"
 bA:fQ K t.bI "standing"
 gw:fQ K t.bI "end"
 Eg:mg "RowError"=some (.ref t.fX)
 F7:mg "TooLong"=some (.ref t.jk)
 Nh:mg "NoRow"=some (.ref t.oP)
 F8:mg "NoPlace"=some (.ref t.jm)
 F9:mg "TooDeep"=some (.ref t.jn)
 Ca:mg "NoMeasure"=some (.ref t.fY)
 Ni:mg "Twice"=some (.ref t.oQ)
 Qh:mg "Full"=some (.ref t.tV)
 Nj:mg "NoBox"=some (.ref t.oR)
 Qi:mg "Open"=some (.ref t.tW)
 wH:OQ K t.ay
 zu:zbH K (.ref t.ay) (.ref t.ay)=some true
 zv:mg "TooMany"=some (.ref t.ay)
 JF:mg "NoForm"=some (.ref t.lh)
 Ga:mg "NoneYet"=some (.ref t.jo)
 Eh:mg "NoTarget"=some (.ref t.ip)
 tX:zbH K (.ref t.ay) (.ref t.fX)=some true
 cK:N0 K t.ay
 tY:zay K (.ref t.ay) (.type "ValueError")=some true
 j9:zay K (.ref t.ay) (.ref t.fX)=some true
 iq:zay K (.ref t.ay) (.ref t.jk)=some false
 jr:zay K (.ref t.ay) (.ref t.oP)=some false
 iu:zay K (.ref t.ay) (.ref t.jm)=some false
 iw:zay K (.ref t.ay) (.ref t.jn)=some false
 gx:zay K (.ref t.ay) (.ref t.fY)=some false
 js:zay K (.ref t.ay) (.ref t.oQ)=some false
 jY:zay K (.ref t.ay) (.ref t.tV)=some false
 jt:zay K (.ref t.ay) (.ref t.oR)=some false
 jZ:zay K (.ref t.ay) (.ref t.tW)=some false
 iy:zay K (.ref t.ay) (.ref t.ay)=some true
 i3:zay K (.ref t.ay) (.ref t.lh)=some false
 iz:zay K (.ref t.ay) (.ref t.jo)=some false
 gV:zay K (.ref t.ay) (.ref t.ip)=some false
 zw:∃u,mg "END"=some u/\RelV (.int 0) u
 xB:∃u,mg "FIGURE_COUNT"=some u/\RelV (.int 10) u
 zx:∃u,mg "MOST_PLACES"=some u/\RelV (.int 2000) u
 xk:mg "len"=none
 lR:mg "range"=none
 Nk:mg "int"=none
 tZ:mg "dict"=none
 Gb:mg "list"=none
 xV:mg "tuple"=none
 Nl:mg "any"=none
 bz:mg "isinstance"=none
 lS:mg "enumerate"=none
 Nm:mg "zip"=none
 oT:mg "ValueError"=none
end TF
end
section
set_option maxHeartbeats 4000000
namespace TF
open PG
open PySem L2
local macro_rules | `(tactic|walk_at "rd")=>`(tactic|((try dsimp only[EZ,KL,R1,Ko,R0,Kr,ZH,ZF,KQ,Bx,KJ,Se,C5,Bv,C3,GD,Kv,R8,Ks,R7,R9,Oj,Ol,GQ,Q1,K5,K6,K7,K8,K9,La,Lb,Lc,Ld,Le,G1,G5,G6,G8,G9,SF,VW,R5,Kq,Ij,dW,Q2,Q3,za8,GR,GS,Lg,GV,GW,FF,FG,BJ,GX,Q4,VZ,Lo,Lh,Li,Zt,zb5,zbV,zap,zaQ,Lk,Ll,Mg,Mh,GU]);(try simp only[EZ,KL,R1,Ko,R0,Kr,ZH,ZF,KQ,Bx,KJ,Se,C5,Bv,C3,GD,Kv,Sv,Sw,R8,Ks,R7,R9,Oj,Ol,GQ,Q1,K5,K6,K7,K8,K9,La,Lb,Lc,Ld,Le,G1,G5,G6,G8,G9,SF,VW,R5,Kq,Ij,dW,K4,ZQ,Q2,Q3,VX,OJ,Lf,Sx,Sy,za8,GR,GS,Lg,GV,GW,FF,FG,BJ,GX,Q4,VZ,Lo,Lh,Li,Zt,zaG,zb5,zbV,OL,OM,true_and,and_true,zap,zaQ,ON,Lk,Ll,Mg,Mh,GU,Int.reduceLT,Int.reduceLE,Nat.reduceLeDiff,Nat.reduceAdd,and_self])))
section
variable{P:zdH}{w:zdx}{K:zaa}{mg:Str->Option zdw}{base:Heap}{t:Ad}
theorem Cb(T:Tx K mg t):bD P w K mg base gD 1 t.jL t.kz ["row", "many"] (M9 K):=by
 refine T.eD.F.rE vq (fun vs H Q E h=>?_) (fun eO A outer s H vs Q E hr h=>?_)
 ·obtain⟨_,_,rfl⟩:=h;rfl
 obtain⟨r,n,rfl,hn,q⟩:=h;have nd:=vq.nd;refine⟨_,[some (.int r),some (.int n)],(ar (aQ (dZ (own:=["k"]) (ix:=[0]) rfl (by rfl) (by rfl) (kD rfl T.lR (dG 1 ag)) (fun _ _ _ _=>(cH (i:=0) (by show List.Nodup (["k", "row"]:List Str);decide +kernel) rfl (zaJ rfl))) (fun _ _ _ _=>dY) (fun _ _ _ _=>(aG (ae aN (ae (aX dH (pv 1) (pv 0)) (ae (aG (ae aN (dG 0 ag) ax)) ag aV) mx) ax)))))),rfl,?_⟩;walk_at "rd";simp only[gO];walk_at "rd";refine⟨_,rfl,by lia,by lia,fun D hD=>?_⟩;rw[zaU];refine qV (r:=[some (.int r)]) (fun i ys Hy=>aD K (wo Hy D) ((kn r i).map fI) ys) (by lia) hD .nil (fun i ys H2 hi s2 y2 ly p2 R hR=>?_) (fun ys H2 s2 y2 ly p2=>q _ _ _ s2 hD y2 (aD.mono qh p2));walk_at "rd";intro p1 h1;have e1:=aq.new h1 (.tup [.str (zac "number"),.int i]);obtain⟨w1,w2⟩:=B1 h1 y2 (.tup [.str (zac "number"),.int i]);have g1:Rep K (wo (upd H2 p1 (.tup [.str (zac "number"),.int i])) D) (pA (.num i)) (.ref p1):=by rw[w1];exact Rep.new w2 (.cons rS (.cons mJ .nil))
 clear w1 w2;generalize upd H2 p1 (.tup [.str (zac "number"),.int i])=H3 at *;intro p3 h3;have e2:=aq.new h3 (.tup [.str (zac "say"),.int (r+i),.ref p1]);obtain⟨w1,w2⟩:=B1 h3 (e1 _ _ y2) (.tup [.str (zac "say"),.int (r+i),.ref p1]);have g2:Rep K (wo (upd H3 p3 (.tup [.str (zac "say"),.int (r+i),.ref p1])) D) (fI (.say (r+i) (.num i))) (.ref p3):=by rw[w1];exact Rep.new w2 (.cons rS (.cons mJ (.cons g1 .nil)))
 clear w1 w2;generalize upd H3 p3 (.tup [.str (zac "say"),.int (r+i),.ref p1])=H4 at *;refine hR _ _ (e1.trans e2) ?_;rw[mz];unfold kn;rw[zaR,zat,zat];exact(aD.mono (BM (e1.trans e2)) p2).append (.cons g2 .nil)
theorem zy(T:Tx K mg t):bD P w K mg base gD 2 t.hV t.iY ["ahead"] (Ea K):=by
 have xl:=Cb (P:=P) (w:=w) (base:=base) T;refine T.fE.F.rE qC (fun vs H Q E h=>?_) (fun eO A outer s H vs Q E hr h=>?_)
 ·obtain⟨_,rfl⟩:=h;rfl
 obtain⟨m,rfl,hm,q⟩:=h;have nd:=qC.nd;have line:zdD=2 ^ 24:=rfl;refine⟨_,[some (.int m),none,none],(@ai _ _ _ _ _ (@eE _ _ 1 _ _ _ _ nd rfl (zaJ rfl) (@br _ _ _ _ (@ae _ _ _ _ _ (@aG _ _ _ _ _ (@bC _ _ ([.str "a",.int 10,.int 0]) (by kernel_rfl))) (@ae _ _ _ _ _ (@aG _ _ _ _ _ (@bC _ _ ([.str "ab",.int 10,.int 3]) (by kernel_rfl))) (@ae _ _ _ _ _ (@aG _ _ _ _ _ (@bC _ _ ([.str "b",.int 9,.int 1]) (by kernel_rfl))) (@ag _) (@aV _ _ _ _ _)) (@aV _ _ _ _ _)) (@aV _ _ _ _ _))) (by first |rfl |exact .inl rfl |exact .inr rfl |decide |(intro _;rfl) |assumption) (by first |rfl |exact .inl rfl |exact .inr rfl |decide |(intro _;rfl) |assumption)) (@ai _ _ _ _ _ (@eE _ _ 2 _ _ _ _ nd rfl (zaJ rfl) (@aX _ _ _ _ _ _ _ _ (@nX _) (@aX _ _ _ _ _ _ _ _ (@nX _) (@br _ _ _ _ (@ae _ _ _ _ _ (@aG _ _ _ _ _ (@ae _ _ _ _ _ (@aN _ _ _ _) (@ae _ _ _ _ _ (@ao _ _ _ _) (@ae _ _ _ _ _ (@aN _ _ _ _) (@ae _ _ _ _ _ (@aG _ _ _ _ _ (@bC _ _ ([.str "number",.int 1]) (by kernel_rfl))) (@ae _ _ _ _ _ (@aG _ _ _ _ _ (@bC _ _ ([.str "number",.int 1]) (by kernel_rfl))) (@ag _) (@aV _ _ _ _ _)) (@aV _ _ _ _ _)) (@ax _ _ _ _ _)) (@ax _ _ _ _ _)) (@ax _ _ _ _ _))) (@ag _) (@aV _ _ _ _ _))) (@cB _ _ _ _ _ _ _ _ _ _ _ _ _ _ _ _ xl (hr.mono (by first|decide|omega)) rfl T.eD.m T.eD.F.kp T.eD.b .nil fj (@ae _ _ _ _ _ (@ao _ _ _ _) (@ae _ _ _ _ _ (pv 0) (@ag _) (@aH _ _ _ _)) (@ax _ _ _ _ _)) (by first |rfl |exact .inl rfl |exact .inr rfl |decide |(intro _;rfl) |assumption) (by first |rfl |exact .inl rfl |exact .inr rfl |decide |(intro _;rfl) |assumption) (by first |rfl |exact .inl rfl |exact .inr rfl |decide |(intro _;rfl) |assumption))) (@br _ _ _ _ (@ae _ _ _ _ _ (@aG _ _ _ _ _ (@ae _ _ _ _ _ (@aN _ _ _ _) (@ae _ _ _ _ _ (@aX _ _ _ _ _ _ _ _ (@dH _) (@ao _ _ _ _) (pv 0)) (@ae _ _ _ _ _ (@aN _ _ _ _) (@ag _) (@ax _ _ _ _ _)) (@mx _ _ _ _ _ _)) (@ax _ _ _ _ _))) (@ag _) (@aV _ _ _ _ _)))) (by first |rfl |exact .inl rfl |exact .inr rfl |decide |(intro _;rfl) |assumption) (by first |rfl |exact .inl rfl |exact .inr rfl |decide |(intro _;rfl) |assumption)) (@ai _ _ _ _ _ (@eE _ _ 2 _ _ _ _ nd rfl (zaJ rfl) (@aX _ _ _ _ _ _ _ _ (@nX _) (@aX _ _ _ _ _ _ _ _ (@nX _) (pv 2) (@cB _ _ _ _ _ _ _ _ _ _ _ _ _ _ _ _ xl (hr.mono (by first|decide|omega)) rfl T.eD.m T.eD.F.kp T.eD.b .nil fj (@ae _ _ _ _ _ (@aX _ _ _ _ _ _ _ _ (@dH _) (@ao _ _ _ _) (pv 0)) (@ae _ _ _ _ _ (@ao _ _ _ _) (@ag _) (@ax _ _ _ _ _)) (@mx _ _ _ _ _ _)) (by first |rfl |exact .inl rfl |exact .inr rfl |decide |(intro _;rfl) |assumption) (by first |rfl |exact .inl rfl |exact .inr rfl |decide |(intro _;rfl) |assumption) (by first |rfl |exact .inl rfl |exact .inr rfl |decide |(intro _;rfl) |assumption))) (@br _ _ _ _ (@ae _ _ _ _ _ (@aG _ _ _ _ _ (@ae _ _ _ _ _ (@aN _ _ _ _) (@ae _ _ _ _ _ (@aX _ _ _ _ _ _ _ _ (@dH _) (@ao _ _ _ _) (pv 0)) (@ae _ _ _ _ _ (@aN _ _ _ _) (@ag _) (@ax _ _ _ _ _)) (@mx _ _ _ _ _ _)) (@ax _ _ _ _ _))) (@ae _ _ _ _ _ (@aG _ _ _ _ _ (@ae _ _ _ _ _ (@aN _ _ _ _) (@ae _ _ _ _ _ (@aX _ _ _ _ _ _ _ _ (@dH _) (@ao _ _ _ _) (pv 0)) (@ae _ _ _ _ _ (@aN _ _ _ _) (@ag _) (@ax _ _ _ _ _)) (@mx _ _ _ _ _ _)) (@ax _ _ _ _ _))) (@ag _) (@aV _ _ _ _ _)) (@aV _ _ _ _ _)))) (by first |rfl |exact .inl rfl |exact .inr rfl |decide |(intro _;rfl) |assumption) (by first |rfl |exact .inl rfl |exact .inr rfl |decide |(intro _;rfl) |assumption)) (@ar _ _ _ (@aQ _ _ _ _ (@aG _ _ _ _ _ (@ae _ _ _ _ _ (pv 1) (@ae _ _ _ _ _ (@aX _ _ _ _ _ _ _ _ (@nX _) (pv 2) (@br _ _ _ _ (@ae _ _ _ _ _ (@aG _ _ _ _ _ (@ae _ _ _ _ _ (@aN _ _ _ _) (@ae _ _ _ _ _ (@aX _ _ _ _ _ _ _ _ (@dH _) (@ao _ _ _ _) (pv 0)) (@ae _ _ _ _ _ (@aG _ _ _ _ _ (@bC _ _ ([.str "box",.str "b"]) (by kernel_rfl))) (@ag _) (@aV _ _ _ _ _)) (@mx _ _ _ _ _ _)) (@ax _ _ _ _ _))) (@ag _) (@aV _ _ _ _ _)))) (@ag _) (@mx _ _ _ _ _ _)) (@aH _ _ _ _)))))))),rfl,?_⟩;refine aw fun U1 gy=>?_;walk_at "rd";intro p1 HP;generalize e1:upd H p1 _=H1;have s1:=gT e1 HP;have r1:Rep K H1 (j0 ⟨[97],10,0⟩) (.ref p1):=A3 e1 HP (.cons rS (.cons mJ (.cons mJ .nil)));clear e1;intro p2 BB;generalize e2:upd H1 p2 _=H2;have s2:=gT e2 BB;have r2:Rep K H2 (j0 ⟨[97,98],10,3⟩) (.ref p2):=A3 e2 BB (.cons rS (.cons mJ (.cons mJ .nil)));clear e2;intro p3 Nn;generalize e3:upd H2 p3 _=H3;have s3:=gT e3 Nn;have r3:Rep K H3 (j0 ⟨[98],9,1⟩) (.ref p3):=A3 e3 Nn (.cons rS (.cons mJ (.cons mJ .nil)));clear e3;intro p4 HQ;generalize e4:upd H3 p4 _=H4;have s4:=gL e4 HQ;have y4:=Ai e4;have r4:Rep K H4 (.lst ((dB m).aA.map j0)) (.ref p4):=Wt e4 HQ (.cons (Rep.mono (s2.trans s3) r1) (.cons (Rep.mono s3 r2) (.cons r3 .nil)));clear e4;refine(gy _ _).mpr (aw fun U2 i4=>?_);clear gy;walk_at "rd";intro p5 HR;generalize e5:upd H4 p5 _=H5;have s5:=gT e5 HR;have r5:Rep K H5 (pA (.num 1)) (.ref p5):=A3 e5 HR (.cons rS (.cons mJ .nil));clear e5;intro p6 vB;generalize e6:upd H5 p6 _=H6;have s6:=gT e6 vB;have r6:Rep K H6 (pA (.num 1)) (.ref p6):=A3 e6 vB (.cons rS (.cons mJ .nil));clear e6;intro p7 Gd;generalize e7:upd H6 p7 _=H7;have s7:=gT e7 Gd;have r7:Rep K H7 (fI (.bW 4 [61] (.num 1) (.num 1))) (.ref p7):=A3 e7 Gd (.cons rS (.cons mJ (.cons rS (.cons (Rep.mono s6 r5) (.cons r6 .nil)))));clear e7;have f8:aD K H7 (zbY fI [.bW 4 [61] (.num 1) (.num 1)]) [.ref p7]:=(.cons r7 .nil)
 intro p8 Bf;generalize e8:upd H7 p8 _=H8;have s8:=gL e8 Bf;have y8:=Ai e8;have r8:Rep K H8 (.lst (zbY fI [.bW 4 [61] (.num 1) (.num 1)])) (.ref p8):=Wt e8 Bf (.cons r7 .nil);clear e8;replace f8:=aD.mono s8 f8;have v8:([.ref p7]:List V).length=1:=rfl;refine⟨5,m,rfl,by lia,fun p9 u9 H9 s9 EM y9 f9=>?_⟩;have q9:u9.length=m:=by have:=f9.length;rw[zad] at this;unfold kn at this;rw[zad,zaZ] at this;exact this
 have N7:(([.ref p7]:List V)).length+(u9).length<=zdD:=by
  rw[q9,v8];lia
 refine⟨_,_,_,_,rfl,rfl,(s9 _ _ y8),y9,N7,fun TH Qj=>?_⟩;have lE:=aq.new Qj (.lst (([.ref p7]:List V)++u9));have Qk:(upd H9 TH (.lst (([.ref p7]:List V)++u9))) TH=some (.lst (([.ref p7]:List V)++u9)):=ah;have f10:aD K (upd H9 TH (.lst (([.ref p7]:List V)++u9))) ((([.bW 4 [61] (.num 1) (.num 1)]:List cD)++kn 5 m).map fI) (([.ref p7]:List V)++u9):=by
  rw[zat];exact aD.mono lE ((aD.mono s9 f8).append f9)
 generalize upd H9 TH (.lst (([.ref p7]:List V)++u9))=N8 at *;intro pG Ge;generalize Np:upd N8 pG _=N9;have mF:=gT Np Ge;have YD:Rep K N9 (fI (.ask (5+m) [97])) (.ref pG):=A3 Np Ge (.cons rS (.cons mJ (.cons rS .nil)));clear Np;have f12:aD K N9 (zbY fI [.ask (5+m) [97]]) [.ref pG]:=(.cons YD .nil)
 intro W0 Gf;generalize RC:upd N9 W0 _=HS;have nM:=gL RC Gf;have y12:=Ai RC;have r12:Rep K HS (.lst (zbY fI [.ask (5+m) [97]])) (.ref W0):=Wt RC Gf (.cons YD .nil);clear RC;replace f12:=aD.mono nM f12;have YE:([.ref pG]:List V).length=1:=rfl;have l13:((([.ref p7]:List V)++u9)).length+(([.ref pG]:List V)).length<=zdD:=by
  rw[zaf,q9,v8,YE];lia
 refine⟨_,_,_,_,rfl,rfl,((mF.trans nM) _ _ Qk),y12,l13,fun TJ Ei=>?_⟩;have ua:=aq.new Ei (.lst ((([.ref p7]:List V)++u9)++([.ref pG]:List V)));have y13:(upd HS TJ (.lst ((([.ref p7]:List V)++u9)++([.ref pG]:List V)))) TJ=some (.lst ((([.ref p7]:List V)++u9)++([.ref pG]:List V))):=ah;have f13:aD K (upd HS TJ (.lst ((([.ref p7]:List V)++u9)++([.ref pG]:List V)))) (((([.bW 4 [61] (.num 1) (.num 1)]:List cD)++kn 5 m)++([.ask (5+m) [97]]:List cD)).map fI) ((([.ref p7]:List V)++u9)++([.ref pG]:List V)):=by
  rw[zat];exact aD.mono ua ((aD.mono (mF.trans nM) f10).append f12)
 generalize upd HS TJ (.lst ((([.ref p7]:List V)++u9)++([.ref pG]:List V)))=W2 at *;refine(i4 _ _).mpr (aw fun U3 ka=>?_);clear i4;walk_at "rd";refine⟨(6+m),8,rfl,by lia,fun p14 zZ RD ni TK UP f14=>?_⟩;have q14:zZ.length=8:=by have:=f14.length;rw[zad] at this;unfold kn at this;rw[zad,zaZ] at this;exact this
 have l15:(((([.ref p7]:List V)++u9)++([.ref pG]:List V))).length+(zZ).length<=zdD:=by
  rw[zaf,zaf,q9,q14,v8,YE];lia
 refine⟨_,_,_,_,rfl,rfl,(ni _ _ y13),UP,l15,fun TL Ql=>?_⟩;have o8:=aq.new Ql (.lst (((([.ref p7]:List V)++u9)++([.ref pG]:List V))++zZ));have y15:(upd RD TL (.lst (((([.ref p7]:List V)++u9)++([.ref pG]:List V))++zZ))) TL=some (.lst (((([.ref p7]:List V)++u9)++([.ref pG]:List V))++zZ)):=ah;have f15:aD K (upd RD TL (.lst (((([.ref p7]:List V)++u9)++([.ref pG]:List V))++zZ))) ((((([.bW 4 [61] (.num 1) (.num 1)]:List cD)++kn 5 m)++([.ask (5+m) [97]]:List cD))++kn (6+m) 8).map fI) (((([.ref p7]:List V)++u9)++([.ref pG]:List V))++zZ):=by
  rw[zat];exact aD.mono o8 ((aD.mono ni f13).append f14)
 generalize upd RD TL (.lst (((([.ref p7]:List V)++u9)++([.ref pG]:List V))++zZ))=TM at *;intro Am Cc;generalize RE:upd TM Am _=RF;have qG:=gT RE Cc;have YF:Rep K RF (fI (.ask (14+m) [97,98])) (.ref Am):=A3 RE Cc (.cons rS (.cons mJ (.cons rS .nil)));clear RE;intro An Nq;generalize TN:upd RF An _=UQ;have uk:=gT TN Nq;have YG:Rep K UQ (fI (.ask (15+m) [98])) (.ref An):=A3 TN Nq (.cons rS (.cons mJ (.cons rS .nil)));clear TN;have f18:aD K UQ (zbY fI [.ask (14+m) [97,98],.ask (15+m) [98]]) [.ref Am,.ref An]:=(.cons (Rep.mono uk YF) (.cons YG .nil))
 intro Nr Nt;generalize Oa:upd UQ Nr _=TQ;have wI:=gL Oa Nt;have y18:=Ai Oa;have r18:Rep K TQ (.lst (zbY fI [.ask (14+m) [97,98],.ask (15+m) [98]])) (.ref Nr):=Wt Oa Nt (.cons (Rep.mono uk YF) (.cons YG .nil));clear Oa;replace f18:=aD.mono wI f18;have v18:([.ref Am,.ref An]:List V).length=2:=rfl;have l19:((((([.ref p7]:List V)++u9)++([.ref pG]:List V))++zZ)).length+(([.ref Am,.ref An]:List V)).length<=zdD:=by
  rw[zaf,zaf,zaf,q9,q14,v8,YE,v18];lia
 refine⟨_,_,_,_,rfl,rfl,(((qG.trans uk).trans wI) _ _ y15),y18,l19,fun TR Qm=>?_⟩;have xC:=aq.new Qm (.lst ((((([.ref p7]:List V)++u9)++([.ref pG]:List V))++zZ)++([.ref Am,.ref An]:List V)));have y19:(upd TQ TR (.lst ((((([.ref p7]:List V)++u9)++([.ref pG]:List V))++zZ)++([.ref Am,.ref An]:List V)))) TR=some (.lst ((((([.ref p7]:List V)++u9)++([.ref pG]:List V))++zZ)++([.ref Am,.ref An]:List V))):=ah;have f19:aD K (upd TQ TR (.lst ((((([.ref p7]:List V)++u9)++([.ref pG]:List V))++zZ)++([.ref Am,.ref An]:List V)))) (((((([.bW 4 [61] (.num 1) (.num 1)]:List cD)++kn 5 m)++([.ask (5+m) [97]]:List cD))++kn (6+m) 8)++([.ask (14+m) [97,98],.ask (15+m) [98]]:List cD)).map fI) ((((([.ref p7]:List V)++u9)++([.ref pG]:List V))++zZ)++([.ref Am,.ref An]:List V)):=by
  rw[zat];exact aD.mono xC ((aD.mono ((qG.trans uk).trans wI) f15).append f18)
 generalize upd TQ TR (.lst ((((([.ref p7]:List V)++u9)++([.ref pG]:List V))++zZ)++([.ref Am,.ref An]:List V)))=YH at *;refine(ka _ _).mpr ?_;clear ka;walk_at "rd";intro W4 Nu;generalize TU:upd YH W4 _=W5;have xW:=gT TU Nu;have r20:Rep K W5 (pA (.box [98])) (.ref W4):=A3 TU Nu (.cons rS (.cons rS .nil));clear TU;intro CQ Nv;generalize TV:upd W5 CQ _=UR;have zF:=gT TV Nv;have W6:Rep K UR (fI (.say (16+m) (.box [98]))) (.ref CQ):=A3 TV Nv (.cons rS (.cons mJ (.cons r20 .nil)));clear TV;have f22:aD K UR (zbY fI [.say (16+m) (.box [98])]) [.ref CQ]:=(.cons W6 .nil)
 intro W7 Nw;generalize RG:upd UR W7 _=TX;have xD:=gL RG Nw;have y22:=Ai RG;have r22:Rep K TX (.lst (zbY fI [.say (16+m) (.box [98])])) (.ref W7):=Wt RG Nw (.cons W6 .nil);clear RG;replace f22:=aD.mono xD f22;have v22:([.ref CQ]:List V).length=1:=rfl;have l23:(((((([.ref p7]:List V)++u9)++([.ref pG]:List V))++zZ)++([.ref Am,.ref An]:List V))).length+(([.ref CQ]:List V)).length<=zdD:=by
  rw[zaf,zaf,zaf,zaf,q9,q14,v8,YE,v18,v22];lia
 refine⟨_,_,_,_,rfl,rfl,(((xW.trans zF).trans xD) _ _ y19),y22,l23,fun RH Qn=>?_⟩;have wJ:=aq.new Qn (.lst (((((([.ref p7]:List V)++u9)++([.ref pG]:List V))++zZ)++([.ref Am,.ref An]:List V))++([.ref CQ]:List V)));have y23:(upd TX RH (.lst (((((([.ref p7]:List V)++u9)++([.ref pG]:List V))++zZ)++([.ref Am,.ref An]:List V))++([.ref CQ]:List V)))) RH=some (.lst (((((([.ref p7]:List V)++u9)++([.ref pG]:List V))++zZ)++([.ref Am,.ref An]:List V))++([.ref CQ]:List V))):=ah;have f23:aD K (upd TX RH (.lst (((((([.ref p7]:List V)++u9)++([.ref pG]:List V))++zZ)++([.ref Am,.ref An]:List V))++([.ref CQ]:List V)))) ((((((([.bW 4 [61] (.num 1) (.num 1)]:List cD)++kn 5 m)++([.ask (5+m) [97]]:List cD))++kn (6+m) 8)++([.ask (14+m) [97,98],.ask (15+m) [98]]:List cD))++([.say (16+m) (.box [98])]:List cD)).map fI) (((((([.ref p7]:List V)++u9)++([.ref pG]:List V))++zZ)++([.ref Am,.ref An]:List V))++([.ref CQ]:List V)):=by
  rw[zat];exact aD.mono wJ ((aD.mono ((xW.trans zF).trans xD) f19).append f22)
 generalize upd TX RH (.lst (((((([.ref p7]:List V)++u9)++([.ref pG]:List V))++zZ)++([.ref Am,.ref An]:List V))++([.ref CQ]:List V)))=H23 at *;have eb:Al m=(((((([.bW 4 [61] (.num 1) (.num 1)]:List cD)++kn 5 m)++([.ask (5+m) [97]]:List cD))++kn (6+m) 8)++([.ask (14+m) [97,98],.ask (15+m) [98]]:List cD))++([.say (16+m) (.box [98])]:List cD)):=by unfold Al;simp only[zaV]
 rw[<- eb] at f23;intro pz hz;have sz:=aq.new hz (.tup [.ref p4,.ref RH]);exact q _ _ (((((((((((((((((((((((s1.trans s2).trans s3).trans s4).trans s5).trans s6).trans s7).trans s8).trans s9).trans lE).trans mF).trans nM).trans ua).trans ni).trans o8).trans qG).trans uk).trans wI).trans xC).trans xW).trans zF).trans xD).trans wJ).trans sz) (Rep.new hz (.cons (Rep.mono ((((((((((((((((((s5.trans s6).trans s7).trans s8).trans s9).trans lE).trans mF).trans nM).trans ua).trans ni).trans o8).trans qG).trans uk).trans wI).trans xC).trans xW).trans zF).trans xD).trans wJ) r4) (.cons (Rep.bN.mpr ⟨_,_,rfl,.of y23,f23⟩) .nil)))
theorem Ej{ss:List cD}{vs:List V}(l:vs.length=ss.length):(zaB ss.length).map (fun i=>((Sum.inl (ss.getD i (.stop 0)).row:Key),vs.getD i .dR))=j3 ss vs:=by
 apply zco
 ·simp[j3,l]
 ·intro i h1 h2;simp at h1;simp[j3,h1,l]
theorem Cd{fl:List eJ}{vs:List V}(l:vs.length=fl.length):(zaB fl.length).map (fun i=>((Sum.inl (fl.getD i (0,.stop,[])).1:Key),vs.getD i .dR))=zbc (fun r v=>(Sum.inl r.1,v)) fl vs:=by
 apply zco
 ·simp[l]
 ·intro i h1 h2;simp at h1;simp[h1,l]
theorem Ek{fl:List eJ}{vs:List V}(l:vs.length=fl.length):(zbc (fun r v=>((Sum.inl r.1:Key),v)) fl vs).map (·.1)=fl.map fun r=>(Sum.inl r.1:Key):=by
 apply zco
 ·simp[l]
 ·intro i h1 h2;simp
theorem HU{K:zaa}{H:Hp}:∀ {fl:List eJ} {us:List V},aD K H (fl.map fR) us->∃ws:List V,ws.length=fl.length/\∀i (hi:i<fl.length),∃a q,us[i]?=some (.ref a)/\ws[i]?=some (.ref q)/\bQ K H a [.int fl[i].1,.str (rZ fl[i].2.1),.ref q]/\bQ K H q (fl[i].2.2.map V.int)
 |[],us,_=>⟨[],rfl,fun i hi=>by simp at hi⟩
 |r::fl,us,h=>by
  have h0:=h;rw[zaq,aD.aL] at h;obtain⟨v,tl,rfl,h1,h2⟩:=h;obtain⟨ws,l,hw⟩:=HU h2;obtain⟨a,q,e,s1,s2⟩:=LL h0 (i:=0) (y:=v) rfl (by simp);refine⟨.ref q::ws,by simp[l],fun i hi=>?_⟩;cases i with
  |zero=>exact⟨a,q,by rw[e];rfl,rfl,s1,s2⟩
  |succ i=>
   obtain⟨a',q',e1,e2,e3,e4⟩:=hw i (by simpa using hi);exact⟨a',q',by simpa using e1,by simpa using e2,by simpa using e3,by simpa using e4⟩
theorem Gg{b:List cD}(pw:(aB b).Pairwise fun a b=>a.row<b.row):((aI b 0).map fun r=>(Sum.inl r.1:Key)).Nodup:=by
 have e:(aI b 0).map (fun r=>(Sum.inl r.1:Key))=(aB b).map fun s=>(Sum.inl s.row:Key):=by
  have h:((aI b 0).map fun r=>(r.1,r.2.1))=(aB b).map fun x=>(x.row,x.wd):=by rw[dw,iB]
  have h2:=congrArg (zbY fun r:Int×Wd=>(Sum.inl r.1:Key)) h;rw[zbq,zbq] at h2;exact h2
 rw[e];exact yv pw
theorem zG{K:zaa}{H:Hp}{B:zdv}{bs:List ui}(r:Rep K H (.lst (bs.map j0)) (.ref B)):∃xs,jc K H B xs/\xs.length=bs.length/\∀i x,xs[i]?=some x->∃a,x=.ref a/\bQ K H a [.str (S (bs.getD i ⟨[],0,0⟩).name),.int (bs.getD i ⟨[],0,0⟩).size,.int (bs.getD i ⟨[],0,0⟩).first]:=by
 rw[Rep.bN] at r;obtain⟨_,xs,e,q,rs⟩:=r;cases e;have lx:xs.length=bs.length:=by rw[rs.length,zad]
 refine⟨xs,q,lx,fun i x hx=>?_⟩;have li:i<bs.length:=by have:=(zam.mp hx).1;lia
 obtain⟨v,hv,rv⟩:=rs.get (i:=i) (d:=j0 bs[i]) (by rw[zao,zae li];rfl);rw[hx] at hv;cases hv;have eg:bs.getD i ⟨[],0,0⟩=bs[i]:=by rw[zar,zae li];rfl
 rw[eg];simp only[j0,Rep.bE,aD.aL,aD.bZ,Rep.cF,Rep.bO] at rv;obtain⟨a,ys,rfl,hS,_,_,rfl,rfl,_,_,rfl,rfl,_,_,rfl,rfl,rfl⟩:=rv;exact⟨a,rfl,hS⟩
theorem ub{kvs:List (Key×V)}(h:(kvs.map (·.1)).Nodup):nY [] kvs=kvs:=by
 have:=tG kvs [] (by simpa using h);simpa using this
theorem Ao(T:Tx K mg t)(b8:bD P w K mg base gD 1 t.cW t.cT ["body", "behind"] (lG K))(bT:bD P w K mg base gD 6 t.bH t.bK ["body"] (kl K 4))(mG:bD P w K mg base gD 7 t.oG t.lN ["program"] (yt K)) :
 bD P w K mg base gD 8 t.df t.mD ["self", "program"] (He K t.aE):=by
 refine T.kB.rE sH (fun vs H Q E h=>?_) (fun eO A outer s H vs Q E hr h=>?_)
 ·obtain⟨_,_,_,_,rfl,_⟩:=h;rfl
 obtain⟨p,dx,v,pr,rfl,hp,US,rp,hd,hf,pw,nb,lb,q⟩:=h;have nd:=sH.nd;obtain⟨HV,vC,vD⟩:=T.zw;refine⟨_,[some (.ref p),some v,none,none],(ai (kE 2 nd (aO aR (pv 1) ao av))
 (ai (kE 3 nd (aO aR (pv 1) ao av))
 (ai (iP (pv 0) (dZ (own:=["box"]) (ix:=[]) rfl (by rfl) (by rfl) (dN (pv 2)) (fun _ _ _ _=>(cH (i:=0) (by show List.Nodup (["box"]:List Str);decide +kernel) rfl (zaJ rfl))) (fun _ _ _ _=>dY) (fun _ _ _ _=>(aO (lF (K:=K) rfl) (pv 0) ao av))) rfl)
 (ai (iP (pv 0) (iA (tJ rfl) rfl T.tZ PyProof.Rows.Boot.«dict» (ae (dZ (own:=["box"]) (ix:=[]) rfl (by rfl) (by rfl) (dN (pv 2)) (fun _ _ _ _=>(cH (i:=0) (by show List.Nodup (["box"]:List Str);decide +kernel) rfl (zaJ rfl))) (fun _ _ _ _=>dY) (fun _ _ _ _=>(aG (ae (aO (lF (K:=K) rfl) (pv 0) ao av) (ae (aO (lF (K:=K) rfl) (pv 0) ao av) ag bF) bF)))) ag ki)) rfl)
 (ai (iP (pv 0) (aG (ae (nS b8 T.eX hr (dG 3 (ae (cY rfl vC vD) ag aH))) (ae (iA rW rfl T.xV PyProof.Rows.Boot.«tuple» (ae (dZ (own:=["box"]) (ix:=[]) rfl (by rfl) (by rfl) (dN (pv 2)) (fun _ _ _ _=>(cH (i:=0) (by show List.Nodup (["box"]:List Str);decide +kernel) rfl (zaJ rfl))) (fun _ _ _ _=>dY) (fun _ _ _ _=>(aO (lF (K:=K) rfl) (pv 0) ao av))) ag ki)) ag bJ) bJ)) rfl)
 (ai (iP (pv 0) (iA (tJ rfl) rfl T.tZ PyProof.Rows.Boot.«dict» (ae (dZ (own:=["statement"]) (ix:=[]) rfl (by rfl) (by rfl) (dN (nS bT T.fw hr (dG 3 ag))) (fun _ _ _ _=>(cH (i:=0) (by show List.Nodup (["statement"]:List Str);decide +kernel) rfl (zaJ rfl))) (fun _ _ _ _=>dY) (fun _ _ _ _=>(aG (ae (aO (lF (K:=K) rfl) (pv 0) ao av) (dG 0 ag) bF)))) ag ki)) rfl)
 (ar (iP (pv 0) (iA (tJ rfl) rfl T.tZ PyProof.Rows.Boot.«dict» (ae (dZ (own:=["told"]) (ix:=[]) rfl (by rfl) (by rfl) (dN (nS mG T.zr hr (dG 1 ag))) (fun _ _ _ _=>(cH (i:=0) (by show List.Nodup (["told"]:List Str);decide +kernel) rfl (zaJ rfl))) (fun _ _ _ _=>dY) (fun _ _ _ _=>(aG (ae (aO (lF (K:=K) rfl) (pv 0) ao av) (ae (aO (lF (K:=K) rfl) (pv 0) ao av) ag bF) bF)))) ag ki)) rfl)))))))),rfl,?_⟩
 have line:zdD=2 ^ 24:=rfl;have rp':=rp;unfold my at rp';rw[Rep.bE] at rp';obtain⟨pa,pxs,rfl,hpx,UT⟩:=rp';rw[aD.aL] at UT;obtain⟨v1,t1,rfl,YI,UT⟩:=UT;rw[aD.aL] at UT;obtain⟨v2,t2,rfl,pr2,UT⟩:=UT;obtain⟨bb,_,rfl,_⟩:=Rep.bN.mp pr2;obtain⟨bx,_,rfl,_⟩:=Rep.bN.mp YI;refine aw fun U1 gy=>?_;walk_at "rd";refine aJ hpx (v:=.ref bx) (aC (j:=0) rfl) ((gy _ _).mpr (aw fun U2 i4=>?_));clear gy;walk_at "rd";refine aJ hpx (v:=.ref bb) (aC (j:=1) rfl) ((i4 _ _).mpr (aw fun U3 ka=>?_));clear i4;walk_at "rd";simp only[C5,gO];walk_at "rd";obtain⟨xs1,N6,lx1,g1⟩:=zG YI;refine⟨⟨_,N6⟩,fun D1 hD1=>wc (K:=K) (r:=[]) (fun i=>.str (S (pr.aA.getD i ⟨[],0,0⟩).name)) N6 (by lia) hD1 (fun i x H2 hx s2 R hR=>?_) (fun H2 s2 h2=>⟨p,_,dx,[],rfl,s2 _ _ hp,T.cX,T.gg,by decide,(ka _ _).mpr (aw fun U4 sJ=>?_)⟩)⟩
 ·obtain⟨a,rfl,ha⟩:=g1 i x hx;walk_at "rd";exact aJ (s2.bM ha) (v:=.str (S (pr.aA.getD i ⟨[],0,0⟩).name)) (aC (j:=0) rfl) hR
 clear ka;rw[lx1,qU (fun b:ui=>V.str (S b.name))] at h2;have BB:=s2 _ _ hp;have n1:D1≠p:=(aj hp hD1).symm;have u3:bB (·=p) H (upd H2 p (.ins t.aE dx [("names",.ref D1)])):=(bB.of s2).trans (bB.refl.put (O:=(·=p)) rfl _);have Nn:(upd H2 p (.ins t.aE dx [("names",.ref D1)])) p=some (.ins t.aE dx [("names",.ref D1)]):=ah;have d1:(upd H2 p (.ins t.aE dx [("names",.ref D1)])) D1=some (.lst (pr.aA.map fun b=>.str (S b.name))):=by rw[au n1];exact h2
 rw[show jU (zac "names") (V.ref D1) []=[(zac "names",V.ref D1)] from rfl];generalize upd H2 p (.ins t.aE dx [("names",.ref D1)])=H3 at *;walk_at "rd";simp only[C5,gO];walk_at "rd";have pr3:=qT hp u3 _ _ YI;obtain⟨xs3,YJ,lx3,g3⟩:=zG pr3;refine⟨⟨_,YJ⟩,fun D2 hD2=>tK (K:=K) (r:=[]) (fun i=>(.inr (S (pr.aA.getD i ⟨[],0,0⟩).name),.int (pr.aA.getD i ⟨[],0,0⟩).size)) YJ (by lia) hD2 (fun i x H2 hx s2 R hR=>?_) (fun ps H4 s4 h4 Pe ep=>⟨D2,ps,rfl,.of h4,fun q hq=>.of (Pe q hq),?_,fun D3 hD3=>⟨p,_,dx,_,rfl,aq.new hD3 _ _ _ (s4 _ _ Nn),T.cX,T.gm,by simp,(sJ _ _).mpr (aw fun U5 Bg=>?_)⟩⟩)⟩
 ·obtain⟨a,rfl,ha⟩:=g3 i x hx;walk_at "rd";exact aJ (s2.bM ha) (v:=.str (S (pr.aA.getD i ⟨[],0,0⟩).name)) (aC (j:=0) rfl) (aJ (s2.bM ha) (v:=.int (pr.aA.getD i ⟨[],0,0⟩).size) (aC (j:=1) rfl) hR)
 ·have:=congrArg zba ep;simp only[zad,zaZ] at this;lia
 clear sJ;have ek:ps.map (fun q=>(q.2.1,q.2.2))=pr.aA.map fun b=>(Sum.inr (S b.name),V.int b.size):=by
  rw[show (fun q:zdv×Key×V=>(q.2.1,q.2.2))=(·.2) from rfl,ep,lx3,qU (fun b:ui=>((Sum.inr (S b.name):Key),V.int b.size))]
 have nk:((pr.aA.map fun b=>((Sum.inr (S b.name):Key),V.int b.size)).map (·.1)).Nodup:=by
  rw[zbq];refine zbd.mpr ((zbd.mp nb).imp fun {a b} Rb e=>Rb ?_);exact yq.mp (Sum.inr.inj e)
 rw[ek,ub nk,show jU (zac "sizes") (V.ref D3) [(zac "names",V.ref D1)]=[(zac "names",V.ref D1),(zac "sizes",V.ref D3)] from rfl];have s4':=s4.trans (aq.new hD3 (.dK (pr.aA.map fun b=>(Sum.inr (S b.name),V.int b.size))));have d3:(upd H4 D3 (.dK (pr.aA.map fun b=>(Sum.inr (S b.name),V.int b.size)))) D3=some (.dK (pr.aA.map fun b=>(Sum.inr (S b.name),V.int b.size))):=ah;generalize upd H4 D3 (.dK (pr.aA.map fun b=>(Sum.inr (S b.name),V.int b.size)))=H5 at *;have n3:D3≠p:=cE d3 (s4' _ _ Nn) (by intro z;cases z);have u6:bB (·=p) H3 (upd H5 p (.ins t.aE dx [(zac "names",V.ref D1),(zac "sizes",V.ref D3)])):=(bB.of s4').trans (bB.refl.put (O:=(·=p)) rfl _);have vB:(upd H5 p (.ins t.aE dx [(zac "names",V.ref D1),(zac "sizes",V.ref D3)])) p=some (.ins t.aE dx [(zac "names",V.ref D1),(zac "sizes",V.ref D3)]):=ah;have d3:(upd H5 p (.ins t.aE dx [(zac "names",V.ref D1),(zac "sizes",V.ref D3)])) D3=some (.dK (pr.aA.map fun b=>(Sum.inr (S b.name),V.int b.size))):=by rw[au n3];exact d3
 generalize upd H5 p (.ins t.aE dx [(zac "names",V.ref D1),(zac "sizes",V.ref D3)])=H6 at *;have d1:=u6 _ _ n1 d1;have u6:=u3.trans u6;have pr6:=qT hp u6 _ _ YI;have pb6:=qT hp u6 _ _ pr2;walk_at "rd";simp only[C5,gO];walk_at "rd";have lbd:=mQ pr.body;obtain⟨xs6,hx6,lx6,g6⟩:=zG pr6;refine⟨bb,pr.body,0,rfl,pb6,by lia,⟨_,hx6⟩,fun D4 hD4=>wc (K:=K) (r:=[]) (fun i=>.int (pr.aA.getD i ⟨[],0,0⟩).first) hx6 (by lia) hD4 (fun i x H2 hx s2 R hR=>?_) (fun H7 s7 h7=>⟨D4,_,rfl,.inl ⟨.of h7,fun D5 hD5 D6 YK=>⟨p,_,dx,_,rfl,aq.new YK _ _ _ (aq.new hD5 _ _ _ (s7 _ _ vB)),T.cX,T.gu,by simp,(Bg _ _).mpr (aw fun U6 HW=>?_)⟩⟩⟩)⟩
 ·obtain⟨a,rfl,ha⟩:=g6 i x hx;walk_at "rd";exact aJ (s2.bM ha) (v:=.int (pr.aA.getD i ⟨[],0,0⟩).first) (aC (j:=2) rfl) hR
 clear Bg;rw[show jU (zac "first") (V.ref D6) [(zac "names",V.ref D1),(zac "sizes",V.ref D3)]=[(zac "names",V.ref D1),(zac "sizes",V.ref D3),(zac "first",V.ref D6)] from rfl];rw[lx6,qU (fun b:ui=>V.int b.first)] at YK ⊢;have s8:=s7.trans ((aq.new hD5 (.tup (pr.aA.map fun b=>V.int b.first))).trans (aq.new YK (.tup [V.int (bg pr.body 0),V.ref D5])));have d5:(upd (upd H7 D5 (.tup (pr.aA.map fun b=>V.int b.first))) D6 (.tup [V.int (bg pr.body 0),V.ref D5])) D5=some (.tup (pr.aA.map fun b=>V.int b.first)):=aq.new YK _ _ _ ah;have d6:(upd (upd H7 D5 (.tup (pr.aA.map fun b=>V.int b.first))) D6 (.tup [V.int (bg pr.body 0),V.ref D5])) D6=some (.tup [V.int (bg pr.body 0),V.ref D5]):=ah;generalize upd (upd H7 D5 (.tup (pr.aA.map fun b=>V.int b.first))) D6 (.tup [V.int (bg pr.body 0),V.ref D5])=H8 at *;have Bf:=s8 _ _ vB;have n5:D5≠p:=cE d5 Bf (by intro z;cases z);have n6:D6≠p:=cE d6 Bf (by intro z;cases z);have u9:bB (·=p) H6 (upd H8 p (.ins t.aE dx [(zac "names",V.ref D1),(zac "sizes",V.ref D3),(zac "first",V.ref D6)])):=(bB.of s8).trans (bB.refl.put (O:=(·=p)) rfl _);have EM:(upd H8 p (.ins t.aE dx [(zac "names",V.ref D1),(zac "sizes",V.ref D3),(zac "first",V.ref D6)])) p=some (.ins t.aE dx [(zac "names",V.ref D1),(zac "sizes",V.ref D3),(zac "first",V.ref D6)]):=ah;have d5:(upd H8 p (.ins t.aE dx [(zac "names",V.ref D1),(zac "sizes",V.ref D3),(zac "first",V.ref D6)])) D5=some (.tup (pr.aA.map fun b=>V.int b.first)):=by rw[au n5];exact d5
 have d6:(upd H8 p (.ins t.aE dx [(zac "names",V.ref D1),(zac "sizes",V.ref D3),(zac "first",V.ref D6)])) D6=some (.tup [V.int (bg pr.body 0),V.ref D5]):=by rw[au n6];exact d6
 generalize upd H8 p (.ins t.aE dx [(zac "names",V.ref D1),(zac "sizes",V.ref D3),(zac "first",V.ref D6)])=H9 at *;have d1:=u9 _ _ n1 d1;have d3:=u9 _ _ n3 d3;have u9:=u6.trans u9;have pb9:=qT hp u9 _ _ pr2;walk_at "rd";simp only[C5,gO];walk_at "rd";refine⟨bb,pr.body,H9,rfl,aq.refl _,pb9,by lia,hf,fun N7 us N8 lE aaT Qk RI=>?_⟩;have sl:=Du pr.body;have vS:us.length=(aB pr.body).length:=by rw[RI.length,zad]
 refine⟨N7,rfl,⟨_,.of Qk⟩,fun D7 hD7=>tK (K:=K) (r:=[]) (fun i=>(.inl ((aB pr.body).getD i (.stop 0)).row,us.getD i .dR)) (.of Qk) (by lia) hD7 (fun i x H2 hx s2 R hR=>?_) (fun ps N9 mF Kg Pe ep=>⟨D7,ps,rfl,.of Kg,fun q hq=>.of (Pe q hq),?_,fun D8 hD8=>⟨p,_,dx,_,rfl,aq.new hD8 _ _ _ (mF _ _ (lE _ _ EM)),T.cX,T.cN,by simp,(HW _ _).mpr ?_⟩⟩)⟩
 ·have li:i<(aB pr.body).length:=by have:=(zam.mp hx).1;lia
  obtain⟨v',Iu,rv⟩:=RI.get (i:=i) (d:=fI (aB pr.body)[i]) (by rw[zao,zae li];rfl);rw[hx] at Iu;cases Iu;have e1:(aB pr.body).getD i (.stop 0)=(aB pr.body)[i]:=by rw[zar,zae li];rfl
  have e2:us.getD i .dR=x:=by rw[zar,hx];rfl
  rw[e1,e2] at hR;obtain⟨sa,ys,rfl,hs⟩:=je _ rv;walk_at "rd";exact aJ ((lE.trans s2).bM hs) (v:=.int (aB pr.body)[i].row) (aC (j:=1) rfl) hR
 ·have:=congrArg zba ep;simp only[zad,zaZ] at this;lia
 clear HW;have ek:ps.map (fun q=>(q.2.1,q.2.2))=j3 (aB pr.body) us:=by
  rw[show (fun q:zdv×Key×V=>(q.2.1,q.2.2))=(·.2) from rfl,ep,vS,Ej vS]
 have nk:((j3 (aB pr.body) us).map (·.1)).Nodup:=by
  rw[yu _ _ vS];exact yv pw
 rw[ek,ub nk,show jU (zac "statements") (V.ref D8) [(zac "names",V.ref D1),(zac "sizes",V.ref D3),(zac "first",V.ref D6)]=[(zac "names",V.ref D1),(zac "sizes",V.ref D3),(zac "first",V.ref D6),(zac "statements",V.ref D8)] from rfl];have nM:=(lE.trans mF).trans (aq.new hD8 (.dK (j3 (aB pr.body) us)));have d8:(upd N9 D8 (.dK (j3 (aB pr.body) us))) D8=some (.dK (j3 (aB pr.body) us)):=ah;generalize upd N9 D8 (.dK (j3 (aB pr.body) us))=HS at *;have Gf:=nM _ _ EM;have n8:D8≠p:=cE d8 Gf (by intro z;cases z);have Qo:bB (·=p) H9 (upd HS p (.ins t.aE dx [(zac "names",V.ref D1),(zac "sizes",V.ref D3),(zac "first",V.ref D6),(zac "statements",V.ref D8)])):=(bB.of nM).trans (bB.refl.put (O:=(·=p)) rfl _);have Ei:(upd HS p (.ins t.aE dx [(zac "names",V.ref D1),(zac "sizes",V.ref D3),(zac "first",V.ref D6),(zac "statements",V.ref D8)])) p=some (.ins t.aE dx [(zac "names",V.ref D1),(zac "sizes",V.ref D3),(zac "first",V.ref D6),(zac "statements",V.ref D8)]):=ah;have d8:(upd HS p (.ins t.aE dx [(zac "names",V.ref D1),(zac "sizes",V.ref D3),(zac "first",V.ref D6),(zac "statements",V.ref D8)])) D8=some (.dK (j3 (aB pr.body) us)):=by rw[au n8];exact d8
 generalize upd HS p (.ins t.aE dx [(zac "names",V.ref D1),(zac "sizes",V.ref D3),(zac "first",V.ref D6),(zac "statements",V.ref D8)])=W2 at *;have d1:=Qo _ _ n1 d1;have d3:=Qo _ _ n3 d3;have d5:=Qo _ _ n5 d5;have d6:=Qo _ _ n6 d6;have r13:=mR EM Qo _ _ RI;have Qo:=u9.trans Qo;have aaV:=qT hp Qo _ _ rp;walk_at "rd";simp only[C5,gO];walk_at "rd";refine⟨_,pr,rfl,aaV,hd,hf,fun l14 fv RD ni agz UP YL=>?_⟩;obtain⟨ws,lws,hws⟩:=HU YL;have lfv:fv.length=(aI pr.body 0).length:=by rw[YL.length,zad]
 have lfl:(aI pr.body 0).length=(aB pr.body).length:=by
  have h1:=congrArg zba (dw pr.body 0);rw[zad] at h1;lia
 refine⟨l14,rfl,⟨_,.of UP⟩,fun D9 hD9=>tK (K:=K) (r:=[]) (fun i=>(.inl ((aI pr.body 0).getD i (0,.stop,[])).1,ws.getD i .dR)) (.of UP) (by lia) hD9 (fun i x H2 hx s2 R hR=>?_) (fun ps TM o8 h15 Pe ep=>⟨D9,ps,rfl,.of h15,fun q hq=>.of (Pe q hq),?_,fun TY TZ=>⟨p,_,dx,_,rfl,aq.new TZ _ _ _ (o8 _ _ (ni _ _ Ei)),T.cX,T.fG,by simp,?_⟩⟩)⟩
 ·have li:i<(aI pr.body 0).length:=by have:=(zam.mp hx).1;lia
  obtain⟨a,qq,e1,e2,q1,q2⟩:=hws i li;rw[hx] at e1;cases e1;have g1:(aI pr.body 0).getD i (0,.stop,[])=(aI pr.body 0)[i]:=by rw[zar,zae li];rfl
  have g2:ws.getD i .dR=V.ref qq:=by rw[zar,e2];rfl
  rw[g1,g2] at hR;walk_at "rd";exact aJ (s2.bM q1) (v:=.int (aI pr.body 0)[i].1) (aC (j:=0) rfl) (aJ (s2.bM q1) (v:=.ref qq) (aC (j:=2) rfl) hR)
 ·have:=congrArg zba ep;simp only[zad,zaZ] at this;lia
 have ek:ps.map (fun q=>(q.2.1,q.2.2))=zbc (fun r v=>(Sum.inl r.1,v)) (aI pr.body 0) ws:=by
  rw[show (fun q:zdv×Key×V=>(q.2.1,q.2.2))=(·.2) from rfl,ep,lfv,Cd lws]
 have nk:((zbc (fun r v=>((Sum.inl r.1:Key),v)) (aI pr.body 0) ws).map (·.1)).Nodup:=by
  rw[Ek lws];exact Gg pw
 rw[ek,ub nk,show jU (zac "ways") (V.ref TY) [(zac "names",V.ref D1),(zac "sizes",V.ref D3),(zac "first",V.ref D6),(zac "statements",V.ref D8)]=[(zac "names",V.ref D1),(zac "sizes",V.ref D3),(zac "first",V.ref D6),(zac "statements",V.ref D8),(zac "ways",V.ref TY)] from rfl];have qG:=(ni.trans o8).trans (aq.new TZ (.dK (zbc (fun r v=>(Sum.inl r.1,v)) (aI pr.body 0) ws)));have W8:=o8.trans (aq.new TZ (.dK (zbc (fun r v=>(Sum.inl r.1,v)) (aI pr.body 0) ws)));have d10:(upd TM TY (.dK (zbc (fun r v=>(Sum.inl r.1,v)) (aI pr.body 0) ws))) TY=some (.dK (zbc (fun r v=>(Sum.inl r.1,v)) (aI pr.body 0) ws)):=ah;generalize upd TM TY (.dK (zbc (fun r v=>(Sum.inl r.1,v)) (aI pr.body 0) ws))=RF at *;have Cc:=qG _ _ Ei;have n10:TY≠p:=cE d10 Cc (by intro z;cases z);have put:∀fs,bB (·=p) RF (upd RF p (.ins t.aE dx fs)):=fun fs=>bB.refl.put (O:=(·=p)) rfl _;have uE:=fun fs=>(bB.of qG).trans (put fs);have uA:=fun fs=>Qo.trans (uE fs);refine q _ (fun b o n e=>uA _ b o n e) ⟨⟨dx,D1,D3,D6,D5,D8,TY,us,ws,ah,uA _ _ _ (cE US hp (by intro z;cases z)) US,uE _ _ _ n1 d1,uE _ _ _ n3 d3,uE _ _ _ n6 d6,uE _ _ _ n5 d5,vS,uE _ _ _ n8 d8,mR Ei (uE _) _ _ r13,lws,put _ _ _ n10 d10,fun i hi=>?_⟩⟩;obtain⟨a,qq,e1,e2,q1,q2⟩:=hws i hi;refine⟨qq,e2,?_⟩;have q2:=W8.bM q2;rcases q2 with (q2 |⟨o,q2⟩) |q2
 ·exact .inl (.inl (put _ _ _ (cE q2 Cc (by intro z;cases z)) q2))
 ·exact .inl (.inr ⟨o,put _ _ _ (cE q2 Cc (by intro z;cases z)) q2⟩)
 ·exact .inr q2
theorem Nx(T:Tx K mg t){n:Nat}(lT:bD P w K mg base gD n t.oH t.nu ["e", "values"] (Wq K n)) :
 bD P w K mg base gD (n+1) t.oH t.nu ["e", "values"] (Wq K (n+1)):=by
 refine T.kA.F.rE Ec (fun vs H Q E h=>?_) (fun eO A outer s H vs Q E hr h=>?_)
 ·obtain⟨_,_,_,_,rfl,_⟩:=h;rfl
 obtain⟨v,d,tr,kv,rfl,hv,hd,ok,ht,h6,q⟩:=h;have nd:=Ec.nd;have hu:=jB hr;refine⟨_,[some v,some (.ref d),none,none,none],(ai (kE 2 nd (aO aR (pv 0) ao av))
 (ai (bY (aW dP (pv 2) aN (bc _))
 (ar (aQ (aO aR (pv 0) ao av)))
 ba)
 (ai (bY (aW dP (pv 2) aN (bc _))
 (ar (aQ (jw hu (pv 1) (aO aR (pv 0) ao av) (fun _ _=>rfl))))
 ba)
 (ai (kE 3 nd (nS lT T.kA hr (ae (aO aR (pv 0) ao av) (dG 1 ag) bF)))
 (ai (kE 4 nd (nS lT T.kA hr (ae (aO aR (pv 0) ao av) (dG 1 ag) bF)))
 (ai (bY (aW dP (pv 2) aN (bc _))
 (ar (aQ (aX dH (pv 3) (pv 4))))
 ba)
 (ai (bY (aW dP (pv 2) aN (bc _))
 (ar (aQ (aX EX (pv 3) (pv 4))))
 ba)
 (ar (aQ (aX OI (pv 3) (pv 4))))))))))),rfl,?_⟩
 have n1:¬("box":Str) = "number":=by decide +kernel
 cases tr with
 |num m=>
  unfold pA at hv;simp only[Rep.bE,aD.aL,aD.bZ,Rep.cF,Rep.bO] at hv;obtain⟨a,xs,rfl,hS,_,_,rfl,rfl,_,_,rfl,rfl,rfl⟩:=hv;walk_at "rd";refine aJ hS rfl ?_;walk_at "rd";rw[if_pos trivial];exact aJ hS rfl (q _ (aq.refl _))
 |box x=>
  unfold pA at hv;simp only[Rep.bE,aD.aL,aD.bZ,Rep.cF,Rep.bO] at hv;obtain⟨a,xs,rfl,hS,_,_,rfl,rfl,_,_,rfl,rfl,rfl⟩:=hv;walk_at "rd";refine aJ hS rfl ?_;walk_at "rd";rw[if_neg n1,if_pos trivial];obtain⟨i,e,_⟩:=ok;have q:=q _ (aq.refl _);rw[gR,L0 e] at q;exact aJ hS rfl ⟨d,.int i,rfl,xq.s hd e,q⟩
 |bin o l r=>
  unfold pA at hv;simp only[Rep.bE,aD.aL,aD.bZ,Rep.cF,Rep.bO] at hv;obtain⟨a,xs,rfl,hS,_,_,rfl,rfl,vl,_,rfl,hl,vr,_,rfl,YB,rfl⟩:=hv;obtain⟨ho,ol,or'⟩:=ok;have n2:¬S o = "number":=by rcases ho with rfl |rfl |rfl<;>decide +kernel
  have n3:¬S o = "box":=by rcases ho with rfl |rfl |rfl<;>decide +kernel
  have e1:(S o = "+")↔o=[43]:=by rw[show ("+":Str)=S [43] from rfl,yq]
  have e2:(S o = "-")↔o=[45]:=by rw[show ("-":Str)=S [45] from rfl,yq]
  walk_at "rd";refine aJ hS rfl ?_;walk_at "rd";rw[if_neg n2,if_neg n3];have wl:=uT ol;have wr:=uT or';rw[rF] at ht h6;refine aJ hS rfl ⟨vl,d,l,kv,rfl,hl,hd,ol,by lia,by lia,fun H1 s1=>?_⟩;refine aJ (s1.bM hS) rfl ⟨vr,d,r,kv,rfl,YB.mono s1,s1 _ _ hd,or',by lia,by lia,fun H2 s2=>?_⟩;walk_at "rd";have q:=q _ (s1.trans s2);rw[gR] at q;refine iK (fun c=>?_) (fun c=>?_)
  ·rw[if_pos (e1.mp c)] at q;exact q
  rw[if_neg (fun z=>c (e1.mpr z))] at q;refine iK (fun c=>?_) (fun c=>?_)
  ·rw[if_pos (e2.mp c)] at q;exact q
  rw[if_neg (fun z=>c (e2.mpr z))] at q;exact⟨⟨L1 wl (by lia),L1 wr (by lia)⟩,q⟩
theorem wK(T:Tx K mg t):∀n,bD P w K mg base gD n t.oH t.nu ["e", "values"] (Wq K n)
 |0=>by
  have no:∀vs H Q E,¬Wq K 0 vs H Q E:=fun vs H Q E h=>by cases h;lia
  exact⟨fun vs H Q E h=>absurd h (no vs H Q E),fun A outer s H args us vs Q E _ _ _ _ h=>absurd h (no vs H Q E)⟩
 |n+1=>Nx T (wK T n)
theorem xm(T:Tx K mg t):bD P w K mg base gD 1 t.kZ t.lO ["chart", "parts"] (AZ K t.aE):=by
 refine T.lq.F.rE xi (fun vs H Q E h=>?_) (fun eO A outer s H vs Q E hr h=>?_)
 ·obtain⟨_,_,_,_,rfl,_⟩:=h;rfl
 obtain⟨p,a,pr,us,rfl,co,ha,lu,nb,lb,q⟩:=h;have nd:=xi.nd;refine⟨_,[some (.ref p),some (.ref a)],(ar (aQ (Fu rfl rfl T.tZ rfl T.Nm (ae (cU (pv 0) rfl) (dG 1 ag) og)))),rfl,?_⟩;obtain⟨dx,nl,sd,fa,va,st,wy,uu,ws,h1,h2,h3,_⟩:=co.at_;walk_at "rd";simp only[tDZ];walk_at "rd";refine⟨p,_,dx,_,.ref nl,rfl,h1,T.cX,T.gg,rfl,?_⟩;refine⟨nl,a,pr.aA.map fun b=>.inr (S b.name),us,rfl,?_,ha,by rw[zad];exact lu,fun d hd=>?_⟩
 ·rw[zbq];exact .of h3
 ·rw[yy,tG _ [] (by rw[zb5,w8 _ _ lu];exact names_nodup nb),zb5];exact q d _ (aq.new hd _) hd ah
theorem El(T:Tx K mg t):bD P w K mg base gD 1 t.lg t.lP ["chart", "named"] (A0 K t.aE):=by
 refine T.oS.F.rE xj (fun vs H Q E h=>?_) (fun eO A outer s H vs Q E hr h=>?_)
 ·obtain⟨_,_,_,_,_,rfl,_⟩:=h;rfl
 obtain⟨p,d,pr,kvs,us,rfl,co,hd,lu,hv,lb,q⟩:=h;have nd:=xj.nd;have hu:=jB hr;refine⟨_,[some (.ref p),some (.ref d)],(ar (aQ (iA rW rfl T.xV PyProof.Rows.Boot.«tuple» (ae (dZ (own:=["name"]) (ix:=[1]) rfl (by rfl) (by rfl) (dN (cU (pv 0) rfl)) (fun _ _ _ _=>(cH (i:=0) (by show List.Nodup (["name", "named"]:List Str);decide +kernel) rfl (zaJ rfl))) (fun _ _ _ _=>dY) (fun _ _ _ _=>(jw hu (pv 1) (pv 0) (fun _ _=>rfl)))) ag ki)))),rfl,?_⟩;obtain⟨dx,nl,sd,fa,va,st,wy,uu,ws,h1,h2,h3,_⟩:=co.at_;walk_at "rd";simp only[gO];walk_at "rd";have ln:(pr.aA.map fun b=>V.str (S b.name)).length=pr.aA.length:=zad ..;refine⟨p,_,dx,_,.ref nl,rfl,h1,T.cX,T.gg,rfl,nl,rfl,⟨_,.of h3⟩,fun D hD=>?_⟩;refine wc (K:=K) (r:=[some (V.ref d)]) (fun i=>us.getD i .dR) (.of h3) (by rw[ln];lia) hD (fun i x H2 hx s2 R hR=>?_) (fun H2 s2 h2=>⟨D,_,rfl,.inl ⟨.of h2,fun l hl=>?_⟩⟩)
 ·have li:i<pr.aA.length:=by have:=(zam.mp hx).1;rw[ln] at this;exact this
  rw[zao,zae li] at hx;cases hx;have g:=hv i li;have li2:i<us.length:=by lia
  rw[zae li2] at g;have e:us.getD i .dR=us[i]:=by rw[zar,zae li2];rfl
  rw[e] at hR;walk_at "rd";exact⟨d,us[i],rfl,xq.s (s2 _ _ hd) g,hR⟩
 ·have e:(zaB (pr.aA.map fun b=>V.str (S b.name)).length).map (fun i=>us.getD i .dR)=us:=by
   rw[ln,<- lu];have:=qU (fun v:V=>v) V.dR us;rw[List.map_id'] at this;exact this
  rw[e];exact q l _ (s2.trans (aq.new hl _)) (.of ah)
theorem oU(T:Tx K mg t):bD P w K mg base gD 1 t.nB t.oI ["chart", "row"] (DA K t.aE):=by
 refine T.jq.F.rE zl (fun vs H Q E h=>?_) (fun eO A outer s H vs Q E hr h=>?_)
 ·obtain⟨_,_,_,rfl,_⟩:=h;rfl
 obtain⟨p,pr,row,rfl,co,pw,q⟩:=h;have nd:=zl.nd;have hu:=jB hr;obtain⟨HV,vC,vD⟩:=T.zw;refine⟨_,[some (.ref p),some (.int row)],(ai (bY (aW dP (pv 1) (cY rfl vC vD) (bc _))
 (ar (aQ aN))
 ba)
 (ar (aQ (aO aR (jw hu (cU (pv 0) rfl) (pv 1) (fun _ _=>rfl)) ao av)))),rfl,?_⟩
 obtain⟨dx,nl,sd,fa,va,st,wy,uu,ws,h1,h2,h3,h4,h5,h6,h7,h8,h9,_⟩:=co.at_;walk_at "rd";rcases q with ⟨rfl,q⟩ |⟨n0,i,hi,er,q⟩
 ·exact(if_pos rfl).mpr q
 ·refine(if_neg n0).mpr ⟨p,_,dx,_,.ref st,rfl,h1,T.cX,T.cN,rfl,?_⟩;have li:i<uu.length:=by lia
  obtain⟨v,hv,rv⟩:=h9.get (i:=i) (d:=fI (aB pr.body)[i]) (by rw[zao,zae hi];rfl);have g:=uS _ _ h7 pw i hi v hv;obtain⟨sa,ys,rfl,hs⟩:=je _ rv;rw[er] at g;exact⟨st,.ref sa,rfl,.inl ⟨_,.inl row,.inl h8,rfl,g.symm⟩,aJ hs (v:=.str (rZ (aB pr.body)[i].wd)) (aC (j:=0) rfl) q⟩
theorem Em(T:Tx K mg t):bD P w K mg base gD 4 t.vv t.vw ["chart", "standing"] (Hf K t.aE):=by
 have ud:=xm (P:=P) (w:=w) (base:=base) T;have lT:=wK (P:=P) (w:=w) (base:=base) T 3;refine T.rj.F.rE Ed (fun vs H Q E h=>?_) (fun eO A outer s H vs Q E hr h=>?_)
 ·obtain⟨_,_,_,_,_,_,_,_,_,rfl,_⟩:=h;rfl
 obtain⟨p,sa,pr,vals,i,hi,sg,l,r,rfl,co,ok,⟨va,Qp,W9⟩,lv,cp,tl,tr,q⟩:=h;have nd:=Ed.nd;have hu:=jB hr;refine⟨_,[some (.ref p),some (.ref sa),none,none,none,none],(ai (kE 2 nd (jw hu (cU (pv 0) rfl) (aO aR (pv 1) ao av) (fun _ _=>rfl)))
 (ai (kE 3 nd (nS ud T.lq hr (dG 0 (ae (aO aR (pv 1) ao av) ag bF))))
 (ai (kE 4 nd (nS lT T.kA hr (ae (aO aR (pv 2) ao av) (dG 3 ag) bF)))
 (ai (kE 5 nd (nS lT T.kA hr (ae (aO aR (pv 2) ao av) (dG 3 ag) bF)))
 (ai (bY (aW dP (aO aR (pv 2) ao av) aN (bc _))
 (ar (aQ (iO Kx (pv 4) (pv 5) (bc _))))
 ba)
 (ar (aQ (iO dP (pv 4) (pv 5) (bc _))))))))),rfl,?_⟩
 obtain⟨dx,nl,sd,fa,wa,st,wy,uu,ws,h1,h2,h3,h4,h5,h6,h7,h8,h9,_⟩:=co.at_;have li:i<uu.length:=by lia
 obtain⟨v,hv,rv⟩:=h9.get (i:=i) (d:=fI (aB pr.body)[i]) (by rw[zao,zae hi];rfl);have g:=uS _ _ h7 ok.pw i hi v hv;obtain⟨ta,w0,vl,vr,ys,rfl,hs,rl,rr⟩:=Fw rv cp;generalize (aB pr.body)[i]=sm at *;have e1:(V.str (S sg)=V.str (zac "<"))↔sg=[60]:=by rw[show (zac "<":Str)=S [60] from rfl,V.str.injEq,yq]
 refine aw fun U1 gy=>?_;walk_at "rd";refine⟨p,_,dx,_,.ref st,rfl,h1,T.cX,T.cN,rfl,?_⟩;refine aJ Qp (v:=.int sm.row) (aC (j:=0) rfl) ⟨st,.ref ta,rfl,.inl ⟨_,.inl sm.row,.inl h8,rfl,g.symm⟩,(gy _ _).mpr (aw fun U2 i4=>?_)⟩;clear gy;walk_at "rd";refine aJ Qp (v:=.ref va) (aC (j:=1) rfl) ⟨p,va,pr,vals.map V.int,rfl,co,W9,by rw[zad];exact lv,ok.nb,ok.CM,fun d H2 s2 hd2 y2=>(i4 _ _).mpr (aw fun U3 ka=>?_)⟩;clear i4;walk_at "rd";refine aJ (s2.bM hs) (v:=vl) (aC (j:=3) rfl) ⟨vl,d,l,_,rfl,rl.mono s2,y2,tl.1,by have:=tl.2;lia,by have:=tl.2;lia,fun H3 s3=>(ka _ _).mpr (aw fun U4 sJ=>?_)⟩;clear ka;walk_at "rd";refine aJ ((s2.trans s3).bM hs) (v:=vr) (aC (j:=4) rfl) ⟨vr,d,r,_,rfl,rr.mono (s2.trans s3),s3 _ _ y2,tr.1,by have:=tr.2;lia,by have:=tr.2;lia,fun H4 s4=>(sJ _ _).mpr ?_⟩;clear sJ;have q:=q _ ((s2.trans s3).trans s4);unfold tL at q;walk_at "rd";refine aJ (((s2.trans s3).trans s4).bM hs) (v:=.str (S sg)) (aC (j:=2) rfl) ⟨rfl,iK (fun e=>?_) (fun e=>?_)⟩
 ·rw[if_pos (e1.mp e)] at q;exact q
 ·rw[if_neg (fun z=>e (e1.mpr z))] at q;exact q
theorem rL(T:Tx K mg t):bD P w K mg base gD 5 t.dJ t.eM ["chart", "standing"] (A2 K t.aE):=by
 have xX:=Em (P:=P) (w:=w) (base:=base) T;have ju:=oU (P:=P) (w:=w) (base:=base) T;refine T.fg.F.rE j6 (fun vs H Q E h=>?_) (fun eO A outer s H vs Q E hr h=>?_)
 ·obtain⟨_,_,_,_,_,_,_,_,_,_,rfl,_⟩:=h;rfl
 obtain⟨p,sa,pr,vals,i,hi,hf,sg,l,r,rfl,co,ok,qH,lv,cp,tl,tr,w0,w1,q⟩:=h;have nd:=j6.nd;have hu:=jB hr;refine⟨_,[some (.ref p),some (.ref sa),none],(ai (kE 2 nd (aO aR (pv 1) ao av))
 (ai (bY (nV (nS xX T.rj hr (dG 0 (dG 1 ag))))
 (ar (aQ (aG (ae (aO aR (jw hu (cU (pv 0) rfl) (pv 2) (fun _ _=>rfl)) ao av) (ae (aO aR (pv 1) ao av) ag bF) bF))))
 ba)
 (ai (bY (aW dP (nS ju T.jq hr (dG 0 (dG 2 ag))) aN (bc _))
 (ar (aQ kH))
 ba)
 (ar (aQ (aG (ae (aO aR (jw hu (cU (pv 0) rfl) (pv 2) (fun _ _=>rfl)) ao av) (ae (aO aR (pv 1) ao av) ag bF) bF))))))),rfl,?_⟩
 obtain⟨va,Qp,W9⟩:=id qH;have agE:=ok.pos _ (zas hi);refine aw fun U1 gy=>?_;walk_at "rd";refine aJ Qp (v:=.int (aB pr.body)[i].row) (aC (j:=0) rfl) ((gy _ _).mpr ?_);clear gy;walk_at "rd";refine⟨p,sa,pr,vals,i,hi,sg,l,r,rfl,co,ok,qH,lv,cp,tl,tr,fun H2 s2=>?_⟩;obtain⟨dx,fs,wy,wq,g1,g2,g3,g4⟩:=(co.mono s2).way ok i hi hf;have qq:∀(j:Nat) (x:Int),(aI pr.body 0)[i].2.2[j]?=some x->NZ ((aI pr.body 0)[i].2.2.map V.int) (j:Int)=some (V.int x):=fun j x e=>aC (by rw[zao,e];rfl);have back:∀(x:Int) (H3:Hp),aq H2 H3->∀pp,H3 pp=none->yz K (upd H3 pp (.tup [V.int x,V.ref va])) (some (x,vals)) (.ref pp):=fun x H3 s3 pp Gh=>⟨pp,rfl,va,.of ah,((s2.trans s3).trans (aq.new Gh _)).bM W9⟩
 unfold jF at q;rw[cp] at q;simp only at q;refine⟨_,rfl,iK (fun e=>?_) (fun e=>?_)⟩
 ·rw[if_pos e] at q;have e0:(aI pr.body 0)[i].2.2[0]?=some ((aI pr.body 0)[i].2.2.getD 0 0):=by rw[zar,zae w0];rfl
  refine⟨p,_,dx,fs,.ref wy,rfl,g1,T.cX,T.fG,g2,wy,.ref wq,rfl,g3,aJ g4 (v:=.int ((aI pr.body 0)[i].2.2.getD 0 0)) (qq 0 _ e0) (aJ (s2.bM Qp) (v:=.ref va) (aC (j:=1) rfl) fun pp Gh=>?_)⟩;exact q _ _ (s2.trans (aq.new Gh _)) (back _ _ (aq.refl _) pp Gh)
 ·rw[if_neg e] at q;refine⟨p,pr,_,rfl,co.mono s2,ok.pw,.inr ⟨by lia,i,hi,rfl,rfl,iK (fun e2=>?_) (fun e2=>?_)⟩⟩
  ·have ew:(aB pr.body)[i].wd=.bW:=(wb _).mp e2;rw[if_pos ew] at q;exact q _ _ s2 rfl
  ·have ew:(aB pr.body)[i].wd≠.bW:=fun z=>e2 ((wb _).mpr z);rw[if_neg ew] at q;have w1:=w1 ew;have e1:(aI pr.body 0)[i].2.2[1]?=some ((aI pr.body 0)[i].2.2.getD 1 0):=by rw[zar,zae w1];rfl
   refine⟨p,_,dx,fs,.ref wy,rfl,g1,T.cX,T.fG,g2,wy,.ref wq,rfl,g3,aJ g4 (v:=.int ((aI pr.body 0)[i].2.2.getD 1 0)) (qq 1 _ e1) (aJ (s2.bM Qp) (v:=.ref va) (aC (j:=1) rfl) fun pp Gh=>?_)⟩;exact q _ _ (s2.trans (aq.new Gh _)) (back _ _ (aq.refl _) pp Gh)
theorem HX:∀w:Wd,Yd (V.str (rZ w)) [V.str (zac "must"),V.str (zac "if"),V.str (zac "while")]=decide (w=.bW\/w=.ifs\/w=.lC):=by
 intro w;cases w<;>decide +kernel
theorem Gi:∀w:Wd,(rZ w=zac "ask")↔w=.ask:=by
 intro w;cases w<;>decide +kernel
theorem Xa:∀w:Wd,(rZ w=zac "put")↔w=.put:=by
 intro w;cases w<;>decide +kernel
theorem Xb:∀w:Wd,(rZ w=zac "say")↔w=.say:=by
 intro w;cases w<;>decide +kernel
theorem yz.mono{H H':Hp}{o:Option (Int×List Int)}{v:V}(h:yz K H o v)(s:aq H H'):yz K H' o v:=by
 cases o with
 |none=>exact h
 |some x=>obtain⟨a,e,sa⟩:=h;exact⟨a,e,sa.mono s⟩
theorem cond_of{bs:List ui}{vals:List Int}{st:cD}(h:st.wd=.bW\/st.wd=.ifs\/st.wd=.lC)(po:L4 bs vals st):∃sg l r,w9 st=some (sg,l,r)/\Fv bs vals l/\Fv bs vals r/\∀ws Hg,mT bs st ws vals Hg=(jF bs st ws vals,none):=by
 cases st<;>simp only[cD.wd,reduceCtorEq,or_self,or_false,false_or] at h<;>exact⟨_,_,_,rfl,po.1,po.2,fun _ _=>rfl⟩
theorem T1{st:cD}(h:st.wd=.ask):∃k b,st=.ask k b:=by
 cases st<;>first |exact⟨_,_,rfl⟩ |cases h
theorem T2{st:cD}(h:st.wd=.put):∃k b e,st=.put k b e:=by
 cases st<;>first |exact⟨_,_,_,rfl⟩ |cases h
theorem T3{st:cD}(h:st.wd=.say):∃k e,st=.say k e:=by
 cases st<;>first |exact⟨_,_,rfl⟩ |cases h
theorem Qq{st:cD}(h0:¬(st.wd=.bW\/st.wd=.ifs\/st.wd=.lC))(h1:st.wd≠.ask)(h2:st.wd≠.put)(h3:st.wd≠.say):∃k,st=.stop k:=by
 cases st<;>simp only[cD.wd,reduceCtorEq,or_self,or_false,false_or,not_true,not_false_iff,ne_eq] at h0 h1 h2 h3<;>exact⟨_,rfl⟩
theorem JG{H:Hp}{k:Int}{b:W}{v:V}(h:Rep K H (fI (.ask k b)) v):∃a,v=.ref a/\bQ K H a [.str "ask",.int k,.str (S b)]:=by
 simp only[fI,Rep.bE,aD.aL,aD.bZ,Rep.cF,Rep.bO] at h;obtain⟨a,ys,rfl,hS,_,_,rfl,rfl,_,_,rfl,rfl,_,_,rfl,rfl,rfl⟩:=h;exact⟨a,rfl,hS⟩
theorem JH{H:Hp}{k:Int}{b:W}{e:PM.Tr}{v:V}(h:Rep K H (fI (.put k b e)) v):∃a u,v=.ref a/\bQ K H a [.str "put",.int k,.str (S b),u]/\Rep K H (pA e) u:=by
 simp only[fI,Rep.bE,aD.aL,aD.bZ,Rep.cF,Rep.bO] at h;obtain⟨a,ys,rfl,hS,_,_,rfl,rfl,_,_,rfl,rfl,_,_,rfl,rfl,u,_,rfl,ru,rfl⟩:=h;exact⟨a,u,rfl,hS,ru⟩
theorem JI{H:Hp}{k:Int}{e:PM.Tr}{v:V}(h:Rep K H (fI (.say k e)) v):∃a u,v=.ref a/\bQ K H a [.str "say",.int k,u]/\Rep K H (pA e) u:=by
 simp only[fI,Rep.bE,aD.aL,aD.bZ,Rep.cF,Rep.bO] at h;obtain⟨a,ys,rfl,hS,_,_,rfl,rfl,_,_,rfl,rfl,u,_,rfl,ru,rfl⟩:=h;exact⟨a,u,rfl,hS,ru⟩
theorem Bt(vals:List Int)(j:Nat)(x:Int):(vals.map V.int).set j (.int x)=(vals.set j x).map V.int:=by
 rw[List.map_set]
theorem Bh{bs:List ui}(bp:∀b∈bs,0<b.size)(x:W):0<iD bs x:=by
 unfold iD;cases e:bs[ja bs x]? with
 |none=>decide
 |some b=>exact bp b (za0 e)
theorem zH(T:Tx K mg t):bD P w K mg base gD 6 t.nE t.oJ ["chart", "standing", "figure"] (DD K t.aE):=by
 have ue:=rL (P:=P) (w:=w) (base:=base) T;have ud:=xm (P:=P) (w:=w) (base:=base) T;have Gj:=El (P:=P) (w:=w) (base:=base) T;have lT:=wK (P:=P) (w:=w) (base:=base) T 3;refine T.kG.F.rE zm (fun vs H Q E h=>?_) (fun eO A outer s H vs Q E hr h=>?_)
 ·obtain⟨_,_,_,_,_,_,_,_,_,rfl,_⟩:=h;rfl
 obtain⟨p,sa,fv,pr,vals,Hg,i,hi,hf,rfl,co,ok,bp,qH,lv,hfv,po,w0,w1,q⟩:=h;have nd:=zm.nd;have hu:=jB hr;refine⟨_,[some (.ref p),some (.ref sa),some fv,none,none,none,none,none],(ai (kE 3 nd (aO aR (pv 1) ao av))
 (ai (kE 4 nd (jw hu (cU (pv 0) rfl) (pv 3) (fun _ _=>rfl)))
 (ai (kE 5 nd (aO aR (pv 4) ao av))
 (ai (bY (aW vU (pv 5) (aG (bC (vs:=[.str "must",.str "if",.str "while"]) (by kernel_rfl))) rfl)
 (ar (aQ (aG (ae (nS ue T.fg hr (dG 0 (dG 1 ag))) (ae kH ag ax) bJ))))
 ba)
 (ai (kE 6 nd (nS ud T.lq hr (dG 0 (ae (aO aR (pv 1) ao av) ag bF))))
 (ai (kE 7 nd kH)
 (ai (bY (aW dP (pv 5) aN (bc _))
 (ar (GL hu (pv 6) (aO aR (pv 4) ao av) (aX mv (pv 2) (jw hu (cU (pv 0) rfl) (aO aR (pv 4) ao av) (fun _ _=>rfl))) rfl))
 (ar (bY (aW dP (pv 5) aN (bc _))
 (ar (GL hu (pv 6) (aO aR (pv 4) ao av) (aX mv (nS lT T.kA hr (ae (aO aR (pv 4) ao av) (dG 6 ag) bF)) (jw hu (cU (pv 0) rfl) (aO aR (pv 4) ao av) (fun _ _=>rfl))) rfl))
 (ar (bY (aW dP (pv 5) aN (bc _))
 (ar (kE 7 nd (nS lT T.kA hr (ae (aO aR (pv 4) ao av) (dG 6 ag) bF))))
 ba)))))
 (ar (aQ (aG (ae (aG (ae (aO aR (jw hu (cU (pv 0) rfl) (pv 3) (fun _ _=>rfl)) ao av) (ae (nS Gj T.oS hr (dG 0 (dG 6 ag))) ag bJ) bF)) (dG 7 ag) aV))))))))))),rfl,?_⟩
 obtain⟨va,Qp,W9⟩:=id qH;obtain⟨dx,nl,sd,fa,va',st,wy,uu,ws,h1,h2,h3,h4,h5,h6,h7,h8,h9,_⟩:=co.at_;have li:i<uu.length:=by lia
 obtain⟨v,hv,rv⟩:=h9.get (i:=i) (d:=fI (aB pr.body)[i]) (by rw[zao,zae hi];rfl);have g:=uS _ _ h7 ok.pw i hi v hv;have sel:∃ta ds,v=.ref ta/\bQ K H ta (.str (rZ (aB pr.body)[i].wd)::ds):=by
  generalize (aB pr.body)[i]=sm at rv;cases sm<;>(rw[fI,Rep.bE] at rv;obtain⟨ta,ys,rfl,hs,rs⟩:=rv;rw[aD.aL] at rs;obtain⟨v0,t0,rfl,e0,rs⟩:=rs;rw[Rep.cF] at e0;subst e0;exact⟨ta,_,rfl,hs⟩)
 obtain⟨ta,ds,rfl,hs⟩:=sel;refine aw fun U1 gy=>?_;walk_at "rd";refine aJ Qp (v:=.int (aB pr.body)[i].row) (aC (j:=0) rfl) ((gy _ _).mpr (aw fun U2 i4=>?_));clear gy;walk_at "rd";refine⟨p,_,dx,_,.ref st,rfl,h1,T.cX,T.cN,rfl,⟨st,.ref ta,rfl,.inl ⟨_,.inl _,.inl h8,rfl,g.symm⟩,(i4 _ _).mpr (aw fun U3 ka=>?_)⟩⟩;clear i4;walk_at "rd";refine aJ hs (v:=.str (rZ (aB pr.body)[i].wd)) (aC (j:=0) rfl) ((ka _ _).mpr ?_);clear ka;refine aw fun U4 sJ=>?_;walk_at "rd";intro z hz;have sz:=aq.new hz (HO.tup [V.str (zac "must"),V.str (zac "if"),V.str (zac "while")]);refine⟨z,_,rfl,.inr (.of ah),rfl,rfl,_,rfl,iK (fun e=>?_) (fun e=>?_)⟩
 ·have e:=e;simp only[zaA,if_false,HX,decide_eq_true_eq] at e;obtain⟨sg,l,r,cp,tl,tr,es⟩:=cond_of e po;rw[es] at q;refine⟨p,sa,pr,vals,i,hi,hf,sg,l,r,rfl,co.mono sz,ok,qH.mono sz,lv,cp,tl,tr,w0,fun nm=>w1 (by rcases e with e |e |e;exact absurd e nm;exact .inl e;exact .inr e),fun v H2 s2 os pp Gh=>?_⟩;exact q pp v _ ((sz.trans s2).trans (aq.new Gh _)) (.of ah) (yz.mono os (aq.new Gh _))
 have e0:=e;simp only[zaA,if_false,HX,decide_eq_true_eq] at e0;refine(sJ _ _).mpr (aw fun U5 Bg=>?_);clear sJ e;walk_at "rd";refine aJ (sz.bM Qp) (v:=.ref va) (aC (j:=1) rfl) ⟨p,va,pr,vals.map V.int,rfl,co.mono sz,sz.bM W9,by rw[zad];exact lv,ok.nb,ok.CM,fun d H2 s2' hd2 y2=>(Bg _ _).mpr (aw fun U6 HW=>?_)⟩;clear Bg;have s2:=sz.trans s2';have hd:=sz.free hd2;walk_at "rd";refine(HW _ _).mpr (aw fun U7 YM=>?_);clear HW;have fin:∀(H5:Hp) (kvs:List (Key×V)) (us:List Int) (sd:Option Int),aq H H5->H5 d=some (.dK kvs)->us.length=pr.aA.length->(∀i (hi:i<pr.aA.length),bL kvs (.inr (S pr.aA[i].name))=(us.map V.int)[i]?)->
  mT pr.aA (aB pr.body)[i] (aI pr.body 0)[i].2.2 vals Hg=(some ((aI pr.body 0)[i].2.2.getD 0 0,us),sd)->
  U7 [some (.ref p),some (.ref sa),some fv,some (.int (aB pr.body)[i].row),some (.ref ta),some (.str (rZ (aB pr.body)[i].wd)),some (.ref d),some (DB sd)] H5:=by
  intro H5 kvs us sd' s5 hd5 lu look es;rw[es] at q;refine(YM _ _).mpr ?_;clear YM;walk_at "rd";obtain⟨dx,fs,wy,wq,g1,g2,g3,g4⟩:=(co.mono s5).way ok i hi hf;have e0:(aI pr.body 0)[i].2.2[0]?=some ((aI pr.body 0)[i].2.2.getD 0 0):=by rw[zar,zae w0];rfl
  have qq:NZ ((aI pr.body 0)[i].2.2.map V.int) ((0:Nat):Int)=some (V.int ((aI pr.body 0)[i].2.2.getD 0 0)):=aC (by rw[zao,e0];rfl);refine⟨p,_,dx,fs,.ref wy,rfl,g1,T.cX,T.fG,g2,wy,.ref wq,rfl,g3,aJ g4 (v:=.int ((aI pr.body 0)[i].2.2.getD 0 0)) qq ?_⟩;refine⟨p,d,pr,kvs,us.map V.int,rfl,co.mono s5,hd5,by rw[zad];exact lu,look,ok.CM,fun a H6 s6 sq p1 HP p2 BB=>?_⟩;exact q p2 _ _ (((s5.trans s6).trans (aq.new HP _)).trans (aq.new BB _)) (.of ah) ⟨p1,rfl,a,(aq.new BB _).bM (.of ah),((aq.new HP _).trans (aq.new BB _)).bM sq⟩
 have Xc:(eR pr.aA (vals.map V.int)).length<zdD:=by
  have line:zdD=2 ^ 24:=rfl;have:=ok.CM;unfold eR;rw[List.length_zipWith];lia
 have keep:∀i (hi:i<pr.aA.length),bL (eR pr.aA (vals.map V.int)) (.inr (S pr.aA[i].name))=(vals.map V.int)[i]?:=fun i hi=>by
  have li:i<(vals.map V.int).length:=by rw[zad];lia
  rw[mS pr.aA (vals.map V.int) (by rw[zad];exact lv) ok.nb i hi _ (zae li),zae li]
 have put:∀(b:W),b∈pr.aA.map (·.name)->∀(x:Int),(xw pr.aA vals b x).length=pr.aA.length/\∀i (hi:i<pr.aA.length),bL (putK (eR pr.aA (vals.map V.int)) (.inr (S b)) (.int x)) (.inr (S pr.aA[i].name))=((xw pr.aA vals b x).map V.int)[i]?:=fun b hb x=>by
  refine⟨by unfold xw;rw[zc8];exact lv,fun i hi=>?_⟩;rw[Fy (by rw[zad];exact lv) ok.nb hb,Bt];rfl
 have Xd:∀H3 o,aq H H3->aq H (upd H3 d o):=fun H3 o s3=>((aS.of s3:aS d H H3).put o).same hd;walk_at "rd";refine iK (fun e=>?_) (fun e=>?_)
 ·obtain⟨k,b,Ob⟩:=T1 ((Gi _).mp e);have rv:=rv;rw[Ob] at rv po;obtain⟨_,ee,hT⟩:=JG rv;cases ee;have efv:=hfv ((Gi _).mp e);subst efv;obtain⟨l1,l2⟩:=put b po (Hg%iD pr.aA b);refine⟨p,_,dx,_,.ref sd,rfl,s2 _ _ h1,T.cX,T.gm,rfl,aJ (s2.bM hT) (v:=.str (S b)) (aC (j:=2) rfl) ⟨sd,.int (iD pr.aA b),rfl,.inl ⟨_,.inr (S b),.inl (s2 _ _ h4),rfl,(DC ok.nb po).symm⟩,?_⟩⟩;refine⟨_,_,rfl,rfl,Bh bp b,aJ (s2.bM hT) (v:=.str (S b)) (aC (j:=2) rfl) ⟨d,_,rfl,.inl ⟨_,.inr (S b),y2,rfl,Xc,rfl⟩,?_⟩⟩;exact fin _ _ _ none (Xd _ _ s2) ah l1 l2 (by rw[Ob];rfl)
 refine iK (fun e2=>?_) (fun e2=>?_)
 ·obtain⟨k,b,tr,Ob⟩:=T2 ((Xa _).mp e2);have rv:=rv;rw[Ob] at rv po;obtain⟨_,u,ee,hT,ru⟩:=JH rv;cases ee;obtain⟨l1,l2⟩:=put b po.1 (wv pr.aA vals tr%iD pr.aA b);refine aJ (s2.bM hT) (v:=u) (aC (j:=3) rfl) ⟨u,d,tr,_,rfl,ru.mono s2,y2,po.2.1,by have:=po.2.2;lia,by have:=po.2.2;lia,fun H3 Xe=>?_⟩;have s3:=s2.trans Xe;refine⟨p,_,dx,_,.ref sd,rfl,s3 _ _ h1,T.cX,T.gm,rfl,aJ (s3.bM hT) (v:=.str (S b)) (aC (j:=2) rfl) ⟨sd,.int (iD pr.aA b),rfl,.inl ⟨_,.inr (S b),.inl (s3 _ _ h4),rfl,(DC ok.nb po.1).symm⟩,?_⟩⟩;refine⟨_,_,rfl,rfl,Bh bp b,aJ (s3.bM hT) (v:=.str (S b)) (aC (j:=2) rfl) ⟨d,_,rfl,.inl ⟨_,.inr (S b),Xe _ _ y2,rfl,Xc,rfl⟩,?_⟩⟩;exact fin _ _ _ none (Xd _ _ s3) ah l1 l2 (by rw[Ob];rfl)
 refine iK (fun e3=>?_) (fun e3=>?_)
 ·obtain⟨k,tr,Ob⟩:=T3 ((Xb _).mp e3);have rv:=rv;rw[Ob] at rv po;obtain⟨_,u,ee,hT,ru⟩:=JI rv;cases ee;refine aJ (s2.bM hT) (v:=u) (aC (j:=2) rfl) ⟨u,d,tr,_,rfl,ru.mono s2,y2,po.1,by have:=po.2;lia,by have:=po.2;lia,fun H3 Xe=>?_⟩;exact fin _ _ _ (some _) (s2.trans Xe) (Xe _ _ y2) lv keep (by rw[Ob];rfl)
 obtain⟨k,Ob⟩:=Qq e0 (fun z=>e ((Gi _).mpr z)) (fun z=>e2 ((Xa _).mpr z)) (fun z=>e3 ((Xb _).mpr z));exact fin _ _ _ none s2 y2 lv keep (by rw[Ob];rfl)
theorem vE(T:Tx K mg t):bD P w K mg base gD 1 t.bw t.fW ["self"] (MK K t.aE t.bI):=by
 refine T.eN.rE jI (fun vs H Q E h=>?_) (fun eO A outer s H vs Q E hr h=>?_)
 ·obtain⟨_,_,_,_,_,_,_,_,rfl,_⟩:=h;rfl
 obtain⟨wk,ch,fl,pr,aU,n,row,vals,rfl,wo,q⟩:=h;have nd:=jI.nd;obtain⟨HV,vC,vD⟩:=T.zw;refine⟨_,[some (.ref wk)],(ar (bY (aW dP (aO aR (cU (pv 0) rfl) ao av) (cY rfl vC vD) (bc _))
 (ar (iP (pv 0) (aG (ae aN ag ax)) rfl))
 ba)),rfl,?_⟩
 obtain⟨dx,sa,ev,hw,qH,he⟩:=wo.at_;obtain⟨va,CN,Io⟩:=id qH;walk_at "rd";refine⟨wk,_,dx,_,.ref sa,rfl,hw,T.bP,T.bA,rfl,aJ CN (v:=.int row) (aC (j:=0) rfl) ⟨rfl,iK (fun e=>fun p hp=>?_) (fun e=>?_)⟩⟩
 ·have e:=V.int.inj e;have s1:=aq.new hp (.tup [V.str (zac "end")]);refine⟨wk,_,dx,_,rfl,s1 _ _ hw,T.bP,T.gw,(show 5<1000 by decide),?_⟩;refine q _ ((aS.of s1).put _) ?_;unfold PG.endAt;rw[if_pos e];exact(wo.mono s1).put (s1 _ _ hw) (qH.mono s1) ⟨p,rfl,.of ah⟩
 ·refine q _ (.refl _ _) ?_;unfold PG.endAt;rw[if_neg (fun z=>e (by rw[z]))];exact wo
theorem Ce(T:Tx K mg t):bD P w K mg base gD 2 t.eC t.oO ["self", "chart", "figures"] (MJ K t.aE t.bI):=by
 have gW:=vE (P:=P) (w:=w) (base:=base) T;refine T.lQ.rE vt (fun vs H Q E h=>?_) (fun eO A outer s H vs Q E hr h=>?_)
 ·obtain⟨_,_,_,_,_,_,rfl,_⟩:=h;rfl
 obtain⟨wk,dx,ch,fl,pr,aU,rfl,hw,co,hf,q⟩:=h;have nd:=vt.nd;refine⟨_,[some (.ref wk),some (.ref ch),some (.ref fl)],(ai (iP (pv 0) (pv 1) rfl)
 (ai (iP (pv 0) (pv 2) rfl)
 (ai (iP (pv 0) ao rfl)
 (ai (iP (pv 0) (cU (pv 1) rfl) rfl)
 (ai (iP (pv 0) kH rfl)
 (ar (eG (pJ (pv 0) T.bP T.j8 gW (hr.mono (by first|decide|omega)) T.j7 .nil fj)))))))),rfl,?_⟩
 obtain⟨cdx,nl,sd,fa,va,st,wy,us,ws,h1,h2,h3,h4,h5,h6,adj⟩:=co.at_;have nc:ch≠wk:=cE h1 hw (by intro z;injection z with _ _ z;cases z);walk_at "rd";refine⟨wk,_,dx,_,rfl,hw,T.bP,T.hX,by decide,?_⟩;refine⟨wk,_,dx,_,rfl,ah,T.bP,T.fB,zbi (iS (zag 0)) (by decide),?_⟩;refine⟨wk,_,dx,_,rfl,ah,T.bP,T.fH,zbi (iS (iS (zag 0))) (by decide),?_⟩;refine⟨ch,_,cdx,_,.ref fa,rfl,by rw[au nc,au nc,au nc];exact h1,T.cX,T.gu,rfl,?_⟩;refine⟨wk,_,dx,_,rfl,ah,T.bP,T.bA,zbi (iS (iS (iS (zag 0)))) (by decide),?_⟩;refine⟨wk,_,dx,_,rfl,ah,T.bP,T.gw,zbi (iS (iS (iS (iS (zag 0))))) (by decide),?_⟩;have qH:cQ K H fa (bg pr.body 0) (pr.aA.map (·.first)):=⟨va,.of h5,.of (by rw[zbq];exact h6)⟩
 have u5:=fun o1 o2 o3 o4 o5=>(((((aS.refl wk H).put o1).put o2).put o3).put o4).put o5;refine⟨wk,dx,_,rfl,ah,rfl,wk,ch,fl,pr,aU,0,_,_,rfl,⟨⟨dx,fa,.dR,ah,qH.ins hw (u5 _ _ _ _ _),rfl⟩,co.ins hw nc (u5 _ _ _ _ _),hf.ins hw (u5 _ _ _ _ _),nc⟩,fun H6 u6 w6=>q _ ((u5 _ _ _ _ _).trans u6) w6⟩
theorem xn(T:Tx K mg t):bD P w K mg base gD 2 t.bV t.iZ ["self"] (PN K t.aE t.bI):=by
 have ju:=oU (P:=P) (w:=w) (base:=base) T;refine T.gM.rE lM (fun vs H Q E h=>?_) (fun eO A outer s H vs Q E hr h=>?_)
 ·obtain⟨_,_,_,_,_,_,_,_,_,_,rfl,_⟩:=h;rfl
 obtain⟨wk,ch,fl,pr,aU,n,vals,e,i,hi,rfl,ok,wo,q⟩:=h;have nd:=lM.nd;refine⟨_,[some (.ref wk)],(ar (aQ (iO dP (nS ju T.jq hr (ae (cU (pv 0) rfl) (ae (aO aR (cU (pv 0) rfl) ao av) ag bF) og)) aN (bc _)))),rfl,?_⟩;obtain⟨dx,sa,ev,hw,⟨va,CN,Io⟩,he⟩:=wo.at_;have pos:=ok.pos _ (zas hi);walk_at "rd";refine⟨wk,_,dx,_,.ref ch,rfl,hw,T.bP,T.hX,rfl,wk,_,dx,_,.ref sa,rfl,hw,T.bP,T.bA,rfl,aJ CN (v:=.int (aB pr.body)[i].row) (aC (j:=0) rfl) ⟨ch,pr,_,rfl,wo.WK,ok.pw,.inr ⟨by lia,i,hi,rfl,?_⟩⟩⟩;have e:decide (V.str (rZ (aB pr.body)[i].wd)=V.str (zac "ask"))=decide ((aB pr.body)[i].wd=.ask):=decide_eq_decide.mpr ⟨fun z=>(Gi _).mp (V.str.inj z),fun z=>congrArg V.str ((Gi _).mpr z)⟩;refine⟨rfl,?_⟩;rw[e];exact q
theorem Gk(T:Tx K mg t):bD P w K mg base gD 7 t.dh t.mE ["self"] (Te K t.aE t.bI):=by
 have gW:=vE (P:=P) (w:=w) (base:=base) T;have jv:=xn (P:=P) (w:=w) (base:=base) T;have rq:=zH (P:=P) (w:=w) (base:=base) T;refine T.kC.rE sI (fun vs H Q E h=>?_) (fun eO A outer s H vs Q E hr h=>?_)
 ·obtain⟨_,_,_,_,_,_,_,_,rfl,_⟩:=h;rfl
 obtain⟨wk,ch,fl,pr,aU,n,row,vals,rfl,dr,wo,aaZ,RJ,hn,RK,q⟩:=h;have nd:=sI.nd;refine⟨_,[some (.ref wk),none,none],(ai (kE 1 nd kH)
 (ai (bY (nV (pJ (pv 0) T.bP T.nL jv (hr.mono (by first|decide|omega)) T.nK .nil fj))
 (ai (bY (aW dP (cU (pv 0) rfl) (cf iQ rfl T.xk PyProof.Rows.Boot.«len» (ae (cU (pv 0) rfl) ag og)) (bc _))
 (ai (iP (pv 0) (aG (ae aN ag ax)) rfl)
 (ar (aQ kH)))
 ba)
 (ai (kE 1 nd (aO aR (cU (pv 0) rfl) (cU (pv 0) rfl) OO))
 (ar (Iy (pv 0) ao Sf))))
 ba)
 (ai (kE 2 nd (nS rq T.kG hr (ae (cU (pv 0) rfl) (ae (cU (pv 0) rfl) (dG 1 ag) og) og)))
 (ai (bY (aW Ky (aO aR (pv 2) ao av) kH (bc _))
 (ar (iP (pv 0) (aG (ae aN (ae (aO aR (cU (pv 0) rfl) ao av) ag bF) ax)) rfl))
 (ai (iP (pv 0) (aO aR (pv 2) ao av) rfl)
 (ar (eG (pJ (pv 0) T.bP T.j8 gW (hr.mono (by first|decide|omega)) T.j7 .nil fj)))))
 (ar (aQ (aO aR (pv 2) ao av))))))),rfl,?_⟩
 obtain⟨i,hi,rfl⟩:=RJ.row.resolve_left aaZ;obtain⟨hf,ek,ew⟩:=qc pr.body i hi;obtain⟨w0,w1⟩:=jd pr.body 0 _ (zas hf);rw[ew] at w1;obtain⟨po,so⟩:=FA RJ.len dr.ok.nb RJ.small (kj pr.body _ dr.own (zas hi));have bp:∀b∈pr.aA,0<b.size:=fun b hb=>by have:=dr.size b hb;lia
 have ea:dy pr.body (aB pr.body)[i].row=decide ((aB pr.body)[i].wd=.ask):=by unfold dy;rw[oo dr.ok.pw i hi]
 have es:∀f,cI pr (aB pr.body)[i].row vals f=mT pr.aA (aB pr.body)[i] (aI pr.body 0)[i].2.2 vals f:=fun f=>by unfold cI;rw[oo dr.ok.pw i hi,BH dr.ok.pw i hi hf]
 obtain⟨dx,sa,ev,hw,qH,he⟩:=wo.at_;have he:ev=.dR:=he;subst he;refine aw fun U1 gy=>?_;walk_at "rd";refine(gy _ _).mpr (aw fun U2 i4=>?_);clear gy;have rest:∀(H2:Hp) (n':Nat) (fv:V) (f:Int),aS wk H H2->CP K t.aE t.bI H2 wk ch fl pr aU n' (aB pr.body)[i].row vals none->((aB pr.body)[i].wd=.ask->fv=.int f)->n'<=aU.length->PG.take1 (dy pr.body (aB pr.body)[i].row) (aU.drop n)=some (f,aU.drop n')->U2 [some (.ref wk),some fv,none] H2:=by
  intro H2 n' fv f u2 wo2 hfv Oh ht;obtain⟨T4,sa2,ev2,hw2,Xf,N1⟩:=wo2.at_;have N1:ev2=.dR:=N1;subst N1;refine(i4 _ _).mpr (aw fun U3 ka=>?_);clear i4;walk_at "rd";refine⟨wk,_,T4,_,.ref ch,rfl,hw2,T.bP,T.hX,rfl,wk,_,T4,_,.ref sa2,rfl,hw2,T.bP,T.bA,rfl,ch,sa2,fv,pr,vals,f,i,hi,hf,rfl,wo2.WK,dr.ok,bp,Xf,RJ.len,hfv,po,w0,w1,fun q1 sv H3 s3 k1 o1=>(ka _ _).mpr ?_⟩;clear ka;have wo3:=wo2.mono s3;have T5:=s3 _ _ hw2;have Xg:=Xf.mono s3;have u3:=u2.trans (.of s3);have sst:=fun x s=>yA.step (f:=f) (x:=x) (s:=s) dr hi hf RJ.len RJ.small;rcases Ii:mT pr.aA (aB pr.body)[i] (aI pr.body 0)[i].2.2 vals f with ⟨o,sd⟩
  have YN:=(es f).trans Ii;rw[Ii] at k1 o1;simp only at k1 o1;refine aw fun U4 sJ=>?_;walk_at "rd";refine aJ k1 (v:=sv) (aC (j:=0) rfl) ?_;cases o with
  |none=>
   have o1:sv=.dR:=o1;subst o1;have eg:=L6 ht YN;rw[eg] at q;obtain⟨va3,CN,Io⟩:=id Xg;refine iK (fun _=>?_) (fun z=>absurd rfl z);refine⟨wk,_,T4,_,.ref sa2,rfl,T5,T.bP,T.bA,rfl,aJ CN (v:=.int (aB pr.body)[i].row) (aC (j:=0) rfl) fun p hp=>?_⟩;have s4:=aq.new hp (.tup [V.str (zac "must"),V.int (aB pr.body)[i].row]);refine⟨wk,_,T4,_,rfl,s4 _ _ T5,T.bP,T.gw,(show 5<1000 by decide),(sJ _ _).mpr ?_⟩;walk_at "rd";refine aJ ((s4.bM k1).ins (s4 _ _ T5) ((aS.refl _ _).put _)) (v:=DB sd) (aC (j:=1) rfl) (q _ n' (u3.trans ((aS.of s4).put _)) Oh rfl ((wo3.mono s4).put (s4 _ _ T5) (Xg.mono s4) ⟨p,rfl,.of ah⟩) RJ)
  |some x=>
   obtain⟨sa4,rfl,aa3⟩:=o1;have eg:=L7 ht YN;rw[eg] at q;refine iK (fun z=>by cases z) (fun _=>?_);refine aJ k1 (v:=.ref sa4) (aC (j:=0) rfl) ⟨wk,_,T4,_,rfl,T5,T.bP,T.bA,(show 5<1000 by decide),?_⟩;have u4:aS wk H3 (upd H3 wk (.ins t.bI T4 (Ws ch fl n' sa4 .dR))):=(aS.refl _ _).put _;have wo4:=wo3.put T5 (n':=n') aa3 (show wg K H3 none .dR from rfl);refine⟨wk,T4,_,rfl,ah,rfl,wk,ch,fl,pr,aU,n',x.1,x.2,rfl,wo4,fun H5 u5 UU=>(sJ _ _).mpr ?_⟩;walk_at "rd";refine aJ ((k1.ins T5 u4).ins ah u5) (v:=DB sd) (aC (j:=1) rfl) (q _ n' (u3.trans (u4.trans u5)) Oh rfl UU (sst x sd Ii))
 walk_at "rd";refine⟨wk,dx,_,rfl,hw,rfl,wk,ch,fl,pr,aU,n,vals,none,i,hi,rfl,dr.ok,wo,?_⟩;refine⟨_,rfl,iK (fun e=>?_) (fun e=>?_)⟩
 ·have ew:(aB pr.body)[i].wd=.ask:=by simpa using e
  refine⟨wk,_,dx,_,.int n,rfl,hw,T.bP,T.fH,rfl,wk,_,dx,_,.ref fl,rfl,hw,T.bP,T.fB,rfl,fl,_,rfl,.inr wo.Yu,rfl,iK (fun e2=>fun p hp=>?_) (fun e2=>?_)⟩
  ·have e2:=V.int.inj e2;rw[zad] at e2;have s1:=aq.new hp (.tup [V.str (zac "out")]);refine⟨wk,_,dx,_,rfl,s1 _ _ hw,T.bP,T.gw,(show 5<1000 by decide),?_⟩;have ed:aU.drop n=[]:=List.drop_eq_nil_of_le (by lia);have eg:=Pg (pr:=pr) (row:=(aB pr.body)[i].row) (vals:=vals) (left:=aU.drop n) (by rw[ea,ed];simp[PG.take1,ew]);rw[eg] at q;exact q _ n ((aS.of s1).put _) hn rfl ((wo.mono s1).put (s1 _ _ hw) (qH.mono s1) ⟨p,rfl,.of ah⟩) RJ
  ·rw[zad] at e2;have ln:n<aU.length:=by
    have:n≠aU.length:=fun z=>e2 (by rw[z]);lia
   refine⟨wk,_,dx,_,.ref fl,rfl,hw,T.bP,T.fB,rfl,wk,_,dx,_,.int n,rfl,hw,T.bP,T.fH,rfl,aJ wo.Yu (v:=.int aU[n]) (aC (by rw[zao,zae ln];rfl)) ?_⟩;refine⟨wk,_,dx,_,.int n,rfl,hw,T.bP,T.fH,rfl,?_⟩;refine⟨n,1,rfl,rfl,dx,_,hw,(show 5<1000 by decide),?_⟩;refine rest _ (n+1) _ aU[n] ((aS.refl _ _).put _) (wo.put hw (n':=n+1) qH (show wg K H none .dR from rfl)) (fun _=>rfl) ln ?_;rw[ea,decide_eq_true ew,zbu ln];rfl
 ·have ew:(aB pr.body)[i].wd≠.ask:=by simpa using e
  refine rest H n .dR 0 (.refl _ _) wo (fun z=>absurd z ew) hn ?_;rw[ea,decide_eq_false ew];rfl
theorem T6(st:cD):rZ st.wd≠zac "end":=by
 have k:∀w:Wd,w≠.fin->rZ w≠zac "end":=by
  intro w h;cases w<;>first |exact absurd rfl h |decide +kernel
 exact k _ (by cases st<;>(intro z;cases z))
theorem sM(T:Tx K mg t):bD P w K mg base gD 5 t.iW t.jy ["chart", "standing"] (S4 K t.aE):=by
 have ju:=oU (P:=P) (w:=w) (base:=base) T;have xX:=Em (P:=P) (w:=w) (base:=base) T;refine T.i0.F.rE sE (fun vs H Q E h=>?_) (fun eO A outer s H vs Q E hr h=>?_)
 ·obtain⟨_,_,_,_,rfl,_⟩:=h;rfl
 obtain⟨ch,sa,pr,⟨row,vals⟩,rfl,co,dr,qH,si,q⟩:=h;have nd:=sE.nd;refine⟨_,[some (.ref ch),some (.ref sa),none,none],(ai (kE 2 nd (aO aR (pv 1) ao av))
 (ai (kE 3 nd (nS ju T.jq hr (dG 0 (dG 2 ag))))
 (ai (bY (aW dP (pv 3) aN (bc _))
 (ar (aQ (br (ae (aG (ae aN ag ax)) ag aV))))
 ba)
 (ai (bY (aW vU (pv 3) (aG (bC (vs:=[.str "if",.str "while"]) (by kernel_rfl))) rfl)
 (ar (aQ (br (ae (aG (ae aN (dG 2 ag) ax)) (ae (aG (ae aN (dG 2 (ae (nS xX T.rj hr (dG 0 (dG 1 ag))) ag bJ)) ax)) ag aV) aV))))
 ba)
 (ai (bY (PW.pt (pw_and (aW dP (pv 3) aN (bc _)) (pw_and1 (Bp (nV (nS xX T.rj hr (dG 0 (dG 1 ag))))))))
 (ar (aQ (br (ae (aG (ae aN (dG 2 ag) ax)) (ae (aG (ae aN (dG 2 ag) ax)) ag aV) aV))))
 ba)
 (ar (aQ (br (ae (aG (ae aN (dG 2 ag) ax)) ag aV))))))))),rfl,?_⟩
 obtain⟨va,CN,Io⟩:=id qH;refine aw fun U1 gy=>?_;walk_at "rd";refine aJ CN (v:=.int row) (aC (j:=0) rfl) ((gy _ _).mpr (aw fun U2 i4=>?_));clear gy;walk_at "rd";refine⟨ch,pr,row,rfl,co,dr.ok.pw,?_⟩;by_cases h0:row=0
 ·subst h0;refine .inl ⟨rfl,(i4 _ _).mpr (aw fun U3 ka=>?_)⟩;walk_at "rd";intro p hp;generalize e1:upd H p _=H1;have s1:=gT e1 hp;have r1:Rep K H1 (g7 .fin) (.ref p):=A3 e1 hp (.cons rS .nil);intro l hl;generalize e2:upd H1 l _=H2;have s2:=gL e2 hl;refine q l _ _ (s1.trans s2) (s1.free hl) ⟨Ai e2,?_⟩;unfold iE;rw[if_pos rfl];exact .cons (r1.mono s2) .nil
 ·obtain⟨i,hi,rfl⟩:=si.ok.row.resolve_left h0;refine .inr ⟨h0,i,hi,rfl,(i4 _ _).mpr ?_⟩;clear i4;have est:rH pr.body (aB pr.body)[i].row=(aB pr.body)[i]:=oo dr.ok.pw i hi;unfold iE at q;rw[if_neg h0] at q;simp only[est] at q;obtain⟨po,so⟩:=FA si.ok.len dr.ok.nb si.ok.small (kj pr.body _ dr.own (zas hi));refine aw fun U3 ka=>?_;walk_at "rd";refine iK (fun z=>absurd z (T6 _)) (fun _=>(ka _ _).mpr (aw fun U4 sJ=>?_));clear ka;walk_at "rd";intro p5 HR;refine⟨p5,_,rfl,.inr (.of ah),rfl,rfl,_,rfl,?_⟩;generalize e5:upd H p5 _=H5;have s5:=gT e5 HR;rw[Hb];by_cases hl:(aB pr.body)[i].wd=.ifs\/(aB pr.body)[i].wd=.lC
  ·obtain⟨sg,l,r,cp,tl,tr,_⟩:=cond_of (.inr hl) po;have nm:(aB pr.body)[i].wd≠.bW:=by rcases hl with e |e<;>rw[e]<;>decide
   simp only[cp] at q;rw[if_neg nm] at q;refine(if_pos (decide_eq_true hl)).mpr fun p6 vB=>?_;generalize e6:upd H5 p6 _=H6;have s6:=gT e6 vB;have r6:Rep K H6 (g7 (.row (aB pr.body)[i].row)) (.ref p6):=A3 e6 vB (.cons rS (.cons mJ .nil));refine⟨ch,sa,pr,vals,i,hi,sg,l,r,rfl,co.mono (s5.trans s6),dr.ok,qH.mono (s5.trans s6),si.ok.len,cp,tl,tr,fun H7 s7 p8 Bf=>?_⟩;generalize e8:upd H7 p8 _=H8;have s8:=gT e8 Bf;have r8:Rep K H8 (g7 (.side (aB pr.body)[i].row (tL sg (wv pr.aA vals l) (wv pr.aA vals r)))) (.ref p8):=A3 e8 Bf (.cons rS (.cons mJ (.cons (Rep.kK.mpr rfl) .nil)));intro l9 HY;generalize e9:upd H8 l9 _=H9;have s9:=gL e9 HY;have Xh:=s5.trans (s6.trans (s7.trans s8));exact q l9 _ _ (Xh.trans s9) (Xh.free HY) ⟨Ai e9,.cons (r6.mono (s7.trans (s8.trans s9))) (.cons (r8.mono s9) .nil)⟩
  ·refine(if_neg (by rw[decide_eq_false hl];exact zai)).mpr ((sJ _ _).mpr (aw fun U5 Bg=>?_));clear sJ;have last:∀H7,aq H H7->(∀l us H',aq H H'->H l=none->Mm K H' l us [.row (aB pr.body)[i].row]->Q (.ref l) H')->U5 [some (.ref ch),some (.ref sa),some (.int (aB pr.body)[i].row),some (.str (rZ (aB pr.body)[i].wd))] H7:=by
    intro H7 s7 q;refine(Bg _ _).mpr ?_;clear Bg;walk_at "rd";intro p6 vB;generalize e6:upd H7 p6 _=H6;have s6:=gT e6 vB;have r6:Rep K H6 (g7 (.row (aB pr.body)[i].row)) (.ref p6):=A3 e6 vB (.cons rS (.cons mJ .nil));intro l9 HY;generalize e9:upd H6 l9 _=H9;have s9:=gL e9 HY;exact q l9 _ _ (s7.trans (s6.trans s9)) ((s7.trans s6).free HY) ⟨Ai e9,.cons (r6.mono s9) .nil⟩
   walk_at "rd";refine iK (fun e=>?_) (fun e=>?_)
   ·have ew:=(wb _).mp (congrArg V.str e);obtain⟨sg,l,r,cp,tl,tr,_⟩:=cond_of (.inl ew) po;simp only[cp] at q;rw[if_pos ew] at q;refine⟨ch,sa,pr,vals,i,hi,sg,l,r,rfl,co.mono s5,dr.ok,qH.mono s5,si.ok.len,cp,tl,tr,fun H7 s7=>?_⟩;cases hc:tL sg (wv pr.aA vals l) (wv pr.aA vals r) with
    |true=>
     simp only[hc,if_true] at q;exact⟨_,rfl,(if_neg (by decide)).mpr (last _ (s5.trans s7) q)⟩
    |false=>
     simp only[hc,zaA,if_false] at q;refine⟨_,rfl,(if_pos (by decide)).mpr fun p6 vB=>?_⟩;generalize e6:upd H7 p6 _=H6;have s6:=gT e6 vB;have r6:Rep K H6 (g7 (.row (aB pr.body)[i].row)) (.ref p6):=A3 e6 vB (.cons rS (.cons mJ .nil));intro p8 Bf;generalize e8:upd H6 p8 _=H8;have s8:=gT e8 Bf;have r8:Rep K H8 (g7 (.bW (aB pr.body)[i].row)) (.ref p8):=A3 e8 Bf (.cons rS (.cons mJ .nil));intro l9 HY;generalize e9:upd H8 l9 _=H9;have s9:=gL e9 HY;have Xh:=s5.trans (s7.trans (s6.trans s8));exact q l9 _ _ (Xh.trans s9) (Xh.free HY) ⟨Ai e9,.cons (r6.mono (s8.trans s9)) (.cons (r8.mono s9) .nil)⟩
   ·have ew:(aB pr.body)[i].wd≠.bW:=fun z=>e (V.str.inj ((wb _).mpr z));have cn:w9 (aB pr.body)[i]=none:=by
     generalize (aB pr.body)[i]=st at ew hl;cases st<;>first |rfl |exact absurd rfl ew |exact absurd (.inl rfl) hl |exact absurd (.inr rfl) hl
    simp only[cn] at q;exact last _ s5 q
theorem JJ(T:Tx K mg t):bD P w K mg base gD 8 t.qD t.qZ ["chart", "figures"] (Hq P w K t.aE):=by
 have En:=Ce (P:=P) (w:=w) (base:=base) T;have Cf:=Gk (P:=P) (w:=w) (base:=base) T;have jv:=xn (P:=P) (w:=w) (base:=base) T;have oV:=sM (P:=P) (w:=w) (base:=base) T;refine T.vz.F.rE Bc (fun vs H Q E h=>?_) (fun eO A outer s H vs Q E hr h=>?_)
 ·obtain⟨_,_,_,_,rfl,_⟩:=h;rfl
 obtain⟨ch,fl,pr,aU,rfl,co,dr,hf,RK,agN,q⟩:=h;have nd:=Bc.nd;have hu:=jB hr;refine⟨_,[some (.ref ch),some (.ref fl),none,none,none,none],(ai (kE 2 nd (GI T.B9 En (hr.mono (by first|decide|omega)) rfl T.Qg T.Ef .nil fj (dG 0 (dG 1 ag))))
 (ai (kE 3 nd (mU (J:=jT)))
 (ai (kE 4 nd (mU (J:=uj)))
 (ar (x5 PassesOwn.never (nV rU)
 (ai (iM PassesOwn.never rfl (dN (nS oV T.i0 hr (dG 0 (ae (cU (pv 2) rfl) ag og)))) (CO 5 nd)
 (ar (qe (J:=jT) (FJ hr) (pv 3) (pv 5) rU rfl)))
 (ai (bY (PW.pt (pw_or (aW Ov (cU (pv 2) rfl) kH (bc _)) (pw_or1 (aW (S0 (J:=uj) (FJ hr)) (cU (pv 2) rfl) (pv 4) rfl))))
 (ar (aQ (pv 3)))
 ba)
 (ai (bY (nV (pJ (pv 2) T.bP T.nL jv (hr.mono (by first|decide|omega)) T.nK .nil fj))
 (ar (kE 4 nd (mU (J:=uj))))
 (ar (qe (J:=uj) (FJ hr) (pv 4) (cU (pv 2) rfl) rU rfl)))
 (ar (eG (pJ (pv 2) T.bP T.B8 Cf (hr.mono (by first|decide|omega)) T.B7 .nil fj))))))))))),rfl,?_⟩
 have line:zdD=2 ^ 24:=rfl;refine aw fun U1 gy=>?_;walk_at "rd";intro wk dx hwk US ne;have s1:aq H (upd (upd H dx (.own wk)) wk (.ins t.bI dx [])):=(aq.new US _).trans (aq.new (by rw[au ne.symm];exact hwk) _);refine⟨wk,dx,ch,fl,pr,aU,rfl,ah,co.mono s1,s1.bM hf,fun H1 u1 w1=>⟨rfl,(gy _ _).mpr (aw fun U2 i4=>?_)⟩⟩;clear gy;have sH1:aq H H1:=((aS.of s1).trans u1).same hwk;clear s1 u1;walk_at "rd";intro mt hmt ymt;refine(i4 _ _).mpr (aw fun U3 ka=>?_);clear i4;have YO:=wm (J:=jT) (P:=P) (w:=w) (K:=K) (H:=H1) ymt;have sA:=aq.new hmt (.ext (eS jT P w mt []));generalize upd H1 mt (.ext (eS jT P w mt []))=H2 at *;walk_at "rd";intro UW UX ysn;refine(ka _ _).mpr ?_;clear ka;have YQ:=wm (J:=uj) (P:=P) (w:=w) (K:=K) (H:=H2) ysn;have sB:=aq.new UX (.ext (eS uj P w UW []));have Xi:mt≠UW:=by obtain⟨φ,e⟩:=YO.km;exact aj e UX
 have YO:=YO.mono sB;have w3:=w1.mono (sA.trans sB);have T7:H mt=none:=sH1.free hmt;have aa6:H UW=none:=(sH1.trans sA).free UX;have sH3:=sH1.trans (sA.trans sB);generalize upd H2 UW (.ext (eS uj P w UW []))=H3 at *;clear sA sB w1;generalize hN:aM pr=N at *;refine FC fun Bd RL=>?_;walk_at "rd";obtain⟨Iv,Qr⟩:∃Iv:Nat->St->Hp->Prop,∀m σ Hx,Iv m σ Hx↔∃(z5:Option V) (n:Nat) (row:Int) (vals:List Int) (e:Option gS) (sn:zdv) (kvs:List (List Key×V)) (seen:List bh) (ms:List Tg),σ=[some (.ref ch),some (.ref fl),some (.ref wk),some (.ref mt),some (.ref sn),z5]/\aq H Hx/\
  CP K t.aE t.bI Hx wk ch fl pr aU n row vals e/\DS jT P w K Hx mt kvs/\DS uj P w K Hx sn (xc seen)/\H sn=none/\mt≠sn/\n<=aU.length/\c8 pr (row,vals)/\seen.Nodup/\(∀x∈seen,c8 pr x)/\(∀kv∈kvs,∃t,kv.1=b7 t)/\(∀g,(bL kvs (b7 g)).isSome=true↔g∈ms)/\
  MI (dy pr.body) (cI pr) (iE pr) ((bg pr.body 0,pr.aA.map (·.first)),aU) ms seen ((row,vals),aU.drop n)/\(e≠none->wt (dy pr.body) (cI pr) ((row,vals),aU.drop n)=none)/\(e=none->row≠0)/\kvs.length+2*m<=8000000/\m=muM N (aU.length-n) seen.length e:=⟨_,fun _ _ _=>Iff.rfl⟩
 refine⟨Iv,⟨_,(Qr _ _ _).mpr ⟨_,0,_,_,_,UW,[],[],[],rfl,sH3,w3,YO,YQ,aa6,Xi,zaK _,c8.first dr,zbs,fun x hx=>(by cases hx),fun x hx=>(by cases hx),fun g=>⟨fun z=>(by cases z),fun z=>(by cases z)⟩,MI.start,fun z=>?_,fun z=>?_,?_,rfl⟩⟩,?_⟩
 ·refine yE ?_;unfold PG.endAt at z;split at z
  ·assumption
  ·exact absurd rfl z
 ·unfold PG.endAt at z;split at z
  ·cases z
  ·assumption
 ·have k1:(aU.length+2)*(N+2)=aU.length*(N+1)+aU.length+2*(N+2):=by rw[Nat.add_mul,Nat.mul_succ aU.length (N+1)]
  cases PG.endAt (bg pr.body 0)<;>simp only[muM,zaQ]<;>lia
 intro m σ Hx hv;obtain⟨z5,n,row,vals,e,sn,kvs,seen,ms,rfl,sx,wo,dm,YQ,UX,Xi,hn,si,ns,sin,ktg,OP,mi,he,w5,hk,rfl⟩:=(Qr _ _ _).mp hv;clear hv;obtain⟨dx,sa,ev,hw,qH,UY⟩:=wo.at_;walk_at "rd";refine⟨fun σ' H'=>∃m',m'<muM N (aU.length-n) seen.length e/\Iv m' σ' H',fun σ' H' h=>h,?_⟩;refine RL _ _ _ (aw fun V1 RM=>?_);clear RL;refine kL fun U hU=>?_;walk_at "rd";refine⟨wk,_,dx,_,.ref sa,rfl,hw,T.bP,T.bA,rfl,ch,sa,pr,(row,vals),rfl,wo.WK,dr,qH,si,fun l4 us4 H4 s4 hl4 UZ=>⟨l4,rfl,⟨us4,.of UZ.1⟩,hU _ _ ?_⟩⟩;clear hU;have lt:=xN pr (row,vals);have vS:us4.length=(iE pr (row,vals)).length:=by rw[UZ.2.length,zad]
 have dm4:=dm.mono s4;obtain⟨φ4,Xj⟩:=dm4.km;have n4:l4≠mt:=cE UZ.1 Xj (by intro z;cases z);obtain⟨Pv,qI⟩:∃Pv:Nat->St->Hp->Prop,∀i σ H5,Pv i σ H5↔∃(z5:Option V) (HZ:List (List Key×V)),σ=[some (.ref ch),some (.ref fl),some (.ref wk),some (.ref mt),some (.ref sn),z5]/\aS mt H4 H5/\DS jT P w K H5 mt HZ/\HZ.length<=kvs.length+i/\(∀kv∈HZ,∃t,kv.1=b7 t)/\(∀g,(bL HZ (b7 g)).isSome=true↔g∈ms\/g∈(iE pr (row,vals)).take i):=⟨_,fun _ _ _=>Iff.rfl⟩
 refine kI (K:=K) (a:=l4) (xs:=us4) Pv ((qI _ _ _).mpr ⟨_,kvs,rfl,.refl _ _,dm4,zag _,ktg,fun g=>by rw[OP];simp⟩) (fun i σ H5 _ hv=>?_) ?_ ?_
 ·obtain⟨_,_,_,u5,_⟩:=(qI _ _ _).mp hv;exact .of (u5 _ _ n4 UZ.1)
 ·intro i y σ H5 hi hv;obtain⟨z5,HZ,rfl,u5,d5,l5,k5,i5⟩:=(qI _ _ _).mp hv;clear hv;have li:i<(iE pr (row,vals)).length:=by have:=(zam.mp hi).1;lia
  obtain⟨y',Xk,ry⟩:=UZ.2.get (i:=i) (d:=g7 (iE pr (row,vals))[i]) (by rw[zao,zae li];rfl);rw[hi] at Xk;cases Xk;obtain⟨a,rfl,oa⟩:=Mi ry;have oa5:=jT.up (fun b ys q=>bQ.lD q Xj u5) oa;simp only[dW,za8];walk_at "rd";refine⟨mt,a,HZ,_,rfl,rfl,d5,oa5,by lia,fun H6 d6 e6=>(qI _ _ _).mpr ⟨_,_,rfl,?_,d6,zaw (dX _ _ _) (by lia),ML k5 _ rfl,fun g=>?_⟩⟩
  ·obtain⟨φ,rfl⟩:=e6;exact u5.put _
  ·rw[uI,zaI li];by_cases eg:b7 g=b7 (iE pr (row,vals))[i]
   ·rw[if_pos eg,mW eg];exact⟨fun _=>.inr (zav _ (zab.mpr rfl)),fun _=>rfl⟩
   ·have ng:g≠(iE pr (row,vals))[i]:=fun z=>eg (by rw[z]);rw[if_neg eg,i5,zak,zab];exact⟨fun h=>h.imp_right .inl,fun h=>h.imp_right fun h=>h.resolve_right ng⟩
 intro σ H5 hv;obtain⟨z5',HZ,rfl,u5,d5,l5,k5,i5⟩:=(qI _ _ _).mp hv;clear hv qI Pv;have l5:HZ.length<=kvs.length+2:=by lia
 rw[vS,zaT] at i5;have i5:∀g,(bL HZ (b7 g)).isSome=true↔g∈ms++iE pr (row,vals):=fun g=>by rw[i5,zak]
 have hm:∀g,g∈ms++iE pr (row,vals)↔g∈ms\/g∈iE pr (row,vals):=fun g=>zak;have s5:aq H H5:=fun z o e=>u5 z o (aj e T7) (s4 _ _ (sx z o e));have UU:=(wo.mono s4).ext Xj u5 (co.mono s5) (s5.bM hf);have ds5:=(YQ.mono s4).other Xj Xi.symm u5;clear u5 UZ hl4 wo dm dm4 Xj YQ qH hw UY sx s4 vS;refine(RM _ _).mpr (aw fun V2 T8=>?_);clear RM;obtain⟨dx,sa,ev,hw,qH,UY⟩:=UU.at_;walk_at "rd";refine⟨wk,_,dx,_,ev,rfl,hw,T.bP,T.gw,rfl,?_⟩;cases e with
 |some e0=>
  obtain⟨ea,rfl,hea⟩:=UY;refine iK (fun z=>by cases z) (fun _=>?_);exact q mt HZ H5 s5 T7 d5 k5 fun g=>(i5 g).trans (mi.fin hm (.inl (he (by simp))) g)
 |none=>
  have UY:ev=.dR:=UY;subst UY;refine iK (fun _=>?_) (fun z=>absurd rfl z);refine⟨wk,_,dx,_,.ref sa,rfl,hw,T.bP,T.bA,rfl,sn,sa,_,_,rfl,rfl,ds5,Hj (s:=(row,vals)) qH,?_⟩;rw[DI];by_cases hs:(row,vals)∈seen
  ·refine(if_pos (decide_eq_true hs)).mpr ?_;exact q mt HZ H5 s5 T7 d5 k5 fun g=>(i5 g).trans (mi.fin hm (.inr hs) g)
  refine(if_neg (by rw[decide_eq_false hs];exact zai)).mpr ((T8 _ _).mpr (aw fun V3 Xl=>?_));clear T8;have h0:=w5 rfl;have gn:=Po (ask:=dy pr.body) (step:=cI pr) (fun r v f=>yH r v f) (row:=row) (vals:=vals) (left:=aU.drop n) h0;have ns1:(seen++[(row,vals)]).Nodup:=za6.mpr ⟨ns,by simp,fun a ha b hb=>by rw[zab.mp hb];exact fun z=>hs (z▸ha)⟩;have Xm:∀x∈seen++[(row,vals)],c8 pr x:=fun x hx=>by
   rcases zak.mp hx with hx |hx
   ·exact sin x hx
   ·rw[zab.mp hx];exact si
  have CM:=g8 ns1 Xm;rw[hN,zaf,zaC] at CM;have rest:∀(Ny:zdv) (vF:List bh) (H6:Hp),aq H H6->CP K t.aE t.bI H6 wk ch fl pr aU n row vals none->DS jT P w K H6 mt HZ->DS uj P w K H6 Ny (xc vF)->H Ny=none->mt≠Ny->vF.Nodup->(∀x∈vF,c8 pr x)->
   (∀s',wt (dy pr.body) (cI pr) ((row,vals),aU.drop n)=some s'\/wt (dy pr.body) (cI pr) ((row,vals),aU.drop n)=none/\s'=((row,vals),aU.drop n)->MI (dy pr.body) (cI pr) (iE pr) ((bg pr.body 0,pr.aA.map (·.first)),aU) (ms++iE pr (row,vals)) vF s')->
   (∀L' e',(dy pr.body row=true->L'<aU.length-n)->(dy pr.body row=false->L'=aU.length-n)->muM N L' vF.length e'<muM N (aU.length-n) seen.length none)->
   V3 [some (.ref ch),some (.ref fl),some (.ref wk),some (.ref mt),some (.ref Ny),z5'] H6:=by
   intro Ny vF H6 s6 wo6 dm6 ds6 hs6 YR nd6 in6 mi6 mu6;refine(Xl _ _).mpr ?_;clear Xl;obtain⟨dx6,sa6,ev6,hw6,Xn,agY⟩:=wo6.at_;walk_at "rd";refine⟨wk,dx6,_,rfl,hw6,rfl,wk,ch,fl,pr,aU,n,row,vals,rfl,dr,wo6,h0,si.ok,hn,RK,fun H8 n' u8 Oh hd wo8 ok8=>?_⟩;have s8:aq H H8:=fun z o e=>u8 z o (aj e hwk) (s6 z o e);have dm8:=dm6.ins hw6 u8;have ds8:=ds6.ins hw6 u8;have done:=fun k σ H9=>(Qr k σ H9).mpr;have hd2:((yB pr row vals (aU.drop n)).2.1).length=aU.length-n':=by rw[<- hd,zbJ]
   have eL:(aU.drop n).length=aU.length-n:=zbJ ..
   change (wt _ _ _=some (((yB pr row vals (aU.drop n)).2.2.1,(yB pr row vals (aU.drop n)).2.2.2.1),(yB pr row vals (aU.drop n)).2.1)/\(yB pr row vals (aU.drop n)).2.2.2.2=PG.endAt (yB pr row vals (aU.drop n)).2.2.1/\(_->(yB pr row vals (aU.drop n)).2.1.length<_)/\(_->(yB pr row vals (aU.drop n)).2.1=_))\/(_/\(((yB pr row vals (aU.drop n)).2.2.1,(yB pr row vals (aU.drop n)).2.2.2.1),(yB pr row vals (aU.drop n)).2.1)=_/\∃e,(yB pr row vals (aU.drop n)).2.2.2.2=some e) at gn
   generalize yB pr row vals (aU.drop n)=g at *;obtain⟨g1,g2,g3,g4,g5⟩:=g;simp only at hd wo8 ok8 gn hd2;subst hd;rcases gn with ⟨nx,rfl,a1,a2⟩ |⟨nx,es,x,rfl⟩
   ·have b1:dy pr.body row=true->aU.length-n'<aU.length-n:=fun z=>by
     have:=a1 z;rw[hd2,eL] at this;exact this
    have b2:dy pr.body row=false->aU.length-n'=aU.length-n:=fun z=>by
     have:=congrArg zba (a2 z);rw[hd2,eL] at this;exact this
    refine⟨muM N (aU.length-n') vF.length (PG.endAt g3),mu6 _ _ b1 b2,done _ _ _ ⟨_,n',g3,g4,PG.endAt g3,Ny,HZ,vF,_,rfl,s8,wo8,dm8,ds8,hs6,YR,Oh,si.nx dr nx,nd6,in6,k5,i5,mi6 _ (.inl nx),fun z=>?_,fun z=>?_,?_,rfl⟩⟩
    ·refine yE ?_;unfold PG.endAt at z;split at z
     ·assumption
     ·exact absurd rfl z
    ·unfold PG.endAt at z;split at z
     ·cases z
     ·assumption
    ·have:=mu6 (aU.length-n') (PG.endAt g3) b1 b2;lia
   ·have es1:(g3,g4)=(row,vals):=congrArg Prod.fst es;cases es1;have YN:aU.drop n'=aU.drop n:=congrArg Prod.snd es;refine⟨0,by simp only[muM];lia,done _ _ _ ⟨_,n',row,vals,some x,Ny,HZ,vF,_,rfl,s8,wo8,dm8,ds8,hs6,YR,Oh,si,nd6,in6,k5,i5,mi6 _ (.inr ⟨nx,es⟩),fun _=>by rw[YN];exact nx,fun z=>(by cases z),?_,rfl⟩⟩;simp only[muM] at hk ⊢;lia
  obtain⟨i,hi,er⟩:=si.ok.row.resolve_left h0;subst er;have ea:dy pr.body (aB pr.body)[i].row=decide ((aB pr.body)[i].wd=.ask):=by unfold dy;rw[oo dr.ok.pw i hi]
  walk_at "rd";refine⟨wk,dx,_,rfl,hw,rfl,wk,ch,fl,pr,aU,n,vals,none,i,hi,rfl,dr.ok,UU,?_⟩;refine⟨_,rfl,iK (fun e=>?_) (fun e=>?_)⟩
  ·rw[<- ea] at e;intro Ny T9 abc;have d6:=wm (J:=uj) (P:=P) (w:=w) (K:=K) (H:=H5) abc;have s6:=aq.new T9 (.ext (eS uj P w Ny []));have YR:mt≠Ny:=by obtain⟨φ,z⟩:=d5.km;exact aj z T9
   exact rest Ny [] _ (s5.trans s6) (UU.mono s6) (d5.mono s6) d6 (s5.free T9) YR zbs (fun x hx=>by cases hx) (fun s' WG=>mi.asked hm WG) fun L' e' h1 _=>Pq (h1 e) e'
  ·rw[<- ea] at e;have e:dy pr.body (aB pr.body)[i].row=false:=by simpa using e
   obtain⟨φ5,es5⟩:=ds5.km;refine⟨wk,_,dx,_,.ref sa,rfl,hw,T.bP,T.bA,rfl,sn,sa,_,_,rfl,rfl,ds5,Hj (s:=((aB pr.body)[i].row,vals)) qH,?_,fun H6 d6 e6=>?_⟩
   ·have:=g8 ns sin;rw[xc,zad];rw[hN] at this;have k1:N+2<=(aU.length+2)*(N+2):=Nat.le_mul_of_pos_left _ (by lia);lia
   ·rw[Jb hs] at d6;obtain⟨φ,rfl⟩:=e6;have u6:aS sn H5 (upd H5 sn (.ext φ)):=(aS.refl _ _).put _;have s6:aq H (upd H5 sn (.ext φ)):=fun z o e=>u6 z o (aj e UX) (s5 z o e);refine rest sn _ _ s6 (UU.ext es5 u6 (co.mono s6) (s6.bM hf)) (d5.other es5 Xi u6) d6 UX Xi ns1 Xm (fun s' WG=>mi.go hm WG h0 e) fun L' e' _ h2=>?_;rw[h2 e,zaf,zaC];exact S2 CM e'
theorem JK(T:Tx K mg t):bD P w K mg base gD 9 t.qF t.rg ["chart", "shortest_by"] (HF P w K t.aE):=by
 have Nz:=JJ (P:=P) (w:=w) (base:=base) T;refine T.vA.F.rE Be (fun vs H Q E h=>?_) (fun eO A outer s H vs Q E hr h=>?_)
 ·obtain⟨_,_,_,_,rfl⟩:=h;rfl
 obtain⟨ch,D,pr,kvs,rfl,co,dr,CM,hB,hfg,dD,sh,q⟩:=h;have nd:=Be.nd;have hu:=jB hr;refine⟨_,[some (.ref ch),some (.ref D),none,none,none,none,none],(ai (kE 2 nd (iA (FR (J:=BX) (fun _ _ _ _ h t=>Tf h t) rfl (Ly hr)) rfl T.tZ PyProof.Rows.Boot.«dict» (ae (dZ (own:=["figures"]) (ix:=[0]) rfl (by rfl) (by rfl) (MH (J:=jT) (PK (J:=jT) (pv 1))) (fun _ _ _ _=>(cH (i:=0) (by show List.Nodup (["figures", "chart"]:List Str);decide +kernel) rfl (zaJ rfl))) (fun _ _ _ _=>dY) (fun _ _ _ _=>(aG (dG 0 (ae (Td (J:=jT) (P:=P) (w:=w) (K:=K) rfl rfl rfl (nS Nz T.vz hr (dG 1 (dG 0 ag)))) ag bJ))))) ag ki)))
 (ai (eE (i:=3) nd rfl (zcK rfl) (mU (J:=jT)))
 (ai (iM PassesOwn.never rfl (MD (J:=BX) (pv 2)) (CO 4 nd)
 (ar (iM PassesOwn.never rfl (ve (J:=jT) (yV (J:=BX) (FJ hr) (pv 2) (pv 4) kh)) (CO 5 nd)
 (ar (qe (J:=jT) (FJ hr) (pv 3) (pv 5) (aX dH (PL (J:=jT) (FJ hr) (pv 3) (pv 5) ao ⟨rfl,rfl,rfl,rfl⟩) ao) rfl)))))
 (ai (kE 6 nd (br ag))
 (ai (iM PassesOwn.never rfl (ve (J:=BX) (pv 2)) (CO 4 nd)
 (ar (bY (nV (cf (Jl rfl) rfl T.Nl PyProof.Rows.Boot.«any» (ae (dZ (own:=["target"]) (ix:=[3]) rfl (by rfl) (by rfl) (ve (J:=jT) (yV (J:=BX) (FJ hr) (pv 2) (pv 4) kh)) (fun _ _ _ _=>(cH (i:=0) (by show List.Nodup (["target", "counts"]:List Str);decide +kernel) rfl (zaJ rfl))) (fun _ _ _ _=>dY) (fun _ _ _ _=>(iO dP (Jt (J:=jT) (P:=P) (w:=w) (K:=K) rfl rfl rfl (FJ hr) (pv 1) (pv 0) kh) ao (bc _)))) ag ki)))
 (ar (eG (pL zaO za4 za5 gC (pv 6) (dG 4 ag))))
 (ar (iM PassesOwn.never rfl (ve (J:=jT) (yV (J:=BX) (FJ hr) (pv 2) (pv 4) kh)) (CO 5 nd)
 (ar (qe (J:=jT) (FJ hr) (pv 3) (pv 5) (aX EX (DF (J:=jT) (FJ hr) (pv 3) (pv 5) kh) ao) rfl)))))))
 (ar (aQ (pv 6)))))))),rfl,?_⟩
 have line:zdD=2 ^ 24:=rfl;refine aw fun U1 gy=>?_;walk_at "rd";simp only[gO,Rp,MG];walk_at "rd";refine⟨D,kvs,rfl,dD,fun p hp=>?_⟩;have sp:=aq.new hp (.ext (kQ p D));have yp:(upd H p (.ext (kQ p D))) p=_:=ah;have dD1:=dD.mono sp;have sh1:=sh.imp (H':=upd H p (.ext (kQ p D))) fun a xs h=>sp.bM h;have co1:=co.mono sp;generalize upd H p (.ext (kQ p D))=H1 at *;refine⟨p,D,kvs,rfl,yp,dD1,fun o ps fz po N hN=>?_⟩;obtain⟨φ1,eD1⟩:=dD1.km;have uD:aS D H1 (upd H1 D (cO D o)):=(aS.refl _ _).put _;have sh2:=sh1.imp (H':=upd H1 D (cO D o)) fun a xs h=>h.lD eD1 uD;have co2:rG K t.aE (upd H1 D (cO D o)) ch pr:=co1.ext eD1 uD;have YS:ps.length=(ou pr (aK pr (bf pr))).length:=(Paired.length po).symm.trans (Paired.length sh1).symm;have YT:aS D H (upd H1 D (cO D o)):=(aS.of sp).trans uD;have yD2:(upd H1 D (cO D o)) D=some (cO D o):=ah;generalize upd H1 D (cO D o)=Hz at *;have shl:=Hr pr (aK pr (bf pr));have fl:=yX dr;refine qf (fun τ=>∃x,τ=[x,some (.ref ch)]) (ps.map (·.2)) (fun i ys H2=>Paired (UJ P w K pr H2) (((ou pr (aK pr (bf pr))).map (·.2)).take i) ys) (fun i H2 s2 h=>⟨s2 _ _ yD2,by simpa using h⟩) (fun H2 s2=>⟨s2 _ _ yD2,by simp⟩) (fun i H2 x H3 s2 h y=>?_) (by rw[zad];lia) hN ⟨none,rfl⟩ .nil ?_ ?_
 ·obtain⟨rfl,b,e⟩:=y;exact⟨rfl,by rw[zao,e];rfl⟩
 ·rintro i x ys τ H2 hx ⟨x0,rfl⟩ s2 yN ly pv R hR
  rw[zao] at hx;obtain⟨⟨b,x'⟩,hb,rfl⟩:=zaM.mp hx;obtain⟨kv,hkv,on,rfl⟩:=c0 po hb;obtain⟨y,hy,_,a,ea,qa⟩:=c0 sh2 hkv;have sy:=hfg _ (za0 hy);simp only[dW,za8,tFz];walk_at "rd";rw[ea];refine⟨ch,a,pr,y.2,rfl,co2.mono s2,dr,s2.bM qa,by lia,?_,fun d kv3 H3 s3 hd dd kk mm=>⟨d,kv3,rfl,dd,fun o3 fz3 p4 HQ=>?_⟩⟩
  ·exact zaw (zbl (show y.2.length+2<=12 by lia) (show aM pr+2<=200002 by lia)) (by decide)
  obtain⟨φd,ed⟩:=dd.km;have xo:aq H2 (upd H3 d (cO d o3)):=fun b ob e=>by rw[au (aj e hd)];exact s3 _ _ e
  have fm:Hu P w K pr (upd H3 d (cO d o3)) y.2 (.ref d):=Hu.of dr ah (fz3.up fun b ys q=>q.ext ed) kk mm;have q4:=xo.bM (s2.bM qa);have yN4:=xo _ _ yN;generalize upd H3 d (cO d o3)=H4 at *;have s5:=aq.new HQ (.tup [V.ref a,V.ref d]);have y5:(upd H4 p4 (.tup [V.ref a,V.ref d])) p4=_:=ah;generalize upd H4 p4 (.tup [V.ref a,V.ref d])=H5 at *;obtain⟨x1,x2⟩:=PV (K:=K) (o:=.lst (ys++[.ref p4])) (s5 _ _ yN4);have Aa:=xo.trans s5;refine hR _ _ _ ⟨_,rfl⟩ Aa ?_;have hy2:((ou pr (aK pr (bf pr))).map (·.2))[i]?=some y.2:=by rw[zao,hy];rfl
  rw[zcG,hy2];exact Paired.snoc (Paired.uo pv fun _ _ z=>(z.Kh (MQ Aa) fun b ys q=>Aa.bM q).Kh x1 x2) ⟨p4,a,.ref d,rfl,x2 _ _ (.of y5),x2 _ _ (s5.bM q4),(fm.mono s5).Kh x1 x2⟩
 intro ys H2 s2 yN ly pv;rw[zad,YS,zbp (by rw[zad];exact zag _)] at pv;obtain⟨pq,rfl,hpq,mt⟩:=PU pv;refine⟨N,pq,rfl,.of yN,hpq,by rw[zad,zad] at ly;lia,fun M H3 hM e3 dM=>(gy _ _).mpr (aw fun U2 i4=>?_)⟩;clear gy;have Uc:=qt.merge _ _ [] [] .nil mt
 change qt (Hu P w K pr H2) (dS pr) _ at Uc
 generalize tQ [] (pq.map fun q=>(q.2.1,q.2.2.2))=Qs at *;have wJ:aq H2 H3:=by obtain⟨φ,rfl⟩:=e3;exact aq.new hM _
 have Xo:H3 M≠none:=by obtain⟨φ,e⟩:=dM.km;rw[e];simp
 clear mt hpq pv e3 ly sh2 sh1 YS shl fl po fz dD1;walk_at "rd";intro C hC yC;have s34:=aq.new hC (.ext (eS jT P w C []));have dC:=wm (J:=jT) (P:=P) (w:=w) (K:=K) (H:=H3) yC;have dM4:=dM.mono s34;have xo:=wJ.trans s34;have YU:H2 C=none:=wJ.free hC;have Xo:M≠C:=fun z=>Xo (by rw[z];exact hC);generalize upd H3 C (.ext (eS jT P w C []))=H4 at *;refine(i4 _ _).mpr (aw fun U3 ka=>?_);clear i4;refine qk fun U hU=>?_;simp only[Rl];walk_at "rd";refine⟨M,Qs,rfl,dM4,fun oM pM fM pM0=>hU _ _ ?_⟩;clear hU;obtain⟨φM,YV⟩:=dM4.km;have uM:aS M H4 (upd H4 M (cO M oM)):=(aS.refl _ _).put _;have fM5:Fz BX P w K (upd H4 M (cO M oM)) M Qs oM:=fM.up fun b ys q=>q.lD YV uM;have pM5:xx BX K (upd H4 M (cO M oM)) Qs pM:=Paired.uo pM0 fun _ _ z=>⟨BX.up (fun b ys q=>q.lD YV uM) z.1,z.2⟩
 have Aa:aq H2 (upd H4 M (cO M oM)):=fun b ob e=>by rw[au (aj e hM)];exact xo _ _ e
 have dC5:=dC.other YV Xo.symm uM;have yM5:(upd H4 M (cO M oM)) M=some (cO M oM):=ah;generalize upd H4 M (cO M oM)=H5 at *;clear dM dM4 YV uM fM pM0 s34 dC xo hC wJ;have lpM:=MT Uc pM5;have nI:=yW pr;have lI:=DP dr;have cM:∀i,i<(dS pr).length->∀t,fc (pC pr) ((dS pr).take (i+1)) t=fc (pC pr) ((dS pr).take i) t+if t∈pC pr ((dS pr)[i]!) then 1 else 0:=fun i hi t=>by
  rw[zaI hi,yS,m6,m4,Int.add_zero,getElem!_pos (dS pr) i hi]
 obtain⟨Pv,qI,nO⟩:=Kj fun (i:Nat) (σ:St) (Hx:Hp) zq=>∀(z4 z5:Option V) (ck:List (List Key×V)),σ=[some (.ref ch),some (.ref D),some (.ref M),some (.ref C),z4,z5,none]->aq H2 Hx->Hx M=some (cO M oM)->(∀a xs,bQ K H5 a xs->bQ K Hx a xs)->DS jT P w K Hx C ck->ck.length<=i*(2*aM pr)->FY ck (fc (pC pr) ((dS pr).take i))->zq;refine xS (d:=M) (o:=oM) (ps:=pM) Pv (qI _ _ _ fun _ zk=>zk _ _ [] rfl Aa yM5 (fun _ _ h=>h) dC5 (zaK _) fun t=>rfl) (fun i σ Hx _ hv=>nO _ _ _ hv _ fun _ _ _ _ _ y _ _ _ _=>y) ?_ ?_
 ·intro i b v σ Hx hi hv;refine nO _ _ _ hv _ fun z4 z5 ck ze sx NA Kk Oc lk ct=>?_;subst ze;clear hv;obtain⟨hj,qb⟩:=Rt Uc pM5 hi;have cMi:=cM i hj;rw[getElem!_pos (dS pr) i hj] at cMi;obtain⟨u,YW,fm⟩:=Uc.val _ (zas hj);obtain⟨Df,oF,Ud,ts,rfl,JL,Ue,Ug,nts,Uh,lts⟩:=fm;have RN:=sx _ _ JL;have Xp:Fz jT P w K Hx Df Ud oF:=Ue.up fun b ys q=>sx.bM q;have MX:Df≠C:=aj JL YU;simp only[dW,za8];refine qk fun U hU=>?_;simp only[yU,BU];walk_at "rd";refine⟨M,b,Qs,fe (dS pr)[i],.ref Df,oM,rfl,rfl,NA,fM5.up Kk,wx.mpr (Kk _ _ qb),YW,Df,oF,Ud,rfl,RN,Xp,fun pF Qt=>hU _ _ ?_⟩;clear hU;have U0:=FZ Ug Qt;have hiW:i*(2*aM pr)+2*aM pr<=4000000:=by
   rw[<- zbT];exact zaw (zcv _ hj) hB
  obtain⟨Pw,Ap,oW⟩:=Kj fun (j:Nat) (σ:St) (Hy:Hp) zq=>∀(z5:Option V) (ck:List (List Key×V)),σ=[some (.ref ch),some (.ref D),some (.ref M),some (.ref C),some (.ref b),z5,none]->aq H2 Hy->Hy M=some (cO M oM)->Hy Df=some (cO Df oF)->(∀a xs,bQ K Hx a xs->bQ K Hy a xs)->DS jT P w K Hy C ck->ck.length<=i*(2*aM pr)+j->FY ck (fun t=>fc (pC pr) ((dS pr).take i) t+if t∈ts.take j then 1 else 0)->zq;refine xS (d:=Df) (o:=oF) (ps:=pF) Pw (Ap _ _ _ fun _ zk=>zk _ ck rfl sx NA RN (fun _ _ h=>h) Oc lk (by simpa using ct)) (fun j σ Hy _ hv=>oW _ _ _ hv _ fun _ _ _ _ _ y _ _ _ _=>y) ?_ ?_
  ·intro j c v σ Hy hj2 hv;refine oW _ _ _ hv _ fun z5 ck ze sy Ui Xq RO Qu lk ct=>?_;subst ze;clear hv;obtain⟨NB,NC⟩:=MS Ug Qt hj2;have NC:=jT.up RO NC;simp only[dW,za8,Rq];walk_at "rd";refine⟨C,rfl,⟨_,Qu⟩,c,ck,b7 ts[j],rfl,Qu,NC,?_⟩;rw[ct.getD];walk_at "rd";refine⟨C,c,ck,b7 ts[j],rfl,rfl,Qu,NC,by lia,fun H7 d7 e7=>?_⟩;obtain⟨φ7,rfl⟩:=e7;obtain⟨φy,eCy⟩:=Qu.km;have u7:aS C Hy (upd Hy C (.ext φ7)):=(aS.refl _ _).put _;have nt:=DQ nts NB;have ge:=yT (M:=pC pr) (l:=(dS pr).take i) (t:=ts[j]);refine Ap _ _ _ fun _ zk=>zk _ _ rfl (fun z ob e=>u7 _ _ (aj e YU) (sy _ _ e)) (u7 _ _ Xo Ui) (u7 _ _ MX Xq) (fun a xs h=>(RO a xs h).lD eCy u7) d7 (zaw (dX _ _ _) (by lia)) (ct.put (t:=ts[j]) ?_ ?_ fun u n=>?_)
   ·rw[if_neg nt,if_pos ((qW NB _).mpr (.inr rfl))];lia
   ·rw[if_neg nt];lia
   ·simp only[qW NB,n,or_false]
  ·intro σ Hy hv;refine oW _ _ _ hv _ fun z5 ck ze sy Ui Xq RO Qu lk ct=>?_;subst ze;refine qI _ _ _ fun _ zk=>zk _ _ ck rfl sy Ui (fun a xs h=>RO _ _ (Kk _ _ h)) Qu (by rw[zbT];lia) fun t=>?_;rw[ct t,U0,zaT,cMi];simp only[Uh]
 intro σ Hx hv;refine nO _ _ _ hv _ fun z4 z5 ck ze sx NA Kk Oc lk ct=>?_;subst ze;clear hv qI nO Pv dC5 Aa;rw[lpM,zaT] at ct;rw[lpM] at lk;have lk:=zaw lk hB;refine(ka _ _).mpr (aw fun U4 sJ=>?_);clear ka;walk_at "rd";intro L hL;have hL2:H2 L=none:=sx.free hL;have nML:M≠L:=aj NA hL;obtain⟨φx,eCx⟩:=Oc.km;have nCL:C≠L:=aj eCx hL;have uH:∀Hy,aq H2 Hy->aS D H Hy:=fun Hy sy=>YT.trans (.of (s2.trans sy));have hL0:H L=none:=by
  cases y:H L with
  |none=>rfl
  |some ob=>
   by_cases z:L=D
   ·rw[z,(s2.trans sx) _ _ yD2] at hL;cases hL
   ·rw[uH _ sx L ob z y] at hL;cases hL
 have s6:=aq.new hL (.lst []);have U8:(upd Hx L (.lst [])) L=some (.lst []):=ah;have sx6:=sx.trans s6;have yM6:=s6 _ _ NA;have tt6:∀a xs,bQ K H5 a xs->bQ K (upd Hx L (.lst [])) a xs:=fun a xs h=>s6.bM (Kk a xs h);have dC6:=Oc.mono s6;generalize upd Hx L (.lst [])=H6 at *;clear Kk sx s6 NA Oc hL eCx;refine(sJ _ _).mpr (aw fun U5 Bg=>?_);clear sJ;refine qk fun U hU=>?_;simp only[yU];walk_at "rd";refine⟨M,oM,Qs,rfl,yM6,fM5.up tt6,fun pN pN6=>hU _ _ ?_⟩;clear hU;have lpN:=MT Uc pN6;obtain⟨Pv,qI,nO⟩:=Kj fun (i:Nat) (σ:St) (Hx:Hp) zq=>∀(z4 z5:Option V) (ck:List (List Key×V)) (us:List V) (qs:List (List Int)) (c:Tg->Int),σ=[some (.ref ch),some (.ref D),some (.ref M),some (.ref C),z4,z5,some (.ref L)]->aq H2 Hx->Hx M=some (cO M oM)->(∀a xs,bQ K H6 a xs->bQ K Hx a xs)->DS jT P w K Hx C ck->ck.length<=4000000->Hx L=some (.lst us)->Jv K Hx qs us->us.length<=i->(∀f∈dS pr,∀t∈pC pr f,bL ck (b7 t)=some (.int (c t)))->fq pr=qs++hJ (pC pr) ((dS pr).drop i) c->zq;refine xS (d:=M) (o:=oM) (ps:=pN) Pv (qI _ _ _ fun _ zk=>zk _ _ ck [] [] _ rfl sx6 yM6 (fun _ _ h=>h) dC6 (by lia) U8 .nil (zag _) (fun f hf t ht=>?_) rfl) (fun i σ Hx _ hv=>nO _ _ _ hv _ fun _ _ _ _ _ _ _ _ y _ _ _ _ _ _ _ _=>y) ?_ ?_
 ·have:=qm.mpr ⟨f,hf,ht⟩;rw[ct t,if_neg (by lia)]
 ·intro i b v σ Hx hi hv;refine nO _ _ _ hv _ fun z4 z5 ck us qs c ze sx NA Kk Oc lk YX tf lu cb ek=>?_;subst ze;clear hv ct dC6 sx6 yM6;obtain⟨hj,qb⟩:=Rt Uc pN6 hi;obtain⟨u,YW,fm⟩:=Uc.val _ (zas hj);obtain⟨Df,oF,Ud,ts,rfl,JL,Ue,Ug,nts,Uh,lts⟩:=fm;have RN:=sx _ _ JL;have Xp:Fz jT P w K Hx Df Ud oF:=Ue.up fun b ys q=>sx.bM q;have MX:Df≠C:=aj JL YU;have nDL:Df≠L:=aj JL hL2;have fMx:Fz BX P w K Hx M Qs oM:=fM5.up fun a xs h=>Kk _ _ (tt6 _ _ h);have onb:BX.on K Hx (fe (dS pr)[i]) b:=wx.mpr (Kk _ _ qb);have cbt:∀t∈ts,bL ck (b7 t)=some (.int (c t)):=fun t ht=>cb _ (zas hj) t ((Uh t).mp ht);rw[zbu hj,hJ] at ek;simp only[dW,za8];refine MU fun Ua Ub hUa hUb=>?_;walk_at "rd";simp only[gO,yU,BU];walk_at "rd";refine⟨M,b,Qs,fe (dS pr)[i],.ref Df,oM,rfl,rfl,NA,fMx,onb,YW,Df,oF,Ud,rfl,RN,Xp,fun pF Qt N hN=>?_⟩;have U0:=FZ Ug Qt;refine qf (fun τ=>∃x,τ=[x,some (.ref C)]) (pF.map fun p=>V.ref p.1) (fun j ys _=>ys=(ts.take j).map fun t=>V.bl (decide (c t=1))) (fun j Hy sy h=>⟨sy _ _ RN,by simpa using h⟩) (fun Hy sy=>⟨sy _ _ RN,by simp⟩) (fun j Hy x H3 sy h y=>?_) (by rw[zad];lia) hN ⟨none,rfl⟩ rfl ?_ ?_
  ·obtain⟨rfl,b1,v1,rfl,e⟩:=y;exact⟨rfl,by rw[zao,e];rfl⟩
  ·rintro j x ys τ Hy hx ⟨x0,rfl⟩ sy yN ly rfl R hR
   rw[zao] at hx;obtain⟨⟨b1,v1⟩,hb1,rfl⟩:=zaM.mp hx;obtain⟨NB,NC⟩:=MS Ug Qt hb1;simp only[dW,za8];walk_at "rd";refine⟨C,b1,ck,b7 ts[j],.int (c ts[j]),rfl,rfl,Oc.mono sy,jT.up (fun _ _ q=>sy.bM q) NC,cbt _ (zas NB),?_⟩;refine⟨rfl,hR _ _ _ ⟨_,rfl⟩ (aq.refl _) ?_⟩;rw[zaI NB,zat,zaq,zaW]
   congr 3
   exact decide_eq_decide.mpr ⟨fun z=>V.int.inj z,fun z=>by rw[z]⟩
  intro ys Hy sy yN ly pv;rw[zad,U0,zaT] at pv;have pv:ys=(ts.map fun t=>decide (c t=1)).map V.bl:=by rw[pv,zbq];rfl
  refine⟨N,_,rfl,.of (pv▸yN),?_⟩;have ea:(ts.map fun t=>decide (c t=1)).any id=(pC pr (dS pr)[i]).any fun t=>decide (c t=1):=by
   rw[zbA,zbz,zbz]
   constructor
   ·rintro ⟨x,hx,e⟩
    obtain⟨t,ht,rfl⟩:=zal.mp hx;exact⟨t,(Uh t).mp ht,e⟩
   ·rintro ⟨t,ht,e⟩
    exact⟨_,zal.mpr ⟨t,(Uh t).mpr ht,rfl⟩,e⟩
  have sxy:=sx.trans sy;have RO:∀a xs,bQ K H6 a xs->bQ K Hy a xs:=fun a xs h=>sy.bM (Kk a xs h);have Ui:=sy _ _ NA;have YY:=sy _ _ YX;have Qu:=Oc.mono sy;have tfy:Jv K Hy qs us:=tf.imp fun a xs h=>sy.bM h;have Xr:BX.on K Hy (fe (dS pr)[i]) b:=wx.mpr (RO _ _ qb);have fMy:Fz BX P w K Hy M Qs oM:=fMx.up fun b ys q=>sy.bM q;have Xq:=sy _ _ RN;have fzy:Fz jT P w K Hy Df Ud oF:=Xp.up fun b ys q=>sy.bM q;clear sx Kk NA YX Oc tf onb fMx RN Xp Qt U0 hN yN pv ly sy;refine iK (fun e=>(hUa _ _).mpr ?_) (fun e=>(hUb _ _).mpr ?_)
  ·clear hUa hUb;rw[ea] at e;rw[if_pos e] at ek;walk_at "rd";refine⟨.inl ⟨rfl,_,.of YY⟩,L,us,.ref b,rfl,rfl,YY,by lia,?_⟩;have uL:aS L Hy (upd Hy L (.lst (us++[.ref b]))):=(aS.refl _ _).put _;have t9:∀a xs,bQ K Hy a xs->bQ K (upd Hy L (.lst (us++[.ref b]))) a xs:=fun a xs h=>h.Ah YY uL;refine qI _ _ _ fun _ zk=>zk _ _ ck _ (qs++[(dS pr)[i]]) c rfl (fun z ob e=>uL _ _ (aj e hL2) (sxy _ _ e)) (uL _ _ nML Ui) (fun a xs h=>t9 _ _ (RO _ _ h)) (Qu.Kh (fun o h=>uL _ _ nCL h) t9) (by lia) ah (Paired.snoc (tfy.imp t9) ⟨b,rfl,t9 _ _ (wx.mp Xr)⟩) (by rw[zaf,zaC];lia) cb (by rw[zaV];exact ek)
  ·clear hUa hUb;rw[ea] at e;rw[if_neg e] at ek;refine qk fun U hU=>?_;simp only[yU,BU];walk_at "rd";refine⟨M,b,Qs,fe (dS pr)[i],.ref Df,oM,rfl,rfl,Ui,fMy,Xr,YW,Df,oF,Ud,rfl,Xq,fzy,fun pF Qt=>hU _ _ ?_⟩;clear hU;have U0:=FZ Ug Qt;obtain⟨Pw,Ap,oW⟩:=Kj fun (j:Nat) (σ:St) (Hw:Hp) zq=>∀(z5:Option V) (ck:List (List Key×V)),σ=[some (.ref ch),some (.ref D),some (.ref M),some (.ref C),some (.ref b),z5,some (.ref L)]->aq H2 Hw->Hw M=some (cO M oM)->Hw Df=some (cO Df oF)->(∀a xs,bQ K Hy a xs->bQ K Hw a xs)->DS jT P w K Hw C ck->ck.length<=4000000->Hw L=some (.lst us)->(∀f∈dS pr,∀t∈pC pr f,bL ck (b7 t)=some (.int (if t∈ts.take j then c t-1 else c t)))->zq;refine xS (d:=Df) (o:=oF) (ps:=pF) Pw (Ap _ _ _ fun _ zk=>zk _ ck rfl sxy Ui Xq (fun _ _ h=>h) Qu (by lia) YY (fun f hf t ht=>by rw[cb f hf t ht,List.take_zero,if_neg zaH])) (fun j σ Hw _ hv=>oW _ _ _ hv _ fun _ _ _ _ _ y _ _ _ _ _=>y) ?_ ?_
   ·intro j a v σ Hw hj2 hv;refine oW _ _ _ hv _ fun z5 ck ze sw yMw yDw Xs Xt lw yLw cw=>?_;subst ze;clear hv;obtain⟨NB,NC⟩:=MS Ug Qt hj2;have NC:=jT.up Xs NC;have nt:=DQ nts NB;have vj:=cw _ (zas hj) _ ((Uh _).mp (zas NB));rw[if_neg nt] at vj;simp only[dW,za8];walk_at "rd";refine⟨C,a,ck,b7 ts[j],.int (c ts[j]),rfl,rfl,Xt,NC,vj,?_⟩;walk_at "rd";refine⟨C,a,ck,b7 ts[j],rfl,rfl,Xt,NC,by lia,fun H7 d7 e7=>?_⟩;obtain⟨φ7,rfl⟩:=e7;obtain⟨φy,eCw⟩:=Xt.km;have u7:aS C Hw (upd Hw C (.ext φ7)):=(aS.refl _ _).put _;refine Ap _ _ _ fun _ zk=>zk _ _ rfl (fun z ob e=>u7 _ _ (aj e YU) (sw _ _ e)) (u7 _ _ Xo yMw) (u7 _ _ MX yDw) (fun a xs h=>(Xs a xs h).lD eCw u7) d7 (by rw[MR vj];exact lw) (u7 _ _ nCL.symm yLw) (fun f hf t ht=>?_);rw[uI];by_cases z:t=ts[j]
    ·rw[if_pos (by rw[z]),z,if_pos ((qW NB _).mpr (.inr rfl))]
    ·rw[if_neg (fun y=>z (mW y)),cw f hf t ht];simp only[qW NB,z,or_false]
   ·intro σ Hw hv;refine oW _ _ _ hv _ fun z5 ck ze sw yMw yDw Xs Xt lw yLw cw=>?_;subst ze;refine qI _ _ _ fun _ zk=>zk _ _ ck us qs _ rfl sw yMw (fun a xs h=>Xs _ _ (RO _ _ h)) Xt lw yLw (tfy.imp Xs) (by lia) (fun f hf t ht=>?_) ek;rw[cw f hf t ht,U0,zaT];simp only[Uh]
 intro σ Hx hv;refine nO _ _ _ hv _ fun z4 z5 ck us qs c ze sx NA Kk Oc lk YX tf lu cb ek=>?_;subst ze;rw[lpN,zcZ,hJ,zaG] at ek;refine(Bg _ _).mpr ?_;walk_at "rd";exact q L us Hx (uH _ sx) hL0 YX (ek▸tf)
theorem JM:∀sm:cD,¬rZ sm.wd=zac "end":=fun sm=>by cases sm<;>(simp only[cD.wd];decide +kernel)
theorem Aq(T:Tx K mg t):bD P w K mg base gD 7 t.iV t.jx ["chart", "standing"] (Hm K t.aE):=by
 have ju:=oU (P:=P) (w:=w) (base:=base) T;have rq:=zH (P:=P) (w:=w) (base:=base) T;refine T.gI.F.rE sC (fun vs H Q E h=>?_) (fun eO A outer s H vs Q E hr h=>?_)
 ·obtain⟨_,_,_,_,rfl,_⟩:=h;rfl
 obtain⟨ch,sa,pr,st,rfl,co,dr,qH,si,q⟩:=h;have nd:=sC.nd;obtain⟨ND,zI,zJ⟩:=T.xB;refine⟨_,[some (.ref ch),some (.ref sa),none,none],(ai (kE 2 nd (nS ju T.jq hr (dG 0 (ae (aO aR (pv 1) ao av) ag bF))))
 (ai (bY (aW dP (pv 2) aN (bc _))
 (ar (aQ (br ag)))
 ba)
 (ai (bY (aW dP (pv 2) aN (bc _))
 (ar (aQ (dZ (own:=["figure"]) (ix:=[0,1]) rfl (by rfl) (by rfl) (kD rfl T.lR (ae (cY rfl zI zJ) ag aH)) (fun _ _ _ _=>(cH (i:=0) (by show List.Nodup (["figure", "chart", "standing"]:List Str);decide +kernel) rfl (zaJ rfl))) (fun _ _ _ _=>dY) (fun _ _ _ _=>(aO (lF (K:=K) rfl) (nS rq T.kG hr (dG 1 (dG 2 (dG 0 ag)))) ao av)))))
 ba)
 (ai (kE 3 nd (aO aR (nS rq T.kG hr (dG 0 (dG 1 (ae kH ag ax)))) ao av))
 (ai (bY (aW Ky (pv 3) kH (bc _))
 (ar (aQ (br ag)))
 ba)
 (ar (aQ (br (dG 3 ag))))))))),rfl,?_⟩
 obtain⟨row,vals⟩:=st;obtain⟨va,CN,Io⟩:=id qH;refine aw fun U1 gy=>?_;walk_at "rd";refine aJ CN (v:=.int row) (aC (j:=0) rfl) ?_;rcases si.ok.row with h0 |⟨i,hi,er⟩
 ·replace h0:row=0:=h0;subst h0;refine⟨ch,pr,0,rfl,co,dr.ok.pw,.inl ⟨rfl,(gy _ _).mpr ?_⟩⟩;refine aw fun U2 i4=>?_;walk_at "rd";exact(if_pos trivial).mpr fun L hL=>q L _ _ (aq.new hL _) hL ah .nil
 replace er:(aB pr.body)[i].row=row:=er;subst er;have hp0:(aB pr.body)[i].row≠0:=by have:=dr.ok.pos _ (zas hi);lia
 obtain⟨hf,ek,ew⟩:=qc pr.body i hi;obtain⟨w0,w1⟩:=jd pr.body 0 _ (zas hf);rw[ew] at w1;obtain⟨po,so⟩:=FA si.ok.len dr.ok.nb si.ok.small (kj pr.body _ dr.own (zas hi));have bp:∀b∈pr.aA,0<b.size:=fun b hb=>by have:=dr.size b hb;lia
 have ea:dy pr.body (aB pr.body)[i].row=decide ((aB pr.body)[i].wd=.ask):=by unfold dy;rw[oo dr.ok.pw i hi]
 have es:∀f,cI pr (aB pr.body)[i].row vals f=mT pr.aA (aB pr.body)[i] (aI pr.body 0)[i].2.2 vals f:=fun f=>by unfold cI;rw[oo dr.ok.pw i hi,BH dr.ok.pw i hi hf]
 unfold aY at q;simp only[if_neg hp0,ea,decide_eq_true_eq] at q;refine⟨ch,pr,_,rfl,co,dr.ok.pw,.inr ⟨hp0,i,hi,rfl,(gy _ _).mpr (aw fun U2 i4=>?_)⟩⟩;clear gy;walk_at "rd";refine(if_neg (JM _)).mpr ((i4 _ _).mpr (aw fun U3 ka=>?_));clear i4;walk_at "rd";refine iK (fun e=>?_) (fun e=>(ka _ _).mpr ?_)
 ·have e:=(Gi _).mp e;simp only[e,if_true] at q;simp only[gO];walk_at "rd";refine⟨10,rfl,by decide,by decide,fun D hD=>?_⟩;refine qf (J:=UB 0 10) (fun τ=>∃x,τ=[x,some (.ref ch),some (.ref sa)]) ((zaB 10).map fun f=>V.int (f:Nat)) (fun j ys H2=>aq H H2/\j5 K H2 ((zaB j).map fun f=>((cI pr (aB pr.body)[i].row vals (f:Nat)).1.getD ((aB pr.body)[i].row,vals))) ys) ?_ ?_ ?_ (by simp) hD ⟨none,rfl⟩ ⟨aq.new hD _,.nil⟩ ?_ ?_
  ·intro j H2 _ hj;show j<10;simpa using hj
  ·intro H2 _;show 10<=_;simp
  ·intro j H2 x H3 _ hj hy;have lj:j<10:=by simpa using hj
   obtain⟨rfl,rfl⟩:=hy;exact⟨rfl,by simp[lj]⟩
  ·rintro j x ys τ H2 hx ⟨x0,rfl⟩ s2 yD ly ⟨_,sy⟩ R hR
   have lj:j<10:=by have:=(zam.mp hx).1;simpa using this
   have hx:x=.int (j:Nat):=by simpa[lj] using hx.symm
   subst hx;walk_at "rd";refine⟨ch,sa,_,pr,vals,(j:Nat),i,hi,hf,rfl,co.mono s2,dr.ok,bp,qH.mono s2,si.ok.len,fun _=>rfl,po,w0,w1,fun q1 sv H3 s3 k1 o1=>?_⟩;rw[<- es] at k1 o1;have hn:=yH (pr:=pr) (aB pr.body)[i].row vals (j:Nat) (by rw[ea];exact decide_eq_true e);refine aJ k1 (v:=sv) (aC (j:=0) rfl) (hR _ _ _ ⟨_,rfl⟩ s3 ⟨?_,?_⟩)
   ·exact(((aS.of (s2.trans s3)).put _).same hD)
   ·rw[zaR,zat];cases ho:(cI pr (aB pr.body)[i].row vals (j:Nat)).1 with
    |none=>exact absurd ho hn
    |some y=>
     rw[ho] at o1;obtain⟨ya,rfl,sty⟩:=o1;have yD3:=s3 _ _ yD;have z:=DK (x:=y) (uW sy fun _ _ _ h=>h.mono s3) sty;simp only[zaq,zaW,ho,zcW];exact uW z fun _ _ _ h=>h.upL yD3 ((aS.refl D H3).put _)
  ·rintro ys H2 s2 yD ly ⟨_,sy⟩
   rw[zad,zaZ] at sy;exact q D ys H2 s2 hD yD sy
 ·have e:(aB pr.body)[i].wd≠.ask:=fun z=>e ((Gi _).mpr z);simp only[if_neg e] at q;walk_at "rd";refine⟨ch,sa,.dR,pr,vals,0,i,hi,hf,rfl,co,dr.ok,bp,qH,si.ok.len,fun z=>absurd z e,po,w0,w1,fun q1 sv H2 s2 k1 o1=>?_⟩;rw[<- es] at k1 o1;refine aJ k1 (v:=sv) (aC (j:=0) rfl) ?_;cases ho:(cI pr (aB pr.body)[i].row vals 0).1 with
  |none=>
   rw[ho] at o1 q;exact(if_pos o1).mpr fun p hp=>q p _ _ (s2.trans (aq.new hp _)) (s2.free hp) ah .nil
  |some x=>
   rw[ho] at o1 q;obtain⟨xa,rfl,xs⟩:=o1;exact(if_neg (by intro z;cases z)).mpr fun p hp=>q p _ _ (s2.trans (aq.new hp _)) (s2.free hp) ah (.cons ⟨xa,rfl,xs.mono (aq.new hp _)⟩ .nil)
theorem abw:uU "standing" "chart" (mX (fJ aF)):=⟨rfl,rfl,rfl,rfl,rfl,fun z h=>by
 have key:∀p∈(mX (fJ aF)).names,(p.2=.cell\/p.2=.free)->p.1 = "chart":=by decide +kernel
 rcases h with h |h
 ·exact key _ (PySem.mem_of_lookup h) (.inl rfl)
 ·exact key _ (PySem.mem_of_lookup h) (.inr rfl),by decide +kernel⟩
theorem Gm(T:Tx K mg t):bD P w K mg base (oZ P w) 9 t.fD t.oN ["place", "led_from", "figures", "found"] (HE P w K t.aE t.ay (fJ aF) "first_inputs.<locals>.<lambda>"):=by
 have Cg:=Aq (P:=P) (w:=w) (base:=base) T;refine T.gK.F.Yh zp (fun vs H Q E h=>?_) (fun eO A outer s H vs Q E hr h=>?_)
 ·obtain⟨_,_,_,_,_,_,_,_,_,_,_,_,rfl⟩:=h;rfl
 obtain⟨sa0,fo,D,ga,cc,ch,mK,pr,s0,f0,g,Ta,rfl,co,dr,abx,si0,lam,hga,UI,fa0,nd0,fi0,hf0,q,qE⟩:=h;have nd:=zp.nd;have hu:=jB hr;obtain⟨Od,Ar,As⟩:=T.zx;have yJ:∀(u:zdw) (cc c':zdv) (pm xf:zdw),bindArgs (zdh "<lambda>" "first_inputs.<locals>.<lambda>" (FL (fJ aF)) (xO (fJ aF)) (mX (fJ aF)) [("chart",cc)] pm (.ref c') xf) ⟨[u],[]⟩=(pure [(("standing":Str),u)]:Sem (List (Str×zdw))):=fun _ _ _ _ _=>rfl;have pK:∀(fo cc c':zdv) (s':zdF) (H':Hp),PE (DJ gD P w K mg base ["standing", "chart"] "first_inputs.<locals>.<lambda>" (mX (fJ aF)) fo (.ref c') [("chart",cc)] (ie (oZ P w) P w K mg base ["place", "led_from", "figures", "found", "led"] "gone_on" (az iI) t.fD eO A outer s H E).A (ie (oZ P w) P w K mg base ["place", "led_from", "figures", "found", "led"] "gone_on" (az iI) t.fD eO A outer s H E).stack s' H' E0) (xO (fJ aF)) (C6 (Hm K t.aE) [] E0 (yg (fN 1) (yg (fN 0) KG))):=by
  intro fo cc c' s' H';exact cB Cg (hr.deeper _) rfl T.gI.m T.gI.F.kp T.gI.b .nil fj (ae (pv 1) (ae (pv 0) ag aH) aH)
 have Su:∀pins σ (H':Hp) (s':zdF) e NY a o,Inv (ie (oZ P w) P w K mg base ["place", "led_from", "figures", "found", "led"] "gone_on" (az iI) t.fD eO A outer s H E) pins σ H' s'->H' a=some (cO a o)->gD (ie (oZ P w) P w K mg base ["place", "led_from", "figures", "found", "led"] "gone_on" (az iI) t.fD eO A outer s H E).stack (wo H' a) s' E0 e NY->(ie (oZ P w) P w K mg base ["place", "led_from", "figures", "found", "led"] "gone_on" (az iI) t.fD eO A outer s H E).xe e NY:=fun _ _ _ _ _ _ _ _ _ _ h=>h.elim;refine⟨_,[some (.ref sa0),some (.ref fo),some (.ref ga),some (.ref D),none],(ai (x5 IG (aW (A4 (J:=uj) (FJ hr)) (pv 0) (pv 3) rfl)
 (ai (bY (aW dP (cf (Jd (J:=uj)) rfl T.xk PyProof.Rows.Boot.«len» (dG 3 ag)) (cY rfl Ar As) (bc _))
 (ar (Lq SA T.wH rfl T.zv rfl (ae aN ag ax)))
 ba)
 (ai (qe (J:=uj) (FJ hr) (pv 3) (pv 0) (pv 2) rfl)
 (ai (kE 4 nd (Mq (CX:=gD) (E:=E0) (x:="standing") (y:="chart") (name:="<lambda>") (qual:="first_inputs.<locals>.<lambda>") (params:=FL (fJ aF)) (body:=xO (fJ aF)) (scope:=mX (fJ aF)) (tb:=C6 (Hm K t.aE) [] E0 (yg (fN 1) (yg (fN 0) KG))) (k:=7) (hr.mono (by first|decide|omega)) abw (pv 1) (dG 0 ag) Su yJ pK))
 (ai (bY (aW QR (cf iQ rfl T.xk PyProof.Rows.Boot.«len» (dG 4 ag)) ao (bc _))
 (ar (aQ (br (ae (aG (dG 2 (dG 4 ag))) ag aV))))
 ba)
 (ar (kE 0 nd (aO da (pv 4) ao av))))))))
 (ar (aQ (br ag)))),rfl,?_⟩
 have line:zdD=2 ^ 24:=rfl;refine aw fun U2 i4=>?_;refine FC fun Bd RL=>?_;walk_at "rd";obtain⟨φ0,eD0⟩:=UI.km;obtain⟨Iv,Qr,Uj⟩:=Kj fun (m:Nat) (σ:St) (Hx:Hp) zq=>∀(sa:zdv) (s':bh) (f:jb) (kvs:List (tM×V)) (z:Option V) (k:Nat),σ=[some (.ref sa),some (.ref fo),some (.ref ga),some (.ref D),z]->aS D H Hx->DS uj P w K Hx D kvs->iT K Hx f kvs->cQ K Hx sa s'.1 s'.2->c8 pr s'->(f.map (·.1)).Nodup->(∀x∈f,c8 pr x.1)->kP (aY pr) (aM pr+1) f0 s0 g=kP (aY pr) (aM pr+1-k) f s' g->k<=f.length->f.length<=2000->m=aM pr-f.length->zq;refine⟨Iv,⟨_,(Qr _ _ _ fun _ zk=>zk sa0 s0 f0 Ta none 0 rfl (.refl _ _) UI fa0 abx si0 nd0 fi0 rfl (zaK _) hf0 rfl)⟩,?_⟩;intro m σ Hx hv;refine Uj _ _ _ hv _ fun sa s' f kvs z k Gn ux ds fa qH si ndf fi eg hk YZ Gp=>?_;subst Gn;subst Gp;clear hv;have aho:f.length<=aM pr:=by
  have:=g8 ndf (fun x hx=>by obtain⟨y,hy,rfl⟩:=zal.mp hx;exact fi y hy)
  rwa [zad] at this
 obtain⟨n,en⟩:∃n,aM pr+1-k=n+1:=⟨aM pr-k,by lia⟩
 rw[en] at eg;walk_at "rd";refine⟨D,sa,kvs,tO s',rfl,rfl,ds,Hj qH,?_⟩;rw[fa.WC s'];by_cases hx:s'∈f.map (·.1)
 ·refine(if_neg (by rw[decide_eq_true hx];decide)).mpr ((i4 _ _).mpr ?_);walk_at "rd";intro L hL;have e2:kP (aY pr) (n+1) f s' g=(f,none):=by rw[kP,if_pos hx]
  rw[eg,e2] at q;obtain⟨φx,U9⟩:=ds.km;have nLD:L≠D:=(aj U9 hL).symm;have hL0:H L=none:=by
   cases y:H L with
   |none=>rfl
   |some o=>rw[ux L o nLD y] at hL;cases hL
  have sL:=aq.new hL (.lst []);exact q YZ L [] kvs _ (ux.trans (.of sL)) hL0 ah (ds.mono sL) (fa.imp fun a xs h=>sL.bM h) rfl
 refine(if_pos (by rw[decide_eq_false hx];decide)).mpr ?_;have nd1:((f++[(s',g)]).map (·.1)).Nodup:=by
  rw[zat];exact za6.mpr ⟨ndf,by simp,fun a ha b hb=>by rw[zaq,zaW,zab] at hb;rw[hb];exact fun y=>hx (by rw[<- show a=s' from y];exact ha)⟩
 have fi1:∀x∈f++[(s',g)],c8 pr x.1:=fun x hy=>by
  rcases zak.mp hy with hy |hy
  ·exact fi x hy
  ·rw[zab.mp hy];exact si
 have ahp:(f++[(s',g)]).length<=aM pr:=by
  have:=g8 nd1 (fun x hx=>by obtain⟨y,hy,rfl⟩:=zal.mp hx;exact fi1 y hy)
  rwa [zad] at this
 have l1:(f++[(s',g)]).length=f.length+1:=by simp
 refine⟨Iv (aM pr-(f++[(s',g)]).length),fun σ' H' h=>⟨_,by lia,h⟩,?_⟩;refine RL _ _ _ (aw fun V1 RM=>?_);clear RL i4;have lk:=fa.len;walk_at "rd";refine⟨D,kvs,rfl,ds,?_⟩;refine iK (fun e=>?_) (fun e=>(RM _ _).mpr (aw fun V2 T8=>?_))
 ·have g9:(f++[(s',g)]).length<=(kP (aY pr) (aM pr+1) f0 s0 g).1.length:=by
   rw[eg,kP,if_neg hx];split
   ·exact yZ _ _ _ _ _
   ·exact zag _
  exact⟨by decide,qE (by lia) Hx ux⟩
 clear RM;obtain⟨φx,U9⟩:=ds.km;walk_at "rd";refine⟨D,sa,kvs,tO s',rfl,rfl,ds,Hj qH,by lia,fun H6 d6 e6=>(T8 _ _).mpr (aw fun V3 Xl=>?_)⟩;clear T8;obtain⟨φ',rfl⟩:=e6;have u6:aS D Hx (upd Hx D (.ext φ')):=(aS.refl _ _).put _;have eD6:(upd Hx D (.ext φ')) D=some (.ext φ'):=ah;have Xu:=ux.trans u6;have Xn:=qH.ext U9 u6;have aby:=(hga.lD eD0 ux).lD U9 u6;have fa6:=(fa.imp fun a xs h=>h.lD U9 u6).put hx aby;have co6:=(co.ext eD0 ux).ext U9 u6;have Xv:=lam.mono (Mw Xu);clear u6;generalize upd Hx D (.ext φ')=H6 at *;walk_at "rd";have g3:H6 cc=some (cO cc mK):=by
  obtain⟨_,_,_,_,_,_,_,_,_,_,_,g3,_⟩:=Xv;exact g3
 refine⟨.ref sa,fo,cc,mK,.ref ch,rfl,rfl,Xv,ch,sa,pr,s',rfl,co6.ext g3 xQ,dr,Xn.ext g3 xQ,si,fun l us H7 s7 hl yl Yq n7=>(Xl _ _).mpr (aw fun V4 hV4=>?_)⟩;clear Xl;have Xw:=Pz g3 s7;have nl:l≠cc:=fun y=>by rw[y,n7] at yl;cases yl
 have yl8:(upd H7 cc (cO cc mK)) l=some (.lst us):=by rw[au nl];exact yl
 have hl6:H6 l=none:=by rw[cZ nl] at hl;exact hl
 have Uk:j5 K (upd H7 cc (cO cc mK)) (aY pr s') us:=Yq.mono (aq.new n7 _);generalize upd H7 cc (cO cc mK)=H8 at *;have vS:=Yq.at.1;walk_at "rd";refine⟨l,us,rfl,.inl (.of yl8),?_⟩;have ug:∀t1,aY pr s'=[t1]->kP (aY pr) (n+1) f s' g=kP (aY pr) n (f++[(s',g)]) t1 g:=fun t1 e=>by
  rw[kP,if_neg hx];split
  ·rename_i t2 e2;rw[e] at e2;cases e2;rfl
  ·rename_i l2 e2;exact absurd e (e2 t1)
 have ug2:(∀t1,aY pr s'≠[t1])->kP (aY pr) (n+1) f s' g=(f++[(s',g)],some (aY pr s')):=fun e=>by
  rw[kP,if_neg hx];split
  ·rename_i t2 e2;exact absurd e2 (e t2)
  ·rfl
 have li:=uV dr si;refine iK (fun e=>?_) (fun e=>fun p hp p1 HP=>?_)
 ·obtain⟨t1,et⟩:∃t1,aY pr s'=[t1]:=zbS.mp (by lia);have ug:=ug t1 et;rw[et] at Uk li;obtain⟨ls8,at8⟩:=Uk.at
  obtain⟨ta,eta,abC⟩:=at8 0 t1 rfl;refine(hV4 _ _).mpr ?_;walk_at "rd";refine eY (.of yl8) (v:=.ref ta) (aC eta) ((Qr _ _ _ fun _ zk=>zk ta t1 (f++[(s',g)]) _ (some (.ref l)) (k+1) rfl (Xu.trans (.of Xw)) (d6.mono Xw) (fa6.imp fun a xs h=>Xw.bM h) abC (li t1 (by simp)) nd1 fi1 ?_ (by lia) (by lia) rfl));rw[eg,ug,show aM pr+1-(k+1)=n by lia]
 ·have ug2:=ug2 fun t1 z=>by rw[z] at vS;exact e (by rw[vS];rfl)
  rw[eg,ug2] at q;have sp:=aq.new hp (.tup [.ref ga,.ref l]);have yp:(upd H8 p (.tup [.ref ga,.ref l])) p=_:=ah;have Ti:=aq.new HP (.lst [.ref p]);have sA:=Xw.trans (sp.trans Ti);have e6:H6 p1=none:=(Xw.trans sp).free HP;have n1:p1≠D:=(aj eD6 e6).symm;have h0:H p1=none:=by
   cases y:H p1 with
   |none=>rfl
   |some o=>rw[Xu p1 o n1 y] at e6;cases e6
  have hl0:H l=none:=by
   cases y:H l with
   |none=>rfl
   |some o=>rw[Xu l o (aj eD6 hl6).symm y] at hl6;cases hl6
  exact q (by show (f++[(s',g)]).length<=2000;lia) p1 _ _ _ (Xu.trans (.of sA)) h0 ah (d6.mono sA) (fa6.imp fun a xs h=>sA.bM h) ⟨p,l,us,rfl,.of (Ti _ _ yp),hl0,Ti _ _ (sp _ _ yl8),Uk.mono (sp.trans Ti)⟩
theorem Au(T:Tx K mg t):bD P w K mg base (oZ P w) 10 t.iX t.jz ["first", "led_from"] (DT P w K t.aE t.ay (fJ aF) "first_inputs.<locals>.<lambda>"):=by
 have Bi:=Gm (P:=P) (w:=w) (base:=base) T;refine T.gJ.F.Yh sF (fun vs H Q E h=>?_) (fun eO A outer s H vs Q E hr h=>?_)
 ·obtain⟨_,_,_,_,_,_,_,rfl⟩:=h;rfl
 obtain⟨sa,fo,cc,ch,mK,pr,s0,rfl,co,dr,qH,si,lam,Ia,q,qE⟩:=h;have nd:=sF.nd;have hu:=jB hr;refine⟨_,[some (.ref sa),some (.ref fo),none,none,none,none,none,none,none],(ai (kE 2 nd (mU (J:=uj)))
 (ai (kE 3 nd (cB Bi (hr.mono (by first|decide|omega)) rfl T.gK.m T.gK.F.kp T.gK.b .nil Di (dG 0 (dG 1 (ae (aG ag) (dG 2 ag) aV)))))
 (ai (x5 IG (C4 (pv 3) (fun _=>rfl))
 (ai (kE 4 nd (br ag))
 (ai (iM IG rfl (dN (pv 3)) (Bq rfl (fO (CO 5 nd) (fO (CO 6 nd) uy)))
 (ar (iM IG rfl (GZ rfl T.lS (dG 6 ag)) (Bq rfl (fO (CO 7 nd) (fO (CO 8 nd) uy)))
 (ar (eG (pL zaO zb9 zca vV (pv 4) (ae (cB Bi (hr.mono (by first|decide|omega)) rfl T.gK.m T.gK.F.kp T.gK.b .nil Di (dG 8 (dG 1 (ae (aX Pf (pv 5) (aG (dG 7 ag))) (dG 2 ag) mx)))) ag bJ)))))))
 (ar (kE 3 nd (pv 4))))))
 (ar (aQ (pv 2)))))),rfl,?_⟩
 have line:zdD=2 ^ 24:=rfl;have li:∀s,c8 pr s->∀x∈aY pr s,c8 pr x:=fun s h=>uV dr h;refine aw fun U1 gy=>?_;walk_at "rd";intro D hD yD;refine(gy _ _).mpr (aw fun U2 i4=>?_);clear gy;have d1:=wm (J:=uj) (P:=P) (w:=w) (K:=K) (H:=H) yD;have s1:=aq.new hD (.ext (eS uj P w D []));generalize upd H D (.ext (eS uj P w D []))=H1 at *;walk_at "rd";intro p hp;generalize e2:upd H1 p _=H2;have s2:=gT e2 hp;have yp:H2 p=some (.tup []):=by rw[<- e2];exact ah
 clear e2;have Va:=s1.trans s2;obtain⟨Xx,gk2,gk3⟩:=qj li (m:=0) (aM pr+1) [] s0 [] .nil si (zag _);refine⟨sa,fo,D,p,cc,ch,mK,pr,s0,[],[],[],rfl,co.mono Va,dr,qH.mono Va,si,lam.mono (xP Va hD),.of yp,d1.mono s2,.nil,zbs,fun x hx=>(by cases hx),zaK _,fun hle L us kvs H3 u3 hL yL d3 fa3 ak3=>(i4 _ _).mpr (aw fun U3 ka=>?_),fun Oe H9 u9=>qE (zaz Oe (wA _ _ _ _ _)) H9 (((aS.of Va).trans u9).same hD)⟩;clear i4;have s03:aq H H3:=((aS.of Va).trans u3).same hD;obtain⟨φ1,eD2⟩:=(d1.mono s2).km;have Nn:bQ K H3 p (([]:List Int).map V.int):=bQ.lD (.of yp) eD2 u3;have as3:=eF.of1 (g:=[]) ak3 Nn;refine FC fun Bd RL=>?_;walk_at "rd";obtain⟨Iv,Qr,Uj⟩:=Kj fun (m:Nat) (σ:St) (Hx:Hp) zq=>∀(z4 z5 z6 z7 z8:Option V) (L:zdv) (us:List V) (as:List (List Int×List bh)) (f:jb) (kvs:List (tM×V)) (lv:Nat),σ=[some (.ref sa),some (.ref fo),some (.ref D),some (.ref L),z4,z5,z6,z7,z8]->aq H Hx->DS uj P w K Hx D kvs->iT K Hx f kvs->yM (c8 pr) f->Hx L=some (.lst us)->eF K Hx as us->uX (c8 pr) lv as->aK pr s0=pB (aY pr) (aM pr+1) (aM pr+2-lv) f as->(as≠[]->lv<f.length)->f.length<=2000->m=aM pr+1-lv->zq;refine⟨Iv,⟨_,(Qr _ _ _ fun _ zk=>zk none none none none none L us _ _ kvs 0 rfl s03 d3 fa3 Xx yL as3 gk2 rfl (fun h=>?_) hle rfl)⟩,?_⟩
 ·have:=zb2.mpr h;rw[zaQ] at gk3;lia
 clear Xx gk2 gk3 as3 Nn eD2 s03 ak3 fa3 d3 yL hL u3 Va yp s2 d1 s1 hp;intro m σ Hx hv;refine Uj _ _ _ hv _ fun z4 z5 z6 z7 z8 L us as f kvs lv Gn sx dx fx ok yL asx RP ef hlv YZ Gp=>?_;subst Gn;subst Gp;clear hv;have vS:as.length=us.length:=Paired.length asx;have CM:f.length<=aM pr:=by
  have:=g8 ok.nd (fun x hx=>by obtain⟨y,hy,rfl⟩:=zal.mp hx;exact ok.BN y hy)
  rwa [zad] at this
 walk_at "rd";cases as with
 |nil=>
  have e0:us=[]:=zc5.mp vS.symm;subst e0;refine⟨false,.inl ⟨_,.of yL,rfl⟩,(if_neg (by decide)).mpr ((ka _ _).mpr ?_)⟩;walk_at "rd";rw[Mx] at ef;rw[ef] at q;exact q YZ D kvs Hx sx hD dx fx
 |cons a0 Y0=>
 have w5:(a0::Y0)≠[]:=by simp
 have hlv:=hlv w5;obtain⟨u0,us0,rfl⟩:∃u0 us0,us=u0::us0:=by cases us with |nil=>cases vS |cons a b=>exact⟨_,_,rfl⟩
 refine⟨true,.inl ⟨_,.of yL,rfl⟩,(if_pos rfl).mpr ?_⟩;have ef:aK pr s0=pB (aY pr) (aM pr+1) (aM pr+2-(lv+1)) (cR (aY pr) (aM pr+1) f (aZ (a0::Y0))).1 (cR (aY pr) (aM pr+1) f (aZ (a0::Y0))).2:=by
  rw[ef,show aM pr+2-lv=(aM pr+2-(lv+1))+1 by lia,pB,if_neg w5]
 generalize a0::Y0=as at *;generalize u0::us0=us at *;refine⟨Iv (aM pr+1-(lv+1)),fun σ' H' h=>⟨_,by lia,h⟩,?_⟩;refine RL _ _ _ (aw fun V1 RM=>?_);clear RL ka;walk_at "rd";intro b hb;refine(RM _ _).mpr (aw fun V2 T8=>?_);clear RM;have sb:=aq.new hb (.lst []);have yb:(upd Hx b (.lst [])) b=some (.lst []):=ah;have yL1:(wo (upd Hx b (.lst [])) b) L=some (.lst us):=by rw[mz];exact xP (aq.refl _) hb _ _ yL
 have as1:eF K (wo (upd Hx b (.lst [])) b) as us:=by rw[mz];exact asx.mono (xP (aq.refl _) hb)
 have hb0:H b=none:=sx.free hb;have dx1:=dx.mono sb;have fx1:=fx.imp fun a xs h=>sb.bM h;have sx1:=sx.trans sb;have nDb:D≠b:=by obtain⟨φ,e⟩:=dx.km;exact aj e hb
 generalize upd Hx b (.lst [])=H1 at *;clear dx fx sx asx yL sb hb;refine kL fun U hU=>?_;walk_at "rd";refine⟨⟨us,.of (qh _ _ yL1)⟩,hU _ _ ?_⟩;clear hU;have gok:∀i,yM (c8 pr) (cR (aY pr) (aM pr+1) f (aZ (as.take i))).1/\uX (c8 pr) (lv+1) (cR (aY pr) (aM pr+1) f (aZ (as.take i))).2/\f.length+(cR (aY pr) (aM pr+1) f (aZ (as.take i))).2.length<=(cR (aY pr) (aM pr+1) f (aZ (as.take i))).1.length:=fun i=>mZ li _ _ ok (ji (m:=lv) ⟨fun a ha=>RP.BN a (zbw ha),fun a ha=>RP.len a (zbw ha)⟩);obtain⟨Pv,qI,nO⟩:=Kj fun (i:Nat) (σ:St) (H5:Hp) zq=>∀(z5 z6 z7 z8:Option V) (zg:List V) (bs:List (List Int×List bh)) (f5:jb) (JN:List (tM×V)),σ=[some (.ref sa),some (.ref fo),some (.ref D),some (.ref L),some (.ref b),z5,z6,z7,z8]->aq H H5->DS uj P w K H5 D JN->iT K H5 f5 JN->(wo H5 b) L=some (.lst us)->eF K (wo H5 b) as us->H5 b=some (.lst zg)->eF K (wo H5 b) bs zg->cR (aY pr) (aM pr+1) f (aZ (as.take i))=(f5,bs)->f5.length<=2000->zq;refine kI (K:=K) (a:=L) (xs:=us) Pv ((qI _ _ _ fun _ zk=>zk _ _ _ _ [] [] f kvs rfl sx1 dx1 fx1 yL1 as1 yb .nil rfl YZ)) (fun i σ H5 _ hv=>?_) ?_ ?_
 ·refine nO _ _ _ hv _ fun _ _ _ _ _ _ _ _ _ _ _ _ Xy _ _ _ _ _=>?_;exact .of (qh _ _ Xy)
 ·intro i y σ H5 hi hv;refine nO _ _ _ hv _ fun z5 z6 z7 z8 zg bs f5 JN Gn s5 d5 Y1 Xy Y2 Y3 Y4 e5 hf5=>?_;subst Gn;clear hv;obtain⟨a,ha,ta,ga,la,NF,rfl,q1,q2,q3,q4⟩:=c0 Y2 hi;have Y5:a∈as:=za0 ha;have hll:a.2.length=NF.length:=Paired.length q4;refine⟨ta,_,rfl,qh.bM q1,rfl,_,_,rfl,_,_,rfl,rfl,?_⟩;simp only[za8];refine Mn fun U hU=>?_;walk_at "rd";refine⟨la,rfl,⟨NF,.of (qh _ _ q3)⟩,hU _ _ ?_⟩;clear hU;obtain⟨Pw,Ap,oW⟩:=Kj fun (j:Nat) (σ:St) (H6:Hp) zq=>∀(z7 z8:Option V) (zg:List V) (bs:List (List Int×List bh)) (f6:jb) (JO:List (tM×V)),σ=[some (.ref sa),some (.ref fo),some (.ref D),some (.ref L),some (.ref b),some (.ref ga),some (.ref la),z7,z8]->aq H H6->DS uj P w K H6 D JO->iT K H6 f6 JO->(wo H6 b) L=some (.lst us)->eF K (wo H6 b) as us->H6 b=some (.lst zg)->eF K (wo H6 b) bs zg->bQ K (wo H6 b) ga (a.1.map V.int)->(wo H6 b) la=some (.lst NF)->j5 K (wo H6 b) a.2 NF->cR (aY pr) (aM pr+1) f (aZ (as.take i)++fK a j)=(f6,bs)->f6.length<=2000->zq;refine Dl (K:=K) (a:=la) (xs:=NF) Pw ((Ap _ _ _ fun _ zk=>zk _ _ zg bs f5 JN rfl s5 d5 Y1 Xy Y2 Y3 Y4 q2 q3 q4 (by rw[show fK a 0=[] from rfl,zaG];exact e5) hf5)) ?_ ?_ ?_
  ·intro j σ H6 _ hv;refine oW _ _ _ hv _ fun _ _ _ _ _ _ _ _ _ _ _ _ _ _ _ yl _ _ _=>?_;exact .of (qh _ _ yl)
  ·intro j x σ H6 pp hx hv Gh;clear q1 q2 q3 q4 e5 Y4 Y3 Y2 Xy Y1 d5 s5;refine oW _ _ _ hv _ fun z7 z8 zg bs f6 JO Gn s6 d6 f6a U8 as6 Y6 Y7 q2 q3 q4 e6 hf6=>?_;subst Gn;clear hv;have lj:j<a.2.length:=by have:=(zam.mp hx).1;lia
   obtain⟨t1,ht1,xa,rfl,CN⟩:=c0 q4 hx;have Xz:=mZ li (n:=aM pr+1) (m:=lv+1) (aZ (as.take i)++fK a j) f ok fun x hx=>by
    rcases zak.mp hx with hx |hx
    ·exact ji (m:=lv) ⟨fun a ha=>RP.BN a (zbw ha),fun a ha=>RP.len a (zbw ha)⟩ x hx
    ·exact FN (m:=lv) (RP.BN a Y5) (RP.len a Y5) (by lia) x hx
   rw[e6] at Xz;obtain⟨Ul,_,ln6⟩:=Xz;have Ul:yM (c8 pr) f6:=Ul;have ln6:f.length+bs.length<=f6.length:=ln6;have ahB:f6.length<=aM pr:=by
    have:=g8 Ul.nd (fun x hx=>by obtain⟨y,hy,rfl⟩:=zal.mp hx;exact Ul.BN y hy)
    rwa [zad] at this
   have s7:=aq.new Gh (.tup [.int j,.ref xa]);have Y8:(upd H6 pp (.tup [.int j,.ref xa])) pp=_:=ah;generalize upd H6 pp (.tup [.int j,.ref xa])=H7 at *;refine⟨pp,_,rfl,.of Y8,rfl,?_⟩;refine⟨_,_,rfl,_,_,rfl,rfl,?_⟩;simp only[za8];walk_at "rd";refine⟨.inl ⟨rfl,_,.of (s7 _ _ Y6)⟩,fun p hp=>?_⟩;have s8:=aq.new hp (.tup [.int j]);have yp:(upd H7 p (.tup [.int j])) p=_:=ah;generalize upd H7 p (.tup [.int j])=H8 at *;have la1:=RP.len a Y5;refine⟨ga,p,_,_,rfl,rfl,(s7.trans s8).bM (qh.bM q2),.of yp,by rw[zad,zaC];lia,fun gp H9 s9 Y9=>?_⟩;have NG:=s7.trans (s8.trans s9);have Za:=s6.trans NG;have Y9:bQ K H9 gp ((a.1++[((j:Nat):Int)]).map V.int):=by rw[zat];exact Y9
   clear s7 s8 s9 yp hp Y8 Gh;have si1:c8 pr t1:=RP.BN a Y5 t1 (za0 ht1);have d9:=d6.mono NG;have f9a:=f6a.imp (H':=H9) fun a xs h=>NG.bM h;have eb9:=NG _ _ Y6;have e7:(cR (aY pr) (aM pr+1) f (aZ (as.take i)++fK a (j+1)))=((kP (aY pr) (aM pr+1) f6 t1 (a.1++[((j:Nat):Int)])).1,bs++qi (a.1++[((j:Nat):Int)]) (kP (aY pr) (aM pr+1) f6 t1 (a.1++[((j:Nat):Int)])).2):=by
    rw[BO,<- zaV,wu,e6];have:a.2.getD j (0,[])=t1:=by rw[zar,ht1];rfl
    simp only[this,Jg]
   have grow:(kP (aY pr) (aM pr+1) f6 t1 (a.1++[((j:Nat):Int)])).1.length<=(aK pr s0).length:=by
    obtain⟨r,er⟩:=F1 ha (j:=j) (by lia);have h1:=tS (aY pr) (aM pr+1) r (cR (aY pr) (aM pr+1) f (aZ (as.take i)++fK a (j+1))).1;rw[ef];refine zaw ?_ (wA _ _ _ _ _);rw[er,wu];refine zaw ?_ h1;rw[e7];exact zag _
   refine⟨xa,fo,D,gp,cc,ch,mK,pr,t1,f6,a.1++[((j:Nat):Int)],JO,rfl,co.mono Za,dr,(CN.mono qh).mono NG,si1,lam.mono (xP Za hD),Y9,d9,f9a,Ul.nd,Ul.BN,hf6,fun hle L9 us9 abN HA uA hL9 yL9 dA fA akA=>?_,fun Oe HA uA=>qE (by lia) HA (((aS.of Za).trans uA).same hD)⟩;obtain⟨φ9,eD9⟩:=d9.km;have Zb:HA b=some (.lst zg):=uA _ _ nDb.symm eb9;have s0A:aq H HA:=((aS.of Za).trans uA).same hD;obtain⟨Xx,gk2,gk3⟩:=qj li (m:=lv+1) (aM pr+1) f6 t1 (a.1++[((j:Nat):Int)]) Ul si1 (by rw[zaf,zaC];lia);have ahG:(kP (aY pr) (aM pr+1) f6 t1 (a.1++[((j:Nat):Int)])).1.length<=aM pr:=by
    have:=g8 Xx.nd (fun x hx=>by obtain⟨y,hy,rfl⟩:=zal.mp hx;exact Xx.BN y hy)
    rwa [zad] at this
   have asA:=eF.of akA (Y9.lD eD9 uA) (by rw[eb9];simp) Zb;have lb:bs.length=zg.length:=Paired.length Y7;have l9:=Paired.length asA;refine⟨b,L9,zg,us9,rfl,rfl,Zb,yL9,by lia,?_⟩;have uB:aS b HA (upd HA b (.lst (zg++us9))):=(aS.refl _ _).put _;have Vb:(wo H9 b) D=some (.ext φ9):=by rw[cZ nDb];exact eD9
   have sw:aq (wo H6 b) (wo H9 b):=BM NG;have uw:aS D (wo H9 b) (wo HA b):=S9 uA;refine(Ap _ _ _ fun _ zk=>zk _ _ (zg++us9) (bs++qi (a.1++[((j:Nat):Int)]) (kP (aY pr) (aM pr+1) f6 t1 (a.1++[((j:Nat):Int)])).2) _ abN rfl (fun z o e=>uB z o (aj e hb0) (s0A z o e)) (dA.Kh (fun o h=>uB _ _ nDb h) (fun c ys h=>h.Ah Zb uB)) (fA.imp (fun a xs h=>h.Ah Zb uB)) ?_ ?_ ah ?_ ?_ ?_ ?_ e7 hle)
   ·rw[mz];exact uw _ _ (cE (sw _ _ U8) Vb (by intro z;cases z)) (sw _ _ U8)
   ·rw[mz];exact(as6.mono sw).ext Vb uw
   ·rw[mz];exact yO ((Y7.mono sw).ext Vb uw) asA
   ·rw[mz];exact(sw.bM q2).lD Vb uw
   ·rw[mz];exact uw _ _ (cE (sw _ _ q3) Vb (by intro z;cases z)) (sw _ _ q3)
   ·rw[mz];exact uW (q4.mono sw) fun a row vals h=>h.ext Vb uw
  ·intro σ H6 hv;refine oW _ _ _ hv _ fun z7 z8 zg bs f6 JO Gp s6 d6 f6a U8 as6 Y6 Y7 q2 q3 q4 e6 hf6=>?_;subst Gp;refine(qI _ _ _ fun _ zk=>zk _ _ _ _ zg bs f6 JO rfl s6 d6 f6a U8 as6 Y6 Y7 ?_ hf6);rw[zcP,ha,Option.toList_some,xg,hll];exact e6
 ·intro σ H5 hv;refine nO _ _ _ hv _ fun z5 z6 z7 z8 zg bs f5 JN Gp s5 d5 Y1 Xy Y2 Y3 Y4 e5 hf5=>?_;subst Gp;refine(T8 _ _).mpr ?_;walk_at "rd";have g5:=gok us.length;rw[<- vS,zaT] at e5 g5;rw[e5] at g5 ef;obtain⟨ok5,ao5,ln5⟩:=g5;have ln5:f.length+bs.length<=f5.length:=ln5;refine(Qr _ _ _ fun _ zk=>zk _ _ _ _ _ b zg bs f5 JN (lv+1) rfl s5 d5 Y1 ok5 Y3 (Y4.mono qh) ao5 ef (fun h=>?_) hf5 rfl);have:=zb2.mpr h;lia
theorem xE(T:Tx K mg t){c Pt:zdv}(B:hZ K mg base c Pt)(hc:qg K t.bS c) :
 bD P w K mg base (oZ P w) 11 t.bS t.ia ["chart"] (DU P w K t.aE t.ay "first_inputs.<locals>.<lambda>" Pt (kO (fJ aF))):=by
 have Ci:=Au (P:=P) (w:=w) (base:=base) T;refine T.eU.F.aaD pb hc (fun vs H Q E h=>?_) (fun A outer s H vs Q E hr h=>?_)
 ·obtain⟨_,_,_,rfl⟩:=h;rfl
 obtain⟨ch,pr,ps,rfl,co,dr,Ia,zX,tok,q,qE⟩:=h;have nd:=pb.nd;refine⟨_,[some (.ref ch)],(ar (aQ (Jz (i:=0) (y:="chart") Ci (hr.mono (by first|decide|omega)) rfl T.gJ.m T.gJ.F.kp T.gJ.b Di (ae (cU (pv 0) rfl) (ae (S7 (y:="chart") B rfl rfl ⟨_,rfl,rfl⟩ rfl) ag rfl) og) rfl rfl rfl))),rfl,?_⟩;walk_at "rd";simp only[HD];walk_at "rd";obtain⟨dx,nl,sd,fa,va,stt,wy,us,ws,h1,h2,h3,h4,h5,h6,h7,h8,h9,N4,Kg,N5⟩:=co.at_;have qH:cQ K H fa (bg pr.body 0) (pr.aA.map (·.first)):=⟨va,.of h5,.of (by rw[zbq];exact h6)⟩
 refine⟨ch,_,dx,_,.ref fa,rfl,h1,T.cX,T.gu,rfl,?_⟩;refine⟨ps,zX,tok,fun fo cc c' pm xf oc vs sk tk H1 ecc Wx _ kp only yfo yc' RX htk Zc Um=>⟨_,rfl,fun cc2 mK uc abO GA abP ruc=>?_⟩⟩;cases ecc.symm.trans abO;have Um:TabOk "first_inputs.<locals>.<lambda>" (kO (fJ aF)) H1 sk:=.inr ⟨c',oc,vs,tk,Um,yc',RX,htk⟩;have u1:aS Pt H H1:=fun b o n e=>kp b o n e;have k1:Kp H H1:=Kp.of u1 zX;have sc:=aq.new GA (cO cc mK);have XA:(upd H1 cc (cO cc mK)) cc=some (cO cc mK):=ah;have JP:=sc _ _ Zc;have abQ:H cc=none:=by
  cases y:H cc with
  |none=>rfl
  |some o=>
   by_cases z:cc=Pt
   ·rw[z,Zc] at GA;cases GA
   ·rw[kp cc o z y] at GA;cases GA
 have lam:Jf "chart" "first_inputs.<locals>.<lambda>" (fJ aF) (upd H1 cc (cO cc mK)) fo cc mK (.ref ch):=⟨c',pm,xf,uc,oc,vs,tk,sc _ _ yfo,sc _ _ yc',RX,htk,XA,abP,ruc⟩
 have up:∀H3,aq (upd H1 cc (cO cc mK)) H3->aS Pt H (wo H3 cc)/\(wo H3 cc) Pt=some (.nT sk)/\TabOk "first_inputs.<locals>.<lambda>" (kO (fJ aF)) (wo H3 cc) sk:=fun H3 s3=>by
  refine⟨fun b o n e=>?_,?_,?_⟩
  ·rw[cZ (aj e abQ)];exact s3 _ _ (sc _ _ (kp b o n e))
  ·rw[cZ (aj Zc GA)];exact s3 _ _ JP
  ·refine Um.kp fun b o e _=>?_;rw[cZ (aj e GA)];exact s3 _ _ (sc _ _ e)
 refine⟨fa,fo,cc,ch,mK,pr,(bg pr.body 0,pr.aA.map (·.first)),rfl,(co.kp k1).mono sc,dr,(qH.kp k1).mono sc,c8.first dr,lam,Ia,fun hle D kvs H3 s3 hD d3 f3=>⟨s3 _ _ XA,?_⟩,fun Oe H3 s3=>⟨s3 _ _ XA,qE Oe _ sk (up H3 s3).1 (up H3 s3).2.1 (up H3 s3).2.2⟩⟩;have nD:D≠cc:=fun z=>by rw[z,XA] at hD;cases hD
 have XB:=s3 _ _ XA;have uw:aS cc H3 (wo H3 cc):=xQ;have hD0:H D=none:=by
  rw[au nD] at hD;cases y:H D with
  |none=>rfl
  |some o=>
   by_cases z:D=Pt
   ·rw[z,Zc] at hD;cases hD
   ·rw[kp D o z y] at hD;cases hD
 exact q hle D kvs (wo H3 cc) sk (up H3 s3).1 hD0 (d3.other XB nD uw) (f3.imp fun a xs h=>h.lD XB uw) (up H3 s3).2.1 (up H3 s3).2.2
theorem uf(T:Tx K mg t){c Pt:zdv}(B:hZ K mg base c Pt)(hc:qg K t.bS c) :
 bD P w K mg base (oZ P w) 12 t.eA t.ff ["chart"] (Ru P w K t.aE t.ay "first_inputs.<locals>.<lambda>" Pt (kO (fJ aF))):=by
 have zK:=xE (P:=P) (w:=w) (base:=base) T B hc;have oV:=sM (P:=P) (w:=w) (base:=base) T;refine T.c5.F.Yh kW (fun vs H Q E h=>?_) (fun eO A outer s H vs Q E hr h=>?_)
 ·obtain⟨_,_,_,rfl⟩:=h;rfl
 obtain⟨ch,pr,tps,rfl,co,dr,Ia,zX,tok,q,qE⟩:=h;have nd:=kW.nd;have hu:=jB hr;refine⟨_,[some (.ref ch),none,none,none,none],(ai (kE 1 nd (mU (J:=jT)))
 (ai (iM IG rfl (Jj (J:=uj) (ME (J:=uj) (cB zK (hr.mono (by first|decide|omega)) rfl T.eU.m T.eU.F.kp T.eU.b .nil Di (dG 0 ag)))) (Bq rfl (fO (CO 2 nd) (fO (CO 3 nd) uy)))
 (ar (iM IG rfl (dN (nS oV T.i0 hr (dG 0 (dG 2 ag)))) (CO 4 nd)
 (ar (eG (Jk (J:=jT) (FJ hr) (pv 1) (dG 4 (dG 3 ag))))))))
 (ar (aQ (pv 1))))),rfl,?_⟩
 have line:zdD=2 ^ 24:=rfl;refine aw fun U1 gy=>?_;walk_at "rd";intro D hD yD;refine(gy _ _).mpr (aw fun U2 i4=>?_);clear gy;have d1:=wm (J:=jT) (P:=P) (w:=w) (K:=K) (H:=H) yD;have s1:=aq.new hD (.ext (eS jT P w D []));generalize upd H D (.ext (eS jT P w D []))=H1 at *;refine qk fun U hU=>?_;simp only[MB,MA];walk_at "rd";have fok:=yQ dr;refine⟨ch,pr,tps,rfl,co.mono s1,dr,Ia,s1 _ _ zX,tok.kp (.same s1),fun hle F fkv H2 NH u2 hF dF fF JP Uo=>⟨F,fkv,rfl,dF,fun p hp=>?_⟩,fun Oe H2 NH u2 JP Uo=>qE Oe H2 NH ((aS.of s1).trans u2) JP Uo⟩;have YT:aS Pt H H2:=(aS.of s1).trans u2;have Zd:D≠Pt:=fun z=>by rw[z,zX] at hD;cases hD
 obtain⟨φ1,e1⟩:=d1.km;have d2:DS jT P w K H2 D []:=d1.Kh (fun o h=>u2 _ _ Zd h) fun b ys h=>h.kp (Kp.of u2 (s1 _ _ zX));have nDF:D≠F:=aj e1 hF;have hp0:H p=none:=by
  cases y:H p with
  |none=>rfl
  |some o=>rw[YT p o (fun z=>by rw[z,JP] at hp;cases hp) y] at hp;cases hp
 have hF0:H F=none:=s1.free hF;have sp:=aq.new hp (.ext (lJ p F));have yp:(upd H2 p (.ext (lJ p F))) p=some (.ext (lJ p F)):=ah;have dF3:=dF.mono sp;have fF3:=fF.imp (H':=upd H2 p (.ext (lJ p F))) fun a xs h=>sp.bM h;have d3:=d2.mono sp;have XC:=YT.trans (.of sp);have Qv:=sp _ _ JP;have JQ:=Uo.kp (.same sp);generalize upd H2 p (.ext (lJ p F))=H3 at *;refine⟨p,F,fkv,rfl,yp,dF3,fun o ps fz po=>hU _ _ ?_⟩;clear hU;obtain⟨φF,XD⟩:=dF3.km;have uF:aS F H3 (upd H3 F (cO F o)):=(aS.refl _ _).put _;have tt4:∀a xs,bQ K H3 a xs->bQ K (upd H3 F (cO F o)) a xs:=fun a xs h=>h.lD XD uF;have u04:aS Pt H (upd H3 F (cO F o)):=fun b ob n e=>uF b ob (aj e hF0) (XC b ob n e);have d4:=d3.other XD nDF uF;have XE:=uF _ _ (fun z=>by rw[z,XD] at Qv;cases Qv) Qv;have nFP:F≠Pt:=fun z=>by rw[z,Qv] at XD;cases XD
 have ahO:=nDF;have XF:=JQ.ds dF3 uF;have yF4:(upd H3 F (cO F o)) F=some (cO F o):=ah;have YS:ps.length=(aK pr (bf pr)).length:=by rw[<- fF3.len];exact(Paired.length po).symm
 have nFD:F≠D:=nDF.symm;have ahQ:(aK pr (bf pr)).length<=aM pr:=by
  have:=g8 fok.nd (fun x hx=>by obtain⟨y,hy,rfl⟩:=zal.mp hx;exact fok.BN y hy)
  rwa [zad] at this
 generalize upd H3 F (cO F o)=H4 at *;obtain⟨Pv,qI,nO⟩:=Kj fun (i:Nat) (σ:St) (H5:Hp) zq=>∀(z2 z3 z4:Option V) (kvs:List (List Key×V)),σ=[some (.ref ch),some (.ref D),z2,z3,z4]->aS Pt H H5->H5 F=some (cO F o)->DS jT P w K H5 D kvs->kvs.length<=2*i->rK K H5 (ou pr ((aK pr (bf pr)).take i)) kvs->(∀a xs,bQ K H3 a xs->bQ K H5 a xs)->H5 Pt=some (.nT NH)->TabOk "first_inputs.<locals>.<lambda>" (kO (fJ aF)) H5 NH->zq;refine PD (d:=F) (o:=o) (ps:=ps) Pv ((qI _ _ _ fun _ zk=>zk _ _ _ [] rfl u04 yF4 d4 (zag _) (show rK K _ [] [] from .nil) tt4 XE XF)) (fun i σ H5 _ hv=>?_) ?_ ?_
 ·refine nO _ _ _ hv _ fun _ _ _ _ _ _ y _ _ _ _ _ _=>?_;exact y
 ·intro i b v σ H5 pp hi hv Gh;clear u04 yF4 d4 tt4 XE XF;refine nO _ _ _ hv _ fun z2 z3 z4 kvs Gn u5 yF5 d5 lk5 m5 XG Up NI=>?_;subst Gn;clear hv;obtain⟨kv,hkv,on,rfl⟩:=c0 po hi;obtain⟨x,hx,ek,a,ea,qa⟩:=c0 fF3 hkv;rw[ek] at on;have stx:=S1 on;have six:c8 pr x.1:=fok.BN x (za0 hx);have il:i<(aK pr (bf pr)).length:=(zam.mp hx).1;obtain⟨va,CN,Io⟩:=stx;have abV:cQ K H5 b x.1.1 x.1.2:=⟨va,XG _ _ CN,XG _ _ Io⟩
  have qa5:=XG _ _ qa;rw[ea];have s6:=aq.new Gh (.tup [.ref b,.ref a]);have Y8:(upd H5 pp (.tup [.ref b,.ref a])) pp=_:=ah;generalize upd H5 pp (.tup [.ref b,.ref a])=H6 at *;refine⟨pp,_,rfl,.of Y8,rfl,_,_,rfl,_,_,rfl,rfl,?_⟩;simp only[za8];have u6:=u5.trans (.of s6);have k6:Kp H H6:=Kp.of u6 zX;refine kL fun U hU=>?_;walk_at "rd";refine⟨ch,b,pr,x.1,rfl,co.kp k6,dr,abV.mono s6,six,fun tl Vc H7 s7 EN Uq=>⟨tl,rfl,⟨Vc,.of Uq.1⟩,hU _ _ ?_⟩⟩;clear hU;have RQ:=s6.trans s7;have lt:=xN pr x.1;have Ze:(iE pr x.1).length=Vc.length:=by rw[Uq.2.length,zad]
  obtain⟨φD,eD5⟩:=d5.km;have ntD:tl≠D:=(aj (s6 _ _ eD5) EN).symm;obtain⟨Pw,Ap,oW⟩:=Kj fun (j:Nat) (σ:St) (H8:Hp) zq=>∀(z4:Option V) (kvs:List (List Key×V)),σ=[some (.ref ch),some (.ref D),some (.ref b),some (.ref a),z4]->aS Pt H H8->H8 F=some (cO F o)->DS jT P w K H8 D kvs->kvs.length<=2*i+j->rK K H8 (((iE pr x.1).take j).foldl (qp x.2) (ou pr ((aK pr (bf pr)).take i))) kvs->(∀a xs,bQ K H7 a xs->bQ K H8 a xs)->H8 Pt=some (.nT NH)->TabOk "first_inputs.<locals>.<lambda>" (kO (fJ aF)) H8 NH->Mm K H8 tl Vc (iE pr x.1)->zq;refine kI (K:=K) (a:=tl) (xs:=Vc) Pw ((Ap _ _ _ fun _ zk=>zk _ kvs rfl (u5.trans (.of RQ)) (RQ _ _ yF5) (d5.mono RQ) (by lia) (m5.imp fun a xs h=>RQ.bM h) (fun a xs h=>h) (RQ _ _ Up) (NI.kp (.same RQ)) Uq)) (fun j σ H8 _ hv=>?_) ?_ ?_
  ·refine oW _ _ _ hv _ fun _ _ _ _ _ _ _ _ _ _ _ tg=>?_;exact .of tg.1
  ·intro j y σ H8 hj hv;refine oW _ _ _ hv _ fun z4 kvs Gn u8 Zf d8 lk8 m8 XH Qw Qx XI=>?_;subst Gn;clear hv;have jl:j<(iE pr x.1).length:=by have:=(zam.mp hj).1;lia
   obtain⟨y',Xk,rt⟩:=XI.2.get (i:=j) (d:=g7 (iE pr x.1)[j]) (by rw[zao,zae jl];rfl);rw[hj] at Xk;cases Xk;obtain⟨ta,rfl,ot⟩:=Mi rt;have qa8:=XH _ _ (RQ.bM qa5);simp only[dW,za8,Rm];walk_at "rd";refine⟨D,rfl,⟨_,d8⟩,ta,kvs,b7 (iE pr x.1)[j],.ref a,rfl,d8,ot,by lia,fun u hu=>?_,fun hn H9 d9 e9=>?_⟩
   ·refine(Ap _ _ _ fun _ zk=>zk _ kvs rfl u8 Zf d8 (by lia) ?_ XH Qw Qx XI);rw[zaI jl,zcO,zbg,List.foldl_nil,m8.same hu];exact m8
   ·obtain⟨φ9,rfl⟩:=e9;obtain⟨φ8,eD8⟩:=d8.km;have u9:aS D H8 (upd H8 D (.ext φ9)):=(aS.refl _ _).put _;have tt9:∀a xs,bQ K H8 a xs->bQ K (upd H8 D (.ext φ9)) a xs:=fun a xs h=>h.lD eD8 u9;refine(Ap _ _ _ fun _ zk=>zk _ _ rfl (fun z ob n e=>u9 z ob (aj e hD) (u8 z ob n e)) (u9 _ _ nFD Zf) d9 (zaw (dX _ _ _) (by lia)) ?_ (fun a xs h=>tt9 _ _ (XH _ _ h)) (u9 _ _ Zd.symm Qw) (Qx.ds d8 u9) ⟨u9 _ _ ntD XI.1,mY eD8 u9 _ _ XI.2⟩);rw[zaI jl,zcO,zbg,List.foldl_nil];exact(m8.imp tt9).add hn (tt9 _ _ qa8)
  ·intro σ H8 hv;refine oW _ _ _ hv _ fun z4 kvs Gp u8 Zf d8 lk8 m8 XH Qw Qx XI=>?_;subst Gp;refine(qI _ _ _ fun _ zk=>zk _ _ _ kvs rfl u8 Zf d8 (by lia) ?_ (fun a xs h=>XH _ _ (RQ.bM (XG _ _ h))) Qw Qx);rw[<- Ze,zaT] at m8;rw[zcP,hx,Option.toList_some,vf];exact m8
 ·intro σ H5 hv;refine nO _ _ _ hv _ fun z2 z3 z4 kvs Gp u5 yF5 d5 lk5 m5 XG Up NI=>?_;subst Gp;rw[YS,zaT] at m5;refine(i4 _ _).mpr ?_;walk_at "rd";exact q hle D kvs H5 NH u5 hD d5 m5 Up NI
theorem wL:∀s:cD,(V.str (rZ s.wd)=V.str (zac "while"))↔s.wd=.lC:=by
 intro s;cases s<;>simp only[cD.wd]<;>decide +kernel
theorem Cj:∀s:cD,(V.str (rZ s.wd)=V.str (zac "if"))↔s.wd=.ifs:=by
 intro s;cases s<;>simp only[cD.wd]<;>decide +kernel
theorem Ib:∀s:cD,(V.str (rZ s.wd)=V.str (zac "stop"))↔s.wd=.stop:=by
 intro s;cases s<;>simp only[cD.wd]<;>decide +kernel
theorem Ic{K:zaa}{H:Hp}{d0 d1 d2 d3 d4 d5:Dp}{xs:List V}{ds:List Dp}(h:aD K H (d0::d1::d2::d3::d4::d5::ds) xs):∃v0 v1 v2 v3 v4 v5 r,xs=v0::v1::v2::v3::v4::v5::r/\Rep K H d5 v5/\aD K H ds r:=by
 rw[aD.aL] at h;obtain⟨v0,t0,rfl,_,h⟩:=h;rw[aD.aL] at h;obtain⟨v1,t1,rfl,_,h⟩:=h;rw[aD.aL] at h;obtain⟨v2,t2,rfl,_,h⟩:=h;rw[aD.aL] at h;obtain⟨v3,t3,rfl,_,h⟩:=h;rw[aD.aL] at h;obtain⟨v4,t4,rfl,_,h⟩:=h;rw[aD.aL] at h;obtain⟨v5,t5,rfl,e5,h⟩:=h;exact⟨v0,v1,v2,v3,v4,v5,t5,rfl,e5,h⟩
theorem oX(T:Tx K mg t):bD P w K mg base gD 1 t.cW t.cT ["body", "behind"] (lG K):=by
 refine T.eX.F.rE vm (fun vs H Q E h=>?_) (fun eO A outer s H vs Q E hr h=>?_)
 ·obtain⟨_,_,_,rfl,_⟩:=h;rfl
 obtain⟨b,body,x,rfl,rb,lb,q⟩:=h;have nd:=vm.nd;refine⟨_,[some (V.ref b),some (V.int x)],(ai (bY (C4 (pv 0) (fun _=>rfl))
 (ar (aQ (aO aR (aO da (pv 0) ao av) ao av)))
 ba)
 (ar (aQ (pv 1)))),rfl,?_⟩
 walk_at "rd";rw[Rep.bN] at rb;obtain⟨_,xs,e,hx,rs⟩:=rb;cases e;have line:zdD=2 ^ 24:=rfl;cases body with
 |nil=>
  rw[zaW,aD.bZ] at rs;subst rs;exact⟨false,.inl ⟨_,hx,rfl⟩,q⟩
 |cons st r=>
  rw[zaq,aD.aL] at rs;obtain⟨v,t,rfl,rv,rs⟩:=rs;obtain⟨a,ys,rfl,hs⟩:=je st rv;refine⟨true,.inl ⟨_,hx,rfl⟩,?_⟩;refine(if_pos rfl).mpr (eY (v:=.ref a) hx (aC (j:=0) rfl) ?_);exact aJ hs (v:=.int st.row) (aC (j:=1) rfl) q
theorem zL(T:Tx K mg t):bD P w K mg base gD 1 t.fC t.fS ["statement", "after"] (yr K):=by
 refine T.jA.F.rE qB (fun vs H Q E h=>?_) (fun eO A outer s H vs Q E hr h=>?_)
 ·obtain⟨_,_,_,rfl,_⟩:=h;rfl
 obtain⟨v,st,x,rfl,rv,q⟩:=h;have nd:=qB.nd;refine⟨_,[some v,some (V.int x)],(ai (bY (aW dP (aO aR (pv 0) ao av) aN (bc _))
 (ar (aQ (aO aR (pv 0) ao av)))
 ba)
 (ar (aQ (pv 1)))),rfl,?_⟩
 obtain⟨a,ys,rfl,hs⟩:=je st rv;walk_at "rd";refine aJ hs (aC (j:=0) rfl) ⟨rfl,iK (fun e=>?_) (fun e=>?_)⟩
 ·have ew:=(wL st).mp e;refine aJ hs (v:=.int st.row) (aC (j:=1) rfl) ?_;cases st<;>first |exact q |cases ew
 ·have ew:st.wd≠.lC:=fun z=>e ((wL st).mpr z);cases st<;>first |exact q |exact absurd rfl ew
theorem vG(T:Tx K mg t):bD P w K mg base gD 1 t.fT t.gH ["statement"] (uQ K):=by
 refine T.jM.F.rE vn (fun vs H Q E h=>?_) (fun eO A outer s H vs Q E hr h=>?_)
 ·obtain⟨_,_,_,rfl,_⟩:=h;rfl
 obtain⟨v,st,H0,rfl,rv,s0,q⟩:=h;have nd:=vn.nd;refine⟨_,[some v],(ai (bY (aW dP (aO aR (pv 0) ao av) aN (bc _))
 (ar (aQ (br (ae (aO aR (pv 0) ao av) (ae (aO aR (pv 0) ao av) ag bF) bF))))
 ba)
 (ai (bY (aW dP (aO aR (pv 0) ao av) aN (bc _))
 (ar (aQ (br (ae (aO aR (pv 0) ao av) ag bF))))
 ba)
 (ar (aQ (br ag))))),rfl,?_⟩
 obtain⟨a,ys,rfl,hs⟩:=je st rv;have hs:=s0.bM hs;walk_at "rd";refine aJ hs (aC (j:=0) rfl) ⟨rfl,iK (fun e=>?_) (fun e=>aJ hs (aC (j:=0) rfl) ⟨rfl,iK (fun e2=>?_) (fun e2=>?_)⟩)⟩
 ·have ew:=(Cj st).mp e;cases st<;>first |(exfalso;cases ew;done) |skip
  rename_i k sg l r x y;rw[fI,Rep.bE] at rv;obtain⟨_,xs,e0,hx,rs⟩:=rv;cases e0;obtain⟨v0,v1,v2,v3,v4,v5,rr,rfl,r5,rs⟩:=Ic rs;rw[aD.aL] at rs;obtain⟨v6,t6,rfl,r6,_⟩:=rs;refine aJ (s0.bM hx) (v:=v5) (aC (j:=5) rfl) (aJ (s0.bM hx) (v:=v6) (aC (j:=6) rfl) fun p hp=>?_);rw[mP] at r5 r6;exact q p _ _ (aq.new hp _) hp ah (.cons r5 (.cons r6 .nil))
 ·have ew:=(wL st).mp e2;cases st<;>first |(exfalso;cases ew;done) |skip
  rename_i k sg l r x;rw[fI,Rep.bE] at rv;obtain⟨_,xs,e0,hx,rs⟩:=rv;cases e0;obtain⟨v0,v1,v2,v3,v4,v5,rr,rfl,r5,rs⟩:=Ic rs;refine aJ (s0.bM hx) (v:=v5) (aC (j:=5) rfl) fun p hp=>?_;rw[mP] at r5;exact q p _ _ (aq.new hp _) hp ah (.cons r5 .nil)
 ·intro p hp;have e1:st.wd≠.ifs:=fun z=>e ((Cj st).mpr z);have e2':st.wd≠.lC:=fun z=>e2 ((wL st).mpr z);refine q p [] _ (aq.new hp _) hp ah ?_;cases st<;>first |exact .nil |exact absurd rfl e1 |exact absurd rfl e2'
theorem Gq(T:Tx K mg t):bD P w K mg base gD 2 t.kF t.kY ["statement", "after"] (Fj K):=by
 have b8:bD P w K mg base gD 1 t.cW t.cT ["body", "behind"] (lG K):=oX T;refine T.rh.F.rE zj (fun vs H Q E h=>?_) (fun eO A outer s H vs Q E hr h=>?_)
 ·obtain⟨_,_,_,rfl,_⟩:=h;rfl
 obtain⟨v,st,x,rfl,rv,hl,q⟩:=h;have nd:=zj.nd;obtain⟨HV,vC,vD⟩:=T.zw;refine⟨_,[some v,some (V.int x),none],(ai (kE 2 nd (aO aR (pv 0) ao av))
 (ai (bY (aW dP (pv 2) aN (bc _))
 (ar (aQ (aG (ae (cY rfl vC vD) ag aH))))
 ba)
 (ai (bY (aW dP (pv 2) aN (bc _))
 (ar (aQ (aG (ae (nS b8 T.eX hr (ae (aO aR (pv 0) ao av) (dG 1 ag) bF)) (ae (nS b8 T.eX hr (ae (aO aR (pv 0) ao av) (dG 1 ag) bF)) ag bJ) bJ))))
 ba)
 (ai (bY (aW dP (pv 2) aN (bc _))
 (ar (aQ (aG (ae (nS b8 T.eX hr (ae (aO aR (pv 0) ao av) (ae (aO aR (pv 0) ao av) ag bF) bF)) (dG 1 ag) bJ))))
 ba)
 (ar (aQ (aG (dG 1 ag)))))))),rfl,?_⟩
 obtain⟨a,ys,rfl,hs⟩:=je st rv;refine aw fun U1 gy=>?_;walk_at "rd";refine aJ hs (aC (j:=0) rfl) ((gy _ _).mpr ?_);walk_at "rd";have NJ:∀b∈aP st,b.length<=100000:=hl;refine iK (fun e=>?_) (fun e=>iK (fun e1=>?_) (fun e1=>iK (fun e2=>?_) (fun e2=>?_)))
 ·have ew:=(Ib st).mp (by rw[e]);cases st<;>first |(exfalso;cases ew;done) |skip
  intro p hp;exact q _ _ (aq.new hp _) (Rep.new hp (.cons (Rep.bO.mpr rfl) .nil))
 ·have ew:=(Cj st).mp (by rw[e1]);cases st<;>first |(exfalso;cases ew;done) |skip
  rename_i k sg l r y z;rw[fI,Rep.bE] at rv;obtain⟨_,xs,e0,hx,rs⟩:=rv;cases e0;obtain⟨v0,v1,v2,v3,v4,v5,rr,rfl,r5,rs⟩:=Ic rs;rw[aD.aL] at rs;obtain⟨v6,t6,rfl,r6,_⟩:=rs;rw[mP] at r5 r6;obtain⟨a5,_,rfl,_⟩:=Rep.bN.mp r5;obtain⟨a6,_,rfl,_⟩:=Rep.bN.mp r6;refine aJ hx (v:=.ref a5) (aC (j:=5) rfl) ⟨a5,y,x,rfl,r5,NJ y (by simp[aP]),aJ hx (v:=.ref a6) (aC (j:=6) rfl) ⟨a6,z,x,rfl,r6,NJ z (by simp[aP]),fun p hp=>?_⟩⟩;exact q _ _ (aq.new hp _) (Rep.new hp (.cons (Rep.bO.mpr rfl) (.cons (Rep.bO.mpr rfl) .nil)))
 ·have ew:=(wL st).mp (by rw[e2]);cases st<;>first |(exfalso;cases ew;done) |skip
  rename_i k sg l r y;rw[fI,Rep.bE] at rv;obtain⟨_,xs,e0,hx,rs⟩:=rv;cases e0;obtain⟨v0,v1,v2,v3,v4,v5,rr,rfl,r5,rs⟩:=Ic rs;rw[mP] at r5;obtain⟨a5,_,rfl,_⟩:=Rep.bN.mp r5;refine aJ hx (v:=.ref a5) (aC (j:=5) rfl) (aJ hs (v:=.int k) (aC (j:=1) rfl) ⟨a5,y,k,rfl,r5,NJ y (by simp[aP]),fun p hp=>?_⟩);exact q _ _ (aq.new hp _) (Rep.new hp (.cons (Rep.bO.mpr rfl) (.cons (Rep.bO.mpr rfl) .nil)))
 ·intro p hp;have n1:st.wd≠.stop:=fun z=>e (V.str.inj ((Ib st).mpr z));have n2:st.wd≠.ifs:=fun z=>e1 (V.str.inj ((Cj st).mpr z));have n3:st.wd≠.lC:=fun z=>e2 (V.str.inj ((wL st).mpr z));have ew:pV st x=[x]:=by
   cases st<;>first |rfl |exact absurd rfl n1 |exact absurd rfl n2 |exact absurd rfl n3
  rw[ew] at q;exact q _ _ (aq.new hp _) (Rep.new hp (.cons (Rep.bO.mpr rfl) .nil))
theorem NK{K:zaa}{Oo:zdv->Prop}{H:Hp}{ds es:List Dp}{vs us:List V}(a:jV K Oo H ds vs)(b:jV K Oo H es us):jV K Oo H (ds++es) (vs++us):=fun H2 u=>(a H2 u).append (b H2 u)
theorem Bj{K:zaa}{H:Hp}:∀(n:Nat) {ds:List cD} {vs:List V},aD K H (ds.map fI) vs->aD K H ((ds.drop n).map fI) (vs.drop n)
 |0,_,_,h=>h
 |n+1,[],vs,h=>by
  rw[zaW,aD.bZ] at h;subst h;exact .nil
 |n+1,d::ds,vs,h=>by
  rw[zaq,aD.aL] at h;obtain⟨v,t,rfl,_,h⟩:=h;exact Bj n h
theorem NL(T:Tx K mg t){n:Nat}(lA:bD P w K mg base gD (n+2) t.dI t.dU ["body", "behind"] (uR K n)) :
 bD P w K mg base gD (n+3) t.dI t.dU ["body", "behind"] (uR K (n+1)):=by
 have b8:bD P w K mg base gD 1 t.cW t.cT ["body", "behind"] (lG K):=oX T;have JR:bD P w K mg base gD 2 t.kF t.kY ["statement", "after"] (Fj K):=Gq T;have qJ:bD P w K mg base gD 1 t.fT t.gH ["statement"] (uQ K):=vG T;have Av:bD P w K mg base gD 1 t.fC t.fS ["statement", "after"] (yr K):=zL T;refine T.fZ.F.rE o9 (fun vs H Q E h=>?_) (fun eO A outer s H vs Q E hr h=>?_)
 ·obtain⟨_,_,_,rfl,_⟩:=h;rfl
 obtain⟨b,body,x,rfl,rb,hd,hf,q⟩:=h;have nd:=o9.nd;refine⟨_,[some (V.ref b),some (V.int x),none,none,none,none,none],(ai (kE 2 nd (br ag))
 (ai (iM PassesOwn.never rfl (GZ rfl T.lS (dG 0 ag)) (Bq rfl (fO (CO 3 nd) (fO (CO 4 nd) uy)))
 (ai (kE 5 nd (nS b8 T.eX hr (ae (uG xK (pv 0) (xI (aX dH (pv 3) ao)) xH) (dG 1 ag) bF)))
 (ai (eG (pL zaO za4 za5 gC (pv 2) (ae (aG (ae (aO aR (pv 4) ao av) (ae (aO aR (pv 4) ao av) (ae (nS JR T.rh hr (dG 4 (dG 5 ag))) ag bJ) bF) bF)) ag aV)))
 (ar (iM PassesOwn.never rfl (dN (nS qJ T.jM hr (dG 4 ag))) (CO 6 nd)
 (ar (eG (pL zaO zb9 zca vV (pv 2) (ae (nS lA T.fZ hr (dG 6 (ae (nS Av T.jA hr (dG 4 (dG 5 ag))) ag bJ))) ag bJ)))))))))
 (ar (aQ (pv 2))))),rfl,?_⟩
 have line:zdD=2 ^ 24:=rfl;rw[Rep.bN] at rb;obtain⟨_,xs,e,hx,rs⟩:=rb;cases e;have lx:xs.length=body.length:=by rw[rs.length,zad]
 have lb:=mQ body;refine aw fun U1 gy=>?_;walk_at "rd";intro tl EN;have s1:=aq.new EN (.lst []);have y1:(upd H tl (.lst [])) tl=some (.lst []):=ah;generalize upd H tl (.lst [])=H1 at *;refine(gy _ _).mpr (aw fun U2 i4=>?_);clear gy;walk_at "rd";obtain⟨Pv,qI⟩:∃Pv:Nat->St->Hp->Prop,∀i σ H2,Pv i σ H2↔∃(z3 z4 z5 z6:Option V) (pre:List eJ) (us:List V),σ=[some (V.ref b),some (V.int x),some (V.ref tl),z3,z4,z5,z6]/\aq H H2/\H2 tl=some (.lst us)/\jV K (·=tl) H2 (pre.map fR) us/\us.length=pre.length/\pre++aI (body.drop i) x=aI body x:=⟨_,fun _ _ _=>Iff.rfl⟩
 refine⟨_,rfl,⟨xs,s1.seq hx⟩,Dl (K:=K) (a:=b) (xs:=xs) Pv ((qI _ _ _).mpr ⟨none,none,none,none,[],[],rfl,s1,y1,.nil,rfl,rfl⟩) (fun i σ H2 _ hv=>?_) ?_ ?_⟩
 ·obtain⟨_,_,_,_,_,_,_,s2,_⟩:=(qI _ _ _).mp hv;exact s2.seq hx
 ·intro i y σ H2 tp hi hv UD;obtain⟨z3,z4,z5,z6,pre,us,rfl,s2,y2,f2,lu,ep⟩:=(qI _ _ _).mp hv;clear hv;have done:=fun σ H7=>(qI (i+1) σ H7).mpr;have li:i<body.length:=by have:=(zam.mp hi).1;lia
  obtain⟨v,hv,rv⟩:=rs.get (i:=i) (d:=fI body[i]) (by rw[zao,zae li];rfl);rw[hi] at hv;cases hv;have ed:body.drop i=body[i]::body.drop (i+1):=zbu li;rw[ed,aI,LH] at ep;have mem:body[i]∈body:=zas li;obtain⟨fm,dm⟩:=v9 body _ mem;generalize Ii:body[i]=st at *;have s3:=s2.trans (aq.new UD (.tup [V.int i,y]));have n3:tl≠tp:=aj y2 UD;have y3:=aq.new UD (.tup [V.int i,y]) _ _ y2;have f3:=f2.up (.of (aq.new UD (.tup [V.int i,y])));have t3:(upd H2 tp (.tup [V.int i,y])) tp=some (.tup [V.int i,y]):=ah;generalize upd H2 tp (.tup [V.int i,y])=H3 at *;obtain⟨sa,ys,rfl,hs⟩:=je st rv;refine⟨tp,_,rfl,.of t3,rfl,_,_,rfl,_,_,rfl,rfl,?_⟩;refine aw fun U3 ka=>?_;walk_at "rd";refine⟨_,rfl,b,_,rfl,s3.seq hx,fun p4 HQ=>?_⟩;have ec:Ae xs (some ((i:Int)+1)) none=xs.drop (i+1):=by
   unfold Ae;rw[HT.yh,show (i:Int)+1=((i+1:Nat):Int) by lia,HT.Bw];rw[show min (i+1) xs.length=i+1 by lia];exact zbp (by rw[zbJ];lia)
  rw[ec];have s4:=s3.trans (aq.new HQ (.lst (xs.drop (i+1))));have y4:=aq.new HQ (.lst (xs.drop (i+1))) _ _ y3;have f4:=f3.up (.of (aq.new HQ (.lst (xs.drop (i+1)))));have l4:(upd H3 p4 (.lst (xs.drop (i+1)))) p4=some (.lst (xs.drop (i+1))):=ah;generalize upd H3 p4 (.lst (xs.drop (i+1)))=H4 at *;have rd4:Rep K H4 (.lst ((body.drop (i+1)).map fI)) (.ref p4):=Rep.bN.mpr ⟨p4,_,rfl,.of l4,Bj (i+1) (rs.mono s4)⟩;refine⟨p4,body.drop (i+1),x,rfl,rd4,by rw[zbJ];lia,(ka _ _).mpr (aw fun U4 sJ=>?_)⟩;clear ka;generalize bg (body.drop (i+1)) x=af at *;have hs4:=(show bQ K H4 sa _ from s4.bM hs)
  walk_at "rd";refine⟨.inl ⟨rfl,_,.of y4⟩,aJ hs4 (v:=.int st.row) (aC (j:=1) rfl) (aJ hs4 (v:=.str (rZ st.wd)) (aC (j:=0) rfl) ?_)⟩;have sh:LI st:=fun bb hbb=>by
   have:=(om st bb hbb).1;have:=mQ bb;lia
  refine⟨.ref sa,st,af,rfl,rv.mono s4,sh,fun u H5 s5 ru p6 vB=>?_⟩;have y5:=s5 _ _ y4;have f5:=f4.up (.of s5);have fu:Fix K (·=tl) H5 (.tup ((pV st af).map .int)) u:=SI y5 (by rw[IS];exact vZ _) ru;have n6:p6≠tl:=(aj y5 vB).symm;have s6:=aq.new vB (.tup [V.int st.row,V.str (rZ st.wd),u]);have ft:Fix K (·=tl) (upd H5 p6 (.tup [V.int st.row,V.str (rZ st.wd),u])) (fR (st.row,st.wd,pV st af)) (.ref p6):=Fix.tup ah n6 (.cons .int (.cons .str (.cons (fu.up (.of s6)) .nil)));have f6:=f5.up (.of s6);have y6:=s6 _ _ y5;have s46:=(s4.trans s5).trans s6;generalize upd H5 p6 (.tup [V.int st.row,V.str (rZ st.wd),u])=H6 at *;have ahZ:pre.length<=1000:=by
   have h1:=congrArg zba ep;have h2:=congrArg zba (dw body x);simp only[zaf,zad,zap] at h1 h2;lia
  refine⟨tl,us,_,rfl,rfl,y6,by lia,?_⟩;have s7:aq H (upd H6 tl (.lst (us++[V.ref p6]))):=fun z o e=>by rw[au (aj e EN)];exact s46 z o e
  have f7:=(f6.snoc ft).up (bB.refl.put (O:=(·=tl)) rfl (.lst (us++[V.ref p6])));have y7:(upd H6 tl (.lst (us++[V.ref p6]))) tl=some (.lst (us++[V.ref p6])):=ah;generalize upd H6 tl (.lst (us++[V.ref p6]))=H7 at *;refine(sJ _ _).mpr ?_;clear sJ;refine kL fun U hU=>?_;walk_at "rd";refine⟨.ref sa,st,H,rfl,rv,s7,fun l8 bv H8 s8 hl8 y8 r8=>⟨l8,rfl,⟨bv,.of y8⟩,hU _ _ ?_⟩⟩;have lbv:bv.length=(aP st).length:=by rw[r8.length,zad]
  have l8t:l8≠tl:=fun z=>by rw[z,y7] at hl8;cases hl8
  obtain⟨Pw,Ap⟩:∃Pw:Nat->St->Hp->Prop,∀j σ H9,Pw j σ H9↔∃(z6:Option V) (us:List V) (Eo:List eJ),σ=[some (V.ref b),some (V.int x),some (V.ref tl),some (V.int i),some (V.ref sa),some (V.int af),z6]/\aq H H9/\(∀z o,z≠tl->H8 z=some o->H9 z=some o)/\H9 tl=some (.lst us)/\jV K (·=tl) H9 (Eo.map fR) us/\us.length=Eo.length/\
   Eo++((aP st).drop j).flatMap (fun bb=>aI bb (iR st af))=pre++(st.row,st.wd,pV st af)::(aP st).flatMap (fun bb=>aI bb (iR st af)):=⟨_,fun _ _ _=>Iff.rfl⟩
  refine kI (K:=K) (a:=l8) (xs:=bv) Pw ((Ap _ _ _).mpr ⟨z6,_,pre++[(st.row,st.wd,pV st af)],rfl,s7.trans s8,fun z o _ e=>e,s8 _ _ y7,by rw[zat];exact f7.up (.of s8),by simp[lu],by simp⟩) (fun j σ H9 _ hv=>?_) ?_ ?_
  ·obtain⟨_,_,_,_,_,k9,_⟩:=(Ap _ _ _).mp hv;exact .of (k9 _ _ l8t y8)
  ·intro j y σ H9 hj hv;obtain⟨z6',EO,Eo,rfl,s9,k9,y9,f9,lu9,e9⟩:=(Ap _ _ _).mp hv;clear hv;have lj:j<(aP st).length:=by have:=(zam.mp hj).1;lia
   obtain⟨v,hv,rb⟩:=r8.get (i:=j) (d:=.lst ((aP st)[j].map fI)) (by rw[zao,zae lj];rfl);rw[hj] at hv;cases hv;have mj:(aP st)[j]∈aP st:=zas lj;obtain⟨fb,db⟩:=om st _ mj;have ej:(aP st).drop j=(aP st)[j]::(aP st).drop (j+1):=zbu lj;rw[ej,zbE] at e9;generalize (aP st)[j]=bb at *;obtain⟨ab,_,rfl,_⟩:=Rep.bN.mp rb;walk_at "rd";refine⟨.inl ⟨rfl,_,.of y9⟩,.ref sa,st,af,rfl,rv.mono s9,?_⟩;refine⟨ab,bb,_,rfl,rb.mono s9,by lia,by lia,fun N7 Qy N8 lE aaT Qk RI=>?_⟩;have XJ:=lE _ _ y9;have f10:=f9.up (.of lE);have g10:jV K (·=tl) N8 ((aI bb (iR st af)).map fR) Qy:=Ha XJ (v7 _) RI;have N7:Qy.length=(aI bb (iR st af)).length:=by rw[RI.length,zad]
   have tot:Eo.length+(aI bb (iR st af)).length<=2000:=by
    have h1:=congrArg zba e9;have h2:=congrArg zba ep;have h3:=congrArg zba (dw body x);simp only[zaf,zad,zap] at h1 h2 h3;lia
   refine⟨tl,_,EO,Qy,rfl,rfl,XJ,Qk,by lia,?_⟩;refine(Ap _ _ _).mpr ⟨_,EO++Qy,Eo++aI bb (iR st af),rfl,fun z o e=>?_,fun z o nz e=>?_,ah,?_,by simp[lu9,N7],by rw[<- e9];simp⟩
   ·rw[au (aj e EN)];exact lE _ _ (s9 _ _ e)
   ·rw[au nz];exact lE _ _ (k9 z o nz e)
   ·rw[zat];exact(NK f10 g10).up (bB.refl.put (O:=(·=tl)) rfl _)
  ·intro σ H9 hv;obtain⟨z6',EO,Eo,rfl,s9,k9,y9,f9,lu9,e9⟩:=(Ap _ _ _).mp hv;rw[lbv,zcZ,zcp,zaG] at e9;refine done _ _ ⟨_,_,_,_,Eo,EO,rfl,s9,y9,f9,lu9,?_⟩;rw[e9,<- ep];simp
 ·intro σ H2 hv;obtain⟨z3,z4,z5,z6,pre,us,rfl,s2,y2,f2,lu,ep⟩:=(qI _ _ _).mp hv;rw[lx,zcZ,aI,zaG] at ep;refine(i4 _ _).mpr ?_;walk_at "rd";rw[ep] at f2;exact q tl us H2 s2 EN y2 f2.Wb
theorem Bk(T:Tx K mg t):∀n,bD P w K mg base gD (n+2) t.dI t.dU ["body", "behind"] (uR K n)
 |0=>by
  have no:∀vs H Q E,¬uR K 0 vs H Q E:=fun vs H Q E h=>by cases h;lia
  exact⟨fun vs H Q E h=>absurd h (no vs H Q E),fun A outer s H args us vs Q E _ _ _ _ h=>absurd h (no vs H Q E)⟩
 |n+1=>NL T (Bk T n)
theorem Ie(T:Tx K mg t):bD P w K mg base gD 7 t.oG t.lN ["program"] (yt K):=by
 have lA:=Bk (P:=P) (w:=w) (base:=base) T 4;refine T.zr.F.rE HL (fun vs H Q E h=>?_) (fun eO A outer s H vs Q E hr h=>?_)
 ·obtain⟨_,_,rfl,_⟩:=h;rfl
 obtain⟨v,pr,rfl,rp,hd,hf,q⟩:=h;have nd:=HL.nd;obtain⟨HV,vC,vD⟩:=T.zw;refine⟨_,[some v],(ar (aQ (nS lA T.fZ hr (ae (aO aR (pv 0) ao av) (ae (cY rfl vC vD) ag aH) bF)))),rfl,?_⟩;unfold my at rp;rw[Rep.bE] at rp;obtain⟨a,xs,rfl,hx,rs⟩:=rp;rw[aD.aL] at rs;obtain⟨v1,t1,rfl,r1,rs⟩:=rs;rw[aD.aL] at rs;obtain⟨v2,t2,rfl,r2,rs⟩:=rs;obtain⟨b,_,rfl,_⟩:=Rep.bN.mp r2;walk_at "rd";refine aJ hx (v:=.ref b) (aC (j:=1) rfl) ?_;exact⟨b,pr.body,0,rfl,r2,by lia,hf,fun l us H' s' hl y r=>q l us H' s' hl y r⟩
theorem Gr(T:Tx K mg t):bD P w K mg base gD 8 t.nJ t.oK ["program"] (IU K):=by
 have mG:=Ie (P:=P) (w:=w) (base:=base) T;refine T.rm.F.rE zo (fun vs H Q E h=>?_) (fun eO A outer s H vs Q E hr h=>?_)
 ·obtain⟨_,_,rfl,_⟩:=h;rfl
 obtain⟨v,pr,rfl,rp,hd,hf,q⟩:=h;have nd:=zo.nd;refine⟨_,[some v,none,none,none],(ai (kE 1 nd (br ag))
 (ai (iM PassesOwn.never rfl (dN (nS mG T.zr hr (dG 0 ag))) (CO 2 nd)
 (ai (kE 3 nd (aO aR (pv 2) ao av))
 (ai (eG (pL zaO za4 za5 gC (pv 1) (ae (aG (ae aN (dG 3 ag) ax)) ag aV)))
 (ar (bY (aW vU (aO aR (pv 2) ao av) (aG (bC (vs:=[.str "if",.str "while"]) (by kernel_rfl))) rfl)
 (ai (eG (pL zaO za4 za5 gC (pv 1) (ae (aG (ae aN (dG 3 (ae rU ag ax)) ax)) ag aV)))
 (ar (eG (pL zaO za4 za5 gC (pv 1) (ae (aG (ae aN (dG 3 (ae rU ag ax)) ax)) ag aV)))))
 (ar (bY (aW dP (aO aR (pv 2) ao av) aN (bc _))
 (ar (eG (pL zaO za4 za5 gC (pv 1) (ae (aG (ae aN (dG 3 ag) ax)) ag aV))))
 ba)))))))
 (ai (eG (pL zaO za4 za5 gC (pv 1) (ae (aG (ae aN ag ax)) ag aV)))
 (ar (aQ (pv 1)))))),rfl,?_⟩
 have line:zdD=2 ^ 24:=rfl;refine aw fun U1 gy=>?_;walk_at "rd";intro tl EN;have s1:=aq.new EN (.lst []);have y1:(upd H tl (.lst [])) tl=some (.lst []):=ah;generalize upd H tl (.lst [])=H1 at *;refine(gy _ _).mpr (aw fun U2 i4=>?_);clear gy;refine kL fun U hU=>?_;walk_at "rd";refine⟨v,pr,rfl,rp.mono s1,hd,hf,fun l2 fv H2 s2 Kd y2 r2=>⟨l2,rfl,⟨fv,.of y2⟩,hU _ _ ?_⟩⟩;clear hU;have n2:l2≠tl:=fun z=>by rw[z,y1] at Kd;cases Kd
 have g2:jV K (·=tl) H2 ((aI pr.body 0).map fR) fv:=Ha (s2 _ _ y1) (v7 _) r2;have lfv:fv.length=(aI pr.body 0).length:=by rw[r2.length,zad]
 have lfl:(aI pr.body 0).length<=1000:=by
  have h2:=congrArg zba (dw pr.body 0);rw[zad] at h2;lia
 have efl:=OW pr.body 0;have pfl:=Ds pr.body 0;generalize aI pr.body 0=fl at *;have t2:O1 K H H2 tl H2 [] []:=⟨s1.trans s2,.refl,s2 _ _ y1,.nil,rfl⟩
 obtain⟨Pv,qI⟩:∃Pv:Nat->St->Hp->Prop,∀i σ H3,Pv i σ H3↔∃(z2 z3:Option V) (us:List V) (pre:List Tg),σ=[some v,some (V.ref tl),z2,z3]/\O1 K H H2 tl H3 us pre/\us.length<=3*i/\
  pre=(fl.take i).flatMap LF:=⟨_,fun _ _ _=>Iff.rfl⟩
 refine kI (K:=K) (a:=l2) (xs:=fv) Pv ((qI _ _ _).mpr ⟨none,none,[],[],rfl,t2,zag _,rfl⟩) (fun i σ H3 _ hv=>?_) ?_ ?_
 ·obtain⟨_,_,_,_,_,ti,_⟩:=(qI _ _ _).mp hv;exact .of (ti.u _ _ n2 y2)
 ·intro i y σ H3 hi hv;obtain⟨z2,z3,us,pre,rfl,ti,lu,ep⟩:=(qI _ _ _).mp hv;clear hv;have done:=fun σ H7=>(qI (i+1) σ H7).mpr;have li:i<fl.length:=by have:=(zam.mp hi).1;lia
  obtain⟨a,rfl,hx⟩:=O3 g2 hi li;have hw:=pfl fl[i] (zas li);have et:(fl.take (i+1)).flatMap LF=pre++LF fl[i]:=by
   rw[zaI li,zbf,ep];simp
  have lt:=OX (fl[i].1,fl[i].2.1);generalize fl[i]=r at *;obtain⟨k,wd,ws⟩:=r;simp only at hw hx lt;have fin:∀(σ:St) (H7:Hp) (EO:List V),(∃z2 z3,σ=[some v,some (V.ref tl),z2,z3])->O1 K H H2 tl H7 EO (pre++LF (k,wd,ws))->Pv (i+1) σ H7:=fun σ H7 EO ⟨z2,z3,e⟩ t7=>done σ H7 ⟨z2,z3,EO,_,e,t7,by
   have:=t7.l;have:=ti.l;have:(LF (k,wd,ws)).length<=3:=lt;simp only[zaf] at *;lia,et.symm⟩
  clear done et;obtain⟨t3,YJ⟩:=hx _ ti.u;simp only[dW,za8];refine aw fun U3 ka=>?_;walk_at "rd";refine aJ YJ (v:=.int k) (aC (j:=0) rfl) ((ka _ _).mpr (aw fun U4 sJ=>?_));clear ka;walk_at "rd";refine⟨.inl ⟨rfl,_,.of ti.y⟩,fun p hp=>⟨tl,us,_,rfl,rfl,aq.new hp _ _ _ ti.y,by lia,(sJ _ _).mpr ?_⟩⟩;clear sJ;have Vd:=ti.app EN hp (g:=.row k) rfl (fun _=>.cons .str (.cons .int .nil));generalize upd (upd H3 p (.tup [V.str (zac "row"),V.int k])) tl (.lst (us++[.ref p]))=H4 at *;obtain⟨t4,hx4⟩:=hx _ Vd.u;walk_at "rd";have luf:us.length<=3000:=by lia
  refine aJ hx4 (v:=.str (rZ wd)) (aC (j:=1) rfl) fun p5 HR=>⟨p5,_,rfl,.inr (.of ah),rfl,rfl,_,rfl,?_⟩
  have Qz:=Vd.same (aq.new HR (.tup [V.str (zac "if"),V.str (zac "while")]));generalize upd H4 p5 (.tup [V.str (zac "if"),V.str (zac "while")])=H5 at *;rw[Hb wd];by_cases hl:wd=.ifs\/wd=.lC
  ·refine(if_pos (decide_eq_true hl)).mpr ⟨.inl ⟨rfl,_,.of Qz.y⟩,fun p6 vB=>⟨tl,_,_,rfl,rfl,aq.new vB _ _ _ Qz.y,by simp only[zaf,zaC];lia,?_⟩⟩;have Ve:=Qz.app EN vB (g:=.side k true) rfl (fun _=>.cons .str (.cons .int (.cons .bl .nil)));generalize upd (upd H5 p6 _) tl _=H6 at *;refine⟨.inl ⟨rfl,_,.of Ve.y⟩,fun p7 Gd=>⟨tl,_,_,rfl,rfl,aq.new Gd _ _ _ Ve.y,by simp only[zaf,zaC];lia,?_⟩⟩;have ti7:=Ve.app EN Gd (g:=.side k false) rfl (fun _=>.cons .str (.cons .int (.cons .bl .nil)));have e:LF (k,wd,ws)=[.row k,.side k true,.side k false]:=by rcases hl with rfl |rfl<;>rfl
   rw[show pre++[.row k]++[.side k true]++[.side k false]=pre++LF (k,wd,ws) by rw[e];simp] at ti7;exact fin _ _ _ ⟨_,_,rfl⟩ ti7
  ·obtain⟨t5,hx5⟩:=hx _ Qz.u;refine(if_neg (by rw[decide_eq_false hl];exact zai)).mpr (aJ hx5 (v:=.str (rZ wd)) (aC (j:=1) rfl) ⟨rfl,iK (fun e=>?_) (fun e=>?_)⟩)
   ·have ew:=(wb wd).mp e;refine⟨.inl ⟨rfl,_,.of Qz.y⟩,fun p6 vB=>⟨tl,_,_,rfl,rfl,aq.new vB _ _ _ Qz.y,by simp only[zaf,zaC];lia,?_⟩⟩;have Ve:=Qz.app EN vB (g:=.bW k) rfl (fun _=>.cons .str (.cons .int .nil));rw[show pre++[.row k]++[.bW k]=pre++LF (k,wd,ws) by rw[show LF (k,wd,ws)=[.row k,.bW k] by subst ew;rfl];simp] at Ve;exact fin _ _ _ ⟨_,_,rfl⟩ Ve
   ·have ew:wd≠.bW:=fun z=>e ((wb wd).mpr z);have e:LF (k,wd,ws)=[.row k]:=by
     cases wd<;>first |rfl |exact absurd rfl ew |exact absurd rfl hw.1 |exact absurd rfl hw.2 |exact absurd (.inl rfl) hl |exact absurd (.inr rfl) hl
    rw[<- e] at Qz;exact fin _ _ _ ⟨_,_,rfl⟩ Qz
 ·intro σ H3 hv;obtain⟨z2,z3,us,pre,rfl,ti,lu,ep⟩:=(qI _ _ _).mp hv;rw[lfv,zaT,efl] at ep;refine(i4 _ _).mpr ?_;walk_at "rd";refine⟨.inl ⟨rfl,_,.of ti.y⟩,fun p hp=>⟨tl,us,_,rfl,rfl,aq.new hp _ _ _ ti.y,by lia,?_⟩⟩;have Vd:=ti.app EN hp (g:=.fin) rfl (fun _=>.cons .str .nil);refine q tl _ _ Vd.s EN Vd.y ?_;unfold tE;rw[<- ep];exact Vd.f.Wb
theorem zM(T:Tx K mg t){c Pt:zdv}(B:hZ K mg base c Pt)(hc:qg K t.bS c)(b8:bD P w K mg base gD 1 t.cW t.cT ["body", "behind"] (lG K))(bT:bD P w K mg base gD 6 t.bH t.bK ["body"] (kl K 4))(mG:bD P w K mg base gD 7 t.oG t.lN ["program"] (yt K)) :
 bD P w K mg base (oZ P w) 13 t.vx t.vy ["program"] (Rv K t.ay "first_inputs.<locals>.<lambda>" Pt (kO (fJ aF))):=by
 have Ck:=Ao (P:=P) (w:=w) (base:=base) T b8 bT mG;have vH:=uf (P:=P) (w:=w) (base:=base) T B hc;have JS:=Gr (P:=P) (w:=w) (base:=base) T;have NM:=JK (P:=P) (w:=w) (base:=base) T;refine T.fh.F.Yh Ee (fun vs H Q E h=>?_) (fun eO A outer s H vs Q E hr h=>?_)
 ·obtain⟨_,_,_,rfl⟩:=h;rfl
 obtain⟨v,pr,ps,rfl,rp,dr,CM,OP,zX,tok,q,qE⟩:=h;have nd:=Ee.nd;have hu:=jB hr;refine⟨_,[some v,none,none,none],(ai (kE 1 nd (GI T.zt Ck (hr.mono (by first|decide|omega)) rfl T.Ng T.B6 .nil fj (dG 0 ag)))
 (ai (eE (i:=2) nd rfl (zcK rfl) (cB vH (hr.mono (by first|decide|omega)) rfl T.c5.m T.c5.F.kp T.c5.b .nil Di (dG 1 ag)))
 (ai (GP (i:=3) nd rfl (zaJ rfl) (own:=["target"]) (ix:=[2]) rfl (by rfl) (by rfl) (dN (nS JS T.rm hr (dG 0 ag))) (fun _ _ _ _=>(cH (i:=0) (by show List.Nodup (["target", "shortest_by"]:List Str);decide +kernel) rfl (zaJ rfl))) (fun _ _ _ _=>(GO (aW (FW (J:=jT) (P:=P) (w:=w) (K:=K) rfl rfl rfl (FJ hr)) (pv 0) (pv 1) rfl))) (fun _ _ _ _=>(pv 0)))
 (ar (aQ (aG (ae (dZ (own:=["figures"]) (ix:=[]) rfl (by rfl) (by rfl) (dN (nS NM T.vA hr (dG 1 (dG 2 ag)))) (fun _ _ _ _=>(cH (i:=0) (by show List.Nodup (["figures"]:List Str);decide +kernel) rfl (zaJ rfl))) (fun _ _ _ _=>dY) (fun _ _ _ _=>(iA (Ak (K:=K) rfl) rfl T.Gb PyProof.Rows.Boot.«list» (dG 0 ag)))) (dG 3 ag) ki))))))),rfl,?_⟩
 have line:zdD=2 ^ 24:=rfl;refine aw fun U1 gy=>?_;walk_at "rd";intro p dx hp US ne;have s1:aq H (upd (upd H dx (.own p)) p (.ins t.aE dx [])):=(aq.new US _).trans (aq.new (by rw[au ne.symm];exact hp) _);refine⟨p,dx,v,pr,rfl,ah,by rw[au ne];exact ah,rp.mono s1,dr.dep,dr.CM,dr.ok.pw,dr.ok.nb,dr.ok.CM,fun H2 u2 co=>⟨rfl,(gy _ _).mpr (aw fun U2 i4=>?_)⟩⟩;clear gy;have s2:aq H H2:=((aS.of s1).trans u2).same hp;clear s1 u2;walk_at "rd";refine⟨p,pr,ps,rfl,co,dr,by lia,s2 _ _ zX,tok.kp (.same s2),fun hle D kvs H3 ps3 u3 hD d3 m3 y3 JQ=>(i4 _ _).mpr (aw fun U3 ka=>?_),fun Oe H3 ps3 u3 y3 JQ=>qE Oe H3 ps3 ((aS.of s2).trans u3) y3 JQ⟩;clear i4;have XC:aS Pt H H3:=(aS.of s2).trans u3;have k03:Kp H H3:=Kp.of XC zX;have hD0:=s2.free hD;have rp3:=My k03 _ _ rp;have co3:=co.kp (Kp.of u3 (s2 _ _ zX));have Zd:D≠Pt:=fun z=>by rw[z,s2 _ _ zX] at hD;cases hD
 walk_at "rd";simp only[gO];walk_at "rd";refine⟨v,pr,rfl,rp3,dr.dep,dr.CM,fun tl Vc H4 s4 EN ytl rtl=>⟨tl,rfl,⟨_,.of ytl⟩,fun N hN=>?_⟩⟩;have Ze:Vc.length=(tE (cG pr.body)).length:=by rw[rtl.length,zad]
 have Ye:(tE (cG pr.body)).length<=4001:=by have:=Jx (cG pr.body);have:=dr.CM;lia
 have d4:=d3.mono s4;refine Ba (K:=K) (fun τ=>∃x,τ=[x,some (.ref D)]) (fun i ys Hx=>aD K Hx ((((tE (cG pr.body)).take i).filter fun t=>!decide (t∈(ou pr (aK pr (bf pr))).map (·.1))).map g7) ys) (.of ytl) (by lia) hN ⟨none,rfl⟩ .nil ?_ ?_
 ·rintro i x ys τ Hx hx ⟨x0,rfl⟩ sx yN ly rv R hR
  obtain⟨tg,htg,rt⟩:=G0 rtl hx;have rtx:=rt.mono sx;obtain⟨ta,rfl,ot⟩:=Mi rtx;simp only[dW,za8];walk_at "rd";refine⟨D,ta,kvs,b7 tg,rfl,rfl,d4.mono sx,ot,?_⟩;rw[F0 m3];have et:(tE (cG pr.body)).take (i+1)=(tE (cG pr.body)).take i++[tg]:=by rw[zcG,htg];rfl
  refine hR _ _ _ ⟨_,rfl⟩ (aq.refl _) (fun e=>?_) fun e R' k=>?_
  ·rw[et,zbP,zcq,if_neg (by rw[e];exact zai),List.filter_nil,zaG];exact rv
  ·walk_at "rd";refine k _ _ (aq.refl _) ?_;rw[et,zbP,zcq,if_pos e,List.filter_nil,zat];have uN:aS N Hx (upd Hx N (.lst (ys++[.ref ta]))):=(aS.refl _ _).put _;exact(Mj yN uN (Hk _) rv).append (.cons (Pp yN uN (by cases tg<;>rfl) rtx) .nil)
 intro ys H5 s5 yN ly rv;rw[Ze,zaT] at rv
 change aD K H5 ((ox pr).map g7) ys at rv
 have Ur:=s4.trans s5;have Vf:=s4.free hN;have d5:=d3.mono Ur;have m5:=m3.imp (H':=H5) fun a xs h=>Ur.bM h;have co5:=co3.mono Ur;have u05:aS Pt H H5:=XC.trans (.of Ur);have y5:=Ur _ _ y3;have NI:=JQ.kp (.same Ur);have hN0:H N=none:=by
  cases y:H N with
  |none=>rfl
  |some o=>rw[XC N o (fun z=>by rw[z,y3] at Vf;cases Vf) y] at Vf;cases Vf
 obtain⟨φ3,eD3⟩:=d3.km;have nND:N≠D:=(aj eD3 Vf).symm;clear s4 s5 Ur d4 rtl ytl Ze Ye d3 m3 co3 y3 JQ rp3 k03 u3 s2 hD Vf eD3 EN hN co;refine(ka _ _).mpr ?_;clear ka;walk_at "rd";simp only[gO];walk_at "rd";obtain⟨hB,hfg⟩:=OP hle;refine⟨p,D,pr,kvs,rfl,co5,dr,CM,hB,hfg,d5,m5,fun l us H6 u6 hl yl tf=>⟨l,rfl,⟨_,.of yl⟩,fun L hL=>?_⟩⟩;obtain⟨φ5,eD5⟩:=d5.km;have u06:aS Pt H H6:=fun b o n e=>u6 b o (aj e hD0) (u05 b o n e);have y6:=u6 _ _ Zd.symm y5;have ab4:=NI.ds d5 u6;have yN6:=u6 _ _ nND yN;have rv6:=mY eD5 u6 _ _ rv;have lk:=Jw dr;have vS:us.length=(fq pr).length:=(Paired.length tf).symm;refine Jc (K:=K) (fun τ=>∃x,τ=[x]) (fun i ys Hx=>Paired (fun (f:List Int) v=>∃a,v=.ref a/\H6 a=none/\a≠L/\Hx a=some (.lst (f.map V.int))) ((fq pr).take i) ys/\ys.Nodup) (.of yl) (by lia) hL ⟨none,rfl⟩ ⟨.nil,zbs⟩ ?_ ?_
 ·rintro i x ys τ Hx hx ⟨x0,rfl⟩ sx yL ly ⟨nw,nds⟩ R hR
  obtain⟨f,hf,a,rfl,qa⟩:=c0 tf hx;simp only[dW,za8];walk_at "rd";refine⟨a,_,rfl,.inr (sx.bM qa),fun l9 HY=>hR _ _ _ ⟨_,rfl⟩ (aq.new HY _) ?_⟩;have n9:l9≠L:=(aj yL HY).symm;refine⟨?_,?_⟩
  ·rw[zcG,hf];exact Paired.snoc (Paired.uo nw fun _ _ ⟨b,e1,e2,e3,e4⟩=>⟨b,e1,e2,e3,by rw[au e3,au (aj e4 HY)];exact e4⟩) ⟨l9,rfl,sx.free HY,n9,by rw[au n9];exact ah⟩
  ·refine za6.mpr ⟨nds,by simp,fun v hv y hy=>?_⟩;obtain⟨j,hj,rfl⟩:=zbX.mp hv;obtain⟨f1,_,b,e1,e2,e3,e4⟩:=c0 nw (zae hj);rw[e1,zab.mp hy];intro z;exact aj e4 HY (V.ref.inj z)
 intro ys9 H7 s7 yL ly pv;rw[vS,zaT] at pv;obtain⟨nw,nds⟩:=pv;intro q9 hq9;have s8:=aq.new hq9 (.tup [V.ref L,V.ref N]);have y8:(upd H7 q9 (.tup [V.ref L,V.ref N])) q9=_:=ah;have XM:=s7.trans s8;generalize upd H7 q9 (.tup [V.ref L,V.ref N])=H8 at *;have h0:∀b,H6 b=none->H b=none:=fun b e=>by
  cases y:H b with
  |none=>rfl
  |some o=>rw[u06 b o (fun z=>by rw[z,y6] at e;cases e) y] at e;cases e
 have mem:∀v∈ys9,∃b,v=.ref b/\H6 b=none/\b≠L:=fun v hv=>by
  obtain⟨j,hj,rfl⟩:=zbX.mp hv;obtain⟨f1,_,b,e1,e2,e3,e4⟩:=c0 nw (zae hj);exact⟨b,e1,e2,e3⟩
 refine q hle q9 L N ys9 ys H8 ps3 (u06.trans (.of XM)) (XM _ _ y6) (ab4.kp (.same XM)) ⟨.of y8,s8 _ _ yL,XM _ _ yN6,h0 _ hL,hN0,(aj yN6 hL).symm,Paired.uo nw fun _ _ ⟨b,e1,e2,e3,e4⟩=>⟨b,e1,h0 _ e2,s8 _ _ e4⟩,nds,fun z=>?_,fun z=>?_,rv6.mono XM⟩
 ·obtain⟨b,e1,_,e3⟩:=mem _ z;exact e3 (V.ref.inj e1).symm
 ·obtain⟨b,e1,e2,_⟩:=mem _ z;rw[<- V.ref.inj e1,yN6] at e2;cases e2
theorem pf(T:Tx K mg t){c Pt:zdv}(B:hZ K mg base c Pt)(hc:qg K t.bS c)(b8:bD P w K mg base gD 1 t.cW t.cT ["body", "behind"] (lG K))(bT:bD P w K mg base gD 6 t.bH t.bK ["body"] (kl K 4))(mG:bD P w K mg base gD 7 t.oG t.lN ["program"] (yt K)) :
 bD P w K mg base gD 14 t.fV t.ic ["program"] (Na K "first_inputs.<locals>.<lambda>" Pt (kO (fJ aF))):=by
 have rA:=zM (P:=P) (w:=w) (base:=base) T B hc b8 bT mG;refine T.cJ.F.rE pe (fun vs H Q E h=>?_) (fun eO A outer s H vs Q E hr h=>?_)
 ·obtain⟨_,_,_,rfl⟩:=h;rfl
 obtain⟨v,pr,ps,rfl,hv,d,mn,cnt,yP,tb,q⟩:=h;have nd:=pe.nd;refine⟨_,[some v,none,none],(@ai _ _ _ _ _ (@eE _ _ 1 _ _ _ _ nd rfl (zaJ rfl) (@br _ _ _ _ (@ag _)) (by first |rfl |exact .inl rfl |exact .inr rfl |decide |(intro _;rfl) |assumption) (by first |rfl |exact .inl rfl |exact .inr rfl |decide |(intro _;rfl) |assumption)) (@ai _ _ _ _ _ (Lu (i:=2) nd rfl rfl rfl rA (hr.mono (by first|decide|omega)) rfl T.fh.m T.fh.F.kp T.fh.b (fun _ _=>(@ae _ _ _ _ _ (pv 0) (@ag _) (@aH _ _ _ _))) rfl rfl rfl T.Eg (fun _=>(@ai _ _ _ _ _ (@eE _ _ 1 _ _ _ _ nd rfl (zaJ rfl) (@br _ _ _ _ (@ae _ _ _ _ _ (@cf _ _ _ _ _ _ _ _ _ (eQ (K:=K) rfl) rfl T.bz PyProof.Rows.Boot.«isinstance» (@ae _ _ _ _ _ (pv 2) (@ae _ _ _ _ _ (cY (v:=.ref t.oP) rfl T.Nh rfl) (@ag _) (@aH _ _ _ _)) (@aH _ _ _ _)) (by first |rfl |exact .inl rfl |exact .inr rfl |decide |(intro _;rfl) |assumption) (by first |rfl |exact .inl rfl |exact .inr rfl |decide |(intro _;rfl) |assumption) (by first |rfl |exact .inl rfl |exact .inr rfl |decide |(intro _;rfl) |assumption) (by first |rfl |exact .inl rfl |exact .inr rfl |decide |(intro _;rfl) |assumption)) (@ae _ _ _ _ _ (@cf _ _ _ _ _ _ _ _ _ (eQ (K:=K) rfl) rfl T.bz PyProof.Rows.Boot.«isinstance» (@ae _ _ _ _ _ (pv 2) (@ae _ _ _ _ _ (cY (v:=.ref t.jm) rfl T.F8 rfl) (@ag _) (@aH _ _ _ _)) (@aH _ _ _ _)) (by first |rfl |exact .inl rfl |exact .inr rfl |decide |(intro _;rfl) |assumption) (by first |rfl |exact .inl rfl |exact .inr rfl |decide |(intro _;rfl) |assumption) (by first |rfl |exact .inl rfl |exact .inr rfl |decide |(intro _;rfl) |assumption) (by first |rfl |exact .inl rfl |exact .inr rfl |decide |(intro _;rfl) |assumption)) (@ae _ _ _ _ _ (@cf _ _ _ _ _ _ _ _ _ (eQ (K:=K) rfl) rfl T.bz PyProof.Rows.Boot.«isinstance» (@ae _ _ _ _ _ (pv 2) (@ae _ _ _ _ _ (cY (v:=.ref t.jk) rfl T.F7 rfl) (@ag _) (@aH _ _ _ _)) (@aH _ _ _ _)) (by first |rfl |exact .inl rfl |exact .inr rfl |decide |(intro _;rfl) |assumption) (by first |rfl |exact .inl rfl |exact .inr rfl |decide |(intro _;rfl) |assumption) (by first |rfl |exact .inl rfl |exact .inr rfl |decide |(intro _;rfl) |assumption) (by first |rfl |exact .inl rfl |exact .inr rfl |decide |(intro _;rfl) |assumption)) (@ae _ _ _ _ _ (@cf _ _ _ _ _ _ _ _ _ (eQ (K:=K) rfl) rfl T.bz PyProof.Rows.Boot.«isinstance» (@ae _ _ _ _ _ (pv 2) (@ae _ _ _ _ _ (cY (v:=.ref t.jn) rfl T.F9 rfl) (@ag _) (@aH _ _ _ _)) (@aH _ _ _ _)) (by first |rfl |exact .inl rfl |exact .inr rfl |decide |(intro _;rfl) |assumption) (by first |rfl |exact .inl rfl |exact .inr rfl |decide |(intro _;rfl) |assumption) (by first |rfl |exact .inl rfl |exact .inr rfl |decide |(intro _;rfl) |assumption) (by first |rfl |exact .inl rfl |exact .inr rfl |decide |(intro _;rfl) |assumption)) (@ag _) (@bJ _ _ _ _ _ _)) (@bJ _ _ _ _ _ _)) (@bJ _ _ _ _ _ _)) (@bJ _ _ _ _ _ _))) (by first |rfl |exact .inl rfl |exact .inr rfl |decide |(intro _;rfl) |assumption) (by first |rfl |exact .inl rfl |exact .inr rfl |decide |(intro _;rfl) |assumption)) (@ai _ _ _ _ _ (@eE _ _ 1 _ _ _ _ nd rfl (zaJ rfl) (@aX _ _ _ _ _ _ _ _ (@nX _) (pv 1) (@br _ _ _ _ (@ae _ _ _ _ _ (@cf _ _ _ _ _ _ _ _ _ (eQ (K:=K) rfl) rfl T.bz PyProof.Rows.Boot.«isinstance» (@ae _ _ _ _ _ (pv 2) (@ae _ _ _ _ _ (cY (v:=.ref t.fY) rfl T.Ca rfl) (@ag _) (@aH _ _ _ _)) (@aH _ _ _ _)) (by first |rfl |exact .inl rfl |exact .inr rfl |decide |(intro _;rfl) |assumption) (by first |rfl |exact .inl rfl |exact .inr rfl |decide |(intro _;rfl) |assumption) (by first |rfl |exact .inl rfl |exact .inr rfl |decide |(intro _;rfl) |assumption) (by first |rfl |exact .inl rfl |exact .inr rfl |decide |(intro _;rfl) |assumption)) (@ae _ _ _ _ _ (@cf _ _ _ _ _ _ _ _ _ (eQ (K:=K) rfl) rfl T.bz PyProof.Rows.Boot.«isinstance» (@ae _ _ _ _ _ (pv 2) (@ae _ _ _ _ _ (cY (v:=.ref t.oQ) rfl T.Ni rfl) (@ag _) (@aH _ _ _ _)) (@aH _ _ _ _)) (by first |rfl |exact .inl rfl |exact .inr rfl |decide |(intro _;rfl) |assumption) (by first |rfl |exact .inl rfl |exact .inr rfl |decide |(intro _;rfl) |assumption) (by first |rfl |exact .inl rfl |exact .inr rfl |decide |(intro _;rfl) |assumption) (by first |rfl |exact .inl rfl |exact .inr rfl |decide |(intro _;rfl) |assumption)) (@ae _ _ _ _ _ (@cf _ _ _ _ _ _ _ _ _ (eQ (K:=K) rfl) rfl T.bz PyProof.Rows.Boot.«isinstance» (@ae _ _ _ _ _ (pv 2) (@ae _ _ _ _ _ (cY (v:=.ref t.tW) rfl T.Qi rfl) (@ag _) (@aH _ _ _ _)) (@aH _ _ _ _)) (by first |rfl |exact .inl rfl |exact .inr rfl |decide |(intro _;rfl) |assumption) (by first |rfl |exact .inl rfl |exact .inr rfl |decide |(intro _;rfl) |assumption) (by first |rfl |exact .inl rfl |exact .inr rfl |decide |(intro _;rfl) |assumption) (by first |rfl |exact .inl rfl |exact .inr rfl |decide |(intro _;rfl) |assumption)) (@ae _ _ _ _ _ (@cf _ _ _ _ _ _ _ _ _ (eQ (K:=K) rfl) rfl T.bz PyProof.Rows.Boot.«isinstance» (@ae _ _ _ _ _ (pv 2) (@ae _ _ _ _ _ (cY (v:=.ref t.tV) rfl T.Qh rfl) (@ag _) (@aH _ _ _ _)) (@aH _ _ _ _)) (by first |rfl |exact .inl rfl |exact .inr rfl |decide |(intro _;rfl) |assumption) (by first |rfl |exact .inl rfl |exact .inr rfl |decide |(intro _;rfl) |assumption) (by first |rfl |exact .inl rfl |exact .inr rfl |decide |(intro _;rfl) |assumption) (by first |rfl |exact .inl rfl |exact .inr rfl |decide |(intro _;rfl) |assumption)) (@ag _) (@bJ _ _ _ _ _ _)) (@bJ _ _ _ _ _ _)) (@bJ _ _ _ _ _ _)) (@bJ _ _ _ _ _ _)))) (by first |rfl |exact .inl rfl |exact .inr rfl |decide |(intro _;rfl) |assumption) (by first |rfl |exact .inl rfl |exact .inr rfl |decide |(intro _;rfl) |assumption)) (@ai _ _ _ _ _ (@eE _ _ 1 _ _ _ _ nd rfl (zaJ rfl) (@aX _ _ _ _ _ _ _ _ (@nX _) (pv 1) (@br _ _ _ _ (@ae _ _ _ _ _ (@cf _ _ _ _ _ _ _ _ _ (eQ (K:=K) rfl) rfl T.bz PyProof.Rows.Boot.«isinstance» (@ae _ _ _ _ _ (pv 2) (@ae _ _ _ _ _ (cY (v:=.ref t.oR) rfl T.Nj rfl) (@ag _) (@aH _ _ _ _)) (@aH _ _ _ _)) (by first |rfl |exact .inl rfl |exact .inr rfl |decide |(intro _;rfl) |assumption) (by first |rfl |exact .inl rfl |exact .inr rfl |decide |(intro _;rfl) |assumption) (by first |rfl |exact .inl rfl |exact .inr rfl |decide |(intro _;rfl) |assumption) (by first |rfl |exact .inl rfl |exact .inr rfl |decide |(intro _;rfl) |assumption)) (@ae _ _ _ _ _ (@cf _ _ _ _ _ _ _ _ _ (eQ (K:=K) rfl) rfl T.bz PyProof.Rows.Boot.«isinstance» (@ae _ _ _ _ _ (pv 2) (@ae _ _ _ _ _ (cY (v:=.ref t.lh) rfl T.JF rfl) (@ag _) (@aH _ _ _ _)) (@aH _ _ _ _)) (by first |rfl |exact .inl rfl |exact .inr rfl |decide |(intro _;rfl) |assumption) (by first |rfl |exact .inl rfl |exact .inr rfl |decide |(intro _;rfl) |assumption) (by first |rfl |exact .inl rfl |exact .inr rfl |decide |(intro _;rfl) |assumption) (by first |rfl |exact .inl rfl |exact .inr rfl |decide |(intro _;rfl) |assumption)) (@ae _ _ _ _ _ (@cf _ _ _ _ _ _ _ _ _ (eQ (K:=K) rfl) rfl T.bz PyProof.Rows.Boot.«isinstance» (@ae _ _ _ _ _ (pv 2) (@ae _ _ _ _ _ (cY (v:=.ref t.jo) rfl T.Ga rfl) (@ag _) (@aH _ _ _ _)) (@aH _ _ _ _)) (by first |rfl |exact .inl rfl |exact .inr rfl |decide |(intro _;rfl) |assumption) (by first |rfl |exact .inl rfl |exact .inr rfl |decide |(intro _;rfl) |assumption) (by first |rfl |exact .inl rfl |exact .inr rfl |decide |(intro _;rfl) |assumption) (by first |rfl |exact .inl rfl |exact .inr rfl |decide |(intro _;rfl) |assumption)) (@ae _ _ _ _ _ (@cf _ _ _ _ _ _ _ _ _ (eQ (K:=K) rfl) rfl T.bz PyProof.Rows.Boot.«isinstance» (@ae _ _ _ _ _ (pv 2) (@ae _ _ _ _ _ (cY (v:=.ref t.ip) rfl T.Eh rfl) (@ag _) (@aH _ _ _ _)) (@aH _ _ _ _)) (by first |rfl |exact .inl rfl |exact .inr rfl |decide |(intro _;rfl) |assumption) (by first |rfl |exact .inl rfl |exact .inr rfl |decide |(intro _;rfl) |assumption) (by first |rfl |exact .inl rfl |exact .inr rfl |decide |(intro _;rfl) |assumption) (by first |rfl |exact .inl rfl |exact .inr rfl |decide |(intro _;rfl) |assumption)) (@ag _) (@bJ _ _ _ _ _ _)) (@bJ _ _ _ _ _ _)) (@bJ _ _ _ _ _ _)) (@bJ _ _ _ _ _ _)))) (by first |rfl |exact .inl rfl |exact .inr rfl |decide |(intro _;rfl) |assumption) (by first |rfl |exact .inl rfl |exact .inr rfl |decide |(intro _;rfl) |assumption)) (@ar _ _ _ (@eE _ _ 1 _ _ _ _ nd rfl (zaJ rfl) (@aX _ _ _ _ _ _ _ _ (@nX _) (pv 1) (@br _ _ _ _ (@ae _ _ _ _ _ (@cf _ _ _ _ _ _ _ _ _ (eQ (K:=K) rfl) rfl T.bz PyProof.Rows.Boot.«isinstance» (@ae _ _ _ _ _ (pv 2) (@ae _ _ _ _ _ (cY (v:=.ref t.ay) rfl T.zv rfl) (@ag _) (@aH _ _ _ _)) (@aH _ _ _ _)) (by first |rfl |exact .inl rfl |exact .inr rfl |decide |(intro _;rfl) |assumption) (by first |rfl |exact .inl rfl |exact .inr rfl |decide |(intro _;rfl) |assumption) (by first |rfl |exact .inl rfl |exact .inr rfl |decide |(intro _;rfl) |assumption) (by first |rfl |exact .inl rfl |exact .inr rfl |decide |(intro _;rfl) |assumption)) (@ae _ _ _ _ _ (R4 (@cf _ _ _ _ _ _ _ _ _ (IJ (K:=K) rfl) rfl T.bz PyProof.Rows.Boot.«isinstance» (@ae _ _ _ _ _ (pv 2) (@ae _ _ _ _ _ (Oi (v:=.ty "ValueError") rfl T.oT PyProof.Rows.Boot.«ValueError» rfl) (@ag _) (@aH _ _ _ _)) (@aH _ _ _ _)) (by first |rfl |exact .inl rfl |exact .inr rfl |decide |(intro _;rfl) |assumption) (by first |rfl |exact .inl rfl |exact .inr rfl |decide |(intro _;rfl) |assumption) (by first |rfl |exact .inl rfl |exact .inr rfl |decide |(intro _;rfl) |assumption) (by first |rfl |exact .inl rfl |exact .inr rfl |decide |(intro _;rfl) |assumption))) (@ag _) VY) (@bJ _ _ _ _ _ _)))) (by first |rfl |exact .inl rfl |exact .inr rfl |decide |(intro _;rfl) |assumption) (by first |rfl |exact .inl rfl |exact .inr rfl |decide |(intro _;rfl) |assumption)))))))) (@ar _ _ _ (@aQ _ _ _ _ (pv 1))))),rfl,?_⟩;have line:zdD=2 ^ 24:=rfl;refine aw fun U1 gy=>?_;walk_at "rd";intro p hp;have s1:=aq.new hp (.lst []);generalize upd H p (.lst [])=H1 at *;refine(gy _ _).mpr (aw fun U2 i4=>?_);clear gy;simp only[Ls];walk_at "rd";refine⟨_,pr,ps,rfl,Rep.mono s1 hv,d,mn,fun h=>absurd h (by lia),s1 _ _ yP,tb.up fun _ _ e=>s1 _ _ e,fun h=>absurd h (by lia),fun _ H2 NH u2 y2 t2=>?_⟩;refine⟨T.tX,_,rfl,fun y hy=>?_⟩;have s3:=aq.new hy (uP y t.ay);have h3:(upd H2 y (uP y t.ay)) y=some (uP y t.ay):=ah;generalize upd H2 y (uP y t.ay)=H3 at *;refine⟨y,_,_,_,rfl,h3,T.cK,T.jr,?_⟩;refine⟨y,_,_,_,rfl,h3,T.cK,T.iu,?_⟩;refine⟨y,_,_,_,rfl,h3,T.cK,T.iq,?_⟩;refine⟨y,_,_,_,rfl,h3,T.cK,T.iw,?_⟩;intro p4 HQ;have s4:=s3.BD HQ (.lst [V.bl false,V.bl false,V.bl false,V.bl false]);have h4:=aq.new HQ (.lst [V.bl false,V.bl false,V.bl false,V.bl false]) _ _ h3;have l4:(upd H3 p4 (.lst [V.bl false,V.bl false,V.bl false,V.bl false])) p4=some (.lst [V.bl false,V.bl false,V.bl false,V.bl false]):=ah;generalize upd H3 p4 (.lst [V.bl false,V.bl false,V.bl false,V.bl false])=H4 at *;have z4:=l4;refine⟨y,_,_,_,rfl,h4,T.cK,T.gx,?_⟩;refine⟨y,_,_,_,rfl,h4,T.cK,T.js,?_⟩;refine⟨y,_,_,_,rfl,h4,T.cK,T.jZ,?_⟩;refine⟨y,_,_,_,rfl,h4,T.cK,T.jY,?_⟩;intro p5 HR;have s5:=s4.BD HR (.lst [V.bl false,V.bl false,V.bl false,V.bl false]);have h5:=aq.new HR (.lst [V.bl false,V.bl false,V.bl false,V.bl false]) _ _ h4;have z5:=aq.new HR (.lst [V.bl false,V.bl false,V.bl false,V.bl false]) _ _ z4;have l5:(upd H4 p5 (.lst [V.bl false,V.bl false,V.bl false,V.bl false])) p5=some (.lst [V.bl false,V.bl false,V.bl false,V.bl false]):=ah;generalize upd H4 p5 (.lst [V.bl false,V.bl false,V.bl false,V.bl false])=H5 at *;refine⟨_,_,_,_,rfl,rfl,z5,l5,by rw[line];decide,fun p6 vB=>?_⟩;have s6:=s5.BD vB (.lst ([V.bl false,V.bl false,V.bl false,V.bl false]++[V.bl false,V.bl false,V.bl false,V.bl false]));have h6:=aq.new vB (.lst ([V.bl false,V.bl false,V.bl false,V.bl false]++[V.bl false,V.bl false,V.bl false,V.bl false])) _ _ h5;have l6:(upd H5 p6 (.lst ([V.bl false,V.bl false,V.bl false,V.bl false]++[V.bl false,V.bl false,V.bl false,V.bl false]))) p6=some (.lst ([V.bl false,V.bl false,V.bl false,V.bl false]++[V.bl false,V.bl false,V.bl false,V.bl false])):=ah;generalize upd H5 p6 (.lst ([V.bl false,V.bl false,V.bl false,V.bl false]++[V.bl false,V.bl false,V.bl false,V.bl false]))=H6 at *;have z6:=l6;refine⟨y,_,_,_,rfl,h6,T.cK,T.jt,?_⟩;refine⟨y,_,_,_,rfl,h6,T.cK,T.i3,?_⟩;refine⟨y,_,_,_,rfl,h6,T.cK,T.iz,?_⟩;refine⟨y,_,_,_,rfl,h6,T.cK,T.gV,?_⟩;intro p7 Gd;have s7:=s6.BD Gd (.lst [V.bl false,V.bl false,V.bl false,V.bl false]);have h7:=aq.new Gd (.lst [V.bl false,V.bl false,V.bl false,V.bl false]) _ _ h6;have z7:=aq.new Gd (.lst [V.bl false,V.bl false,V.bl false,V.bl false]) _ _ z6;have l7:(upd H6 p7 (.lst [V.bl false,V.bl false,V.bl false,V.bl false])) p7=some (.lst [V.bl false,V.bl false,V.bl false,V.bl false]):=ah;generalize upd H6 p7 (.lst [V.bl false,V.bl false,V.bl false,V.bl false])=H7 at *;refine⟨_,_,_,_,rfl,rfl,z7,l7,by rw[line];decide,fun p8 Bf=>?_⟩;have s8:=s7.BD Bf (.lst (([V.bl false,V.bl false,V.bl false,V.bl false]++[V.bl false,V.bl false,V.bl false,V.bl false])++[V.bl false,V.bl false,V.bl false,V.bl false]));have h8:=aq.new Bf (.lst (([V.bl false,V.bl false,V.bl false,V.bl false]++[V.bl false,V.bl false,V.bl false,V.bl false])++[V.bl false,V.bl false,V.bl false,V.bl false])) _ _ h7;have l8:(upd H7 p8 (.lst (([V.bl false,V.bl false,V.bl false,V.bl false]++[V.bl false,V.bl false,V.bl false,V.bl false])++[V.bl false,V.bl false,V.bl false,V.bl false]))) p8=some (.lst (([V.bl false,V.bl false,V.bl false,V.bl false]++[V.bl false,V.bl false,V.bl false,V.bl false])++[V.bl false,V.bl false,V.bl false,V.bl false])):=ah;generalize upd H7 p8 (.lst (([V.bl false,V.bl false,V.bl false,V.bl false]++[V.bl false,V.bl false,V.bl false,V.bl false])++[V.bl false,V.bl false,V.bl false,V.bl false]))=H8 at *;have z8:=l8;refine⟨y,_,_,_,rfl,h8,T.cK,T.iy,?_⟩;refine⟨y,_,_,_,rfl,h8,T.cK,T.tY,?_⟩;rw[show (!true)=false from rfl];intro p9 EM;have s9:=s8.BD EM (.lst [V.bl true,V.bl false]);have h9:=aq.new EM (.lst [V.bl true,V.bl false]) _ _ h8;have z9:=aq.new EM (.lst [V.bl true,V.bl false]) _ _ z8;have l9:(upd H8 p9 (.lst [V.bl true,V.bl false])) p9=some (.lst [V.bl true,V.bl false]):=ah;generalize upd H8 p9 (.lst [V.bl true,V.bl false])=H9 at *;refine⟨_,_,_,_,rfl,rfl,z9,l9,by rw[line];decide,fun pa hpa=>?_⟩;show U2 [some v,some (V.ref pa),none] _;refine(i4 _ _).mpr ?_;walk_at "rd";have sa:=s9.BD hpa (.lst ((([V.bl false,V.bl false,V.bl false,V.bl false]++[V.bl false,V.bl false,V.bl false,V.bl false])++[V.bl false,V.bl false,V.bl false,V.bl false])++[V.bl true,V.bl false]));exact q _ _ NH (((aS.of s1).trans u2).trans (aS.of sa)) (sa _ _ y2) (t2.up fun _ _ e=>sa _ _ e) ah
theorem lU(T:Tx K mg t):bD P w K mg base gD 1 t.eT t.fL ["told", "never", "least"] (B2 K):=by
 refine T.bo.F.rE lL (fun vs H Q E h=>?_) (fun eO A outer s H vs Q E hr h=>?_)
 ·obtain⟨_,_,_,_,_,_,_,_,_,_,rfl⟩:=h;rfl
 obtain⟨q,li,ln,fa,ne,least,f,nv,nw,ts,rfl,hq,yi,yn,yf,ye,r1,r2,hl,lf,dg,qq⟩:=h;have nd:=lL.nd;refine⟨_,[some (.ref q),some (.ref ne),some (.int least)],(ai (bY (PW.pt (pw_or (aW (HC (K:=K) rfl (Ly hr)) (aO aR (pv 0) ao av) (pv 1) (bc _)) (pw_or (aW QR (cf iQ rfl T.xk PyProof.Rows.Boot.«len» (ae (aO aR (pv 0) ao av) ag bF)) ao (bc _)) (pw_or1 (aW Kx (cf iQ rfl T.xk PyProof.Rows.Boot.«len» (ae (aO da (aO aR (pv 0) ao av) ao av) ag bF)) (pv 2) (bc _))))))
 (ar (aQ rU))
 ba)
 (ar (aQ (iO (AV (jB hr)) (dZ (own:=["figure"]) (ix:=[]) rfl (by rfl) (by rfl) (dN (aO da (aO aR (pv 0) ao av) ao av)) (fun _ _ _ _=>(cH (i:=0) (by show List.Nodup (["figure"]:List Str);decide +kernel) rfl (zaJ rfl))) (fun _ _ _ _=>(GO (Bp (Kz VA Kx ao (pv 0) ao)))) (fun _ _ _ _=>(pv 0))) (br ag) (bc _))))),rfl,?_⟩
 refine aw fun U1 gy=>?_;walk_at "rd";refine aJ hq (aC (j:=1) rfl) ⟨_,Rep.bN.mpr ⟨_,_,rfl,.of yn,r1⟩,Rep.bN.mpr ⟨_,_,rfl,.of ye,r2⟩,MW ts,?_⟩;rw[if_neg zai];refine aJ hq (aC (j:=0) rfl) ⟨_,_,rfl,.inl (.of yi),?_⟩;rw[if_pos (show (([V.ref fa]:List V).length:Int)=1 from rfl)];refine aJ hq (aC (j:=0) rfl) (eY (.of yi) (aC (j:=0) rfl) ⟨_,_,rfl,.inl (.of yf),?_⟩);rw[zad,if_neg (by lia)];refine(gy _ _).mpr ?_;clear gy;walk_at "rd";simp only[gO];walk_at "rd";refine aJ hq (aC (j:=0) rfl) (eY (.of yi) (aC (j:=0) rfl) ⟨_,rfl,⟨_,.of yf⟩,fun D hD=>?_⟩);refine Ba (K:=K) (fun τ=>∃x,τ=[x]) (fun i ys Hx=>ys=[]) (.of yf) (by rw[zad];lia) hD ⟨none,rfl⟩ rfl (fun i x ys τ H2 hx g0 s2 y2 ly pv R hR=>?_) (fun ys H2 s2 y2 ly pv=>?_)
 ·obtain⟨z,rfl⟩:=g0;rw[zao] at hx;obtain⟨d,hd,rfl⟩:=zaM.mp hx;have hdg:=dg d (za0 hd);simp only[dW,za8];walk_at "rd";rw[if_pos hdg.1,decide_eq_true (show d<10 by lia)];exact hR _ _ _ ⟨_,rfl⟩ (aq.refl _) (fun _=>pv) (fun z=>by cases z)
 ·subst pv;intro p hp;exact⟨_,_,_,rfl,rfl,.of (aq.new hp _ _ _ y2),.of ah,qq _ (s2.BD hp _)⟩
theorem qK(T:Tx K mg t){c Pt:zdv}(B:hZ K mg base c Pt)(hc:qg K t.bS c)(b8:bD P w K mg base gD 1 t.cW t.cT ["body", "behind"] (lG K))(bT:bD P w K mg base gD 6 t.bH t.bK ["body"] (kl K 4))(mG:bD P w K mg base gD 7 t.oG t.lN ["program"] (yt K)) :
 bD P w K mg base gD 15 t.c9 t.eB ["ahead"] (Nb "first_inputs.<locals>.<lambda>" Pt (kO (fJ aF))):=by
 have rA:=zM (P:=P) (w:=w) (base:=base) T B hc b8 bT mG;have Aw:=zy (P:=P) (w:=w) (base:=base) T;have lB:=pf (P:=P) (w:=w) (base:=base) T B hc b8 bT mG;have gN:=lU (P:=P) (w:=w) (base:=base) T;refine T.cL.F.rE jH (fun vs H Q E h=>?_) (fun eO A outer s H vs Q E hr h=>?_)
 ·obtain⟨_,_,rfl⟩:=h;rfl
 obtain⟨m,ps,rfl,h1,h2,yP,tb,q⟩:=h;have nd:=jH.nd;refine⟨_,[some (.int m),none],(@ai _ _ _ _ _ (@eE _ _ 1 _ _ _ _ nd rfl (zaJ rfl) (@cB _ _ _ _ _ _ _ _ _ _ _ _ _ _ _ _ Aw (hr.mono (by first|decide|omega)) rfl T.fE.m T.fE.F.kp T.fE.b .nil fj (@ae _ _ _ _ _ (pv 0) (@ag _) (@aH _ _ _ _)) (by first |rfl |exact .inl rfl |exact .inr rfl |decide |(intro _;rfl) |assumption) (by first |rfl |exact .inl rfl |exact .inr rfl |decide |(intro _;rfl) |assumption) (by first |rfl |exact .inl rfl |exact .inr rfl |decide |(intro _;rfl) |assumption)) (by first |rfl |exact .inl rfl |exact .inr rfl |decide |(intro _;rfl) |assumption) (by first |rfl |exact .inl rfl |exact .inr rfl |decide |(intro _;rfl) |assumption)) (@ai _ _ _ _ _ (@bY _ _ _ _ _ _ _ _ (@aW _ _ _ _ _ _ _ _ (@QS _) (@aX _ _ _ _ _ _ _ _ (@dH _) (@aX _ _ _ _ _ _ _ _ (@dH _) (@aX _ _ _ _ _ _ _ _ (@dH _) (@aX _ _ _ _ _ _ _ _ (@dH _) (@ao _ _ _ _) (pv 0)) (@aX _ _ _ _ _ _ _ _ (@iN _) (@ao _ _ _ _) (@ao _ _ _ _))) (@ao _ _ _ _)) (@aX _ _ _ _ _ _ _ _ (@iN _) (@ao _ _ _ _) (@ao _ _ _ _))) (@ao _ _ _ _) (bc _)) (@ar _ _ _ (@aQ _ _ _ _ (@iO _ _ _ _ _ _ _ _ (@O0 _ (Ly hr)) (@cB _ _ _ _ _ _ _ _ _ _ _ _ _ _ _ _ lB (hr.mono (by first|decide|omega)) rfl T.cJ.m T.cJ.F.kp T.cJ.b .nil fj (@ae _ _ _ _ _ (pv 1) (@ag _) (@aH _ _ _ _)) (by first |rfl |exact .inl rfl |exact .inr rfl |decide |(intro _;rfl) |assumption) (by first |rfl |exact .inl rfl |exact .inr rfl |decide |(intro _;rfl) |assumption) (by first |rfl |exact .inl rfl |exact .inr rfl |decide |(intro _;rfl) |assumption)) (@dZ _ _ _ _ _ _ _ ["k"] [] _ _ _ _ rfl (by rfl) (by rfl) (@kD _ _ _ _ _ _ rfl T.lR (@ae _ _ _ _ _ (@ao _ _ _ _) (@ag _) (@ax _ _ _ _ _)) (by first |rfl |exact .inl rfl |exact .inr rfl |decide |(intro _;rfl) |assumption)) (fun _ _ _ _=>(@cH _ _ 0 _ (by show List.Nodup (["k"]:List Str);decide +kernel) rfl (zaJ rfl) (by first |rfl |exact .inl rfl |exact .inr rfl |decide |(intro _;rfl) |assumption))) (fun _ _ _ _=>(@dY _)) (fun _ _ _ _=>(@iO _ _ _ _ _ _ _ _ (@dP _) (pv 0) (@ao _ _ _ _) (bc _))) (by first |rfl |exact .inl rfl |exact .inr rfl |decide |(intro _;rfl) |assumption)) (bc _)))) (@ba _)) (@ar _ _ _ (@aQ _ _ _ _ (@cB _ _ _ _ _ _ _ _ _ _ _ _ _ _ _ _ gN (hr.mono (by first|decide|omega)) rfl T.bo.m T.bo.F.kp T.bo.b .nil fj (@ae _ _ _ _ _ (@cB _ _ _ _ _ _ _ _ _ _ _ _ _ _ _ _ rA (hr.mono (by first|decide|omega)) rfl T.fh.m T.fh.F.kp T.fh.b .nil Fh (@ae _ _ _ _ _ (pv 1) (@ag _) (@aH _ _ _ _)) (by first |rfl |exact .inl rfl |exact .inr rfl |decide |(intro _;rfl) |assumption) (by first |rfl |exact .inl rfl |exact .inr rfl |decide |(intro _;rfl) |assumption) (by first |rfl |exact .inl rfl |exact .inr rfl |decide |(intro _;rfl) |assumption)) (@ae _ _ _ _ _ (@br _ _ _ _ (@ae _ _ _ _ _ (@aG _ _ _ _ _ (@bC _ _ ([.str "must",.int 4]) (by kernel_rfl))) (@ag _) (@aV _ _ _ _ _))) (@ae _ _ _ _ _ (@ao _ _ _ _) (@ag _) (@ax _ _ _ _ _)) (@pS _ _ _ _)) (@bJ _ _ _ _ _ _)) (by first |rfl |exact .inl rfl |exact .inr rfl |decide |(intro _;rfl) |assumption) (by first |rfl |exact .inl rfl |exact .inr rfl |decide |(intro _;rfl) |assumption) (by first |rfl |exact .inl rfl |exact .inr rfl |decide |(intro _;rfl) |assumption)))))),rfl,?_⟩;refine aw fun U1 gy=>?_;walk_at "rd";refine⟨m,rfl,by lia,fun v H1 s1 r1=>(gy _ _).mpr ?_⟩;clear gy;obtain⟨d,mn,cnt,⟨f,kp,lf,dg⟩,nv,b1,b2⟩:=Tv h1 h2;refine aw fun U2 i4=>?_;walk_at "rd";refine⟨mulL (by decide) (by decide),mulL (by decide) (by decide),?_⟩;split
 ·next Oe=>
  refine⟨_,_,ps,rfl,r1,d,mn,by rw[cnt];lia,s1 _ _ yP,tb.up fun _ _ e=>s1 _ _ e,fun l H2 NH u2 y2 t2 yl=>?_⟩;simp only[gO];walk_at "rd";refine⟨_,rfl,by lia,by lia,fun D hD=>?_⟩;refine qV (r:=[]) (fun i ys Hy=>ys=(zaB i).map fun k=>V.bl (decide (k=12))) (by decide) hD rfl (fun i ys H3 hi s3 y3 ly pv R hR=>?_) (fun ys H3 s3 y3 ly pv=>?_)
  ·walk_at "rd";refine hR _ _ (aq.refl _) ?_;rw[pv,zaR,zat,List.map_singleton]
   congr 2
   exact congrArg V.bl (decide_eq_decide.mpr (by lia))
  ·subst pv;refine⟨.lst ((zaB 14).map fun k=>Dp.bl (decide (k=12))),?_,?_,⟨_,rfl⟩,by decide,q _⟩
   ·exact Rep.bN.mpr ⟨_,_,rfl,.of (s3 _ _ yl),qv _⟩
   ·exact Rep.bN.mpr ⟨_,_,rfl,.of y3,qv _⟩
 ·next hle=>
  refine(i4 _ _).mpr ?_;clear i4;walk_at "rd";have c2:(aK (dB m) (bf (dB m))).length<=2000:=by rw[cnt];lia
  refine⟨_,_,ps,rfl,r1,d,mn,fun _=>⟨b1,b2⟩,s1 _ _ yP,tb.up fun _ _ e=>s1 _ _ e,fun _ qq li ln us nw H2 NH u2 y2 t2 su=>?_,fun h=>absurd h (by lia)⟩;intro p1 HP;have e1:=aq.new HP (.tup [V.str (zac "must"),V.int 4]);have g1:Rep K (upd H2 p1 (.tup [V.str (zac "must"),V.int 4])) (g7 (.bW 4)) (.ref p1):=Rep.new HP (.cons rS (.cons mJ .nil));generalize upd H2 p1 (.tup [V.str (zac "must"),V.int 4])=H3 at *;intro p2 BB;refine F4 su (e1.BD BB _) kp b2 dg (by lia) ah ?_ fun H' _=>q H';rw[nv];exact .cons (Rep.mono (aq.new BB _) g1) .nil
theorem xF(T:Tx K mg t):bD P w K mg base gD 1 t.fU t.ib ["sizes", "says"] (Eb K):=by
 refine T.eV.F.rE pd (fun vs H Q E h=>?_) (fun eO A outer s H vs Q E hr h=>?_)
 ·obtain⟨_,_,_,_,_,rfl⟩:=h;rfl
 obtain⟨sz,a,b,c,n,rfl,ySz,hn,q⟩:=h;have nd:=pd.nd;refine⟨_,[some (.ref sz),some (.int n),none,none,none,none,none],(@ai _ _ _ _ _ (@eE _ _ 2 _ _ _ _ nd rfl (zaJ rfl) (@br _ _ _ _ (@ae _ _ _ _ _ (@aG _ _ _ _ _ (@ae _ _ _ _ _ (@aN _ _ _ _) (@ae _ _ _ _ _ (@aO _ _ _ _ _ _ _ (@da _) (pv 0) (@ao _ _ _ _) (@av _ _ _)) (@ae _ _ _ _ _ (@ao _ _ _ _) (@ag _) (@ax _ _ _ _ _)) (@bF _ _ _ _ _)) (@ax _ _ _ _ _))) (@ae _ _ _ _ _ (@aG _ _ _ _ _ (@ae _ _ _ _ _ (@aN _ _ _ _) (@ae _ _ _ _ _ (@aO _ _ _ _ _ _ _ (@da _) (pv 0) (@ao _ _ _ _) (@av _ _ _)) (@ae _ _ _ _ _ (@ao _ _ _ _) (@ag _) (@ax _ _ _ _ _)) (@bF _ _ _ _ _)) (@ax _ _ _ _ _))) (@ae _ _ _ _ _ (@aG _ _ _ _ _ (@ae _ _ _ _ _ (@aN _ _ _ _) (@ae _ _ _ _ _ (@aO _ _ _ _ _ _ _ (@da _) (pv 0) (@ao _ _ _ _) (@av _ _ _)) (@ae _ _ _ _ _ (@ao _ _ _ _) (@ag _) (@ax _ _ _ _ _)) (@bF _ _ _ _ _)) (@ax _ _ _ _ _))) (@ae _ _ _ _ _ (@aG _ _ _ _ _ (@bC _ _ ([.str "d",.int 10,.int 0]) (by kernel_rfl))) (@ag _) (@aV _ _ _ _ _)) (@aV _ _ _ _ _)) (@aV _ _ _ _ _)) (@aV _ _ _ _ _))) (by first |rfl |exact .inl rfl |exact .inr rfl |decide |(intro _;rfl) |assumption) (by first |rfl |exact .inl rfl |exact .inr rfl |decide |(intro _;rfl) |assumption)) (@ai _ _ _ _ _ (@eE _ _ 3 _ _ _ _ nd rfl (zaJ rfl) (@aG _ _ _ _ _ (@bC _ _ ([.str "number",.int 1]) (by kernel_rfl))) (by first |rfl |exact .inl rfl |exact .inr rfl |decide |(intro _;rfl) |assumption) (by first |rfl |exact .inl rfl |exact .inr rfl |decide |(intro _;rfl) |assumption)) (@ai _ _ _ _ _ (@eE _ _ 4 _ _ _ _ nd rfl (zaJ rfl) (@br _ _ _ _ (@ae _ _ _ _ _ (@aG _ _ _ _ _ (@ae _ _ _ _ _ (@aN _ _ _ _) (@ae _ _ _ _ _ (@ao _ _ _ _) (@ae _ _ _ _ _ (@aN _ _ _ _) (@ae _ _ _ _ _ (@aG _ _ _ _ _ (@ae _ _ _ _ _ (@aN _ _ _ _) (@ae _ _ _ _ _ (@aG _ _ _ _ _ (@bC _ _ ([.str "box",.str "c"]) (by kernel_rfl))) (@ae _ _ _ _ _ (pv 3) (@ag _) (@aH _ _ _ _)) (@aV _ _ _ _ _)) (@ax _ _ _ _ _))) (@ag _) (@aV _ _ _ _ _)) (@ax _ _ _ _ _)) (@ax _ _ _ _ _)) (@ax _ _ _ _ _))) (@ag _) (@aV _ _ _ _ _))) (by first |rfl |exact .inl rfl |exact .inr rfl |decide |(intro _;rfl) |assumption) (by first |rfl |exact .inl rfl |exact .inr rfl |decide |(intro _;rfl) |assumption)) (@ai _ _ _ _ _ (@eE _ _ 5 _ _ _ _ nd rfl (zaJ rfl) (@br _ _ _ _ (@ae _ _ _ _ _ (@aG _ _ _ _ _ (@ae _ _ _ _ _ (@aN _ _ _ _) (@ae _ _ _ _ _ (@ao _ _ _ _) (@ae _ _ _ _ _ (@aN _ _ _ _) (@ae _ _ _ _ _ (@aG _ _ _ _ _ (@ae _ _ _ _ _ (@aN _ _ _ _) (@ae _ _ _ _ _ (@aG _ _ _ _ _ (@bC _ _ ([.str "box",.str "b"]) (by kernel_rfl))) (@ae _ _ _ _ _ (pv 3) (@ag _) (@aH _ _ _ _)) (@aV _ _ _ _ _)) (@ax _ _ _ _ _))) (@ag _) (@aV _ _ _ _ _)) (@ax _ _ _ _ _)) (@ax _ _ _ _ _)) (@ax _ _ _ _ _))) (@ae _ _ _ _ _ (@aG _ _ _ _ _ (@ae _ _ _ _ _ (@aN _ _ _ _) (@ae _ _ _ _ _ (@ao _ _ _ _) (@ae _ _ _ _ _ (@aN _ _ _ _) (@ae _ _ _ _ _ (@aG _ _ _ _ _ (@bC _ _ ([.str "box",.str "b"]) (by kernel_rfl))) (@ae _ _ _ _ _ (@aG _ _ _ _ _ (@bC _ _ ([.str "number",.int 0]) (by kernel_rfl))) (@ae _ _ _ _ _ (pv 4) (@ae _ _ _ _ _ (@br _ _ _ _ (@ag _)) (@ag _) (@pS _ _ _ _)) (@aH _ _ _ _)) (@aV _ _ _ _ _)) (@aV _ _ _ _ _)) (@ax _ _ _ _ _)) (@ax _ _ _ _ _)) (@ax _ _ _ _ _))) (@ag _) (@aV _ _ _ _ _)) (@aV _ _ _ _ _))) (by first |rfl |exact .inl rfl |exact .inr rfl |decide |(intro _;rfl) |assumption) (by first |rfl |exact .inl rfl |exact .inr rfl |decide |(intro _;rfl) |assumption)) (@ai _ _ _ _ _ (@eE _ _ 6 _ _ _ _ nd rfl (zaJ rfl) (@br _ _ _ _ (@ae _ _ _ _ _ (@aG _ _ _ _ _ (@ae _ _ _ _ _ (@aN _ _ _ _) (@ae _ _ _ _ _ (@ao _ _ _ _) (@ae _ _ _ _ _ (@aN _ _ _ _) (@ae _ _ _ _ _ (@aG _ _ _ _ _ (@ae _ _ _ _ _ (@aN _ _ _ _) (@ae _ _ _ _ _ (@aG _ _ _ _ _ (@bC _ _ ([.str "box",.str "a"]) (by kernel_rfl))) (@ae _ _ _ _ _ (pv 3) (@ag _) (@aH _ _ _ _)) (@aV _ _ _ _ _)) (@ax _ _ _ _ _))) (@ag _) (@aV _ _ _ _ _)) (@ax _ _ _ _ _)) (@ax _ _ _ _ _)) (@ax _ _ _ _ _))) (@ae _ _ _ _ _ (@aG _ _ _ _ _ (@ae _ _ _ _ _ (@aN _ _ _ _) (@ae _ _ _ _ _ (@ao _ _ _ _) (@ae _ _ _ _ _ (@aN _ _ _ _) (@ae _ _ _ _ _ (@aG _ _ _ _ _ (@bC _ _ ([.str "box",.str "a"]) (by kernel_rfl))) (@ae _ _ _ _ _ (@aG _ _ _ _ _ (@bC _ _ ([.str "number",.int 0]) (by kernel_rfl))) (@ae _ _ _ _ _ (pv 5) (@ae _ _ _ _ _ (@br _ _ _ _ (@ag _)) (@ag _) (@pS _ _ _ _)) (@aH _ _ _ _)) (@aV _ _ _ _ _)) (@aV _ _ _ _ _)) (@ax _ _ _ _ _)) (@ax _ _ _ _ _)) (@ax _ _ _ _ _))) (@ag _) (@aV _ _ _ _ _)) (@aV _ _ _ _ _))) (by first |rfl |exact .inl rfl |exact .inr rfl |decide |(intro _;rfl) |assumption) (by first |rfl |exact .inl rfl |exact .inr rfl |decide |(intro _;rfl) |assumption)) (@ai _ _ _ _ _ (@eE _ _ 6 _ _ _ _ nd rfl (zaJ rfl) (@aX _ _ _ _ _ _ _ _ (@nX _) (pv 6) (@dZ _ _ _ _ _ _ _ ["k"] [] _ _ _ _ rfl (by rfl) (by rfl) (@kD _ _ _ _ _ _ rfl T.lR (@ae _ _ _ _ _ (pv 1) (@ag _) (@aH _ _ _ _)) (by first |rfl |exact .inl rfl |exact .inr rfl |decide |(intro _;rfl) |assumption)) (fun _ _ _ _=>(@cH _ _ 0 _ (by show List.Nodup (["k"]:List Str);decide +kernel) rfl (zaJ rfl) (by first |rfl |exact .inl rfl |exact .inr rfl |decide |(intro _;rfl) |assumption))) (fun _ _ _ _=>(@dY _)) (fun _ _ _ _=>(@aG _ _ _ _ _ (@ae _ _ _ _ _ (@aN _ _ _ _) (@ae _ _ _ _ _ (@aX _ _ _ _ _ _ _ _ (@dH _) (@ao _ _ _ _) (pv 0)) (@ae _ _ _ _ _ (@aG _ _ _ _ _ (@ae _ _ _ _ _ (@aN _ _ _ _) (@ae _ _ _ _ _ (pv 0) (@ag _) (@aH _ _ _ _)) (@ax _ _ _ _ _))) (@ag _) (@aV _ _ _ _ _)) (@mx _ _ _ _ _ _)) (@ax _ _ _ _ _)))) (by first |rfl |exact .inl rfl |exact .inr rfl |decide |(intro _;rfl) |assumption))) (by first |rfl |exact .inl rfl |exact .inr rfl |decide |(intro _;rfl) |assumption) (by first |rfl |exact .inl rfl |exact .inr rfl |decide |(intro _;rfl) |assumption)) (@ar _ _ _ (@aQ _ _ _ _ (@aG _ _ _ _ _ (@ae _ _ _ _ _ (pv 2) (@ae _ _ _ _ _ (@br _ _ _ _ (@ae _ _ _ _ _ (@aG _ _ _ _ _ (@ae _ _ _ _ _ (@aN _ _ _ _) (@ae _ _ _ _ _ (@ao _ _ _ _) (@ae _ _ _ _ _ (@aN _ _ _ _) (@ae _ _ _ _ _ (@aG _ _ _ _ _ (@bC _ _ ([.str "number",.int 0]) (by kernel_rfl))) (@ae _ _ _ _ _ (pv 3) (@ae _ _ _ _ _ (pv 6) (@ag _) (@aH _ _ _ _)) (@aH _ _ _ _)) (@aV _ _ _ _ _)) (@ax _ _ _ _ _)) (@ax _ _ _ _ _)) (@ax _ _ _ _ _))) (@ag _) (@aV _ _ _ _ _))) (@ag _) (@pS _ _ _ _)) (@aH _ _ _ _))))))))))),rfl,?_⟩;have line:zdD=2 ^ 24:=rfl;refine aw fun U1 gy=>?_;walk_at "rd";refine eY (.of ySz) (aC (j:=0) rfl) ?_;intro p1 HP;generalize e1:upd H p1 _=H1;have s1:=gT e1 HP;have r1:Rep K (sub H H1) (j0 ⟨[97],a,0⟩) (.ref p1):=zY (aq.refl _) e1 HP (.cons rS (.cons mJ (.cons mJ .nil)));clear e1;refine eY (.of (s1 _ _ ySz)) (aC (j:=1) rfl) ?_;intro p2 BB;generalize e2:upd H1 p2 _=H2;have s2:=gT e2 BB;have r2:Rep K (sub H H2) (j0 ⟨[98],b,0⟩) (.ref p2):=zY s1 e2 BB (.cons rS (.cons mJ (.cons mJ .nil)));clear e2;refine eY (.of ((s1.trans s2) _ _ ySz)) (aC (j:=2) rfl) ?_;intro p3 Nn;generalize e3:upd H2 p3 _=H3;have s3:=gT e3 Nn;have r3:Rep K (sub H H3) (j0 ⟨[99],c,0⟩) (.ref p3):=zY (s1.trans s2) e3 Nn (.cons rS (.cons mJ (.cons mJ .nil)));clear e3;intro p4 HQ;generalize e4:upd H3 p4 _=H4;have s4:=gT e4 HQ;have r4:Rep K (sub H H4) (j0 ⟨[100],10,0⟩) (.ref p4):=zY ((s1.trans s2).trans s3) e4 HQ (.cons rS (.cons mJ (.cons mJ .nil)));clear e4;have fb:aD K (sub H H4) ((pE a b c n).aA.map j0) [.ref p1,.ref p2,.ref p3,.ref p4]:=(.cons (Rep.mono (bG ((s2.trans s3).trans s4)) r1) (.cons (Rep.mono (bG (s3.trans s4)) r2) (.cons (Rep.mono (bG s4) r3) (.cons r4 .nil))))
 intro p5 HR;generalize e5:upd H4 p5 _=H5;have s5:=gL e5 HR;have y5:=Ai e5;have r5:Rep K (sub H H5) (.lst ((pE a b c n).aA.map j0)) (.ref p5):=TC (((s1.trans s2).trans s3).trans s4) e5 HR (.cons (Rep.mono (bG ((s2.trans s3).trans s4)) r1) (.cons (Rep.mono (bG (s3.trans s4)) r2) (.cons (Rep.mono (bG s4) r3) (.cons r4 .nil))));clear e5;refine(gy _ _).mpr (aw fun U2 i4=>?_);clear gy;walk_at "rd";intro p6 vB;generalize e6:upd H5 p6 _=H6;have s6:=gT e6 vB;have r6:Rep K (sub H H6) (pA (.num 1)) (.ref p6):=zY ((((s1.trans s2).trans s3).trans s4).trans s5) e6 vB (.cons rS (.cons mJ .nil));clear e6;refine(i4 _ _).mpr (aw fun U3 ka=>?_);clear i4;walk_at "rd";intro p7 Gd;generalize e7:upd H6 p7 _=H7;have s7:=gT e7 Gd;have r7:Rep K (sub H H7) (pA (.box [99])) (.ref p7):=zY (((((s1.trans s2).trans s3).trans s4).trans s5).trans s6) e7 Gd (.cons rS (.cons rS .nil));clear e7;intro p8 Bf;generalize e8:upd H7 p8 _=H8;have s8:=gT e8 Bf;have r8:Rep K (sub H H8) (pA (dQ [99])) (.ref p8):=zY ((((((s1.trans s2).trans s3).trans s4).trans s5).trans s6).trans s7) e8 Bf (.cons rS (.cons r7 (.cons (Rep.mono (bG s7) r6) .nil)));clear e8;intro p9 EM;generalize e9:upd H8 p9 _=H9;have s9:=gT e9 EM;have r9:Rep K (sub H H9) (fI (.put 10 [99] (dQ [99]))) (.ref p9):=zY (((((((s1.trans s2).trans s3).trans s4).trans s5).trans s6).trans s7).trans s8) e9 EM (.cons rS (.cons mJ (.cons rS (.cons r8 .nil))));clear e9;intro TH Qj;generalize Zg:upd H9 TH _=N8;have lE:=gL Zg Qj;have Qk:=Ai Zg;have RI:Rep K (sub H N8) (.lst (xv [(.put 10 [99] (dQ [99]))])) (.ref TH):=TC ((((((((s1.trans s2).trans s3).trans s4).trans s5).trans s6).trans s7).trans s8).trans s9) Zg Qj (.cons r9 .nil);clear Zg;refine(ka _ _).mpr (aw fun U4 sJ=>?_);clear ka;walk_at "rd";intro pG Ge;generalize Np:upd N8 pG _=N9;have mF:=gT Np Ge;have YD:Rep K (sub H N9) (pA (.box [98])) (.ref pG):=zY (((((((((s1.trans s2).trans s3).trans s4).trans s5).trans s6).trans s7).trans s8).trans s9).trans lE) Np Ge (.cons rS (.cons rS .nil));clear Np;intro W0 Gf;generalize RC:upd N9 W0 _=HS;have nM:=gT RC Gf;have r12:Rep K (sub H HS) (pA (dQ [98])) (.ref W0):=zY ((((((((((s1.trans s2).trans s3).trans s4).trans s5).trans s6).trans s7).trans s8).trans s9).trans lE).trans mF) RC Gf (.cons rS (.cons YD (.cons (Rep.mono (bG ((((s7.trans s8).trans s9).trans lE).trans mF)) r6) .nil)));clear RC;intro TJ Ei;generalize XN:upd HS TJ _=W2;have ua:=gT XN Ei;have r13:Rep K (sub H W2) (fI (.put 8 [98] (dQ [98]))) (.ref TJ):=zY (((((((((((s1.trans s2).trans s3).trans s4).trans s5).trans s6).trans s7).trans s8).trans s9).trans lE).trans mF).trans nM) XN Ei (.cons rS (.cons mJ (.cons rS (.cons r12 .nil))));clear XN;intro p14 TK;generalize XO:upd W2 p14 _=RD;have ni:=gT XO TK;have YL:Rep K (sub H RD) (pA (.box [98])) (.ref p14):=zY ((((((((((((s1.trans s2).trans s3).trans s4).trans s5).trans s6).trans s7).trans s8).trans s9).trans lE).trans mF).trans nM).trans ua) XO TK (.cons rS (.cons rS .nil));clear XO;intro TL Ql;generalize e15:upd RD TL _=TM;have o8:=gT e15 Ql;have r15:Rep K (sub H TM) (pA (.num 0)) (.ref TL):=zY (((((((((((((s1.trans s2).trans s3).trans s4).trans s5).trans s6).trans s7).trans s8).trans s9).trans lE).trans mF).trans nM).trans ua).trans ni) e15 Ql (.cons rS (.cons mJ .nil));clear e15;intro Am Cc;generalize RE:upd TM Am _=RF;have qG:=gL RE Cc;have y16:=Ai RE;have YF:Rep K (sub H RF) (.lst (xv [])) (.ref Am):=TC ((((((((((((((s1.trans s2).trans s3).trans s4).trans s5).trans s6).trans s7).trans s8).trans s9).trans lE).trans mF).trans nM).trans ua).trans ni).trans o8) RE Cc .nil;clear RE;intro An Nq;generalize TN:upd RF An _=UQ;have uk:=gT TN Nq;have YG:Rep K (sub H UQ) (fI (.ifs 9 [61] (.box [98]) (.num 0) [(.put 10 [99] (dQ [99]))] [])) (.ref An):=zY (((((((((((((((s1.trans s2).trans s3).trans s4).trans s5).trans s6).trans s7).trans s8).trans s9).trans lE).trans mF).trans nM).trans ua).trans ni).trans o8).trans qG) TN Nq (.cons rS (.cons mJ (.cons rS (.cons (Rep.mono (bG (o8.trans qG)) YL) (.cons (Rep.mono (bG qG) r15) (.cons (Rep.mono (bG (((((mF.trans nM).trans ua).trans ni).trans o8).trans qG)) RI) (.cons YF .nil)))))));clear TN;intro Nr Nt;generalize Oa:upd UQ Nr _=TQ;have wI:=gL Oa Nt;have y18:=Ai Oa;have r18:Rep K (sub H TQ) (.lst (xv [.put 8 [98] (dQ [98]),(.ifs 9 [61] (.box [98]) (.num 0) [(.put 10 [99] (dQ [99]))] [])])) (.ref Nr):=TC ((((((((((((((((s1.trans s2).trans s3).trans s4).trans s5).trans s6).trans s7).trans s8).trans s9).trans lE).trans mF).trans nM).trans ua).trans ni).trans o8).trans qG).trans uk) Oa Nt (.cons (Rep.mono (bG (((ni.trans o8).trans qG).trans uk)) r13) (.cons YG .nil));clear Oa;refine(sJ _ _).mpr (aw fun U5 Bg=>?_);clear sJ;walk_at "rd";intro TR Qm;generalize e19:upd TQ TR _=YH;have xC:=gT e19 Qm;have r19:Rep K (sub H YH) (pA (.box [97])) (.ref TR):=zY (((((((((((((((((s1.trans s2).trans s3).trans s4).trans s5).trans s6).trans s7).trans s8).trans s9).trans lE).trans mF).trans nM).trans ua).trans ni).trans o8).trans qG).trans uk).trans wI) e19 Qm (.cons rS (.cons rS .nil));clear e19;intro W4 Nu;generalize TU:upd YH W4 _=W5;have xW:=gT TU Nu;have r20:Rep K (sub H W5) (pA (dQ [97])) (.ref W4):=zY ((((((((((((((((((s1.trans s2).trans s3).trans s4).trans s5).trans s6).trans s7).trans s8).trans s9).trans lE).trans mF).trans nM).trans ua).trans ni).trans o8).trans qG).trans uk).trans wI).trans xC) TU Nu (.cons rS (.cons r19 (.cons (Rep.mono (bG ((((((((((((s7.trans s8).trans s9).trans lE).trans mF).trans nM).trans ua).trans ni).trans o8).trans qG).trans uk).trans wI).trans xC)) r6) .nil)));clear TU;intro CQ Nv;generalize TV:upd W5 CQ _=UR;have zF:=gT TV Nv;have W6:Rep K (sub H UR) (fI (.put 6 [97] (dQ [97]))) (.ref CQ):=zY (((((((((((((((((((s1.trans s2).trans s3).trans s4).trans s5).trans s6).trans s7).trans s8).trans s9).trans lE).trans mF).trans nM).trans ua).trans ni).trans o8).trans qG).trans uk).trans wI).trans xC).trans xW) TV Nv (.cons rS (.cons mJ (.cons rS (.cons r20 .nil))));clear TV;intro W7 Nw;generalize RG:upd UR W7 _=TX;have xD:=gT RG Nw;have r22:Rep K (sub H TX) (pA (.box [97])) (.ref W7):=zY ((((((((((((((((((((s1.trans s2).trans s3).trans s4).trans s5).trans s6).trans s7).trans s8).trans s9).trans lE).trans mF).trans nM).trans ua).trans ni).trans o8).trans qG).trans uk).trans wI).trans xC).trans xW).trans zF) RG Nw (.cons rS (.cons rS .nil));clear RG;intro RH Qn;generalize e23:upd TX RH _=H23;have wJ:=gT e23 Qn;have r23:Rep K (sub H H23) (pA (.num 0)) (.ref RH):=zY (((((((((((((((((((((s1.trans s2).trans s3).trans s4).trans s5).trans s6).trans s7).trans s8).trans s9).trans lE).trans mF).trans nM).trans ua).trans ni).trans o8).trans qG).trans uk).trans wI).trans xC).trans xW).trans zF).trans xD) e23 Qn (.cons rS (.cons mJ .nil));clear e23;intro p24 XQ;generalize Zh:upd H23 p24 _=H24;have xo:=gL Zh XQ;have y24:=Ai Zh;have r24:Rep K (sub H H24) (.lst (xv [])) (.ref p24):=TC ((((((((((((((((((((((s1.trans s2).trans s3).trans s4).trans s5).trans s6).trans s7).trans s8).trans s9).trans lE).trans mF).trans nM).trans ua).trans ni).trans o8).trans qG).trans uk).trans wI).trans xC).trans xW).trans zF).trans xD).trans wJ) Zh XQ .nil;clear Zh;intro Vg XR;generalize e25:upd H24 Vg _=H25;have Aa:=gT e25 XR;have r25:Rep K (sub H H25) (fI (.ifs 7 [61] (.box [97]) (.num 0) [.put 8 [98] (dQ [98]),(.ifs 9 [61] (.box [98]) (.num 0) [(.put 10 [99] (dQ [99]))] [])] [])) (.ref Vg):=zY (((((((((((((((((((((((s1.trans s2).trans s3).trans s4).trans s5).trans s6).trans s7).trans s8).trans s9).trans lE).trans mF).trans nM).trans ua).trans ni).trans o8).trans qG).trans uk).trans wI).trans xC).trans xW).trans zF).trans xD).trans wJ).trans xo) e25 XR (.cons rS (.cons mJ (.cons rS (.cons (Rep.mono (bG (wJ.trans xo)) r22) (.cons (Rep.mono (bG xo) r23) (.cons (Rep.mono (bG (((((xC.trans xW).trans zF).trans xD).trans wJ).trans xo)) r18) (.cons r24 .nil)))))));clear e25;have fx:aD K (sub H H25) (zbY fI [.put 6 [97] (dQ [97]),(.ifs 7 [61] (.box [97]) (.num 0) [.put 8 [98] (dQ [98]),(.ifs 9 [61] (.box [98]) (.num 0) [(.put 10 [99] (dQ [99]))] [])] [])]) [.ref CQ,.ref Vg]:=(.cons (Rep.mono (bG (((xD.trans wJ).trans xo).trans Aa)) W6) (.cons r25 .nil))
 intro p26 XS;generalize Zi:upd H25 p26 _=H26;have JT:=gL Zi XS;have y26:=Ai Zi;have r26:Rep K (sub H H26) (.lst (xv [.put 6 [97] (dQ [97]),(.ifs 7 [61] (.box [97]) (.num 0) [.put 8 [98] (dQ [98]),(.ifs 9 [61] (.box [98]) (.num 0) [(.put 10 [99] (dQ [99]))] [])] [])])) (.ref p26):=TC ((((((((((((((((((((((((s1.trans s2).trans s3).trans s4).trans s5).trans s6).trans s7).trans s8).trans s9).trans lE).trans mF).trans nM).trans ua).trans ni).trans o8).trans qG).trans uk).trans wI).trans xC).trans xW).trans zF).trans xD).trans wJ).trans xo).trans Aa) Zi XS (.cons (Rep.mono (bG (((xD.trans wJ).trans xo).trans Aa)) W6) (.cons r25 .nil));clear Zi;refine(Bg _ _).mpr (aw fun U6 HW=>?_);clear Bg;walk_at "rd";simp only[gO];walk_at "rd";refine⟨_,rfl,by lia,by lia,fun p27 acf=>?_⟩;rw[zaU];refine qV (r:=[]) (fun i ys Hy=>aD K (sub H (wo Hy p27)) ((kn 13 i).map fI) ys) (by lia) acf .nil (fun i ys G2 hi c2 y2 ly z2 R hR=>?_) (fun us H27 Kl y27 lu z2=>?_)
 ·walk_at "rd";intro x1 h1;have e1:=aq.new h1 (.tup [.str (zac "number"),.int i]);obtain⟨w1,w2⟩:=B1 h1 y2 (.tup [.str (zac "number"),.int i]);have g1:Rep K (sub H (wo (upd G2 x1 (.tup [.str (zac "number"),.int i])) p27)) (pA (.num i)) (.ref x1):=by rw[w1];exact Qf (same_none ((((((((((((((((((((((((((s1.trans s2).trans s3).trans s4).trans s5).trans s6).trans s7).trans s8).trans s9).trans lE).trans mF).trans nM).trans ua).trans ni).trans o8).trans qG).trans uk).trans wI).trans xC).trans xW).trans zF).trans xD).trans wJ).trans xo).trans Aa).trans JT).trans c2) h1) w2 (.cons rS (.cons mJ .nil))
  clear w1 w2;generalize upd G2 x1 (.tup [.str (zac "number"),.int i])=G3 at *;intro x3 h3;have e2:=aq.new h3 (.tup [.str (zac "say"),.int (13+i),.ref x1]);obtain⟨w1,w2⟩:=B1 h3 (e1 _ _ y2) (.tup [.str (zac "say"),.int (13+i),.ref x1]);have g2:Rep K (sub H (wo (upd G3 x3 (.tup [.str (zac "say"),.int (13+i),.ref x1])) p27)) (fI (.say (13+i) (.num i))) (.ref x3):=by rw[w1];exact Qf (same_none (((((((((((((((((((((((((((s1.trans s2).trans s3).trans s4).trans s5).trans s6).trans s7).trans s8).trans s9).trans lE).trans mF).trans nM).trans ua).trans ni).trans o8).trans qG).trans uk).trans wI).trans xC).trans xW).trans zF).trans xD).trans wJ).trans xo).trans Aa).trans JT).trans c2).trans e1) h3) w2 (.cons rS (.cons mJ (.cons g1 .nil)))
  clear w1 w2;generalize upd G3 x3 (.tup [.str (zac "say"),.int (13+i),.ref x1])=G4 at *;refine hR _ _ (e1.trans e2) ?_;rw[mz];unfold kn;rw[zaR,zat,zat];exact(aD.mono (bG (BM (e1.trans e2))) z2).append (.cons g2 .nil)
 have f27:aD K (sub H H27) ((kn 13 n).map fI) us:=aD.mono (bG qh) z2;clear z2;refine⟨_,_,_,_,rfl,rfl,Kl _ _ y26,y27,by rw[lu];show 2+n<=_;lia,fun p28 Us=>?_⟩;have QA:=aq.new Us (.lst ([.ref CQ,.ref Vg]++us));have r28:Rep K (sub H (upd H27 p28 (.lst ([.ref CQ,.ref Vg]++us)))) (.lst (xv ([.put 6 [97] (dQ [97]),(.ifs 7 [61] (.box [97]) (.num 0) [.put 8 [98] (dQ [98]),(.ifs 9 [61] (.box [98]) (.num 0) [(.put 10 [99] (dQ [99]))] [])] [])]++kn 13 n))) (.ref p28):=by
  rw[mP,zat];exact Lj (same_none ((((((((((((((((((((((((((s1.trans s2).trans s3).trans s4).trans s5).trans s6).trans s7).trans s8).trans s9).trans lE).trans mF).trans nM).trans ua).trans ni).trans o8).trans qG).trans uk).trans wI).trans xC).trans xW).trans zF).trans xD).trans wJ).trans xo).trans Aa).trans JT).trans Kl) Us) Us ((aD.mono (bG (JT.trans Kl)) fx).append f27)
 generalize upd H27 p28 (.lst ([.ref CQ,.ref Vg]++us))=H28 at *;refine(HW _ _).mpr ?_;clear HW;walk_at "rd";intro p29 XT;generalize e29:upd H28 p29 _=H29;have QB:=gT e29 XT;have r29:Rep K (sub H H29) (pA (.num 0)) (.ref p29):=zY (((((((((((((((((((((((((((s1.trans s2).trans s3).trans s4).trans s5).trans s6).trans s7).trans s8).trans s9).trans lE).trans mF).trans nM).trans ua).trans ni).trans o8).trans qG).trans uk).trans wI).trans xC).trans xW).trans zF).trans xD).trans wJ).trans xo).trans Aa).trans JT).trans Kl).trans QA) e29 XT (.cons rS (.cons mJ .nil));clear e29;intro p30 XU;generalize e30:upd H29 p30 _=H30;have Vh:=gT e30 XU;have r30:Rep K (sub H H30) (fI (.lC 5 [60] (.num 0) (.num 1) ([.put 6 [97] (dQ [97]),(.ifs 7 [61] (.box [97]) (.num 0) [.put 8 [98] (dQ [98]),(.ifs 9 [61] (.box [98]) (.num 0) [(.put 10 [99] (dQ [99]))] [])] [])]++kn 13 n))) (.ref p30):=zY ((((((((((((((((((((((((((((s1.trans s2).trans s3).trans s4).trans s5).trans s6).trans s7).trans s8).trans s9).trans lE).trans mF).trans nM).trans ua).trans ni).trans o8).trans qG).trans uk).trans wI).trans xC).trans xW).trans zF).trans xD).trans wJ).trans xo).trans Aa).trans JT).trans Kl).trans QA).trans QB) e30 XU (.cons rS (.cons mJ (.cons rS (.cons r29 (.cons (Rep.mono (bG ((((((((((((((((((((((s7.trans s8).trans s9).trans lE).trans mF).trans nM).trans ua).trans ni).trans o8).trans qG).trans uk).trans wI).trans xC).trans xW).trans zF).trans xD).trans wJ).trans xo).trans Aa).trans JT).trans Kl).trans QA).trans QB)) r6) (.cons (Rep.mono (bG QB) r28) .nil))))));clear e30;intro p31 XW;generalize Zj:upd H30 p31 _=H31;have XX:=gL Zj XW;have y31:=Ai Zj;have r31:Rep K (sub H H31) (.lst ((pE a b c n).body.map fI)) (.ref p31):=TC (((((((((((((((((((((((((((((s1.trans s2).trans s3).trans s4).trans s5).trans s6).trans s7).trans s8).trans s9).trans lE).trans mF).trans nM).trans ua).trans ni).trans o8).trans qG).trans uk).trans wI).trans xC).trans xW).trans zF).trans xD).trans wJ).trans xo).trans Aa).trans JT).trans Kl).trans QA).trans QB).trans Vh) Zj XW (.cons r30 .nil);clear Zj;intro pz hz;have sz:=aq.new hz (.tup [.ref p5,.ref p31]);have hzz:=same_none ((((((((((((((((((((((((((((((s1.trans s2).trans s3).trans s4).trans s5).trans s6).trans s7).trans s8).trans s9).trans lE).trans mF).trans nM).trans ua).trans ni).trans o8).trans qG).trans uk).trans wI).trans xC).trans xW).trans zF).trans xD).trans wJ).trans xo).trans Aa).trans JT).trans Kl).trans QA).trans QB).trans Vh).trans XX) hz;exact q _ _ _ _ _ _ (((((((((((((((((((((((((((((((s1.trans s2).trans s3).trans s4).trans s5).trans s6).trans s7).trans s8).trans s9).trans lE).trans mF).trans nM).trans ua).trans ni).trans o8).trans qG).trans uk).trans wI).trans xC).trans xW).trans zF).trans xD).trans wJ).trans xo).trans Aa).trans JT).trans Kl).trans QA).trans QB).trans Vh).trans XX).trans sz) TB (fun _ h=>zf h) (.of (by rw[oA hzz];exact ah)) (by rw[oA (same_none (((s1.trans s2).trans s3).trans s4) HR)];exact sz _ _ ((((((((((((((((((((((((((s6.trans s7).trans s8).trans s9).trans lE).trans mF).trans nM).trans ua).trans ni).trans o8).trans qG).trans uk).trans wI).trans xC).trans xW).trans zF).trans xD).trans wJ).trans xo).trans Aa).trans JT).trans Kl).trans QA).trans QB).trans Vh).trans XX) _ _ y5)) (aD.mono (bG (((((((((((((((((((((((((((s5.trans s6).trans s7).trans s8).trans s9).trans lE).trans mF).trans nM).trans ua).trans ni).trans o8).trans qG).trans uk).trans wI).trans xC).trans xW).trans zF).trans xD).trans wJ).trans xo).trans Aa).trans JT).trans Kl).trans QA).trans QB).trans Vh).trans XX).trans sz)) fb) (Qf hzz hz (.cons (Rep.mono (bG (((((((((((((((((((((((((s6.trans s7).trans s8).trans s9).trans lE).trans mF).trans nM).trans ua).trans ni).trans o8).trans qG).trans uk).trans wI).trans xC).trans xW).trans zF).trans xD).trans wJ).trans xo).trans Aa).trans JT).trans Kl).trans QA).trans QB).trans Vh).trans XX)) r5) (.cons r31 .nil)))
theorem Cn(T:Tx K mg t):bD P w K mg base gD 1 t.jJ t.kr ["deck", "many"] HG:=by
 refine T.bt.F.rE vo (fun vs H Q E h=>?_) (fun eO A outer s H vs Q E hr h=>?_)
 ·obtain⟨_,_,_,_,_,rfl,_⟩:=h;rfl
 obtain⟨D,C,G,d,many,rfl,dk,hm,hm2,V6,q⟩:=h;have nd:=vo.nd;have hu:=jB hr;refine⟨_,[some (V.ref D),some (V.int many),none,none,none,none],(ai (kE 2 nd (aO da (pv 0) ao av))
 (ai (ET (aX dH (pv 2) ao) (Kt (pv 0) ao set_list))
 (ai (bY (aW (AV (jB hr)) (aO da (pv 0) ao av) (br ag) (bc _))
 (ar (aQ (aX mv (aX dH (aX iN (aX iN (pv 2) (pv 2)) ao) (aX Bs (pv 2) ao)) (pv 1))))
 ba)
 (ai (kE 3 nd (aX mv (pv 2) (cf iQ rfl T.xk PyProof.Rows.Boot.«len» (ae (aO da (pv 0) ao av) ag bF))))
 (ai (bY (nV (aO da (aO da (pv 0) ao av) (pv 3) kh))
 (ai (kE 4 nd (aX mv (aO da (aO da (pv 0) ao av) (pv 3) kh) (pv 1)))
 (ai (ET (aX Bs (aO da (aO da (pv 0) ao av) (pv 3) kh) (pv 1)) (Kt (aO da (pv 0) ao av) (pv 3) set_list))
 (ar (aQ (pv 4)))))
 ba)
 (ai (kE 5 nd (aX mv (aX iN (aX dH (aX mv (aO da (aO da (pv 0) ao av) (pv 3) kh) ao) (aX iN ao (aX dH (pv 2) ao))) ao) ao))
 (ai (kE 5 nd (aX mv (aX iN (pv 5) (pv 5)) ao))
 (ar (aQ (aX mv (aX Bs (aX mv (aX iN (pv 5) ao) ao) ao) (pv 1))))))))))),rfl,?_⟩
 have line:zdD=2 ^ 24:=rfl;refine aw fun U1 gy=>?_;walk_at "rd";refine eY (.of dk.oy) (aC (j:=1) rfl) ((gy _ _).mpr (aw fun U2 i4=>?_));clear gy;walk_at "rd";refine⟨D,_,1,1,rfl,rfl,dk.oy,rfl,?_⟩;have u1:aS D H (upd H D (.lst [.ref C,.int (d.pos+1),.ref G,.int d.left,.int d.row])):=(aS.refl D H).put _;have y1:(upd H D (.lst [.ref C,.int (d.pos+1),.ref G,.int d.left,.int d.row])) D=_:=ah;have c1:xy D C H (upd H D (.lst [.ref C,.int (d.pos+1),.ref G,.int d.left,.int d.row])):=xy.put _ (.inl rfl);show U2 _ (upd H D (.lst [.ref C,.int (d.pos+1),.ref G,.int d.left,.int d.row]));generalize upd H D (.lst [.ref C,.int (d.pos+1),.ref G,.int d.left,.int d.row])=H1 at *;have p0:=dk.pos;have XY:jW H1 D C G {d with pos:=d.pos+1}:=dk.put u1 y1 rfl rfl (show 0<=d.pos+1 by lia);refine(i4 _ _).mpr (aw fun U3 ka=>?_);clear i4;walk_at "rd";refine eY (.of XY.oy) (aC (j:=0) rfl) fun p hp=>?_;have s2:=aq.new hp (.lst []);have y2:(upd H1 p (.lst [])) p=_:=ah;have Ep:=XY.same s2;have c2:=c1.trans (xy.of s2);generalize upd H1 p (.lst [])=H2 at *;have cm:Ip d.pos d.pos:=mulL (by lia) (by lia);refine⟨C,p,_,rfl,rfl,.of Ep.cs,.of y2,?_⟩;unfold PG.draw at q;cases hc:d.cs with
 |nil=>
  rw[if_pos hc] at q;refine(if_pos (by simp[hc])).mpr ⟨cm,mulR (by decide) (by decide),hm,q _ _ H2 rfl c2 Ep⟩
 |cons z zs=>
  have ne:d.cs≠[]:=by rw[hc];simp
  rw[<- hc];refine(if_neg (by simp[hc])).mpr ((ka _ _).mpr (aw fun U4 sJ=>?_));clear ka;rw[if_neg ne] at q;have lp:0<d.cs.length:=zb2.mpr ne;have m1:=zbB d.pos (b:=(d.cs.length:Int)) (by lia);have m2:=zbr d.pos (b:=(d.cs.length:Int)) (by lia);walk_at "rd";refine eY (.of Ep.oy) (aC (j:=0) rfl) ⟨C,_,rfl,.inl (.of Ep.cs),?_⟩;rw[zad];refine⟨by show (0:Int)<_;simp only;lia,(sJ _ _).mpr (aw fun U5 Bg=>?_)⟩;clear sJ;obtain⟨k,ek⟩:∃k:Nat,d.pos%(d.cs.length:Int)=(k:Int):=⟨_,(zbo m1).symm⟩
  simp only[ek,zaU] at q ⊢;have lk:k<d.cs.length:=by lia
  have gk:k<d.gs.length:=by rw[dk.gl];exact lk
  have eg:d.gs.getD k false=d.gs[k]:=by rw[zar,zae gk];rfl
  have ec:d.cs.getD k 0=d.cs[k]:=by rw[zar,zae lk];rfl
  rw[eg,ec] at q;have iC:(d.cs.map V.int)[k]?=some (V.int d.cs[k]):=by rw[zao,zae lk];rfl
  have iG:(d.gs.map V.bl)[k]?=some (V.bl d.gs[k]):=by rw[zao,zae gk];rfl
  walk_at "rd";refine eY (.of Ep.oy) (aC (j:=2) rfl) (eY (.of Ep.gs) (aC iG) ⟨_,rfl,?_⟩);by_cases hg:d.gs[k]=true
  ·rw[if_pos hg] at q;refine(if_pos hg).mpr (eY (.of Ep.oy) (aC (j:=0) rfl) (eY (.of Ep.cs) (aC iC) ⟨_,_,rfl,rfl,hm,eY (.of Ep.oy) (aC (j:=0) rfl) (eY (.of Ep.cs) (aC iC) ⟨_,_,rfl,rfl,?_,eY (.of Ep.oy) (aC (j:=0) rfl) ⟨C,_,k,k,rfl,rfl,Ep.cs,(by unfold QU;rw[zad];simp;lia),?_⟩⟩)⟩))
   ·exact⟨hm,by lia⟩
   ·have cC:xy D C H2 (upd H2 C (.lst ((d.cs.set k (d.cs[k]/many)).map V.int))):=xy.put _ (.inr rfl);have uC:aS C H2 (upd H2 C (.lst ((d.cs.set k (d.cs[k]/many)).map V.int))):=(aS.refl _ _).put _;rw[<- List.map_set];exact q _ _ _ rfl (c2.trans cC) ⟨uC _ _ dk.MX Ep.oy,ah,uC _ _ dk.UL.symm Ep.gs,dk.MX,dk.UK,dk.UL,by simpa using dk.len,by simpa using dk.gl,XY.pos⟩
  ·rw[if_neg hg] at q;refine(if_neg hg).mpr ((Bg _ _).mpr (aw fun U6 HW=>?_));clear Bg;walk_at "rd";refine eY (.of Ep.oy) (aC (j:=0) rfl) (eY (.of Ep.cs) (aC iC) ⟨_,_,rfl,rfl,(by decide:(0:Int)<2147483629),mulL (by decide) (by decide),_,_,rfl,rfl,_,_,rfl,rfl,mulR (by decide) (by decide),_,_,rfl,rfl,(by decide:(0:Int)<2147483629),(HW _ _).mpr (aw fun U7 YM=>?_)⟩);clear HW;simp only[];have b1:=zbB ((d.cs[k]%2147483629+62233*(d.pos+1))*48271) (b:=2147483629) (by decide);have b2:=zbr ((d.cs[k]%2147483629+62233*(d.pos+1))*48271) (b:=2147483629) (by decide);generalize (d.cs[k]%2147483629+62233*(d.pos+1))*48271%2147483629=n1 at *;walk_at "rd";refine⟨mulL (by lia) (by lia),(YM _ _).mpr ?_⟩;walk_at "rd";exact⟨mulR (by decide) (by decide),hm,q _ _ H2 rfl c2 Ep⟩
theorem Bl{K:zaa}{a D:zdv}{ns:List Int}{te:TE}{Q:VK}{r:St}{H:Hp}(f:Int->V)(hS:jc K H a (ns.map V.int))(hl:ns.length<=16000000)(hD:H D=none)
 (step:∀z H2,aq H H2->∀R:VK,R (f z) H2->te (some (.int z)::r) H2 R)
 (q:∀H2,aq H H2->H2 D=some (.lst (ns.map f))->Q (.ref D) H2):pQ (GC K a) D (dW 0) xu te Q (none::r) (upd H D (.lst [])):=by
 refine tI (fun i ys _=>ys=(ns.take i).map f) hS (by rw[zad];exact hl) hD (by simp) (fun i x ys H2 hx s2 h2 ly p2 R hR=>?_) (fun ys H2 s2 h2 p2=>q H2 s2 ?_)
 ·rw[zao] at hx;obtain⟨z,hz,rfl⟩:=zaM.mp hx;refine step z H2 s2 R (hR _ _ (.refl _) ?_);show ys++[f z]=(ns.take (i+1)).map f;rw[p2,zcG,hz,zat];rfl
 ·have p2:ys=(ns.take (ns.map V.int).length).map f:=p2;rw[zad,zaT] at p2;rw[<- p2];exact h2
theorem Co(T:Tx K mg t):bD P w K mg base gD 1 t.jK t.ky ["script"] (PY K):=by
 refine T.iJ.F.rE vp (fun vs H Q E h=>?_) (fun eO A outer s H vs Q E hr h=>?_)
 ·obtain⟨_,_,rfl,_⟩:=h;rfl
 obtain⟨a,ns,rfl,hS,XZ,q⟩:=h;have nd:=vp.nd;have hu:=jB hr;refine⟨_,[some (V.ref a),none],(ai (GP (i:=1) nd rfl (zaJ rfl) (own:=["cell"]) (ix:=[]) rfl (by rfl) (by rfl) (dN (uG xK (pv 0) xH (xI ao))) (fun _ _ _ _=>(cH (i:=0) (by show List.Nodup (["cell"]:List Str);decide +kernel) rfl (zaJ rfl))) (fun _ _ _ _=>dY) (fun _ _ _ _=>(iO QT (pv 0) (aX EY ao ao) (bc _))))
 (ar (aQ (br (ae (dZ (own:=["cell"]) (ix:=[]) rfl (by rfl) (by rfl) (dN (uG xK (pv 0) xH (xI ao))) (fun _ _ _ _=>(cH (i:=0) (by show List.Nodup (["cell"]:List Str);decide +kernel) rfl (zaJ rfl))) (fun _ _ _ _=>dY) (fun _ _ _ _=>(aX EX (pv 0) (aX iN (aX EY ao ao) (iA Dm rfl T.Nk PyProof.Rows.Boot.«int» (ae (iO QT (pv 0) (aX EY ao ao) (bc _)) ag Sz)))))) (ae ao (dG 1 (ae ao (ae ao ag ax) ax)) ax) ki))))),rfl,?_⟩
 have line:zdD=2 ^ 24:=rfl;have Nr:Vz 10 18:=⟨by decide,by decide,by decide⟩
 have Oa:(10:Int) ^ zdu 18=10 ^ 18:=rfl;refine aw fun U1 gy=>?_;walk_at "rd";simp only[gO];walk_at "rd";refine⟨_,rfl,a,_,rfl,hS,fun S hS2=>⟨S,rfl,?_⟩⟩;rw[Q8 ns XZ];have s1:=aq.new hS2 (.lst (ns.map V.int));have y1:(upd H S (.lst (ns.map V.int))) S=_:=ah;generalize upd H S (.lst (ns.map V.int))=H1 at *;refine⟨⟨_,.of y1⟩,fun G hG=>Bl (fun z=>V.bl (decide (z ≥ 10 ^ 18))) (.of y1) (by lia) hG (fun z H2 s2 R hR=>?_) (fun H2 s2 y2=>(gy _ _).mpr ?_)⟩
 ·walk_at "rd";exact⟨Nr,hR⟩
 clear gy;have hG0:H G=none:=we s1 hG;have sG:aq H H2:=s1.trans s2;walk_at "rd";simp only[gO];walk_at "rd";refine⟨_,rfl,a,_,rfl,sG.seq hS,fun S3 hS3=>⟨S3,rfl,?_⟩⟩;rw[Q8 ns XZ];have s3:=aq.new hS3 (.lst (ns.map V.int));have y3:(upd H2 S3 (.lst (ns.map V.int))) S3=_:=ah;generalize upd H2 S3 (.lst (ns.map V.int))=H3 at *;refine⟨⟨_,.of y3⟩,fun C hC=>Bl (fun z=>V.int (if z ≥ 10 ^ 18 then z-10 ^ 18 else z)) (.of y3) (by lia) hC (fun z H4 s4 R hR=>?_) (fun H4 s4 y4 D hD=>?_)⟩
 ·walk_at "rd";by_cases hz:z ≥ (10:Int) ^ 18
  ·rw[show decide ((10:Int) ^ zdu 18<=z)=true from decide_eq_true hz];rw[if_pos hz] at hR;refine⟨Nr,Nr,true,rfl,mulR (by decide) (by decide),?_⟩;rw[if_pos rfl,Int.mul_one];exact hR
  ·rw[show decide ((10:Int) ^ zdu 18<=z)=false from decide_eq_false hz];rw[if_neg hz] at hR;refine⟨Nr,Nr,false,rfl,mulR (by decide) (by decide),?_⟩;rw[if_neg zai,Int.mul_zero,Int.sub_zero];exact hR
 ·have s04:=sG.trans (s3.trans s4);have y2':=(s3.trans s4) _ _ y2;have sD:=aq.new hD (.lst [V.ref C,V.int 0,V.ref G,V.int 0,V.int 0]);refine q D C G _ (s04.trans sD) (we s04 hD) (we (sG.trans s3) hC) ⟨ah,?_,?_,(aj y4 hD).symm,(aj y2' hD).symm,(aj (s3 _ _ y2) hC).symm,?_,?_,zaF _⟩
  ·rw[sD _ _ y4];unfold tP;simp only[zbq];rfl
  ·rw[sD _ _ y2'];unfold tP;simp only[zbq];rfl
  ·unfold tP;simp only[zad];exact XZ
  ·unfold tP;simp only[zad]
theorem NN(T:Tx K mg t){n:Nat}(bT:bD P w K mg base gD (n+2) t.bH t.bK ["body"] (kl K n)) :
 bD P w K mg base gD (n+3) t.bH t.bK ["body"] (kl K (n+1)):=by
 have qJ:bD P w K mg base gD 1 t.fT t.gH ["statement"] (uQ K):=vG T;refine T.fw.F.rE nj (fun vs H Q E h=>?_) (fun eO A outer s H vs Q E hr h=>?_)
 ·obtain⟨_,_,_,rfl,_⟩:=h;rfl
 obtain⟨b,body,H0,rfl,s0,rb,hd,hf,q⟩:=h;have nd:=nj.nd;refine⟨_,[some (V.ref b),none,none,none],(ai (kE 1 nd (br ag))
 (ai (iM PassesOwn.never rfl (dN (pv 0)) (CO 2 nd)
 (ai (eG (pL zaO za4 za5 gC (pv 1) (dG 2 ag)))
 (ar (iM PassesOwn.never rfl (dN (nS qJ T.jM hr (dG 2 ag))) (CO 3 nd)
 (ar (eG (pL zaO zb9 zca vV (pv 1) (ae (nS bT T.fw hr (dG 3 ag)) ag bJ))))))))
 (ar (aQ (pv 1))))),rfl,?_⟩
 have line:zdD=2 ^ 24:=rfl;rw[Rep.bN] at rb;obtain⟨_,xs,e,hx,rs⟩:=rb;cases e;have lx:xs.length=body.length:=by rw[rs.length,zad]
 have lb:=mQ body;have sl:=Du body;refine aw fun U1 gy=>?_;walk_at "rd";intro d Zk;have s1:=aq.new Zk (.lst []);have y1:(upd H d (.lst [])) d=some (.lst []):=ah;generalize upd H d (.lst [])=H1 at *;refine(gy _ _).mpr (aw fun U2 i4=>?_);clear gy;refine kL fun U hU=>?_;walk_at "rd";refine⟨⟨xs,(s0.trans s1).seq hx⟩,hU _ _ ?_⟩;clear hU;obtain⟨Pv,qI,nO⟩:=Kj fun (i:Nat) (σ:St) (H3:Hp) zq=>∀(z2 z3:Option V) (us:List V),σ=[some (V.ref b),some (V.ref d),z2,z3]->aq H H3->us.length=(aB (body.take i)).length->H3 d=some (.lst us)->aD K H0 ((aB (body.take i)).map fI) us->zq;refine kI (K:=K) (a:=b) (xs:=xs) Pv ((qI _ _ _ fun _ zk=>zk none none [] rfl s1 rfl y1 .nil)) (fun i σ H3 _ hv=>?_) ?_ ?_
 ·refine nO _ _ _ hv _ fun _ _ _ _ s3 _ _ _=>?_;exact(s0.trans s3).seq hx
 ·intro i y σ H3 hi hv;refine nO _ _ _ hv _ fun z2 z3 us Gn s3 lu y3 r3=>?_;subst Gn;clear hv;have done:=fun σ H7=>qI (i+1) σ H7;have li:i<body.length:=by have:=(zam.mp hi).1;lia
  obtain⟨v,hv,rv⟩:=rs.get (i:=i) (d:=fI body[i]) (by rw[zao,zae li];rfl);rw[hi] at hv;cases hv;have mem:body[i]∈body:=zas li;obtain⟨fm,dm⟩:=v9 body _ mem;have et:aB (body.take (i+1))=aB (body.take i)++body[i]::(aP body[i]).flatMap aB:=by
   rw[zaI li,L2.pX,LK,O4]
  rw[et] at done;have eb:aB body=(aB (body.take i)++body[i]::(aP body[i]).flatMap aB)++aB (body.drop (i+1)):=by
   rw[<- et,<- L2.pX,zbC]
  rw[eb] at sl;have sl:(aB (body.take i)++body[i]::(aP body[i]).flatMap aB).length<=1000:=by
   rw[zaf] at sl;lia
  generalize body[i]=st at *;generalize aB (body.take i)=pre at *;simp only[dW,za8];refine aw fun U3 ka=>?_;walk_at "rd";refine⟨.inl ⟨rfl,_,.of y3⟩,d,us,y,rfl,rfl,y3,by simp only[zaf,zap] at sl;lia,(ka _ _).mpr ?_⟩;clear ka;have y4:(upd H3 d (.lst (us++[y]))) d=some (.lst (us++[y])):=ah;have s4:aq H (upd H3 d (.lst (us++[y]))):=fun z o e=>by rw[au (aj e Zk)];exact s3 z o e
  generalize upd H3 d (.lst (us++[y]))=H4 at *;refine kL fun U hU=>?_;walk_at "rd";refine⟨y,st,H0,rfl,rv,s0.trans s4,fun p bv H5 s5' hp h5 rc=>⟨p,rfl,⟨_,.of h5⟩,hU _ _ ?_⟩⟩;clear hU;have s5:=s4.trans s5';have y5:=s5' _ _ y4;have npd:p≠d:=(aj y4 hp).symm;have lbv:bv.length=(aP st).length:=by rw[rc.length,zad]
  obtain⟨Pw,Ap,oW⟩:=Kj fun (j:Nat) (σ:St) (H6:Hp) zq=>∀(z3:Option V) (EO:List V),σ=[some (V.ref b),some (V.ref d),some y,z3]->aq H H6->H6 p=some (.lst bv)->EO.length=(pre++st::((aP st).take j).flatMap aB).length->H6 d=some (.lst EO)->aD K H0 ((pre++st::((aP st).take j).flatMap aB).map fI) EO->zq;refine kI (K:=K) (a:=p) (xs:=bv) Pw ((Ap _ _ _ fun _ zk=>zk z3 (us++[y]) rfl s5 h5 (by simp[lu]) y5 ?_)) (fun j σ H6 _ hv=>?_) ?_ ?_
  ·rw[List.take_zero,zcp,zat];exact r3.append (.cons rv .nil)
  ·refine oW _ _ _ hv _ fun _ _ _ _ h6 _ _ _=>?_;exact .of h6
  ·intro j y' σ H6 hj hv;refine oW _ _ _ hv _ fun z3' EO Gn s6 h6 lu6 y6 r6=>?_;subst Gn;clear hv;have RR:=fun σ H7=>Ap (j+1) σ H7;have lj:j<(aP st).length:=by have:=(zam.mp hj).1;lia
   obtain⟨v,hv,rbj⟩:=rc.get (i:=j) (d:=.lst ((aP st)[j].map fI)) (by rw[zao,zae lj];rfl);rw[hj] at hv;cases hv;have mj:(aP st)[j]∈aP st:=zas lj;obtain⟨fb,db⟩:=om st _ mj;have ej:((aP st).take (j+1)).flatMap aB=((aP st).take j).flatMap aB++aB (aP st)[j]:=by
    rw[zaI lj,zbf];simp
   have ea:(aP st).flatMap aB=((aP st).take j).flatMap aB++aB (aP st)[j]++((aP st).drop (j+1)).flatMap aB:=by
    rw[<- ej,<- zbf,zbC]
   rw[ej] at RR;rw[ea] at sl;generalize (aP st)[j]=bb at *;generalize ((aP st).take j).flatMap aB=mid at *;generalize ((aP st).drop (j+1)).flatMap aB=rest at *;have VH:(pre++st::mid).length+(aB bb).length<=1000:=by
    simp only[zaf,zap] at sl ⊢;lia
   obtain⟨ab,_,rfl,_⟩:=Rep.bN.mp rbj;simp only[dW,za8];walk_at "rd";refine⟨.inl ⟨rfl,_,.of y6⟩,ab,bb,H0,rfl,s0.trans s6,rbj,by lia,by lia,fun d2 SS H7 s7 hd2 y7 r7=>?_⟩;have l2:SS.length=(aB bb).length:=by rw[r7.length,zad]
   refine⟨d,d2,_,_,rfl,rfl,s7 _ _ y6,y7,by lia,?_⟩;refine RR _ _ (fun _ zk=>zk _ (EO++SS) rfl (fun z o e=>by rw[au (aj e Zk)];exact s7 _ _ (s6 z o e)) (by rw[au npd];exact s7 _ _ h6) (by simp only[zaf,zap] at *;lia) ah ?_);rw[show pre++st::(mid++aB bb)=(pre++st::mid)++aB bb by simp,zat];exact r6.append r7
  ·intro σ H6 hv;refine oW _ _ _ hv _ fun z3' EO Gp s6 h6 lu6 y6 r6=>?_;subst Gp;rw[lbv,zaT] at lu6 r6;exact done _ _ (fun _ zk=>zk _ _ EO rfl s6 lu6 y6 r6)
 ·intro σ H3 hv;refine nO _ _ _ hv _ fun z2 z3 us Gp s3 lu y3 r3=>?_;subst Gp;rw[lx,zaT] at lu r3;refine(i4 _ _).mpr ?_;walk_at "rd";exact q d us H3 s3 Zk y3 r3
theorem Bm(T:Tx K mg t):∀n,bD P w K mg base gD (n+2) t.bH t.bK ["body"] (kl K n)
 |0=>by
  have no:∀vs H Q E,¬kl K 0 vs H Q E:=fun vs H Q E h=>by cases h;lia
  exact⟨fun vs H Q E h=>absurd h (no vs H Q E),fun A outer s H args us vs Q E _ _ _ _ h=>absurd h (no vs H Q E)⟩
 |n+1=>NN T (Bm T n)
theorem Ut(T:Tx K mg t){c Pt:zdv}(B:hZ K mg base c Pt)(hc:qg K t.bS c):bD P w K mg base gD 30 t.HM t.wG ["script"] (BP K Pt):=by
 have Er:=Co (P:=P) (w:=w) (base:=base) T;have jN:=Cn (P:=P) (w:=w) (base:=base) T;have zN:=xF (P:=P) (w:=w) (base:=base) T;have g1:=oX (P:=P) (w:=w) (base:=base) T;have g2:=Bm (P:=P) (w:=w) (base:=base) T 4;have g3:=Ie (P:=P) (w:=w) (base:=base) T;have rA:=zM (P:=P) (w:=w) (base:=base) T B hc g1 g2 g3;have lB:=pf (P:=P) (w:=w) (base:=base) T B hc g1 g2 g3;have gN:=lU (P:=P) (w:=w) (base:=base) T;have rM:=qK (P:=P) (w:=w) (base:=base) T B hc g1 g2 g3;refine T.HN.F.rE Nf (fun vs H Q E h=>?_) (fun eO A outer s H vs Q E hr h=>?_)
 ·obtain⟨_,_,rfl,_⟩:=h;rfl
 obtain⟨a,ns,rfl,hS,XZ,zX,q⟩:=h;have nd:=Nf.nd;have hu:=jB hr;refine⟨_,[some (V.ref a),none,none,none,none,none,none],(@ai _ _ _ _ _ (@eE _ _ 1 _ _ _ _ nd rfl (zcK rfl) (@cB _ _ _ _ _ _ _ _ _ _ _ _ _ _ _ _ Er (hr.mono (by first|decide|omega)) rfl T.iJ.m T.iJ.F.kp T.iJ.b .nil fj (@ae _ _ _ _ _ (pv 0) (@ag _) (@aH _ _ _ _)) (by first |rfl |exact .inl rfl |exact .inr rfl |decide |(intro _;rfl) |assumption) (by first |rfl |exact .inl rfl |exact .inr rfl |decide |(intro _;rfl) |assumption) (by first |rfl |exact .inl rfl |exact .inr rfl |decide |(intro _;rfl) |assumption)) (by first |rfl |exact .inl rfl |exact .inr rfl |decide |(intro _;rfl) |assumption) (by first |rfl |exact .inl rfl |exact .inr rfl |decide |(intro _;rfl) |assumption)) (@ai _ _ _ _ _ (@ET _ _ _ _ _ _ (@dZ _ _ _ _ _ _ _ ["k"] [1] _ _ _ _ rfl (by rfl) (by rfl) (@kD _ _ _ _ _ _ rfl T.lR (@ae _ _ _ _ _ (@ao _ _ _ _) (@ag _) (@ax _ _ _ _ _)) (by first |rfl |exact .inl rfl |exact .inr rfl |decide |(intro _;rfl) |assumption)) (fun _ _ _ _=>(@cH _ _ 0 _ (by show List.Nodup (["k", "deck"]:List Str);decide +kernel) rfl (zaJ rfl) (by first |rfl |exact .inl rfl |exact .inr rfl |decide |(intro _;rfl) |assumption))) (fun _ _ _ _=>(@dY _)) (fun _ _ _ _=>(@aX _ _ _ _ _ _ _ _ (@dH _) (@ao _ _ _ _) (@cB _ _ _ _ _ _ _ _ _ _ _ _ _ _ _ _ jN (hr.mono (by first|decide|omega)) rfl T.bt.m T.bt.F.kp T.bt.b .nil fj (@ae _ _ _ _ _ (pv 1) (@ae _ _ _ _ _ (@ao _ _ _ _) (@ag _) (@ax _ _ _ _ _)) (@aH _ _ _ _)) (by first |rfl |exact .inl rfl |exact .inr rfl |decide |(intro _;rfl) |assumption) (by first |rfl |exact .inl rfl |exact .inr rfl |decide |(intro _;rfl) |assumption) (by first |rfl |exact .inl rfl |exact .inr rfl |decide |(intro _;rfl) |assumption)))) (by first |rfl |exact .inl rfl |exact .inr rfl |decide |(intro _;rfl) |assumption)) (@SG _ _ _ _ _ _ rfl (@fO _ _ _ _ _ (@cH _ _ 2 _ nd rfl (zaJ rfl) (by first |rfl |exact .inl rfl |exact .inr rfl |decide |(intro _;rfl) |assumption)) (@fO _ _ _ _ _ (@cH _ _ 3 _ nd rfl (zaJ rfl) (by first |rfl |exact .inl rfl |exact .inr rfl |decide |(intro _;rfl) |assumption)) (@fO _ _ _ _ _ (@cH _ _ 4 _ nd rfl (zaJ rfl) (by first |rfl |exact .inl rfl |exact .inr rfl |decide |(intro _;rfl) |assumption)) (@uy _) (by first |rfl |exact .inl rfl |exact .inr rfl |decide |(intro _;rfl) |assumption)) (by first |rfl |exact .inl rfl |exact .inr rfl |decide |(intro _;rfl) |assumption)) (by first |rfl |exact .inl rfl |exact .inr rfl |decide |(intro _;rfl) |assumption)) (by first |rfl |exact .inl rfl |exact .inr rfl |decide |(intro _;rfl) |assumption) (by first |rfl |exact .inl rfl |exact .inr rfl |decide |(intro _;rfl) |assumption)) (by first |rfl |exact .inl rfl |exact .inr rfl |decide |(intro _;rfl) |assumption) (by first |rfl |exact .inl rfl |exact .inr rfl |decide |(intro _;rfl) |assumption) (by first |rfl |exact .inl rfl |exact .inr rfl |decide |(intro _;rfl) |assumption)) (@ai _ _ _ _ _ (@eE _ _ 5 _ _ _ _ nd rfl (zaJ rfl) (@cB _ _ _ _ _ _ _ _ _ _ _ _ _ _ _ _ jN (hr.mono (by first|decide|omega)) rfl T.bt.m T.bt.F.kp T.bt.b .nil fj (@ae _ _ _ _ _ (pv 1) (@ae _ _ _ _ _ (@ao _ _ _ _) (@ag _) (@ax _ _ _ _ _)) (@aH _ _ _ _)) (by first |rfl |exact .inl rfl |exact .inr rfl |decide |(intro _;rfl) |assumption) (by first |rfl |exact .inl rfl |exact .inr rfl |decide |(intro _;rfl) |assumption) (by first |rfl |exact .inl rfl |exact .inr rfl |decide |(intro _;rfl) |assumption)) (by first |rfl |exact .inl rfl |exact .inr rfl |decide |(intro _;rfl) |assumption) (by first |rfl |exact .inl rfl |exact .inr rfl |decide |(intro _;rfl) |assumption)) (@ai _ _ _ _ _ (@eE _ _ 6 _ _ _ _ nd rfl (zaJ rfl) (@cB _ _ _ _ _ _ _ _ _ _ _ _ _ _ _ _ zN (hr.mono (by first|decide|omega)) rfl T.eV.m T.eV.F.kp T.eV.b .nil fj (@ae _ _ _ _ _ (@br _ _ _ _ (@ae _ _ _ _ _ (pv 2) (@ae _ _ _ _ _ (pv 3) (@ae _ _ _ _ _ (pv 4) (@ag _) (@aH _ _ _ _)) (@aH _ _ _ _)) (@aH _ _ _ _))) (@ae _ _ _ _ _ (pv 5) (@ag _) (@aH _ _ _ _)) (@pS _ _ _ _)) (by first |rfl |exact .inl rfl |exact .inr rfl |decide |(intro _;rfl) |assumption) (by first |rfl |exact .inl rfl |exact .inr rfl |decide |(intro _;rfl) |assumption) (by first |rfl |exact .inl rfl |exact .inr rfl |decide |(intro _;rfl) |assumption)) (by first |rfl |exact .inl rfl |exact .inr rfl |decide |(intro _;rfl) |assumption) (by first |rfl |exact .inl rfl |exact .inr rfl |decide |(intro _;rfl) |assumption)) (@ai _ _ _ _ _ (@bY _ _ _ _ _ _ _ _ (@aW _ _ _ _ _ _ _ _ (@QS _) (@aX _ _ _ _ _ _ _ _ (@dH _) (@aX _ _ _ _ _ _ _ _ (@dH _) (@aX _ _ _ _ _ _ _ _ (@iN _) (@aX _ _ _ _ _ _ _ _ (@iN _) (@aX _ _ _ _ _ _ _ _ (@iN _) (pv 2) (pv 3)) (pv 4)) (@aX _ _ _ _ _ _ _ _ (@dH _) (@ao _ _ _ _) (pv 5))) (@aX _ _ _ _ _ _ _ _ (@iN _) (@aX _ _ _ _ _ _ _ _ (@iN _) (@ao _ _ _ _) (pv 3)) (pv 4))) (pv 4)) (@ao _ _ _ _) (bc _)) (@ar _ _ _ (@bY _ _ _ _ _ _ _ _ (@aW _ _ _ _ _ _ _ _ (HC (K:=K) rfl (Ly hr)) (@cB _ _ _ _ _ _ _ _ _ _ _ _ _ _ _ _ lB (hr.mono (by first|decide|omega)) rfl T.cJ.m T.cJ.F.kp T.cJ.b .nil fj (@ae _ _ _ _ _ (pv 6) (@ag _) (@aH _ _ _ _)) (by first |rfl |exact .inl rfl |exact .inr rfl |decide |(intro _;rfl) |assumption) (by first |rfl |exact .inl rfl |exact .inr rfl |decide |(intro _;rfl) |assumption) (by first |rfl |exact .inl rfl |exact .inr rfl |decide |(intro _;rfl) |assumption)) (@dZ _ _ _ _ _ _ _ ["k"] [] _ _ _ _ rfl (by rfl) (by rfl) (@kD _ _ _ _ _ _ rfl T.lR (@ae _ _ _ _ _ (@ao _ _ _ _) (@ag _) (@ax _ _ _ _ _)) (by first |rfl |exact .inl rfl |exact .inr rfl |decide |(intro _;rfl) |assumption)) (fun _ _ _ _=>(@cH _ _ 0 _ (by show List.Nodup (["k"]:List Str);decide +kernel) rfl (zaJ rfl) (by first |rfl |exact .inl rfl |exact .inr rfl |decide |(intro _;rfl) |assumption))) (fun _ _ _ _=>(@dY _)) (fun _ _ _ _=>(@iO _ _ _ _ _ _ _ _ (@dP _) (pv 0) (@ao _ _ _ _) (bc _))) (by first |rfl |exact .inl rfl |exact .inr rfl |decide |(intro _;rfl) |assumption)) (bc _)) (@ar _ _ _ (@aQ _ _ _ _ (@rU _ _ _ _))) (@ba _))) (@ar _ _ _ (@bY _ _ _ _ _ _ _ _ (@Bp _ _ _ _ (@nV _ _ _ (@cB _ _ _ _ _ _ _ _ _ _ _ _ _ _ _ _ gN (hr.mono (by first|decide|omega)) rfl T.bo.m T.bo.F.kp T.bo.b .nil fj (@ae _ _ _ _ _ (@cB _ _ _ _ _ _ _ _ _ _ _ _ _ _ _ _ rA (hr.mono (by first|decide|omega)) rfl T.fh.m T.fh.F.kp T.fh.b .nil Fh (@ae _ _ _ _ _ (pv 6) (@ag _) (@aH _ _ _ _)) (by first |rfl |exact .inl rfl |exact .inr rfl |decide |(intro _;rfl) |assumption) (by first |rfl |exact .inl rfl |exact .inr rfl |decide |(intro _;rfl) |assumption) (by first |rfl |exact .inl rfl |exact .inr rfl |decide |(intro _;rfl) |assumption)) (@ae _ _ _ _ _ (@br _ _ _ _ (@ae _ _ _ _ _ (@aG _ _ _ _ _ (@bC _ _ ([.str "side",.int 5,.bl false]) (by kernel_rfl))) (@ae _ _ _ _ _ (@aG _ _ _ _ _ (@ae _ _ _ _ _ (@aN _ _ _ _) (@ag _) (@ax _ _ _ _ _))) (@ag _) (@aV _ _ _ _ _)) (@aV _ _ _ _ _))) (@ae _ _ _ _ _ (@ao _ _ _ _) (@ag _) (@ax _ _ _ _ _)) (@pS _ _ _ _)) (@bJ _ _ _ _ _ _)) (by first |rfl |exact .inl rfl |exact .inr rfl |decide |(intro _;rfl) |assumption) (by first |rfl |exact .inl rfl |exact .inr rfl |decide |(intro _;rfl) |assumption) (by first |rfl |exact .inl rfl |exact .inr rfl |decide |(intro _;rfl) |assumption)) (by first |rfl |exact .inl rfl |exact .inr rfl |decide |(intro _;rfl) |assumption))) (@ar _ _ _ (@aQ _ _ _ _ (@rU _ _ _ _))) (@ba _)))) (@ai _ _ _ _ _ (@bY _ _ _ _ _ _ _ _ (@Bp _ _ _ _ (@nV _ _ _ (@cB _ _ _ _ _ _ _ _ _ _ _ _ _ _ _ _ gN (hr.mono (by first|decide|omega)) rfl T.bo.m T.bo.F.kp T.bo.b .nil fj (@ae _ _ _ _ _ (@cB _ _ _ _ _ _ _ _ _ _ _ _ _ _ _ _ rA (hr.mono (by first|decide|omega)) rfl T.fh.m T.fh.F.kp T.fh.b .nil Fh (@ae _ _ _ _ _ (@aG _ _ _ _ _ (@ae _ _ _ _ _ (@uG _ _ _ _ _ _ _ _ _ _ (@xK _) (@aO _ _ _ _ _ _ _ (@aR _) (pv 6) (@ao _ _ _ _) (@av _ _ _)) (@xH _) (@xI _ _ _ (@cB _ _ _ _ _ _ _ _ _ _ _ _ _ _ _ _ jN (hr.mono (by first|decide|omega)) rfl T.bt.m T.bt.F.kp T.bt.b .nil fj (@ae _ _ _ _ _ (pv 1) (@ae _ _ _ _ _ (@ao _ _ _ _) (@ag _) (@ax _ _ _ _ _)) (@aH _ _ _ _)) (by first |rfl |exact .inl rfl |exact .inr rfl |decide |(intro _;rfl) |assumption) (by first |rfl |exact .inl rfl |exact .inr rfl |decide |(intro _;rfl) |assumption) (by first |rfl |exact .inl rfl |exact .inr rfl |decide |(intro _;rfl) |assumption)))) (@ae _ _ _ _ _ (@br _ _ _ _ (@ag _)) (@ag _) (@pS _ _ _ _)) (@bF _ _ _ _ _))) (@ag _) (@aV _ _ _ _ _)) (by first |rfl |exact .inl rfl |exact .inr rfl |decide |(intro _;rfl) |assumption) (by first |rfl |exact .inl rfl |exact .inr rfl |decide |(intro _;rfl) |assumption) (by first |rfl |exact .inl rfl |exact .inr rfl |decide |(intro _;rfl) |assumption)) (@ae _ _ _ _ _ (@br _ _ _ _ (@ag _)) (@ae _ _ _ _ _ (@ao _ _ _ _) (@ag _) (@ax _ _ _ _ _)) (@pS _ _ _ _)) (@bJ _ _ _ _ _ _)) (by first |rfl |exact .inl rfl |exact .inr rfl |decide |(intro _;rfl) |assumption) (by first |rfl |exact .inl rfl |exact .inr rfl |decide |(intro _;rfl) |assumption) (by first |rfl |exact .inl rfl |exact .inr rfl |decide |(intro _;rfl) |assumption)) (by first |rfl |exact .inl rfl |exact .inr rfl |decide |(intro _;rfl) |assumption))) (@ar _ _ _ (@aQ _ _ _ _ (@rU _ _ _ _))) (@ba _)) (@ar _ _ _ (@aQ _ _ _ _ (Vq (@iO _ _ _ _ _ _ _ _ (@dP _) (@cB _ _ _ _ _ _ _ _ _ _ _ _ _ _ _ _ jN (hr.mono (by first|decide|omega)) rfl T.bt.m T.bt.F.kp T.bt.b .nil fj (@ae _ _ _ _ _ (pv 1) (@ae _ _ _ _ _ (@ao _ _ _ _) (@ag _) (@ax _ _ _ _ _)) (@aH _ _ _ _)) (by first |rfl |exact .inl rfl |exact .inr rfl |decide |(intro _;rfl) |assumption) (by first |rfl |exact .inl rfl |exact .inr rfl |decide |(intro _;rfl) |assumption) (by first |rfl |exact .inl rfl |exact .inr rfl |decide |(intro _;rfl) |assumption)) (@ao _ _ _ _) (bc _)) (R3 (@cB _ _ _ _ _ _ _ _ _ _ _ _ _ _ _ _ rM (hr.mono (by first|decide|omega)) rfl T.cL.m T.cL.F.kp T.cL.b .nil fj (@ae _ _ _ _ _ (@aX _ _ _ _ _ _ _ _ (@dH _) (@ao _ _ _ _) (@cB _ _ _ _ _ _ _ _ _ _ _ _ _ _ _ _ jN (hr.mono (by first|decide|omega)) rfl T.bt.m T.bt.F.kp T.bt.b .nil fj (@ae _ _ _ _ _ (pv 1) (@ae _ _ _ _ _ (@ao _ _ _ _) (@ag _) (@ax _ _ _ _ _)) (@aH _ _ _ _)) (by first |rfl |exact .inl rfl |exact .inr rfl |decide |(intro _;rfl) |assumption) (by first |rfl |exact .inl rfl |exact .inr rfl |decide |(intro _;rfl) |assumption) (by first |rfl |exact .inl rfl |exact .inr rfl |decide |(intro _;rfl) |assumption))) (@ag _) (@mx _ _ _ _ _ _)) (by first |rfl |exact .inl rfl |exact .inr rfl |decide |(intro _;rfl) |assumption) (by first |rfl |exact .inl rfl |exact .inr rfl |decide |(intro _;rfl) |assumption) (by first |rfl |exact .inl rfl |exact .inr rfl |decide |(intro _;rfl) |assumption)))))))))))),rfl,?_⟩;have line:zdD=2 ^ 24:=rfl;refine aw fun U1 gy=>?_;walk_at "rd";refine⟨a,ns,rfl,hS,XZ,fun D C G H1 s1 nD nC XY=>(gy _ _).mpr (aw fun U2 i4=>?_)⟩;clear gy;walk_at "rd";simp only[gO];walk_at "rd";refine⟨_,rfl,by decide,by decide,fun L hL=>?_⟩;refine F5 (n:=3) (r:=[some (V.ref D)]) (fun v=>∃x:Int,v=.int x/\2<=x/\x<=10) (by decide) hL XY (fun i x H2 d2 hi k2 p2 R hR=>?_) (fun vs H2 d2 lv ov c2 k2 p2 yL nLD nLC=>?_)
 ·walk_at "rd";have q0:(tP ns).pos=0:=rfl;refine⟨D,C,G,d2,9,rfl,k2,by decide,by decide,by rw[p2,q0];lia,fun x d' H3 ex c3 k3=>K4.mpr (hR _ _ d' ⟨_,rfl,?_,?_⟩ c3 k3 (uZ ex))⟩
  ·have:=uY ex (by decide);lia
  ·have:=uY ex (by decide);lia
 obtain⟨x1,x2,x3,rfl⟩:∃x1 x2 x3,vs=[x1,x2,x3]:=by
  match vs,lv with
  |[x1,x2,x3],_=>exact⟨x1,x2,x3,rfl⟩
 obtain⟨va,rfl,a1,a2⟩:=ov x1 (by simp);obtain⟨vb,rfl,b1,b2⟩:=ov x2 (by simp);obtain⟨vc,rfl,c1,c2'⟩:=ov x3 (by simp);clear ov lv;refine⟨L,_,rfl,.of yL,rfl,_,_,rfl,_,_,rfl,_,_,rfl,rfl,(i4 _ _).mpr (aw fun U3 ka=>?_)⟩;clear i4;have q0:(tP ns).pos=0:=rfl;rw[q0] at p2;walk_at "rd";refine⟨D,C,G,d2,4,rfl,k2,by decide,by decide,by lia,fun sy d3 H3 e3 c3 k3=>(ka _ _).mpr (aw fun U4 sJ=>?_)⟩;clear ka;have p3:=uZ e3;obtain⟨n0,n4⟩:=uY e3 (by decide);obtain⟨n,rfl⟩:=zce n0;clear e3 n0;have X0:Pt≠D:=aj zX nD;have X1:Pt≠C:=aj zX nC;have yP3:=c3.get (c2.get (s1 _ _ zX) X0 X1) X0 X1;clear zX c2 c3 yL k2;walk_at "rd";intro lz hz;generalize e4:upd H3 lz _=H4;have s4:=gL e4 hz;have y4:=Ai e4;clear e4;refine⟨lz,va,vb,vc,n,rfl,y4,by lia,fun p bl dl zg N H5 s5 sN nN tN yb rb rp=>(sJ _ _).mpr (aw fun U5 Bg=>?_)⟩;clear sJ;have k4:=k3.same s4;have nND:=nN _ k4.dD;have nNC:=nN _ k4.dC;have yP4:=s4 _ _ yP3;have nNP:=nN Pt (by rw[yP4];simp);have k5:=k4.same s5;have Zl:=s5 _ _ yP4;clear k4 nN yP4 yP3 k3 y4 s4 hz;obtain⟨dr,mn,cnt,kp,nv,w1,w2⟩:=Tp ⟨a1,a2⟩ ⟨b1,b2⟩ ⟨c1,c2'⟩ (n:=n) (by lia);have tail:∀Hx ps,jW Hx D C G d3->aq N Hx->Hx Pt=some (.nT ps)->TabOk "first_inputs.<locals>.<lambda>" (kO (fJ aF)) Hx ps->U5 [some (V.ref a),some (V.ref D),some (.int va),some (.int vb),some (.int vc),some (.int n),some (V.ref p)] Hx:=by
  intro Hx ps kx sx yx tx;refine(Bg _ _).mpr (aw fun U6 HW=>?_);clear Bg;walk_at "rd";refine aJ (sx.bM tN) (aC (j:=0) rfl) ⟨D,C,G,d3,5,rfl,kx,by decide,by decide,by lia,fun k d4 H6 e6 c6 k6=>?_⟩;have p4:=uZ e6;obtain⟨k0,kq⟩:=uY e6 (by decide);obtain⟨k,rfl⟩:=zce k0;clear e6 k0 kq;have s6:=WZ sx c6 nND nNC;have y6:=c6.get yx X0 X1;have t6:=tx.up fun b φ e=>c6.get e (fun z=>by rw[z,kx.oy] at e;cases e) (fun z=>by rw[z,kx.cs] at e;cases e);clear c6 kx tx yx sx;refine⟨_,rfl,bl,zg,rfl,.of (s6 _ _ yb),fun l hl=>?_⟩;rw[PJ];generalize e7:upd H6 l _=H7;have s7:=gL e7 hl;have y7:=Ai e7;clear e7;intro l2 Kd;generalize e8:upd H7 l2 _=H8;have s8:=gL e8 Kd;have y8:=Ai e8;clear e8;have r8:aD K H8 (((pE va vb vc n).aA.take k).map j0) (zg.take k):=by
   rw[List.map_take];exact HK (aD.mono ((s6.trans s7).trans s8) rb) k
  intro p9 EM;generalize e9:upd H8 p9 _=H9;have s9:=gT e9 EM;have r9:Rep K H9 (my (xU ((pE va vb vc n).aA.take k))) (.ref p9):=A3 e9 EM (.cons (Rep.bN.mpr ⟨_,_,rfl,.of (s8 _ _ y7),r8⟩) (.cons (Rep.bN.mpr ⟨_,_,rfl,.of y8,.nil⟩) .nil));clear e9 r8 y7 y8;obtain⟨dr',mn',aiB,kp',nv',w1',w2'⟩:=Tw (bs:=(pE va vb vc n).aA.take k) (((List.take_sublist k _).map _).nodup (show ([[97],[98],[99],[100]]:List PM.W).Nodup by decide)) (by rw[zcn];show min k 4<=4;lia) (fun b hb=>by
   have hb:=zbw hb
   change b∈[_,_,_,_] at hb
   simp only[zah,zaH,or_false] at hb;rcases hb with rfl |rfl |rfl |rfl
   ·exact⟨a1,a2,by show (0:Int)<=0;lia,by show (0:Int)<va;lia⟩
   ·exact⟨b1,b2,by show (0:Int)<=0;lia,by show (0:Int)<vb;lia⟩
   ·exact⟨c1,c2',by show (0:Int)<=0;lia,by show (0:Int)<vc;lia⟩
   ·exact⟨by show (2:Int)<=10;lia,by show (10:Int)<=10;lia,by show (0:Int)<=0;lia,by show (0:Int)<10;lia⟩)
  have NG:=(s7.trans s8).trans s9;refine⟨_,_,ps,rfl,r9,dr',mn',fun _=>⟨w1',w2'⟩,NG _ _ y6,t6.up fun _ _ e=>NG _ _ e,fun _ qq li ln us nw N8 aiF u10 Qk YC su=>?_,fun h=>absurd h (by lia)⟩;have Yz:=Nc (k6.same NG) u10 (NG _ _ y6);intro pG Ge;generalize Np:upd N8 pG _=N9;have mF:=gL Np Ge;have y11:=Ai Np;clear Np;refine F4 su mF kp' w2' (fun _ z=>by cases z) (by show (0:Int)<=_;lia) y11 (by rw[nv'];exact .nil) fun HS nM=>⟨true,rfl,?_⟩
  rw[if_neg (by decide)];have k12:=(Yz.same mF).same nM;have y12:=nM _ _ (mF _ _ Qk);have t12:=YC.up (H':=HS) fun _ _ e=>nM _ _ (mF _ _ e);refine(HW _ _).mpr ?_;clear HW;walk_at "rd";refine⟨D,C,G,d4,2,rfl,k12,by decide,by decide,by lia,fun x d5 W2 XN c13 k13=>⟨rfl,?_⟩⟩;have p5:=uZ XN;have y13:=c13.get y12 X0 X1;have t13:=t12.up fun b φ e=>c13.get e (fun z=>by rw[z,k12.oy] at e;cases e) (fun z=>by rw[z,k12.cs] at e;cases e);split
  ·exact q _
  ·refine⟨D,C,G,d5,9,rfl,k13,by decide,by decide,by lia,fun m d6 RD XO c14 k14=>K4.mpr ?_⟩;have UP:=c14.get y13 X0 X1;have t14:=t13.up fun b φ e=>c14.get e (fun z=>by rw[z,k13.oy] at e;cases e) (fun z=>by rw[z,k13.cs] at e;cases e);obtain⟨m0,m9⟩:=uY XO (by decide);obtain⟨m,rfl⟩:=zce m0;exact⟨5+m,_,rfl,by lia,by lia,UP,t14,fun _=>q _⟩
 clear Bg;walk_at "rd";refine⟨mulL (by lia) (by lia),mulR (by lia) (by lia),mulR (by lia) (by lia),mulL (by decide) (by decide),mulR (by lia) (by lia),?_⟩;have tb:TabOk "first_inputs.<locals>.<lambda>" (kO (fJ aF)) H5 #[]:=.inl rfl;split
 ·next Oe=>
  refine⟨_,_,_,rfl,Rep.mono sN rp,dr,mn,by lia,Zl,tb,fun l H6 ps6 u6 y6 t6 yl=>?_⟩;have k6:=Nc k5 u6 Zl;have s6:=WY sN u6 nNP;simp only[gO];walk_at "rd";refine⟨_,rfl,by decide,by decide,fun D2 hD2=>?_⟩;refine qV (n:=14) (r:=[]) (fun i ys Hy=>ys=(zaB i).map fun k=>V.bl (decide (k=12))) (by decide) hD2 rfl (fun i ys H7 hi s7 y7 ly pv R hR=>?_) (fun ys H7 s7 y7 ly pv=>?_)
  ·walk_at "rd";refine hR _ _ (aq.refl _) ?_;rw[pv,zaR,zat,List.map_singleton]
   congr 2
   exact congrArg V.bl (decide_eq_decide.mpr (by lia))
  ·subst pv;refine⟨(zaB 14).map fun k=>Dp.bl (decide (k=12)),Rep.bN.mpr ⟨_,_,rfl,.of (s7 _ _ yl),qv _⟩,Rep.bN.mpr ⟨_,_,rfl,.of y7,qv _⟩,by decide,?_⟩;rw[if_neg zai];exact tail _ ps6 (k6.same s7) (s6.trans s7) (s7 _ _ y6) (t6.up fun _ _ e=>s7 _ _ e)
 ·next hle=>
  refine⟨_,_,_,rfl,Rep.mono sN rp,dr,mn,fun _=>⟨w1,w2⟩,Zl,tb,fun _ qq li ln us nw H6 ps6 u6 y6 t6 su=>?_,fun h=>absurd h (by lia)⟩;have k6:=Nc k5 u6 Zl;have s6:=WY sN u6 nNP;intro p7 Gd;generalize e7:upd H6 p7 _=H7;have s7:=gT e7 Gd;have r7:Rep K H7 (g7 (.side 5 false)) (.ref p7):=A3 e7 Gd (.cons rS (.cons mJ (.cons (Rep.kK.mpr rfl) .nil)));clear e7;intro p8 Bf;generalize e8:upd H7 p8 _=H8;have s8:=gT e8 Bf;have r8:Rep K H8 (g7 .fin) (.ref p8):=A3 e8 Bf (.cons rS .nil);clear e8;intro p9 EM;generalize e9:upd H8 p9 _=H9;have s9:=gL e9 EM;have y9:=Ai e9;clear e9;refine F4 su ((s7.trans s8).trans s9) kp w2 (fun _ z=>by cases z) (by show (0:Int)<=_;lia) y9 (by rw[nv];exact .cons (Rep.mono (s8.trans s9) r7) (.cons (Rep.mono s9 r8) .nil)) fun N8 lE=>⟨true,rfl,?_⟩
  rw[if_neg (by decide)];have QC:=((s7.trans s8).trans s9).trans lE;exact tail _ ps6 (k6.same QC) (s6.trans QC) (QC _ _ y6) (t6.up fun _ _ e=>QC _ _ e)
end
end TF
end
section
set_option maxHeartbeats 4000000
namespace TF
open PG
open PySem L2
section
variable{P:zdH}{w:zdx}{K:zaa}{mg:Str->Option zdw}{base:Heap}
theorem all_mk{l:PySem.W.OpenLaw}{h:Heap}{fa:zdv}(X:K.In h)(G:h.Ns zdC mg)(hfa:mg "law"=some (.ref fa))
 {oG dI cW fC kF fT bH oH nB kZ lg vv nE dJ iV nJ iW qD eA bS iX fD vx qF jJ jK fU jL hV fV eT c9 HM:zdv}
 {aE:zdv}
 {df:zdv} {Ax sO:Option zdv} {Ay:Array (Option zdw)} {Az sP sQ sR mH sS:zdw}
 {bI:zdv}
 {eC:zdv} {Cp vI:Option zdv} {Cq:Array (Option zdw)} {Cr vJ vK vL oY vM:zdw}
 {bw:zdv} {qL jO:Option zdv} {qM:Array (Option zdw)} {qN jP jQ jR gA jS:zdw}
 {bV:zdv} {vN lV:Option zdv} {vO:Array (Option zdw)} {vP lW lY lZ i6 ma:zdw}
 {dh:zdv} {AA sT:Option zdv} {AB:Array (Option zdw)} {AD sU sV sW mI sY:zdw}
 {fX:zdv}
 {jk:zdv}
 {oP:zdv}
 {jm:zdv}
 {jn:zdv}
 {fY:zdv}
 {oQ:zdv}
 {tV:zdv}
 {oR:zdv}
 {tW:zdv}
 {ay:zdv}
 {lh:zdv}
 {jo:zdv}
 {ip:zdv}
 {X2:_}
 {zO:_}
 {AE:_}
 (Uu:FH K "flow" F6 oG)
 (zP:FH K "flow_of_body" kS dI)
 (Es:FH K "first_row" qw cW)
 (AF:FH K "behind_body" mB fC)
 (JU:FH K "ways_of" wB kF)
 (Et:FH K "bodies_in" qx fT)
 (xG:FH K "statements_in" jX bH)
 (QD:FH K "worth" B3 oH)
 (JV:FH K "word_at" wC nB)
 (Gs:FH K "by_names" tT kZ)
 (Gu:FH K "in_order" tU lg)
 (QE:FH K "holds" B4 vv)
 (JW:FH K "step_by" wD nE)
 (uh:FH K "behind_condition" ik dJ)
 (Cs:FH K "all_led_to" oB iV)
 (JX:FH K "targets" wF nJ)
 (Ct:FH K "targets_at" oC iW)
 (NO:FH K "met_by" zh qD)
 (vQ:FH K "shortest_inputs" iU eA)
 (qO:FH K "first_inputs" aF bS)
 (Cu:FH K "found_from" oE iX)
 (JY:FH K "gone_on" iI fD)
 (QF:FH K "suite" B5 vx)
 (NP:FH K "needed" zi qF)
 (Eu:FH K "_law_draw" qy jJ)
 (Ew:FH K "_law_deck" qz jK)
 (zQ:FH K "_law_counter" kT fU)
 (Ex:FH K "_law_says" qA jL)
 (AG:FH K "_law_asking" mC hV)
 (zR:FH K "_law_refused" kU fV)
 (wM:FH K "_law_one_input" jj eT)
 (rN:FH K "_law_asking_right" gU c9)
 (RS:FH K "law" Nd HM)
 (QG:zaE K zdC "Chart"=some (some (.ref aE)))
 (NQ:zbK K aE Str.empty=true)
 (NR:zby K aE=true)
 (NS:zch K aE=true)
 (NT:zax K (.ref aE) "__setattr__"=some (some (.builtin "object.__setattr__")))
 (Cv:zax K (.ref aE) "__init__"=some (some (.ref df)))
 (Cw:K.lookup df=some ⟨Az,Ax,.func (zaX "__init__" "Chart.__init__" (eI dc) (cS dc) (az dc) .none sP sQ sR sO mH sS),Ay⟩)
 (Cy:zbt K mH "Chart.__init__"=true)
 (Cz:zaY K (.ref df)=true)
 (CA:zbL K (.ref df)=true)
 (zt:zcA K aE=true)
 (NU:zaY K (.ref aE)=true)
 (gg:zax K (.ref aE) "names"=some none)
 (gm:zax K (.ref aE) "sizes"=some none)
 (gu:zax K (.ref aE) "first"=some none)
 (cN:zax K (.ref aE) "statements"=some none)
 (fG:zax K (.ref aE) "ways"=some none)
 (Uv:zaE K zdC "Walk"=some (some (.ref bI)))
 (QH:zbK K bI Str.empty=true)
 (QI:zby K bI=true)
 (QJ:zch K bI=true)
 (QK:zax K (.ref bI) "__setattr__"=some (some (.builtin "object.__setattr__")))
 (Ey:zax K (.ref bI) "__init__"=some (some (.ref eC)))
 (Ez:K.lookup eC=some ⟨Cr,Cp,.func (zaX "__init__" "Walk.__init__" (eI el) (cS el) (az el) .none vJ vK vL vI oY vM),Cq⟩)
 (EA:zbt K oY "Walk.__init__"=true)
 (EB:zaY K (.ref eC)=true)
 (EC:zbL K (.ref eC)=true)
 (B9:zcA K bI=true)
 (QL:zaY K (.ref bI)=true)
 (rO:zax K (.ref bI) "look_for_end"=some (some (.ref bw)))
 (rP:K.lookup bw=some ⟨qN,qL,.func (zaX "look_for_end" "Walk.look_for_end" (eI bu) (cS bu) (az bu) .none jP jQ jR jO gA jS),qM⟩)
 (rQ:zbt K gA "Walk.look_for_end"=true)
 (ke:zaY K (.ref bw)=true)
 (rR:zbL K (.ref bw)=true)
 (wN:zax K (.ref bI) "is_at_ask"=some (some (.ref bV)))
 (wO:K.lookup bV=some ⟨vP,vN,.func (zaX "is_at_ask" "Walk.is_at_ask" (eI bU) (cS bU) (az bU) .none lW lY lZ lV i6 ma),vO⟩)
 (wQ:zbt K i6 "Walk.is_at_ask"=true)
 (nQ:zaY K (.ref bV)=true)
 (wR:zbL K (.ref bV)=true)
 (CB:zax K (.ref bI) "go_on"=some (some (.ref dh)))
 (CD:K.lookup dh=some ⟨AD,AA,.func (zaX "go_on" "Walk.go_on" (eI de) (cS de) (az de) .none sU sV sW sT mI sY),AB⟩)
 (CF:zbt K mI "Walk.go_on"=true)
 (vR:zaY K (.ref dh)=true)
 (CG:zbL K (.ref dh)=true)
 (hX:zax K (.ref bI) "chart"=some none)
 (fB:zax K (.ref bI) "figures"=some none)
 (fH:zax K (.ref bI) "taken"=some none)
 (bA:zax K (.ref bI) "standing"=some none)
 (gw:zax K (.ref bI) "end"=some none)
 (Gv:zaE K zdC "RowError"=some (some (.ref fX)))
 (JZ:zaE K zdC "TooLong"=some (some (.ref jk)))
 (QM:zaE K zdC "NoRow"=some (some (.ref oP)))
 (J0:zaE K zdC "NoPlace"=some (some (.ref jm)))
 (J7:zaE K zdC "TooDeep"=some (some (.ref jn)))
 (ED:zaE K zdC "NoMeasure"=some (some (.ref fY)))
 (QN:zaE K zdC "Twice"=some (some (.ref oQ)))
 (Uw:zaE K zdC "Full"=some (some (.ref tV)))
 (QO:zaE K zdC "NoBox"=some (some (.ref oR)))
 (Ux:zaE K zdC "Open"=some (some (.ref tW)))
 (J8:zaE K zdC "TooMany"=some (some (.ref ay)))
 (wH:zdm K ay [.type "ValueError",.type "Exception",.type "BaseException",.type "object"] "ValueError.__new__"=true)
 (zu:zbH K (.ref ay) (.ref ay)=some true)
 (NV:zaE K zdC "NoForm"=some (some (.ref lh)))
 (J9:zaE K zdC "NoneYet"=some (some (.ref jo)))
 (Gw:zaE K zdC "NoTarget"=some (some (.ref ip)))
 (tX:zbH K (.ref ay) (.ref fX)=some true)
 (EE:zby K ay=true)
 (EF:zax K (.ref ay) "__getattribute__"=some (some (.builtin "BaseException.__getattribute__")))
 (EG:zax K (.ref ay) "__getattr__"=some none)
 (EH:zax K (.ref ay) "__class__"=some (some (.builtin "object.__class__")))
 (EI:zcN K ay (.type "object")=some true)
 (EJ:zcN K ay (.type "BaseException")=some true)
 (tY:zay K (.ref ay) (.type "ValueError")=some true)
 (j9:zay K (.ref ay) (.ref fX)=some true)
 (iq:zay K (.ref ay) (.ref jk)=some false)
 (jr:zay K (.ref ay) (.ref oP)=some false)
 (iu:zay K (.ref ay) (.ref jm)=some false)
 (iw:zay K (.ref ay) (.ref jn)=some false)
 (gx:zay K (.ref ay) (.ref fY)=some false)
 (js:zay K (.ref ay) (.ref oQ)=some false)
 (jY:zay K (.ref ay) (.ref tV)=some false)
 (jt:zay K (.ref ay) (.ref oR)=some false)
 (jZ:zay K (.ref ay) (.ref tW)=some false)
 (iy:zay K (.ref ay) (.ref ay)=some true)
 (i3:zay K (.ref ay) (.ref lh)=some false)
 (iz:zay K (.ref ay) (.ref jo)=some false)
 (gV:zay K (.ref ay) (.ref ip)=some false)
 (X3:zaE K zdC "END"=some (some (.int 0 X2)))
 (zS:zaE K zdC "FIGURE_COUNT"=some (some (.int 10 zO)))
 (AH:zaE K zdC "MOST_PLACES"=some (some (.int 2000 AE)))
 (xk:zaE K zdC "len"=some none)
 (lR:zaE K zdC "range"=some none)
 (Nk:zaE K zdC "int"=some none)
 (tZ:zaE K zdC "dict"=some none)
 (Gb:zaE K zdC "list"=some none)
 (xV:zaE K zdC "tuple"=some none)
 (Nl:zaE K zdC "any"=some none)
 (bz:zaE K zdC "isinstance"=some none)
 (lS:zaE K zdC "enumerate"=some none)
 (Nm:zaE K zdC "zip"=some none)
 (oT:zaE K zdC "ValueError"=some none)
 {c Pt:zdv} (Mt:zcl K "first_inputs"=some (c,Pt)):∃fd:zdE,(∀(s:zdF) (v:zdw),BindsTo s fd ⟨[v],[]⟩ [("script",v)])/\∀base:Heap,K.In base->base.Ns zdC mg->hZ K mg base c Pt->bD l.prog w K mg base gD 30 fa fd ["script"] (BP K Pt):=by
 have e:=hfa.symm.trans (zaL X G RS.1);cases e;obtain⟨lN,zr⟩:=rJ X G Uu (ps:=["program"]) fun _ _ _ _ _ _=>FI fun _=>rfl;obtain⟨dU,fZ⟩:=rJ X G zP (ps:=["body", "behind"]) fun _ _ _ _ _ _=>BL fun _ _=>rfl;obtain⟨cT,eX⟩:=rJ X G Es (ps:=["body", "behind"]) fun _ _ _ _ _ _=>BL fun _ _=>rfl;obtain⟨fS,jA⟩:=rJ X G AF (ps:=["statement", "after"]) fun _ _ _ _ _ _=>BL fun _ _=>rfl;obtain⟨kY,rh⟩:=rJ X G JU (ps:=["statement", "after"]) fun _ _ _ _ _ _=>BL fun _ _=>rfl;obtain⟨gH,jM⟩:=rJ X G Et (ps:=["statement"]) fun _ _ _ _ _ _=>FI fun _=>rfl;obtain⟨bK,fw⟩:=rJ X G xG (ps:=["body"]) fun _ _ _ _ _ _=>FI fun _=>rfl;obtain⟨nu,kA⟩:=rJ X G QD (ps:=["e", "values"]) fun _ _ _ _ _ _=>BL fun _ _=>rfl;obtain⟨oI,jq⟩:=rJ X G JV (ps:=["chart", "row"]) fun _ _ _ _ _ _=>BL fun _ _=>rfl;obtain⟨lO,lq⟩:=rJ X G Gs (ps:=["chart", "parts"]) fun _ _ _ _ _ _=>BL fun _ _=>rfl;obtain⟨lP,oS⟩:=rJ X G Gu (ps:=["chart", "named"]) fun _ _ _ _ _ _=>BL fun _ _=>rfl;obtain⟨vw,rj⟩:=rJ X G QE (ps:=["chart", "standing"]) fun _ _ _ _ _ _=>BL fun _ _=>rfl;obtain⟨oJ,kG⟩:=rJ X G JW (ps:=["chart", "standing", "figure"]) fun _ _ _ _ _ _=>bn3 fun _ _ _=>rfl;obtain⟨eM,fg⟩:=rJ X G uh (ps:=["chart", "standing"]) fun _ _ _ _ _ _=>BL fun _ _=>rfl;obtain⟨jx,gI⟩:=rJ X G Cs (ps:=["chart", "standing"]) fun _ _ _ _ _ _=>BL fun _ _=>rfl;obtain⟨oK,rm⟩:=rJ X G JX (ps:=["program"]) fun _ _ _ _ _ _=>FI fun _=>rfl;obtain⟨jy,i0⟩:=rJ X G Ct (ps:=["chart", "standing"]) fun _ _ _ _ _ _=>BL fun _ _=>rfl;obtain⟨qZ,vz⟩:=rJ X G NO (ps:=["chart", "figures"]) fun _ _ _ _ _ _=>BL fun _ _=>rfl;obtain⟨ff,c5⟩:=rJ X G vQ (ps:=["chart"]) fun _ _ _ _ _ _=>FI fun _=>rfl;obtain⟨ia,eU⟩:=rJ X G qO (ps:=["chart"]) fun _ _ _ _ _ _=>FI fun _=>rfl;obtain⟨jz,gJ⟩:=rJ X G Cu (ps:=["first", "led_from"]) fun _ _ _ _ _ _=>BL fun _ _=>rfl;obtain⟨oN,gK⟩:=rJ X G JY (ps:=["place", "led_from", "figures", "found"]) fun _ _ _ _ _ _=>bn4 fun _ _ _ _=>rfl;obtain⟨vy,fh⟩:=rJ X G QF (ps:=["program"]) fun _ _ _ _ _ _=>FI fun _=>rfl;obtain⟨rg,vA⟩:=rJ X G NP (ps:=["chart", "shortest_by"]) fun _ _ _ _ _ _=>BL fun _ _=>rfl;obtain⟨kr,bt⟩:=rJ X G Eu (ps:=["deck", "many"]) fun _ _ _ _ _ _=>BL fun _ _=>rfl;obtain⟨ky,iJ⟩:=rJ X G Ew (ps:=["script"]) fun _ _ _ _ _ _=>FI fun _=>rfl;obtain⟨ib,eV⟩:=rJ X G zQ (ps:=["sizes", "says"]) fun _ _ _ _ _ _=>BL fun _ _=>rfl;obtain⟨kz,eD⟩:=rJ X G Ex (ps:=["row", "many"]) fun _ _ _ _ _ _=>BL fun _ _=>rfl;obtain⟨iY,fE⟩:=rJ X G AG (ps:=["ahead"]) fun _ _ _ _ _ _=>FI fun _=>rfl;obtain⟨ic,cJ⟩:=rJ X G zR (ps:=["program"]) fun _ _ _ _ _ _=>FI fun _=>rfl;obtain⟨fL,bo⟩:=rJ X G wM (ps:=["told", "never", "least"]) fun _ _ _ _ _ _=>bn3 fun _ _ _=>rfl;obtain⟨eB,cL⟩:=rJ X G rN (ps:=["ahead"]) fun _ _ _ _ _ _=>FI fun _=>rfl;obtain⟨wG,HN⟩:=rJ X G RS (ps:=["script"]) fun _ _ _ _ _ _=>FI fun _=>rfl;have kB:=vW (st:=dc) Cw Cy Cz;have CI:=kB.binds (ps:=["self", "program"]) fun _ _ _ _ _ _=>BL fun _ _=>rfl;have lQ:=vW (st:=el) Ez EA EB;have EK:=lQ.binds (ps:=["self", "chart", "figures"]) fun _ _ _ _ _ _=>bn3 fun _ _ _=>rfl;have eN:=vW (st:=bu) rP rQ ke;have rT:=eN.binds (ps:=["self"]) fun _ _ _ _ _ _=>FI fun _=>rfl;have gM:=vW (st:=bU) wO wQ nQ;have wU:=gM.binds (ps:=["self"]) fun _ _ _ _ _ _=>FI fun _=>rfl;have kC:=vW (st:=de) CD CF vR;have CJ:=kC.binds (ps:=["self"]) fun _ _ _ _ _ _=>FI fun _=>rfl
 let t:Ad:=⟨oG,
  lN,
  dI,
  dU,
  cW,
  cT,
  fC,
  fS,
  kF,
  kY,
  fT,
  gH,
  bH,
  bK,
  oH,
  nu,
  nB,
  oI,
  kZ,
  lO,
  lg,
  lP,
  vv,
  vw,
  nE,
  oJ,
  dJ,
  eM,
  iV,
  jx,
  nJ,
  oK,
  iW,
  jy,
  qD,
  qZ,
  eA,
  ff,
  bS,
  ia,
  iX,
  jz,
  fD,
  oN,
  vx,
  vy,
  qF,
  rg,
  jJ,
  kr,
  jK,
  ky,
  fU,
  ib,
  jL,
  kz,
  hV,
  iY,
  fV,
  ic,
  eT,
  fL,
  c9,
  eB,
  fa,
  wG,
  df,
  zaX "__init__" "Chart.__init__" (eI dc) (cS dc) (az dc) .none sP sQ sR sO mH sS,
  eC,
  zaX "__init__" "Walk.__init__" (eI el) (cS el) (az el) .none vJ vK vL vI oY vM,
  bw,
  zaX "look_for_end" "Walk.look_for_end" (eI bu) (cS bu) (az bu) .none jP jQ jR jO gA jS,
  bV,
  zaX "is_at_ask" "Walk.is_at_ask" (eI bU) (cS bU) (az bU) .none lW lY lZ lV i6 ma,
  dh,
  zaX "go_on" "Walk.go_on" (eI de) (cS de) (az de) .none sU sV sW sT mI sY,
  aE,
  bI,
  fX,
  jk,
  oP,
  jm,
  jn,
  fY,
  oQ,
  tV,
  oR,
  tW,
  ay,
  lh,
  jo,
  ip⟩
 have T:Tx K mg t:=⟨zr,
  fZ,
  eX,
  jA,
  rh,
  jM,
  fw,
  kA,
  jq,
  lq,
  oS,
  rj,
  kG,
  fg,
  gI,
  rm,
  i0,
  vz,
  c5,
  eU,
  gJ,
  gK,
  fh,
  vA,
  bt,
  iJ,
  eV,
  eD,
  fE,
  cJ,
  bo,
  cL,
  HN,
  kB,
  CI,
  lQ,
  EK,
  eN,
  rT,
  ⟨rO,rR,ke⟩,
  gM,
  wU,
  ⟨wN,wR,nQ⟩,
  kC,
  CJ,
  ⟨CB,CG,vR⟩,
  ⟨NQ,NR,NS,NT⟩,
  zaL X G QG,
  ⟨zt,Cv,CA,NU⟩,
  gg,
  gm,
  gu,
  cN,
  fG,
  ⟨QH,QI,QJ,QK⟩,
  zaL X G Uv,
  ⟨B9,Ey,EC,QL⟩,
  hX,
  fB,
  fH,
  bA,
  gw,
  zaL X G Gv,
  zaL X G JZ,
  zaL X G QM,
  zaL X G J0,
  zaL X G J7,
  zaL X G ED,
  zaL X G QN,
  zaL X G Uw,
  zaL X G QO,
  zaL X G Ux,
  ⟨wH⟩,
  zu,
  zaL X G J8,
  zaL X G NV,
  zaL X G J9,
  zaL X G Gw,
  tX,
  ⟨EE,EF,EG,EH,EI,EJ⟩,
  tY,
  j9,
  iq,
  jr,
  iu,
  iw,
  gx,
  js,
  jY,
  jt,
  jZ,
  iy,
  i3,
  iz,
  gV,
  ⟨_,zaL X G X3,_,rfl⟩,
  ⟨_,zaL X G zS,_,rfl⟩,
  ⟨_,zaL X G AH,_,rfl⟩,
  za2 X G xk,
  za2 X G lR,
  za2 X G Nk,
  za2 X G tZ,
  za2 X G Gb,
  za2 X G xV,
  za2 X G Nl,
  za2 X G bz,
  za2 X G lS,
  za2 X G Nm,
  za2 X G oT⟩
 obtain⟨_,_,_,_,_,_,_,_,_,z,_⟩:=HN.F.ex;exact⟨t.wG,fun s v=>by rw[show t.wG=_ from z];exact .of_eq rfl,fun base _ _ B=>Ut T B (Mu Mt qO.1)⟩
theorem walk{l:PySem.W.OpenLaw}{q:zdH}{loose:List Str}{XP:(Str->Option zdw)->Heap->Prop}{YP:zdx->Heap->Prop}{d dF:DefRec}{K:Params->zaa}{c Pt:zdv}(hn:l.most=some 63)(VP:d.params.defaults=[])
 (hY:∀(w:zdx) (h:Heap),YP w h->(K w.params).In h) (Mr:(PyProof.Rows.recsOf q).find? (fun e=>e.name==("first_inputs":Str))=some dF) (Mt:∀w:zdx,zcl (K w.params) "first_inputs"=some (c,Pt)) (WA:∀w:zdx,(K w.params).lookup Pt=none)
 (F:∀(w:zdx) (mg:Str->Option zdw) (fa:zdv) (h:Heap),(K w.params).In h->h.Ns zdC mg->mg d.name=some (.ref fa)->
  ∃fd:zdE,(∀(s:zdF) (u:zdw),BindsTo s fd ⟨[u],[]⟩ [("script",u)])/\∀base:Heap,(K w.params).In base->base.Ns zdC mg->hZ (K w.params) mg base c Pt->bD l.prog w (K w.params) mg base gD 30 fa fd ["script"] (BP (K w.params) Pt)) :
 PySem.W.WalkO q loose XP YP l.row.toRowW d [] (fun f vs=>PySem.call f vs):=
 L2.Ms (n:=63) (k:=30) (x:="script") (CX:=fun _=>gD) (sp:=fun w=>BP (K w.params) Pt) hn (by decide) VP ⟨rfl,by decide,by decide⟩ hY Mr Mt WA F (fun _ _ a ns hl hS hP=>⟨a,ns,rfl,hS,hl,hP,fun _=>rfl⟩) fun _ _ _ _ _ z=>z
end
end TF
end
structure PySem.W.Fast:Prop where(tw7886930691014446717 tw10517449660023095898 tw8481122079494123961 tw4586426288827875815 tw1330620464066729727 tw15040279829458789087 tw298856985400695279 tw1447551523668030346 tw16210017994775743556 tw1247752154741289058 tw11423905794693492125 tw15812739795958913705 tw690865659785536634 tw15477910693451153633 tw13533675966015352118 tw3045948441654065223 tw1941579788444793116 tw15969546882181103576 tw7600031578160000317 tw12684725472432842933 tw14276441540973763070 tw8260562065147470215 tw14593340749348122184 tw9141192912815992886 tw15775405772670243655 tw5426279440872863318 tw16006520329472375619 tw4752391708553483160 tw4051231099891713907 tw4814824563287650533 tw8284536311203074575 tw3047193078137945210 tw1092344462495152989 tw13510159465334807824 tw12571144543179211971 tw3378730070604960772 tw4339960942759065303 tw4219746349669351983 tw13463808949477829873 tw17186371425768149736 tw10523499174245191589 tw10283506011950877775 tw16202201089794473980 tw16125322203829620008 tw7177744120251195648 tw13110968371435982046 tw16838052985776258118 tw4301474529975532512 tw1719929116793551297 tw16074233841617336035 tw6440112420485471361 tw14153231667078141961 tw15319034068661649411 tw12864085408062631625 tw3976755461587970860 tw11285364168752104666 tw11137533867369948152 tw7666859113410847592 tw4516335002842415521 tw17848185170198651523 tw6522891396202064875 tw1514133464515635703 tw15867259608466411119 tw13806396133893014804 tw7710157747741784062 tw7787476367543663106 tw901600235089709497 tw17075908198001021816 tw5996514474315879930 tw5985213220886015063 tw9640500137809323277 tw12805443308864350575 tw14201990426229952956 tw5492966529869809907 tw13407915554033133530 tw12486454231923338857 tw16392047243792722915 tw7155615393909475839 tw10225730690943425303 tw12590596484815280881 tw17237247782080266905 tw4978322902036772446 tw17480588426282822366 tw9986267521834477877 tw5527639509297783539 tw6634484762074863858 tw7261723672891080143 tw3635078685306650043 tw7474751706314265210 tw4101046139422648788 tw18132154373979929536 tw1528863320867345566 tw13434697563130590767 tw13230982554900015592 tw7262292220460976120 tw16347176288810118819 tw12993177342005202814 tw6655830325337173546 tw13624823755710377020 tw3322564373950861102 tw7145024423157964890 tw11545115220629356551 tw12066304497529151317 tw4518637948464377097 tw8924647797093238475 tw8635344282072907774 tw7637854186820851465 tw539516515364094054 tw4316807143451722973 tw9820098169554146626 tw18292372677112206116 tw14285695696192672380 tw12108596748308231391 tw7040636544185699353 tw16795091722012817626 tw17183246932211249882 tw8328250257743552030 tw4815660147353493974 tw4100800034226538373 tw15940748996372459612 tw3101719672181423239 tw17880175278398483695 tw14340545372580275167 tw14804287682324283379 tw15870697511765491172 tw14711094577733035642 tw12357756869257559494 tw12085319344971428648 tw13854531328256674681 tw9193753304820858602 tw4557184776902414796 tw3866379975030621928 tw16739381201057177820 tw17376326787819771447 tw17663268167185643139 tw3890020434413720466 tw33006177495372861 tw13231240559950859274 tw15702078696621124339 tw2956006882386425028 tw8631827035472003684 tw2954694407067961026 tw9393321787861761551 tw14943242302069780697 tw5802076486783405289 tw2293884392367821472 tw11763771139837757851 tw16113396556204391784 tw15188840369198417910 tw12091430305951121869 tw651858217497291247 tw198608009124319315 tw12832786323988412017 tw14859421547347138525 tw9515496404401333422 tw2811256002375879939 tw5980671540608771309 tw14303058132623699159 tw14453367176938452537 tw9000689306167547036 tw8369069769545848960 tw5354156542223515980 tw11123236120193973401 tw1871172022717480301 tw9489337549555866361 tw3894331101305638325 tw7494820479618493159 tw18406848738091281091 tw9895233288706403852 tw13920750167957553725 tw14500838412640656792 tw8757281826274652868 tw16085022104591669498 tw14180936588298723192 tw3512175811916847359 tw1366603500110835271 tw10174805448761522333 tw12723492675762232164 tw6093026286889099357 tw18414323447180498466 tw3635200987961795576 tw4581444546221559242 tw1451806080887769230 tw16016936992581040441 tw13493389559655567604 tw15686070194746846202 tw1887684410837824266 tw6809774162727762225 tw4086261588856087019 tw8918258958331756121 tw9653452653506805415 tw15986609428470170351 tw4781734483697942177 tw6038589222933604612 tw5980753521835083390 tw18336741558425450976 tw16296797156330321947 tw11213978162269621447 tw4070419092490382804 tw17495875448310680811 tw17098091533553318388 tw9179384108986684628 tw12243813908250938656 tw17783914274433603734 tw1390878662964130126 tw13748896708483546764 tw6784613934853464502 tw4825748748596967374 tw14651192374903298950 tw5412745516147221675 tw8575515066356389494 tw3064051972993569411 tw3380628571844802258 tw2626006630734387181 tw406186366355880351 tw15410267094279950658 tw15620533459366180297 tw2447082317300567712 tw10372976268855462412 tw6555898085058553878:True)
end
open PySem PySem.W PyProof.Rows
set_option maxRecDepth 100000 in
set_option maxHeartbeats 0 in
theorem PySem.Challenge.cw_everyrow_k52_suites_of_counters_holds : PySem.Challenge.rw_everyrow_k52_suites_of_counters.Holds := by
 w_on; o_law; k_head; (case hw=>w_witness2)
 k_fill
 refine' TF.walk (l:=PySem.Challenge.rw_everyrow_k52_suites_of_counters) (c:=379) (Pt:=375) rfl rfl (fun w h Y=>PySem.W.km_in_of Y) ?R ?T ?L ?F
 case R=>exact rfl
 case T=>exact fun w=>by kernel_rfl
 case L=>exact fun w=>by kernel_rfl
 case F=>
   intro w mg fa h KX G VQ
   refine' TF.all_mk KX G VQ ?_ ?_ ?_ ?_ ?_ ?_ ?_ ?_ ?_ ?_ ?_ ?_ ?_ ?_ ?_ ?_ ?_ ?_ ?_ ?_ ?_ ?_ ?_ ?_ ?_ ?_ ?_ ?_ ?_ ?_ ?_ ?_ ?_ ?_ ?_ ?_ ?_ ?_ ?_ ?_ ?_ ?_ ?_ ?_ ?_ ?_ ?_ ?_ ?_ ?_ ?_ ?_ ?_ ?_ ?_ ?_ ?_ ?_ ?_ ?_ ?_ ?_ ?_ ?_ ?_ ?_ ?_ ?_ ?_ ?_ ?_ ?_ ?_ ?_ ?_ ?_ ?_ ?_ ?_ ?_ ?_ ?_ ?_ ?_ ?_ ?_ ?_ ?_ ?_ ?_ ?_ ?_ ?_ ?_ ?_ ?_ ?_ ?_ ?_ ?_ ?_ ?_ ?_ ?_ ?_ ?_ ?_ ?_ ?_ ?_ ?_ ?_ ?_ ?_ ?_ ?_ ?_ ?_ ?_ ?_ ?_ ?_ ?_ ?_ ?_ ?_ ?_ ?_ ?_ ?_ ?_ ?_ ?_ ?_ ?tb
   rotate_left 102
   iterate 33 (refine' L2.FH.of ?a ?l ?c ?k; (case a=>k_is); (case l=>k_is); (case c=>k_is); (case k=>k_is))
   iterate 60 (k_is)
   iterate 1 (k_exc)
   iterate 1 (kts_exm)
   iterate 3 (k_is)
   iterate 1 (kts_exm)
   iterate 6 (k_is)
   iterate 15 (kit_is)
   iterate 14 (k_is)
   (case tb=>kernel_rfl)
