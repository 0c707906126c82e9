import PyProof.Rows.All
import Wide.All
import OpenK.AllK
import Wide.FinOn
import Lean
import PyProof.EqAt
import PyProof.EqKinds
import PyProof.TupleCall
import PyProof.AttrMiss
import PyProof.IsiH_list
import PyProof.ZipIter
import PyProof.P3In
import PySem.Challenge.RW_everyrow_k30_whole_none_is_shorter
set_option genSizeOf false
set_option compiler.extract_closed false
set_option Elab.async false
set_option linter.all false
set_option maxRecDepth 100000
open PySem.W renaming Frag->zaa,findIn->zax,nsIn->zaL,fnOf->zaM,keepIn->zaO,mg_none_of->zaY,emptyDict->zbb,codeIn->zbq,instObj->zbs,mg_of->zbv,plainGet->zbF,isFn->zbG,kla_obj->zbM,hasDictIn->zbQ,envX->zb0,plainOver->zb5,tabIn->zb9,makesIn->zch,plainGet_of->zcj,lookIn->zcm,exmOne->zco,callWith_K->zcq,methodObj->zcr,takerIn->zcK,cellsFrom_some->zcN,kla_fn->zcT,tabObj->zcU,excIn->zc1,pyHash_slot->zc3
open PySem.Str renaming ofString->zab
open List renaming getElem?_eq_getElem->zac,length_map->zad,mem_cons->zae,mem_singleton->zag,mem_cons_of_mem->zai,length_cons->zaj,mem_cons_self->zak,length_append->zal,getElem?_eq_some_iff->zam,getD_eq_getElem?_getD->zan,mem_append->zao,getElem?_map->zap,map_cons->zaq,size_toArray->zas,getElem_mem->zat,map_append->zaw,mem_append_right->zaB,append_nil->zaC,mem_map->zaF,length_singleton->zaG,nodup_cons->zaH,range->zaJ,flatMap_cons->zaK,cons_append->zaN,lookup_cons->zaQ,mem_flatMap->zaR,not_mem_nil->zaS,length_eq_zero_iff->zaV,filter_append->zaW,append_assoc->zaZ,pairwise_map->za0,length_nil->za1,forIn_cons->za2,nil_append->za3,mem_of_getElem?->za5,set->za6,take_succ_eq_append_getElem->za7,zipWith->za8,length->za9,length_range->zba,length_pos_iff->zbc,drop_eq_getElem_cons->zbd,lookup->zbf,mem_append_left->zbg,length_reverse->zbk,map_nil->zbl,length_drop->zbn,take_length->zbp,mem_of_mem_take->zbr,reverse_cons->zbu,mem_range->zbw,flatMap_nil->zbx,take_of_length_le->zby,pairwise_cons->zbA,forIn_nil->zbC,map_map->zbE,flatMap_append->zbH,pairwise_singleton->zbI,find?_cons->zbK,range_succ->zbL,length_eq_one_iff->zbN,nodup_append->zbP,nodup_nil->zbR,ext_getElem->zbS,getElem_map->zbT,getElem?_append_right->zbU,getElem?_range->zbX,getElem?_set_self->zb6,any_cons->zb8,take_append_drop->zcb,getElem?_set_ne->zcd,pairwise_append->zce,mem_iff_getElem->zcf,filterMap_cons->zci,replicate->zck,getElem?_append_left->zcs,pairwise_iff_getElem->zct,length_take->zcw,filter_cons->zcz,mem_nil_iff->zcA,isEmpty_iff->zcB,getElem?_replicate->zcC,getElem?_cons_succ->zcD,of_mem_zip->zcG,length_set->zcH,head?_drop->zcI,zipWith_cons_cons->zcL,drop_of_length_le->zcM,length_replicate->zcO,drop_zero->zcP,length_filter_le->zcQ,getElem?_eq_none->zcR,drop_drop->zcS,drop_eq_nil_iff->zcX,mem_of_mem_drop->zcZ,dropLast_concat->zc0,cons->zc5
open Bool renaming false_ne_true->zaf,false_eq_true->zaz,and_eq_true->zbo,not_true->zbB,eq_iff_iff->zbJ
open Nat renaming le_refl->zah,lt_of_lt_of_le->zay,le_trans->zaA,ne_of_lt->zaD,lt_irrefl->zaP,zero_le->zaU,pow_le_pow_right->zaX,lt_of_le_of_lt->za4,le_succ_of_le->zbt,ne_of_gt->zbD,one_le_two_pow->zbY,lt_succ_self->zca,le_of_lt->zcc,mul_le_mul->zcl,pow_succ->zcy,mul_le_mul_right->zcY,mul_le_mul_left->zc2,le_of_eq->zc4,succ_mul->zc6
open PySem.F renaming plainAttrs_list->zar,slot_list_append->zau,type_list_append->zav,args_tuple_add_2->zbZ,slot_list_extend->zb1,type_list_extend->zb2,entry_tuple_add->zb3,slot_tuple_add->zb7,slot_dict_setdefault->zcn,plainAttrs_dict->zcE,slot_dict_items->zcF,slot_list_pop->zcV,type_list_pop->zcW
open Int renaming emod_lt_of_pos->zaE,emod_nonneg->zaI,toNat_natCast->zbh,le_refl->zbO,toNat_of_nonneg->zbW,zero_add->zcg,le_trans->zc7
open Option renaming some->zaT,map_some->zbi,map_eq_some_iff->zbm,isSome_map->zb4,isSome_iff_exists->zcv,getD_some->zcx
open Array renaming getElem?_toList->zbe,length_toList->zbV,forIn_toList->zcp,getElem?_eq_getElem->zcu,replicate->zcJ
open PyProof.Rows renaming callWith_type1->zbj
open Or renaming inl->zbz
open PySem renaming Addr->zc8,Value->zc9,World->zda,wpAny_bind->zdb,wpAny_pure->zdc,wpAny_holding->zdd,starEach->zde,mainGlobals->zdf,sizeLine->zdg,FuncData->zdh,Shared->zdi,Around->zdj,Program->zdk
noncomputable section
namespace L2
open PySem PySem.Spec PyProof.Rows
noncomputable abbrev Key:=Sum Int Str
noncomputable def qK:Key->zc9->Bool
 |.inl k,v=>Value.isInt k v
 |.inr x,v=>Value.isStrOf x v
noncomputable def Lg (w:zda):Key->Int
 |.inl k=>hashInt k
 |.inr x=>hashStr w x
theorem cU:∀ {k:Key} {v:zc9},qK k v=true->(∃i t,k=Sum.inl i/\v=Value.int i t)\/(∃x t,k=Sum.inr x/\v=Value.str x t)
 |.inl i,v,h=>by
  obtain⟨t,e⟩:=Value.isInt_shape (k:=i) (v:=v) h;exact .inl ⟨i,t,rfl,e⟩
 |.inr x,v,h=>by
  obtain⟨t,e⟩:=Value.isStrOf_shape (x:=x) (v:=v) h;exact .inr ⟨x,t,rfl,e⟩
theorem xW(i:Int)(t:Tok):qK (.inl i) (.int i t)=true:=by simp[qK,Value.isInt]
theorem xX(x:Str)(t:Tok):qK (.inr x) (.str x t)=true:=by simp[qK,Value.isStrOf]
theorem vA(a b:Int):decide ((Sum.inl a:Key)=Sum.inl b)=(a==b):=by
 by_cases e:a=b
 ·subst e;simp
 ·have h:¬(Sum.inl a:Key)=Sum.inl b:=fun q=>e (Sum.inl.inj q);rw[decide_eq_false h];exact(beq_eq_false_iff_ne.mpr e).symm
theorem Hf(a b:Str):decide ((Sum.inr a:Key)=Sum.inr b)=decide (a=b):=by
 by_cases e:a=b
 ·subst e;simp
 ·have h:¬(Sum.inr a:Key)=Sum.inr b:=fun q=>e (Sum.inr.inj q);rw[decide_eq_false h,decide_eq_false e]
theorem CA(a:Int)(b:Str):decide ((Sum.inl a:Key)=Sum.inr b)=false:=decide_eq_false (fun q=>nomatch q)
theorem CB(a:Str)(b:Int):decide ((Sum.inr a:Key)=Sum.inl b)=false:=decide_eq_false (fun q=>nomatch q)
noncomputable def bO (prog:zdk) (w:zda):PySem.KeyKind prog w Key where
 is:=qK
 hash:=Lg w
 inj:=fun v a b ha hb=>by
  rcases cU ha with ⟨i,t,rfl,rfl⟩ |⟨x,t,rfl,rfl⟩
  ·rcases cU hb with ⟨j,u,rfl,e⟩ |⟨y,u,rfl,e⟩
   ·injection e with e1 _;rw[e1]
   ·exact nomatch e
  ·rcases cU hb with ⟨j,u,rfl,e⟩ |⟨y,u,rfl,e⟩
   ·exact nomatch e
   ·injection e with e1 _;rw[e1]
 byValue:=fun k v h=>by
  rcases cU h with ⟨i,t,rfl,rfl⟩ |⟨x,t,rfl,rfl⟩<;>rfl
 pyHash:=fun hv h=>by
  rcases cU hv with ⟨i,t,rfl,rfl⟩ |⟨x,t,rfl,rfl⟩
  ·exact wpAny_pyHash_int h
  ·exact wpAny_pyHash_str h
 eqBool:=fun hu hv h=>by
  rcases cU hu with ⟨i,t,rfl,rfl⟩ |⟨x,t,rfl,rfl⟩
  ·rcases cU hv with ⟨j,u,rfl,rfl⟩ |⟨y,u,rfl,rfl⟩
   ·rw[vA] at h;exact wpAny_eqBool_int h
   ·rw[CA] at h;exact SeqAt.EqAt.int_str i t y u _ _ _ _ h
  ·rcases cU hv with ⟨j,u,rfl,rfl⟩ |⟨y,u,rfl,rfl⟩
   ·rw[CB] at h;exact SeqAt.EqAt.str_int x t j u _ _ _ _ h
   ·rw[Hf] at h;exact wpAny_eqBool_str h
 «strs»:=fun k x t v h=>by
  rcases cU h with ⟨i,u,rfl,e⟩ |⟨y,u,rfl,e⟩
  ·exact nomatch e
  ·injection e with e1 _
   subst e1;cases v<;>rfl
theorem AQ(prog:zdk)(w:zda)(i:Int)(t:Tok):(bO prog w).is (.inl i) (.int i t)=true:=xW i t
theorem AR(prog:zdk)(w:zda)(x:Str)(t:Tok):(bO prog w).is (.inr x) (.str x t)=true:=xX x t
inductive V where
 |b9 |bl (b:Bool) |int (i:Int) |str (x:Str) |Ee (b:Array UInt8) |T9 (b:UInt64) |ref (a:zc8) |ty (n:String)
 deriving DecidableEq
noncomputable def RelV:V->zc9->Prop
 |.b9,u=>u=Value.none
 |.bl b,u=>u=Value.bool b
 |.int i,u=>∃t,u=Value.int i t
 |.str x,u=>∃t,u=Value.str x t
 |.Ee b,u=>∃t,u=Value.bytes b t
 |.T9 b,u=>∃t,u=Value.float b t
 |.ref a,u=>u=Value.ref a
 |.ty n,u=>u=Value.type n
noncomputable abbrev Vals:List V->List zc9->Prop:=Paired RelV
theorem Vals.length{xs:List V}{us:List zc9}(r:Vals xs us):xs.length=us.length:=Paired.length r
theorem Vals.get:∀ {xs:List V} {us:List zc9} {i:Nat} {x:V},Vals xs us->xs[i]?=some x->∃u,us[i]?=some u/\RelV x u
 |_,_,_,_,.nil,e=>by simp at e
 |_,_,0,_,.cons r _,e=>by simp at e;subst e;exact⟨_,rfl,r⟩
 |_,_,i+1,x,.cons _ t,e=>by
  obtain⟨u,h1,h2⟩:=Vals.get (i:=i) (x:=x) t (by simpa using e);exact⟨u,by simpa using h1,h2⟩
theorem Vals.set{x:V}{u:zc9}(r:RelV x u):∀ {xs:List V} {us:List zc9} (i:Nat),Vals xs us->Vals (xs.set i x) (us.set i u)
 |_,_,_,.nil=>.nil
 |_,_,0,.cons _ t=>.cons r t
 |_,_,i+1,.cons q t=>.cons q (Vals.set r i t)
theorem Vals.append:∀ {xs ys:List V} {us ws:List zc9},Vals xs us->Vals ys ws->Vals (xs++ys) (us++ws)
 |_,_,_,_,.nil,s=>s
 |_,_,_,_,.cons r t,s=>.cons r (Vals.append t s)
theorem Vals.take:∀ {xs:List V} {us:List zc9} (n:Nat),Vals xs us->Vals (xs.take n) (us.take n)
 |_,_,0,_=>.nil
 |_,_,_+1,.nil=>.nil
 |_,_,n+1,.cons r t=>.cons r (Vals.take n t)
theorem Vals.drop:∀ {xs:List V} {us:List zc9} (n:Nat),Vals xs us->Vals (xs.drop n) (us.drop n)
 |_,_,0,r=>r
 |_,_,_+1,.nil=>.nil
 |_,_,n+1,.cons _ t=>Vals.drop n t
noncomputable def mK:Option V->Option zc9->Prop
 |some v,some u=>RelV v u
 |none,none=>True
 |_,_=>False
noncomputable def KV {κ:Type}:List (κ×V)->List (κ×zc9)->Prop:=Paired fun (p:κ×V) (q:κ×zc9)=>p.1=q.1/\RelV p.2 q.2
noncomputable def kV:Key->V
 |.inl i=>.int i
 |.inr x=>.str x
inductive HO where
 |lst (xs:List V)
 |tup (xs:List V)
 |dK (aC:List (Key×V)) |dT (aC:List (List Key×V))
 |set (S:Int->Bool) (n:Nat)
 |ins (C dx:zc8) (fs:List (Str×V))
 |own (x:zc8)
 |xd (fs:List (Str×V))
 |met (f x:zc8)
 |Vm (lo hi:Int)
 |KY (o:Obj) (u:HO)
 |oZ (ps:Array zc9)
 |ext (φ:Heap->Prop)
noncomputable abbrev Hp:=zc8->Option HO
noncomputable def upd (H:Hp) (a:zc8) (o:HO):Hp:=fun b=>if b=a then some o else H b
theorem ah{H:Hp}{a:zc8}{o:HO}:upd H a o a=some o:=by unfold upd;rw[if_pos rfl]
theorem av{H:Hp}{a b:zc8}{o:HO}(h:b≠a):upd H a o b=H b:=by unfold upd;rw[if_neg h]
theorem bN{H:Hp}{a b:zc8}{o u:HO}(h:H a=some o)(h':H b=some u)(d:o≠u):a≠b:=by
 intro e;subst e;rw[h] at h';exact d (zaT.inj h')
theorem aj{H:Hp}{a b:zc8}{o:HO}(h:H a=some o)(h':H b=none):a≠b:=by
 intro e;subst e;rw[h] at h';cases h'
section
variable(P:zdk)(w:zda)
noncomputable def eF (H:Hp) (h:Heap) (a:zc8):HO->Prop
 |.lst xs=>xs.length<=zdg/\∃(bj:List zc9) (n:Nat),Vals xs bj/\h.get? a=some {cls:=.type "list",data:=.seq bj.toArray n}
 |.tup xs=>xs.length<=zdg/\∃bj:List zc9,Vals xs bj/\IsTup h a bj.toArray
 |.dK aC=>aC.length<=zdg/\(a==sysModules)=false/\∃vs,KV aC vs/\h.DictOf (bO P w) a vs
 |.dT aC=>aC.length<=zdg/\(a==sysModules)=false/\∃xs:List (List Key×zc8×zc9),
  Paired (fun (p:List Key×V) (q:List Key×zc8×zc9)=>p.1=q.1/\H q.2.1=some (.tup (p.1.map kV))/\RelV p.2 q.2.2) aC xs/\
  ∃o es ep,h.get? a=some o/\o.ExactDict/\o.data=.dict es ep/\es.toList=xs.map (entryOfKey (tupleKind (bO P w)))/\(xs.map (·.1)).Nodup
 |.set S n=>h.SetOf (intKind P w) a S n
 |.ins C dx fs=>H dx=some (.own a)/\fs.length<=1000/\dx≠a/\h.get? a=some (zbs C dx)/\
  ∃mA,h.Ns1 dx mA/\(∀f,mK (fs.lookup f) (mA f))/\PySem.Within mA (fs.map (·.1))
 |.own _=>∃o,h.get? a=some o
 |.xd fs=>∃mA,h.Ns1 a mA/\∀f,mK (fs.lookup f) (mA f)
 |.Vm lo hi=>∃t u v,h.get? a=some {cls:=.type "range",data:=.fields #[.int lo t,.int hi u,.int 1 v]}
 |.KY o u=>h.get? a=some o/\eF H h a u
 |.oZ ps=>h.get? a=some {cls:=.none,data:=.fields ps}
 |.met f x=>h.get? a=some (zcr (.ref f) (.ref x))
 |.ext φ=>φ h/\(∃o,h.get? a=some o)/\∀h1 h2:Heap,φ h1->(∀o,h1.get? a=some o->h2.get? a=some o)->φ h2
noncomputable def my (H:Hp) (h:Heap):Prop:=∀a o,H a=some o->eF P w H h a o
end
section
variable{P:zdk}{w:zda}{H H':Hp}{h h':Heap}{a:zc8}{o:HO}
theorem eF.lt(x:eF P w H h a o):a<h.objs.size:=by
 cases o with
 |lst xs=>obtain⟨_,_,_,_,e⟩:=x;exact Heap.lt_size e
 |tup xs=>obtain⟨_,_,_,p⟩:=x;exact p.lt
 |dK aC=>obtain⟨_,_,_,_,o,_,_,e,_⟩:=x;exact Heap.lt_size e
 |dT aC=>obtain⟨_,_,_,_,o,_,_,e,_⟩:=x;exact Heap.lt_size e
 |set S n=>obtain⟨o,_,_,_,e,_⟩:=x;exact Heap.lt_size e
 |ins C dx fs=>obtain⟨_,_,_,e,_⟩:=x;exact Heap.lt_size e
 |own y=>obtain⟨_,e⟩:=x;exact Heap.lt_size e
 |xd fs=>obtain⟨_,⟨_,_,_,e,_⟩,_⟩:=x;exact Heap.lt_size e
 |Vm lo hi=>obtain⟨_,_,_,e⟩:=x;exact Heap.lt_size e
 |KY ob u=>obtain⟨e,_⟩:=x;exact Heap.lt_size e
 |oZ ps=>exact Heap.lt_size (show h.get? a=some _ from x)
 |met f y=>exact Heap.lt_size (show h.get? a=some _ from x)
 |ext φ=>obtain⟨_,⟨_,e⟩,_⟩:=x;exact Heap.lt_size e
theorem Paired.AS{α β:Type}{F G:α->β->Prop}:∀ {l₁:List α} {l₂:List β},Paired F l₁ l₂->(∀a b,F a b->G a b)->Paired G l₁ l₂
 |_,_,.nil,_=>.nil
 |_,_,.cons r t,f=>.cons (f _ _ r) (Paired.AS t f)
theorem eF.uN(x:eF P w H h a o)(k:∀b u,(b=a\/H b=some (.own a))->h.get? b=some u->h'.get? b=some u)
 (ho:∀b,H b=some (.own a)->H' b=some (.own a)) (ht:∀b xs,H b=some (.tup xs)->H' b=some (.tup xs)):eF P w H' h' a o:=by
 induction o with
 |lst xs=>obtain⟨z,bj,n,r,e⟩:=x;exact⟨z,bj,n,r,k _ _ (.inl rfl) e⟩
 |tup xs=>obtain⟨z,bj,r,ob,e,c⟩:=x;exact⟨z,bj,r,ob,k _ _ (.inl rfl) e,c⟩
 |dK aC=>obtain⟨z,y,vs,r,ob,es,ep,e,c⟩:=x;exact⟨z,y,vs,r,ob,es,ep,k _ _ (.inl rfl) e,c⟩
 |dT aC=>
  obtain⟨z,y,xs,r,ob,es,ep,e,c⟩:=x;exact⟨z,y,xs,Paired.AS r fun p q z=>⟨z.1,ht _ _ z.2.1,z.2.2⟩,ob,es,ep,k _ _ (.inl rfl) e,c⟩
 |set S n=>obtain⟨ob,es,ep,t,e,c⟩:=x;exact⟨ob,es,ep,t,k _ _ (.inl rfl) e,c⟩
 |ins C dx fs=>
  obtain⟨d,z,ne,e,mA,⟨od,es,ep,e2,c⟩,r⟩:=x;exact⟨ho _ d,z,ne,k _ _ (.inl rfl) e,mA,⟨od,es,ep,k _ _ (.inr d) e2,c⟩,r⟩
 |own y=>obtain⟨ob,e⟩:=x;exact⟨ob,k _ _ (.inl rfl) e⟩
 |xd fs=>obtain⟨mA,⟨od,es,ep,e,c⟩,r⟩:=x;exact⟨mA,⟨od,es,ep,k _ _ (.inl rfl) e,c⟩,r⟩
 |Vm lo hi=>obtain⟨t,u,v,e⟩:=x;exact⟨t,u,v,k _ _ (.inl rfl) e⟩
 |KY ob u ih=>obtain⟨e,q⟩:=x;exact⟨k _ _ (.inl rfl) e,ih q⟩
 |oZ ps=>
  have e:h.get? a=some {cls:=.none,data:=.fields ps}:=x;show h'.get? a=some {cls:=.none,data:=.fields ps};exact k a _ (.inl rfl) e
 |met f y=>
  have e:h.get? a=some (zcr (.ref f) (.ref y)):=x;show h'.get? a=some (zcr (.ref f) (.ref y));exact k a _ (.inl rfl) e
 |ext φ=>obtain⟨p,⟨o,e⟩,st⟩:=x;exact⟨st _ _ p fun o q=>k _ _ (.inl rfl) q,⟨o,k _ _ (.inl rfl) e⟩,st⟩
theorem my.lt(x:my P w H h)(e:H a=some o):a<h.objs.size:=(x a o e).lt
theorem my.fresh(x:my P w H h)(e:h.objs.size<=a):H a=none:=by
 cases q:H a with
 |none=>rfl
 |some u=>exact absurd (zay (x.lt q) e) (zaP _)
theorem my.kept(x:my P w H h)(k:∀b u,h.get? b=some u->h'.get? b=some u):my P w H h':=fun a o e=>
 (x a o e).uN (fun b u _ q=>k b u q) (fun _ q=>q) fun _ _ q=>q
theorem my.laid(x:my P w H h)(k:∀b u,h.get? b=some u->h'.get? b=some u)(hp:h.objs.size<=a)(new:eF P w (upd H a o) h' a o):my P w (upd H a o) h':=fun b u e=>by
 have hn:=x.fresh hp;by_cases hb:b=a
 ·subst hb;rw[ah] at e;cases e;exact new
 ·rw[av hb] at e;exact(x b u e).uN (fun c v _ q=>k c v q) (fun c q=>by rw[av (aj q hn)];exact q) fun c xs q=>by rw[av (aj q hn)];exact q
end
noncomputable def Rd (H:Hp) (a:zc8) (u:HO):Prop:=H a=some u\/∃o,H a=some (.KY o u)
theorem Rd.ok{P:zdk}{w:zda}{H:Hp}{h:Heap}{a:zc8}{u:HO}(r:Rd H a u)(x:my P w H h):eF P w H h a u:=by
 rcases r with r |⟨o,r⟩
 ·exact x a u r
 ·obtain⟨_,q⟩:=x a _ r;exact q
noncomputable def Q9:Option HO->Prop
 |some (.lst _)=>True
 |some (.dK _)=>True
 |some (.dT _)=>True
 |some (.set _ _)=>True
 |some (.ins _ _ _)=>True
 |some (.ext _)=>True
 |_=>False
section
variable{P:zdk}{w:zda}{H:Hp}{h h':Heap}{x e:zc8}{o':HO}
theorem my.write(ok:my P w H h)(mu:Q9 (H x))(he:e=x\/H e=some (.own x))(k:∀b u,b≠e->h.get? b=some u->h'.get? b=some u)(Qy:∃u,h'.get? e=some u)
 (new:eF P w (upd H x o') h' x o'):my P w (upd H x o') h':=fun b u q=>by
 have Ra:∀c y,H c=some (.own y)->c≠x:=fun c y r z=>by subst z;rw[r] at mu;exact mu
 have Vn:∀c xs,H c=some (.tup xs)->c≠x:=fun c xs r z=>by subst z;rw[r] at mu;exact mu
 by_cases hb:b=x
 ·subst hb;rw[ah] at q;cases q;exact new
 ·rw[av hb] at q;by_cases N3:b=e
  ·have q':H b=some (.own x):=by
    rcases he with z |z
    ·exact absurd (N3.trans z) hb
    ·rw[N3];exact z
   rw[q] at q';cases q';obtain⟨v,hv⟩:=Qy;exact⟨v,by rw[N3];exact hv⟩
  ·refine(ok b u q).uN (fun c v hc r=>k c v ?_ r) (fun c r=>by rw[av (Ra c b r)];exact r) fun c xs r=>by rw[av (Vn c xs r)];exact r
   rcases hc with rfl |hc
   ·exact N3
   ·rintro rfl
    rcases he with z |z
    ·exact Ra c b hc z
    ·rw[hc] at z;cases z;exact hb rfl
end
structure Un(fs ex:List zc8)(H H':Hp)(h h':Heap):Prop where
 keep:∀b o,h.get? b=some o->H b=none->b ∉ fs->b ∉ ex->h'.get? b=some o
 slot:∀b o,h.get? b=some o->H b=none->b∈fs->b ∉ ex->∃sl,h'.get? b=some {o with slots:=sl}
 free:∀b o,h.get? b=some o->H b=none->b ∉ ex->H' b=none
 there:∀b o,h.get? b=some o->b ∉ ex->∃o',h'.get? b=some o'
 vB:∀b xs,H b=some (.tup xs)->H' b=some (.tup xs)
 uO:∀b o u,H b=some (.KY o u)->H' b=some (.KY o u)
 uP:∀b ps,H b=some (.oZ ps)->∃more,H' b=some (.oZ (ps++more))
section
variable{fs Qz ex ex':List zc8}{H H1 H2:Hp}{h h1 h2 h':Heap}{a x e:zc8}{o:HO}
theorem Un.any(u:Un fs ex H H1 h h1){b:zc8}{ob:Obj}(q:h.get? b=some ob)(n:H b=none)(hx:b ∉ ex):∃sl,h1.get? b=some {ob with slots:=sl}:=by
 by_cases hb:b∈fs
 ·exact u.slot b ob q n hb hx
 ·exact⟨ob.slots,u.keep b ob q n hb hx⟩
theorem Un.kept(k:∀b u,h.get? b=some u->h'.get? b=some u):Un fs ex H H h h':=
 ⟨fun b ob q _ _ _=>k b ob q,fun b ob q _ _ _=>⟨ob.slots,k b ob q⟩,fun _ _ _ n _=>n,fun b ob q _=>⟨ob,k b ob q⟩,fun _ _ q=>q,fun _ _ _ q=>q,fun _ ps q=>⟨#[],by rw[q];simp⟩⟩
theorem Un.refl:Un fs ex H H h h:=Un.kept fun _ _ q=>q
theorem Un.laid(k:∀b u,h.get? b=some u->h'.get? b=some u)(hp:h.objs.size<=a)(hn:H a=none):Un fs ex H (upd H a o) h h' where
 keep:=fun b u q _ _ _=>k b u q
 slot:=fun b u q _ _ _=>⟨u.slots,k b u q⟩
 free:=fun b u q n _=>by rw[av (zaD (zay (Heap.lt_size q) hp))];exact n
 there:=fun b u q _=>⟨u,k b u q⟩
 vB:=fun b xs q=>by rw[av (aj q hn)];exact q
 uO:=fun b u xs q=>by rw[av (aj q hn)];exact q
 uP:=fun b ps q=>⟨#[],by rw[av (aj q hn),q];simp⟩
theorem Un.write(mu:Q9 (H x))(he:e=x\/H e=some (.own x))(k:∀b u,b≠e->h.get? b=some u->h'.get? b=some u)(Qy:∃u,h'.get? e=some u):Un fs ex H (upd H x o) h h':=by
 have hx:∀b,H b=none->b≠x:=fun b n z=>by subst z;rw[n] at mu;exact mu
 have hb:∀b,H b=none->b≠e:=fun b n z=>by
  subst z;rcases he with r |r
  ·exact hx b n r
  ·rw[n] at r;cases r
 have hm:∀b u,H b=some u->¬Q9 (some u)->b≠x:=fun b u q nm z=>by subst z;rw[q] at mu;exact nm mu
 refine⟨fun b u q n _ _=>k b u (hb b n) q,fun b u q n _ _=>⟨u.slots,k b u (hb b n) q⟩,fun b u q n _=>by rw[av (hx b n)];exact n,fun b u q _=>?_,
  fun b xs q=>by rw[av (hm b _ q fun z=>z)];exact q,fun b u xs q=>by rw[av (hm b _ q fun z=>z)];exact q,fun b ps q=>⟨#[],by rw[av (hm b _ q fun z=>z),q];simp⟩⟩
 by_cases N3:b=e
 ·subst N3;exact Qy
 ·exact⟨u,k b u N3 q⟩
end
noncomputable def Ua (h:Heap) (H:Hp):List zc8:=(zaJ h.objs.size).filter fun a=>(H a).isSome
noncomputable def yQ (h:Heap) (H:Hp):Heap:=PySem.W.hideAll h (Ua h H)
theorem Fv(h:Heap)(H:Hp):(yQ h H).objs.size=h.objs.size:=PySem.W.hideAll_size _ _
theorem qL{h:Heap}{H:Hp}{b:zc8}{o:Obj}(e:h.get? b=some o)(n:H b=none):(yQ h H).get? b=some o:=
 PySem.W.hideAll_get _ e fun hm=>by
  have q:(H b).isSome=true:=(List.mem_filter.mp hm).2;rw[n] at q;simp at q
theorem Lh{h:Heap}{H:Hp}{b:zc8}{o:Obj}(e:(yQ h H).get? b=some o):h.get? b=some o/\H b=none:=by
 have e':h.get? b=some o:=PySem.W.of_hideAll (Ua h H) e;refine⟨e',?_⟩;cases q:H b with
 |none=>rfl
 |some x=>
  have hm:b∈Ua h H:=List.mem_filter.mpr ⟨zbw.mpr (Heap.lt_size e'),by simp[q]⟩;have z:(yQ h H).get? b=none:=PySem.W.hideAll_none (Ua h H) hm;rw[z] at e;cases e
structure Mod(K:zaa)(mg:Str->Option zc9)(base:Heap):Prop where
 Rb:K.In base
 glob:base.Ns zdf mg
 blt:∃mb,base.Ns builtinsNs mb/\∀x:Str,x≠"__name__"->mb x=bootBuiltins x
 nolimit:base.NoLimit
structure Cx where
 prog:zdk
 w:zda
 K:zaa
 mg:Str->Option zc9
 base:Heap
 A:zdj
 N:List Str
 s₀:zdi
 H₀:Hp
 env:Env
 outer:List Env
 stack:List Env
 ex:List zc8
 fn:Str->Bool
 calm:Bool
 pn:List (zc8×Obj)
 xe:zc9->zdi->Prop
noncomputable def cV (l:List Env):List zc8:=l.filterMap (·.frame)
noncomputable abbrev Cx.fs (X:Cx):List zc8:=cV X.outer
noncomputable def Rc (sc:Scope) (x:Str):Prop:=sc.names.lookup x=some .local\/sc.names.lookup x=some .cell\/sc.names.lookup x=some .free
noncomputable def Loc (sc:Scope) (x:Str):Prop:=sc.names.lookup x=some .local\/sc.names.lookup x=some .cell
noncomputable def Look (env:Env) (h:Heap) (m:Str->Option zc9) (x:Str) (u:zc9):Prop:=
 (env.kindOf x=some .local/\m x=some u)\/((env.kindOf x=some .cell\/env.kindOf x=some .free)/\∃c,env.cells.lookup x=some c/\h.IsCell c (some u))
structure Cx.Ok(X:Cx):Prop where
 mod:Mod X.K X.mg X.base
 kind:X.env.scope.kind=.function
 glob:X.env.globals=zdf
 blt:X.env.builtins=builtinsNs
 above:X.s₀.heap.objs.size<=X.env.locals
 inj:∀x y c,X.env.cells.lookup x=some c->X.env.cells.lookup y=some c->x=y
 has:∀x,(X.env.kindOf x=some .cell\/X.env.kindOf x=some .free)->∃c,X.env.cells.lookup x=some c
 Li:∀x c,X.fn x=true->X.env.cells.lookup x=some c->X.s₀.heap.objs.size<=c
 hd:X.calm=true->X.A.handled=none
 frames:X.A.frames=some X.stack
 Ub:X.stack=X.outer\/(X.stack=X.env::X.outer/\X.env.frame=some X.env.locals)
 Yl:∀b∈X.ex,b≠X.env.locals/\∀x c,X.env.cells.lookup x=some c->c≠b
 bs:∀b o,X.base.get? b=some o->X.s₀.heap.get? b=some o/\X.H₀ b=none
 AU:X.base.objs.size<=X.s₀.heap.objs.size
 Hg:∀b o,X.base.get? b=some o->b ∉ X.ex
 Lj:∀b∈X.ex,b ∉ X.fs
 oQ:X.s₀.heap.FunFrames X.base X.outer
 KZ:∀b∈X.fs,X.H₀ b=none
structure Inv(X:Cx)(pins:List (zc8×Obj))(σ:List (Option V))(H:Hp)(s:zdi):Prop where
 ok:X.Ok
 os:s.os=X.s₀.os
 bare:AllBare s.gens
 base:Un X.fs X.ex X.H₀ H X.s₀.heap s.heap
 loc:∃m,s.heap.Ns X.env.locals m/\∀(i:Nat) (x:Str) (v:V),X.N[i]?=some x->σ[i]?=some (some v)->Rc X.env.scope x->∃u,RelV v u/\Look X.env s.heap m x u
 cell:∀x c,X.env.cells.lookup x=some c->∃v,s.heap.IsCell c v
 free:H X.env.locals=none
 mz:∀x c,X.env.cells.lookup x=some c->H c=none
 pin:∀p∈X.pn++pins,s.heap.get? p.1=some p.2/\H p.1=none/\p.1≠X.env.locals/\p.1 ∉ X.fs/\∀v,p.2.data≠.cell v
 cL:my X.prog X.w H s.heap
 len:σ.length=X.N.length
section
variable{X:Cx}{pins:List (zc8×Obj)}{σ:List (Option V)}{H H':Hp}{s:zdi}{h':Heap}
theorem Cx.Ok.Vo(ok:X.Ok){b:zc8}{o:Obj}(e:X.base.get? b=some o):b ∉ X.fs:=fun hb=>by
 have:=(ok.oQ.mem hb).1;rw[e] at this;cases this
theorem Inv.bs(I:Inv X pins σ H s):∀b o,X.base.get? b=some o->s.heap.get? b=some o/\H b=none:=fun b o e=>
 ⟨I.base.keep b o (I.ok.bs b o e).1 (I.ok.bs b o e).2 (I.ok.Vo e) (I.ok.Hg b o e),I.base.free b o (I.ok.bs b o e).1 (I.ok.bs b o e).2 (I.ok.Hg b o e)⟩
theorem Inv.bk(I:Inv X pins σ H s):∀b o,X.base.get? b=some o->s.heap.get? b=some o:=fun b o e=>(I.bs b o e).1
theorem Inv.mod(I:Inv X pins σ H s):Mod X.K X.mg X.base:=I.ok.mod
theorem Inv.CD(I:Inv X pins σ H s):X.K.In s.heap:=I.ok.mod.Rb.keeps I.bk
theorem Inv.lt(I:Inv X pins σ H s):X.env.locals<s.heap.objs.size:=let ⟨_,hn,_⟩:=I.loc;hn.lt
theorem Inv.sz(I:Inv X pins σ H s):X.s₀.heap.objs.size<=s.heap.objs.size:=zaA I.ok.above (zcc I.lt)
theorem Inv.Vp(I:Inv X pins σ H s){a:zc8}(h:s.heap.objs.size<=a):a ∉ X.fs:=fun hb=>by
 obtain⟨_,o,ho,_⟩:=I.ok.oQ.mem hb;exact absurd (zay (Heap.lt_size ho) (zaA I.sz h)) (zaP _)
theorem Inv.MZ(I:Inv X pins σ H s):∀x c,X.env.cells.lookup x=some c->c≠X.env.locals:=fun x c e z=>by
 obtain⟨v,o,ho,hd⟩:=I.cell x c e;obtain⟨m,⟨o',es,ep,N4,CF,_⟩,_⟩:=I.loc;rw[z,N4] at ho;cases ho;rw[CF] at hd;cases hd
theorem Inv.oQ(I:Inv X pins σ H s):s.heap.FunFrames X.base X.outer:=by
 have all:∀(l:List Env),(∀b∈cV l,b∈X.fs)->X.s₀.heap.FunFrames X.base l->s.heap.FunFrames X.base l:=by
  intro l
  induction l with
  |nil=>intro _ _;trivial
  |cons env r ih=>
   intro hs hl;obtain⟨hk,⟨L,o,hf,hn,ho,hd⟩,hr⟩:=hl;have hL:L∈X.fs:=hs L (by unfold cV;rw[zci,hf];exact zak);obtain⟨sl,e⟩:=I.base.slot L o ho (I.ok.KZ L hL) hL fun z=>I.ok.Lj L z hL;exact⟨hk,⟨L,_,hf,hn,e,hd⟩,ih (fun b hb=>hs b (by unfold cV;rw[zci,hf];exact zai _ hb)) hr⟩
 exact all X.outer (fun _ hb=>hb) I.ok.oQ
theorem Inv.stack(I:Inv X pins σ H s):s.heap.FunFrames X.base X.stack:=by
 rcases I.ok.Ub with e |⟨e,hf⟩
 ·rw[e];exact I.oQ
 ·rw[e];obtain⟨m,hn,_⟩:=I.loc;refine .cons (by rw[I.ok.kind];decide) hf hn ?_ I.oQ;exact Heap.get?_none_of_le (zaA I.ok.AU I.ok.above)
theorem Inv.vC(I:Inv X pins σ H s):∀b∈cV X.stack,b∈X.env.locals::X.fs:=fun b hb=>by
 rcases I.ok.Ub with e |⟨e,hf⟩
 ·rw[e] at hb;exact zai _ hb
 ·rw[e] at hb;unfold cV at hb;rw[zci,hf] at hb;exact hb
theorem Inv.yR(I:Inv X pins σ H s):∀b∈cV X.stack,H b=none:=fun b hb=>by
 rcases zae.mp (I.vC b hb) with e |hb
 ·rw[e];exact I.free
 ·obtain⟨_,o,ho,_⟩:=I.ok.oQ.mem hb;exact I.base.free b o ho (I.ok.KZ b hb) fun z=>I.ok.Lj b z hb
theorem Inv.step{g':Array GenState}{t':Nat}{d':Drawn}{ch:List zc8}(I:Inv X pins σ H s)
 (K0:∀b∈ch,(b∈X.ex\/X.s₀.heap.objs.size<=b)/\b≠X.env.locals/\(∀x c,X.env.cells.lookup x=some c->c≠b)/\∀p∈X.pn++pins,p.1≠b)
 (keep:∀b o,b≠X.env.locals->b ∉ X.fs->b ∉ ch->s.heap.get? b=some o->H b=none->h'.get? b=some o)
 (slot:∀b o,b≠X.env.locals->b∈X.fs->b ∉ ch->s.heap.get? b=some o->H b=none->∃sl,h'.get? b=some {o with slots:=sl}) (free:∀b o,b ∉ ch->s.heap.get? b=some o->H b=none->H' b=none)
 (there:∀b o,b ∉ ch->s.heap.get? b=some o->∃o',h'.get? b=some o')
 (vB:∀b xs,H b=some (.tup xs)->H' b=some (.tup xs)) (uO:∀b o u,H b=some (.KY o u)->H' b=some (.KY o u)) (uP:∀b ps,H b=some (.oZ ps)->∃more,H' b=some (.oZ (ps++more)))
 (ns:∀m,s.heap.Ns X.env.locals m->h'.Ns X.env.locals m) (cL:my X.prog X.w H' h') (hg:AllBare g') :
 Inv X pins σ H' {s with heap:=h',gens:=g',drawn:=d',toks:=t' }:=by
 have Ym:∀b o,X.s₀.heap.get? b=some o->b≠X.env.locals:=fun b o e=>zaD (zay (Heap.lt_size e) I.ok.above);have Uc:∀b o,X.s₀.heap.get? b=some o->b ∉ X.ex->b ∉ ch:=fun b o e hx hb=>by
  rcases(K0 b hb).1 with z |z
  ·exact hx z
  ·exact absurd (zay (Heap.lt_size e) z) (zaP _)
 have cellK:∀x c,X.env.cells.lookup x=some c->∀v,s.heap.IsCell c v->h'.IsCell c v:=fun x c e v ⟨o,ho,hd⟩=>by
  have Rf:c ∉ ch:=fun z=>(K0 c z).2.2.1 x c e rfl;by_cases hc:c∈X.fs
  ·obtain⟨sl,q⟩:=slot c o (I.MZ x c e) hc Rf ho (I.mz x c e);exact⟨_,q,hd⟩
  ·exact⟨o,keep c o (I.MZ x c e) hc Rf ho (I.mz x c e),hd⟩
 refine⟨I.ok,I.os,hg,⟨fun b o e n hb hx=>?_,fun b o e n hb hx=>?_,fun b o e n hx=>?_,fun b o e hx=>?_,fun b xs e=>vB b xs (I.base.vB b xs e),fun b o xs e=>uO b o xs (I.base.uO b o xs e),fun b ps e=>?_⟩,?_,fun x c e=>?_,?_,fun x c e=>?_,fun p hp=>?_,cL,I.len⟩
 ·exact keep b o (Ym b o e) hb (Uc b o e hx) (I.base.keep b o e n hb hx) (I.base.free b o e n hx)
 ·obtain⟨sl,e1⟩:=I.base.slot b o e n hb hx;obtain⟨sl',e2⟩:=slot b _ (Ym b o e) hb (Uc b o e hx) e1 (I.base.free b o e n hx);exact⟨sl',e2⟩
 ·obtain⟨o',e1⟩:=I.base.there b o e hx;exact free b o' (Uc b o e hx) e1 (I.base.free b o e n hx)
 ·obtain⟨o',e1⟩:=I.base.there b o e hx;exact there b o' (Uc b o e hx) e1
 ·obtain⟨m1,e1⟩:=I.base.uP b ps e;obtain⟨m2,e2⟩:=uP b _ e1;exact⟨m1++m2,by rw[e2,Array.append_assoc]⟩
 ·obtain⟨m,hn,hl⟩:=I.loc;refine⟨m,ns m hn,fun i x v e1 e2 e3=>?_⟩;obtain⟨u,r,l⟩:=hl i x v e1 e2 e3;refine⟨u,r,?_⟩;rcases l with l |⟨k,c,e,z⟩
  ·exact .inl l
  ·exact .inr ⟨k,c,e,cellK x c e _ z⟩
 ·obtain⟨v,z⟩:=I.cell x c e;exact⟨v,cellK x c e v z⟩
 ·obtain⟨m,⟨o,_,_,ho,_⟩,_⟩:=I.loc;exact free _ o (fun z=>(K0 _ z).2.1 rfl) ho I.free
 ·obtain⟨v,o,ho,hd⟩:=I.cell x c e;exact free c o (fun z=>(K0 c z).2.2.1 x c e rfl) ho (I.mz x c e)
 ·obtain⟨e,n,ne,nf,d⟩:=I.pin p hp;have Rf:p.1 ∉ ch:=fun z=>(K0 p.1 z).2.2.2 p hp rfl;exact⟨keep p.1 p.2 ne nf Rf e n,free p.1 p.2 Rf e n,ne,nf,d⟩
theorem Inv.un{t':Nat}(I:Inv X pins σ H s)(u:Un X.fs [] H H' s.heap h')(cL:my X.prog X.w H' h'):Inv X pins σ H' {s with heap:=h',toks:=t' }:=by
 obtain⟨m,⟨o,es,ep,ho,r⟩,_⟩:=id I.loc;obtain⟨sl,hL⟩:=u.any ho I.free (by simp);exact I.step (g':=s.gens) (d':=s.drawn) (ch:=[]) (fun _ z=>nomatch z) (fun b o _ hb _ e n=>u.keep b o e n hb (by simp)) (fun b o _ hb _ e n=>u.slot b o e n hb (by simp)) (fun b o _ e n=>u.free b o e n (by simp)) (fun b o _ e=>u.there b o e (by simp)) u.vB u.uO u.uP (fun m' hm=>by
  obtain⟨o',Vq,Vr,N4,r'⟩:=hm;rw[ho] at N4;cases N4;exact⟨_,Vq,Vr,hL,r'⟩) cL I.bare
theorem Inv.call{g':Array GenState}{t':Nat}{d':Drawn}{ch:List zc8}(I:Inv X pins σ H s)(u:Un (cV X.stack) ch H H' s.heap h')(cL:my X.prog X.w H' h')(hg:AllBare g')
 (K0:∀b∈ch,(b∈X.ex\/X.s₀.heap.objs.size<=b)/\b≠X.env.locals/\(∀x c,X.env.cells.lookup x=some c->c≠b)/\∀p∈X.pn++pins,p.1≠b) :
 Inv X pins σ H' {s with heap:=h',gens:=g',drawn:=d',toks:=t' }:=by
 obtain⟨m,⟨o,es,ep,ho,r⟩,_⟩:=id I.loc;obtain⟨sl,hL⟩:=u.any ho I.free fun z=>(K0 _ z).2.1 rfl;exact I.step (ch:=ch) K0 (fun b o hL hb hc e n=>u.keep b o e n (fun z=>(zae.mp (I.vC b z)).elim hL hb) hc) (fun b o _ _ hc e n=>u.any e n hc) (fun b o hc e n=>u.free b o e n hc) (fun b o hc e=>u.there b o e hc) u.vB u.uO u.uP (fun m' hm=>by
  obtain⟨o',Vq,Vr,N4,r'⟩:=hm;rw[ho] at N4;cases N4;exact⟨_,Vq,Vr,hL,r'⟩) cL hg
theorem Inv.turned{t':Nat}{it:zc8}(I:Inv X pins σ H s)(k:∀b o,b≠it->s.heap.get? b=some o->h'.get? b=some o)(hn:H it=none)(hL:it≠X.env.locals)
 (h1:it∈X.ex\/X.s₀.heap.objs.size<=it) (h2:∀x c,X.env.cells.lookup x=some c->c≠it) (h3:∀p∈X.pn++pins,p.1≠it):Inv X pins σ H {s with heap:=h',toks:=t' }:=by
 have Rg:∀b u,H b=some u->b≠it:=fun b u e z=>by rw[z,hn] at e;cases e
 refine I.step (g':=s.gens) (d':=s.drawn) (ch:=[it]) (fun b hb=>?_) (fun b o _ _ hc e _=>k b o (fun z=>hc (by simp[z])) e) (fun b o _ _ hc e _=>⟨o.slots,k b o (fun z=>hc (by simp[z])) e⟩) (fun _ _ _ _ n=>n)
  (fun b o hc e=>⟨o,k b o (fun z=>hc (by simp[z])) e⟩) (fun _ _ e=>e) (fun _ _ _ e=>e) (fun b ps e=>⟨#[],by rw[e];simp⟩) (fun m hm=>?_) (fun b u e=>?_) I.bare
 ·have e:b=it:=by simpa using hb
  subst e;exact⟨h1,hL,h2,h3⟩
 ·obtain⟨o,es,ep,ho,r⟩:=hm;exact⟨o,es,ep,k _ o (Ne.symm hL) ho,r⟩
 ·refine(I.cL b u e).uN (fun c v hc q=>k c v ?_ q) (fun _ q=>q) fun _ _ q=>q;rcases hc with z |z
  ·rw[z];exact Rg b u e
  ·exact Rg c _ z
theorem Inv.tok(I:Inv X pins σ H s)(t:Nat):Inv X pins σ H {s with toks:=t}:=I.un (h':=s.heap) (t':=t) Un.refl I.cL
theorem Inv.kept{t':Nat}(I:Inv X pins σ H s)(k:∀b u,s.heap.get? b=some u->h'.get? b=some u):Inv X pins σ H {s with heap:=h',toks:=t' }:=I.un (Un.kept k) (I.cL.kept k)
theorem Inv.laid{a:zc8}{o:HO}{t':Nat}(I:Inv X pins σ H s)(k:∀b u,s.heap.get? b=some u->h'.get? b=some u)(hp:s.heap.objs.size<=a)(new:eF X.prog X.w (upd H a o) h' a o) :
 Inv X pins σ (upd H a o) {s with heap:=h',toks:=t' }:=I.un (Un.laid k hp (I.cL.fresh hp)) (I.cL.laid k hp new)
theorem Inv.write{x e:zc8}{o:HO}{t':Nat}(I:Inv X pins σ H s)(mu:Q9 (H x))(he:e=x\/H e=some (.own x))(k:∀b u,b≠e->s.heap.get? b=some u->h'.get? b=some u)(Qy:∃u,h'.get? e=some u)
 (new:eF X.prog X.w (upd H x o) h' x o):Inv X pins σ (upd H x o) {s with heap:=h',toks:=t' }:=I.un (Un.write mu he k Qy) (I.cL.write mu he k Qy new)
theorem Inv.Ef{Eg:List (zc8×Obj)}(I:Inv X pins σ H s)(h:∀p∈Eg,s.heap.get? p.1=some p.2/\H p.1=none/\p.1≠X.env.locals/\p.1 ∉ X.fs/\∀v,p.2.data≠.cell v):Inv X Eg σ H s:=
 ⟨I.ok,I.os,I.bare,I.base,I.loc,I.cell,I.free,I.mz,fun p hp=>(zao.mp hp).elim (fun z=>I.pin p (zbg _ z)) (h p),I.cL,I.len⟩
theorem AV{N:List Str}(hN:N.Nodup){i j:Nat}{x:Str}(a:N[i]?=some x)(b:N[j]?=some x):i=j:=by
 obtain⟨h1,e1⟩:=zam.mp a;obtain⟨h2,e2⟩:=zam.mp b;exact(List.getElem_inj hN).mp (e1.trans e2.symm)
theorem xY{M:Model}{A:zdj}{E:zc9->zdi->Prop}{i:Nat}{x:Str}{v:V}{u:zc9}{Q:Unit->zdi->Prop}(I:Inv X pins σ H s)(hN:X.N.Nodup)(hi:X.N[i]?=some x)(hx:Loc X.env.scope x)(r:RelV v u)
 (h:∀s',Inv X pins (σ.set i (some v)) H s'->(∃a,Heap.SameBut a s.heap s'.heap/\(a=X.env.locals\/X.env.cells.lookup x=some a))->Q () s') (hf:X.fn x=true\/X.env.scope.names.lookup x=some .local:=by first |exact .inl rfl |exact .inr rfl |assumption):wpAny M A (storeName X.env x u) Q E s:=by
 obtain⟨m,hn,hl⟩:=id I.loc;have Vs:(X.env.scope.kind==.class ||(X.env.scope.kind==.module&&X.env.locals != X.env.globals))=false:=by rw[I.ok.kind];rfl
 have Rh:i<σ.length:=by rw[I.len];exact(zam.mp hi).1
 have MZ:=I.MZ;have tracked:∀ {a:zc8} {h':Heap},(∃o,s.heap.get? a=some o/\H a=none)->Heap.SameBut a s.heap h'->my X.prog X.w H h':=fun {a h'} ha hs b ob e=>by
  obtain⟨_,_,qM⟩:=ha;refine(I.cL b ob e).uN (fun c w' hc q=>(hs.2 c ?_).trans q) (fun _ q=>q) fun _ _ q=>q
  rintro rfl
  rcases hc with rfl |hc
  ·rw[qM] at e;cases e
  ·rw[qM] at hc;cases hc
 rcases hx with hk |hk
 ·refine wpAny_storeName_local hk hn (fun h' N6 hs=>?_) Vs;obtain⟨oL,_,_,hoL,_⟩:=id hn;refine h _ ⟨I.ok,I.os,I.bare,⟨fun b o e n hb hx=>?_,fun b o e n hb hx=>?_,I.base.free,fun b o e hx=>?_,I.base.vB,I.base.uO,I.base.uP⟩,⟨_,N6,fun j y v' e1 e2 e3=>?_⟩,fun y c e=>?_,I.free,I.mz,fun p hp=>?_,tracked ⟨oL,hoL,I.free⟩ hs,by simpa using I.len⟩ ⟨_,hs,.inl rfl⟩
  ·exact(hs.2 b (zaD (zay (Heap.lt_size e) I.ok.above))).trans (I.base.keep b o e n hb hx)
  ·obtain⟨sl,e1⟩:=I.base.slot b o e n hb hx;exact⟨sl,(hs.2 b (zaD (zay (Heap.lt_size e) I.ok.above))).trans e1⟩
  ·obtain⟨o',e1⟩:=I.base.there b o e hx;exact⟨o',(hs.2 b (zaD (zay (Heap.lt_size e) I.ok.above))).trans e1⟩
  ·by_cases hj:j=i
   ·subst hj;rw[hi] at e1;cases e1;rw[zb6 Rh] at e2;cases e2;exact⟨u,r,.inl ⟨hk,by simp⟩⟩
   ·rw[zcd (Ne.symm hj)] at e2;obtain⟨u',r',q⟩:=hl j y v' e1 e2 e3;refine⟨u',r',?_⟩;rcases q with ⟨k,e⟩ |⟨k,c,e,z⟩
    ·refine .inl ⟨k,?_⟩;have:y≠x:=fun e=>hj (AV hN e1 (e▸hi));simp[this,e]
    ·exact .inr ⟨k,c,e,z.sameBut hs (MZ y c e)⟩
  ·obtain⟨w',z⟩:=I.cell y c e;exact⟨w',z.sameBut hs (MZ y c e)⟩
  ·obtain⟨e,n,ne,nf,d⟩:=I.pin p hp;exact⟨(hs.2 p.1 ne).trans e,n,ne,nf,d⟩
 ·have N7:X.fn x=true:=by
   rcases hf with z |z
   ·exact z
   ·rw[z] at hk;cases hk
  obtain⟨c,hc⟩:=I.ok.has x (.inl hk);obtain⟨w',z⟩:=I.cell x c hc;refine wpAny_storeName_cell I.ok.kind hk hc z (fun h' Ri hs=>?_);obtain⟨oc,QA,Vt⟩:=id z;refine h {s with heap:=h' } ⟨I.ok,I.os,I.bare,⟨fun b o e n hb hx=>?_,fun b o e n hb hx=>?_,I.base.free,fun b o e hx=>?_,I.base.vB,I.base.uO,I.base.uP⟩,⟨m,hn.sameBut hs (Ne.symm (MZ x c hc)),fun j y v' e1 e2 e3=>?_⟩,fun y c' e=>?_,I.free,I.mz,fun p hp=>?_,tracked ⟨oc,QA,I.mz x c hc⟩ hs,by simpa using I.len⟩ ⟨c,hs,.inr hc⟩
  ·exact(hs.2 b (zaD (zay (Heap.lt_size e) (I.ok.Li x c N7 hc)))).trans (I.base.keep b o e n hb hx)
  ·obtain⟨sl,e1⟩:=I.base.slot b o e n hb hx;exact⟨sl,(hs.2 b (zaD (zay (Heap.lt_size e) (I.ok.Li x c N7 hc)))).trans e1⟩
  ·obtain⟨o',e1⟩:=I.base.there b o e hx;exact⟨o',(hs.2 b (zaD (zay (Heap.lt_size e) (I.ok.Li x c N7 hc)))).trans e1⟩
  ·by_cases hj:j=i
   ·subst hj;rw[hi] at e1;cases e1;rw[zb6 Rh] at e2;cases e2;exact⟨u,r,.inr ⟨.inl hk,c,hc,Ri⟩⟩
   ·rw[zcd (Ne.symm hj)] at e2;obtain⟨u',r',q⟩:=hl j y v' e1 e2 e3;refine⟨u',r',?_⟩;rcases q with q |⟨k,c',e,z'⟩
    ·exact .inl q
    ·refine .inr ⟨k,c',e,z'.sameBut hs ?_⟩
     rintro rfl
     exact hj (AV hN e1 (I.ok.inj _ _ _ e hc▸hi))
  ·by_cases xm:c'=c
   ·subst xm;exact⟨_,Ri⟩
   ·obtain⟨w2,z2⟩:=I.cell y c' e;exact⟨w2,z2.sameBut hs xm⟩
  ·obtain⟨e,n,ne,nf,d⟩:=I.pin p hp;refine⟨(hs.2 p.1 ?_).trans e,n,ne,nf,d⟩;intro q;rw[q,QA] at e;have q':oc=p.2:=zaT.inj e;exact d w' (by rw[<- q'];exact Vt)
theorem AW{M:Model}{A:zdj}{E:zc9->zdi->Prop}{i:Nat}{x:Str}{v:V}{u:zc9}{Q:Unit->zdi->Prop}(I:Inv X pins σ H s)(hN:X.N.Nodup)(hi:X.N[i]?=some x)(hx:Loc X.env.scope x)(r:RelV v u)
 (h:∀s',Inv X pins (σ.set i (some v)) H s'->Q () s') (hf:X.fn x=true\/X.env.scope.names.lookup x=some .local:=by first |exact .inl rfl |exact .inr rfl |assumption):wpAny M A (storeName X.env x u) Q E s:=
 xY I hN hi hx r (fun s' I' _=>h s' I') hf
theorem Inv.Rj{s':zdi}{ch:List zc8}(I:Inv X pins σ H s)(ho:s'.os=s.os)(u:Un (cV X.stack) ch H H' s.heap s'.heap)(cL:my X.prog X.w H' s'.heap)(hg:AllBare s'.gens)
 (K0:∀b∈ch,(b∈X.ex\/X.s₀.heap.objs.size<=b)/\b≠X.env.locals/\(∀x c,X.env.cells.lookup x=some c->c≠b)/\∀p∈X.pn++pins,p.1≠b):Inv X pins σ H' s':=by
 obtain⟨h',g',d',t',o'⟩:=s';have e:o'=s.os:=ho;subst e;exact I.call (g':=g') (t':=t') (d':=d') u cL hg K0
end
noncomputable abbrev XK:=zc9->Option zc8->Hp->Prop
noncomputable abbrev St:=List (Option V)
noncomputable abbrev VK:=V->Hp->Prop
noncomputable abbrev TE:=St->Hp->VK->Prop
noncomputable abbrev TT:=St->Hp->(Bool->Hp->Prop)->Prop
noncomputable abbrev TA:=St->Hp->(List V->Hp->Prop)->Prop
structure Ends where
 nx:St->Hp->Prop
 rt:VK
 bk:St->Hp->Prop:=fun _ _=>False
 ct:St->Hp->Prop:=fun _ _=>False
noncomputable abbrev TS:=Ends->St->Hp->Prop
noncomputable def EP (X:Cx) (pins:List (zc8×Obj)) (σ:St) (Q:VK) (u:zc9) (s':zdi):Prop:=∃v H',Inv X pins σ H' s'/\RelV v u/\Q v H'
noncomputable def TP (X:Cx) (pins:List (zc8×Obj)) (σ:St) (Q:Bool->Hp->Prop) (b:Bool) (s':zdi):Prop:=∃H',Inv X pins σ H' s'/\Q b H'
noncomputable def AP (X:Cx) (pins:List (zc8×Obj)) (σ:St) (Q:List V->Hp->Prop) (us:List zc9) (s':zdi):Prop:=∃vs H',Inv X pins σ H' s'/\Vals vs us/\Q vs H'
noncomputable def SP (X:Cx) (pins:List (zc8×Obj)) (D:Ends) (f:Flow) (s':zdi):Prop:=
 match f with
 |.next=>∃σ' H',Inv X pins σ' H' s'/\D.nx σ' H'
 |.brk=>∃σ' H',Inv X pins σ' H' s'/\D.bk σ' H'
 |.cont=>∃σ' H',Inv X pins σ' H' s'/\D.ct σ' H'
 |.ret u=>∃v σ' H',Inv X pins σ' H' s'/\RelV v u/\D.rt v H'
noncomputable def PE (X:Cx) (e:Expr) (t:TE):Prop:=
 ∀(pins:List (zc8×Obj)) (s:zdi) (σ:St) (H:Hp) (Q:VK),Inv X pins σ H s->t σ H Q->wpAny (model X.prog X.w) X.A (eval e X.env) (EP X pins σ Q) X.xe s
noncomputable def PT (X:Cx) (e:Expr) (t:TT):Prop:=
 ∀(pins:List (zc8×Obj)) (s:zdi) (σ:St) (H:Hp) (Q:Bool->Hp->Prop),Inv X pins σ H s->t σ H Q->wpAny (model X.prog X.w) X.A (isTrue e X.env (eval e X.env)) (TP X pins σ Q) X.xe s
noncomputable def PW (X:Cx) (e:Expr) (t:TT):Prop:=
 ∀(whole:Sem zc9) (pins:List (zc8×Obj)) (s:zdi) (σ:St) (H:Hp) (Q:Bool->Hp->Prop),Inv X pins σ H s->t σ H Q->wpAny (model X.prog X.w) X.A (isTrue e X.env whole) (TP X pins σ Q) X.xe s
theorem PW.pt{X:Cx}{e:Expr}{t:TT}(h:PW X e t):PT X e t:=h _
noncomputable def PA (X:Cx) (es:List Expr) (t:TA):Prop:=
 ∀(pos:Pos) (pins:List (zc8×Obj)) (s:zdi) (σ:St) (H:Hp) (Q:List V->Hp->Prop),Inv X pins σ H s->t σ H Q->wpAny (model X.prog X.w) X.A (spliced (backTo pos (zde es X.env))) (AP X pins σ Q) X.xe s
noncomputable def PS (X:Cx) (st:Stmt) (t:TS):Prop:=
 ∀(pins:List (zc8×Obj)) (s:zdi) (σ:St) (H:Hp) (D:Ends),Inv X pins σ H s->t D σ H->wpAny (model X.prog X.w) X.A (exec st X.env) (SP X pins D) X.xe s
noncomputable def CG (X:Cx) (st:List Stmt) (t:TS):Prop:=
 ∀(pins:List (zc8×Obj)) (s:zdi) (σ:St) (H:Hp) (D:Ends),Inv X pins σ H s->t D σ H->wpAny (model X.prog X.w) X.A (execs st X.env) (SP X pins D) X.xe s
theorem eD{α:Type}{t:Sem α}{Q Q':α->zdi->Prop}{M:Model}{A:zdj}{E:zc9->zdi->Prop}{s:zdi}(h:wpAny M A t Q E s)(hQ:∀a s,Q a s->Q' a s):wpAny M A t Q' E s:=wpAny_mono h hQ fun _ _ x=>x
section
variable{X:Cx}
noncomputable def Yn (Q:V->Prop):Option (Option V)->Prop
 |some (some v)=>Q v
 |_=>False
theorem N8{Q:V->Prop}:∀ {o:Option (Option V)},Yn Q o->∃v,o=some (some v)/\Q v
 |some (some v),h=>⟨v,rfl,h⟩
 |some none,h=>h.elim
 |none,h=>h.elim
noncomputable def eW (i:Nat):TE:=fun σ H Q=>Yn (fun v=>Q v H) σ[i]?
noncomputable def tC (v:V):TE:=fun _ H Q=>Q v H
theorem N9{i:Nat}{x:Str}{pos:Pos}(hN:X.N[i]?=some x)(hv:Rc X.env.scope x)(hd:(x==("__debug__":Str))=false:=by decide)(CH:(x==("__classdict__":Str))=false:=by decide):PE X (.Name x pos) (eW i):=by
 intro pins s σ H Q I h;obtain⟨v,e,h⟩:=N8 h;obtain⟨m,hn,hl⟩:=I.loc;obtain⟨u,r,l⟩:=hl i x v hN e hv;have fin:EP X pins σ Q u s:=⟨v,H,I,r,h⟩
 rcases l with ⟨hk,hm⟩ |⟨hk,c,hc,uh⟩
 ·exact wpAny_Name (wpAny_loadName_local I.ok.kind hk hn hm fin) hd
 ·rcases hk with hk |hk
  ·exact wpAny_Name (wpAny_loadName_cell I.ok.kind hk hc uh fin) hd
  ·exact wpAny_Name (wpAny_loadName_free I.ok.kind hk hc uh fin CH) hd
theorem ao{i j pos}:PE X (.Constant (.int i) j pos) (tC (.int i)):=fun _ _ _ H _ I h=>wpAny_Constant_int ⟨.int i,H,I.tok _,⟨_,rfl⟩,h⟩
theorem o7{b j pos}:PE X (.Constant (.bool b) j pos) (tC (.bl b)):=fun _ _ _ H _ I h=>Constant_bool ⟨.bl b,H,I,rfl,h⟩
theorem dQ{j pos}:PE X (.Constant .none j pos) (tC .b9):=fun _ _ _ H _ I h=>Constant_none ⟨.b9,H,I,rfl,h⟩
theorem aY{x j pos}:PE X (.Constant (.str x) j pos) (tC (.str x)):=fun _ _ _ H _ I h=>Calls.Constant_str ⟨.str x,H,I.tok _,⟨_,rfl⟩,h⟩
noncomputable def Gl (X:Cx) (x:Str):Prop:=X.env.kindOf x=some .globalImplicit
theorem vb{E:zc9->zdi->Prop}{pins:List (zc8×Obj)}{s:zdi}{σ:St}{H:Hp}{x:Str}{u:zc9}{pos:Pos}{Q:zc9->zdi->Prop}(I:Inv X pins σ H s)(hg:Gl X x)(hm:X.mg x=some u)(h:Q u s)
 (hd:(x==("__debug__":Str))=false:=by decide):wpAny (model X.prog X.w) X.A (eval (.Name x pos) X.env) Q E s:=
 Calls.Name_function_global I.ok.kind hg (Calls.loadGlobal_global (by rw[I.ok.glob];exact I.mod.glob.keeps I.bk) hm h) hd
theorem sY{E:zc9->zdi->Prop}{pins:List (zc8×Obj)}{s:zdi}{σ:St}{H:Hp}{x:Str}{u:zc9}{pos:Pos}{Q:zc9->zdi->Prop}(I:Inv X pins σ H s)(hg:Gl X x)(hm:X.mg x=none)(hv:bootBuiltins x=some u)(h:Q u s)
 (hn:x≠"__name__":=by decide) (hd:(x==("__debug__":Str))=false:=by decide):wpAny (model X.prog X.w) X.A (eval (.Name x pos) X.env) Q E s:=by
 obtain⟨mb,h1,h2⟩:=I.mod.blt;exact Calls.Name_function_global I.ok.kind hg (Calls.loadGlobal_builtin (by rw[I.ok.glob];exact I.mod.glob.keeps I.bk) hm (by rw[I.ok.blt];exact h1.keeps I.bk) ((h2 x hn).trans hv) h) hd
theorem k0{x:Str}{v:V}{u:zc9}{pos:Pos}(hg:Gl X x)(hm:X.mg x=some u)(r:RelV v u)(hd:(x==("__debug__":Str))=false:=by decide):PE X (.Name x pos) (tC v):=
 fun _ _ _ H _ I h=>vb I hg hm ⟨v,H,I,r,h⟩ hd
variable{a b:Expr}{ta tb:TE}{pos:Pos}
noncomputable def tB (t:TE):TT:=fun σ H Q=>t σ H fun x H1=>∃c,x=.bl c/\Q c H1
theorem mS{e:Expr}{t:TE}(h:PE X e t)(he:∀whole,isTrue e X.env whole=(do let v <- whole;standAt e.pos;holding [v] (truthy v)):=by intro _;rfl):PT X e (tB t):=by
 intro pins s σ H Q I hw;refine isTrue_plain (eD (h pins s σ H _ I hw) fun v s1 zqz=>?_) (he _);obtain⟨x,H1,I1,r1,q1⟩:=zqz;obtain⟨d,rfl,q⟩:=q1;cases r1;exact wpAny_truthy_bool ⟨H1,I1,q⟩
variable{tA Ud:TT}{rest:List Expr}
noncomputable def Oa (t u:TT):TT:=fun σ H Q=>t σ H fun c H1=>if c=true then u σ H1 Q else Q false H1
noncomputable def Vu (t u:TT):TT:=fun σ H Q=>t σ H fun c H1=>if c=true then Q true H1 else u σ H1 Q
noncomputable def Rk (t:TT):TT:=fun σ H Q=>t σ H fun c H1=>Q (!c) H1
theorem pw_and1(ha:PT X a tA):PW X (.BoolOp .And [a] pos) tA:=by
 intro wh pins s σ H Q I h;refine isTrue_and (eD (ha pins s σ H Q I h) fun c s1 e=>?_);cases c with
 |true=>exact isTrue_and_nil e
 |false=>exact e
theorem pw_or1(ha:PT X a tA):PW X (.BoolOp .Or [a] pos) tA:=by
 intro wh pins s σ H Q I h;refine isTrue_or (eD (ha pins s σ H Q I h) fun c s1 e=>?_);cases c with
 |false=>exact isTrue_or_nil e
 |true=>exact e
theorem pw_and(ha:PT X a tA)(hb:PW X (.BoolOp .And (b::rest) pos) Ud):PW X (.BoolOp .And (a::b::rest) pos) (Oa tA Ud):=by
 intro wh pins s σ H Q I h;refine isTrue_and (eD (ha pins s σ H _ I h) fun c s1 zqz=>?_);obtain⟨H1,I1,q1⟩:=zqz;cases c with
 |true=>exact hb wh pins s1 σ H1 Q I1 q1
 |false=>exact⟨H1,I1,q1⟩
theorem pw_or(ha:PT X a tA)(hb:PW X (.BoolOp .Or (b::rest) pos) Ud):PW X (.BoolOp .Or (a::b::rest) pos) (Vu tA Ud):=by
 intro wh pins s σ H Q I h;refine isTrue_or (eD (ha pins s σ H _ I h) fun c s1 zqz=>?_);obtain⟨H1,I1,q1⟩:=zqz;cases c with
 |true=>exact⟨H1,I1,q1⟩
 |false=>exact hb wh pins s1 σ H1 Q I1 q1
theorem Hh(ha:PT X a tA):PT X (.UnaryOp .Not a pos) (Rk tA):=by
 intro pins s σ H Q I h;exact isTrue_not (ha pins s σ H (fun c H1=>Q (!c) H1) I h)
noncomputable def M0 (ta tb:TE):TE:=fun σ H Q=>ta σ H fun x H1=>∃c,x=.bl c/\if c=true then tb σ H1 Q else Q (.bl false) H1
noncomputable def Rl (ta tb:TE):TE:=fun σ H Q=>ta σ H fun x H1=>∃c,x=.bl c/\if c=true then Q (.bl true) H1 else tb σ H1 Q
noncomputable def M1 (ta:TE):TE:=fun σ H Q=>ta σ H fun x H1=>∃c,x=.bl c/\Q (.bl (!c)) H1
noncomputable def Yo (t:TT) (ta tb:TE):TE:=fun σ H Q=>t σ H fun c H1=>if c=true then ta σ H1 Q else tb σ H1 Q
end
noncomputable def gM (K:zaa) (H:Hp) (a:zc8) (xs:List V):Prop:=
 Rd H a (.lst xs)\/
  ∃(o:Obj) (bj:Array zc9) (n:Nat),K.lookup a=some o/\o.cls=.type "list"/\o.dict=none/\o.data=.seq bj n/\bj.size<=zdg/\Vals xs bj.toList
noncomputable def cu (K:zaa) (H:Hp) (a:zc8) (xs:List V):Prop:=
 Rd H a (.tup xs)\/
  ∃(o:Obj) (bj:Array zc9) (n:Nat),K.lookup a=some o/\o.cls=.type "tuple"/\o.data=.seq bj n/\bj.size<=zdg/\Vals xs bj.toList
noncomputable def Vv:zc9->Option V
 |.none=>some .b9
 |.bool b=>some (.bl b)
 |.int i _=>some (.int i)
 |.str x _=>some (.str x)
 |.bytes b _=>some (.Ee b)
 |.float b _=>some (.T9 b)
 |.ref a=>some (.ref a)
 |.type n=>some (.ty n)
 |_=>none
theorem RelV.abs{x:V}{u:zc9}(r:RelV x u):Vv u=some x:=by
 cases x with
 |b9=>cases r;rfl
 |bl _=>cases r;rfl
 |int _=>obtain⟨t,rfl⟩:=r;rfl
 |str _=>obtain⟨t,rfl⟩:=r;rfl
 |Ee _=>obtain⟨t,rfl⟩:=r;rfl
 |T9 _=>obtain⟨t,rfl⟩:=r;rfl
 |ref _=>cases r;rfl
 |ty _=>cases r;rfl
theorem RelV.inj{x y:V}{u:zc9}(r:RelV x u)(q:RelV y u):x=y:=zaT.inj (r.abs.symm.trans q.abs)
theorem Vals.inj:∀ {xs ys:List V} {us:List zc9},Vals xs us->Vals ys us->xs=ys
 |_,_,_,.nil,.nil=>rfl
 |_,_,_,.cons r t,.cons r' t'=>by rw[r.inj r',Vals.inj t t']
section
variable{X:Cx}{pins:List (zc8×Obj)}{σ:St}{H:Hp}{s:zdi}{a:zc8}{xs ys:List V}
theorem gM.of{K:zaa}(h:H a=some (.lst xs)):gM K H a xs:=.inl (.inl h)
theorem cu.of{K:zaa}(h:H a=some (.tup xs)):cu K H a xs:=.inl (.inl h)
theorem Inv.list(I:Inv X pins σ H s)(h:gM X.K H a xs):∃bj:List zc9,Vals xs bj/\PlainL s.heap a bj.toArray/\xs.length<=zdg:=by
 rcases h with h |⟨o,bj,n,hk,hc,hd,hs,hz,r⟩
 ·obtain⟨z,bj,n,r,e⟩:=h.ok I.cL;exact⟨bj,r,⟨_,n,e,rfl,rfl,rfl⟩,z⟩
 ·refine⟨bj.toList,r,⟨o,n,I.CD a o hk,hc,hd,by simpa using hs⟩,?_⟩;have e:=r.length;simp only[zbV] at e;lia
theorem Inv.tuple(I:Inv X pins σ H s)(h:cu X.K H a xs):∃bj:List zc9,Vals xs bj/\IsTup s.heap a bj.toArray/\xs.length<=zdg:=by
 rcases h with h |⟨o,bj,n,hk,hc,hs,hz,r⟩
 ·obtain⟨z,bj,r,p⟩:=h.ok I.cL;exact⟨bj,r,p,z⟩
 ·refine⟨bj.toList,r,⟨o,I.CD a o hk,hc,n,by simpa using hs⟩,?_⟩;have e:=r.length;simp only[zbV] at e;lia
theorem Inv.AX(I:Inv X pins σ H s)(h:gM X.K H a xs)(h':gM X.K H a ys):xs=ys:=by
 obtain⟨bj,r,⟨o,n,e,_,_,d⟩,_⟩:=I.list h;obtain⟨its',r',⟨o',n',e',_,_,d'⟩,_⟩:=I.list h';rw[e] at e';cases e';rw[d] at d'
 injection d' with d1 _
 have:bj=its':=by simpa using congrArg Array.toList d1
 subst this;exact r.inj r'
end
noncomputable abbrev Cx.xt (X:Cx) (E:zc9->zdi->Prop):Cx:={X with xe:=E}
noncomputable abbrev Cx.CI (X:Cx):Cx:=X.xt fun _ _=>False
theorem Cx.Ok.xt{X:Cx}(ok:X.Ok)(E:zc9->zdi->Prop):(X.xt E).Ok:=
 ⟨ok.mod,ok.kind,ok.glob,ok.blt,ok.above,ok.inj,ok.has,ok.Li,ok.hd,ok.frames,ok.Ub,ok.Yl,ok.bs,ok.AU,ok.Hg,ok.Lj,ok.oQ,ok.KZ⟩
theorem Cx.Ok.mT{X:Cx}{E:zc9->zdi->Prop}(ok:(X.xt E).Ok):X.Ok:=
 ⟨ok.mod,ok.kind,ok.glob,ok.blt,ok.above,ok.inj,ok.has,ok.Li,ok.hd,ok.frames,ok.Ub,ok.Yl,ok.bs,ok.AU,ok.Hg,ok.Lj,ok.oQ,ok.KZ⟩
section
variable{X:Cx}{pins:List (zc8×Obj)}{σ:St}{H:Hp}{s:zdi}{E:zc9->zdi->Prop}
theorem Inv.xt(I:Inv X pins σ H s)(E:zc9->zdi->Prop):Inv (X.xt E) pins σ H s:=⟨I.ok.xt E,I.os,I.bare,I.base,I.loc,I.cell,I.free,I.mz,I.pin,I.cL,I.len⟩
theorem Inv.mT(I:Inv (X.xt E) pins σ H s):Inv X pins σ H s:=⟨I.ok.mT,I.os,I.bare,I.base,I.loc,I.cell,I.free,I.mz,I.pin,I.cL,I.len⟩
theorem SP.mT{D:Ends}{f:Flow}{s':zdi}(h:SP (X.xt E) pins D f s'):SP X pins D f s':=by
 cases f with
 |next=>obtain⟨σ',H',I,q⟩:=h;exact⟨σ',H',I.mT,q⟩
 |brk=>obtain⟨σ',H',I,q⟩:=h;exact⟨σ',H',I.mT,q⟩
 |cont=>obtain⟨σ',H',I,q⟩:=h;exact⟨σ',H',I.mT,q⟩
 |ret u=>obtain⟨v,σ',H',I,r,q⟩:=h;exact⟨v,σ',H',I.mT,r,q⟩
theorem CG.CI{st:List Stmt}{t:TS}(h:CG X.CI st t):CG X st t:=fun pins s σ H D I hw=>
 wpAny_mono (h pins s σ H D (I.xt _) hw) (fun _ _ q=>q.mT) fun _ _ z=>False.elim z
end
section
variable{X:Cx}{st:Stmt}{rest:List Stmt}{t u:TS}{e:Expr}{te:TE}{pos:Pos}
noncomputable def Hi:TS:=fun D σ H=>D.nx σ H
noncomputable def Lk (t u:TS):TS:=fun D σ H=>t {D with nx:=u D} σ H
theorem aQ:CG X [] Hi:=fun _ _ σ H _ I h=>wpAny_execs_nil ⟨σ,H,I,h⟩
theorem ag(h1:PS X st t)(h2:CG X rest u):CG X (st::rest) (Lk t u):=by
 intro pins s σ H D I h;refine wpAny_execs_cons (eD (h1 pins s σ H {D with nx:=u D} I h) fun f s1 q=>?_);cases f with
 |next=>
  obtain⟨σ',H',I',q⟩:=q;exact h2 pins s1 σ' H' D I' q
 |ret v=>exact q
 |brk=>exact q
 |cont=>exact q
theorem aq(h1:PS X st t):CG X [st] t:=by
 intro pins s σ H D I h;refine wpAny_execs_cons (eD (h1 pins s σ H D I h) fun f s1 q=>?_);cases f with
 |next=>exact wpAny_execs_nil q
 |ret v=>exact q
 |brk=>exact q
 |cont=>exact q
noncomputable def Hj:TS:=fun D σ H=>D.bk σ H
noncomputable def M3:TS:=fun D σ H=>D.ct σ H
theorem Inv.quiet{pins:List (zc8×Obj)}{σ:St}{H:Hp}{s:zdi}(I:Inv X pins σ H s):interactive X.env=false:=by simp[interactive,I.ok.kind]
noncomputable def Hk (te:TE):TS:=fun D σ H=>te σ H fun _ H1=>D.nx σ H1
theorem bP(he:PE X e te)(hs:swapsWith e none pos.line X.env=pure false:=by rfl):PS X (.Expr e pos) (Hk te):=by
 intro pins s σ H D I h;exact wpAny_Expr_any (eD (he pins s σ H _ I h) fun v s1 ⟨x,H1,I1,r1,q1⟩=>⟨σ,H1,I1,q1⟩) I.quiet hs
noncomputable def Ob (te:TE):TS:=fun D σ H=>te σ H D.rt
theorem aJ(he:PE X e te):PS X (.Return (some e) pos) (Ob te):=by
 intro pins s σ H D I h;exact wpAny_Return_some (eD (he pins s σ H _ I h) fun v s1 ⟨x,H1,I1,r1,q1⟩=>⟨x,σ,H1,I1,r1,q1⟩)
noncomputable def M4:TS:=fun D _ H=>D.rt .b9 H
noncomputable def Hl (c:TT) (t u:TS):TS:=fun D σ H=>c σ H fun b H1=>if b=true then t D σ H1 else u D σ H1
theorem bh{c:Expr}{a b:List Stmt}{tc:TT}(hc:PT X c tc)(ha:CG X a t)(hb:CG X b u):PS X (.If c a b pos) (Hl tc t u):=by
 intro pins s σ H D I h;refine wpAny_If (eD (hc pins s σ H _ I h) fun d s1 zqz=>?_);obtain⟨H1,I1,q1⟩:=zqz;cases d with
 |true=>exact ha pins s1 σ H1 D I1 q1
 |false=>exact hb pins s1 σ H1 D I1 q1
noncomputable def Oc:TS:=fun _ _ _=>False
theorem Hn:PS X st Oc:=fun _ _ _ _ _ _ h=>h.elim
end
noncomputable abbrev TG:=V->St->Hp->(St->Hp->Prop)->Prop
noncomputable abbrev Ll:=List V->St->Hp->(St->Hp->Prop)->Prop
noncomputable def PG (X:Cx) (target:Expr) (t:TG):Prop:=
 ∀(pins:List (zc8×Obj)) (s:zdi) (σ:St) (H:Hp) (v:V) (u:zc9) (Q:St->Hp->Prop),Inv X pins σ H s->RelV v u->t v σ H Q->
  wpAny (model X.prog X.w) X.A (assign target X.env u) (fun _ s'=>∃σ' H',Inv X pins σ' H' s'/\Q σ' H') X.xe s
noncomputable def Rm (X:Cx) (ts:List Expr) (t:Ll):Prop:=
 ∀(pins:List (zc8×Obj)) (s:zdi) (σ:St) (H:Hp) (vs:List V) (us:List zc9) (Q:St->Hp->Prop),Inv X pins σ H s->Vals vs us->t vs σ H Q->
  wpAny (model X.prog X.w) X.A (assignInOrder ((assignEach ts X.env).map (·.2)) us) (fun _ s'=>∃σ' H',Inv X pins σ' H' s'/\Q σ' H') X.xe s
noncomputable abbrev Od:=V->V->V->Hp->(Hp->Prop)->Prop
noncomputable def Rn (X:Cx) (t:Od):Prop:=
 ∀(pins:List (zc8×Obj)) (s:zdi) (σ:St) (H:Hp) (o i v:V) (ov iv u:zc9) (Q:Hp->Prop),Inv X pins σ H s->RelV o ov->RelV i iv->RelV v u->t o i v H Q->
  wpAny (model X.prog X.w) X.A (setItem ov iv u) (fun _ s'=>∃H',Inv X pins σ H' s'/\Q H') X.xe s
noncomputable abbrev TIp:=V->V->Hp->VK->Prop
section
variable{X:Cx}{pos:Pos}
noncomputable def dI (i:Nat):TG:=fun v σ H Q=>Q (σ.set i (some v)) H
theorem gA{i:Nat}{x:Str}(hN:X.N.Nodup)(hi:X.N[i]?=some x)(hx:Loc X.env.scope x)(hf:X.fn x=true\/X.env.scope.names.lookup x=some .local:=by first |exact .inl rfl |exact .inr rfl |assumption):PG X (.Name x pos) (dI i):=by
 intro pins s σ H v u Q I r h;exact wpAny_assign_Name (AW I hN hi hx r (fun s' I'=>⟨_,H,I',h⟩) hf)
noncomputable def Oe:Ll:=fun vs σ H Q=>vs=[]/\Q σ H
noncomputable def Ho (t:TG) (u:Ll):Ll:=fun vs σ H Q=>∃v r,vs=v::r/\t v σ H fun σ' H'=>u r σ' H' Q
theorem lh:Rm X [] Oe:=by
 intro pins s σ H vs us Q I r h;obtain⟨e,h⟩:=h;subst e;cases r;exact assignInOrder_nil ⟨σ,H,I,h⟩
theorem ck{e:Expr}{es:List Expr}{t:TG}{u:Ll}(h1:PG X e t)(h2:Rm X es u)
 (hs:(assignEach (e::es) X.env).map (·.2)=assign e X.env::(assignEach es X.env).map (·.2):=by rfl):Rm X (e::es) (Ho t u):=by
 intro pins s σ H vs us Q I r h;obtain⟨v,vr,e1,h⟩:=h;subst e1;cases r with
 |cons r rr=>
  rw[hs];refine assignInOrder_cons (eD (h1 pins s σ H _ _ _ I r h) fun _ s1 zqz=>?_);obtain⟨σ1,H1,I1,q1⟩:=zqz;exact h2 pins s1 σ1 H1 _ _ Q I1 rr q1
noncomputable def Of (K:zaa) (n:Nat) (t:Ll):TG:=fun v σ H Q=>∃a xs,v=.ref a/\cu K H a xs/\xs.length=n/\t xs σ H Q
theorem yS{es:List Expr}{k:Nat}{t:Ll}{n:Nat}(hc:X.calm=true)(h:Rm X es t)
 (hn:(assignEach es X.env).length=n:=by rfl) (K1:(assignEach es X.env).findIdx? (·.1)=none:=by rfl):PG X (.Tuple es k pos) (Of X.K n t):=by
 intro pins s σ H v u Q I r hw;obtain⟨a,xs,e1,hq,hl,hw⟩:=hw;subst e1;cases r;obtain⟨bj,rv,ht,hz⟩:=I.tuple hq;refine assign_Tuple_tuple (I.ok.hd hc) ht (by simp[hn,<- hl,rv.length]) K1 fun h' hx=>?_;have I1:Inv X pins σ H {s with heap:=h' }:=I.kept (t':=s.toks) fun b o e=>hx b o (zaD (Heap.lt_size e)) e;exact h pins _ σ H xs _ Q I1 (by simpa using rv) hw
noncomputable def Og (to ti:TE) (t:Od):TG:=fun v σ H Q=>to σ H fun o H1=>ti σ H1 fun i H2=>t o i v H2 fun H3=>Q σ H3
theorem Oh{o i:Expr}{to ti:TE}{t:Od}(ho:PE X o to)(hi:PE X i ti)(hs:Rn X t)
 (ha:∀v,assign (.Subscript o i pos) X.env v=(do
  let ov <- holding [v] (eval o X.env)
  let iv <- holding [v,ov] (eval i X.env)
  standAt pos
  holding [v,ov,iv] (setItem ov iv v)
  release [v,ov,iv] []):=by intro _;rfl):PG X (.Subscript o i pos) (Og to ti t):=by
 intro pins s σ H v u Q I r h;rw[ha];refine zdb (zdd (eD (ho pins s σ H _ I h) fun ov s1 zqz=>?_));obtain⟨x,H1,I1,r1,q1⟩:=zqz;refine zdb (zdd (eD (hi pins s1 σ H1 _ I1 q1) fun iv s2 zqz=>?_));obtain⟨y,H2,I2,r2,q2⟩:=zqz;refine zdb (wpAny_standAt (zdb (zdd (eD (hs pins s2 σ H2 x y v ov iv u _ I2 r1 r2 r q2) fun _ s3 zqz=>?_))));obtain⟨H3,I3,q3⟩:=zqz;exact wpAny_release ⟨σ,H3,I3,q3⟩
noncomputable def Fw (te:TE) (g:TG):TS:=fun D σ H=>te σ H fun x H1=>g x σ H1 D.nx
theorem yT{tg e:Expr}{te:TE}{g:TG}(he:PE X e te)(hg:PG X tg g)(hs:swapsWithSole [tg] e pos.line X.env=pure false:=by rfl)(hw:swappedStores [tg] e X.env=pure none:=by rfl)
 (h1:(assignEach [tg] X.env).map (·.2)=[assign tg X.env]:=by rfl):PS X (.Assign [tg] e pos) (Fw te g):=by
 intro pins s σ H D I h;refine wpAny_Assign_stores (eD (he pins s σ H _ I h) fun v s1 zqz=>?_) hs hw;obtain⟨x,H1,I1,r1,q1⟩:=zqz;rw[h1];exact eD (hg pins s1 σ H1 x v _ I1 r1 q1) fun _ s2 q=>q
theorem Oi{i:Nat}{x:Str}{e:Expr}{te:TE}{pos':Pos}(hN:X.N.Nodup)(hi:X.N[i]?=some x)(hx:Loc X.env.scope x)(he:PE X e te)(hs:swapsWith e (some (.Name x pos')) pos.line X.env=pure false:=by rfl)(hf:X.fn x=true\/X.env.scope.names.lookup x=some .local:=by first |exact .inl rfl |exact .inr rfl |assumption) :
 PS X (.Assign [.Name x pos'] e pos) (Fw te (dI i)):=by
 intro pins s σ H D I h;refine wpAny_Assign_Name (eD (he pins s σ H _ I h) fun v s1 zqz=>?_) hs;obtain⟨y,H1,I1,r1,q1⟩:=zqz;exact AW I1 hN hi hx r1 (fun s2 I2=>⟨_,H1,I2,q1⟩) hf
noncomputable def Ro (i:Nat) (te:TE) (ti:TIp):TS:=fun D σ H=>∃x,σ[i]?=some (some x)/\te σ H fun y H1=>ti x y H1 fun z H2=>D.nx (σ.set i (some z)) H2
end
section
variable{X:Cx}{pos:Pos}
noncomputable def CJ (c:TT) (tb:TS):TS:=fun D σ H=>∃W:Nat->St->Hp->Prop,(∃m,W m σ H)/\∀m σ H,W m σ H->
 c σ H fun b H1=>if b=true then ∃N:St->Hp->Prop,(∀σ' H',N σ' H'->∃m',m'<m/\W m' σ' H')/\tb {D with nx:=N,ct:=N,bk:=D.nx} σ H1 else D.nx σ H1
theorem qN{c:Expr}{body:List Stmt}{tc:TT}{tb:TS}(hp:PassesOwn (model X.prog X.w) X.A X.env X.xe)(hc:PT X c tc)(hb:CG X body tb):PS X (.While c body [] pos) (CJ tc tb):=by
 intro pins s σ H D I h;obtain⟨W,⟨m0,w0⟩,turn⟩:=h;refine wpAny_While (codeAny_whileLoop (fun n s'=>∃σ' H',Inv X pins σ' H' s'/\W n σ' H') ?_ m0 ⟨σ,H,I,w0⟩)
 rintro n s1 ⟨σ1,H1,I1,w1⟩
 refine wpAny_passesOwn hp (eD (hc pins s1 σ1 H1 _ I1 (turn n σ1 H1 w1)) fun b s2 zqz=>?_);obtain⟨H2,I2,q2⟩:=zqz;cases b with
 |true=>
  obtain⟨N,hN,q2⟩:=q2;rw[if_pos rfl];refine wpAny_passesOwn hp (eD (hb pins s2 σ1 H2 _ I2 q2) fun f s3 q3=>?_);cases f with
  |next=>
   obtain⟨σ3,H3,I3,n3⟩:=q3;obtain⟨m',hm,w3⟩:=hN σ3 H3 n3;exact⟨m',hm,σ3,H3,I3,w3⟩
  |cont=>
   obtain⟨σ3,H3,I3,n3⟩:=q3;obtain⟨m',hm,w3⟩:=hN σ3 H3 n3;exact⟨m',hm,σ3,H3,I3,w3⟩
  |brk=>exact q3
  |ret v=>exact q3
 |false=>
  rw[if_neg zaf];exact wpAny_execs_nil ⟨σ1,H2,I2,q2⟩
end
structure It where
 go:Nat->Hp->Prop
 Eh:Nat->Hp->V->Hp->Prop
 stop:Nat->Hp->Prop
noncomputable def qO (X:Cx) (pins:List (zc8×Obj)) (H:Hp) (b:zc8):Prop:=
 H b=none/\b≠X.env.locals/\b ∉ X.fs/\(b∈X.ex\/X.s₀.heap.objs.size<=b)/\(∀x c,X.env.cells.lookup x=some c->c≠b)/\∀p∈X.pn++pins,p.1≠b
theorem Inv.Fx{X:Cx}{pins:List (zc8×Obj)}{σ:St}{H H':Hp}{s:zdi}{b:zc8}(I:Inv X pins σ H s)(hb:s.heap.objs.size<=b)(hn:H' b=none):qO X pins H' b:=by
 refine⟨hn,zbD (zay I.lt hb),I.Vp hb,.inr (zaA I.sz hb),fun x c e z=>?_,fun p hp z=>?_⟩
 ·obtain⟨v,q⟩:=I.cell x c e;exact absurd (zay q.lt (by rw[z];exact hb)) (zaP _)
 ·exact absurd (zay (Heap.lt_size (I.pin p hp).1) (by rw[z];exact hb)) (zaP _)
structure Turn(P:zdk)(w:zda)(K:zaa)(tg:Expr)(J:It)(fp:List zc8)(it:zc8)(tn:Nat->Heap->Prop):Prop where
 mem:it∈fp
 obj:∀i h,tn i h->∀b∈fp,∃o,h.get? b=some o/\∀v,o.data≠.cell v
 keep:∀i h h',tn i h->(∀b∈fp,∀o,h.get? b=some o->h'.get? b=some o)->tn i h'
 item:∀(X:Cx),X.prog=P->X.w=w->X.K=K->X.calm=true->∀(i:Nat) (pins:List (zc8×Obj)) (s:zdi) (σ:St) (H:Hp) (E:zc9->zdi->Prop),Inv X pins σ H s->(∀b∈fp,qO X pins H b)->tn i s.heap->J.go i H->
  wpAny (model P w) X.A (pyNext (.ref it)) (fun r s1=>∃u,r=some u/\
   wpAny (model P w) X.A (letOwnedTupleGo tg (.ref it) u) (fun _ s2=>∃x H',Inv X pins σ H' s2/\RelV x u/\J.Eh i H x H'/\tn (i+1) s2.heap/\∀b∈fp,H' b=none) E s1) E s
 done:∀(X:Cx),X.prog=P->X.w=w->X.K=K->X.calm=true->∀(i:Nat) (pins:List (zc8×Obj)) (s:zdi) (σ:St) (H:Hp) (E:zc9->zdi->Prop),Inv X pins σ H s->(∀b∈fp,qO X pins H b)->tn i s.heap->J.stop i H->
  wpAny (model P w) X.A (pyNext (.ref it)) (fun r s1=>r=none/\Inv X pins σ H s1) E s
 self:∀(A:zdj) (i:Nat) (s:zdi) (Q:zc9->zdi->Prop) (E:zc9->zdi->Prop),tn i s.heap->Q (.ref it) s->wpAny (model P w) A (pyIter (.ref it)) Q E s
noncomputable abbrev TI:=St->Hp->(It->Hp->Prop)->Prop
noncomputable def Yp (X:Cx) (pins:List (zc8×Obj)) (σ:St) (tg:Expr) (R:It->Hp->Prop) (Vw:zc9) (s2:zdi):Prop:=
 ∃(it:zc8) (fp:List zc8) (tn:Nat->Heap->Prop) (J:It) (H':Hp),Vw=.ref it/\Inv X pins σ H' s2/\Turn X.prog X.w X.K tg J fp it tn/\tn 0 s2.heap/\(∀b∈fp,qO X pins H' b)/\R J H'
noncomputable def PI (X:Cx) (tg iter:Expr) (wi:TI):Prop:=
 ∀(pins:List (zc8×Obj)) (s:zdi) (σ:St) (H:Hp) (R:It->Hp->Prop),Inv X pins σ H s->wi σ H R->
  wpAny (model X.prog X.w) X.A (eval iter X.env) (fun v s1=>wpAny (model X.prog X.w) X.A (pyIter v) (Yp X pins σ tg R) X.xe s1) X.xe s
theorem M5{M:Model}{A:zdj}{E:zc9->zdi->Prop}{s:zdi}{tg:Expr}{it:zc8}{u:zc9}{o:Obj}{n:String}{vs:Array zc9}{Q:Unit->zdi->Prop}(ho:s.heap.get? it=some o)(hc:o.cls=.type n)(hd:o.data=.fields vs)
 (hn:["enumerate", "zip", "dict_itemiterator", "dict_reverseitemiterator", "odict_iterator", "itertools.zip_longest", "itertools.pairwise"].contains n=false) (hQ:Q () s):wpAny M A (letOwnedTupleGo tg (.ref it) u) Q E s:=by
 unfold letOwnedTupleGo;cases tg<;>first
  |exact zdc hQ
  |(cases u<;>first
     |exact zdc hQ
     |(refine zdb (wpAny_load ho ?_)
       rw[hc,hd];show wpAny M A (if (["enumerate", "zip", "dict_itemiterator", "dict_reverseitemiterator", "odict_iterator", "itertools.zip_longest", "itertools.pairwise"].contains n&&vs[0]?==some (rawInt _))=true then _ else _) Q E s;rw[if_neg (by intro h;rw[hn,Bool.false_and] at h;cases h)];exact zdc hQ))
noncomputable def G6 (K:zaa) (a:zc8):It:=
 ⟨fun i H=>∃xs x,gM K H a xs/\xs[i]?=some x,fun i H x H'=>H'=H/\∀xs,gM K H a xs->xs[i]?=some x,fun i H=>∃xs,gM K H a xs/\xs.length<=i⟩
noncomputable def Ei (lo:Int) (n:Nat):It:=⟨fun i _=>i<n,fun i H x H'=>H'=H/\x=.int (lo+i),fun i _=>n<=i⟩
theorem Fy{P:zdk}{w:zda}{K:zaa}{tg:Expr}(a it:zc8):Turn P w K tg (G6 K a) [it] it (fun i h=>h.IsListIter it a i) where
 mem:=by simp
 obj:=fun i h st b hb=>by
  have e:b=it:=by simpa using hb
  subst e;obtain⟨o,e,c,d⟩:=st;exact⟨o,e,fun v z=>by rw[d] at z;cases z⟩
 keep:=fun i h h' st k=>st.at fun o e=>k it (by simp) o e
 item:=by
  intro X hP hw hK hc i pins s σ H E I hf st hg;subst hP hw hK;obtain⟨xs,x,hq,hx⟩:=hg;obtain⟨bj,rv,p,hz⟩:=I.list hq;obtain⟨u,hu,ru⟩:=rv.get hx;obtain⟨f0,f1,f2,f3,f4,f5⟩:=hf it (by simp);refine wpAny_pyNext_list_item st p.isList (x:=u) (by simpa using hu) fun h' Oj sb=>?_;have I1:Inv X pins σ H {s with heap:=h' }:=I.turned (t':=s.toks) (fun b o hb e=>(sb.2 b hb).trans e) f0 f1 f3 f4 f5;obtain⟨o,e,c,d⟩:=id Oj;exact⟨u,rfl,M5 (s:={s with heap:=h' }) e c d (by decide) ⟨x,H,I1,ru,⟨rfl,fun ys hy=>by rw[I.AX hy hq];exact hx⟩,Oj,fun b hb=>(hf b hb).1⟩⟩
 done:=by
  intro X hP hw hK hc i pins s σ H E I hf st hg;subst hP hw hK;obtain⟨xs,hq,hx⟩:=hg;obtain⟨bj,rv,p,hz⟩:=I.list hq;obtain⟨f0,f1,f2,f3,f4,f5⟩:=hf it (by simp);have hl:=rv.length;exact wpAny_pyNext_list_end (I.ok.hd hc) st p.isList (by simp;lia) fun h' eb=>⟨rfl,I.turned (t':=s.toks) (fun b o hb e=>eb b o hb e) f0 f1 f3 f4 f5⟩
 self:=fun _ _ _ _ _ st h=>wpAny_pyIter_listiter st h
theorem CK{P:zdk}{w:zda}{K:zaa}{tg:Expr}(it:zc8)(lo:Int)(n:Nat):Turn P w K tg (Ei lo n) [it] it (fun i h=>IsRangeIter h it (lo+(i:Nat)*1) ((n:Int)-(i:Nat)) 1) where
 mem:=by simp
 obj:=fun i h st b hb=>by
  have e:b=it:=by simpa using hb
  subst e;exact⟨_,st,fun v z=>by
   have z':Data.fields _=Data.cell v:=z;cases z'⟩
 keep:=fun i h h' st k=>k it (by simp) _ st
 item:=by
  intro X hP hw hK hc i pins s σ H E I hf st hg;subst hP hw hK;obtain⟨f0,f1,f2,f3,f4,f5⟩:=hf it (by simp);have W:=Walks.range (prog:=X.prog) (w:=X.w) (I.ok.hd hc) it lo 1 n;refine W.item i s _ _ hg st fun v h' tk hv Oj kk=>?_;obtain⟨t,rfl⟩:=hv;have I1:Inv X pins σ H {s with heap:=h',toks:=tk}:=I.turned (fun b o hb e=>kk b o (by simpa using hb) e) f0 f1 f3 f4 f5;refine⟨_,rfl,M5 (s:={s with heap:=h',toks:=tk}) (n:="range_iterator") Oj rfl rfl (by decide) ⟨.int (lo+i),H,I1,⟨t,?_⟩,⟨rfl,rfl⟩,Oj,fun b hb=>(hf b hb).1⟩⟩;rw[Int.mul_one]
 done:=by
  intro X hP hw hK hc i pins s σ H E I hf st hg;subst hP hw hK;obtain⟨f0,f1,f2,f3,f4,f5⟩:=hf it (by simp);exact wpAny_pyNext_range_end (I.ok.hd hc) st (by have:n<=i:=hg;lia) fun h' eb=>⟨rfl,I.turned (t':=s.toks) (fun b o hb e=>eb b o hb e) f0 f1 f3 f4 f5⟩
 self:=fun _ _ _ _ _ st h=>wpAny_pyIter_rangeiter st h
section
variable{X:Cx}{tg:Expr}
noncomputable def Ej (K:zaa) (tl:TE):TI:=fun σ H R=>tl σ H fun x H1=>∃a,x=.ref a/\(∃xs,gM K H1 a xs)/\R (G6 K a) H1
theorem dJ{l:Expr}{tl:TE}(hl:PE X l tl):PI X tg l (Ej X.K tl):=by
 intro pins s σ H R I h;refine eD (hl pins s σ H _ I h) fun v s1 zqz=>?_;obtain⟨x,H1,I1,r1,q1⟩:=zqz;obtain⟨a,e,⟨xs,hq⟩,q⟩:=q1;subst e;cases r1;obtain⟨bj,rv,p,hz⟩:=I1.list hq;refine wpAny_pyIter_list p.isList ?_;refine⟨s1.heap.objs.size,[s1.heap.objs.size],_,_,H1,rfl,I1.kept (t':=s1.toks) fun b o e=>Heap.get?_push_of_some _ e,Fy a _,⟨_,Heap.get?_push_size _ rfl,rfl,rfl⟩,fun b hb=>?_,q⟩;have e:b=s1.heap.objs.size:=by simpa using hb
 subst e;exact I1.Fx (zah _) (I1.cL.fresh (zah _))
theorem Hr{pins:List (zc8×Obj)}{σ:St}{H:Hp}{s:zdi}{R:It->Hp->Prop}{E:zc9->zdi->Prop}{lo hi:Int}{t u v:Tok}{tk:Nat}(I:Inv X pins σ H s)(h1 : -(2 ^ 62)<=lo)(h2:lo<2 ^ 62)(h3 : -(2 ^ 62)<=hi)(h4:hi<2 ^ 62)
 (q:R (Ei lo (hi-lo).toNat) H):wpAny (model X.prog X.w) X.A (pyIter (.ref s.heap.objs.size)) (Yp X pins σ tg R) E {s with heap:=s.heap.push {cls:=.type "range",data:=.fields #[.int lo t,.int hi u,.int 1 v]},toks:=tk}:=by
 refine wpAny_pyIter_range (IsRange.new ..) (small_one h1 h2 h3 h4) ?_;have I1:Inv X pins σ H {s with heap:=s.heap.push {cls:=.type "range",data:=.fields #[.int lo t,.int hi u,.int 1 v]},toks:=tk}:=I.kept fun b o e=>Heap.get?_push_of_some _ e;refine⟨(s.heap.push {cls:=.type "range",data:=.fields #[.int lo t,.int hi u,.int 1 v]}).objs.size,[(s.heap.push {cls:=.type "range",data:=.fields #[.int lo t,.int hi u,.int 1 v]}).objs.size],_,_,H,rfl,
  I1.kept (t':=tk) fun b o e=>Heap.get?_push_of_some _ e,CK _ lo (hi-lo).toNat,?_,fun b hb=>?_,q⟩
 ·have e1:lo+((0:Nat):Int)*1=lo:=by simp
  have e2:(((hi-lo).toNat:Nat):Int)-((0:Nat):Int)=Builtin.Range.rangeSize lo hi 1:=by rw[rangeSize_one];split<;>lia
  show IsRangeIter _ _ (lo+((0:Nat):Int)*1) ((((hi-lo).toNat:Nat):Int)-((0:Nat):Int)) 1;rw[e1,e2];exact Heap.get?_push_size _ rfl
 ·have e:b=(s.heap.push {cls:=.type "range",data:=.fields #[.int lo t,.int hi u,.int 1 v]}).objs.size:=by simpa using hb
  subst e;exact I1.Fx (zah _) (I1.cL.fresh (zah _))
noncomputable def Ek (ta:TA):TI:=fun σ H R=>ta σ H fun vs H1=>∃j:Int,vs=[.int j]/\-(2 ^ 62)<=j/\j<2 ^ 62/\R (Ei 0 j.toNat) H1
noncomputable def M6 (ta:TA):TI:=fun σ H R=>ta σ H fun vs H1=>∃i j:Int,vs=[.int i,.int j]/\(-(2 ^ 62)<=i/\i<2 ^ 62/\-(2 ^ 62)<=j/\j<2 ^ 62)/\R (Ei i (j-i).toNat) H1
theorem eJ{a:Expr}{ta:TA}{p pos:Pos}(hg:Gl X "range")(hm:X.mg "range"=none)(ha:PA X [a] ta)(hs:zde [a] X.env=[(false,eval a X.env)]:=by rfl):PI X tg (.Call (.Name "range" p) [a] [] pos) (Ek ta):=by
 intro pins s σ H R I h;refine Call_ (sY I hg hm boot_range (zbj (eD (ha pos pins s σ H _ I h) fun us s1 zqz=>?_) hs rfl));obtain⟨vs,H1,I1,r1,q1⟩:=zqz;obtain⟨j,e,q1,q2,q⟩:=q1;subst e;cases r1 with
 |cons r rr=>
  cases rr;obtain⟨t,rfl⟩:=r;exact call_range_1 (Hr I1 (by lia) (by lia) q1 q2 (by simpa using q))
noncomputable def Hs (wi:TI) (g:TG) (tb:TS):TS:=fun D σ H=>wi σ H fun J H1=>∃W:Nat->Nat->St->Hp->Prop,(∃m,W 0 m σ H1)/\∀i m σ H,W i m σ H->
 (J.stop i H/\D.nx σ H)\/(J.go i H/\∃N:St->Hp->Prop,(∀σ' H',N σ' H'->∃m',m'<m/\W (i+1) m' σ' H')/\∀x H',J.Eh i H x H'->g x σ H' fun σ2 H2=>tb {D with nx:=N,ct:=N,bk:=D.nx} σ2 H2)
noncomputable def vD (fp:List zc8) (h:Heap):List (zc8×Obj):=fp.filterMap fun b=>(h.get? b).map fun o=>(b,o)
theorem lq{fp:List zc8}{h:Heap}{b:zc8}{o:Obj}(hb:b∈fp)(e:h.get? b=some o):(b,o)∈vD fp h:=List.mem_filterMap.mpr ⟨b,hb,by rw[e];rfl⟩
theorem FA{fp:List zc8}{h:Heap}{p:zc8×Obj}(hp:p∈vD fp h):p.1∈fp/\h.get? p.1=some p.2:=by
 obtain⟨b,hb,e⟩:=List.mem_filterMap.mp hp;cases q:h.get? b with
 |none=>rw[q] at e;cases e
 |some o=>
  rw[q] at e;have e':(b,o)=p:=zaT.inj e;subst e';exact⟨hb,q⟩
theorem Inv.pinned{pins:List (zc8×Obj)}{σ:St}{H:Hp}{s:zdi}{fp:List zc8}(I:Inv X pins σ H s)(hf:∀b∈fp,qO X pins H b)(ho:∀b∈fp,∃o,s.heap.get? b=some o/\∀v,o.data≠.cell v):Inv X (pins++vD fp s.heap) σ H s:=
 I.Ef fun p hp=>(zao.mp hp).elim (fun z=>I.pin p (zaB _ z)) fun z=>by
  obtain⟨hb,e⟩:=FA z;obtain⟨f0,f1,f2,_⟩:=hf p.1 hb;obtain⟨o,e',d⟩:=ho p.1 hb;rw[e] at e';cases e';exact⟨e,f0,f1,f2,d⟩
theorem Inv.qP{pins pl:List (zc8×Obj)}{σ:St}{H:Hp}{s:zdi}(I:Inv X (pins++pl) σ H s):Inv X pins σ H s:=I.Ef fun p hp=>I.pin p (zaB _ (zbg _ hp))
theorem eS{iter:Expr}{body:List Stmt}{wi:TI}{g:TG}{tb:TS}{pos:Pos}(hp:PassesOwn (model X.prog X.w) X.A X.env X.xe)(hc:X.calm=true)(hi:PI X tg iter wi)(hg:PG X tg g)(hb:CG X body tb)
 (hs:∀x,foldedSetIterable iter X.env x=pure x:=by intro _;rfl):PS X (.For tg iter body [] pos) (Hs wi g tb):=by
 intro pins s σ H D I h;refine wpAny_For (eD (hi pins s σ H _ I h) fun v s1 h1=>eD h1 fun Vw s2 h2=>?_) hs;obtain⟨it,fp,tn,J,H2,e,I2,T,yU,f2,W,⟨m0,w0⟩,turn⟩:=h2;subst e;have stat:∀ {H':Hp},(∀b∈fp,H' b=none)->∀b∈fp,qO X pins H' b:=fun hn b hb=>⟨hn b hb,(f2 b hb).2⟩
 refine codeAny_forLoop_any (fun n s'=>∃i σ' H',Inv X pins σ' H' s'/\tn i s'.heap/\(∀b∈fp,H' b=none)/\W i n σ' H') ?_ m0 ⟨0,σ,H2,I2,yU,fun b hb=>(f2 b hb).1,w0⟩
 rintro n s3 ⟨i,σ3,H3,I3,M7,Rp,w3⟩
 rcases turn i n σ3 H3 w3 with ⟨stop,qn⟩ |⟨go,N,hN,step⟩
 ·refine wpAny_passesOwn hp (eD (T.done X rfl rfl rfl hc i pins s3 σ3 H3 X.xe I3 (stat Rp) M7 stop) fun r s4 zqz=>?_);obtain⟨hr,I4⟩:=zqz;subst hr;exact wpAny_execs_nil ⟨σ3,H3,I4,qn⟩
 ·refine wpAny_passesOwn hp (eD (T.item X rfl rfl rfl hc i pins s3 σ3 H3 X.xe I3 (stat Rp) M7 go) fun r s4 zqz=>?_);obtain⟨u,hr,h4⟩:=zqz;subst hr;refine wpAny_passesOwn hp (eD h4 fun _ s5 zqz=>?_);obtain⟨x,H5,I5,r5,y5,Ht,Vx⟩:=zqz;have Vy:=I5.pinned (stat Vx) (T.obj _ _ Ht);refine wpAny_passesOwn hp (eD (hg _ s5 σ3 H5 x u _ Vy r5 (step x H5 y5)) fun _ s6 zqz=>?_);obtain⟨σ6,H6,I6,q6⟩:=zqz;refine wpAny_passesOwn hp (eD (hb _ s6 σ6 H6 _ I6 q6) fun f s7 q7=>?_);have again:∀ {σ7:St} {H7:Hp},Inv X (pins++vD fp s5.heap) σ7 H7 s7->N σ7 H7->∃m,m<n/\∃i σ' H',Inv X pins σ' H' s7/\tn i s7.heap/\(∀b∈fp,H' b=none)/\W i m σ' H':=fun {σ7 H7} I7 n7=>by
   obtain⟨m',hm,w7⟩:=hN σ7 H7 n7;refine⟨m',hm,i+1,σ7,H7,I7.qP,T.keep _ _ _ Ht fun b hb o e=>(I7.pin (b,o) (zaB _ (zaB _ (lq hb e)))).1,fun b hb=>?_,w7⟩;obtain⟨o,e,d⟩:=T.obj _ _ Ht b hb;exact(I7.pin (b,o) (zaB _ (zaB _ (lq hb e)))).2.1
  cases f with
  |next=>obtain⟨σ7,H7,I7,n7⟩:=q7;exact again I7 n7
  |cont=>obtain⟨σ7,H7,I7,n7⟩:=q7;exact again I7 n7
  |brk=>obtain⟨σ7,H7,I7,q7⟩:=q7;exact⟨σ7,H7,I7.qP,q7⟩
  |ret v=>obtain⟨x7,σ7,H7,I7,r7,q7⟩:=q7;exact⟨x7,σ7,H7,I7.qP,r7,q7⟩
end
theorem gO{K:zaa}{a:zc8}{xs:List V}{g:TG}{tb:TS}{D:Ends}{σ:St}{H:Hp}(Pv:Nat->St->Hp->Prop)(h0:Pv 0 σ H)(hl:∀i σ H,i<=xs.length->Pv i σ H->gM K H a xs)
 (hs:∀i x σ H,xs[i]?=some x->Pv i σ H->g x σ H fun σ2 H2=>tb {D with nx:=Pv (i+1),ct:=Pv (i+1),bk:=D.nx} σ2 H2) (hd:∀σ H,Pv xs.length σ H->D.nx σ H) :
 ∃W:Nat->Nat->St->Hp->Prop,(∃m,W 0 m σ H)/\∀i m σ H,W i m σ H->
  ((G6 K a).stop i H/\D.nx σ H)\/((G6 K a).go i H/\∃N:St->Hp->Prop,(∀σ' H',N σ' H'->∃m',m'<m/\W (i+1) m' σ' H')/\∀x H',(G6 K a).Eh i H x H'->g x σ H' fun σ2 H2=>tb {D with nx:=N,ct:=N,bk:=D.nx} σ2 H2):=by
 refine⟨fun i m σ H=>m=xs.length-i/\i<=xs.length/\Pv i σ H,⟨xs.length,by simp,zaU _,h0⟩,?_⟩
 rintro i m σ H ⟨rfl,hi,p⟩
 have q:=hl i σ H hi p;by_cases o8:i<xs.length
 ·refine .inr ⟨⟨xs,xs[i],q,by simp[o8]⟩,Pv (i+1),fun σ' H' p'=>⟨xs.length-(i+1),by lia,rfl,o8,p'⟩,fun x H' y=>?_⟩;obtain⟨e,y⟩:=y;subst e;exact hs i x σ _ (y xs q) p
 ·have e:i=xs.length:=by lia
  subst e;exact .inl ⟨⟨xs,q,zah _⟩,hd σ H p⟩
theorem jG{lo:Int}{n:Nat}{g:TG}{tb:TS}{D:Ends}{σ:St}{H:Hp}(Pv:Nat->St->Hp->Prop)(h0:Pv 0 σ H)
 (hs:∀i σ H,i<n->Pv i σ H->g (.int (lo+i)) σ H fun σ2 H2=>tb {D with nx:=Pv (i+1),ct:=Pv (i+1),bk:=D.nx} σ2 H2) (hd:∀σ H,Pv n σ H->D.nx σ H) :
 ∃W:Nat->Nat->St->Hp->Prop,(∃m,W 0 m σ H)/\∀i m σ H,W i m σ H->
  ((Ei lo n).stop i H/\D.nx σ H)\/((Ei lo n).go i H/\∃N:St->Hp->Prop,(∀σ' H',N σ' H'->∃m',m'<m/\W (i+1) m' σ' H')/\∀x H',(Ei lo n).Eh i H x H'->g x σ H' fun σ2 H2=>tb {D with nx:=N,ct:=N,bk:=D.nx} σ2 H2):=by
 refine⟨fun i m σ H=>m=n-i/\i<=n/\Pv i σ H,⟨n,by simp,zaU _,h0⟩,?_⟩
 rintro i m σ H ⟨rfl,hi,p⟩
 by_cases o8:i<n
 ·refine .inr ⟨o8,Pv (i+1),fun σ' H' p'=>⟨n-(i+1),by lia,rfl,o8,p'⟩,fun x H' y=>?_⟩;obtain⟨e,y⟩:=y;subst e y;exact hs i σ _ o8 p
 ·have e:i=n:=by lia
  subst e;exact .inl ⟨zah _,hd σ H p⟩
noncomputable abbrev R2:=V->V->Hp->VK->Prop
noncomputable def qG (X:Cx) (f:zc9->zc9->Sem zc9) (r:R2):Prop:=
 ∀(pins:List (zc8×Obj)) (s:zdi) (σ:St) (H:Hp) (x y:V) (v u:zc9) (Q:VK),Inv X pins σ H s->RelV x v->RelV y u->r x y H Q->
  wpAny (model X.prog X.w) X.A (f v u) (EP X pins σ Q) X.xe s
noncomputable def Vz (X:Cx) (f:zc9->Sem zc9) (r:V->Hp->VK->Prop):Prop:=
 ∀(pins:List (zc8×Obj)) (s:zdi) (σ:St) (H:Hp) (x:V) (v:zc9) (Q:VK),Inv X pins σ H s->RelV x v->r x H Q->
  wpAny (model X.prog X.w) X.A (f v) (EP X pins σ Q) X.xe s
noncomputable def qQ (X:Cx) (f:zc9) (r:List V->Hp->VK->Prop):Prop:=
 ∀(pins:List (zc8×Obj)) (s:zdi) (σ:St) (H:Hp) (xs:List V) (us:List zc9) (Q:VK),Inv X pins σ H s->Vals xs us->r xs H Q->
  wpAny (model X.prog X.w) X.A (call f us) (EP X pins σ Q) X.xe s
noncomputable def VA (X:Cx) (r:V->Hp->(Bool->Hp->Prop)->Prop):Prop:=
 ∀(pins:List (zc8×Obj)) (s:zdi) (σ:St) (H:Hp) (x:V) (v:zc9) (Q:Bool->Hp->Prop),Inv X pins σ H s->RelV x v->r x H Q->
  wpAny (model X.prog X.w) X.A (truthy v) (TP X pins σ Q) X.xe s
noncomputable def Rq (r:R2) (ta tb:TE):TE:=fun σ H Q=>ta σ H fun x H1=>tb σ H1 fun y H2=>r x y H2 Q
noncomputable def VB (r:V->Hp->VK->Prop) (ta:TE):TE:=fun σ H Q=>ta σ H fun x H1=>r x H1 Q
noncomputable def rI (C:Int->Int->Prop) (g:Int->Int->V):R2:=fun x y H Q=>∃i j,x=.int i/\y=.int j/\C i j/\Q (g i j) H
noncomputable def M8 (g:Int->Int->V):R2:=fun x y H Q=>∃i j,x=.int i/\y=.int j/\Q (g i j) H
noncomputable def rU (g:Int->V):V->Hp->VK->Prop:=fun x H Q=>∃i,x=.int i/\Q (g i) H
section
variable{X:Cx}{a b c:Expr}{ta tb tc:TE}{pos:Pos}
theorem Ol(ha:PE X a ta)(hb:PE X b tb){pins:List (zc8×Obj)}{s:zdi}{σ:St}{H:Hp}{R:V->V->Hp->Prop}(I:Inv X pins σ H s)
 (h:ta σ H fun x H1=>tb σ H1 fun y H2=>R x y H2) {Q:zc9->zdi->Prop} {f:zc9->zc9->Sem zc9}
 (hf:∀v u s2 x y H2,Inv X pins σ H2 s2->RelV x v->RelV y u->R x y H2->wpAny (model X.prog X.w) X.A (f v u) Q X.xe s2) :
 wpAny (model X.prog X.w) X.A (eval a X.env) (fun v s₁=>wpAny (model X.prog X.w) X.A (eval b X.env) (fun u s₂=>wpAny (model X.prog X.w) X.A (f v u) Q X.xe s₂) X.xe s₁) X.xe s:=by
 refine eD (ha pins s σ H _ I h) fun v s1 zqz=>?_;obtain⟨x,H1,I1,r1,q1⟩:=zqz;refine eD (hb pins s1 σ H1 _ I1 q1) fun u s2 zqz=>?_;obtain⟨y,H2,I2,r2,q2⟩:=zqz;exact hf v u s2 x y H2 I2 r1 r2 q2
theorem aW{op:Operator}{r:R2}(ho:qG X (binaryOp op) r)(ha:PE X a ta)(hb:PE X b tb):PE X (.BinOp a op b pos) (Rq r ta tb):=by
 intro pins s σ H Q I h;exact wpAny_BinOp (Ol ha hb I h fun v u s2 x y H2 I2 rx ry q=>ho pins s2 σ H2 x y v u Q I2 rx ry q)
theorem AY{op:UnaryOp}{r:V->Hp->VK->Prop}(ho:Vz X (unaryOp op) r)(ha:PE X a ta):PE X (.UnaryOp op a pos) (VB r ta):=by
 intro pins s σ H Q I h;exact UnaryOp_ (eD (ha pins s σ H _ I h) fun v s1 ⟨x,H1,I1,r1,q1⟩=>ho pins s1 σ H1 x v Q I1 r1 q1)
theorem Rr{f:zc9->zc9->Sem zc9}{C:Int->Int->Prop}{g:Int->Int->Int}
 (rule:∀(i j:Int) (t u:Tok) (s:zdi) (Q:zc9->zdi->Prop) (E:zc9->zdi->Prop),C i j->Q (.int (g i j) s.toks) {s with toks:=s.toks+1}->wpAny (model X.prog X.w) X.A (f (.int i t) (.int j u)) Q E s) :
 qG X f (rI C fun i j=>.int (g i j)):=by
 intro pins s σ H x y v u Q I rx ry h;obtain⟨i,j,rfl,rfl,hc,q⟩:=h;obtain⟨t,rfl⟩:=rx;obtain⟨t',rfl⟩:=ry;exact rule i j t t' s _ _ hc ⟨.int (g i j),H,I.tok _,⟨_,rfl⟩,q⟩
theorem Rt{f:zc9->zc9->Sem zc9}{g:Int->Int->Int}
 (rule:∀(i j:Int) (t u:Tok) (s:zdi) (Q:zc9->zdi->Prop) (E:zc9->zdi->Prop),Q (.int (g i j) s.toks) {s with toks:=s.toks+1}->wpAny (model X.prog X.w) X.A (f (.int i t) (.int j u)) Q E s) :
 qG X f (M8 fun i j=>.int (g i j)):=by
 intro pins s σ H x y v u Q I rx ry h;obtain⟨i,j,rfl,rfl,q⟩:=h;obtain⟨t,rfl⟩:=rx;obtain⟨t',rfl⟩:=ry;exact rule i j t t' s _ _ ⟨.int (g i j),H,I.tok _,⟨_,rfl⟩,q⟩
theorem Om{f:zc9->zc9->Sem zc9}{g:Int->Int->Bool}
 (rule:∀(i j:Int) (t u:Tok) (s:zdi) (Q:zc9->zdi->Prop) (E:zc9->zdi->Prop),Q (.bool (g i j)) s->wpAny (model X.prog X.w) X.A (f (.int i t) (.int j u)) Q E s) :
 qG X f (M8 fun i j=>.bl (g i j)):=by
 intro pins s σ H x y v u Q I rx ry h;obtain⟨i,j,rfl,rfl,q⟩:=h;obtain⟨t,rfl⟩:=rx;obtain⟨t',rfl⟩:=ry;exact rule i j t t' s _ _ ⟨.bl (g i j),H,I,rfl,q⟩
noncomputable def Ru (i j:Int):Prop:=0<j/\j<1073741824
noncomputable def Rv (i j:Int):Prop:=0<=j/\j<=1000000/\i.natAbs<2 ^ 64
noncomputable def Hu (i j:Int):Prop:=(-(2 ^ 64)<i/\i<2 ^ 64)\/(-(2 ^ 64)<j/\j<2 ^ 64)
theorem Hu.ok{i j:Int}(h:Hu i j):IntMulOk i j:=by
 rcases h with ⟨h1,h2⟩ |⟨h1,h2⟩
 ·exact .of_left (intBits_le_64 h1 h2)
 ·exact .of_right (intBits_le_64 h1 h2)
theorem dE:qG X (binaryOp .Add) (M8 fun i j=>.int (i+j)):=Rt fun _ _ _ _ _ _ _ q=>add_int q
theorem yV:qG X (binaryOp .Sub) (M8 fun i j=>.int (i-j)):=Rt fun _ _ _ _ _ _ _ q=>sub_int q
theorem qf:qG X (binaryOp .Mult) (rI Hu fun i j=>.int (i*j)):=Rr fun _ _ _ _ _ _ _ hc q=>mul_int q hc.ok
theorem vd:qG X (binaryOp .FloorDiv) (rI Ru fun i j=>.int (i/j)):=Rr fun i j _ _ _ _ _ hc q=>by
 have h1:(0:Int)<j:=hc.1;have h2:j<1073741824:=hc.2;exact floordiv_int (by lia) (by rw[Int.fdiv_eq_ediv_of_nonneg i (by lia)];exact q) (.inl (PyProof.noPylong_small (by lia)))
theorem bK:qG X (binaryOp .Mod) (rI (fun _ j=>0<j) fun i j=>.int (i%j)):=Rr fun i j _ _ _ _ _ hc q=>by
 have h1:(0:Int)<j:=hc;exact mod_int' (by lia) (by rw[Int.fmod_eq_emod_of_nonneg i (by lia)];exact q)
theorem Oq:qG X (binaryOp .Pow) (rI Rv fun i j=>.int (i ^ j.toNat)):=Rr fun _ _ _ _ _ _ _ hc q=>pow_int_small hc.1 hc.2.1 hc.2.2 q
theorem unI{f:zc9->Sem zc9}{g:Int->Int}
 (rule:∀(i:Int) (t:Tok) (s:zdi) (Q:zc9->zdi->Prop) (E:zc9->zdi->Prop),Q (.int (g i) s.toks) {s with toks:=s.toks+1}->wpAny (model X.prog X.w) X.A (f (.int i t)) Q E s) :
 Vz X f (rU fun i=>.int (g i)):=by
 intro pins s σ H x v Q I rx h;obtain⟨i,rfl,q⟩:=h;obtain⟨t,rfl⟩:=rx;exact rule i t s _ _ ⟨.int (g i),H,I.tok _,⟨_,rfl⟩,q⟩
theorem vE:Vz X (unaryOp .USub) (rU fun i=>.int (-i)):=unI fun _ _ _ _ _ q=>neg_int q
end
noncomputable def FC:V->V->Bool
 |.b9,.b9=>true |.b9,.int _=>true |.int _,.b9=>true |.b9,.bl _=>true |.bl _,.b9=>true |.b9,.str _=>true |.str _,.b9=>true
 |.int _,.int _=>true |.bl _,.bl _=>true |.str _,.str _=>true |.Ee _,.Ee _=>true
 |.int _,.str _=>true |.str _,.int _=>true |.bl _,.str _=>true |.str _,.bl _=>true
 |_,_=>false
noncomputable def Yq:R2:=fun x y H Q=>FC x y=true/\Q (.bl (decide (x=y))) H
noncomputable def Yr:R2:=fun x y H Q=>FC x y=true/\Q (.bl (!decide (x=y))) H
theorem El{i j:Int}:decide (V.int i=V.int j)=(i==j):=by
 rw[zbJ];simp
theorem Hv{i j:Bool}:decide (V.bl i=V.bl j)=(i==j):=by
 rw[zbJ];simp
theorem Em{i j:Str}:decide (V.str i=V.str j)=(i==j):=by
 rw[zbJ];simp
theorem En{i j:Array UInt8}:decide (V.Ee i=V.Ee j)=(i.toList==j.toList):=by
 rw[zbJ];cases i;cases j;simp
section
variable{X:Cx}{a b c:Expr}{ta tb tc:TE}{pos:Pos}
theorem bZ{pins:List (zc8×Obj)}{σ:St}{H:Hp}{s:zdi}{Q:VK}{k k':Bool}(I:Inv X pins σ H s)(q:Q (.bl k) H)(e:k=k'):EP X pins σ Q (.bool k') s:=by
 subst e;exact⟨.bl k,H,I,rfl,q⟩
theorem cf:qG X (compareOp .Eq) Yq:=by
 intro pins s σ H x y v u Q I rx ry h;obtain⟨hs,q⟩:=h;cases x with
 |b9=>
  cases rx;cases y with
  |b9=>cases ry;exact PySem.EqNone.eq_none_none (bZ I q (by simp))
  |bl j=>cases ry;exact PySem.EqNone.eq_none_bool (bZ I q (by simp))
  |int j=>obtain⟨t',rfl⟩:=ry;exact PySem.EqNone.eq_none_int (bZ I q (by simp))
  |str j=>obtain⟨t',rfl⟩:=ry;exact PySem.EqNone.eq_none_str (bZ I q (by simp))
  |_=>exact absurd (show false=true from hs) zaf
 |bl i=>
  cases rx;cases y with
  |b9=>cases ry;exact PySem.EqNone.eq_bool_none (bZ I q (by simp))
  |bl j=>cases ry;exact eq_bool (bZ I q Hv)
  |str j=>obtain⟨t',rfl⟩:=ry;exact PySem.EqMixed.eq_bool_str (bZ I q (by simp))
  |_=>exact absurd (show false=true from hs) zaf
 |int i=>
  obtain⟨t,rfl⟩:=rx;cases y with
  |b9=>cases ry;exact PySem.EqNone.eq_int_none (bZ I q (by simp))
  |int j=>obtain⟨t',rfl⟩:=ry;exact eq_int (bZ I q El)
  |str j=>obtain⟨t',rfl⟩:=ry;exact PySem.EqMixed.eq_int_str (bZ I q (by simp))
  |_=>exact absurd (show false=true from hs) zaf
 |str i=>
  obtain⟨t,rfl⟩:=rx;cases y with
  |b9=>cases ry;exact PySem.EqNone.eq_str_none (bZ I q (by simp))
  |bl j=>cases ry;exact PySem.EqMixed.eq_str_bool (bZ I q (by simp))
  |int j=>obtain⟨t',rfl⟩:=ry;exact PySem.EqMixed.eq_str_int (bZ I q (by simp))
  |str j=>obtain⟨t',rfl⟩:=ry;exact eq_str (bZ I q Em)
  |_=>exact absurd (show false=true from hs) zaf
 |Ee i=>
  obtain⟨t,rfl⟩:=rx;cases y with
  |Ee j=>obtain⟨t',rfl⟩:=ry;exact PySem.W.eq_bytes (bZ I q En)
  |_=>exact absurd (show false=true from hs) zaf
 |_=>cases y<;>exact absurd (show false=true from hs) zaf
theorem Rw:qG X (compareOp .NotEq) Yr:=by
 intro pins s σ H x y v u Q I rx ry h;obtain⟨hs,q⟩:=h;cases x with
 |b9=>
  cases rx;cases y with
  |b9=>cases ry;exact PySem.EqNone.ne_none_none (bZ I q (by simp))
  |bl j=>cases ry;exact PySem.EqNone.ne_none_bool (bZ I q (by simp))
  |int j=>obtain⟨t',rfl⟩:=ry;exact PySem.EqNone.ne_none_int (bZ I q (by simp))
  |str j=>obtain⟨t',rfl⟩:=ry;exact PySem.EqNone.ne_none_str (bZ I q (by simp))
  |_=>exact absurd (show false=true from hs) zaf
 |bl i=>
  cases rx;cases y with
  |b9=>cases ry;exact PySem.EqNone.ne_bool_none (bZ I q (by simp))
  |bl j=>cases ry;exact ne_bool (bZ I q (congrArg not Hv))
  |str j=>obtain⟨t',rfl⟩:=ry;exact PySem.EqMixed.ne_bool_str (bZ I q (by simp))
  |_=>exact absurd (show false=true from hs) zaf
 |int i=>
  obtain⟨t,rfl⟩:=rx;cases y with
  |b9=>cases ry;exact PySem.EqNone.ne_int_none (bZ I q (by simp))
  |int j=>obtain⟨t',rfl⟩:=ry;exact ne_int (bZ I q (congrArg not El))
  |str j=>obtain⟨t',rfl⟩:=ry;exact PySem.EqMixed.ne_int_str (bZ I q (by simp))
  |_=>exact absurd (show false=true from hs) zaf
 |str i=>
  obtain⟨t,rfl⟩:=rx;cases y with
  |b9=>cases ry;exact PySem.EqNone.ne_str_none (bZ I q (by simp))
  |bl j=>cases ry;exact PySem.EqMixed.ne_str_bool (bZ I q (by simp))
  |int j=>obtain⟨t',rfl⟩:=ry;exact PySem.EqMixed.ne_str_int (bZ I q (by simp))
  |str j=>obtain⟨t',rfl⟩:=ry;exact ne_str (bZ I q (congrArg not Em))
  |_=>exact absurd (show false=true from hs) zaf
 |Ee i=>
  obtain⟨t,rfl⟩:=rx;cases y with
  |Ee j=>obtain⟨t',rfl⟩:=ry;exact PySem.W.ne_bytes (bZ I q (congrArg not En))
  |_=>exact absurd (show false=true from hs) zaf
 |_=>cases y<;>exact absurd (show false=true from hs) zaf
theorem o9:qG X (compareOp .Lt) (M8 fun i j=>.bl (decide (i<j))):=Om fun _ _ _ _ _ _ _ q=>lt_int q
theorem Eo:qG X (compareOp .Gt) (M8 fun i j=>.bl (decide (j<i))):=Om fun _ _ _ _ _ _ _ q=>gt_int q
theorem Rx:qG X (compareOp .GtE) (M8 fun i j=>.bl (decide (j<=i))):=Om fun _ _ _ _ _ _ _ q=>ge_int q
theorem yW:qG X (compareOp .Is) (fun x y H Q=>y=.b9/\Q (.bl (decide (x=.b9))) H):=by
 intro pins s σ H x y v u Q I rx ry h;obtain⟨rfl,q⟩:=h;cases ry;refine is_none_gen (bZ I q ?_);cases x<;>first
  |(cases rx;rfl)
  |(obtain⟨t,rfl⟩:=rx;rfl)
theorem ve:qG X (compareOp .IsNot) (fun x y H Q=>y=.b9/\Q (.bl (!decide (x=.b9))) H):=by
 intro pins s σ H x y v u Q I rx ry h;obtain⟨rfl,q⟩:=h;cases ry;refine isnot_none_gen (bZ I q ?_);cases x<;>first
  |(cases rx;rfl)
  |(obtain⟨t,rfl⟩:=rx;rfl)
theorem aP(b:Expr){op:CmpOp}(h:op≠.In:=by decide)(h2:op≠.NotIn:=by decide):behindInMarks op b=false:=by
 have e1:(op==CmpOp.In)=false:=by cases op<;>first |rfl |exact absurd rfl h
 have e2:(op==CmpOp.NotIn)=false:=by cases op<;>first |rfl |exact absurd rfl h2
 cases b<;>simp[behindInMarks,e1,e2]
theorem vf{op:CmpOp}{r:R2}(ho:qG X (compareOp op) r)(ha:PE X a ta)(hb:PE X b tb)(hm:behindInMarks op b=false):PE X (.Compare a [op] [b] pos) (Rq r ta tb):=by
 intro pins s σ H Q I h;exact wpAny_Compare1 (Ol ha hb I h fun v u s2 x y H2 I2 rx ry q=>ho pins s2 σ H2 x y v u Q I2 rx ry q) hm
noncomputable def Ep (t:TE):TT:=fun σ H Q=>t σ H fun x H'=>∃k,x=.bl k/\Q k H'
theorem aD{op:CmpOp}{r:R2}(ho:qG X (compareOp op) r)(ha:PE X a ta)(hb:PE X b tb)(hm:behindInMarks op b=false):PT X (.Compare a [op] [b] pos) (Ep (Rq r ta tb)):=by
 intro pins s σ H Q I h;refine wpAny_isTrue_Compare1 (eD (ha pins s σ H _ I h) fun v s1 zqz=>?_) hm;obtain⟨x,H1,I1,r1,q1⟩:=zqz;refine eD (hb pins s1 σ H1 _ I1 q1) fun u s2 zqz=>?_;obtain⟨y,H2,I2,r2,q2⟩:=zqz;refine eD (ho pins s2 σ H2 x y v u _ I2 r1 r2 q2) fun c s3 zqz=>?_;obtain⟨z,H3,I3,r3,k,e,q3⟩:=zqz;subst e;cases r3;exact wpAny_truthy_bool ⟨H3,I3,q3⟩
noncomputable def Hw (r r':R2) (ta tb tc:TE):TE:=fun σ H Q=>ta σ H fun x H1=>tb σ H1 fun y H2=>r x y H2 fun z H3=>∃k,z=.bl k/\
 (if k=true then tc σ H3 fun w' H4=>r' y w' H4 Q else Q (.bl false) H3)
noncomputable def Ry (K:zaa) (x:V) (H:Hp) (k:Bool):Prop:=
 match x with
 |.b9=>k=false
 |.bl b=>k=b
 |.int i=>k=(i != 0)
 |.str y=>y.length<=zdg/\k=((y.length:Int) != 0)
 |.Ee y=>y.size<=zdg/\k=((y.size:Int) != 0)
 |.ref p=>(∃xs,gM K H p xs/\k = !xs.isEmpty)\/(∃xs,cu K H p xs/\k = !xs.isEmpty)\/∃aC,H p=some (.dK aC)/\k = !aC.isEmpty
 |_=>False
theorem CL{κ:Type}{aC:List (κ×V)}{vs:List (κ×zc9)}(r:KV aC vs):(!vs.isEmpty) = !aC.isEmpty:=by
 cases r<;>rfl
theorem vF{xs:List V}{bj:List zc9}(r:Vals xs bj):(!bj.toArray.isEmpty) = !xs.isEmpty:=by
 cases r<;>simp
theorem sZ:(zdg:Nat)<2 ^ 63:=by rw[sizeLine_eq];decide
theorem Ot:VA X (fun x H Q=>∃k,Ry X.K x H k/\Q k H):=by
 intro pins s σ H x v Q I rx h;obtain⟨k,e,q⟩:=h;have hl:=sZ;have hs:zdg=16777216:=sizeLine_eq;cases x with
 |b9=>
  cases rx;have e':k=false:=e;subst e';exact truthy_none ⟨H,I,q⟩
 |bl b=>
  cases rx;have e':k=b:=e;subst e';exact wpAny_truthy_bool ⟨H,I,q⟩
 |int i=>
  obtain⟨t,rfl⟩:=rx;have e':k=(i != 0):=e;subst e';exact PySem.P.truthy_int ⟨H,I,q⟩
 |str y=>
  obtain⟨t,rfl⟩:=rx;obtain⟨hy,e'⟩:y.length<=zdg/\k=((y.length:Int) != 0):=e;subst e';exact PySem.P.truthy_str (by lia) ⟨H,I.tok _,q⟩
 |Ee y=>
  obtain⟨t,rfl⟩:=rx;obtain⟨hy,e'⟩:y.size<=zdg/\k=((y.size:Int) != 0):=e;subst e';exact PySem.W.truthy_bytes (by lia) ⟨H,I.tok _,q⟩
 |ref p=>
  cases rx;have e':(∃xs,gM X.K H p xs/\k = !xs.isEmpty)\/(∃xs,cu X.K H p xs/\k = !xs.isEmpty)\/∃aC,H p=some (.dK aC)/\k = !aC.isEmpty:=e;rcases e' with ⟨xs,hx,e'⟩ |⟨xs,hx,e'⟩ |⟨aC,hx,e'⟩
  ·subst e';obtain⟨bj,r,pl,hz⟩:=I.list hx;have hlen:=r.length;exact wpAny_truthy_list pl.isList (by simp only[zas];lia) ⟨H,I.tok _,by rw[vF r];exact q⟩
  ·subst e';obtain⟨bj,r,pl,hz⟩:=I.tuple hx;have hlen:=r.length;exact truthy_tuple pl (by simp only[zas];lia) ⟨H,I.tok _,by rw[vF r];exact q⟩
  ·subst e';obtain⟨hz,hS,vs,r,m⟩:aC.length<=zdg/\(p==sysModules)=false/\∃vs,KV aC vs/\s.heap.DictOf (bO X.prog X.w) p vs:=I.cL p _ hx;have hlen:aC.length=vs.length:=Paired.length r;exact wpAny_truthy_dict hS m (by lia) ⟨H,I.tok _,by rw[CL r];exact q⟩
 |_=>exact(show False from e).elim
theorem AZ(ha:PE X a ta)(he:∀whole,isTrue a X.env whole=(do let v <- whole;standAt a.pos;holding [v] (truthy v))) :
 PT X a (fun σ H Q=>ta σ H fun x H'=>∃k,Ry X.K x H' k/\Q k H'):=by
 intro pins s σ H Q I h;exact isTrue_plain (eD (ha pins s σ H _ I h) fun v s1 ⟨x,H1,I1,r1,q1⟩=>Ot pins s1 σ H1 x v Q I1 r1 q1) (he _)
theorem vals1{x:V}{us:List zc9}(r:Vals [x] us):∃u,us=[u]/\RelV x u:=by
 cases r with
 |cons r1 r2=>cases r2;exact⟨_,rfl,r1⟩
theorem vals2{x y:V}{us:List zc9}(r:Vals [x,y] us):∃u w',us=[u,w']/\RelV x u/\RelV y w':=by
 cases r with
 |cons r1 r2=>
  cases r2 with
  |cons r3 r4=>cases r4;exact⟨_,_,rfl,r1,r3⟩
theorem FD(hc:X.calm=true):qQ X (.builtin "max") (fun xs H Q=>∃i j,xs=[.int i,.int j]/\Q (.int (if j>i then j else i)) H):=by
 intro pins s σ H xs us Q I r h;obtain⟨i,j,rfl,q⟩:=h;obtain⟨u,w',rfl,⟨t,rfl⟩,⟨t',rfl⟩⟩:=vals2 r;refine max_two_ints (I.ok.hd hc) fun h' tk k=>⟨_,H,I.kept k,?_,q⟩
 by_cases hj:j>i
 ·rw[if_pos hj,if_pos hj];exact⟨_,rfl⟩
 ·rw[if_neg hj,if_neg hj];exact⟨_,rfl⟩
theorem xZ(hc:X.calm=true):qQ X (.builtin "min") (fun xs H Q=>∃i j,xs=[.int i,.int j]/\Q (.int (if j<i then j else i)) H):=by
 intro pins s σ H xs us Q I r h;obtain⟨i,j,rfl,q⟩:=h;obtain⟨u,w',rfl,⟨t,rfl⟩,⟨t',rfl⟩⟩:=vals2 r;refine min_two_ints (I.ok.hd hc) fun h' tk k=>⟨_,H,I.kept k,?_,q⟩
 by_cases hj:j<i
 ·rw[if_pos hj,if_pos hj];exact⟨_,rfl⟩
 ·rw[if_neg hj,if_neg hj];exact⟨_,rfl⟩
end
structure CM(h:Heap)(x dx C:zc8)(mA:Str->Option zc9):Prop where
 obj:h.get? x=some (zbs C dx)
 ns:h.Ns1 dx mA
 ne:dx≠x
theorem FE{h:Heap}{dx:zc8}{mA:Str->Option zc9}(n:h.Ns1 dx mA):∃od,h.get? dx=some od/\∀name,zcm name od=some (mA name):=by
 obtain⟨o,es,ep,ho,hd,hk,_,hm⟩:=n;refine⟨o,ho,fun name=>?_⟩;have e:=hm name;unfold nsFind findBy at e;rw[<- Array.find?_toList] at e;unfold zcm;rw[hd];dsimp only;split
 ·rename_i y q;rw[q] at e;exact congrArg some e
 ·rename_i q;rw[q] at e;have a:es.toList.any (·.refKey)=false:=by
   rw[List.any_eq_false];intro y hy;obtain⟨z,t,CN⟩:=hk y (Array.mem_toList_iff.mp hy);simp[DictEntry.refKey,CN]
  have a':¬es.toList.any (·.refKey)=true:=by rw[a];exact zaf
  rw[if_neg a'];exact congrArg some e
theorem CM.look{h:Heap}{x dx C:zc8}{mA:Str->Option zc9}(I:CM h x dx C mA):∃od,PySem.W.InstAt h x (zbs C dx) C (some od)/\∀name,zcm name od=some (mA name):=
 let ⟨od,ho,hl⟩:=FE I.ns
 ⟨od,⟨I.obj,rfl,rfl,ho⟩,hl⟩
section
variable{prog:zdk}{w:zda}{A:zdj}{E:zc9->zdi->Prop}{s:zdi}{K:zaa}{x dx C f:zc8}{mA:Str->Option zc9}{name:Str}{v:zc9}
theorem get_map{expr:Bool}{Q:zc9->zdi->Prop}(X:K.In s.heap)(I:CM s.heap x dx C mA)(hg:zbF K C name=true)(hh:zbQ K C=true)
 (ha:zax K (.ref C) name=some none) (hv:mA name=some v) (FF:PySem.W.handedIn v=true) (h:Q v {s with toks:=s.toks+1}) :
 wpAny (model prog w) A (getAttr (.ref x) name expr) Q E s:=by
 obtain⟨od,J,hl⟩:=I.look;exact PySem.W.get_value X J (zcj hg).1 (PySem.W.findObj_own hh ha rfl (by rw[hl,hv])) FF h
theorem HB{pl:Sem Bool}{Q:zc9×List zc9->zdi->Prop}(X:K.In s.heap)(I:CM s.heap x dx C mA)(hg:zbF K C name=true)
 (hf:zax K (.ref C) name=some (some (.ref f))) (ht:zbG K (.ref f)=true) (hv:mA name=none) (h:Q (.ref f,[.ref x]) s) :
 wpAny (model prog w) A (getMethod (.ref x) name pl) Q E s:=by
 obtain⟨od,J,hl⟩:=I.look;exact PySem.W.method_fn X J (zcj hg).1 (zcj hg).2 hf (beq_iff_eq.mp ht) (by show (zcm name od).map (·.isSome)=some false;rw[hl,hv];rfl) h
theorem yX{ns:List Str}{Q:Unit->zdi->Prop}(X:K.In s.heap)(I:CM s.heap x dx C mA)
 (hs:zax K (.ref C) "__setattr__"=some (some (.builtin "object.__setattr__"))) (hp:zb5 K C=true) (ht:zcK K C name=some none) (hh:zbQ K C=true)
 (hw:PySem.Within mA ns) (hsz:ns.length<=zdg)
 (h:∀h',CM h' x dx C (fun y=>if y=name then some v else mA y)->Heap.SameBut dx s.heap h'->Q () {s with heap:=h',toks:=s.toks+2}) :
 wpAny (model prog w) A (setAttr (.ref x) name v) Q E s:=by
 obtain⟨od,J,hl⟩:=I.look;refine PySem.W.set_plain X J hs (PySem.W.osa_open (s:={s with toks:=s.toks+1}) (r:=none) X J hp ht fun b=>?_);obtain⟨cd,hc,CF⟩:=PySem.W.any_some hh;have hx:s.heap.get? x=some ⟨.ref C,some dx,.plain, #[]⟩:=I.obj;refine zdb (zdc (zdb (zdb (wpAny_loadPart hx (zdb (PySem.W.Looks.here (s:={s with toks:=s.toks+1}) (PySem.W.looks_clsIn X hc) ?_))))));rw[CF];refine zdc (a:=some dx) (zdb (zdc (zdb ?_)));refine wpAny_nsSet1 (s:={s with toks:=s.toks+1}) I.ns fun h' HC Ys=>?_;obtain⟨oD,esD,epD,hoD,hdD,hcD⟩:=HC.count (PySem.Within.cons name v hw);refine zdb (wpAny_lookBehind hoD (by rw[hdD];exact pastItsLine_dict (zaA hcD (by rw[zaj];lia))) ?_);exact zdc (h _ ⟨(Ys.2 _ (Ne.symm I.ne)).trans I.obj,HC,I.ne⟩ Ys)
theorem HD{R:Result->zdi->Prop}{vs:List zc9}{kw:List (Str×zc9)}(X:K.In s.heap)(hm:zch K C=true)
 (hi:zax K (.ref C) "__init__"=some (some (.ref f))) (hf:PySem.W.typeIn K (.ref f)=some (.type "function"))
 (h:codeAny (model prog w) (A.under (.builtin "type.__call__" ⟨.ref C::vs,kw⟩)) (.call (.ref f) ⟨.ref (s.heap.objs.size+1)::vs,kw⟩) (PySem.W.InitBack (s.heap.objs.size+1) R)
  {s with heap:=(s.heap.push zbb).push (zbs C s.heap.objs.size)}) :
 codeAny (model prog w) A (.call (.ref C) ⟨vs,kw⟩) R s:=by
 obtain⟨hh,g,d,t,os⟩:=s;exact PySem.W.make_core (PySem.W.makes_of X hm) (PySem.W.looks_findIn X hi) (fun self=>PySem.W.bind_fn X self hf) (.inl rfl) h
end
noncomputable def je (f:Str) (v:V):List (Str×V)->List (Str×V)
 |[]=>[(f,v)]
 |(g,x)::r=>if g=f then (g,v)::r else (g,x)::je f v r
theorem ui(f g:Str)(v:V):∀fs:List (Str×V),(je f v fs).lookup g=if g=f then some v else fs.lookup g
 |[]=>by
  show zbf g [(f,v)]=_;by_cases h:g=f
  ·have hb:(g==f)=true:=beq_iff_eq.mpr h;simp only[zbf,hb,if_pos h]
  ·have hb:(g==f)=false:=beq_eq_false_iff_ne.mpr h;simp only[zbf,hb,if_neg h]
 |(k,x)::r=>by
  have ih:=ui f g v r;rw[show je f v ((k,x)::r)=(if k=f then (k,v)::r else (k,x)::je f v r) from rfl];by_cases hk:k=f
  ·rw[if_pos hk];by_cases h:g=k
   ·have hb:(g==k)=true:=beq_iff_eq.mpr h;simp only[zbf,hb,if_pos (h.trans hk)]
   ·have hb:(g==k)=false:=beq_eq_false_iff_ne.mpr h;simp only[zbf,hb,if_neg (fun e:g=f=>h (e.trans hk.symm))]
  ·rw[if_neg hk];by_cases h:g=k
   ·have hb:(g==k)=true:=beq_iff_eq.mpr h;simp only[zbf,hb,if_neg (fun e:g=f=>hk (h.symm.trans e))]
   ·have hb:(g==k)=false:=beq_eq_false_iff_ne.mpr h;simp only[zbf,hb];exact ih
theorem tj(f:Str)(v:V):∀fs:List (Str×V),f∈(je f v fs).map (·.1)/\∀g,g∈fs.map (·.1)->g∈(je f v fs).map (·.1)
 |[]=>⟨by simp[je],fun g h=>by simp at h⟩
 |(k,x)::r=>by
  obtain⟨i1,i2⟩:=tj f v r;rw[show je f v ((k,x)::r)=(if k=f then (k,v)::r else (k,x)::je f v r) from rfl];by_cases hk:k=f
  ·rw[if_pos hk];subst hk;exact⟨by simp,fun g h=>by simpa using h⟩
  ·rw[if_neg hk];refine⟨?_,fun g h=>?_⟩
   ·rw[zaq];exact zai _ i1
   ·rw[zaq] at h ⊢;rcases zae.mp h with e |e
    ·exact zae.mpr (.inl e)
    ·exact zai _ (i2 g e)
theorem uj(f:Str)(v:V):∀fs:List (Str×V),(je f v fs).length<=fs.length+1
 |[]=>by simp[je]
 |(k,x)::r=>by
  have ih:=uj f v r;rw[show je f v ((k,x)::r)=(if k=f then (k,v)::r else (k,x)::je f v r) from rfl];by_cases hk:k=f
  ·rw[if_pos hk,zaj,zaj];lia
  ·rw[if_neg hk,zaj,zaj];lia
theorem mK.some_of{v:V}{o:Option zc9}(r:mK (some v) o):∃u,o=some u/\RelV v u:=by
 cases o with
 |none=>exact(show False from r).elim
 |some u=>exact⟨u,rfl,r⟩
theorem mK.none_of{o:Option zc9}(r:mK none o):o=none:=by
 cases o with
 |none=>rfl
 |some u=>exact(show False from r).elim
theorem FG{v:V}{u:zc9}(r:RelV v u):PySem.W.handedIn u=true:=by
 cases v with
 |b9=>cases (show u=Value.none from r);rfl
 |bl b=>cases (show u=Value.bool b from r);rfl
 |int i=>obtain⟨t,e⟩:=(show ∃t,u=Value.int i t from r);cases e;rfl
 |str x=>obtain⟨t,e⟩:=(show ∃t,u=Value.str x t from r);cases e;rfl
 |Ee b=>obtain⟨t,e⟩:=(show ∃t,u=Value.bytes b t from r);cases e;rfl
 |T9 b=>obtain⟨t,e⟩:=(show ∃t,u=Value.float b t from r);cases e;rfl
 |ref a=>cases (show u=Value.ref a from r);rfl
 |ty n=>cases (show u=Value.type n from r);rfl
section
variable{P:zdk}{w:zda}{H H':Hp}{h h':Heap}{a C dx:zc8}{fs Qz:List (Str×V)}
theorem yY(cL:my P w H h)(e:H a=some (.ins C dx fs)):∃mA,CM h a dx C mA/\(∀f,mK (fs.lookup f) (mA f))/\PySem.Within mA (fs.map (·.1))/\fs.length<=1000/\H dx=some (.own a):=by
 obtain⟨d,z,ne,ob,mA,n,r,q⟩:=(show eF P w H h a (.ins C dx fs) from cL a _ e)
 exact⟨mA,⟨ob,n,ne⟩,r,q,z,d⟩
end
structure HE(K:zaa)(C:zc8):Prop where
 pg:zbF K C Str.empty=true
 hd:zbQ K C=true
 po:zb5 K C=true
 sa:zax K (.ref C) "__setattr__"=some (some (.builtin "object.__setattr__"))
theorem HE.get{K:zaa}{C:zc8}(c:HE K C)(f:Str):zbF K C f=true:=c.pg
noncomputable def e7 (K:zaa) (C:zc8) (f:Str):Prop:=zax K (.ref C) f=some none
theorem e7.Rz{K:zaa}{C:zc8}{f:Str}(n:e7 K C f):zcK K C f=some none:=by
 unfold zcK;rw[show zax K (.ref C) f=some none from n];rfl
structure Meth(K:zaa)(C:zc8)(m:Str)(f:zc8):Prop where
 at_:zax K (.ref C) m=some (some (.ref f))
 fn:zbG K (.ref f)=true
 kp:zaO K (.ref f)=true
section
variable{X:Cx}{pins:List (zc8×Obj)}{σ:St}{H:Hp}{s:zdi}{a C dx:zc8}{fs:List (Str×V)}{f:Str}{v:V}{A:zdj}{E:zc9->zdi->Prop}
theorem vG{b:Bool}{Q:zc9->zdi->Prop}(I:Inv X pins σ H s)(e:H a=some (.ins C dx fs))(c:HE X.K C)(n:e7 X.K C f)(l:fs.lookup f=some v)
 (h:∀u s',Inv X pins σ H s'->RelV v u->Q u s'):wpAny (model X.prog X.w) A (getAttr (.ref a) f b) Q E s:=by
 obtain⟨mA,O,r,_,_,_⟩:=yY I.cL e;obtain⟨u,hu,ru⟩:=mK.some_of (v:=v) (o:=mA f) (by rw[<- l];exact r f);exact get_map I.CD O (c.get f) c.hd n hu (FG ru) (h u _ (I.tok _) ru)
theorem CO{m:Str}{g:zc8}{pl:Sem Bool}{Q:zc9×List zc9->zdi->Prop}(I:Inv X pins σ H s)(e:H a=some (.ins C dx fs))(c:HE X.K C)(k:Meth X.K C m g)(l:fs.lookup m=none)
 (h:Q (.ref g,[.ref a]) s):wpAny (model X.prog X.w) A (getMethod (.ref a) m pl) Q E s:=by
 obtain⟨mA,O,r,_,_,_⟩:=yY I.cL e;have hn:mA m=none:=mK.none_of (by rw[<- l];exact r m);exact HB I.CD O (c.get m) k.at_ k.fn hn h
theorem vH{y:V}{u:zc9}{Q:Unit->zdi->Prop}(I:Inv X pins σ H s)(e:H a=some (.ins C dx fs))(c:HE X.K C)(n:e7 X.K C f)(hl:fs.length<1000)(ry:RelV y u)
 (h:∀s',Inv X pins σ (upd H a (.ins C dx (je f y fs))) s'->Q () s'):wpAny (model X.prog X.w) A (setAttr (.ref a) f u) Q E s:=by
 obtain⟨mA,O,r,wi,_,ho⟩:=yY I.cL e;have hz:(fs.map (·.1)).length<=zdg:=by rw[zad,sizeLine_eq];lia
 refine yX I.CD O c.sa c.po n.Rz c.hd wi hz fun h' O' sb=>h _ ?_;have hd:∃o,h'.get? dx=some o:=let ⟨o,_,_,e',_⟩:=O'.ns;⟨o,e'⟩;refine I.write (x:=a) (e:=dx) (by rw[e];exact True.intro) (.inr ho) (fun b q hb z=>(sb.2 b hb).trans z) hd ?_;refine⟨by rw[av O.ne];exact ho,?_,O.ne,O'.obj,_,O'.ns,fun g=>?_,fun g hg=>?_⟩
 ·have:=uj f y fs;lia
 ·show mK ((je f y fs).lookup g) (if g=f then some u else mA g);rw[ui];by_cases q:g=f
  ·rw[if_pos q,if_pos q];exact ry
  ·rw[if_neg q,if_neg q];exact r g
 ·by_cases q:g=f
  ·rw[q];exact(tj f y fs).1
  ·refine(tj f y fs).2 g (wi g fun z=>hg ?_);show (if g=f then some u else mA g)=none;rw[if_neg q];exact z
theorem Inv.made(I:Inv X pins σ H s):Inv X pins σ (upd (upd H s.heap.objs.size (.own (s.heap.objs.size+1))) (s.heap.objs.size+1) (.ins C s.heap.objs.size []))
 {s with heap:=(s.heap.push zbb).push (zbs C s.heap.objs.size)}:=by
 have e1:(s.heap.push zbb).get? s.heap.objs.size=some zbb:=Heap.get?_push_size s.heap rfl;have e2:((s.heap.push zbb).push (zbs C s.heap.objs.size)).get? (s.heap.objs.size+1)=some (zbs C s.heap.objs.size):=by
  have:=Heap.get?_push_size (s.heap.push zbb) (o:=zbs C s.heap.objs.size) rfl
  rwa [Heap.size_push] at this
 have e3:(s.heap.push zbb).Ns s.heap.objs.size (fun _=>none):=⟨zbb, #[],_,e1,rfl,(fun e he=>absurd he (by simp)),fun _=>rfl⟩
 have I1:=I.laid (a:=s.heap.objs.size) (o:=.own (s.heap.objs.size+1)) (h':=s.heap.push zbb) (t':=s.toks) (fun b u q=>Heap.get?_push_of_some _ q) (zah _) ⟨_,e1⟩;refine I1.laid (a:=s.heap.objs.size+1) (o:=.ins C s.heap.objs.size []) (t':=s.toks) (fun b u q=>Heap.get?_push_of_some _ q) (zc4 (Heap.size_push _ _)) ?_;have ne:s.heap.objs.size≠s.heap.objs.size+1:=zaD (zca _);refine⟨by rw[av ne,ah],zaU _,ne,e2,fun _=>none,(Heap.Ns1.of_empty e3).at fun o q=>Heap.get?_push_of_some _ q,fun _=>True.intro,fun y hy=>absurd rfl hy⟩
theorem Lm{prog:zdk}{w:zda}{env:Env}{e:Expr}{f:Str}{pos:Pos}{s:zdi}{Q:zc9->zdi->Prop}(hb:attributeBase e f env (eval e env)=eval e env)
 (h:wpAny (model prog w) A (eval e env) (fun o s₁=>wpAny (model prog w) A (getAttr o f true) Q E s₁) E s):wpAny (model prog w) A (eval (.Attribute e f pos) env) Q E s:=
 Attribute_any_ h (by rw[arm_eval_Attribute,hb])
end
noncomputable def Ou (K:zaa) (ta:TE) (f:Str):TE:=fun σ H Q=>ta σ H fun x H1=>∃a C dx fs v,x=.ref a/\H1 a=some (.ins C dx fs)/\HE K C/\e7 K C f/\fs.lookup f=some v/\Q v H1
noncomputable def A0 (K:zaa) (ta tv:TE) (f:Str):TS:=fun D σ H=>tv σ H fun y H1=>ta σ H1 fun x H2=>∃a C dx fs,x=.ref a/\H2 a=some (.ins C dx fs)/\HE K C/\e7 K C f/\fs.length<1000/\
 D.nx σ (upd H2 a (.ins C dx (je f y fs)))
noncomputable def RA (X:Cx) (op:Operator) (rd:V->V->Hp->VK->Prop):Prop:=
 ∀(pins:List (zc8×Obj)) (s:zdi) (σ:St) (H:Hp) (x y:V) (u v:zc9) (Q:VK),Inv X pins σ H s->RelV x u->RelV y v->rd x y H Q->wpAny (model X.prog X.w) X.A (inplaceOp op u v) (EP X pins σ Q) X.xe s
noncomputable def yZ (K:zaa) (ta tv:TE) (rd:V->V->Hp->VK->Prop) (f:Str):TS:=fun D σ H=>ta σ H fun x H1=>∃a C dx fs v,x=.ref a/\H1 a=some (.ins C dx fs)/\HE K C/\e7 K C f/\fs.lookup f=some v/\
 tv σ H1 fun y H2=>rd v y H2 fun z H3=>∃VC Qz,H3 a=some (.ins C VC Qz)/\Qz.length<1000/\D.nx σ (upd H3 a (.ins C VC (je f z Qz)))
section
variable{X:Cx}{o e value:Expr}{f:Str}{pos pos' RB:Pos}{ta tv:TE}
theorem cC(he:PE X e ta)(hb:attributeBase e f X.env (eval e X.env)=eval e X.env):PE X (.Attribute e f pos) (Ou X.K ta f):=by
 intro pins s σ H Q I h;refine Lm hb (eD (he pins s σ H _ I h) fun u s1 zqz=>?_);obtain⟨x,H1,I1,rx,a,C,dx,fs,v,ex,ea,c,n,l,q⟩:=zqz;subst ex;obtain rfl:u=Value.ref a:=rx;exact vG I1 ea c n l fun u' s2 I2 ru=>⟨v,H1,I2,ru,q⟩
theorem gQ(ha:PE X o ta)(hv:PE X value tv)(hs:swapsWith value (some (.Attribute o f pos')) pos.line X.env=pure false):PS X (.Assign [.Attribute o f pos'] value pos) (A0 X.K ta tv f):=by
 intro pins s σ H D I h;refine plainObj_wpAny_Assign_Attribute (eD (hv pins s σ H _ I h) fun u s1 zqz=>?_) hs;obtain⟨y,H1,I1,ry,q⟩:=zqz;refine eD (ha pins s1 σ H1 _ I1 q) fun ov s2 zqz=>?_;obtain⟨x,H2,I2,rx,a,C,dx,fs,ex,ea,c,n,l,q2⟩:=zqz;subst ex;obtain rfl:ov=Value.ref a:=rx;exact vH I2 ea c n l ry fun s3 I3=>⟨σ,_,I3,q2⟩
theorem FI{op:Operator}{rd:V->V->Hp->VK->Prop}(ha:PE X o ta)(hv:PE X value tv)(Ov:RA X op rd):PS X (.AugAssign (.Attribute o f RB) op value pos) (yZ X.K ta tv rd f):=by
 intro pins s σ H D I h;refine wpAny_AugAssign_AttributeAny (eD (ha pins s σ H _ I h) fun ov s1 zqz=>?_);obtain⟨x,H1,I1,rx,a,C,dx,fs,v,ex,ea,c,n,l,q⟩:=zqz;subst ex;obtain rfl:ov=Value.ref a:=rx;refine vG I1 ea c n l fun u s2 I2 ru=>eD (hv pins s2 σ H1 _ I2 q) fun w3 s3 zqz=>?_;obtain⟨y,H2,I3,ry,q3⟩:=zqz;refine eD (Ov pins s3 σ H2 v y u w3 _ I3 ru ry q3) fun w4 s4 zqz=>?_;obtain⟨z,H3,I4,rz,VC,Qz,ea',l',q4⟩:=zqz;exact vH I4 ea' c n l' rz fun s5 I5=>⟨σ,_,I5,q4⟩
noncomputable def VD:V->V->Hp->VK->Prop:=fun x y H Q=>∃i j,x=.int i/\y=.int j/\Q (.int (i+j)) H
theorem Ow:RA X .Add VD:=by
 rintro pins s σ H x y u v Q I rx ry ⟨i,j,rfl,rfl,q⟩
 obtain⟨t,rfl⟩:=(show ∃t,u=Value.int i t from rx)
 obtain⟨t',rfl⟩:=(show ∃t',v=Value.int j t' from ry)
 exact PyProof.Rows.iadd_int ⟨.int (i+j),H,I.tok _,⟨_,rfl⟩,q⟩
end
structure gg(k:Nat)(A:zdj):Prop where
 hd:A.handled=none
 dp:A.depth+3*k+5<recursionLimit
 un:A.units+16*k+200<cLine
theorem gg.mono{j k:Nat}{A:zdj}(r:gg k A)(h:j<=k):gg j A:=⟨r.hd,by have:=r.dp;lia,by have:=r.un;lia⟩
theorem gg.deeper{k:Nat}{A:zdj}(r:gg (k+1) A)(env:Env):gg k (A.deeper env):=
 ⟨r.hd,by have:=r.dp;show A.depth+1+3*k+5<_;lia,by have:=r.un;show A.units+3+16*k+200<_;lia⟩
theorem CP{A:zdj}{C:zc8}{us:List zc9}{kw:List (Str×zc9)}:(A.under (.builtin "type.__call__" ⟨.ref C::us,kw⟩)).depth=A.depth+1:=by
 first |rfl |simp[Around.under,Code.weight,Code.isCreation,Code.isGuard,Code.isCaller,Code.frames,Code.isFrame,guardIds]
theorem CQ{A:zdj}{C:zc8}{us:List zc9}{kw:List (Str×zc9)}:(A.under (.builtin "type.__call__" ⟨.ref C::us,kw⟩)).units=A.units+1:=by
 first |rfl |simp[Around.under,Code.cUnits,Code.frames,Code.isFrame]
theorem gg.make{k:Nat}{A:zdj}(r:gg (k+1) A)(C:zc8)(us:List zc9)(kw:List (Str×zc9)):gg k (A.under (.builtin "type.__call__" ⟨.ref C::us,kw⟩)):=
 ⟨r.hd,by have:=r.dp;rw[CP];lia,by have:=r.un;rw[CQ];lia⟩
theorem gg.depth{k:Nat}{A:zdj}(r:gg k A):A.depth<recursionLimit:=by have:=r.dp;lia
theorem gg.units{k:Nat}{A:zdj}(r:gg k A):A.units+64<cLine:=by have:=r.un;lia
noncomputable def HF:TA:=fun _ H Q=>Q [] H
noncomputable def vI (ta:TE) (tr:TA):TA:=fun σ H Q=>ta σ H fun x H1=>tr σ H1 fun xs H2=>Q (x::xs) H2
section
variable{X:Cx}{e:Expr}{es:List Expr}{te:TE}{t:TA}{pos:Pos}
theorem ae:PA X [] HF:=fun _ _ _ _ H Q I h=>Calls.spliced_nil ⟨[],H,I,.nil,h⟩
theorem ai(ha:PE X e te)(hr:PA X es t)(hs:zde (e::es) X.env=(false,eval e X.env)::zde es X.env:=by rfl):PA X (e::es) (vI te t):=by
 intro pos pins s σ H Q I h;rw[hs];show wpAny _ _ (spliced ((false,eval e X.env)::backTo pos (zde es X.env))) _ _ s;refine Calls.spliced_cons (eD (ha pins s σ H _ I h) fun u s1 zqz=>?_);obtain⟨x,H1,I1,r1,q1⟩:=zqz;exact eD (hr pos pins s1 σ H1 _ I1 q1) fun us s2 ⟨xs,H2,I2,r2,q2⟩=>⟨x::xs,H2,I2,.cons r1 r2,q2⟩
noncomputable def RC (t:TA):TE:=fun σ H Q=>t σ H fun xs H1=>xs.length<=zdg/\∀p,H1 p=none->Q (.ref p) (upd H1 p (.tup xs))
noncomputable def RD (t:TA):TE:=fun σ H Q=>t σ H fun xs H1=>xs.length<=zdg/\∀p,H1 p=none->Q (.ref p) (upd H1 p (.lst xs))
theorem a7{x1}(h:PA X es t):PE X (.Tuple es x1 pos) (RC t):=by
 intro pins s σ H Q I hq;refine wpAny_Tuple_spliced (eD (h pos pins s σ H _ I hq) fun us s1 ⟨xs,H1,I1,r,z,q⟩=>⟨by rw[<- r.length];exact z,?_⟩);have hf:H1 s1.heap.objs.size=none:=I1.cL.fresh (zah _);refine⟨.ref s1.heap.objs.size,upd H1 s1.heap.objs.size (.tup xs),I1.laid (t':=s1.toks) (fun b u e=>Heap.get?_push_of_some _ e) (zah _) ?_,rfl,q _ hf⟩;exact⟨z,us,r,⟨_,Heap.get?_push_size _ rfl,rfl,_,rfl⟩⟩
theorem bg(h:PA X es t):PE X (.List es pos) (RD t):=by
 intro pins s σ H Q I hq;refine wpAny_List_spliced (eD (h pos pins s σ H _ I hq) fun us s1 ⟨xs,H1,I1,r,z,q⟩=>⟨by rw[<- r.length];exact z,?_⟩);have hf:H1 s1.heap.objs.size=none:=I1.cL.fresh (zah _);refine⟨.ref s1.heap.objs.size,upd H1 s1.heap.objs.size (.lst xs),I1.laid (t':=s1.toks) (fun b u e=>Heap.get?_push_of_some _ e) (zah _) ?_,rfl,q _ hf⟩;exact⟨z,us,0,r,Heap.get?_push_size _ rfl⟩
end
noncomputable abbrev Sp:=List V->Hp->VK->XK->Prop
noncomputable abbrev AJ:=List Env->Hp->zdi->XK->zc9->zdi->Prop
structure qg(P:zdk)(w:zda)(K:zaa)(mg:Str->Option zc9)(base:Heap)(A:zdj)(outer:List Env)(s:zdi)(H:Hp):Prop where
 frames:A.frames=some outer
 mod:Mod K mg base
 bs:∀b o,base.get? b=some o->s.heap.get? b=some o/\H b=none
 AU:base.objs.size<=s.heap.objs.size
 oQ:s.heap.FunFrames base outer
 KZ:∀b∈cV outer,H b=none
 cL:my P w H s.heap
 bare:AllBare s.gens
noncomputable def CE (outer:List Env) (P:zdk) (w:zda) (H:Hp) (s:zdi) (Q:VK) (u:zc9) (s':zdi):Prop:=
 ∃v H',s'.os=s.os/\AllBare s'.gens/\Un (cV outer) [] H H' s.heap s'.heap/\my P w H' s'.heap/\RelV v u/\Q v H'
noncomputable def CR (CX:AJ) (outer:List Env) (P:zdk) (w:zda) (H:Hp) (s:zdi) (Q:VK) (E:XK) (r:Result) (s':zdi):Prop:=
 match r with
 |.ok (.ret u)=>CE outer P w H s Q u s'
 |.ok _=>False
 |.error e=>CX outer H s E e s'
structure bz(P:zdk)(w:zda)(K:zaa)(mg:Str->Option zc9)(base:Heap)(CX:AJ)(k:Nat)(f:zc8)(fd:zdh)(ps:List Str)(sp:Sp):Prop where
 len:∀vs H Q E,sp vs H Q E->vs.length=ps.length
 run:∀(A:zdj) (outer:List Env) (s:zdi) (H:Hp) (args:Args) (us:List zc9) (vs:List V) (Q:VK) (E:XK),gg k A->qg P w K mg base A outer s H->BindsTo s fd args (ps.zip us)->Vals vs us->sp vs H Q E->
  codeAny (model P w) A (.call (.ref f) args) (CR CX outer P w H s Q E) s
theorem qg.make{P:zdk}{w:zda}{K:zaa}{mg:Str->Option zc9}{base:Heap}{A:zdj}{outer:List Env}{s:zdi}{H:Hp}(e:qg P w K mg base A outer s H)(C:zc8)(us:List zc9)(kw:List (Str×zc9)) :
 qg P w K mg base (A.under (.builtin "type.__call__" ⟨.ref C::us,kw⟩)) outer s H:=⟨by first |exact e.frames |(simpa[Around.under,Code.envs,Code.isFrame,pushEnvs] using e.frames),e.mod,e.bs,e.AU,e.oQ,e.KZ,e.cL,e.bare⟩
section
variable{X:Cx}{pins:List (zc8×Obj)}{σ:St}{H:Hp}{s s':zdi}
theorem Inv.Ln(I:Inv X pins σ H s):qg X.prog X.w X.K X.mg X.base X.A X.stack s H:=
 ⟨I.ok.frames,I.ok.mod,I.bs,zaA I.ok.AU I.sz,I.stack,I.yR,I.cL,I.bare⟩
theorem Inv.after{Q:VK}{u:zc9}(I:Inv X pins σ H s)(h:CE X.stack X.prog X.w H s Q u s'):EP X pins σ Q u s':=by
 obtain⟨v,H',os,bare,un,cL,r,q⟩:=h;obtain⟨hh,g,d,t,os'⟩:=s';obtain rfl:os'=s.os:=os;exact⟨v,H',I.call (h':=hh) (g':=g) (d':=d) (t':=t) (ch:=[]) un cL bare (fun b z=>absurd z (by simp)),r,q⟩
end
noncomputable def A2 (sp:Sp) (xn:List V) (E:XK) (t:TA):TE:=fun σ H Q=>t σ H fun vs H1=>sp (vs++xn) H1 Q E
noncomputable def HG (C:zc8) (m:Str) (sp:Sp) (xn:List V) (E:XK) (ta:TE) (t:TA):TE:=fun σ H Q=>ta σ H fun x H1=>∃a dx fs,x=.ref a/\H1 a=some (.ins C dx fs)/\fs.lookup m=none/\
 t σ H1 fun vs H2=>sp (x::(vs++xn)) H2 Q E
noncomputable def HH (C:zc8) (sp:Sp) (xn:List V) (E:XK) (t:TA):TE:=fun σ H Q=>t σ H fun vs H1=>∀x dx,H1 x=none->H1 dx=none->dx≠x->
 sp (.ref x::(vs++xn)) (upd (upd H1 dx (.own x)) x (.ins C dx [])) (fun v H2=>v=.b9/\Q (.ref x) H2) E
noncomputable def Binds (K:zaa) (fd:zdh) (ps:List Str) (ds:List zc9):Prop:=
 ∀(s:zdi) (us:List zc9),K.In s.heap->(us++ds).length=ps.length->BindsTo s fd ⟨us,[]⟩ (ps.zip (us++ds))
theorem Binds.all{K:zaa}{fd:zdh}{ps:List Str}(h:∀us:List zc9,us.length=ps.length->bindArgs fd ⟨us,[]⟩=pure (ps.zip us)):Binds K fd ps []:=fun s us _ hl=>by
 rw[zaC] at hl ⊢;exact .of_eq (h us hl)
noncomputable def Passes (CX:AJ) (X:Cx) (E:XK):Prop:=∀(pins:List (zc8×Obj)) (σ:St) (H:Hp) (s:zdi) (e:zc9) (s':zdi),Inv X pins σ H s->CX X.stack H s E e s'->X.xe e s'
section
variable{X:Cx}{CX:AJ}{k:Nat}{f C:zc8}{fd:zdh}{ps:List Str}{sp:Sp}{xn:List V}{ds:List zc9}{E:XK}{x m:Str}{p pos apos:Pos}{e o:Expr}{es:List Expr}{ta:TE}{t:TA}
theorem HI{pins:List (zc8×Obj)}{σ:St}{H:Hp}{s:zdi}{Q:VK}{us:List zc9}{vs:List V}(F:bz X.prog X.w X.K X.mg X.base CX k f fd ps sp)(hr:gg k X.A)(hb:Binds X.K fd ps ds)(hd:Vals xn ds)(hx:Passes CX X E)
 (I:Inv X pins σ H s) (r:Vals vs us) (h:sp (vs++xn) H Q E):wpAny (model X.prog X.w) X.A (call (.ref f) us) (EP X pins σ Q) X.xe s:=by
 have r2:Vals (vs++xn) (us++ds):=r.append hd;have hl:(us++ds).length=ps.length:=by rw[<- r2.length];exact F.len _ _ _ _ h
 refine wpAny_call (codeAny_mono (F.run X.A X.stack s H ⟨us,[]⟩ (us++ds) (vs++xn) Q E hr I.Ln (hb s us I.CD hl) r2 h) fun r s' hq=>?_);cases r with
 |error e=>exact hx pins σ H s e s' I hq
 |ok fl=>
  cases fl with
  |ret u=>exact I.after hq
  |next=>exact False.elim hq
  |brk=>exact False.elim hq
  |cont=>exact False.elim hq
theorem Er(F:bz X.prog X.w X.K X.mg X.base CX k f fd ps sp)(hr:gg k X.A)(hg:Gl X x)(hm:X.mg x=some (.ref f))(hk:zaO X.K (.ref f)=true)(hb:Binds X.K fd ps ds)(hd:Vals xn ds)(hx:Passes CX X E)
 (ha:PA X (e::es) t) (HJ:(x==("__debug__":Str))=false:=by decide) (he:zde (e::es) X.env=(false,eval e X.env)::zde es X.env:=by rfl) (AK:(backTo pos (zde es X.env)).any (·.1)=false:=by rfl) :
 PE X (.Call (.Name x p) (e::es) [] pos) (A2 sp xn E t):=by
 intro pins s σ H Q I h;refine wpAny_Call_Name_kw (vb I hg hm ?_ HJ);refine zcq (h₀:=X.base) I.ok.mod.Rb hk (eD (ha pos pins s σ H _ I h) fun us s1 ⟨vs,H1,I1,r,q⟩=>⟨I1.CD,?_⟩) he AK;exact HI F hr hb hd hx I1 r q
theorem mU{pl:Sem Bool}(he:PE X o ta)(c:HE X.K C)(hm:Meth X.K C m f)(F:bz X.prog X.w X.K X.mg X.base CX k f fd ps sp)(hr:gg k X.A)(hb:Binds X.K fd ps ds)(hd:Vals xn ds)(hx:Passes CX X E)
 (ht:eval (.Call (.Attribute o m apos) [] [] pos) X.env=(do
  let ov <- eval o X.env
  standAt apos.atName
  let (f,first) <- holding [ov] (getMethod ov m pl)
  callWith pos f first (backTo pos (zde [] X.env)) (backToKw pos (keywordEach [] X.env))):=by rfl) :
 PE X (.Call (.Attribute o m apos) [] [] pos) (HG C m sp xn E ta HF):=by
 intro pins s σ H Q I h;refine PySem.W.methodCall_KW (pl:=pl) (eD (he pins s σ H _ I h) fun u s1 zqz=>?_) ht;obtain⟨x,H1,I1,rx,a,dx,fs,ex,ea,l,q⟩:=zqz;subst ex;obtain rfl:u=Value.ref a:=rx;refine CO I1 ea c hm l ?_;exact PySem.W.callWith_K0 (first:=[.ref a]) I1.CD hm.kp (HI (us:=[.ref a]) (vs:=[.ref a]) F hr hb hd hx I1 (.cons rfl .nil) q)
structure Mk(K:zaa)(C f:zc8):Prop where
 makes:zch K C=true
 init:zax K (.ref C) "__init__"=some (some (.ref f))
 fn:zbG K (.ref f)=true
 kp:zaO K (.ref C)=true
theorem HK{pins:List (zc8×Obj)}{σ:St}{H:Hp}{s:zdi}{Q:VK}{us:List zc9}{vs:List V}(M:Mk X.K C f)(F:bz X.prog X.w X.K X.mg X.base CX k f fd ps sp)(hr:gg (k+1) X.A)(hb:Binds X.K fd ps ds)(hd:Vals xn ds)
 (hx:Passes CX X E) (I:Inv X pins σ H s) (r:Vals vs us)
 (h:∀x dx,H x=none->H dx=none->dx≠x->sp (.ref x::(vs++xn)) (upd (upd H dx (.own x)) x (.ins C dx [])) (fun v H2=>v=.b9/\Q (.ref x) H2) E) :
 wpAny (model X.prog X.w) X.A (call (.ref C) us) (EP X pins σ Q) X.xe s:=by
 have hq:=h (s.heap.objs.size+1) s.heap.objs.size (I.cL.fresh (Nat.le_succ _)) (I.cL.fresh (zah _)) (zaD (zca _));have I2:=Inv.made (C:=C) I;have r2:Vals (V.ref (s.heap.objs.size+1)::(vs++xn)) (Value.ref (s.heap.objs.size+1)::(us++ds)):=.cons rfl (r.append hd);have hl:(Value.ref (s.heap.objs.size+1)::us++ds).length=ps.length:=by
  have e:=r2.length;rw[F.len _ _ _ _ hq] at e;exact e.symm
 refine wpAny_call (HD (f:=f) I.CD M.makes M.init (beq_iff_eq.mp M.fn) (codeAny_mono (F.run _ X.stack _ _ ⟨Value.ref (s.heap.objs.size+1)::us,[]⟩ (Value.ref (s.heap.objs.size+1)::(us++ds)) _ _ E (hr.make C us [])
  (I2.Ln.make C us []) (hb _ (Value.ref (s.heap.objs.size+1)::us) I2.CD hl) r2 hq) fun r s' RE=>?_))
 cases r with
 |error e=>exact hx pins σ _ _ e s' I2 RE
 |ok fl=>
  cases fl with
  |ret u=>
   obtain⟨v,H',I3,rv,ev,q3⟩:=I2.after RE;subst ev;exact⟨rv,⟨V.ref (s.heap.objs.size+1),H',I3,rfl,q3⟩⟩
  |next=>exact False.elim RE
  |brk=>exact False.elim RE
  |cont=>exact False.elim RE
theorem y0(M:Mk X.K C f)(F:bz X.prog X.w X.K X.mg X.base CX k f fd ps sp)(hr:gg (k+1) X.A)(hg:Gl X x)(hm:X.mg x=some (.ref C))(hb:Binds X.K fd ps ds)(hd:Vals xn ds)(hx:Passes CX X E)
 (ha:PA X (e::es) t) (HJ:(x==("__debug__":Str))=false:=by decide) (he:zde (e::es) X.env=(false,eval e X.env)::zde es X.env:=by rfl) (AK:(backTo pos (zde es X.env)).any (·.1)=false:=by rfl) :
 PE X (.Call (.Name x p) (e::es) [] pos) (HH C sp xn E t):=by
 intro pins s σ H Q I h;refine wpAny_Call_Name_kw (vb I hg hm ?_ HJ);refine zcq (h₀:=X.base) I.ok.mod.Rb M.kp (eD (ha pos pins s σ H _ I h) fun us s1 ⟨vs,H1,I1,r,q⟩=>⟨I1.CD,?_⟩) he AK;exact HK M F hr hb hd hx I1 r q
end
structure aX(N P:List Str)(sc:Scope):Prop where
 kind:sc.kind=.function
 co:sc.isCoroutine=false
 gen:sc.isGenerator=false
 nd:N.Nodup
 pre:N.take P.length=P
 par:∀x∈P,sc.names.lookup x=some .local\/sc.names.lookup x=some .cell
 Ox:∀y∈sc.names,y.2≠.free
theorem x5{kindOf:Str->Option NameKind}{x:Str}:∀ {binds:List (Str×zc9)} {m:Str->Option zc9},(∀v,(x,v) ∉ binds)->bindL kindOf binds m x=m x
 |[],_,_=>rfl
 |(n,v)::r,m,h=>by
  unfold bindL;rw[x5 fun w hw=>h w (zai _ hw)];split
  ·have:x≠n:=by rintro rfl;exact h v zak
   simp[this]
  ·rfl
theorem x6{kindOf:Str->Option NameKind}{x:Str}:∀ {binds:List (Str×zc9)} {m:Str->Option zc9},(∀v,(x,v) ∉ binds)->bindC kindOf binds m x=m x
 |[],_,_=>rfl
 |(n,v)::r,m,h=>by
  unfold bindC;rw[x6 fun w hw=>h w (zai _ hw)];split
  ·rfl
  ·have:x≠n:=by rintro rfl;exact h v zak
   simp[this]
theorem x8{kindOf:Str->Option NameKind}{x:Str}{v:zc9}:∀ {P:List Str} {vs:List zc9} {i:Nat} {m:Str->Option zc9},P.Nodup->P[i]?=some x->vs[i]?=some v->kindOf x=some .local->
 bindL kindOf (P.zip vs) m x=some v
 |[],_,_,_,_,h,_,_=>by simp at h
 |_::_,[],_,_,_,_,h,_=>by simp at h
 |p::P,w::vs,0,m,nd,h1,h2,hk=>by
  simp at h1 h2;subst h1;subst h2;show bindL kindOf ((p,w)::P.zip vs) m p=_;unfold bindL;rw[x5 fun v hv=>(zaH.mp nd).1 (zcG hv).1,if_pos hk];simp
 |p::P,w::vs,i+1,m,nd,h1,h2,hk=>by
  show bindL kindOf ((p,w)::P.zip vs) m x=_;unfold bindL;exact x8 (i:=i) (zaH.mp nd).2 (by simpa using h1) (by simpa using h2) hk
theorem x9{kindOf:Str->Option NameKind}{x:Str}{v:zc9}:∀ {P:List Str} {vs:List zc9} {i:Nat} {m:Str->Option zc9},P.Nodup->P[i]?=some x->vs[i]?=some v->kindOf x≠some .local->
 bindC kindOf (P.zip vs) m x=some v
 |[],_,_,_,_,h,_,_=>by simp at h
 |_::_,[],_,_,_,_,h,_=>by simp at h
 |p::P,w::vs,0,m,nd,h1,h2,hk=>by
  simp at h1 h2;subst h1;subst h2;show bindC kindOf ((p,w)::P.zip vs) m p=_;unfold bindC;rw[x6 fun v hv=>(zaH.mp nd).1 (zcG hv).1,if_neg hk];simp
 |p::P,w::vs,i+1,m,nd,h1,h2,hk=>by
  show bindC kindOf ((p,w)::P.zip vs) m x=_;unfold bindC;exact x9 (i:=i) (zaH.mp nd).2 (by simpa using h1) (by simpa using h2) hk
noncomputable def start (N:List Str) (vs:List V):St:=vs.map some++zck (N.length-vs.length) none
noncomputable def lA (CX:AJ) (P:zdk) (w:zda) (K:zaa) (mg:Str->Option zc9) (base:Heap) (N:List Str) (qual:Str) (scope:Scope) (f:zc8) (cd:zc9) (A:zdj) (outer:List Env) (s:zdi) (H:Hp) (E:XK):Cx where
 prog:=P
 w:=w
 K:=K
 mg:=mg
 base:=base
 A:=A.deeper (envOfC qual scope s.heap.objs.size f cd)
 N:=N
 s₀:=s
 H₀:=H
 env:=envOfC qual scope s.heap.objs.size f cd
 outer:=outer
 stack:=envOfC qual scope s.heap.objs.size f cd::outer
 ex:=[]
 calm:=true
 fn:=fun _=>true
 pn:=[]
 xe:=fun e s'=>wpAny (model P w) (A.deeper (envOfC qual scope s.heap.objs.size f cd)) (leaving (envOfC qual scope s.heap.objs.size f cd) e) (fun _ FJ=>CX outer H s E e FJ) (fun e' FJ=>CX outer H s E e' FJ) s'
theorem A3{sc:Scope}{n:Nat}{x:Str}(h:sc.names.lookup x=some .cell):∃c,(cellsFrom n sc.names []).lookup x=some c:=by
 have q:=zcN sc.names n [] (.inl h);exact zcv.mp q
theorem FK{CX:AJ}{P:zdk}{w:zda}{K:zaa}{mg:Str->Option zc9}{base:Heap}{N ps:List Str}{qual:Str}{scope:Scope}{f:zc8}{cd:zc9}{A:zdj}{outer:List Env}{s s1:zdi}{H:Hp}{E:XK}{us:List zc9}{vs:List V}
 (S:aX N ps scope) (hd:A.handled=none) (e0:qg P w K mg base A outer s H) (hl:vs.length=ps.length) (r:Vals vs us)
 (x:InCallC s s.heap.objs.size (bindL (envOfC qual scope s.heap.objs.size f cd).kindOf (ps.zip us) fun _=>none) (cellsFrom (s.heap.objs.size+1) scope.names []) (bindC (envOfC qual scope s.heap.objs.size f cd).kindOf (ps.zip us) fun _=>none) s1) :
 Inv (lA CX P w K mg base N qual scope f cd A outer s H E) [] (start N vs) H s1:=by
 have AK:ps.length<=N.length:=by have:=congrArg za9 S.pre;rw[zcw] at this;lia
 obtain⟨h1,tk,rfl,hk⟩:=x.done;have Oy:∀b:zc8,b ∉ (lA CX P w K mg base N qual scope f cd A outer s H E).ex:=fun b z=>absurd (show b∈([]:List zc8) from z) (by simp);refine⟨⟨e0.mod,S.kind,rfl,rfl,zah _,fun y z c h1 h2=>?_,fun y hy=>?_,fun y c _ h=>?_,fun _=>hd,Around.frames_deeper e0.frames,.inr ⟨rfl,rfl⟩,fun b z=>absurd z (Oy b),e0.bs,e0.AU,fun b _ _=>Oy b,fun b z=>absurd z (Oy b),e0.oQ,e0.KZ⟩,
  rfl,e0.bare,Un.kept hk,⟨_,x.toInCall.ns,fun i y v h1 h2 h3=>?_⟩,fun y c h=>⟨_,x.cell y c h⟩,e0.cL.fresh (zah _),fun y c h=>?_,fun p hp=>absurd (show p∈([]:List (zc8×Obj)) from hp) (by simp),e0.cL.kept hk,?_⟩
 ·exact name_of_addr x.apart (PySem.mem_of_lookup h1) (PySem.mem_of_lookup h2)
 ·have hy:scope.names.lookup y=some .cell\/scope.names.lookup y=some .free:=hy;rcases hy with hy |hy
  ·exact A3 hy
  ·exact absurd rfl (S.Ox _ (PySem.mem_of_lookup hy))
 ·exact zcc (x.above y c (PySem.mem_of_lookup h))
 ·have hi:i<vs.length:=by
   unfold start at h2;by_cases hi:i<vs.length
   ·exact hi
   ·rw[zbU (by simpa using hi)] at h2;rw[zcC] at h2;split at h2<;>cases h2
  have ha:vs[i]?=some v:=by
   unfold start at h2;rw[zcs (by simpa using hi),zap] at h2;cases e:vs[i]? with
   |none=>rw[e] at h2;cases h2
   |some a=>rw[e] at h2;cases h2;rfl
  obtain⟨u,hu,rv⟩:=r.get ha;have hp:ps[i]?=some y:=by
   rw[<- S.pre,List.getElem?_take_of_lt (by lia)];exact h1
  have Yt:ps.Nodup:=by rw[<- S.pre];exact S.nd.sublist (List.take_sublist _ _)
  refine⟨u,rv,?_⟩;rcases S.par y (za5 hp) with k |k
  ·exact .inl ⟨k,x8 Yt hp hu k⟩
  ·obtain⟨c,e⟩:=A3 (n:=s.heap.objs.size+1) k;refine .inr ⟨.inl k,c,e,?_⟩;have q:=x.cell y c e;rw[x9 Yt hp hu (by show scope.names.lookup y≠_;rw[k];decide)] at q;exact q
 ·exact e0.cL.fresh (zcc (x.above y c (PySem.mem_of_lookup h)))
 ·unfold start;show _=N.length;rw[zal,zad,zcO];lia
theorem M9{CX:AJ}{P:zdk}{w:zda}{K:zaa}{mg:Str->Option zc9}{base:Heap}{k:Nat}{f:zc8}{name qual:Str}{params:Arguments}{body:List Stmt}{scope:Scope}{dV kV doc pm dY ct oc:zc9}{an od:Option zc8}
 {Es:Array (Option zc9)} {N ps:List Str} {sp:Sp} (lk:K.lookup f=some ⟨oc,od,.func (zaM name qual params body scope dV kV doc pm an dY ct),Es⟩) (CH:zbq K dY qual=true) (S:aX N ps scope)
 (len:∀vs H Q E,sp vs H Q E->vs.length=ps.length)
 (qR:∀(A:zdj) (outer:List Env) (s:zdi) (H:Hp) (vs:List V) (Q:VK) (E:XK),gg k (A.deeper (envOfC qual scope s.heap.objs.size f dY))->sp vs H Q E->
  ∃t,CG (lA CX P w K mg base N qual scope f dY A outer s H E) body t/\t {nx:=fun _ H'=>Q .b9 H',rt:=Q} (start N vs) H) :
 bz P w K mg base CX (k+1) f (zaM name qual params body scope dV kV doc pm an dY ct) ps sp:=by
 refine⟨len,fun A outer s H args us vs Q E hr e0 hb r K2=>?_⟩;have hl:=len _ _ _ _ K2;have KX:K.In s.heap:=e0.mod.Rb.keeps fun b o e=>(e0.bs b o e).1;have lim:s.heap.NoLimit:=e0.mod.nolimit.keeps fun b o e=>(e0.bs b o e).1;have RF:∀y∈ps.zip us,scope.names.lookup y.1=some .local\/(scope.names.lookup y.1=some .cell/\((cellsFrom (s.heap.objs.size+1) scope.names []).lookup y.1).isSome=true):=fun ⟨n,v⟩ hy=>by
  rcases S.par n (zcG hy).1 with q |q
  ·exact .inl q
  ·exact .inr ⟨q,zcN _ _ _ (.inl q)⟩
 refine codeAny_call_function hr.depth (KX _ _ lk) rfl S.co S.gen rfl (PySem.W.codeRec_of KX CH) (hb _ _ _ _ ?_);refine wpAny_newFunctionEnv_cells S.kind RF fun env he s1 x=>?_;subst he;refine⟨lim.keeps x.toInCall.keep,codeAny_func ?_⟩;obtain⟨t,ht,hq⟩:=qR A outer s H vs Q E (hr.deeper _) K2;have I:Inv (lA CX P w K mg base N qual scope f dY A outer s H E) [] (start N vs) H s1:=FK S hr.hd e0 hl r x;refine wpAny_mono (ht [] s1 (start N vs) H _ I hq) (fun fl s' hs=>?_) fun e s' hs=>hs;have fin:∀ {σ':St} {H':Hp} {v:V} {u:zc9},Inv (lA CX P w K mg base N qual scope f dY A outer s H E) [] σ' H' s'->RelV v u->Q v H'->CE outer P w H s Q u s':=
  fun {σ' H' v u} J rv q=>⟨v,H',J.os,J.bare,J.base,J.cL,rv,q⟩
 cases fl with
 |ret u=>
  obtain⟨v,σ',H',J,rv,q⟩:=hs;exact fin J rv q
 |next=>
  obtain⟨σ',H',J,q⟩:=hs;exact fin (v:=V.b9) (u:=Value.none) J rfl q
 |brk=>
  obtain⟨_,_,_,q⟩:=hs;exact False.elim q
 |cont=>
  obtain⟨_,_,_,q⟩:=hs;exact False.elim q
section
variable{X:Cx}{x:Str}{p pos:Pos}{e:Expr}{es:List Expr}{t:TA}{id T:String}{r:List V->Hp->VK->Prop}
noncomputable def VE (r:List V->Hp->VK->Prop) (t:TA):TE:=fun σ H Q=>t σ H fun vs H1=>r vs H1 Q
theorem bB(hc:qQ X (.builtin id) r)(hg:Gl X x)(hm:X.mg x=none)(hv:bootBuiltins x=some (.builtin id))(ha:PA X (e::es) t)(hn:x≠"__name__":=by decide)(HJ:(x==("__debug__":Str))=false:=by decide)
 (he:zde (e::es) X.env=(false,eval e X.env)::zde es X.env:=by rfl) (AK:(backTo pos (zde es X.env)).any (·.1)=false:=by rfl):PE X (.Call (.Name x p) (e::es) [] pos) (VE r t):=by
 intro pins s σ H Q I h;refine wpAny_Call_Name_kw (sY I hg hm hv ?_ hn HJ);exact PyProof.Rows.callWith_builtin1 (eD (ha pos pins s σ H _ I h) fun us s1 ⟨vs,H1,I1,r1,q1⟩=>hc pins s1 σ H1 vs us Q I1 r1 q1) he AK
theorem jH(hc:qQ X (.type T) r)(hg:Gl X x)(hm:X.mg x=none)(hv:bootBuiltins x=some (.type T))(ha:PA X (e::es) t)(hn:x≠"__name__":=by decide)(HJ:(x==("__debug__":Str))=false:=by decide)
 (he:zde (e::es) X.env=(false,eval e X.env)::zde es X.env:=by rfl) (AK:(backTo pos (zde es X.env)).any (·.1)=false:=by rfl):PE X (.Call (.Name x p) (e::es) [] pos) (VE r t):=by
 intro pins s σ H Q I h;refine wpAny_Call_Name_kw (sY I hg hm hv ?_ hn HJ);exact zbj (eD (ha pos pins s σ H _ I h) fun us s1 ⟨vs,H1,I1,r1,q1⟩=>hc pins s1 σ H1 vs us Q I1 r1 q1) he AK
end
end L2
namespace HT
open PySem PyProof.Rows
section
variable{prog:zdk}{w:zda}{A:zdj}{E:zc9->zdi->Prop}{s:zdi}
theorem Lo{t b:zc8}{vs ws:List zc9}{Q:zc9->zdi->Prop}(ht:IsTup s.heap t vs.toArray)(hb:IsTup s.heap b ws.toArray)(hv:vs≠[])
 (h1:ws=[]->Q (.ref t) s) (h2:ws≠[]->Q (.ref s.heap.objs.size) {s with heap:=s.heap.push {cls:=.type "tuple",data:=.seq (vs++ws).toArray} })
 (hsz:vs.length+ws.length<=zdg):wpAny (model prog w) A (binaryOp .Add (.ref t) (.ref b)) Q E s:=by
 obtain⟨⟨cls,dd,data,sl⟩,ho,hc,n,hd⟩:=id ht;obtain⟨⟨RG,HL,data2,G7⟩,K3,Na,n2,hd2⟩:=id hb;simp only at hc hd Na hd2;subst hc hd Na hd2;have e:vs.toArray++ws.toArray=(vs++ws).toArray:=by simp
 by_cases hw:ws=[]
 ·exact concat_meets ⟨_,ho,rfl⟩ ⟨_,K3,rfl⟩ noFill_tuple_add seq_tuple_add zb7 zb3 (zbZ _ _)
   (tuple_addW1 t b vs.toArray ws.toArray n n2 dd HL sl G7 (by simpa using hv) (by simp[hw])) ⟨ho,K3,h1 hw⟩
 ·refine concat_meets ⟨_,ho,rfl⟩ ⟨_,K3,rfl⟩ noFill_tuple_add seq_tuple_add zb7 zb3 (zbZ _ _)
   (tuple_addW2 t b vs.toArray ws.toArray n n2 dd HL sl G7 (by simpa using hv) (by simpa using hw) (by rw[zas,zas];exact hsz)) ⟨ho,K3,?_⟩
  rw[e];exact h2 hw
noncomputable def A4 (n d:Nat):Option Int->Nat
 |none=>d
 |some v=>if v<0 then (v+(n:Int)).toNat else min v.toNat n
theorem qS(n d:Nat):A4 n d none=d:=rfl
theorem vg(n d k:Nat):A4 n d (some (k:Int))=min k n:=by
 show (if (k:Int)<0 then ((k:Int)+(n:Int)).toNat else min (k:Int).toNat n)=min k n;rw[if_neg (by lia),zbh]
end
end HT
namespace L2
open PySem PySem.Spec PyProof.Rows
noncomputable abbrev TO:=St->Hp->(Option Int->Hp->Prop)->Prop
noncomputable def PO (X:Cx) (e:Option Expr) (t:TO):Prop:=
 ∀(pins:List (zc8×Obj)) (s:zdi) (σ:St) (H:Hp) (Q:Option Int->Hp->Prop),Inv X pins σ H s->t σ H Q->
  wpAny (model X.prog X.w) X.A (evalPart e X.env) (fun u s'=>∃o H',Inv X pins σ H' s'/\IsPart u o/\Q o H') X.xe s
noncomputable def zc:TO:=fun _ H Q=>Q none H
noncomputable def HM (t:TE):TO:=fun σ H Q=>t σ H fun x H1=>∃i,x=.int i/\Q (some i) H1
section
variable{X:Cx}{e:Expr}{te:TE}{lo hi:Option Expr}{tl th:TO}{pos p2:Pos}
theorem vh:PO X none zc:=by
 intro pins s σ H Q I h;rw[evalPart_none];exact zdc ⟨none,H,I,.none,h⟩
theorem vi(h:PE X e te):PO X (some e) (HM te):=by
 intro pins s σ H Q I hw;rw[evalPart_some];refine eD (h pins s σ H _ I hw) fun u s1 zqz=>?_;obtain⟨x,H1,I1,r1,q1⟩:=zqz;obtain⟨i,rfl,q⟩:=q1;obtain⟨t,rfl⟩:=r1;exact⟨some i,H1,I1,.int i t,q⟩
noncomputable def Yu (X:Cx) (r:V->Option Int->Option Int->Hp->VK->Prop):Prop:=
 ∀(pins:List (zc8×Obj)) (s:zdi) (σ:St) (H:Hp) (x:V) (v vl vu:zc9) (lo hi:Option Int) (sl:zc8) (Q:VK),Inv X pins σ H s->RelV x v->s.heap.IsSliceOf sl vl vu .none->IsPart vl lo->IsPart vu hi->r x lo hi H Q->
  ∃T id,typeLookup (.type T) "__getitem__"=pure (some (.builtin id))/\s.TypeIs v T/\wpAny (model X.prog X.w) X.A (getItem v (.ref sl)) (EP X pins σ Q) X.xe s
noncomputable def VF (r:V->Option Int->Option Int->Hp->VK->Prop) (te:TE) (tl th:TO):TE:=fun σ H Q=>te σ H fun x H1=>tl σ H1 fun l H2=>th σ H2 fun u H3=>r x l u H3 Q
theorem qT{r:V->Option Int->Option Int->Hp->VK->Prop}(hr:Yu X r)(he:PE X e te)(hl:PO X lo tl)(hu:PO X hi th):PE X (.Subscript e (.Slice lo hi none p2) pos) (VF r te tl th):=by
 intro pins s σ H Q I h;refine Subscript_ (eD (he pins s σ H _ I h) fun v s1 zqz=>?_);obtain⟨x,H1,I1,r1,q1⟩:=zqz;refine wpAny_Slice (eD (hl pins s1 σ H1 _ I1 q1) fun vl s2 zqz=>?_);obtain⟨l,H2,I2,pl,q2⟩:=zqz;refine eD (hu pins s2 σ H2 _ I2 q2) fun vu s3 zqz=>?_;obtain⟨u,H3,I3,pu,q3⟩:=zqz;rw[evalPart_none];refine zdc ?_;have I4:Inv X pins σ H3 {s3 with heap:=s3.heap.push {cls:=.type "slice",data:=.fields #[vl,vu,.none]} }:=I3.kept (t':=s3.toks) fun b ob q=>Heap.get?_push_of_some _ q;obtain⟨T,id,hT,ht,hg⟩:=hr pins {s3 with heap:=s3.heap.push {cls:=.type "slice",data:=.fields #[vl,vu,.none]} } σ H3 x v vl vu l u s3.heap.objs.size Q I4 r1 (Heap.IsSliceOf.new ..) pl pu q3;show wpAny (model X.prog X.w) X.A (subscriptTail e (.Slice lo hi none p2) v (.ref s3.heap.objs.size)) (EP X pins σ Q) X.xe {s3 with heap:=s3.heap.push {cls:=.type "slice",data:=.fields #[vl,vu,.none]} };exact tail_any (ops:=[.ref s3.heap.objs.size,v]) ht hT hg (by with_unfolding_all rfl)
noncomputable def uQ (xs:List V) (lo hi:Option Int):List V:=(xs.drop (HT.A4 xs.length 0 lo)).take (HT.A4 xs.length xs.length hi-HT.A4 xs.length 0 lo)
theorem A5(xs:List V)(lo hi:Option Int):(uQ xs lo hi).length<=xs.length:=by
 unfold uQ;rw[zcw,zbn];lia
noncomputable def Nb (K:zaa):R2:=fun x y H Q=>∃a b xs ys,x=.ref a/\y=.ref b/\cu K H a xs/\cu K H b ys/\xs≠[]/\xs.length+ys.length<=zdg/\
 (ys=[]->Q (.ref a) H)/\(ys≠[]->∀p,H p=none->Q (.ref p) (upd H p (.tup (xs++ys))))
theorem Vals.bI{xs:List V}{us:List zc9}(r:Vals xs us):us=[]↔xs=[]:=by
 cases r with
 |nil=>simp
 |cons _ _=>simp
theorem qU:qG X (binaryOp .Add) (Nb X.K):=by
 intro pins s σ H x y v u Q I rx ry h;obtain⟨a,b,xs,ys,rfl,rfl,ha,hb,hx,hz,q1,q2⟩:=h;cases rx;cases ry;obtain⟨bj,r1,p1,_⟩:=I.tuple ha;obtain⟨qV,r2,p2,_⟩:=I.tuple hb;refine HT.Lo p1 p2 (fun z=>hx (r1.bI.mp z)) (fun z=>⟨.ref a,H,I,rfl,q1 (r2.bI.mp z)⟩) (fun z=>?_) (by rw[<- r1.length,<- r2.length];exact hz);refine⟨.ref s.heap.objs.size,_,I.laid (t':=s.toks) (o:=.tup (xs++ys)) (fun b ob q=>Heap.get?_push_of_some _ q) (zah _) ?_,rfl,q2 (fun w=>z (r2.bI.mpr w)) _ (I.cL.fresh (zah _))⟩;exact⟨by rw[zal];exact hz,_,r1.append r2,IsTup.new _ _⟩
end
noncomputable def Lp (n:Nat) (i:Int):Option Nat:=if 0<=i then (if i<n then some i.toNat else none) else if -(n:Int)<=i then some (i+n).toNat else none
noncomputable def xo {α:Type} (xs:List α) (i:Int):Option α:=(Lp xs.length i).bind fun j=>xs[j]?
theorem Et{n:Nat}{i:Int}{j:Nat}(h:Lp n i=some j):seqIndex? i n=some j/\j<n/\-(n:Int)<=i/\i<n:=by
 unfold Lp at h;by_cases h0:0<=i
 ·rw[if_pos h0] at h;by_cases h1:i<n
  ·rw[if_pos h1] at h;have e:i.toNat=j:=zaT.inj h;exact⟨by rw[seqIndex_of h0 h1,e],by lia,by lia,h1⟩
  ·rw[if_neg h1] at h;cases h
 ·rw[if_neg h0] at h;by_cases h1 : -(n:Int)<=i
  ·rw[if_pos h1] at h;have e:(i+n).toNat=j:=zaT.inj h;exact⟨by rw[seqIndex_neg (by lia) h1,e],by lia,h1,by lia⟩
  ·rw[if_neg h1] at h;cases h
theorem zd{α:Type}{xs:List α}{i:Int}{v:α}(h:xo xs i=some v):∃j,seqIndex? i xs.length=some j/\xs[j]?=some v/\j<xs.length/\-(xs.length:Int)<=i/\i<xs.length:=by
 unfold xo at h;cases e:Lp xs.length i with
 |none=>rw[e] at h;cases h
 |some j=>
  rw[e] at h;obtain⟨h1,h2,h3,h4⟩:=Et e;exact⟨j,h1,h,h2,h3,h4⟩
theorem ay{α:Type}{xs:List α}{j:Nat}{v:α}(h:xs[j]?=some v):xo xs (j:Int)=some v:=by
 have hj:j<xs.length:=(zam.mp h).1;have e:Lp xs.length (j:Int)=some j:=by
  unfold Lp;rw[if_pos (by lia),if_pos (by lia)];simp
 unfold xo;rw[e];exact h
noncomputable def ox (b:Expr):Prop:=∀o i,subscripted b false o i=operate [o,i] (getItem o i)
noncomputable def QB (X:Cx) (r:R2):Prop:=
 ∀(value slice:Expr) (pins:List (zc8×Obj)) (s:zdi) (σ:St) (H:Hp) (x y:V) (v u:zc9) (Q:VK),Inv X pins σ H s->RelV x v->RelV y u->r x y H Q->
  subscripted slice false v u=operate [v,u] (getItem v u)->wpAny (model X.prog X.w) X.A (subscriptTail value slice v u) (EP X pins σ Q) X.xe s
noncomputable def Yv (X:Cx) (id:String) (r:V->List V->Hp->VK->Prop):Prop:=
 ∀(pins:List (zc8×Obj)) (s:zdi) (σ:St) (H:Hp) (x:V) (xs:List V) (v:zc9) (us:List zc9) (Q:VK),Inv X pins σ H s->RelV x v->Vals xs us->r x xs H Q->
  wpAny (model X.prog X.w) X.A (call (.builtin id) (v::us)) (EP X pins σ Q) X.xe s
section
variable{X:Cx}{a b:Expr}{ta tb:TE}{pos:Pos}
theorem aK{r:R2}(hr:QB X r)(ha:PE X a ta)(hb:PE X b tb)(hs:ox b):PE X (.Subscript a b pos) (Rq r ta tb):=by
 intro pins s σ H Q I h;exact Subscript_ (Ol ha hb I h fun v u s2 x y H2 I2 rx ry q=>hr a b pins s2 σ H2 x y v u Q I2 rx ry q (hs _ _))
noncomputable def FN (K:zaa):R2:=fun x y H Q=>∃p xs i v,x=.ref p/\y=.int i/\gM K H p xs/\xo xs i=some v/\Q v H
noncomputable def HN (K:zaa):R2:=fun x y H Q=>∃p xs i v,x=.ref p/\y=.int i/\cu K H p xs/\xo xs i=some v/\Q v H
noncomputable def VG:R2:=fun x y H Q=>∃z i c,x=.str z/\y=.int i/\z.length<=zdg/\xo z.cps.toList i=some c/\Q (.str ⟨#[c]⟩) H
theorem bJ:QB X (FN X.K):=by
 intro value slice pins s σ H x y v u Q I rx ry h hs;obtain⟨p,xs,i,z,rfl,rfl,hq,he,q⟩:=h;cases rx;obtain⟨t,rfl⟩:=ry;obtain⟨bj,r,pl,hz⟩:=I.list hq;obtain⟨j,h1,h2,h3,h4,h5⟩:=zd he;obtain⟨w,ew,FO⟩:=r.get h2;have hl:=r.length;have hn:=sZ;have fin:EP X pins σ Q w s:=⟨z,H,I,FO,q⟩
 by_cases h0:0<=i
 ·have hj:i.toNat=j:=by
   rw[seqIndex_of h0 h5] at h1;exact zaT.inj h1
  exact item_listR pl.isList h0 (by lia) (by rw[hj];simpa using ew) fin hs
 ·have hj:(i+(bj.toArray.size:Int)).toNat=j:=by
   rw[seqIndex_neg (by lia) h4] at h1;rw[zas,<- hl];exact zaT.inj h1
  exact subscriptTail_builtinR (x:=w) pl.isList.typeIs slot_list_getitem.lookup
   (wpAny_getItem_list_neg (Q:=fun r s'=>r=w/\EP X pins σ Q r s') pl.isList (by lia) (by rw[zas]<;>lia) (by lia) (by rw[hj];simpa using ew) ⟨rfl,fin⟩) hs
theorem aV:QB X (HN X.K):=by
 intro value slice pins s σ H x y v u Q I rx ry h hs;obtain⟨p,xs,i,z,rfl,rfl,hq,he,q⟩:=h;cases rx;obtain⟨t,rfl⟩:=ry;obtain⟨bj,r,pl,hz⟩:=I.tuple hq;obtain⟨j,h1,h2,h3,h4,h5⟩:=zd he;obtain⟨w,ew,FO⟩:=r.get h2;have hl:=r.length;have hn:=sZ;have fin:EP X pins σ Q w s:=⟨z,H,I,FO,q⟩
 exact subscriptTail_builtinR (x:=w) pl.typeIs slot_tuple_getitem.lookup
  (getItem_tuple (j:=j) (Q:=fun r s'=>r=w/\EP X pins σ Q r s') pl (by lia) (by lia) (by rw[zas,<- hl];exact h1) (by simpa using ew) ⟨rfl,fin⟩) hs
theorem CS:QB X VG:=by
 intro value slice pins s σ H x y v u Q I rx ry h hs;obtain⟨z,i,c,rfl,rfl,hz,he,q⟩:=h;obtain⟨t,rfl⟩:=rx;obtain⟨t',rfl⟩:=ry;obtain⟨j,h1,h2,h3,h4,h5⟩:=zd he;have hl:z.cps.toList.length=z.length:=by simp[Str.length]
 rw[hl] at h1 h4 h5;have hn:=sZ;exact tail_any (typeIs_str s z t) slot_str_getitem.lookup (getItem_str (c:=c) (by
  have e1:decide (i < -(2 ^ 63:Int))=false:=decide_eq_false (by lia);have e2:decide (i ≥ 2 ^ 63)=false:=decide_eq_false (by lia);rw[e1,e2,Bool.or_false]) (by rw[h1];simpa using h2) ⟨.str ⟨#[c]⟩,H,I.tok _,⟨_,rfl⟩,q⟩) hs
theorem CT(bj:List zc9)(n j:Nat)(u:zc9):Obj.mapSeq (·.setIfInBounds j u) {cls:=.type "list",data:=.seq bj.toArray n}={cls:=.type "list",data:=.seq (bj.set j u).toArray n}:=by
 simp[Obj.mapSeq]
theorem Inv.lst{pins:List (zc8×Obj)}{σ:St}{H:Hp}{s:zdi}{p:zc8}{xs:List V}(I:Inv X pins σ H s)(h:H p=some (.lst xs)) :
 ∃(bj:List zc9) (n:Nat),Vals xs bj/\s.heap.get? p=some {cls:=.type "list",data:=.seq bj.toArray n}/\xs.length<=zdg:=by
 obtain⟨z,bj,n,r,e⟩:=I.cL p _ h;exact⟨bj,n,r,e,z⟩
theorem Inv.Oz{pins:List (zc8×Obj)}{σ:St}{H:Hp}{s:zdi}{p:zc8}{xs ys:List V}{bj its':List zc9}{n n':Nat}{f:Obj->Obj}(I:Inv X pins σ H s)(h:H p=some (.lst xs))
 (ho:s.heap.get? p=some {cls:=.type "list",data:=.seq bj.toArray n}) (hf:f {cls:=.type "list",data:=.seq bj.toArray n}={cls:=.type "list",data:=.seq its'.toArray n' }) (r:Vals ys its') (hz:ys.length<=zdg) (t:Nat) :
 Inv X pins σ (upd H p (.lst ys)) {s with heap:=s.heap.update p f,toks:=t}:=by
 have e:(s.heap.update p f).get? p=some {cls:=.type "list",data:=.seq its'.toArray n' }:=by
  rw[Heap.get?_update_self f ho (by rw[hf]<;>rfl),hf]
 refine I.write (x:=p) (e:=p) (by rw[h];trivial) (.inl rfl) (fun b u hb q=>(Heap.get?_update_other _ _ (Ne.symm hb)).trans q) ⟨_,e⟩ ?_;exact⟨hz,its',n',r,e⟩
noncomputable def RH:V->V->V->Hp->(Hp->Prop)->Prop:=fun o i v H Q=>∃p xs k j,o=.ref p/\i=.int k/\H p=some (.lst xs)/\Lp xs.length k=some j/\Q (upd H p (.lst (xs.set j v)))
theorem set_list:Rn X RH:=by
 intro pins s σ H o i v ov iv u Q I ro ri rv h;obtain⟨p,xs,k,j,rfl,rfl,hp,hj,q⟩:=h;cases ro;obtain⟨t,rfl⟩:=ri;obtain⟨bj,n,r,ho,hz⟩:=I.lst hp;obtain⟨h1,h2,h3,h4⟩:=Et hj;have hl:=r.length;have hn:=sZ;have I':Inv X pins σ (upd H p (.lst (xs.set j v))) {s with heap:=s.heap.update p (Obj.mapSeq (·.setIfInBounds j u))}:=
  I.Oz hp ho (CT bj n j u) (r.set rv j) (by rw[zcH];exact hz) s.toks
 by_cases h0:0<=k
 ·have hk:k.toNat=j:=by
   rw[seqIndex_of h0 h4] at h1;exact zaT.inj h1
  exact PySem.W.ki_setAt ho h0 (by lia) (by rw[zas,<- hl];exact h4) (by rw[hk];exact⟨_,I',q⟩)
 ·have hk:(k+(bj.toArray.size:Int)).toNat=j:=by
   rw[seqIndex_neg (by lia) h3] at h1;rw[zas,<- hl];exact zaT.inj h1
  exact PySem.W.ki_setBack ho (by lia) (by rw[zas,<- hl];exact h3) (by lia) (by rw[hk];exact⟨_,I',q⟩)
theorem ze(lo hi:Option Int)(n:Nat):(sliceBounds lo hi none n).1=((HT.A4 n 0 lo:Nat):Int)/\(sliceBounds lo hi none n).2.1=((HT.A4 n n hi:Nat):Int)/\(sliceBounds lo hi none n).2.2=1:=by
 refine⟨?_,?_,rfl⟩
 ·cases lo with
  |none=>simp[sliceBounds,HT.A4]
  |some i=>
   simp only[sliceBounds,HT.A4,Option.getD_none,show (1:Int)>0 by decide,if_true];by_cases h:i<0
   ·simp only[h,if_true]<;>lia
   ·simp only[h,if_false]<;>lia
 ·cases hi with
  |none=>simp[sliceBounds,HT.A4]
  |some i=>
   simp only[sliceBounds,HT.A4,Option.getD_none,show (1:Int)>0 by decide,if_true];by_cases h:i<0
   ·simp only[h,if_true]<;>lia
   ·simp only[h,if_false]<;>lia
theorem xu(bj:List zc9)(lo hi:Option Int):slicePick bj.toArray lo hi none=((bj.drop (HT.A4 bj.length 0 lo)).take (HT.A4 bj.length bj.length hi-HT.A4 bj.length 0 lo)).toArray:=by
 obtain⟨h1,h2,h3⟩:=ze lo hi bj.toArray.size;unfold slicePick;rw[h1,h2,h3];simp only[sliceRange_one,pick_run,zas]<;>rfl
noncomputable def VH (K:zaa):V->Option Int->Option Int->Hp->VK->Prop:=fun x lo hi H Q=>∃a xs,x=.ref a/\gM K H a xs/\∀p,H p=none->Q (.ref p) (upd H p (.lst (uQ xs lo hi)))
theorem vj:Yu X (VH X.K):=by
 intro pins s σ H x v vl vu lo hi sl Q I rx hs pl pu h;obtain⟨a,xs,rfl,hx,q⟩:=h;cases rx;obtain⟨bj,r,ht,hz⟩:=I.list hx;have hlen:=r.length;refine⟨"list",_,slot_list_getitem.lookup,ht.isList.typeIs,?_⟩;refine wpAny_getItem_list_slice ht.isList hs pl pu .none (by simp) ?_ (by rw[zas]<;>lia);rw[xu,<- hlen];refine⟨.ref s.heap.objs.size,_,I.laid (t':=s.toks) (o:=.lst (uQ xs lo hi)) (fun b ob q=>Heap.get?_push_of_some _ q) (zah _) ?_,rfl,q _ (I.cL.fresh (zah _))⟩;exact⟨zaA (A5 xs lo hi) hz,_,0,(r.drop (HT.A4 xs.length 0 lo)).take (HT.A4 xs.length xs.length hi-HT.A4 xs.length 0 lo),Heap.get?_push_size _ rfl⟩
noncomputable def uk:V->Bool
 |.b9=>true
 |.bl _=>true
 |.int _=>true
 |.str _=>true
 |_=>false
noncomputable def Nc:V->V->Bool
 |.b9,.b9=>true
 |.bl a,.bl b=>a==b
 |.bl a,.int b=>(if a then 1 else 0)==b
 |.int a,.bl b=>a==(if b then 1 else 0)
 |.int a,.int b=>a==b
 |.str a,.str b=>a==b
 |_,_=>false
theorem OA{A:zdj}{s:zdi}{y x:V}{u v:zc9}(ry:RelV y u)(rx:RelV x v)(fy:uk y=true)(fx:uk x=true):SeqAt.EqAt A s u v (Nc y x):=by
 cases y with
 |b9=>
  cases ry;cases x with
  |b9=>cases rx;exact SeqAt.EqAt.same _
  |bl b=>cases rx;exact SeqAt.EqAt.none_bool b
  |int b=>obtain⟨t,rfl⟩:=rx;exact SeqAt.EqAt.none_int b t
  |str b=>obtain⟨t,rfl⟩:=rx;exact SeqAt.EqAt.none_str b t
  |_=>exact absurd (show false=true from fx) zaf
 |bl a=>
  cases ry;cases x with
  |b9=>cases rx;exact SeqAt.EqAt.bool_none a
  |bl b=>cases rx;exact SeqAt.EqAt.bool_bool a b
  |int b=>obtain⟨t,rfl⟩:=rx;exact SeqAt.EqAt.bool_int a b t
  |str b=>obtain⟨t,rfl⟩:=rx;exact SeqAt.EqAt.bool_str a b t
  |_=>exact absurd (show false=true from fx) zaf
 |int a=>
  obtain⟨t',rfl⟩:=ry;cases x with
  |b9=>cases rx;exact SeqAt.EqAt.int_none a t'
  |bl b=>cases rx;exact SeqAt.EqAt.int_bool a t' b
  |int b=>obtain⟨t,rfl⟩:=rx;exact SeqAt.EqAt.int_int a t' b t
  |str b=>obtain⟨t,rfl⟩:=rx;exact SeqAt.EqAt.int_str a t' b t
  |_=>exact absurd (show false=true from fx) zaf
 |str a=>
  obtain⟨t',rfl⟩:=ry;cases x with
  |b9=>cases rx;exact SeqAt.EqAt.str_none a t'
  |bl b=>cases rx;exact SeqAt.EqAt.str_bool a t' b
  |int b=>obtain⟨t,rfl⟩:=rx;exact SeqAt.EqAt.str_int a t' b t
  |str b=>obtain⟨t,rfl⟩:=rx;exact SeqAt.EqAt.str_str a t' b t
  |_=>exact absurd (show false=true from fx) zaf
 |_=>exact absurd (show false=true from fy) zaf
noncomputable def CU (x:V) (u:zc9):Bool:=match u with
 |.none=>Nc .b9 x
 |.bool b=>Nc (.bl b) x
 |.int i _=>Nc (.int i) x
 |.str z _=>Nc (.str z) x
 |_=>false
theorem HP{x y:V}{u:zc9}(r:RelV y u)(f:uk y=true):CU x u=Nc y x:=by
 cases y with
 |b9=>cases r;rfl
 |bl b=>cases r;rfl
 |int i=>obtain⟨t,rfl⟩:=r;rfl
 |str z=>obtain⟨t,rfl⟩:=r;rfl
 |_=>exact absurd (show false=true from f) zaf
theorem qW{x:V}:∀ {xs:List V} {us:List zc9},Vals xs us->xs.all uk=true->us.any (CU x)=xs.any fun y=>Nc y x
 |_,_,.nil,_=>rfl
 |y::xs,u::us,.cons r t,f=>by
  rw[List.all_cons,zbo] at f;rw[zb8,zb8,HP r f.1,qW t f.2]
theorem mV{A:zdj}{s:zdi}{x:V}{v:zc9}(rx:RelV x v)(fx:uk x=true):∀ {xs:List V} {us:List zc9},Vals xs us->xs.all uk=true->∀u∈us,SeqAt.EqAt A s u v (CU x u)
 |_,_,.nil,_=>fun u hu=>by cases hu
 |y::xs,u::us,.cons r t,f=>fun u' hu=>by
  rw[List.all_cons,zbo] at f;rcases zae.mp hu with rfl |hu
  ·rw[HP r f.1];exact OA r rx f.1 fx
  ·exact mV rx fx t f.2 u' hu
noncomputable def QC (x:V) (xs:List V):Bool:=xs.any fun y=>Nc y x
noncomputable def VI (K:zaa) (neg:Bool):R2:=fun x y H Q=>∃p xs,y=.ref p/\(gM K H p xs\/cu K H p xs)/\uk x=true/\xs.all uk=true/\Q (.bl (if neg then !QC x xs else QC x xs)) H
theorem tm:qG X (compareOp .In) (VI X.K false):=by
 intro pins s σ H x y v u Q I rx ry h;obtain⟨p,xs,rfl,hq,fx,fs,q⟩:=h;cases ry;rcases hq with hq |hq
 ·obtain⟨bj,r,pl,hz⟩:=I.list hq;refine SeqAt.in_listAt (CU x) pl.isList (fun w hw=>mV rx fx r fs w (by simpa using hw)) ⟨.bl _,H,I,rfl,?_⟩;rw[show bj.toArray.any (CU x)=bj.any (CU x) by simp,qW r fs];exact q
 ·obtain⟨bj,r,pl,hz⟩:=I.tuple hq;refine SeqAt.in_tupleAt (CU x) pl (fun w hw=>mV rx fx r fs w (by simpa using hw)) ⟨.bl _,H,I,rfl,?_⟩;rw[show bj.toArray.any (CU x)=bj.any (CU x) by simp,qW r fs];exact q
theorem zf:qG X (compareOp .NotIn) (VI X.K true):=by
 intro pins s σ H x y v u Q I rx ry h;obtain⟨p,xs,rfl,hq,fx,fs,q⟩:=h;cases ry;rcases hq with hq |hq
 ·obtain⟨bj,r,pl,hz⟩:=I.list hq;refine SeqAt.notIn_listAt (CU x) pl.isList (fun w hw=>mV rx fx r fs w (by simpa using hw)) ⟨.bl _,H,I,rfl,?_⟩;rw[show bj.toArray.any (CU x)=bj.any (CU x) by simp,qW r fs];exact q
 ·obtain⟨bj,r,pl,hz⟩:=I.tuple hq;refine SeqAt.notIn_tupleAt (CU x) pl (fun w hw=>mV rx fx r fs w (by simpa using hw)) ⟨.bl _,H,I,rfl,?_⟩;rw[show bj.toArray.any (CU x)=bj.any (CU x) by simp,qW r fs];exact q
theorem aZ:qQ X (.builtin "len") (fun xs H Q=>∃p ys,xs=[.ref p]/\(gM X.K H p ys\/cu X.K H p ys)/\Q (.int ys.length) H):=by
 intro pins s σ H xs us Q I r h;obtain⟨p,ys,rfl,hq,q⟩:=h;obtain⟨u,rfl,rx⟩:=vals1 r;cases rx;have hn:=sZ;rcases hq with hq |hq
 ·obtain⟨bj,r',pl,hz⟩:=I.list hq;have hlen:=r'.length;exact Calls.call_len_list pl.isList (by simp only[zas]<;>lia) ⟨.int ys.length,H,I.tok _,⟨s.toks+1,by rw[zas,hlen]⟩,q⟩
 ·obtain⟨bj,r',pl,hz⟩:=I.tuple hq;have hlen:=r'.length;exact len_tuple pl (by simp only[zas]<;>lia) ⟨.int ys.length,H,I.tok _,⟨s.toks+1,by rw[zas,hlen]⟩,q⟩
theorem zg:qQ X (.type "list") (fun xs H Q=>∃p ys,xs=[.ref p]/\(gM X.K H p ys\/cu X.K H p ys)/\∀l,H l=none->Q (.ref l) (upd H l (.lst ys))):=by
 intro pins s σ H xs us Q I r h;obtain⟨p,ys,rfl,hq,q⟩:=h;obtain⟨u,rfl,rx⟩:=vals1 r;cases rx;have fin:∀(bj:List zc9),Vals ys bj->ys.length<=zdg->∀(h':Heap) (c':Nat),(∀b o',s.heap.get? b=some o'->h'.get? b=some o')->
  h'.get? s.heap.objs.size=some {cls:=.type "list",dict:=none,data:=.seq bj.toArray c',slots:=#[]}->EP X pins σ Q (.ref s.heap.objs.size) {s with heap:=h' }:=fun bj r' hz h' c' kp e=>
  ⟨.ref s.heap.objs.size,_,I.laid (t':=s.toks) kp (zah _) (show eF X.prog X.w _ h' _ (.lst ys) from ⟨hz,bj,c',r',e⟩),rfl,q _ (I.cL.fresh (zah _))⟩
 rcases hq with hq |hq
 ·obtain⟨bj,r',pl,hz⟩:=I.list hq;have hlen:=r'.length;obtain⟨o,ho,hc,n,hd⟩:=pl.isList;exact call_list_seq p (.inl rfl) ho hc hd (fun h' c' kp e=>fin bj r' hz h' c' kp e) (by simp only[zas]<;>lia)
 ·obtain⟨bj,r',pl,hz⟩:=I.tuple hq;have hlen:=r'.length;obtain⟨o,ho,hc,n,hd⟩:=pl;exact call_list_seq p (.inr rfl) ho hc hd (fun h' c' kp e=>fin bj r' hz h' c' kp e) (by simp only[zas]<;>lia)
theorem pd:qQ X (.type "tuple") (fun xs H Q=>∃p ys,xs=[.ref p]/\((gM X.K H p ys/\∀l,H l=none->Q (.ref l) (upd H l (.tup ys)))\/(cu X.K H p ys/\Q (.ref p) H))):=by
 intro pins s σ H xs us Q I r h;obtain⟨p,ys,rfl,h⟩:=h;obtain⟨u,rfl,rx⟩:=vals1 r;cases rx;rcases h with ⟨hq,q⟩ |⟨hq,q⟩
 ·obtain⟨bj,r',pl,hz⟩:=I.list hq;have hlen:=r'.length;refine call_tuple_list pl.isList (fun h' kp=>?_) (by simp only[zas]<;>lia);have I1:Inv X pins σ H {s with heap:=h' }:=I.kept (t':=s.toks) kp;have I2:Inv X pins σ (upd H h'.objs.size (.tup ys)) {s with heap:=h'.push {cls:=.type "tuple",data:=.seq bj.toArray} }:=
   I1.laid (t':=s.toks) (fun b o e=>Heap.get?_push_of_some _ e) (zah _) (show eF X.prog X.w _ _ _ (.tup ys) from ⟨hz,bj,r',IsTup.new _ _⟩)
  exact⟨.ref h'.objs.size,_,I2,rfl,q _ (I1.cL.fresh (zah _))⟩
 ·obtain⟨bj,r',pl,hz⟩:=I.tuple hq;exact call_tuple_same pl ⟨.ref p,H,I,rfl,q⟩
noncomputable def RI (K:zaa) (T:String) (x:V) (H:Hp):Prop:=match x with
 |.str _=>T = "str"
 |.int _=>T = "int"
 |.ref p=>(T = "list"/\∃xs,gM K H p xs)\/(T = "tuple"/\∃o,K.lookup p=some o/\o.cls=.type "tuple"/\o.dict=none)\/
  (T = "dict"/\((∃aC,H p=some (.dK aC))\/∃aC,H p=some (.dT aC)))\/(T = "set"/\∃S n,H p=some (.set S n))
 |_=>False
theorem HQ{pins:List (zc8×Obj)}{σ:St}{H:Hp}{s:zdi}{T:String}{x:V}{v:zc9}(I:Inv X pins σ H s)(r:RelV x v)(ty:RI X.K T x H) :
 s.TypeIs v T/\∀a,v=.ref a->∃ob,s.heap.get? a=some ob/\ob.dict=none:=by
 cases x with
 |str z=>
  obtain⟨t,rfl⟩:=r;cases (show T = "str" from ty);exact⟨typeIs_str s z t,fun _ e=>nomatch e⟩
 |int i=>
  obtain⟨t,rfl⟩:=r;cases (show T = "int" from ty);exact⟨typeIs_int s i t,fun _ e=>nomatch e⟩
 |ref p=>
  cases r;rcases ty with ⟨rfl,xs,hq⟩ |⟨rfl,o,hk,hc,hd⟩ |⟨rfl,hk⟩ |⟨rfl,S,n,hk⟩
  ·obtain⟨bj,_,pl,_⟩:=I.list hq;refine⟨pl.isList.typeIs,fun a e=>?_⟩;cases e;obtain⟨o,n,e,c,hd,_⟩:=pl;exact⟨o,e,hd⟩
  ·refine⟨⟨o,I.CD p o hk,hc⟩,fun a e=>?_⟩;cases e;exact⟨o,I.CD _ o hk,hd⟩
  ·have z:∃o,s.heap.get? p=some o/\o.ExactDict:=by
    rcases hk with ⟨aC,hk⟩ |⟨aC,hk⟩
    ·obtain⟨_,_,_,_,o,_,_,e,ex,_⟩:=I.cL p _ hk;exact⟨o,e,ex⟩
    ·obtain⟨_,_,_,_,o,_,_,e,ex,_⟩:=I.cL p _ hk;exact⟨o,e,ex⟩
   obtain⟨o,e,ex⟩:=z;refine⟨⟨o,e,ex.1⟩,fun a e2=>?_⟩;cases e2;exact⟨o,e,ex.2.1⟩
  ·obtain⟨o,_,_,_,e,ex,_⟩:=I.cL p _ hk;refine⟨⟨o,e,ex.1⟩,fun a e2=>?_⟩;cases e2;exact⟨o,e,ex.2.1⟩
 |_=>exact False.elim ty
noncomputable def OB (K:zaa) (T:String) (r:V->List V->Hp->VK->Prop) (to:TE):TE:=fun σ H Q=>to σ H fun x H1=>RI K T x H1/\r x [] H1 Q
noncomputable def VJ (K:zaa) (T:String) (r:V->List V->Hp->VK->Prop) (to:TE) (t:TA):TE:=fun σ H Q=>to σ H fun x H1=>RI K T x H1/\t σ H1 fun xs H2=>r x xs H2 Q
variable{o e:Expr}{es:List Expr}{to:TE}{t:TA}{name:Str}{apos lB:Pos}{T id:String}{r:V->List V->Hp->VK->Prop}
theorem HR(pa:PlainAttrs T)(slot:Slot T name id)(VL:typeOf (.builtin id)=pure (.type "method_descriptor"))(hm:Yv X id r)(ho:PE X o to)
 (vJ:attributeBase o name X.env (eval o X.env)=eval o X.env:=by rfl) (vK:(apos.endLine==lB.line)=true:=by rfl):PE X (.Call (.Attribute o name apos) [] [] lB) (OB X.K T r to):=by
 intro pins s σ H Q I h;refine wpAny_Call_method0_late vJ vK (eD (ho pins s σ H _ I h) fun v s1 zqz=>?_);obtain⟨x,H1,I1,r1,ty,q1⟩:=zqz;obtain⟨h1,h2⟩:=HQ I1 r1 ty;exact⟨T,id,pa,slot,VL,h1,h2,Calls.callWith_builtin rfl (PySem.evalArgs_none (hm pins s1 σ H1 x [] v [] Q I1 r1 .nil q1))⟩
theorem gh(pa:PlainAttrs T)(slot:Slot T name id)(VL:typeOf (.builtin id)=pure (.type "method_descriptor"))(hm:Yv X id r)(ho:PE X o to)(ha:PA X (e::es) t)
 (vJ:attributeBase o name X.env (eval o X.env)=eval o X.env:=by rfl)
 (OC:((backTo lB (zde (e::es) X.env)).all (fun x=>!x.1)&&(backToKw lB (keywordEach [] X.env)).all (fun x=>x.1.isSome)
  && decide ((e::es).length+([]:List Keyword).length+(if ([]:List Keyword).isEmpty then 0 else 1)<30))=true:=by rfl)
 (vK:(apos.endLine==lB.line)=true:=by rfl) (hs:zde (e::es) X.env=(false,eval e X.env)::zde es X.env:=by rfl) (CV:(backTo lB (zde es X.env)).any (·.1)=false:=by rfl) :
 PE X (.Call (.Attribute o name apos) (e::es) [] lB) (VJ X.K T r to t):=by
 intro pins s σ H Q I h;refine wpAny_Call_method_late vJ OC vK rfl (eD (ho pins s σ H _ I h) fun v s1 zqz=>?_);obtain⟨x,H1,I1,r1,ty,q1⟩:=zqz;obtain⟨h1,h2⟩:=HQ I1 r1 ty;refine⟨T,id,pa,slot,VL,h1,h2,?_⟩;have hA:=ha lB pins s1 σ H1 _ I1 q1;rw[hs] at hA ⊢;refine Calls.callWith_builtin (by show (false ||(backTo lB (zde es X.env)).any (·.1))=false;rw[CV]<;>rfl) (Calls.evalArgs_plain ?_);exact eD hA fun us s2 ⟨vs,H2,I2,r2,q2⟩=>hm pins s2 σ H2 x vs v us Q I2 r1 r2 q2
end
noncomputable def VM (X:Cx) (id:String) (r:V->List V->Hp->VK->Prop):Prop:=
 ∀(pins:List (zc8×Obj)) (s:zdi) (σ:St) (H:Hp) (x:V) (xs:List V) (v:zc9) (us:List zc9) (Q:VK),Inv X pins σ H s->RelV x v->Vals xs us->r x xs H Q->
  wpAny (model X.prog X.w) X.A (call (.builtin id) (v::us)) (EP X pins σ Q) X.xe s
theorem Vals.one:∀ {x:V} {us:List zc9},Vals [x] us->∃u,us=[u]/\RelV x u
 |_,_,.cons r .nil=>⟨_,rfl,r⟩
theorem Vals.zero:∀ {us:List zc9},Vals [] us->us=[]
 |_,.nil=>rfl
theorem Vals.dropLast{xs:List V}{us:List zc9}(h:Vals xs us):Vals xs.dropLast us.dropLast:=by
 induction h with
 |nil=>exact .nil
 |cons r t ih=>
  cases t with
  |nil=>exact .nil
  |cons q t'=>exact .cons r ih
theorem CY{α:Type}(l:List α):l.eraseIdx (l.length-1)=l.dropLast:=by
 induction l with
 |nil=>rfl
 |cons a r ih=>
  cases r with
  |nil=>rfl
  |cons b r=>
   have e:(a::b::r).length-1=((b::r).length-1)+1:=by
    have h1:(a::b::r).length=r.length+2:=rfl;have h2:(b::r).length=r.length+1:=rfl;lia
   rw[e,List.eraseIdx_cons_succ,ih]
   all_goals rfl
section
variable{X:Cx}{pins:List (zc8×Obj)}{σ:St}{H:Hp}{s:zdi}{l b:zc8}{xs ys zs:List V}
theorem Inv.OD{bj its':List zc9}{n:Nat}{f:Array zc9->Array zc9}{t':Nat}(I:Inv X pins σ H s)(hH:H l=some (.lst xs))
 (e:s.heap.get? l=some {cls:=.type "list",data:=.seq bj.toArray n}) (hf:f bj.toArray=its'.toArray) (hv:Vals ys its') (hz:ys.length<=zdg) :
 Inv X pins σ (upd H l (.lst ys)) {s with heap:=s.heap.update l (Obj.mapSeq f),toks:=t' }:=by
 have q:=PySem.IsL.update e f;rw[hf] at q;refine I.write (x:=l) (e:=l) (by rw[hH];exact trivial) (.inl rfl) (fun b' u hb hu=>(Heap.get?_update_other s.heap (Obj.mapSeq f) (Ne.symm hb)).trans hu) ⟨_,q⟩ ?_;exact⟨hz,its',_,hv,q⟩
theorem Inv.VN{bj:List zc9}{t':Nat}(I:Inv X pins σ H s)(hv:Vals ys bj)(hz:ys.length<=zdg) :
 Inv X pins σ (upd H s.heap.objs.size (.lst ys)) {s with heap:=s.heap.push {cls:=.type "list",data:=.seq bj.toArray},toks:=t' }:=
 I.laid (fun _ _ q=>Heap.get?_push_of_some _ q) (zah _) ⟨hz,bj,0,hv,Heap.get?_push_size _ rfl⟩
theorem Inv.fresh(I:Inv X pins σ H s):H s.heap.objs.size=none:=I.cL.fresh (zah _)
theorem Inv.FP(I:Inv X pins σ H s)(hH:H l=some (.lst xs)):xs.length<=zdg/\∃(bj:List zc9) (n:Nat),Vals xs bj/\xs.length=bj.length/\s.heap.get? l=some {cls:=.type "list",data:=.seq bj.toArray n}:=by
 obtain⟨z,bj,n,r,e⟩:=I.cL l _ hH;exact⟨z,bj,n,r,r.length,e⟩
theorem HS{n:Nat}(h:n<=zdg):Builtin.List.listTooLong n=false:=by
 unfold Builtin.List.listTooLong;exact decide_eq_false (by lia)
end
section
variable{X:Cx}
noncomputable def zh:V->List V->Hp->VK->Prop:=fun x vs H Q=>∃l xs y,x=.ref l/\vs=[y]/\H l=some (.lst xs)/\xs.length<zdg/\Q .b9 (upd H l (.lst (xs++[y])))
theorem bQ:VM X "list.append" zh:=by
 intro pins s σ H x vs v us Q I rx rv h;obtain⟨l,xs,y,rfl,rfl,hH,hz,q⟩:=h;cases rx;obtain⟨u,rfl,ru⟩:=rv.one;obtain⟨z,bj,n,r,hl,e⟩:=I.FP hH;refine call_meets F.slot_list_append ⟨_,e,rfl⟩ F.entry_list_append (F.args_list_append_2 _ _) (PySem.list_append l bj.toArray n u (by rw[zas];lia)) ⟨e,?_⟩;refine⟨.b9,_,I.OD (its':=bj++[u]) hH e (by simp) (r.append (.cons ru .nil)) ?_,rfl,q⟩;rw[zal,zaG];lia
noncomputable def Lq:V->List V->Hp->VK->Prop:=fun x vs H Q=>∃l b xs zs,x=.ref l/\vs=[.ref b]/\H l=some (.lst xs)/\H b=some (.lst zs)/\xs.length+zs.length<=zdg/\Q .b9 (upd H l (.lst (xs++zs)))
theorem tq:VM X "list.extend" Lq:=by
 intro pins s σ H x vs v us Q I rx rv h;obtain⟨l,b,xs,zs,rfl,rfl,hH,hB,hz,q⟩:=h;cases rx;obtain⟨u,rfl,ru⟩:=rv.one;cases ru;obtain⟨z,bj,n,r,hl,e⟩:=I.FP hH;obtain⟨z2,qV,n2,r2,G8,e2⟩:=I.FP hB;have hsz:bj.toArray.size+qV.toArray.size<=zdg:=by rw[zas,zas];lia
 have RJ:¬(!bj.toArray.isEmpty&&Builtin.List.listTooLong (bj.toArray.size+qV.toArray.size))=true:=by
  rw[HS hsz,Bool.and_false];exact zaf
 refine call_meets F.slot_list_extend ⟨_,e,rfl⟩ F.entry_list_extend (F.args_list_extend_2 _ _)
  (AutoSeq1.list_extend_list_list_0 l bj.toArray n b qV.toArray n2 RJ (by rw[zas];lia) (by lia)) ⟨e,e2,?_⟩
 refine⟨.b9,_,I.OD (its':=bj++qV) hH e (by simp) (r.append r2) ?_,rfl,q⟩;rw[zal];lia
noncomputable def VO:V->List V->Hp->VK->Prop:=fun x vs H Q=>∃l xs y,x=.ref l/\vs=[]/\H l=some (.lst xs)/\xs[xs.length-1]?=some y/\Q y (upd H l (.lst xs.dropLast))
theorem HU:VM X "list.pop" VO:=by
 intro pins s σ H x vs v us Q I rx rv h;obtain⟨l,xs,y,rfl,rfl,hH,hy,q⟩:=h;cases rx;have hus:=rv.zero;subst hus;obtain⟨z,bj,n,r,hl,e⟩:=I.FP hH;obtain⟨u,hu,ru⟩:=r.get hy;have OE:bj.toArray[bj.toArray.size-1]?=some u:=by
  show bj.toArray[bj.length-1]?=some u;rw[<- zbe,<- hl];exact hu
 refine call_meets F.slot_list_pop ⟨_,e,rfl⟩ F.entry_list_pop (F.args_list_pop_1 _) (MeetsSeq.list_pop_last l bj.toArray n u OE (by rw[zas];lia)) ⟨e,?_⟩;refine⟨y,_,I.OD (its':=bj.dropLast) hH e ?_ r.dropLast ?_,ru,q⟩
 ·show bj.toArray.eraseIdxIfInBounds (bj.toArray.size-1)=bj.dropLast.toArray;rw[zas,List.eraseIdxIfInBounds_toArray,CY]
 ·rw[List.length_dropLast];lia
noncomputable def RK:R2:=fun x y H Q=>∃l b xs zs,x=.ref l/\y=.ref b/\H l=some (.lst xs)/\H b=some (.lst zs)/\xs.length+zs.length<=zdg/\∀p,H p=none->Q (.ref p) (upd H p (.lst (xs++zs)))
theorem HV:qG X (binaryOp .Add) RK:=by
 intro pins s σ H x y v u Q I rx ry h;obtain⟨l,b,xs,zs,rfl,rfl,hH,hB,hz,q⟩:=h;cases rx;cases ry;obtain⟨z,bj,n,r,hl,e⟩:=I.FP hH;obtain⟨z2,qV,n2,r2,G8,e2⟩:=I.FP hB;refine PySem.P.add_list e e2 ?_ (by rw[zas,zas];lia);have ea:bj.toArray++qV.toArray=(bj++qV).toArray:=by simp
 rw[ea];exact⟨.ref _,_,I.VN (t':=s.toks) (r.append r2) (by rw[zal];lia),rfl,q _ I.fresh⟩
end
end L2
namespace Yw
open PySem PySem.W PySem.Calls PyProof.Rows
theorem uR{P:Params}{h:Heap}:∀(ns:List Int) (vs:List zc9),WellAll P h vs (ns.map WData.int)->IntsAre vs ns:=by
 intro ns
 induction ns with
 |nil=>
  intro vs w;rw[zbl] at w;cases w;exact .nil
 |cons n ns ih=>
  intro vs w;rw[zaq] at w;cases w with
  |cons a b=>
   cases a;exact .cons _ _ (ih _ b)
theorem FQ{l:OpenLaw}{n:Nat}(hn:l.most=some n){P:Params}{h:Heap}{args:List WData}{vals:List zc9}
 (Lr:l.row.toRowW.claim.pre args=true) (VP:WellAll P h vals args) :
 ∃a vs ns,vals=[Value.ref a]/\args=[WData.list (ns.map WData.int)]/\h.get? a=some {cls:=.type "list",data:=.seq vs.toArray}/\IntsAre vs ns/\ns.length<=n:=by
 have hsh:WShape.hasAll [] args [.list .int]=true:=(pre_splitW Lr).1;have hc:l.pre.holds [] {args:=args}=true:=(pre_splitW Lr).2;obtain⟨d,r,rfl,h1,h2⟩:=hasAllW_cons hsh;obtain rfl:=hasAllW_nil h2;obtain⟨xs,rfl,h3⟩:=hasW_list h1;obtain⟨ns,rfl⟩:=items_int h3;have hlen:ns.length<=n:=by
  unfold OpenLaw.pre at hc;have h4:(WTm.not (.lt (.lit (.int (n:Int))) (.len (.arg 0)))).holds [] {args:=[.list (ns.map .int)]}=true:=by
   have h4:=(holds_andW hc).1;rw[hn] at h4;exact h4
  have h5:=condW_of h4 (w_not (w_lt w_lit (w_len_list (w_arg rfl))));rw[zad] at h5;refine Nat.le_of_not_lt fun q=>?_;have q':(n:Int)<((ns.length:Nat):Int):=by lia
  first
   |(rw[decide_eq_true q'] at h5;exact absurd h5 (by decide))
   |(simp at h5;lia)
 cases VP with
 |cons w1 w2=>
  cases w2;cases w1 with
  |list ho VQ=>exact⟨_,_,ns,rfl,rfl,ho,uR ns _ VQ,hlen⟩
theorem FR(l:OpenLaw)(args:List WData):l.row.toRowW.claim.post args (.bool true) args=true:=
 postW_of (r:=l.row.toRowW) (X:=(true==true))
  (show WShape.has [] (.bool true) .bool=true by first |rfl |decide |simp[WShape.has,WShape.arms,WShape.armsAll])
  (show (WTm.eq .res (.lit (.bool true))).value [] {args:=args,res:=some (.bool true),after:=args}=some (.bool (true==true)) from w_eq_bool (w_res rfl) w_lit) rfl
theorem A6{l:OpenLaw}{n:Nat}{q:zdk}{loose:List Str}{XP:(Str->Option zc9)->Heap->Prop}{YP:zda->Heap->Prop}{d:DefRec}
 (hn:l.most=some n) (RL:d.params.defaults=[])
 (call:∀(w:zda) (s₀ s₁:zdi) (mg mb:Str->Option zc9) (fa:zc8) (o:Obj) (pm cd doc:zc9) (a:zc8) (vs:List zc9) (ns:List Int),
  Ground q loose [] XP w s₀ mg mb s₁.heap->YP w s₁.heap->
  s₁.heap.get? fa=some o->o.data=.func (docDef d.name d.params d.body d.scope pm cd doc)->s₁.heap.CodeRec cd d.name->mg d.name=some (.ref fa)->
  s₁.heap.get? a=some {cls:=.type "list",data:=.seq vs.toArray}->IntsAre vs ns->ns.length<=n->s₁.gens = #[]->
  codeAny (model l.prog w) callerA (.call (.ref fa) ⟨[.ref a],[]⟩) (fun r s'=>r=.ok (.ret (.bool true))/\OldK s₁.heap s'.heap/\s'.os=s₁.os/\AllBare s'.gens) s₁) :
 WalkO q loose XP YP l.row.toRowW d [] (fun f vs=>PySem.call f vs):=by
 intro w s₀ s₁ mg mb G Y fa o pm cd doc dV kV ho hd CH hD OF hg args vals as Lr aan hrd VP hlo;obtain rfl:dV=.none:=Dflts.none hD RL;obtain rfl:kV=.none:=Dflts.noKw hD;obtain⟨a,vs,ns,rfl,rfl,OG,hints,hlen⟩:=FQ hn Lr VP;refine enter_call (codeAny_mono (call w s₀ s₁ mg mb fa o pm cd doc a vs ns G Y ho (fd_plain hd) CH OF OG hints hlen hg) fun r s' hq=>?_);obtain⟨rfl,h2,h3,h4⟩:=hq;exact⟨.inl ⟨.bool true,.bool true,[],rfl,fun _=>rfl,.bool true,FR l _,fun _=>⟨List.Pairwise.nil,fun _ hm=>(nomatch hm)⟩⟩,h2,h3,h4⟩
end Yw
namespace L2
open PySem PySem.Spec PyProof.Rows
theorem yc:∀ {vs:List zc9} {ns:List Int},IntsAre vs ns->Vals (ns.map V.int) vs
 |_,_,.nil=>.nil
 |_,_,.cons n t h=>.cons ⟨t,rfl⟩ (yc h)
noncomputable def inClass (s:Stmt) (j:Nat):Stmt:=match s with
 |.ClassDef _ _ _ body _ _ _ _ _ _ _=>body.getD j (.Pass ⟨0,0,0,0⟩)
 |_=>.Pass ⟨0,0,0,0⟩
noncomputable def dM (s:Stmt):Arguments:=match s with
 |.FunctionDef _ a _ _ _ _ _ _ _ _=>a
 |_=>{posonlyargs:=[],args:=[],vararg:=none,kwonlyargs:=[],kw_defaults:=[],kwarg:=none,defaults:=[]}
noncomputable def cJ (s:Stmt):List Stmt:=match s with
 |.FunctionDef _ _ b _ _ _ _ _ _ _=>b
 |_=>[]
noncomputable def az (s:Stmt):Scope:=match s with
 |.FunctionDef _ _ _ _ _ _ sc _ _ _=>sc
 |_=>{kind:=.function,names:=[],isGenerator:=false,isCoroutine:=false}
noncomputable abbrev de:AJ:=fun _ _ _ _ _ _=>False
noncomputable abbrev E0:XK:=fun _ _ _=>False
theorem pj{X:Cx}:Passes de X E0:=fun _ _ _ _ _ _ _ h=>h.elim
structure Cq(K:zaa)(x qual:Str)(st:Stmt)(f:zc8)(fd:zdh):Prop where
 ex:∃(oc:zc9) (od:Option zc8) (kV doc pm:zc9) (an:Option zc8) (dY ct:zc9) (Es:Array (Option zc9)),
  fd=zaM x qual (dM st) (cJ st) (az st) .none kV doc pm an dY ct/\K.lookup f=some ⟨oc,od,.func fd,Es⟩/\zbq K dY qual=true
 kp:zaO K (.ref f)=true
section
variable{P:zdk}{w:zda}{K:zaa}{mg:Str->Option zc9}{base:Heap}
theorem Cq.ok{x qual:Str}{st:Stmt}{f:zc8}{fd:zdh}{N ps:List Str}{k:Nat}{sp:Sp}(F:Cq K x qual st f fd)(S:aX N ps (az st))(len:∀vs H Q E,sp vs H Q E->vs.length=ps.length)
 (qR:∀(dY:zc9) (A:zdj) (outer:List Env) (s:zdi) (H:Hp) (vs:List V) (Q:VK) (E:XK),gg k (A.deeper (envOfC qual (az st) s.heap.objs.size f dY))->sp vs H Q E->
  ∃t,CG (lA de P w K mg base N qual (az st) f dY A outer s H E).CI (cJ st) t/\t {nx:=fun _ H'=>Q .b9 H',rt:=Q} (start N vs) H):bz P w K mg base de (k+1) f fd ps sp:=by
 obtain⟨oc,od,kV,doc,pm,an,dY,ct,Es,rfl,lk,CH⟩:=F.ex;refine M9 lk CH S len fun A outer s H vs Q E hr K2=>?_;obtain⟨t,h,q⟩:=qR dY A outer s H vs Q E hr K2;exact⟨t,h.CI,q⟩
theorem Cq.binds{x qual:Str}{st:Stmt}{f:zc8}{fd:zdh}{ps:List Str}(F:Cq K x qual st f fd)
 (h:∀(kV doc pm:zc9) (an:Option zc8) (dY ct:zc9) (us:List zc9),us.length=ps.length->bindArgs (zaM x qual (dM st) (cJ st) (az st) .none kV doc pm an dY ct) ⟨us,[]⟩=pure (ps.zip us)):Binds K fd ps []:=by
 obtain⟨oc,od,kV,doc,pm,an,dY,ct,Es,rfl,lk,CH⟩:=F.ex;exact .all (h kV doc pm an dY ct)
theorem tw{x qual:Str}{st:Stmt}{f:zc8}{oc:zc9}{od an:Option zc8}{Es:Array (Option zc9)}{kV doc pm dY ct:zc9}(l:K.lookup f=some ⟨oc,od,.func (zaM x qual (dM st) (cJ st) (az st) .none kV doc pm an dY ct),Es⟩)
 (c:zbq K dY qual=true) (k:zaO K (.ref f)=true):Cq K x qual st f (zaM x qual (dM st) (cJ st) (az st) .none kV doc pm an dY ct):=⟨⟨oc,od,kV,doc,pm,an,dY,ct,Es,rfl,l,c⟩,k⟩
end
theorem ip{A:zdj}{k:Nat}(hr:gg k A):A.units+1<cLine:=za4 (Nat.add_le_add_left (by decide:1<=64) _) hr.units
theorem FT{n:Nat}(h:n<=1000):n<zdg:=za4 h (by decide)
section
variable{X:Cx}
theorem pv(i:Nat){x:Str}{pos:Pos}(hN:X.N[i]?=some x:=by rfl)(hv:Rc X.env.scope x:=by first |exact zbz rfl |exact Or.inr (zbz rfl) |exact Or.inr (Or.inr rfl))(hd:(x==("__debug__":Str))=false:=by decide)
 (CH:(x==("__classdict__":Str))=false:=by decide):PE X (.Name x pos) (eW i):=N9 hN hv hd CH
end
theorem cA{c A B:Prop}[Decidable c](h1:c->A)(h2:¬c->B):if c then A else B:=by
 by_cases h:c
 ·rw[if_pos h];exact h1 h
 ·rw[if_neg h];exact h2 h
noncomputable def au (H H':Hp):Prop:=∀b o,H b=some o->H' b=some o
theorem au.refl(H:Hp):au H H:=fun _ _ h=>h
theorem au.trans{H H1 H2:Hp}(a:au H H1)(b:au H1 H2):au H H2:=fun c o h=>b c o (a c o h)
theorem au.free{H H':Hp}(e:au H H'){l:zc8}(h:H' l=Option.none):H l=Option.none:=by
 cases q:H l with
 |none=>rfl
 |some o=>
  rw[e l o q] at h;cases h
theorem au.seq{K:zaa}{H H':Hp}{a:zc8}{xs:List V}(e:au H H')(h:gM K H a xs):gM K H' a xs:=by
 rcases h with (h |⟨o,h⟩) |h
 ·exact .inl (.inl (e _ _ h))
 ·exact .inl (.inr ⟨o,e _ _ h⟩)
 ·exact .inr h
section
variable{κ:Type}[DecidableEq κ]
noncomputable def b8 (aC:List (κ×V)) (k:κ):Option V:=(aC.find? fun kv=>decide (kv.1=k)).map (·.2)
noncomputable def putK (aC:List (κ×V)) (k:κ) (v:V):List (κ×V):=
 if (aC.any fun kv=>decide (kv.1=k))=true then aC.map (fun kv=>if kv.1=k then (kv.1,v) else kv) else aC++[(k,v)]
theorem cD{p:κ×V}{r:List (κ×V)}{k:κ}(e:p.1=k):b8 (p::r) k=some p.2:=by simp[b8,zbK,e]
theorem cE{p:κ×V}{r:List (κ×V)}{k:κ}(e:¬p.1=k):b8 (p::r) k=b8 r k:=by simp[b8,zbK,e]
theorem jM(k:κ):∀aC:List (κ×V),(aC.any fun kv=>decide (kv.1=k))=(b8 aC k).isSome
 |[]=>rfl
 |p::r=>by
  rw[zb8];by_cases e:p.1=k
  ·simp only[cD e,decide_eq_true e,Bool.true_or,Option.isSome_some]
  ·rw[cE e,decide_eq_false e,Bool.false_or];exact jM k r
theorem A7(k j:κ)(y:V):∀aC:List (κ×V),b8 (aC.map fun kv=>if kv.1=k then (kv.1,y) else kv) j=(b8 aC j).map fun x=>if j=k then y else x
 |[]=>rfl
 |p::r=>by
  have ih:=A7 k j y r;rw[zaq];by_cases h:p.1=k
  ·rw[if_pos h];by_cases e:p.1=j
   ·rw[cD (p:=(p.1,y)) e,cD e,zbi,if_pos (e.symm.trans h)]
   ·rw[cE (p:=(p.1,y)) e,cE e,ih]
  ·rw[if_neg h];by_cases e:p.1=j
   ·rw[cD (p:=p) e,cD e,zbi,if_neg (fun z=>h (e.trans z))]
   ·rw[cE (p:=p) e,cE e,ih]
theorem yd(k j:κ)(y:V):∀aC:List (κ×V),b8 aC k=none->b8 (aC++[(k,y)]) j=if j=k then some y else b8 aC j
 |[],_=>by
  by_cases e:k=j
  ·rw[if_pos e.symm];exact cD (p:=(k,y)) e
  ·rw[if_neg (fun z=>e z.symm)];exact cE (p:=(k,y)) e
 |p::r,hn=>by
  rw[zaN];have hk:¬p.1=k:=fun z=>by rw[cD z] at hn;cases hn
  rw[cE hk] at hn;have ih:=yd k j y r hn;by_cases e:p.1=j
  ·rw[cD e,cD e,if_neg (fun z=>hk (e.trans z))]
  ·rw[cE e,cE e,ih]
theorem vL(aC:List (κ×V))(k j:κ)(y:V):b8 (putK aC k y) j=if j=k then some y else b8 aC j:=by
 unfold putK;by_cases a:(aC.any fun kv=>decide (kv.1=k))=true
 ·rw[if_pos a,A7];rw[jM] at a;by_cases e:j=k
  ·obtain⟨x,hx⟩:=zcv.mp a;rw[if_pos e,e,hx,zbi,if_pos rfl]
  ·rw[if_neg e];cases b8 aC j with
   |none=>rfl
   |some x=>rw[zbi,if_neg e]
 ·rw[if_neg a];refine yd k j y aC ?_;rw[jM] at a;cases q:b8 aC k with
  |none=>rfl
  |some x=>rw[q] at a;exact(a rfl).elim
theorem fc(aC:List (κ×V))(k:κ)(v:V):(putK aC k v).length<=aC.length+1:=by
 unfold putK;split
 ·rw[zad];lia
 ·rw[zal,zaj,za1];lia
theorem mK.oy{o:Option V}{u:Option zc9}(r:mK o u):o.isSome=u.isSome:=by
 cases o with
 |none=>cases u with
  |none=>rfl
  |some _=>exact(show False from r).elim
 |some _=>cases u with
  |none=>exact(show False from r).elim
  |some _=>rfl
theorem KV.val{aC:List (κ×V)}{vs:List (κ×zc9)}(r:KV aC vs)(k:κ):mK (b8 aC k) (valueAt vs k):=by
 unfold KV at r
 induction r with
 |nil=>exact True.intro
 |@cons p q ps qs h t ih=>
  obtain⟨h1,h2⟩:=h;by_cases e:p.1=k
  ·have e':q.1=k:=h1.symm.trans e;have b:valueAt (q::qs) k=some q.2:=by simp[valueAt,zbK,e']
   rw[cD e,b];exact h2
  ·have e':¬q.1=k:=fun z=>e (h1.trans z);have b:valueAt (q::qs) k=valueAt qs k:=by simp[valueAt,zbK,e']
   rw[cE e,b];exact ih
theorem KV.any{aC:List (κ×V)}{vs:List (κ×zc9)}(r:KV aC vs)(k:κ):(aC.any fun kv=>decide (kv.1=k))=vs.any fun kv=>decide (kv.1=k):=by
 unfold KV at r
 induction r with
 |nil=>rfl
 |cons h t ih=>rw[zb8,zb8,ih,h.1]
theorem KV.OH{aC:List (κ×V)}{vs:List (κ×zc9)}(r:KV aC vs)(k:κ){y:V}{u:zc9}(ry:RelV y u) :
 KV (aC.map fun kv=>if kv.1=k then (kv.1,y) else kv) (vs.map fun kv=>if kv.1=k then (kv.1,u) else kv):=by
 unfold KV at r ⊢
 induction r with
 |nil=>exact .nil
 |@cons p q ps qs h t ih=>
  rw[zaq,zaq];refine .cons ?_ ih;obtain⟨h1,h2⟩:=h;by_cases e:p.1=k
  ·rw[if_pos e,if_pos (h1.symm.trans e)];exact⟨h1,ry⟩
  ·rw[if_neg e,if_neg (fun z=>e (h1.trans z))];exact⟨h1,h2⟩
theorem KV.put{aC:List (κ×V)}{vs:List (κ×zc9)}(r:KV aC vs)(k:κ){y:V}{u:zc9}(ry:RelV y u):KV (putK aC k y) (stored vs k u):=by
 unfold putK stored;rw[r.any k];by_cases e:(vs.any fun kv=>decide (kv.1=k))=true
 ·rw[if_pos e,if_pos e];exact r.OH k ry
 ·rw[if_neg e,if_neg e];exact Paired.snoc r ⟨rfl,ry⟩
theorem KV.length{aC:List (κ×V)}{vs:List (κ×zc9)}(r:KV aC vs):aC.length=vs.length:=Paired.length r
end
theorem ye{P:zdk}{w:zda}{k:Key}{u:zc9}(r:RelV (kV k) u):(bO P w).is k u=true:=by
 cases k with
 |inl i=>obtain⟨t,e⟩:=(show ∃t,u=Value.int i t from r);subst e;exact AQ P w i t
 |inr x=>obtain⟨t,e⟩:=(show ∃t,u=Value.str x t from r);subst e;exact AR P w x t
theorem tD{P:zdk}{w:zda}:∀ {ks:List Key} {us:List zc9},Vals (ks.map kV) us->ItemsAre (bO P w) ks us
 |[],_,r=>by rw[zbl] at r;cases r;exact .nil
 |k::ks,_,r=>by
  rw[zaq] at r;cases r with
  |cons h t=>exact .cons (ye h) (tD t)
noncomputable abbrev KT (H:Hp):List (List Key×V)->List (List Key×zc8×zc9)->Prop:=Paired fun p q=>p.1=q.1/\H q.2.1=some (.tup (p.1.map kV))/\RelV p.2 q.2.2
theorem KT.val{H:Hp}{aC:List (List Key×V)}{xs:List (List Key×zc8×zc9)}(r:KT H aC xs)(k:List Key):mK (b8 aC k) ((atKey xs k).map (·.2)):=by
 induction r with
 |nil=>exact True.intro
 |@cons p q ps qs h t ih=>
  obtain⟨h1,_,h2⟩:=h;by_cases e:p.1=k
  ·have e':q.1=k:=h1.symm.trans e;have b:atKey (q::qs) k=some q.2:=by simp[atKey,zbK,e']
   rw[cD e,b];exact h2
  ·have e':¬q.1=k:=fun z=>e (h1.trans z);have b:atKey (q::qs) k=atKey qs k:=by simp[atKey,zbK,e']
   rw[cE e,b];exact ih
theorem KT.OH{H:Hp}{aC:List (List Key×V)}{xs:List (List Key×zc8×zc9)}(r:KT H aC xs)(k:List Key){y:V}{u:zc9}(ry:RelV y u) :
 KT H (aC.map fun kv=>if kv.1=k then (kv.1,y) else kv) (xs.map (putAt k u)):=by
 induction r with
 |nil=>exact .nil
 |@cons p q ps qs h t ih=>
  rw[zaq,zaq];refine .cons ?_ ih;obtain⟨h1,h2,h3⟩:=h;unfold putAt;by_cases e:p.1=k
  ·rw[if_pos e,if_pos (h1.symm.trans e)];exact⟨h1,h2,ry⟩
  ·rw[if_neg e,if_neg (fun z=>e (h1.trans z))];exact⟨h1,h2,h3⟩
theorem KT.put{H:Hp}{aC:List (List Key×V)}{xs:List (List Key×zc8×zc9)}(r:KT H aC xs)(k:List Key){b:zc8}{y:V}{u:zc9}(hb:H b=some (.tup (k.map kV)))(ry:RelV y u) :
 KT H (putK aC k y) (storedH xs k b u):=by
 have e:(aC.any fun kv=>decide (kv.1=k))=(atKey xs k).isSome:=by
  rw[jM,(r.val k).oy,zb4]
 unfold putK storedH;rw[e];by_cases q:(atKey xs k).isSome=true
 ·rw[if_pos q,if_pos q];exact r.OH k ry
 ·rw[if_neg q,if_neg q];exact Paired.snoc r ⟨rfl,hb,ry⟩
theorem KT.keeps{H H':Hp}{aC:List (List Key×V)}{xs:List (List Key×zc8×zc9)}(r:KT H aC xs)(ht:∀b ys,H b=some (.tup ys)->H' b=some (.tup ys)):KT H' aC xs:=
 Paired.AS r fun _ _ z=>⟨z.1,ht _ _ z.2.1,z.2.2⟩
section
variable{P:zdk}{w:zda}{H:Hp}{h:Heap}{a:zc8}
theorem Nd{u:HO}(ok:my P w H h)(e:Rd H a u):eF P w H h a u:=e.ok ok
theorem HW{aC:List (Key×V)}(ok:my P w H h)(e:Rd H a (.dK aC)):aC.length<=zdg/\(a==sysModules)=false/\∃vs,KV aC vs/\h.DictOf (bO P w) a vs:=
 show eF P w H h a (.dK aC) from Nd ok e
theorem RM{aC:List (Key×V)}(ok:my P w H h)(e:H a=some (.dK aC)):aC.length<=zdg/\(a==sysModules)=false/\∃vs,KV aC vs/\h.DictOf (bO P w) a vs:=HW ok (.inl e)
theorem CZ{ks:List Key}(ok:my P w H h)(e:H a=some (.tup (ks.map kV))):(tupleKind (bO P w)).is h ks a:=by
 obtain⟨_,bj,r,o,h1,h2,n,h3⟩:=(show eF P w H h a (.tup (ks.map kV)) from ok a _ e)
 exact⟨o,bj.toArray,n,h1,h2,h3,by simpa using tD r⟩
theorem HX{aC:List (List Key×V)}(ok:my P w H h)(e:Rd H a (.dT aC)):aC.length<=zdg/\(a==sysModules)=false/\
 ∃xs,KT H aC xs/\h.DictOfH (tupleKind (bO P w)) a xs:=by
 obtain⟨z,y,xs,r,o,es,ep,h1,h2,h3,h4,h5⟩:=(show eF P w H h a (.dT aC) from Nd ok e)
 refine⟨z,y,xs,r,o,es,ep,h1,h2,h3,h4,fun x hx=>?_,h5⟩;have all:∀ {l:List (List Key×V)} {m:List (List Key×zc8×zc9)},KT H l m->∀x∈m,(tupleKind (bO P w)).is h x.1 x.2.1:=by
  intro l m q
  induction q with
  |nil=>intro x hx;exact nomatch hx
  |@cons p q ps qs hq t ih=>
   intro x hx;rcases zae.mp hx with e |hx
   ·subst e;exact CZ ok (by rw[<- hq.1];exact hq.2.1)
   ·exact ih x hx
 exact all r x hx
theorem RN{aC:List (List Key×V)}(ok:my P w H h)(e:H a=some (.dT aC)):aC.length<=zdg/\(a==sysModules)=false/\
 ∃xs,KT H aC xs/\h.DictOfH (tupleKind (bO P w)) a xs:=HX ok (.inl e)
end
noncomputable def uT (H:Hp) (a:zc8) (y:V) (r:Option V):Prop:=
 (∃aC k,Rd H a (.dK aC)/\y=kV k/\r=b8 aC k)\/∃aC k b,Rd H a (.dT aC)/\y=.ref b/\H b=some (.tup (k.map kV))/\r=b8 aC k
noncomputable def OI (H:Hp) (a:zc8) (y v:V) (H':Hp):Prop:=
 (∃aC k,H a=some (.dK aC)/\y=kV k/\aC.length<zdg/\H'=upd H a (.dK (putK aC k v)))\/
 ∃aC k b,H a=some (.dT aC)/\y=.ref b/\H b=some (.tup (k.map kV))/\aC.length<zdg/\H'=upd H a (.dT (putK aC k v))
theorem uT.k{H:Hp}{a:zc8}{aC:List (Key×V)}{k:Key}(e:H a=some (.dK aC)):uT H a (kV k) (b8 aC k):=.inl ⟨aC,k,.inl e,rfl,rfl⟩
section
variable{X:Cx}{pins:List (zc8×Obj)}{σ:St}{H:Hp}{s:zdi}{a:zc8}{y v:V}{u r:zc9}{o:Option V}{A:zdj}{E:zc9->zdi->Prop}
theorem Inv.big(I:Inv X pins σ H s):sysModules<s.heap.objs.size:=by
 have h:zdf<s.heap.objs.size:=(I.mod.glob.keeps I.bk).lt;exact Nat.lt_trans (by decide) h
theorem FU{Q:zc9->zdi->Prop}(hu:A.units+1<cLine)(I:Inv X pins σ H s)(g:uT H a y (some v))(ry:RelV y u)(h:∀w' s',Inv X pins σ H s'->RelV v w'->Q w' s') :
 wpAny (model X.prog X.w) A (getItem (.ref a) u) Q E s:=by
 rcases g with ⟨aC,k,e,ey,l⟩ |⟨aC,k,b,e,ey,eb,l⟩
 ·subst ey;obtain⟨z,hd,vs,rel,dd⟩:=HW I.cL e;obtain⟨w',hw,FO⟩:=mK.some_of (v:=v) (o:=valueAt vs k) (by rw[l];exact rel.val k);exact wpAny_getItem_of (ye ry) dd.mapOf hw (h w' _ (I.tok _) FO)
 ·subst ey;cases (show u=Value.ref b from ry);obtain⟨z,hd,xs,rel,dd⟩:=HX I.cL e;obtain⟨w',hw,FO⟩:=mK.some_of (v:=v) (o:=(atKey xs k).map (·.2)) (by rw[l];exact rel.val k);obtain⟨p,hp,C0⟩:=zbm.mp hw;refine wpAny_getItem_heap (tupleKind_room_in1 hu) (CZ I.cL eb) dd hp ?_;rw[C0];exact h w' _ (I.tok _) FO
theorem qX{h':Heap}{t':Nat}{ob:HO}(I:Inv X pins σ H s)(mu:Q9 (H a))(hs:Heap.SameBut a s.heap h')(he:∃q,h'.get? a=some q)(new:eF X.prog X.w (upd H a ob) h' a ob) :
 Inv X pins σ (upd H a ob) {s with heap:=h',toks:=t' }:=
 I.write (x:=a) (e:=a) mu (.inl rfl) (fun b q hb z=>(hs.2 b hb).trans z) he new
theorem C1{P:zdk}{w:zda}{H':Hp}{h':Heap}{aC:List (Key×V)}{vs:List (Key×zc9)}(z:aC.length<=zdg)(hd:(a==sysModules)=false)(rel:KV aC vs)(dd:h'.DictOf (bO P w) a vs) :
 eF P w H' h' a (.dK aC):=⟨z,hd,vs,rel,dd⟩
theorem FV{H':Hp}{Q:Unit->zdi->Prop}(hu:A.units+1<cLine)(I:Inv X pins σ H s)(g:OI H a y v H')(ry:RelV y u)(rv:RelV v r)(h:∀s',Inv X pins σ H' s'->Q () s') :
 wpAny (model X.prog X.w) A (setItem (.ref a) u r) Q E s:=by
 rcases g with ⟨aC,k,e,ey,l,eH⟩ |⟨aC,k,b,e,ey,eb,l,eH⟩
 ·subst ey eH;obtain⟨z,hd,vs,rel,dd⟩:=RM I.cL e;have hz:vs.length<=zdg:=by rw[<- rel.length];exact z
  have hl:(putK aC k v).length<=zdg:=by have:=fc aC k v;lia
  refine wpAny_setItem_pairs (hsz:=hz) (ye ry) dd fun h' Nf hs=>h _ ?_;have he:∃q,h'.get? a=some q:=let ⟨q,_,_,hq,_⟩:=Nf;⟨q,hq⟩;exact qX I (by rw[e];exact True.intro) hs he (C1 hl hd (rel.put k rv) Nf)
 ·subst ey eH;cases (show u=Value.ref b from ry);obtain⟨z,hd,xs,rel,dd⟩:=RN I.cL e;have hz:xs.length<=zdg:=by rw[<- Paired.length rel];exact z
  have hl:(putK aC k v).length<=zdg:=by have:=fc aC k v;lia
  refine wpAny_setItem_heap (hsz:=hz) (tupleKind_room_in1 hu) (CZ I.cL eb) dd fun h' Nf hs=>h _ ?_;obtain⟨q,es,ep,hq,h2,h3,h4,_,h5⟩:=Nf;refine qX I (by rw[e];exact True.intro) hs ⟨q,hq⟩ ⟨hl,hd,_,(rel.put k eb rv).keeps fun c ys ec=>?_,q,es,ep,hq,h2,h3,h4,h5⟩;rw[av (bN ec e (fun z=>nomatch z))];exact ec
end
noncomputable def OJ (i:Expr):Prop:=∀ov iv,subscripted i false ov iv=operate [ov,iv] (getItem ov iv)
theorem Eu{prog:zdk}{w:zda}{A:zdj}{E:zc9->zdi->Prop}{s:zdi}{env:Env}{value slice:Expr}{pos:Pos}{T id:String}{Q:zc9->zdi->Prop}
 (hl:typeLookup (.type T) "__getitem__"=pure (some (.builtin id))) (hs:OJ slice)
 (h:wpAny (model prog w) A (eval value env) (fun o s₁=>wpAny (model prog w) A (eval slice env) (fun i s₂=>s₂.TypeIs o T/\wpAny (model prog w) A (getItem o i) Q E s₂) E s₁) E s) :
 wpAny (model prog w) A (eval (.Subscript value slice pos) env) Q E s:=by
 refine Subscript_ (wpAny_mono h (fun o s₁ h₁=>wpAny_mono h₁ (fun i s₂ h₂=>?_) fun _ _ x=>x) fun _ _ x=>x);obtain⟨hT,h₂⟩:=h₂;unfold subscriptTail;refine zdb ?_;rw[getitemInPython_of_ne hT.not_modules];refine zdb (wpAny_specialOf hT hl ?_);have fin:wpAny (model prog w) A (subscripted slice false o i) (fun r s₃=>wpAny (model prog w) A (letTemporaryGo value o r >>= fun _=>pure r) Q E s₃) E s₂:=by
  rw[hs o i];exact wpAny_operating (wpAny_mono h₂ (fun r s₃ h₃=>zdb (wpAny_letTemporaryGo (zdc h₃))) fun _ _ x=>x)
 first
  |exact zdc (zdb fin)
  |exact zdb (zdc (zdb fin))
  |exact zdb fin
theorem A8{X:Cx}{pins:List (zc8×Obj)}{σ:St}{H:Hp}{s:zdi}{a:zc8}{y:V}{o:Option V}(I:Inv X pins σ H s)(g:uT H a y o):s.TypeIs (.ref a) "dict":=by
 rcases g with ⟨aC,k,e,_,_⟩ |⟨aC,k,b,e,_,_,_⟩
 ·obtain⟨_,_,vs,_,dd⟩:=HW I.cL e;exact dd.typeIs
 ·obtain⟨_,_,xs,_,dd⟩:=HX I.cL e;exact dd.typeIs
noncomputable def Ng (td ty:TE):TE:=fun σ H Q=>td σ H fun x H1=>ty σ H1 fun y H2=>∃a v,x=.ref a/\uT H2 a y (some v)/\Q v H2
noncomputable def Nh (td ty tv:TE):TS:=fun D σ H=>tv σ H fun v H1=>td σ H1 fun x H2=>ty σ H2 fun y H3=>∃a H4,x=.ref a/\OI H3 a y v H4/\D.nx σ H4
section
variable{X:Cx}{o i e value:Expr}{pos pos' RB:Pos}{td ty tv:TE}
theorem iG(hu:X.A.units+1<cLine)(ho:PE X o td)(hi:PE X i ty)(hs:OJ i):PE X (.Subscript o i pos) (Ng td ty):=by
 intro pins s σ H Q I h;refine Eu PySem.F.slot_dict_getitem.lookup hs (eD (ho pins s σ H _ I h) fun u s1 zqz=>?_);obtain⟨x,H1,I1,rx,q1⟩:=zqz;refine eD (hi pins s1 σ H1 _ I1 q1) fun iv s2 zqz=>?_;obtain⟨y,H2,I2,ry,a,v,ex,g,q2⟩:=zqz;subst ex;obtain rfl:u=Value.ref a:=rx;exact⟨A8 I2 g,FU hu I2 g ry fun w' s3 I3 FO=>⟨v,H2,I3,FO,q2⟩⟩
theorem Ew(hu:X.A.units+1<cLine)(ho:PE X o td)(hi:PE X i ty)(hv:PE X value tv)(hs:swapsWith value (some (.Subscript o i pos')) pos.line X.env=pure false) :
 PS X (.Assign [.Subscript o i pos'] value pos) (Nh td ty tv):=by
 intro pins s σ H D I h;refine wpAny_Assign_Subscript (eD (hv pins s σ H _ I h) fun r s1 zqz=>?_) hs;obtain⟨v,H1,I1,rv,q1⟩:=zqz;refine eD (ho pins s1 σ H1 _ I1 q1) fun u s2 zqz=>?_;obtain⟨x,H2,I2,rx,q2⟩:=zqz;refine eD (hi pins s2 σ H2 _ I2 q2) fun iv s3 zqz=>?_;obtain⟨y,H3,I3,ry,a,H4,ex,g,q3⟩:=zqz;subst ex;obtain rfl:u=Value.ref a:=rx;exact FV hu I3 g ry rv fun s4 I4=>⟨σ,H4,I4,q3⟩
end
noncomputable def OK:TE:=fun _ H Q=>∀p,H p=none->Q (.ref p) (upd H p (.dK []))
noncomputable def lC (aC more:List (Key×V)):List (Key×V):=more.foldl (fun acc kv=>putK acc kv.1 kv.2) aC
theorem KV.merge:∀ {more:List (Key×V)} {rs:List (Key×zc9)} {aC:List (Key×V)} {vs:List (Key×zc9)},KV more rs->KV aC vs->KV (lC aC more) (merged vs rs):=by
 intro more rs aC vs r;unfold KV at r
 induction r generalizing aC vs with
 |nil=>intro q;exact q
 |@cons p q ps qs h t ih=>
  intro r0;have e:KV (putK aC p.1 p.2) (stored vs q.1 q.2):=by
   have:=r0.put p.1 h.2;rw[<- h.1];exact this
  exact ih e
theorem kn:∀(more aC:List (Key×V)),(lC aC more).length<=aC.length+more.length
 |[],aC=>by show aC.length<=aC.length+0;lia
 |p::r,aC=>by
  have h1:=kn r (putK aC p.1 p.2);have h2:=fc aC p.1 p.2;show (lC (putK aC p.1 p.2) r).length<=_;rw[zaj];lia
noncomputable def tE (env:Env):List (Str×NameKind)->List (Str×zc8)->List (Str×zc8)
 |[],cs=>cs
 |(n,k)::r,cs=>tE env r (if k==.free then (n,(env.cells.lookup n).getD 0)::cs else cs)
theorem uU{scope:Scope}{env:Env}(h:∀p∈scope.names,p.2=.free->∃c,env.cells.lookup p.1=some c):closureFor scope env=pure (tE env scope.names []):=by
 have all:∀(l:List (Str×NameKind)) (cs:List (Str×zc8)),(∀p∈l,p.2=.free->∃c,env.cells.lookup p.1=some c)->
  (forIn l cs fun (x:Str×NameKind) (r:List (Str×zc8))=>if (x.2==NameKind.free)=true then do let a <- cellOf env x.1;pure (ForInStep.yield ((x.1,a)::r)) else (pure (ForInStep.yield r):Sem _))=pure (tE env l cs):=by
  intro l
  induction l with
  |nil=>intro cs _;rfl
  |cons p r ih=>
   intro cs hp;obtain⟨n,k⟩:=p;rw[za2];by_cases hk:k=.free
   ·subst hk;obtain⟨c,e⟩:=hp (n,.free) zak rfl;have e1:cellOf env n=pure c:=by unfold cellOf;rw[e]
    simp only[beq_self_eq_true,if_true,e1,pure_bind];rw[ih _ fun p QD=>hp p (zai _ QD)];simp[tE,e]
   ·have hb:(k==NameKind.free)=false:=by simpa using hk
    simp only[hb,zaz,if_false,pure_bind];rw[ih _ fun p QD=>hp p (zai _ QD)];simp[tE,hb]
 simp only[closureFor];rw[all scope.names [] h];simp
theorem qY{env:Env}{x:Str}{c:zc8}:∀ {l:List (Str×NameKind)} {cs:List (Str×zc8)},(∀p∈l,p.2=.free->∃c,env.cells.lookup p.1=some c)->(∀x c,cs.lookup x=some c->env.cells.lookup x=some c)->
 (tE env l cs).lookup x=some c->env.cells.lookup x=some c
 |[],_,_,h,e=>h x c e
 |(n,k)::r,cs,hp,h,e=>by
  unfold tE at e;refine qY (fun p q=>hp p (zai _ q)) ?_ e;intro y d q;by_cases hk:k=.free
  ·subst hk;obtain⟨c',e'⟩:=hp (n,.free) zak rfl;simp only[beq_self_eq_true,if_true] at q;rw[zaQ] at q;cases hy:y==n with
   |true=>
    rw[hy] at q;have:y=n:=by simpa using hy
    subst this;simp only at e';rw[e'] at q ⊢;exact q
   |false=>rw[hy] at q;exact h y d q
  ·have hb:(k==NameKind.free)=false:=by simpa using hk
   simp only[hb,zaz,if_false] at q;exact h y d q
theorem vM{env:Env}{x:Str}:∀ {l:List (Str×NameKind)} {cs:List (Str×zc8)},((∃c,cs.lookup x=some c)\/(x,NameKind.free)∈l)->∃c,(tE env l cs).lookup x=some c
 |[],_,h=>by
  rcases h with h |h
  ·exact h
  ·exact absurd h (by simp)
 |(n,k)::r,cs,h=>by
  unfold tE
  apply vM
  rcases h with ⟨c,h⟩ |h
  ·left
   by_cases hk:k=.free
   ·subst hk;simp only[beq_self_eq_true,if_true];rw[zaQ];cases hy:x==n with
    |true=>exact⟨_,rfl⟩
    |false=>exact⟨c,h⟩
   ·have hb:(k==NameKind.free)=false:=by simpa using hk
    simp only[hb,zaz,if_false];exact⟨c,h⟩
  ·rcases zae.mp h with e |h
   ·injection e with e1 e2
    subst e1;subst e2
    left
    simp only[beq_self_eq_true,if_true];rw[zaQ];simp
   ·exact .inr h
theorem mW{scope:Scope}{env:Env}{x:Str}:(relabel scope env).names.lookup x=(scope.names.lookup x).map fun k=>if (k==NameKind.free&&env.scope.kind==.function&&env.kindOf x==some .cell)=true then .cell else k:=by
 unfold relabel;show zbf x (scope.names.map _)=_;generalize scope.names=l
 induction l with
 |nil=>rfl
 |cons p r ih=>
  obtain⟨n,k⟩:=p;rw[zaq,zaQ (as:=r)];show zbf x ((if (k==NameKind.free&&env.scope.kind==.function&&env.kindOf n==some .cell)=true then (n,NameKind.cell) else (n,k))::_)=_;cases hx:x==n with
  |true=>
   have e:x=n:=by simpa using hx
   subst e;by_cases hc:(k==NameKind.free&&env.scope.kind==.function&&env.kindOf x==some .cell)=true
   ·rw[if_pos hc];simp only[zaQ,beq_self_eq_true,zbi];rw[if_pos hc]
   ·rw[if_neg hc];simp only[zaQ,beq_self_eq_true,zbi];rw[if_neg hc]
  |false=>
   by_cases hc:(k==NameKind.free&&env.scope.kind==.function&&env.kindOf n==some .cell)=true
   ·rw[if_pos hc];simp only[zaQ,hx];exact ih
   ·rw[if_neg hc];simp only[zaQ,hx];exact ih
theorem mem_of_lookup{x:Str}{k:NameKind}:∀ {l:List (Str×NameKind)},l.lookup x=some k->(x,k)∈l
 |[],h=>by simp at h
 |(n,j)::r,h=>by
  rw[zaQ] at h;cases hx:x==n with
  |true=>
   rw[hx] at h;have e:x=n:=by simpa using hx
   cases h;subst e;exact zak
  |false=>rw[hx] at h;exact zai _ (mem_of_lookup h)
noncomputable def jv (sc out:Scope):Bool:=
 (sc.names.all fun p=>p.2 != .cell&&(p.2 != .free ||out.names.lookup p.1==some .cell ||out.names.lookup p.1==some .free)&&(p.2 != .local ||sc.names.lookup p.1==some .local))&&decide (sc.kind=.function)
noncomputable def vk (sc out:Scope) (N:List Str) (ix:List Nat):Bool:=
 ix.all fun i=>sc.names.lookup (N.getD i "")==some .free&&(out.names.lookup (N.getD i "")==some .cell ||out.names.lookup (N.getD i "")==some .free)
noncomputable def HY (σ:St) (ix:List Nat):St:=ix.map fun i=>σ.getD i none
noncomputable abbrev Ex (N:List Str) (ix:List Nat):List Str:=ix.map fun i=>N.getD i ""
noncomputable def jN (X:Cx) (scope:Scope) (own:List Str) (ix:List Nat) (C:zc8) (s₀:zdi) (H₀:Hp) (ex:List zc8):Cx where
 prog:=X.prog
 w:=X.w
 K:=X.K
 mg:=X.mg
 base:=X.base
 A:=X.A
 N:=own++Ex X.N ix
 s₀:=s₀
 H₀:=H₀
 env:=compEnvC scope (tE X.env scope.names []) C X.env
 outer:=X.stack
 stack:=X.stack
 ex:=ex
 fn:=fun _=>false
 calm:=X.calm
 pn:=[]
 xe:=fun _ _=>False
section
variable{X:Cx}{pins:List (zc8×Obj)}{σ:St}{H:Hp}{s:zdi}
theorem mX{sc out:Scope}(h:jv sc out=true):∀p∈sc.names,p.2≠.cell/\(p.2=.free->out.names.lookup p.1=some .cell\/out.names.lookup p.1=some .free)/\(p.2=.local->sc.names.lookup p.1=some .local):=by
 intro p hp;unfold jv at h;rw[zbo] at h;have:=List.all_eq_true.mp h.1 p hp;simp only[zbo,Bool.or_eq_true,bne_iff_ne,beq_iff_eq,ne_eq] at this;obtain⟨⟨h1,h2⟩,h3⟩:=this;refine⟨h1,fun e=>?_,fun e=>?_⟩
 ·rcases h2 with (h2 |h2) |h2
  ·exact absurd e h2
  ·exact .inl h2
  ·exact .inr h2
 ·rcases h3 with h3 |h3
  ·exact absurd e h3
  ·exact h3
theorem lD{sc out:Scope}(h:jv sc out=true):sc.kind=.function:=by
 unfold jv at h;rw[zbo] at h;exact of_decide_eq_true h.2
theorem Ls{scope:Scope}{own:List Str}{ix:List Nat}{ex:List zc8}(I:Inv X pins σ H s)(hf:jv scope X.env.scope=true)(hx:∀b∈ex,qO X pins H b/\b<s.heap.objs.size):(jN X scope own ix s.heap.objs.size s H ex).Ok:=by
 have fits:=(mX hf)
 have qM:∀p∈scope.names,p.2=.free->∃c,X.env.cells.lookup p.1=some c:=fun p hp e=>I.ok.has p.1 ((fits p hp).2.1 e);have sub:∀ {x:Str} {c:zc8},(tE X.env scope.names []).lookup x=some c->X.env.cells.lookup x=some c:=fun {x c} e=>qY qM (fun x c e=>by simp at e) e;refine⟨I.ok.mod,(show scope.kind=.function from lD hf),I.ok.glob,I.ok.blt,zah _,fun x y c a b=>I.ok.inj x y c (sub a) (sub b),fun x hk=>?_,fun x c e=>(by cases e),I.ok.hd,I.ok.frames,.inl rfl,fun b hb=>⟨zaD (hx b hb).2,fun x c e=>(hx b hb).1.2.2.2.2.1 x c (sub e)⟩,I.bs,zaA I.ok.AU I.sz,fun b o e hb=>?_,fun b hb hs=>?_,I.stack,I.yR⟩
 ·refine vM (.inr ?_);have HZ:(relabel scope X.env).names.lookup x=some .cell\/(relabel scope X.env).names.lookup x=some .free:=hk;rw[mW] at HZ;cases q:scope.names.lookup x with
  |none=>rw[q] at HZ;rcases HZ with z |z<;>cases z
  |some k=>
   have hm:=mem_of_lookup q;by_cases VR:k=.free
   ·subst VR;exact hm
   ·rw[q] at HZ;have hb:(k==NameKind.free)=false:=by simpa using VR
    simp only[zbi,hb,Bool.false_and,zaz,if_false,zaT.injEq] at HZ;rcases HZ with z |z
    ·exact absurd z (fits _ hm).1
    ·exact absurd z VR
 ·rcases(hx b hb).1.2.2.2.1 with z |z
  ·exact I.ok.Hg b o e z
  ·exact absurd (zay (Heap.lt_size e) (zaA I.ok.AU z)) (zaP _)
 ·rcases zae.mp (I.vC b hs) with z |z
  ·exact(hx b hb).1.2.1 z
  ·exact(hx b hb).1.2.2.1 z
theorem Ia{scope:Scope}{own:List Str}{ix:List Nat}{ex:List zc8}{h':Heap}{tk:Nat}(I:Inv X pins σ H s)(hf:jv scope X.env.scope=true)(hc:vk scope X.env.scope X.N ix=true)(hx:∀b∈ex,qO X pins H b/\b<s.heap.objs.size)
 (hn:h'.Ns s.heap.objs.size fun _=>none) (hk:∀b o,s.heap.get? b=some o->h'.get? b=some o):Inv (jN X scope own ix s.heap.objs.size s H ex) [] (zck own.length none++HY σ ix) H {s with heap:=h',toks:=tk}:=by
 have fits:=(mX hf)
 have qM:∀p∈scope.names,p.2=.free->∃c,X.env.cells.lookup p.1=some c:=fun p hp e=>I.ok.has p.1 ((fits p hp).2.1 e);have sub:∀ {x:Str} {c:zc8},(tE X.env scope.names []).lookup x=some c->X.env.cells.lookup x=some c:=fun {x c} e=>qY qM (fun x c e=>by simp at e) e;refine⟨Ls I hf hx,rfl,I.bare,Un.kept hk,⟨_,hn,fun i x v e1 e2 e3=>?_⟩,fun x c e=>?_,I.cL.fresh (zah _),fun x c e=>I.mz x c (sub e),fun p hp=>absurd (show p∈([]:List (zc8×Obj))++[] from hp) (by simp),I.cL.kept hk,?_⟩
 ·have e1:(own++Ex X.N ix)[i]?=some x:=e1;by_cases hi:i<own.length
  ·rw[zcs (by simpa using hi),zcC,if_pos hi] at e2;cases e2
  ·have Yx:own.length<=i:=Nat.le_of_not_lt hi;rw[zbU (by simpa using Yx),zcO] at e2;rw[zbU Yx] at e1;unfold HY at e2;unfold Ex at e1;rw[zap] at e1 e2;cases q:ix[i-own.length]? with
   |none=>rw[q] at e2;cases e2
   |some j=>
    rw[q] at e1 e2;simp only[zbi,zaT.injEq] at e1 e2;have hj:j∈ix:=za5 q;have fit:=List.all_eq_true.mp hc j hj;simp only[zbo,Bool.or_eq_true,beq_iff_eq] at fit;rw[e1] at fit;have ej:σ[j]?=some (some v):=by
     rw[zan] at e2;cases r:σ[j]? with
     |none=>rw[r] at e2;cases e2
     |some z=>rw[r] at e2;simp only[zcx] at e2;rw[e2]
    have hjl:j<X.N.length:=by rw[<- I.len];exact(zam.mp ej).1
    have en:X.N[j]?=some x:=by
     rw[zan] at e1;rw[zac hjl] at e1 ⊢;simp only[zcx] at e1;rw[e1]
    obtain⟨m,hm,hl⟩:=I.loc;have hv:Rc X.env.scope x:=by
     rcases fit.2 with z |z
     ·exact .inr (.inl z)
     ·exact .inr (.inr z)
    obtain⟨u,r,l⟩:=hl j x v en ej hv;refine⟨u,r,.inr ⟨?_,?_⟩⟩
    ·show (relabel scope X.env).names.lookup x=some .cell\/(relabel scope X.env).names.lookup x=some .free;rw[mW,fit.1];simp only[zbi];split
     ·exact .inl rfl
     ·exact .inr rfl
    ·rcases l with ⟨k1,_⟩ |⟨_,c,ec,uh⟩
     ·have k1:X.env.scope.names.lookup x=some .local:=k1;rcases fit.2 with z |z<;>(rw[z] at k1;cases k1)
     ·obtain⟨c',e'⟩:∃c,(tE X.env scope.names []).lookup x=some c:=vM (.inr (mem_of_lookup fit.1));have:=sub e';rw[ec] at this;cases this;exact⟨c,e',uh.keeps hk⟩
 ·obtain⟨v,z⟩:=I.cell x c (sub e);exact⟨v,z.keeps hk⟩
 ·show (zck own.length none++HY σ ix).length=(own++Ex X.N ix).length;simp[HY]
theorem comp_back{scope:Scope}{own:List Str}{ix:List Nat}{ex:List zc8}{τ:St}{H':Hp}{s':zdi}{Eg:List (zc8×Obj)}(I:Inv X pins σ H s)(hx:∀b∈ex,qO X pins H b/\b<s.heap.objs.size)
 (I':Inv (jN X scope own ix s.heap.objs.size s H ex) Eg τ H' s'):Inv X pins σ H' s'/\H' s.heap.objs.size=none/\s.heap.objs.size≠X.env.locals/\X.s₀.heap.objs.size<=s.heap.objs.size/\(∀x c,X.env.cells.lookup x=some c->c≠s.heap.objs.size)/\∀p∈X.pn++pins,p.1≠s.heap.objs.size:=by
 refine⟨I.Rj (ch:=ex) I'.os I'.base I'.cL I'.bare fun b hb=>?_,I'.free,zbD I.lt,I.sz,fun x c e z=>?_,fun p hp z=>?_⟩
 ·obtain⟨f0,f1,f2,f3,f4,f5⟩:=(hx b hb).1;exact⟨f3,f1,f4,f5⟩
 ·obtain⟨v,q⟩:=I.cell x c e;exact absurd q.lt (by rw[z];exact zaP _)
 ·exact absurd (Heap.lt_size (I.pin p hp).1) (by rw[z];exact zaP _)
end
noncomputable def QE (X:Cx) (ifs:List Expr) (t:TT):Prop:=
 ∀(pins:List (zc8×Obj)) (s:zdi) (σ:St) (H:Hp) (Q:Bool->Hp->Prop),Inv X pins σ H s->t σ H Q->
  wpAny (model X.prog X.w) X.A (forIn ifs true fun c r=>if r=true then do let ok <- isTrue c X.env (eval c X.env);pure (ForInStep.yield ok) else pure (ForInStep.yield r)) (TP X pins σ Q) X.xe s
noncomputable def vN:TT:=fun _ H Q=>Q true H
theorem iH{X:Cx}:QE X [] vN:=fun _ _ _ H _ I h=>wpAny_tests_nil ⟨H,I,h⟩
theorem Lu{X:Cx}{c:Expr}{t:TT}(h:PT X c t):QE X [c] t:=fun pins s σ H Q I q=>wpAny_tests_one (h pins s σ H Q I q)
noncomputable def pz (J:It) (D:zc8) (g:TG) (tc:TT) (te:TE) (Q:VK) (τ:St) (H:Hp):Prop:=∃W:Nat->Nat->St->Hp->Prop,(∃m,W 0 m τ H)/\∀i m τ H,W i m τ H->
 (J.stop i H/\Q (.ref D) H)\/(J.go i H/\∃N:St->Hp->Prop,(∀τ' H',N τ' H'->∃m',m'<m/\W (i+1) m' τ' H')/\∀x H',J.Eh i H x H'->g x τ H' fun τ2 H2=>tc τ2 H2 fun b H3=>if b=true then
  te τ2 H3 fun y H4=>∃ys,H4 D=some (.lst ys)/\ys.length<zdg/\N τ2 (upd H4 D (.lst (ys++[y]))) else N τ2 H3)
noncomputable def j0 (wi:TI) (k:Nat) (ix:List Nat) (g:TG) (tc:TT) (te:TE):TE:=fun σ H Q=>wi σ H fun J H1=>∀D,H1 D=none->pz J D g tc te Q (zck k none++HY σ ix) (upd H1 D (.lst []))
section
variable{X:Cx}{tg iter elt:Expr}{ifs:List Expr}{scope:Scope}{pos:Pos}{own:List Str}{ix:List Nat}{wi:TI}{g:TG}{tc:TT}{te:TE}
theorem FW{it D:zc8}{fp:List zc8}{tn:Nat->Heap->Prop}{J:It}{Q:VK}{R:Result->zdi->Prop}{s:zdi}{τ:St}{H:Hp}(um:X.calm=true)(Lv:X.xe=fun _ _=>False)(hpn:X.pn=[])(T:Turn X.prog X.w X.K tg J fp it tn)
 (he:PE X elt te) (hg:PG X tg g) (ht:QE X ifs tc) (I:Inv X [] τ H s) (Yy:∀b∈fp,qO X [] H b) (h0:tn 0 s.heap) (hW:pz J D g tc te Q τ H)
 (hR:∀τ' H' s',Inv X [] τ' H' s'->Q (.ref D) H'->R (.ok .next) s') :
 codeAny (model X.prog X.w) X.A (.compLoop (.ListComp elt [⟨tg,iter,ifs,0⟩] scope pos) 0 (.ref it) (.ref D) X.env) R s:=by
 obtain⟨W,⟨m0,w0⟩,turn⟩:=hW;have no:∀ {E:zc9->zdi->Prop} (e:zc9) (s':zdi),X.xe e s'->E e s':=fun e s' z=>by rw[Lv] at z;exact z.elim
 have stat:∀ {H':Hp},(∀b∈fp,H' b=none)->∀b∈fp,qO X [] H' b:=fun hn b hb=>⟨hn b hb,(Yy b hb).2⟩
 refine codeAny_loop rfl (fun n s'=>∃i τ' H',Inv X [] τ' H' s'/\tn i s'.heap/\(∀b∈fp,H' b=none)/\W i n τ' H') (fun n s3 hI=>?_) m0 ⟨0,τ,H,I,h0,fun b hb=>(Yy b hb).1,w0⟩;obtain⟨i,τ3,H3,I3,M7,Rp,w3⟩:=hI;show wpAny _ X.A ((compTurn (.ListComp elt [⟨tg,iter,ifs,0⟩] scope pos) 0 (.ref it) (.ref D) X.env).onRaise (fun x=>do noteFrame x X.env;theTreesLotGoes x)) _ _ s3;refine wpAny_noted ?_;rw[compTurn_list];refine zdb (wpAny_standAt (zdb ?_));rcases turn i n τ3 H3 w3 with ⟨stop,q⟩ |⟨go,N,hN,step⟩
 ·refine wpAny_mono (T.done X rfl rfl rfl um i [] s3 τ3 H3 X.xe I3 (stat Rp) M7 stop) (fun r s4 zqz=>?_) no;obtain⟨hr,I4⟩:=zqz;subst hr;exact zdc (hR τ3 H3 s4 I4 q)
 ·refine wpAny_mono (T.item X rfl rfl rfl um i [] s3 τ3 H3 X.xe I3 (stat Rp) M7 go) (fun r s4 zqz=>?_) no;obtain⟨u,hr,h4⟩:=zqz;subst hr;refine zdb (wpAny_mono h4 (fun _ s5 zqz=>?_) no);obtain⟨x,H5,I5,r5,y5,Ht,Vx⟩:=zqz;have Vy:=I5.pinned (stat Vx) (T.obj _ _ Ht);refine zdb (wpAny_mono (hg _ s5 τ3 H5 x u _ Vy r5 (step x H5 y5)) (fun _ s6 zqz=>?_) no);obtain⟨τ6,H6,I6,q6⟩:=zqz;refine zdb (wpAny_mono (ht _ s6 τ6 H6 _ I6 q6) (fun b s7 zqz=>?_) no);obtain⟨H7,I7,q7⟩:=zqz;have again:∀ {τ7:St} {H7:Hp} {s7:zdi},Inv X ([]++vD fp s5.heap) τ7 H7 s7->N τ7 H7->∃m,m<n/\∃i σ' H',Inv X [] σ' H' s7/\tn i s7.heap/\(∀b∈fp,H' b=none)/\W i m σ' H':=fun {τ7 H7 s7} I7 n7=>by
   obtain⟨m',hm,w7⟩:=hN τ7 H7 n7;refine⟨m',hm,i+1,τ7,H7,I7.qP,T.keep _ _ _ Ht fun b hb o e=>(I7.pin (b,o) (zaB _ (zaB _ (lq hb e)))).1,fun b hb=>?_,w7⟩;obtain⟨o,e,d⟩:=T.obj _ _ Ht b hb;exact(I7.pin (b,o) (zaB _ (zaB _ (lq hb e)))).2.1
  cases b with
  |false=>exact zdc ⟨rfl,again I7 q7⟩
  |true=>
   refine zdb (zdb (wpAny_mono (he _ s7 τ6 H7 _ I7 q7) (fun v s8 ⟨y,H8,I8,r8,ys,hD,hl,q8⟩=>zdb ?_) no));refine wpAny_mono (bQ _ s8 τ6 H8 (.ref D) [y] (.ref D) [v] (fun _ H'=>N τ6 H') I8 rfl (.cons r8 .nil) ⟨D,ys,y,rfl,rfl,hD,hl,q8⟩) (fun _ s9 zqz=>?_) no;obtain⟨_,H9,I9,_,q9⟩:=zqz;exact zdc (zdc ⟨rfl,again I9 q9⟩)
theorem A9{pins:List (zc8×Obj)}{s:zdi}{σ:St}{H:Hp}{Q:VK}{use:Option (zc9->Sem Unit)}{Q':zc9->zdi->Prop}(um:X.calm=true)(hf:jv scope X.env.scope=true)(hc:vk scope X.env.scope X.N ix=true)
 (hi:PI X tg iter wi) (hg:∀C s₀ H₀ ex,PG (jN X scope own ix C s₀ H₀ ex) tg g) (ht:∀C s₀ H₀ ex,QE (jN X scope own ix C s₀ H₀ ex) ifs tc) (he:∀C s₀ H₀ ex,PE (jN X scope own ix C s₀ H₀ ex) elt te)
 (I:Inv X pins σ H s) (h:j0 wi own.length ix g tc te σ H Q)
 (hU:∀(D C:zc8) (H':Hp) (s':zdi) (m:Str->Option zc9),Inv X pins σ H' s'->Q (.ref D) H'->s'.heap.Ns C m->H' C=none->C≠X.env.locals->X.s₀.heap.objs.size<=C->(∀x c,X.env.cells.lookup x=some c->c≠C)->(∀p∈X.pn++pins,p.1≠C)->compPost (model X.prog X.w) X.A X.xe use Q' (.ref D) C (.ok .next) s')
 (hs:∀x,foldedSetIterable iter X.env x=pure x) :
 wpAny (model X.prog X.w) X.A (comprehension (.ListComp elt [⟨tg,iter,ifs,0⟩] scope pos) scope X.env (firstIterPos [⟨tg,iter,ifs,0⟩] pos) (newList []) false (eval iter X.env) use) Q' X.xe s:=by
 have fits:=(mX hf)
 have qM:∀p∈scope.names,p.2=.free->∃c,X.env.cells.lookup p.1=some c:=fun p hp e=>I.ok.has p.1 ((fits p hp).2.1 e);refine wpAny_comprehension_free (use:=use) rfl hs (uU qM) (lD hf) (fun x hx=>(fits x hx).2.2) ?_;refine eD (hi pins s σ H _ I h) fun v s1 h1=>eD h1 fun Vw s2 h2=>?_;obtain⟨it,fp,tn,J,H2,e,I2,T,yU,f2,hW⟩:=h2;subst e;refine wpAny_newObj_type (hd:=by size_fits) ?_;have hD:H2 s2.heap.objs.size=none:=I2.cL.fresh (zah _);have I3:Inv X pins σ (upd H2 s2.heap.objs.size (.lst [])) {s2 with heap:=s2.heap.push {cls:=.type "list",dict:=none,data:=.seq ([]:List zc9).toArray} }:=
  I2.laid (t':=s2.toks) (fun b u e=>Heap.get?_push_of_some _ e) (zah _) ⟨zaU _,[],0,.nil,Heap.get?_push_size _ rfl⟩
 have W3:=hW s2.heap.objs.size hD;have Yz:∀b∈fp,b<s2.heap.objs.size:=fun b hb=>let ⟨o,e,_⟩:=T.obj _ _ yU b hb;Heap.lt_size e;have RO:∀b∈fp,qO X pins (upd H2 s2.heap.objs.size (.lst [])) b/\b<(s2.heap.push {cls:=.type "list",dict:=none,data:=.seq ([]:List zc9).toArray}).objs.size:=fun b hb=>
  ⟨⟨by rw[av (zaD (Yz b hb))];exact(f2 b hb).1,(f2 b hb).2⟩,by rw[Heap.size_push];exact Nat.lt_succ_of_lt (Yz b hb)⟩
 have M7:tn 0 (s2.heap.push {cls:=.type "list",dict:=none,data:=.seq ([]:List zc9).toArray}):=T.keep _ _ _ yU fun b _ o e=>Heap.get?_push_of_some _ e;generalize hs3:({s2 with heap:=s2.heap.push {cls:=.type "list",dict:=none,data:=.seq ([]:List zc9).toArray} }:zdi)=s3 at I3;generalize hH3:upd H2 s2.heap.objs.size (.lst [])=H3 at I3 W3 RO;have eh:s2.heap.push {cls:=.type "list",dict:=none,data:=.seq ([]:List zc9).toArray}=s3.heap:=by rw[<- hs3]
 rw[eh] at RO M7;refine wpAny_newFunctionEnv (fun x hx=>(fits x hx).1) (by intro y hy;simp at hy) (fun h4 Ni VS=>?_) (lD hf);have kept:∀b o,s3.heap.get? b=some o->h4.get? b=some o:=fun b o e=>VS.extBut b o (zaD (Heap.lt_size e)) (Heap.get?_push_of_some _ e);have I4:=Ia (own:=own) (tk:=s3.toks+([]:List (Str×zc9)).length) I3 hf hc RO Ni kept;have fp4:∀b∈fp,qO (jN X scope own ix s3.heap.objs.size s3 H3 fp) [] H3 b:=fun b hb=>by
  obtain⟨⟨f0,f1,f2',f3,f4,f5⟩,lt⟩:=RO b hb;refine⟨f0,zaD lt,fun z=>?_,.inl hb,fun x c e=>f4 x c (qY qM (fun x c e=>by simp at e) e),fun p hp=>absurd (show p∈([]:List (zc8×Obj))++[] from hp) (by simp)⟩;rcases zae.mp (I3.vC b z) with z |z
  ·exact f1 z
  ·exact f2' z
 have YA:tn 0 h4:=T.keep _ _ _ M7 fun b _ o e=>kept b o e;have loop:=FW (X:=jN X scope own ix s3.heap.objs.size s3 H3 fp) (iter:=iter) (scope:=scope) (pos:=pos) (R:=compPost (model X.prog X.w) X.A X.xe use Q' (.ref s2.heap.objs.size) s3.heap.objs.size) um rfl rfl T (he _ _ _ _) (hg _ _ _ _) (ht _ _ _ _) I4 fp4 YA W3
  (fun τ' H' s' I' q=>by
   obtain⟨J1,J2,J3,J4,J5,J6⟩:=comp_back I3 RO I';obtain⟨m,hm,_⟩:=I'.loc;exact hU _ _ H' s' m J1 q hm J2 J3 J4 J5 J6)
 exact codeAny_compStart_list loop (T.self X.A 0 _ _ _ YA loop)
theorem iI(um:X.calm=true)(hf:jv scope X.env.scope=true)(hc:vk scope X.env.scope X.N ix=true)
 (hi:PI X tg iter wi) (hg:∀C s₀ H₀ ex,PG (jN X scope own ix C s₀ H₀ ex) tg g) (ht:∀C s₀ H₀ ex,QE (jN X scope own ix C s₀ H₀ ex) ifs tc) (he:∀C s₀ H₀ ex,PE (jN X scope own ix C s₀ H₀ ex) elt te)
 (hs:∀x,foldedSetIterable iter X.env x=pure x:=by intro _;rfl):PE X (.ListComp elt [⟨tg,iter,ifs,0⟩] scope pos) (j0 wi own.length ix g tc te):=by
 intro pins s σ H Q I h;rw[eval_ListComp];refine A9 (use:=none) um hf hc hi hg ht he I h (fun D C H' s' m I' q hm n1 n2 n3 n4 n5=>?_) hs;refine⟨m,hm,fun h' sb=>⟨.ref D,H',?_,rfl,q⟩⟩;exact I'.turned (t':=s'.toks) (it:=C) (fun b o hb e=>sb.extBut b o hb e) n1 (Ne.symm (Ne.symm n2)) (.inr n3) n4 n5
theorem Lw{i:Nat}{y:Str}{py RP:Pos}(hN:X.N.Nodup)(hiy:X.N[i]?=some y)(hy:Loc X.env.scope y)(um:X.calm=true)(hf:jv scope X.env.scope=true)(hc:vk scope X.env.scope X.N ix=true)
 (hi:PI X tg iter wi) (hg:∀C s₀ H₀ ex,PG (jN X scope own ix C s₀ H₀ ex) tg g) (ht:∀C s₀ H₀ ex,QE (jN X scope own ix C s₀ H₀ ex) ifs tc) (he:∀C s₀ H₀ ex,PE (jN X scope own ix C s₀ H₀ ex) elt te)
 (hsw:swapsWith (.ListComp elt [⟨tg,iter,ifs,0⟩] scope pos) (some (.Name y py)) RP.line X.env=pure true:=by rfl)
 (hs:∀x,foldedSetIterable iter X.env x=pure x:=by intro _;rfl) (N7:X.fn y=true\/X.env.scope.names.lookup y=some .local:=by first |exact .inl rfl |exact .inr rfl |assumption) :
 PS X (.Assign [.Name y py] (.ListComp elt [⟨tg,iter,ifs,0⟩] scope pos) RP) (Fw (j0 wi own.length ix g tc te) (dI i)):=by
 intro pins s σ H D I h;rw[exec_Assign_Name_used _ _ _ _ hsw];refine zdb (wpAny_standAt (zdb ?_));show wpAny _ _ (do let _ <- comprehension (.ListComp elt [⟨tg,iter,ifs,0⟩] scope pos) scope X.env _ (newList []) false (eval iter X.env) (some (assign (.Name y py) X.env))) _ _ s;refine zdb (wpAny_mono (A9 (use:=some (assign (.Name y py) X.env)) (Q':=fun _ s'=>SP X pins D .next s') um hf hc hi hg ht he I h (fun L C H' s' m I' q hm n1 n2 n3 n4 n5=>?_) hs) (fun _ s' hq=>zdc (zdc hq)) fun _ _ e=>e);show wpAny _ _ (assign (.Name y py) X.env (.ref L)) _ _ _;refine wpAny_assign_Name (xY I' hN hiy hy (v:=.ref L) rfl (fun s2 I2 zqz=>?_) N7);obtain⟨a,sb,ha⟩:=zqz;have hCa:C≠a:=by
  rcases ha with rfl |ha
  ·exact n2
  ·exact fun z=>n4 y a ha z.symm
 refine⟨m,hm.sameBut sb hCa,fun h' sb'=>⟨_,H',?_,q⟩⟩;exact I2.turned (t':=s2.toks) (it:=C) (fun b o hb e=>sb'.extBut b o hb e) n1 n2 (.inr n3) n4 n5
end
inductive Dp where
 |b9 |bl (b:Bool) |int (i:Int) |str (x:Str) |tup (l:List Dp) |lst (l:List Dp)
mutual
noncomputable def Rep (K:zaa) (H:Hp):Dp->V->Prop
 |.b9,v=>v=.b9
 |.bl b,v=>v=.bl b
 |.int i,v=>v=.int i
 |.str x,v=>v=.str x
 |.tup l,v=>∃a xs,v=.ref a/\cu K H a xs/\aI K H l xs
 |.lst l,v=>∃a xs,v=.ref a/\gM K H a xs/\aI K H l xs
noncomputable def aI (K:zaa) (H:Hp):List Dp->List V->Prop
 |[],vs=>vs=[]
 |d::ds,vs=>∃v r,vs=v::r/\Rep K H d v/\aI K H ds r
end
mutual
noncomputable def Dp.deep:Dp->Nat
 |.tup l=>Dp.fe l+1
 |.lst l=>Dp.fe l+1
 |_=>0
noncomputable def Dp.fe:List Dp->Nat
 |[]=>0
 |d::ds=>max d.deep (Dp.fe ds)
end
theorem au.cI{K:zaa}{H H':Hp}{a:zc8}{xs:List V}(e:au H H')(h:cu K H a xs):cu K H' a xs:=by
 rcases h with (h |⟨o,h⟩) |h
 ·exact .inl (.inl (e _ _ h))
 ·exact .inl (.inr ⟨o,e _ _ h⟩)
 ·exact .inr h
mutual
theorem Rep.mono{K:zaa}{H H':Hp}(e:au H H'):∀ {d:Dp} {v:V},Rep K H d v->Rep K H' d v
 |.b9,_,h=>h
 |.bl _,_,h=>h
 |.int _,_,h=>h
 |.str _,_,h=>h
 |.tup l,_,h=>by
  unfold Rep at h ⊢;obtain⟨a,xs,e1,e2,e3⟩:=h;exact⟨a,xs,e1,e.cI e2,aI.mono e e3⟩
 |.lst l,_,h=>by
  unfold Rep at h ⊢;obtain⟨a,xs,e1,e2,e3⟩:=h;exact⟨a,xs,e1,e.seq e2,aI.mono e e3⟩
theorem aI.mono{K:zaa}{H H':Hp}(e:au H H'):∀ {ds:List Dp} {vs:List V},aI K H ds vs->aI K H' ds vs
 |[],_,h=>h
 |d::ds,_,h=>by
  unfold aI at h ⊢;obtain⟨v,r,e1,e2,e3⟩:=h;exact⟨v,r,e1,Rep.mono e e2,aI.mono e e3⟩
end
theorem aI.length{K:zaa}{H:Hp}:∀ {ds:List Dp} {vs:List V},aI K H ds vs->vs.length=ds.length
 |[],_,h=>by unfold aI at h;rw[h];rfl
 |d::ds,_,h=>by
  unfold aI at h;obtain⟨v,r,e1,_,e3⟩:=h;rw[e1,zaj,zaj,aI.length e3]
theorem aI.get{K:zaa}{H:Hp}:∀ {ds:List Dp} {vs:List V} {i:Nat} {d:Dp},aI K H ds vs->ds[i]?=some d->∃v,vs[i]?=some v/\Rep K H d v
 |[],_,_,_,_,e=>by simp at e
 |d::ds,_,0,_,h,e=>by
  unfold aI at h;obtain⟨v,r,e1,e2,e3⟩:=h;simp only[List.getElem?_cons_zero,zaT.injEq] at e;subst e;exact⟨v,by rw[e1];rfl,e2⟩
 |d::ds,_,i+1,d',h,e=>by
  unfold aI at h;obtain⟨v,r,e1,e2,e3⟩:=h;rw[zcD] at e;obtain⟨v',h1,h2⟩:=aI.get e3 e;exact⟨v',by rw[e1,zcD];exact h1,h2⟩
theorem aI.append{K:zaa}{H:Hp}:∀ {ds es:List Dp} {vs us:List V},aI K H ds vs->aI K H es us->aI K H (ds++es) (vs++us)
 |[],_,_,_,h,h'=>by unfold aI at h;rw[h];exact h'
 |d::ds,_,_,_,h,h'=>by
  unfold aI at h;obtain⟨v,r,e1,e2,e3⟩:=h;rw[e1];show aI K H (d::(ds++_)) (v::(r++_));unfold aI;exact⟨v,_,rfl,e2,aI.append e3 h'⟩
theorem aI.nil{K:zaa}{H:Hp}:aI K H [] []:=by unfold aI;rfl
theorem aI.cons{K:zaa}{H:Hp}{d:Dp}{ds:List Dp}{v:V}{vs:List V}(h:Rep K H d v)(h':aI K H ds vs):aI K H (d::ds) (v::vs):=by unfold aI;exact⟨v,vs,rfl,h,h'⟩
theorem Rep.br{K:zaa}{H:Hp}{l:List Dp}{v:V}:Rep K H (.tup l) v↔∃a xs,v=.ref a/\cu K H a xs/\aI K H l xs:=by unfold Rep;exact Iff.rfl
theorem Rep.cg{K:zaa}{H:Hp}{l:List Dp}{v:V}:Rep K H (.lst l) v↔∃a xs,v=.ref a/\gM K H a xs/\aI K H l xs:=by unfold Rep;exact Iff.rfl
theorem Rep.bF{K:zaa}{H:Hp}{i:Int}{v:V}:Rep K H (.int i) v↔v=.int i:=by unfold Rep;exact Iff.rfl
theorem Rep.bY{K:zaa}{H:Hp}{x:Str}{v:V}:Rep K H (.str x) v↔v=.str x:=by unfold Rep;exact Iff.rfl
theorem Rep.mY{K:zaa}{H:Hp}{b:Bool}{v:V}:Rep K H (.bl b) v↔v=.bl b:=by unfold Rep;exact Iff.rfl
theorem Rep.qZ{K:zaa}{H:Hp}{v:V}:Rep K H .b9 v↔v=.b9:=by unfold Rep;exact Iff.rfl
theorem aI.bI{K:zaa}{H:Hp}{vs:List V}:aI K H [] vs↔vs=[]:=by unfold aI;exact Iff.rfl
theorem aI.aF{K:zaa}{H:Hp}{d:Dp}{ds:List Dp}{vs:List V}:aI K H (d::ds) vs↔∃v r,vs=v::r/\Rep K H d v/\aI K H ds r:=by conv=>lhs;unfold aI
theorem au.new{H:Hp}{p:zc8}(h:H p=none)(o:HO):au H (upd H p o):=fun b u q=>by rw[av (aj q h)];exact q
section
variable{X:Cx}
noncomputable def Nj (K:zaa) (b:Bool):R2:=fun x y H Q=>∃d,Rep K H d x/\Rep K H d y/\d.deep<=150/\Q (.bl b) H
end
section
variable{X:Cx}
noncomputable def RQ (i j:Int):Prop:=i.natAbs<2 ^ 4000/\j.natAbs<2 ^ 4000
theorem bits_le{i:Int}(h:i.natAbs<2 ^ 4000):Builtin.Int.intBits i<=2 ^ 20:=zaA (intBits_le h) (by decide)
theorem Lx:qG X (binaryOp .Mult) (rI RQ fun i j=>.int (i*j)):=Rr fun _ _ _ _ _ _ _ hc q=>mul_int q (IntMulOk.of_bits (bits_le hc.1) (bits_le hc.2))
end
structure cw(K:zaa)(mg:Str->Option zc9)(x:Str)(st:Stmt)(ps:List Str)(f:zc8)(fd:zdh):Prop where
 F:Cq K x x st f fd
 b:Binds K fd ps []
 m:mg x=some (.ref f)
end L2
namespace L2
open PySem PySem.Spec PyProof.Rows
theorem RR{g:Int->Int->V}{i j:Int}{H:Hp}{Q:VK}:M8 g (.int i) (.int j) H Q↔Q (g i j) H:=⟨fun ⟨_,_,e1,e2,q⟩=>by cases e1;cases e2;exact q,fun q=>⟨_,_,rfl,rfl,q⟩⟩
theorem VT{C:Int->Int->Prop}{g:Int->Int->V}{i j:Int}{H:Hp}{Q:VK}:rI C g (.int i) (.int j) H Q↔C i j/\Q (g i j) H:=⟨fun ⟨_,_,e1,e2,c,q⟩=>by cases e1;cases e2;exact⟨c,q⟩,fun q=>⟨_,_,rfl,rfl,q⟩⟩
theorem Ib{a:V}{r:St}{H:Hp}{Q:VK}:(eW 0 (some a::r) H Q)=(Q a H):=rfl
theorem Ic{a:Option V}{r:St}{H:Hp}{Q:VK}:(eW 1 (a::r) H Q)=(eW 0 r H Q):=rfl
theorem Ie{a:Option V}{r:St}{H:Hp}{Q:VK}:(eW 2 (a::r) H Q)=(eW 1 r H Q):=rfl
theorem Ig{a:Option V}{r:St}{H:Hp}{Q:VK}:(eW 3 (a::r) H Q)=(eW 2 r H Q):=rfl
theorem Ih{a:Option V}{r:St}{H:Hp}{Q:VK}:(eW 4 (a::r) H Q)=(eW 3 r H Q):=rfl
theorem Ii{a:Option V}{r:St}{H:Hp}{Q:VK}:(eW 5 (a::r) H Q)=(eW 4 r H Q):=rfl
theorem Ij{a:Option V}{r:St}{H:Hp}{Q:VK}:(eW 6 (a::r) H Q)=(eW 5 r H Q):=rfl
theorem Ik{a:Option V}{r:St}{H:Hp}{Q:VK}:(eW 7 (a::r) H Q)=(eW 6 r H Q):=rfl
theorem Il{a:Option V}{r:St}{H:Hp}{Q:VK}:(eW 8 (a::r) H Q)=(eW 7 r H Q):=rfl
theorem Im{a:Option V}{r:St}{H:Hp}{Q:VK}:(eW 9 (a::r) H Q)=(eW 8 r H Q):=rfl
theorem RS{v:V}{σ:St}{H:Hp}{Q:VK}:(tC v σ H Q)=(Q v H):=rfl
theorem Nk{r:R2}{ta tb:TE}{σ:St}{H:Hp}{Q:VK}:(Rq r ta tb σ H Q)=(ta σ H fun x H1=>tb σ H1 fun y H2=>r x y H2 Q):=rfl
theorem RT{b:Bool}{p:Bool->Prop}:(∃k,V.bl b=.bl k/\p k)↔p b:=⟨fun ⟨_,e,q⟩=>by cases e;exact q,fun q=>⟨_,rfl,q⟩⟩
theorem OL{b:Int}{p:Int->Prop}:(∃k,V.int b=.int k/\p k)↔p b:=⟨fun ⟨_,e,q⟩=>by cases e;exact q,fun q=>⟨_,rfl,q⟩⟩
theorem OM{b:zc8}{p:zc8->Prop}:(∃k,V.ref b=.ref k/\p k)↔p b:=⟨fun ⟨_,e,q⟩=>by cases e;exact q,fun q=>⟨_,rfl,q⟩⟩
theorem Ey{t:TE}{σ:St}{H:Hp}{Q:Bool->Hp->Prop}:(Ep t σ H Q)=(t σ H fun x H'=>∃k,x=.bl k/\Q k H'):=rfl
theorem Nl{x y:V}{H:Hp}{Q:VK}:(Yq x y H Q)=(FC x y=true/\Q (.bl (decide (x=y))) H):=rfl
theorem Nm{x y:V}{H:Hp}{Q:VK}:(Yr x y H Q)=(FC x y=true/\Q (.bl (!decide (x=y))) H):=rfl
theorem ON{i j:Int}:(V.int i=V.int j)=(i=j):=by simp
theorem OO{i j:Str}:(V.str i=V.str j)=(i=j):=by simp
theorem Ly{c:Prop}[Decidable c]{A B:Prop}:(if decide c=true then A else B)↔if c then A else B:=by simp
theorem Io{c:Prop}[Decidable c]{A B:Prop}:(if (!decide c)=true then A else B)↔if c then B else A:=by by_cases h:c<;>simp[h]
theorem aN{K:zaa}{p:zc8}{i:Int}{H:Hp}{Q:VK}{xs:List V}{v:V}(h:cu K H p xs)(hv:xo xs i=some v)(q:Q v H):HN K (.ref p) (.int i) H Q:=⟨p,xs,i,v,rfl,rfl,h,hv,q⟩
theorem cN{K:zaa}{p:zc8}{i:Int}{H:Hp}{Q:VK}{xs:List V}{v:V}(h:gM K H p xs)(hv:xo xs i=some v)(q:Q v H):FN K (.ref p) (.int i) H Q:=⟨p,xs,i,v,rfl,rfl,h,hv,q⟩
section
variable{P:zdk}{w:zda}{K:zaa}{mg:Str->Option zc9}{base:Heap}
theorem Cq.mB{x qual:Str}{st:Stmt}{f:zc8}{fd:zdh}{N ps:List Str}{k:Nat}{sp:Sp}(F:Cq K x qual st f fd)(S:aX N ps (az st))(len:∀vs H Q E,sp vs H Q E->vs.length=ps.length)
 (qR:∀(dY:zc9) (A:zdj) (outer:List Env) (s:zdi) (H:Hp) (vs:List V) (Q:VK) (E:XK),gg k (A.deeper (envOfC qual (az st) s.heap.objs.size f dY))->sp vs H Q E->
  ∃t σ,CG (lA de P w K mg base N qual (az st) f dY A outer s H E).CI (cJ st) t/\L2.start N vs=σ/\t {nx:=fun _ H'=>Q .b9 H',rt:=Q} σ H):bz P w K mg base de (k+1) f fd ps sp:=
 F.ok S len fun dY A outer s H vs Q E hr h=>let ⟨t,_,h1,h2,h3⟩:=qR dY A outer s H vs Q E hr h;⟨t,h1,by rw[h2];exact h3⟩
end
theorem Lz{α β:Type}{f:α->β}{xs:List α}{i:Int}(d:α)(h0:0<=i)(h1:i<xs.length):xo (xs.map f) i=some (f (xs.getD i.toNat d)):=by
 have e:i=((i.toNat:Nat):Int):=by lia
 have h2:i.toNat<xs.length:=by lia
 conv=>lhs;rw[e]
 refine ay ?_;rw[zap,zan,zac h2];rfl
theorem Ez{sp:Sp}{xn:List V}{E:XK}{t:TA}{σ:St}{H:Hp}{Q:VK}:(A2 sp xn E t σ H Q)=(t σ H fun vs H1=>sp (vs++xn) H1 Q E):=rfl
theorem EA{ta:TE}{tr:TA}{σ:St}{H:Hp}{Q:List V->Hp->Prop}:(vI ta tr σ H Q)=(ta σ H fun x H1=>tr σ H1 fun xs H2=>Q (x::xs) H2):=rfl
theorem Ip{σ:St}{H:Hp}{Q:List V->Hp->Prop}:(HF σ H Q)=(Q [] H):=rfl
theorem Iq{t:TA}{σ:St}{H:Hp}{Q:VK}:(RC t σ H Q)=(t σ H fun xs H1=>xs.length<=zdg/\∀p,H1 p=none->Q (.ref p) (upd H1 p (.tup xs))):=rfl
theorem Ir{t:TA}{σ:St}{H:Hp}{Q:VK}:(RD t σ H Q)=(t σ H fun xs H1=>xs.length<=zdg/\∀p,H1 p=none->Q (.ref p) (upd H1 p (.lst xs))):=rfl
theorem LA{n:Nat}(h:n<=1000):n<=zdg:=zcc (FT h)
theorem Ba{K:zaa}{p:zc8}{i:Int}{H:Hp}{Q:VK}{xs:List V}{v:V}(hv:xo xs i=some v)(q:Q v (upd H p (.lst xs))):FN K (.ref p) (.int i) (upd H p (.lst xs)) Q:=⟨p,xs,i,v,rfl,rfl,.of ah,hv,q⟩
theorem Rep.new{K:zaa}{H:Hp}{p:zc8}{vs:List V}{ds:List Dp}(h:H p=none)(r:aI K H ds vs):Rep K (upd H p (.tup vs)) (.tup ds) (.ref p):=Rep.br.mpr ⟨p,vs,rfl,.of ah,r.mono (au.new h _)⟩
theorem LB{i j:Int}:FC (.int i) (.int j)=true:=rfl
theorem LC{i j:Str}:FC (.str i) (.str j)=true:=rfl
theorem LD{n:Nat}(h:n<=1000):(n<=zdg)=True:=eq_true (LA h)
theorem Iu{i j:Int}:(Ru i j)=(0<j/\j<1073741824):=rfl
theorem Iw{CX:AJ}{P:zdk}{w:zda}{K:zaa}{mg:Str->Option zc9}{base:Heap}{N:List Str}{qual:Str}{scope:Scope}{f:zc8}{cd:zc9}{A:zdj}{outer:List Env}{s:zdi}{H:Hp}{E:XK}:(lA CX P w K mg base N qual scope f cd A outer s H E).K=K:=rfl
theorem EB{X:Cx}{scope:Scope}{own:List Str}{ix:List Nat}{C:zc8}{s₀:zdi}{H₀:Hp}{ex:List zc8}:(jN X scope own ix C s₀ H₀ ex).K=X.K:=rfl
theorem mulR{z b:Int}(h1 : -18446744073709551616<b)(h2:b<18446744073709551616):Hu z b:=.inr ⟨h1,h2⟩
theorem mulL{z b:Int}(h1 : -18446744073709551616<z)(h2:z<18446744073709551616):Hu z b:=.inl ⟨h1,h2⟩
theorem ko{a b:Expr}{op:Operator}{pos:Pos}:ox (.BinOp a op b pos):=fun _ _=>rfl
theorem zi{x:Str}{pos:Pos}:ox (.Name x pos):=fun _ _=>rfl
theorem ax{c:Const}{k:Nat}{pos:Pos}:ox (.Constant c k pos):=fun _ _=>rfl
theorem Bb{a:Expr}{op:UnaryOp}{pos:Pos}:ox (.UnaryOp op a pos):=fun _ _=>rfl
theorem LF{a:Expr}{x:Str}{pos:Pos}:ox (.Attribute a x pos):=fun _ _=>rfl
theorem iu{a b:Expr}{op:Operator}{pos:Pos}{es:List Expr}{env:Env}:zde (.BinOp a op b pos::es) env=(false,eval (.BinOp a op b pos) env)::zde es env:=rfl
theorem lE{x:Str}{pos:Pos}{es:List Expr}{env:Env}:zde (.Name x pos::es) env=(false,eval (.Name x pos) env)::zde es env:=rfl
theorem aH{c:Const}{k:Nat}{pos:Pos}{es:List Expr}{env:Env}:zde (.Constant c k pos::es) env=(false,eval (.Constant c k pos) env)::zde es env:=rfl
theorem bq{a b:Expr}{pos:Pos}{es:List Expr}{env:Env}:zde (.Subscript a b pos::es) env=(false,eval (.Subscript a b pos) env)::zde es env:=rfl
theorem bR{f:Expr}{as:List Expr}{ks:List Keyword}{pos:Pos}{es:List Expr}{env:Env}:zde (.Call f as ks pos::es) env=(false,eval (.Call f as ks pos) env)::zde es env:=rfl
theorem lF{a:Expr}{x:Str}{pos:Pos}{es:List Expr}{env:Env}:zde (.Attribute a x pos::es) env=(false,eval (.Attribute a x pos) env)::zde es env:=rfl
theorem iw{as:List Expr}{pos:Pos}{es:List Expr}{env:Env}:zde (.List as pos::es) env=(false,eval (.List as pos) env)::zde es env:=rfl
theorem ff{as:List Expr}{k}{pos:Pos}{es:List Expr}{env:Env}:zde (.Tuple as k pos::es) env=(false,eval (.Tuple as k pos) env)::zde es env:=rfl
theorem oA{a:Expr}{gs:List Comprehension}{sc:Scope}{pos:Pos}{es:List Expr}{env:Env}:zde (.ListComp a gs sc pos::es) env=(false,eval (.ListComp a gs sc pos) env)::zde es env:=rfl
noncomputable def Iy:Expr->Option V
 |.Constant (.int i) _ _=>some (.int i)
 |.Constant (.str x) _ _=>some (.str x)
 |.Constant (.bool b) _ _=>some (.bl b)
 |.Constant .none _ _=>some .b9
 |_=>none
noncomputable def Iz (vs:List V):TA:=fun _ H Q=>Q vs H
theorem gH{X:Cx}:∀ {es:List Expr} {vs:List V},es.map Iy=vs.map some->PA X es (Iz vs)
 |[],[],_=>ae
 |[],_::_,h=>by cases h
 |_::_,[],h=>by cases h
 |e::es,v::vs,h=>by
  rw[zaq,zaq] at h
  injection h with h1 h2
  have ih:=gH (X:=X) h2;have one:∀ {e:Expr} {v:V},PE X e (tC v)->(zde (e::es) X.env=(false,eval e X.env)::zde es X.env)->PA X (e::es) (Iz (v::vs)):=fun he hs pos pins s σ H Q I q=>ai he ih hs pos pins s σ H Q I q;unfold Iy at h1;split at h1
  ·cases h1;exact one ao aH
  ·cases h1;exact one aY aH
  ·cases h1;exact one o7 aH
  ·cases h1;exact one dQ aH
  ·cases h1
theorem EC{vs:List V}{σ:St}{H:Hp}{Q:List V->Hp->Prop}:(Iz vs σ H Q)=(Q vs H):=rfl
theorem ED{td ty:TE}{σ:St}{H:Hp}{Q:VK}:(Ng td ty σ H Q)=(td σ H fun x H1=>ty σ H1 fun y H2=>∃a v,x=.ref a/\uT H2 a y (some v)/\Q v H2):=rfl
theorem Bc{σ:St}{H:Hp}{Q:VK}:(OK σ H Q)=(∀p,H p=none->Q (.ref p) (upd H p (.dK []))):=rfl
theorem EE{td ty tv:TE}{D:Ends}{σ:St}{H:Hp}:(Nh td ty tv D σ H)=(tv σ H fun v H1=>td σ H1 fun x H2=>ty σ H2 fun y H3=>∃a H4,x=.ref a/\OI H3 a y v H4/\D.nx σ H4):=rfl
theorem Nn{r:List V->Hp->VK->Prop}{t:TA}{σ:St}{H:Hp}{Q:VK}:(VE r t σ H Q)=(t σ H fun vs H1=>r vs H1 Q):=rfl
theorem RU{t:TE}{σ:St}{H:Hp}{Q:Bool->Hp->Prop}:(tB t σ H Q)=(t σ H fun x H1=>∃c,x=.bl c/\Q c H1):=rfl
theorem IA{t:TT}{σ:St}{H:Hp}{Q:Bool->Hp->Prop}:(Rk t σ H Q)=(t σ H fun c H1=>Q (!c) H1):=rfl
theorem uT.s{H:Hp}{a:zc8}{aC:List (Key×V)}{x:Str}{v:V}(e:H a=some (.dK aC))(h:b8 aC (Sum.inr x)=some v):uT H a (.str x) (some v):=by
 have:=uT.k (k:=Sum.inr x) e;rw[h] at this;exact this
end L2
namespace PM
noncomputable abbrev W:=List Nat
inductive Tr where
 |num (n:Int) |box (x:W) |bin (o:W) (l r:Tr)
 deriving DecidableEq
noncomputable def isLetter (c:Nat):Bool:=decide (97<=c)&&decide (c<=122)
noncomputable def IB (c:Nat):Bool:=decide (48<=c)&&decide (c<=57)
noncomputable def LG:List W:=[[98,111,120],[97,115,107],[112,117,116],[115,97,121],[105,102],[101,108,115,101],[119,104,105,108,101],[109,117,115,116],[115,116,111,112],[101,110,100]]
noncomputable def isName (p:W):Bool:=decide (1<=p.length)&&decide (p.length<=8)&&p.all isLetter && !LG.contains p
noncomputable def isNumber (p:W):Bool:=decide (1<=p.length)&&decide (p.length<=3)&&p.all IB&&(decide (p=[48]) || !decide (p.head?=some 48))
noncomputable abbrev P:=List W->Option (Tr×List W)
noncomputable def fac (p:W):Bool:=isNumber p ||isName p
noncomputable def OP:List W:=[[43],[45],[42]]
noncomputable def step (p:W):Nat×Bool->Option (Nat×Bool)
 |(d,true)=>if p=[40] then (if d+1>5 then none else some (d+1,true)) else if fac p then some (d,false) else none
 |(d,false)=>if p=[41] then (if d=0 then none else some (d-1,false)) else if p∈OP then some (d,true) else none
noncomputable def qH (_:List W):Prop:=True
end PM
namespace L2
open PySem PySem.Spec PyProof.Rows
structure RV(K:zaa)(C:zc8):Prop where
 q:zc1 K C [.type "ValueError",.type "Exception",.type "BaseException",.type "object"] "ValueError.__new__"=true
section
variable{X:Cx}{pins:List (zc8×Obj)}{σ:St}{H:Hp}{s:zdi}{x:zc8}
theorem Inv.told{o:HO}(I:Inv X pins σ H s)(n:H x=none)(h0:X.s₀.heap.objs.size<=x)(hL:x≠X.env.locals)(hc:∀y c,X.env.cells.lookup y=some c->c≠x)(hp:∀p∈X.pn++pins,p.1≠x)(ok:eF X.prog X.w (upd H x o) s.heap x o):Inv X pins σ (upd H x o) s:=by
 have nx:∀b u,X.s₀.heap.get? b=some u->b≠x:=fun b u e=>zaD (zay (Heap.lt_size e) h0);refine⟨I.ok,I.os,I.bare,⟨I.base.keep,I.base.slot,fun b u e n' hx=>?_,I.base.there,fun b xs e=>?_,fun b ob u e=>?_,fun b ps e=>?_⟩,I.loc,I.cell,?_,fun y c e=>?_,fun p QD=>?_,fun b u e=>?_,I.len⟩
 ·rw[av (nx b u e)];exact I.base.free b u e n' hx
 ·have:=I.base.vB b xs e;rw[av (aj this n)];exact this
 ·have:=I.base.uO b ob u e;rw[av (aj this n)];exact this
 ·obtain⟨m,e1⟩:=I.base.uP b ps e;exact⟨m,by rw[av (aj e1 n)];exact e1⟩
 ·rw[av (Ne.symm hL)];exact I.free
 ·rw[av (hc y c e)];exact I.mz y c e
 ·obtain⟨a,b,c⟩:=I.pin p QD;exact⟨a,by rw[av (hp p QD)];exact b,c⟩
 ·by_cases hb:b=x
  ·subst hb;rw[ah] at e;cases e;exact ok
  ·rw[av hb] at e;exact(I.cL b u e).uN (fun _ _ _ q=>q) (fun c q=>by rw[av (aj q n)];exact q) fun c xs q=>by rw[av (aj q n)];exact q
end
noncomputable def Its (z:Str):It:=⟨fun i _=>i<z.cps.size,fun i H x H'=>H'=H/\∃c,z.cps[i]?=some c/\x=.str ⟨#[c]⟩,fun i _=>z.cps.size<=i⟩
section
variable{X:Cx}{tg:Expr}
noncomputable def RW (tl:TE):TI:=fun σ H R=>tl σ H fun x H1=>∃z,x=.str z/\R (Its z) H1
end
noncomputable abbrev W:=PM.W
noncomputable def S (w:W):Str:=⟨w.toArray⟩
theorem vO{a b:W}:S a=S b↔a=b:=⟨fun h=>by have:=congrArg (fun z:Str=>z.cps.toList) h;simpa[S] using this,fun h=>by rw[h]⟩
noncomputable def mL:PM.Tr->Dp
 |.num n=>.tup [.str "number",.int n]
 |.box x=>.tup [.str "box",.str (S x)]
 |.bin o l r=>.tup [.str (S o),mL l,mL r]
noncomputable def aT (p:zc8) (H H':Hp):Prop:=∀b o,b≠p->H b=some o->H' b=some o
theorem aT.refl(p:zc8)(H:Hp):aT p H H:=fun _ _ _ h=>h
theorem aT.trans{p:zc8}{H H1 H2:Hp}(a:aT p H H1)(b:aT p H1 H2):aT p H H2:=fun c o n h=>b c o n (a c o n h)
theorem aT.of{p:zc8}{H H':Hp}(s:au H H'):aT p H H':=fun b o _ h=>s b o h
theorem aT.put{p:zc8}{H H1:Hp}(a:aT p H H1)(o:HO):aT p H (upd H1 p o):=fun b u n h=>by rw[av n];exact a b u n h
theorem aT.new{p q:zc8}{H H1:Hp}(a:aT p H H1)(h:H1 q=none)(o:HO):aT p H (upd H1 q o):=fun b u n e=>by rw[av (aj (a b u n e) h)];exact a b u n e
theorem aT.same{p:zc8}{H H':Hp}(a:aT p H H')(h:H p=none):au H H':=fun b o e=>a b o (aj e h) e
theorem aw{t u:TS}{D:Ends}{σ:St}{H:Hp}(h:∀U:St->Hp->Prop,(∀σ' H',U σ' H'↔u D σ' H')->t {D with nx:=U} σ H):Lk t u D σ H:=h (u D) fun _ _=>Iff.rfl
theorem VU{A:zdj}{k:Nat}(hr:gg k A):A.units+64<cLine:=hr.units
theorem kF{ta:TA}{g:TG}{tb:TS}{D:Ends}{σ:St}{H:Hp} (h:∀U:Int->Hp->Prop,(∀j H1,(∃W:Nat->Nat->St->Hp->Prop,(∃m,W 0 m σ H1)/\∀i m σ H,W i m σ H->
 ((Ei 0 j.toNat).stop i H/\D.nx σ H)\/((Ei 0 j.toNat).go i H/\∃N:St->Hp->Prop,(∀σ' H',N σ' H'->∃m',m'<m/\W (i+1) m' σ' H')/\∀x H',(Ei 0 j.toNat).Eh i H x H'->g x σ H' fun σ2 H2=>tb {D with nx:=N,ct:=N,bk:=D.nx} σ2 H2))->U j H1)->
 ta σ H fun vs H1=>∃j:Int,vs=[.int j]/\-(2 ^ 62)<=j/\j<2 ^ 62/\U j H1):Hs (Ek ta) g tb D σ H:=h _ fun _ _ x=>x
theorem RX(ns:List Int)(h:ns.length<=63):uQ (ns.map V.int) none (some 63)=ns.map V.int:=by
 unfold uQ;rw[HT.qS,show (63:Int)=((63:Nat):Int) from rfl,HT.vg,zad,zcP,Nat.sub_zero];exact zby (by rw[zad];lia)
section
variable{X:Cx}{pins:List (zc8×Obj)}{σ:St}{H:Hp}{s:zdi}{h':Heap}
theorem Inv.oB{t':Nat}{fp:List zc8}(I:Inv X pins σ H s)(k:∀b o,b ∉ fp->s.heap.get? b=some o->h'.get? b=some o)(hf:∀b∈fp,qO X pins H b):Inv X pins σ H {s with heap:=h',toks:=t' }:=by
 have Rg:∀b u,H b=some u->b ∉ fp:=fun b u e z=>by rw[(hf b z).1] at e;cases e
 refine I.step (g':=s.gens) (d':=s.drawn) (ch:=fp) (fun b hb=>?_) (fun b o _ _ hc e _=>k b o hc e) (fun b o _ _ hc e _=>⟨o.slots,k b o hc e⟩) (fun _ _ _ _ n=>n)
  (fun b o hc e=>⟨o,k b o hc e⟩) (fun _ _ e=>e) (fun _ _ _ e=>e) (fun b ps e=>⟨#[],by rw[e];simp⟩) (fun m hm=>?_) (fun b u e=>?_) I.bare
 ·obtain⟨_,f1,_,f3,f4,f5⟩:=hf b hb;exact⟨f3,f1,f4,f5⟩
 ·obtain⟨o,es,ep,ho,r⟩:=hm;exact⟨o,es,ep,k _ o (fun z=>(hf _ z).2.1 rfl) ho,r⟩
 ·refine(I.cL b u e).uN (fun c v hc q=>k c v ?_ q) (fun _ q=>q) fun _ _ q=>q;rcases hc with z |z
  ·rw[z];exact Rg b u e
  ·exact Rg c _ z
end
noncomputable def Np (K:zaa) (a:zc8):It:=
 ⟨fun i H=>∃xs x,gM K H a xs/\xs[i]?=some x,fun i H x H'=>∃p y,x=.ref p/\H p=none/\H'=upd H p (.tup [.int i,y])/\∀xs,gM K H a xs->xs[i]?=some y,fun i H=>∃xs,gM K H a xs/\xs.length<=i⟩
theorem FX{P:zdk}{w:zda}{K:zaa}{elts:List Expr}{x1}{pos:Pos}(a e it:zc8)(Cr:e≠it) :
 Turn P w K (.Tuple elts x1 pos) (Np K a) [e,it] e (fun i h=>(∃old,IsEnum h e it i old)/\h.IsListIter it a i) where
 mem:=by simp
 obj:=fun i h st b hb=>by
  obtain⟨⟨old,he⟩,o,eo,c,d⟩:=st;rcases zae.mp hb with rfl |hb
  ·exact⟨_,he,fun v z=>by cases (show Data.fields _=Data.cell v from z)⟩
  ·have z:b=it:=by simpa using hb
   subst z;exact⟨o,eo,fun v z=>by rw[d] at z;cases z⟩
 keep:=fun i h h' st k=>⟨st.1.elim fun old he=>⟨old,k e (by simp) _ he⟩,st.2.at fun o x=>k it (by simp) o x⟩
 item:=by
  intro X hP hw hK hc i pins s σ H E I hf st hg;subst hP hw hK;obtain⟨xs,x,hq,hx⟩:=hg;obtain⟨⟨old,he⟩,hit⟩:=st;obtain⟨bj,rv,p,hz⟩:=I.list hq;obtain⟨u,hu,ru⟩:=rv.get hx;refine wpAny_pyNext_enum_item he hit p.isList (x:=u) (by simpa using hu) Cr fun h' ho OQ hT hsz hk=>?_;refine⟨_,rfl,?_⟩;refine wpAny_letOwnedTupleGo_enum ho fun h2 K4 sb=>?_;have RY:e<s.heap.objs.size:=Heap.lt_size he;have EF:it<s.heap.objs.size:=by obtain⟨_,x,_⟩:=hit;exact Heap.lt_size x
  have I1:Inv X pins σ H {s with heap:=h2,toks:=s.toks+1}:=I.oB (t':=s.toks+1) (fun b o hb q=>(sb.2 b fun z=>hb (by simp[z])).trans (hk b o (fun z=>hb (by simp[z])) (fun z=>hb (by simp[z])) q)) hf;have fr:H s.heap.objs.size=none:=I.cL.fresh (zah _);obtain⟨g0,g1,g2,g3,g4,g5⟩:=I.Fx (zah _) fr;have LH:h2.get? s.heap.objs.size=some {cls:=.type "tuple",data:=.seq #[.int i s.toks,u]}:=(sb.2 _ (zbD RY)).trans hT;have I2:=I1.told (o:=.tup [.int i,x]) fr I.sz g1 g4 g5 ⟨(show (2:Nat)<=zdg by decide),[.int i s.toks,u],.cons ⟨_,rfl⟩ (.cons ru .nil),⟨_,LH,rfl,_,rfl⟩⟩;refine⟨.ref s.heap.objs.size,_,I2,rfl,⟨_,x,rfl,fr,rfl,fun ys hy=>by rw[I.AX hy hq];exact hx⟩,⟨⟨_,by exact_mod_cast K4⟩,OQ.at fun o q=>(sb.2 it (Ne.symm Cr)).trans q⟩,fun b hb=>?_⟩;rw[av ?_]
  ·exact(hf b hb).1
  ·rcases zae.mp hb with rfl |hb
   ·exact zaD RY
   ·have z:b=it:=by simpa using hb
    subst z;exact zaD EF
 done:=by
  intro X hP hw hK hc i pins s σ H E I hf st hg;subst hP hw hK;obtain⟨xs,hq,hx⟩:=hg;obtain⟨⟨old,he⟩,hit⟩:=st;obtain⟨bj,rv,p,hz⟩:=I.list hq;have hl:=rv.length;exact wpAny_pyNext_enum_end (I.ok.hd hc) he hit p.isList (by simp;lia) fun h' eb=>⟨rfl,I.oB (t':=s.toks) (fun b o hb q=>eb b o (fun z=>hb (by simp[z])) q) hf⟩
 self:=fun _ _ _ _ _ st h=>st.1.elim fun _ he=>wpAny_pyIter_enum he h
noncomputable def Nq (K:zaa) (ta:TA):TI:=fun σ H R=>ta σ H fun vs H1=>∃a,vs=[.ref a]/\(∃xs,gM K H1 a xs)/\R (Np K a) H1
theorem EG{X:Cx}{elts:List Expr}{x1}{tp:Pos}{a:Expr}{ta:TA}{p pos:Pos}(hg:Gl X "enumerate")(hm:X.mg "enumerate"=none)(ha:PA X [a] ta)(hs:zde [a] X.env=[(false,eval a X.env)]:=by rfl) :
 PI X (.Tuple elts x1 tp) (.Call (.Name "enumerate" p) [a] [] pos) (Nq X.K ta):=by
 intro pins s σ H R I h;refine Call_ (sY I hg hm PyProof.Rows.Boot.«enumerate» (zbj (eD (ha pos pins s σ H _ I h) fun us s1 zqz=>?_) hs rfl));obtain⟨vs,H1,I1,r1,q1⟩:=zqz;obtain⟨l,e,⟨xs,hq⟩,q⟩:=q1;subst e;cases r1 with
 |cons r rr=>
  cases rr;cases (show _=Value.ref l from r);obtain⟨bj,rv,p,hz⟩:=I1.list hq;refine call_enumerate_list p.isList fun h' he hit hsz hk=>?_;refine wpAny_pyIter_enum he ?_;have fr:∀b,s1.heap.objs.size<=b->H1 b=none:=fun b hb=>I1.cL.fresh hb;refine⟨s1.heap.objs.size+1,[s1.heap.objs.size+1,s1.heap.objs.size],_,_,H1,rfl,I1.kept (t':=s1.toks) hk,FX l _ _ (Nat.succ_ne_self _),⟨⟨_,he⟩,hit⟩,fun b hb=>?_,q⟩;have RZ:s1.heap.objs.size<=b:=by
   rcases zae.mp hb with rfl |hb
   ·exact Nat.le_succ _
   ·have z:b=s1.heap.objs.size:=by simpa using hb
    rw[z];exact zah _
  exact I1.Fx RZ (fr b RZ)
theorem Be{K:zaa}{a:zc8}{xs:List V}{g:TG}{tb:TS}{D:Ends}{σ:St}{H:Hp}(Pv:Nat->St->Hp->Prop)(h0:Pv 0 σ H)(hl:∀i σ H,i<=xs.length->Pv i σ H->gM K H a xs)
 (hs:∀i x σ H p,xs[i]?=some x->Pv i σ H->H p=none->g (.ref p) σ (upd H p (.tup [.int i,x])) fun σ2 H2=>tb {D with nx:=Pv (i+1),ct:=Pv (i+1),bk:=D.nx} σ2 H2) (hd:∀σ H,Pv xs.length σ H->D.nx σ H) :
 ∃W:Nat->Nat->St->Hp->Prop,(∃m,W 0 m σ H)/\∀i m σ H,W i m σ H->
  ((Np K a).stop i H/\D.nx σ H)\/((Np K a).go i H/\∃N:St->Hp->Prop,(∀σ' H',N σ' H'->∃m',m'<m/\W (i+1) m' σ' H')/\∀x H',(Np K a).Eh i H x H'->g x σ H' fun σ2 H2=>tb {D with nx:=N,ct:=N,bk:=D.nx} σ2 H2):=by
 refine⟨fun i m σ H=>m=xs.length-i/\i<=xs.length/\Pv i σ H,⟨xs.length,by simp,zaU _,h0⟩,?_⟩
 rintro i m σ H ⟨rfl,hi,p⟩
 have q:=hl i σ H hi p;by_cases o8:i<xs.length
 ·refine .inr ⟨⟨xs,xs[i],q,by simp[o8]⟩,Pv (i+1),fun σ' H' p'=>⟨xs.length-(i+1),by lia,rfl,o8,p'⟩,fun x H' y=>?_⟩;obtain⟨pp,v,rfl,hn,rfl,y⟩:=y;exact hs i v σ H pp (y xs q) p hn
 ·have e:i=xs.length:=by lia
  subst e;exact .inl ⟨⟨xs,q,zah _⟩,hd σ H p⟩
section
variable{prog:zdk}{w:zda}{A:zdj}{E:zc9->zdi->Prop}{s:zdi}
theorem Bf{it l:zc8}{bj:Array zc9}(Cr:l≠it):∀(n i:Nat) (s:zdi) (Q:List zc9->zdi->Prop),s.heap.IsListIter it l i->s.heap.IsList l bj->i+n<=bj.size->
 (∀h',h'.IsListIter it l (i+n)->Heap.SameBut it s.heap h'->Q ((bj.toList.drop i).take n) {s with heap:=h' })->wpAny (model prog w) A (draw (.ref it) n) Q E s
 |0,i,s,Q,a,_,_,q=>by
  show wpAny _ _ (pure []) Q E s;exact zdc (by simpa using q s.heap a (Heap.SameBut.refl ..))
 |n+1,i,s,Q,a,b,le,q=>by
  have lt:i<bj.size:=by lia
  show wpAny _ _ (pyNext (.ref it) >>= _) Q E s;refine zdb (wpAny_pyNext_list_item a b (x:=bj[i]) (by simp[lt]) fun h1 a1 s1=>?_);have b1:h1.IsList l bj:=by
   obtain⟨o,ho,r⟩:=b;exact⟨o,(s1.2 l Cr).trans ho,r⟩
  refine zdb (zdd (Bf Cr n (i+1) _ _ a1 b1 (by lia) fun h2 a2 s2=>zdc ?_));have e:bj.toList.drop i=bj[i]::bj.toList.drop (i+1):=by simp[zbd,lt]
  have z:=q h2 (by rw[show i+(n+1)=i+1+n by lia];exact a2) (s1.trans s2);rw[e,List.take_succ_cons] at z;exact z
theorem C2{l:zc8}{bj:Array zc9}{ts:List (Bool×(zc9->Sem Unit))}{Q:Unit->zdi->Prop}(hh:A.handled=none)(b:s.heap.IsList l bj)(hn:ts.length=bj.size)(K1:ts.findIdx? (·.1)=none)
 (h:∀h',Heap.ExtBut s.heap.objs.size s.heap h'->wpAny (model prog w) A (assignInOrder (ts.map (·.2)) bj.toList) Q E {s with heap:=h' }):wpAny (model prog w) A (unpack (.ref l) ts) Q E s:=by
 have lt:l≠s.heap.objs.size:=by obtain⟨o,ho,_⟩:=b;exact zaD (Heap.lt_size ho)
 unfold unpack;rw[hn,K1];refine zdb (zdd ?_);unfold unpackItems;refine zdb ?_;unfold notIterableAtAll;refine zdb (wpAny_specialOf b.typeIs slot_list_iter.lookup ?_);refine zdc ?_;simp only[zaz,if_false];refine zdb (zdd (wpAny_pyIter_list b ?_));have uN:∀ {h1 h2:Heap},Heap.ExtBut s.heap.objs.size h1 h2->h1.IsList l bj->h2.IsList l bj:=fun {h1 h2} e x=>by
  obtain⟨o,ho,r⟩:=x;exact⟨o,e l o lt ho,r⟩
 have b0:(s.heap.push {cls:=.type "list_iterator",data:=.fields #[.ref l,.int 0 0]}).IsList l bj:=by
  obtain⟨o,ho,r⟩:=b;exact⟨o,Heap.get?_push_of_some _ ho,r⟩
 refine zdb (zdd (Bf lt bj.size 0 _ _ ⟨_,Heap.get?_push_size _ rfl,rfl,rfl⟩ b0 (by lia) fun h1 a1 s1=>?_));have all:List.take bj.size (List.drop 0 bj.toList)=bj.toList:=by
  rw[zcP];exact zby (by simp)
 rw[all,if_neg (by simp)];have b1:h1.IsList l bj:=uN s1.extBut b0;refine zdb (zdd (wpAny_pyNext_list_end hh a1 b1 (by simp) fun h2 e2=>?_));simp only[Option.isSome_none,zaz,if_false];exact zdc (h h2 fun c o hc e=>e2 c o hc (s1.extBut c o hc (Heap.get?_push_of_some _ e)))
end
noncomputable def OR (K:zaa) (n:Nat) (t:Ll):TG:=fun v σ H Q=>∃a xs,v=.ref a/\gM K H a xs/\xs.length=n/\t xs σ H Q
theorem C3{X:Cx}{es:List Expr}{k}{pos:Pos}{t:Ll}{n:Nat}(hc:X.calm=true)(h:Rm X es t)
 (hn:(assignEach es X.env).length=n:=by rfl) (K1:(assignEach es X.env).findIdx? (·.1)=none:=by rfl):PG X (.Tuple es k pos) (OR X.K n t):=by
 intro pins s σ H v u Q I r hw;obtain⟨a,xs,rfl,hq,hl,hw⟩:=hw;cases r;obtain⟨bj,rv,hp,_⟩:=I.list hq;rw[assign_Tuple];refine zdb (wpAny_standAt (C2 (I.ok.hd hc) hp.isList (by simp[hn,<- hl,rv.length]) K1 fun h' hx=>?_));have I1:Inv X pins σ H {s with heap:=h' }:=I.kept (t':=s.toks) fun b o e=>hx b o (zaD (Heap.lt_size e)) e;exact h pins _ σ H xs _ Q I1 (by simpa using rv) hw
open PySem.SeqAt
theorem oC{X:Cx}(hu:X.A.units+1<cLine):qG X (compareOp .NotEq) (fun x y H Q=>∃a b xs,x=.ref a/\y=.ref b/\gM X.K H a xs/\gM X.K H b []/\Q (.bl (!xs.isEmpty)) H):=by
 intro pins s σ H x y v u Q I rx ry h;obtain⟨a,b,xs,rfl,rfl,h1,h2,q⟩:=h;cases (show v=Value.ref a from rx);cases (show u=Value.ref b from ry);obtain⟨bj,v1,p1,_⟩:=I.list h1;obtain⟨its',v2,p2,_⟩:=I.list h2;cases v2;cases xs with
 |nil=>
  cases v1;exact(RcNeAt.lists (e:=fun _=>true) p1.isList p2.isList rfl (by lia) (fun j h1=>absurd h1 (by simp))) _ _ _ _ ⟨.bl false,H,I,rfl,q⟩
 |cons z zs=>
  cases v1;exact(RcNeAt.lists_lengths p1.isList p2.isList (by simp) (by lia)) _ _ _ _ ⟨.bl true,H,I,rfl,q⟩
noncomputable def fX (val:W->Int):PM.Tr->Int
 |.num n=>n
 |.box x=>val x
 |.bin o l r=>if o=[43] then fX val l+fX val r else if o=[45] then fX val l-fX val r else fX val l*fX val r
theorem gR{K:zaa}{tl:TE}{g:TG}{tb:TS}{D:Ends}{σ:St}{H:Hp} (h:∀U:zc8->Hp->Prop,(∀a H1,(∃W:Nat->Nat->St->Hp->Prop,(∃m,W 0 m σ H1)/\∀i m σ H,W i m σ H->
 ((G6 K a).stop i H/\D.nx σ H)\/((G6 K a).go i H/\∃N:St->Hp->Prop,(∀σ' H',N σ' H'->∃m',m'<m/\W (i+1) m' σ' H')/\∀x H',(G6 K a).Eh i H x H'->g x σ H' fun σ2 H2=>tb {D with nx:=N,ct:=N,bk:=D.nx} σ2 H2))->U a H1)->
 tl σ H fun x H1=>∃a,x=.ref a/\(∃xs,gM K H1 a xs)/\U a H1):Hs (Ej K tl) g tb D σ H:=h _ fun _ _ x=>x
theorem EH{a:Option V}{r:St}{H:Hp}{Q:VK}:(eW 10 (a::r) H Q)=(eW 9 r H Q):=rfl
theorem EI{a:Option V}{r:St}{H:Hp}{Q:VK}:(eW 11 (a::r) H Q)=(eW 10 r H Q):=rfl
theorem EJ{a:Option V}{r:St}{H:Hp}{Q:VK}:(eW 12 (a::r) H Q)=(eW 11 r H Q):=rfl
end L2
namespace PG
open PM (W Tr)
structure fO where
 name:W
 size:Int
 first:Int
inductive bX where
 |ask (k:Int) (b:W)
 |put (k:Int) (b:W) (e:Tr)
 |say (k:Int) (e:Tr)
 |cB (k:Int) (sg:W) (l r:Tr)
 |stop (k:Int)
 |ifs (k:Int) (sg:W) (l r:Tr) (a b:List bX)
 |jc (k:Int) (sg:W) (l r:Tr) (a:List bX)
noncomputable def bX.row:bX->Int
 |.ask k _=>k |.put k _ _=>k |.say k _=>k |.cB k _ _ _=>k |.stop k=>k |.ifs k _ _ _ _ _=>k |.jc k _ _ _ _=>k
inductive Wd where
 |ask |put |say |cB |stop |ifs |jc |C4 |fin
 deriving DecidableEq
noncomputable def bX.wd:bX->Wd
 |.ask _ _=>.ask |.put _ _ _=>.put |.say _ _=>.say |.cB _ _ _ _=>.cB |.stop _=>.stop |.ifs _ _ _ _ _ _=>.ifs |.jc _ _ _ _ _=>.jc
noncomputable def Bg:Nat->Int->Int
 |0,c=>c
 |n+1,c=>Bg n (c/1000003)
noncomputable def next (sc:List Int) (p:Nat):Int:=
 let many:=max 1 sc.length
 let cell:=if sc=[] then 0 else sc.getD (p%many) 0
 if cell ≥ 10 ^ 18 then Bg (min 60 (p/many)) cell%1000003 else
  let a:=(cell%2147483629+51437*((p:Int)+1)*((p:Int)+3)+1409)%2147483629
  let b:=a*a%2147483587
  let c:=(b*69621+401*(p:Int)+7)%2147483579
  c*c%2147483563/16
noncomputable def pick {α:Type} (d:α) (l:List α) (n:Int):α:=l.getD n.toNat d
noncomputable def b7 (sc:List Int) (bs:List fO):Nat->Nat->Tr×Nat
 |0,p=>
  let kind:=next sc p%7
  if bs≠[]/\kind<5 then (.box (pick ⟨[],0,0⟩ bs (next sc (p+1)%bs.length)).name,p+2) else (.num (next sc (p+1)%pick 1 [3,12,1000] (next sc (p+2)%3)),p+3)
 |d+1,p=>
  let kind:=next sc p%7
  if kind<3 then
   let one:=b7 sc bs d (p+1)
   let two:=b7 sc bs d one.2
   (.bin (pick [] [[43],[45],[42]] kind) one.1 two.1,two.2)
  else if bs≠[]/\kind<5 then (.box (pick ⟨[],0,0⟩ bs (next sc (p+1)%bs.length)).name,p+2) else (.num (next sc (p+1)%pick 1 [3,12,1000] (next sc (p+2)%3)),p+3)
noncomputable def c6:List W:=[[99],[98,98],[97,97,97],[98,111,120,101,115]]
noncomputable def bo (sc:List Int) (kr:Int):Nat->Nat->Nat->List fO×Nat
 |0,_,p=>([],p)
 |n+1,k,p=>
  let size:=2+next sc p%3
  let r:=bo sc kr n (k+1) (p+2)
  (⟨pick [] c6 (((k:Int)-kr)%4),size,next sc (p+1)%size⟩::r.1,r.2)
noncomputable def Cs:List W:=[[60],[61]]
noncomputable def bC (sc:List Int) (bs:List fO) (k:Int) (p:Nat):bX×Nat:=
 let kind:=next sc p%10
 if bs≠[]/\kind<3 then (.ask k (pick ⟨[],0,0⟩ bs (next sc (p+1)%bs.length)).name,p+2)
 else if bs≠[]/\kind<6 then
  let e:=b7 sc bs 2 (p+2)
  (.put k (pick ⟨[],0,0⟩ bs (next sc (p+1)%bs.length)).name e.1,e.2)
 else if kind=6 then
  let l:=b7 sc bs 1 (p+2)
  let r:=b7 sc bs 1 l.2
  (.cB k (pick [] Cs (next sc (p+1)%2)) l.1 r.1,r.2)
 else if kind=7 then
  if next sc (p+1)%3=0 then (.stop k,p+2) else
   let e:=b7 sc bs 2 (p+2)
   (.say k e.1,e.2)
 else
  let e:=b7 sc bs 2 (p+1)
  (.say k e.1,e.2)
structure Frame where
 kind:Nat
 body:List bX
 k:Int:=0
 sg:W:=[]
 l:Tr:=.num 0
 r:Tr:=.num 0
 first:List bX:=[]
noncomputable def Frame.told (f:Frame):bX:=if f.kind=1 then .ifs f.k f.sg f.l f.r f.body [] else if f.kind=2 then .ifs f.k f.sg f.l f.r f.first f.body else .jc f.k f.sg f.l f.r f.body
noncomputable def close:List Frame->List Frame
 |f::g::r=>{g with body:=g.body++[f.told]}::r
 |fs=>fs
noncomputable abbrev Row:=Int×Wd
noncomputable def number (n:Nat) (rows:List Row) (mode:Int):Int:=
 if mode=2 then n+1+20*rows.length else if mode=3 then n+1+(rows.filter fun r=>r.2≠.C4/\r.2≠.fin).length else n+1+rows.length
structure Walk where
 p:Nat
 aO:List Frame
 rows:List Row
noncomputable def turn (sc:List Int) (bs:List fO) (mode:Int) (w:Walk):Walk:=
 let k:=number bs.length w.rows mode
 let way:=next sc w.p%12
 if way<2/\w.aO.length>1 then ⟨w.p+1,close w.aO,w.rows++[(k,.fin)]⟩
 else match w.aO with
 |[]=>w
 |f::r=>
  if way=2/\f.kind=1 then ⟨w.p+1,{f with kind:=2,body:=[],first:=f.body}::r,w.rows++[(k,.C4)]⟩
  else if way<6/\w.aO.length<4 then
   let l:=b7 sc bs 1 (w.p+2)
   let e:=b7 sc bs 1 l.2
   let kd:=pick 1 [1,1,3] (way%3)
   ⟨e.2,{kind:=kd,body:=[],k:=k,sg:=pick [] Cs (next sc (w.p+1)%2),l:=l.1,r:=e.1}::w.aO,w.rows++[(k,if kd=3 then .jc else .ifs)]⟩
  else
   let s:=bC sc bs k (w.p+1)
   ⟨s.2,{f with body:=f.body++[s.1]}::r,w.rows++[(k,s.1.wd)]⟩
noncomputable def turns (sc:List Int) (bs:List fO) (mode:Int):Nat->Walk->Walk
 |0,w=>w
 |n+1,w=>turns sc bs mode n (turn sc bs mode w)
noncomputable def ends (n:Nat) (mode:Int):Nat->Walk->Walk
 |0,w=>w
 |m+1,w=>if w.aO.length>1 then ends n mode m ⟨w.p,close w.aO,w.rows++[(number n w.rows mode,.fin)]⟩ else w
structure Prog where
 aA:List fO
 body:List bX
noncomputable def bS (sc:List Int) (many:Nat) (p:Nat):Prog×List Row:=
 let bs:=bo sc (next sc p%4) (next sc (p+1)%4).toNat 0 (p+2)
 let w:=ends bs.1.length (next sc bs.2%4) 4 (turns sc bs.1 (next sc bs.2%4) many ⟨bs.2+1,[{kind:=0,body:=[]}],[]⟩)
 (⟨bs.1,(w.aO.head?.map (·.body)).getD []⟩,w.rows)
end PG
namespace PG
open PM (W Tr)
mutual
noncomputable def dh:bX->List Row
 |.ifs k _ _ _ a b=>(k,.ifs)::(bH a++bH b)
 |.jc k _ _ _ a=>(k,.jc)::bH a
 |.ask k _=>[(k,.ask)]
 |.put k _ _=>[(k,.put)]
 |.say k _=>[(k,.say)]
 |.cB k _ _ _=>[(k,.cB)]
 |.stop k=>[(k,.stop)]
noncomputable def bH:List bX->List Row
 |[]=>[]
 |s::r=>dh s++bH r
end
theorem tF:∀a b:List bX,bH (a++b)=bH a++bH b
 |[],b=>by simp[bH]
 |s::r,b=>by
  show bH (s::(r++b))=_;rw[bH,bH,tF r b,zaZ]
noncomputable def Frame.flat (f:Frame):List Row:=(if f.kind=0 then [] else [(f.k,if f.kind=3 then Wd.jc else .ifs)])++(if f.kind=2 then bH f.first else [])++bH f.body
noncomputable def cM:List Frame->List Row
 |[]=>[]
 |f::r=>cM r++f.flat
noncomputable def plainRow (r:Row):Bool:=decide (r.2≠.C4/\r.2≠.fin)
noncomputable def mZ:List Frame->Prop
 |[]=>False
 |[f]=>f.kind=0
 |f::g::r=>(f.kind=1\/f.kind=2\/f.kind=3)/\mZ (g::r)
theorem FY{f:Frame}(h:f.kind=1\/f.kind=2\/f.kind=3):dh f.told=f.flat:=by
 rcases h with h |h |h<;>simp[Frame.told,Frame.flat,h,dh,bH]
theorem lG:∀ {l:List Frame},mZ l->cM (close l)=cM l
 |[],h=>h.elim
 |[f],_=>rfl
 |f::g::r,h=>by
  have e:=FY h.1;show cM r++Frame.flat _=cM r++g.flat++f.flat;simp only[Frame.flat,tF,bH,e,zaC];simp[Frame.flat]
theorem m7:∀ {l:List Frame},mZ l->mZ (close l)/\(close l).length=max 1 (l.length-1)
 |[],h=>h.elim
 |[f],h=>⟨h,rfl⟩
 |[f,g],h=>⟨h.2,rfl⟩
 |f::g::x::r,h=>⟨⟨h.2.1,h.2.2⟩,by simp[close]⟩
theorem IC(sc:List Int)(bs:List fO)(k:Int)(p:Nat):dh (bC sc bs k p).1=[(k,(bC sc bs k p).1.wd)]/\(bC sc bs k p).1.wd≠.C4/\(bC sc bs k p).1.wd≠.fin:=by
 unfold bC;simp only;split
 ·simp[dh,bX.wd]
 ·split
  ·simp[dh,bX.wd]
  ·split
   ·simp[dh,bX.wd]
   ·split
    ·split<;>simp[dh,bX.wd]
    ·simp[dh,bX.wd]
structure c7(w:Walk):Prop where
 aO:mZ w.aO
 flat:cM w.aO=w.rows.filter plainRow
 most:w.aO.length<=4
theorem q0(sc:List Int)(bs:List fO)(mode:Int){w:Walk}(h:c7 w):c7 (turn sc bs mode w):=by
 obtain⟨p,aO,rows⟩:=w;obtain⟨h1,h2,h3⟩:=h;simp only at h1 h2 h3;unfold turn;simp only;split
 ·obtain⟨a,b⟩:=m7 h1;refine⟨a,?_,?_⟩
  ·show cM (close aO)=_;rw[lG h1,h2,zaW];simp[plainRow]
  ·show (close aO).length<=4;lia
 ·cases aO with
  |nil=>exact h1.elim
  |cons f r=>
   simp only;split
   ·rename_i hc;obtain⟨_,hk⟩:=hc;refine⟨?_,?_,h3⟩
    ·cases r with
     |nil=>rw[mZ] at h1;lia
     |cons g r=>exact⟨.inr (.inl rfl),h1.2⟩
    ·show cM r++_=_;rw[zaW,<- h2];simp[cM,Frame.flat,plainRow,bH,hk]
   ·split
    ·rename_i hc;have kk:∀n:Int,pick 1 [1,1,3] n=1\/pick 1 [1,1,3] n=3:=fun n=>by
      unfold pick;rcases n.toNat with _ |_ |_ |m<;>simp
     have R0:=kk (next sc p%12%3);generalize pick 1 [1,1,3] (next sc p%12%3)=kd at R0 ⊢;refine⟨⟨?_,h1⟩,?_,?_⟩
     ·simp only;lia
     ·show cM (f::r)++_=_;rw[zaW,h2];rcases R0 with rfl |rfl<;>simp[Frame.flat,plainRow,bH]
     ·simp only[zaj] at hc ⊢;lia
    ·obtain⟨a,b,c⟩:=IC sc bs (number bs.length rows mode) (p+1);refine⟨?_,?_,h3⟩
     ·cases r with
      |nil=>exact h1
      |cons g r=>exact⟨h1.1,h1.2⟩
     ·show cM r++_=_;rw[zaW,<- h2];simp[cM,Frame.flat,tF,bH,a,plainRow,b,c]
theorem rh(sc:List Int)(bs:List fO)(mode:Int):∀(n:Nat) {w:Walk},c7 w->c7 (turns sc bs mode n w)
 |0,_,h=>h
 |n+1,_,h=>rh sc bs mode n (q0 sc bs mode h)
theorem zj(n:Nat)(mode:Int):∀(m:Nat) {w:Walk},c7 w->w.aO.length<=m+1->c7 (ends n mode m w)/\(ends n mode m w).aO.length=1
 |0,w,h,hl=>by
  have:w.aO≠[]:=fun e=>by have:=h.aO;rw[e] at this;exact this
  have:0<w.aO.length:=zbc.mpr this;exact⟨h,by show w.aO.length=1;lia⟩
 |m+1,w,h,hl=>by
  unfold ends;split
  ·obtain⟨a,b⟩:=m7 h.aO;refine zj n mode m ⟨a,?_,?_⟩ ?_
   ·show cM (close w.aO)=_;rw[lG h.aO,h.flat,zaW];simp[plainRow]
   ·show (close w.aO).length<=4;have:=h.most;lia
   ·show (close w.aO).length<=_;lia
  ·have:w.aO≠[]:=fun e=>by have:=h.aO;rw[e] at this;exact this
   have:0<w.aO.length:=zbc.mpr this;exact⟨h,by lia⟩
theorem yg(sc:List Int)(many p:Nat):bH (bS sc many p).1.body=(bS sc many p).2.filter plainRow:=by
 unfold bS;simp only;generalize bo sc (next sc p%4) (next sc (p+1)%4).toNat 0 (p+2)=bs;have h0:c7 ⟨bs.2+1,[{kind:=0,body:=[]}],[]⟩:=⟨rfl,rfl,by simp⟩
 have h1:=rh sc bs.1 (next sc bs.2%4) many h0;obtain⟨h2,h3⟩:=zj bs.1.length (next sc bs.2%4) 4 h1 (by have:=h1.most;lia);generalize ends bs.1.length (next sc bs.2%4) 4 (turns sc bs.1 (next sc bs.2%4) many ⟨bs.2+1,[{kind:=0,body:=[]}],[]⟩)=w at h2 h3;obtain⟨pp,aO,rows⟩:=w;obtain⟨f,rfl⟩:∃f,aO=[f]:=zbN.mp h3;have hk:f.kind=0:=h2.aO;have:=h2.flat;simp[cM,Frame.flat,hk] at this;simpa using this
end PG
namespace PG
open PM (W Tr)
noncomputable abbrev dN:=Int×Wd×List Int
noncomputable def bc:List bX->Int->Int
 |[],x=>x
 |s::_,_=>s.row
mutual
noncomputable def fW:bX->Int->List dN
 |.ifs k _ _ _ a b,x=>(k,.ifs,[bc a x,bc b x])::(aL a x++aL b x)
 |.jc k _ _ _ a,x=>(k,.jc,[bc a k,x])::aL a k
 |.ask k _,x=>[(k,.ask,[x])]
 |.put k _ _,x=>[(k,.put,[x])]
 |.say k _,x=>[(k,.say,[x])]
 |.cB k _ _ _,x=>[(k,.cB,[x])]
 |.stop k,_=>[(k,.stop,[0])]
noncomputable def aL:List bX->Int->List dN
 |[],_=>[]
 |s::r,x=>fW s (bc r x)++aL r x
end
mutual
theorem FZ:∀(s:bX) (x:Int),(fW s x).map (fun r=>(r.1,r.2.1))=dh s
 |.ifs k _ _ _ a b,x=>by simp[fW,dh,cY a x,cY b x]
 |.jc k _ _ _ a,x=>by simp[fW,dh,cY a k]
 |.ask k _,x=>rfl
 |.put k _ _,x=>rfl
 |.say k _,x=>rfl
 |.cB k _ _ _,x=>rfl
 |.stop k,_=>rfl
theorem cY:∀(b:List bX) (x:Int),(aL b x).map (fun r=>(r.1,r.2.1))=bH b
 |[],_=>rfl
 |s::r,x=>by simp[aL,bH,FZ s _,cY r x]
end
inductive Tg where
 |row (k:Int) |side (k:Int) (b:Bool) |cB (k:Int) |fin
 deriving DecidableEq
noncomputable def QF (r:Row):List Tg:=(if plainRow r then [.row r.1] else [])++(if r.2=.ifs\/r.2=.jc then [.side r.1 true,.side r.1 false] else [])++(if r.2=.cB then [.cB r.1] else [])
noncomputable def ID (rows:List Row):List Tg:=rows.flatMap QF++[.fin]
theorem jf(sc:List Int)(bs:List fO):∀(d p:Nat),p<=(b7 sc bs d p).2/\(b7 sc bs d p).2+1<=p+4*2 ^ d
 |0,p=>by
  unfold b7;simp only;split<;>simp only<;>lia
 |d+1,p=>by
  have e:(2:Nat) ^ (d+1)=2*2 ^ d:=by rw[zcy];lia
  have one:1<=2 ^ d:=zbY;unfold b7;simp only;rw[e];split
  ·obtain⟨a1,a2⟩:=jf sc bs d (p+1);obtain⟨b1,b2⟩:=jf sc bs d (b7 sc bs d (p+1)).2;simp only;lia
  ·split<;>simp only<;>lia
theorem C5(sc:List Int)(bs:List fO)(k:Int)(p:Nat):p<=(bC sc bs k p).2/\(bC sc bs k p).2<=p+18:=by
 have e1:=fun q=>jf sc bs 1 q;have e2:=fun q=>jf sc bs 2 q;unfold bC;simp only;split
 ·simp only;lia
 ·split
  ·have:=e2 (p+2);simp only;lia
  ·split
   ·have h1:=e1 (p+2);have h2:=e1 (b7 sc bs 1 (p+2)).2;simp only;lia
   ·split
    ·split
     ·simp only;lia
     ·have:=e2 (p+2);simp only;lia
    ·have:=e2 (p+1);simp only;lia
theorem OS(sc:List Int)(bs:List fO)(mode:Int)(w:Walk):w.p<=(turn sc bs mode w).p/\(turn sc bs mode w).p<=w.p+20:=by
 have e1:=fun q=>jf sc bs 1 q;have e2:=fun k q=>C5 sc bs k q;obtain⟨p,aO,rows⟩:=w;unfold turn;simp only;split
 ·simp only;lia
 ·cases aO with
  |nil=>simp only;lia
  |cons f r=>
   simp only;split
   ·simp only;lia
   ·split
    ·have h1:=e1 (p+2);have h2:=e1 (b7 sc bs 1 (p+2)).2;simp only;lia
    ·have:=e2 (number bs.length rows mode) (p+1);simp only;lia
theorem jg(sc:List Int)(p:Nat):0<=next sc p/\next sc p<2 ^ 28:=by
 unfold next;simp only;split
 ·have a:=zaI (Bg (min 60 (p/max 1 sc.length)) (if sc=[] then 0 else sc.getD (p%max 1 sc.length) 0)) (show (1000003:Int)≠0 by decide);have b:=zaE (Bg (min 60 (p/max 1 sc.length)) (if sc=[] then 0 else sc.getD (p%max 1 sc.length) 0)) (show (0:Int)<1000003 by decide);lia
 ·generalize (((((if sc=[] then 0 else sc.getD (p%max 1 sc.length) 0)%2147483629+51437*((p:Int)+1)*((p:Int)+3)+1409)%2147483629)*(((if sc=[] then 0 else sc.getD (p%max 1 sc.length) 0)%2147483629+51437*((p:Int)+1)*((p:Int)+3)+1409)%2147483629)%2147483587*69621+401*(p:Int)+7)%2147483579)=c;have a:=zaI (c*c) (show (2147483563:Int)≠0 by decide);have b:=zaE (c*c) (show (0:Int)<2147483563 by decide);lia
theorem m9(sc:List Int)(bs:List fO)(k:Int)(p:Nat):PG.bC sc bs k p =
 if bs≠[]/\next sc p%10<3 then (.ask k (pick ⟨[],0,0⟩ bs (next sc (p+1)%bs.length)).name,p+2)
 else if bs≠[]/\next sc p%10<6 then (.put k (pick ⟨[],0,0⟩ bs (next sc (p+1)%bs.length)).name (b7 sc bs 2 (p+2)).1,(b7 sc bs 2 (p+2)).2)
 else if next sc p%10=6 then (.cB k (pick [] Cs (next sc (p+1)%2)) (b7 sc bs 1 (p+2)).1 (b7 sc bs 1 (b7 sc bs 1 (p+2)).2).1,(b7 sc bs 1 (b7 sc bs 1 (p+2)).2).2)
 else if next sc p%10=7 then (if next sc (p+1)%3=0 then (.stop k,p+2) else (.say k (b7 sc bs 2 (p+2)).1,(b7 sc bs 2 (p+2)).2))
 else (.say k (b7 sc bs 2 (p+1)).1,(b7 sc bs 2 (p+1)).2):=rfl
end PG
namespace PG
open PM (W Tr)
mutual
noncomputable def mC:bX->List Row->Prop
 |.ifs k _ _ _ a b,rs=>(∃ra n,dR a ra/\b=[]/\rs=(k,.ifs)::(ra++[(n,.fin)]))\/(∃ra rb n m,dR a ra/\dR b rb/\rs=(k,.ifs)::(ra++(n,.C4)::(rb++[(m,.fin)])))
 |.jc k _ _ _ a,rs=>∃ra n,dR a ra/\rs=(k,.jc)::(ra++[(n,.fin)])
 |.ask k _,rs=>rs=[(k,.ask)]
 |.put k _ _,rs=>rs=[(k,.put)]
 |.say k _,rs=>rs=[(k,.say)]
 |.cB k _ _ _,rs=>rs=[(k,.cB)]
 |.stop k,rs=>rs=[(k,.stop)]
noncomputable def dR:List bX->List Row->Prop
 |[],rs=>rs=[]
 |s::r,rs=>∃r1 r2,mC s r1/\dR r r2/\rs=r1++r2
end
theorem dR.app:∀ {a b:List bX} {ra rb:List Row},dR a ra->dR b rb->dR (a++b) (ra++rb)
 |[],b,ra,rb,h,h'=>by
  rw[dR] at h;subst h;exact h'
 |s::r,b,ra,rb,h,h'=>by
  rw[dR] at h;obtain⟨r1,r2,h1,h2,rfl⟩:=h;rw[zaN,dR];exact⟨r1,r2++rb,h1,dR.app h2 h',by rw[zaZ]⟩
theorem dR.one{s:bX}{rs:List Row}(h:mC s rs):dR [s] rs:=by
 rw[dR];exact⟨rs,[],h,by rw[dR],by simp⟩
theorem dR.nil:dR [] []:=by rw[dR]
noncomputable def kG (f:Frame) (rs:List Row):Prop:=
 (f.kind=0/\dR f.body rs)\/(f.kind=1/\∃rb,dR f.body rb/\rs=(f.k,.ifs)::rb)\/
 (f.kind=2/\∃rf rb n,dR f.first rf/\dR f.body rb/\rs=(f.k,.ifs)::(rf++(n,.C4)::rb))\/(f.kind=3/\∃rb,dR f.body rb/\rs=(f.k,.jc)::rb)
noncomputable def bA:List Frame->List Row->Prop
 |[],rs=>rs=[]
 |f::r,rs=>∃r1 r2,bA r r1/\kG f r2/\rs=r1++r2
theorem F0{f:Frame}{rs:List Row}(hk:f.kind=1\/f.kind=2\/f.kind=3)(h:kG f rs)(n:Int):mC f.told (rs++[(n,.fin)]):=by
 rcases h with ⟨h0,_⟩ |⟨h1,rb,t,rfl⟩ |⟨h2,rf,rb,m,t1,t2,rfl⟩ |⟨h3,rb,t,rfl⟩
 ·lia
 ·unfold Frame.told;rw[if_pos h1,mC];exact .inl ⟨rb,n,t,rfl,rfl⟩
 ·unfold Frame.told;rw[if_neg (by lia),if_pos h2,mC];exact .inr ⟨rf,rb,m,n,t1,t2,by simp⟩
 ·unfold Frame.told;rw[if_neg (by lia),if_neg (by lia),mC];exact⟨rb,n,t,rfl⟩
theorem kG.more{f:Frame}{rs t:List Row}{b:List bX}(h:kG f rs)(ht:dR b t):kG {f with body:=f.body++b} (rs++t):=by
 rcases h with ⟨h0,x⟩ |⟨h1,rb,x,rfl⟩ |⟨h2,rf,rb,m,t1,x,rfl⟩ |⟨h3,rb,x,rfl⟩
 ·exact .inl ⟨h0,x.app ht⟩
 ·exact .inr (.inl ⟨h1,rb++t,x.app ht,rfl⟩)
 ·exact .inr (.inr (.inl ⟨h2,rf,rb++t,m,t1,x.app ht,by simp⟩))
 ·exact .inr (.inr (.inr ⟨h3,rb++t,x.app ht,rfl⟩))
theorem vP{l:List Frame}{rs:List Row}(hp:mZ l)(hl:1<l.length)(h:bA l rs)(n:Int):bA (close l) (rs++[(n,.fin)]):=by
 match l,hp,hl,h with
 |f::g::r,hp,_,h=>
  rw[bA] at h;obtain⟨r1,r2,h1,h2,rfl⟩:=h;rw[bA] at h1;obtain⟨r3,r4,h3,h4,rfl⟩:=h1;show bA ({g with body:=g.body++[f.told]}::r) _;rw[bA];exact⟨r3,r4++(r2++[(n,.fin)]),h3,h4.more (.one (F0 hp.1 h2 n)),by simp⟩
theorem plain_text(sc:List Int)(bs:List fO)(k:Int)(p:Nat):mC (bC sc bs k p).1 [(k,(bC sc bs k p).1.wd)]:=by
 unfold bC;simp only;split
 ·simp[mC,bX.wd]
 ·split
  ·simp[mC,bX.wd]
  ·split
   ·simp[mC,bX.wd]
   ·split
    ·split<;>simp[mC,bX.wd]
    ·simp[mC,bX.wd]
theorem F1(sc:List Int)(bs:List fO)(mode:Int){w:Walk}(ok:c7 w)(h:bA w.aO w.rows):bA (turn sc bs mode w).aO (turn sc bs mode w).rows:=by
 obtain⟨p,aO,rows⟩:=w;have h1:=ok.aO;simp only at h h1;unfold turn;simp only;split
 ·rename_i hc;exact vP h1 hc.2 h _
 ·cases aO with
  |nil=>exact h1.elim
  |cons f r=>
   simp only;split
   ·rename_i hc;rw[bA] at h;obtain⟨r1,r2,x1,x2,rfl⟩:=h;show bA ({f with kind:=2,body:=[],first:=f.body}::r) _;rw[bA];rcases x2 with ⟨z,_⟩ |⟨_,rb,t,rfl⟩ |⟨z,_⟩ |⟨z,_⟩
    ·lia
    ·exact⟨r1,_,x1,.inr (.inr (.inl ⟨rfl,rb,[],number bs.length (r1++(f.k,.ifs)::rb) mode,t,.nil,rfl⟩)),by simp⟩
    ·lia
    ·lia
   ·split
    ·have kk:∀n:Int,pick 1 [1,1,3] n=1\/pick 1 [1,1,3] n=3:=fun n=>by
      unfold pick;rcases n.toNat with _ |_ |_ |m<;>simp
     have R0:=kk (next sc p%12%3);generalize pick 1 [1,1,3] (next sc p%12%3)=kd at R0 ⊢;show bA ({kind:=kd,body:=[],k:=number bs.length rows mode,sg:=_,l:=_,r:=_}::f::r) _;rw[bA];rcases R0 with rfl |rfl
     ·exact⟨rows,_,h,.inr (.inl ⟨rfl,[],.nil,rfl⟩),rfl⟩
     ·exact⟨rows,_,h,.inr (.inr (.inr ⟨rfl,[],.nil,rfl⟩)),rfl⟩
    ·rw[bA] at h;obtain⟨r1,r2,x1,x2,rfl⟩:=h;show bA ({f with body:=f.body++[_]}::r) _;rw[bA];exact⟨r1,_,x1,x2.more (.one (plain_text sc bs _ (p+1))),by simp⟩
theorem vQ(sc:List Int)(bs:List fO)(mode:Int):∀(n:Nat) {w:Walk},c7 w->bA w.aO w.rows->bA (turns sc bs mode n w).aO (turns sc bs mode n w).rows
 |0,_,_,h=>h
 |n+1,_,ok,h=>vQ sc bs mode n (q0 sc bs mode ok) (F1 sc bs mode ok h)
theorem yh(n:Nat)(mode:Int):∀(m:Nat) {w:Walk},c7 w->bA w.aO w.rows->bA (ends n mode m w).aO (ends n mode m w).rows
 |0,_,_,h=>h
 |m+1,w,ok,h=>by
  unfold ends;split
  ·rename_i hl;obtain⟨a,b⟩:=m7 ok.aO;refine yh n mode m ⟨a,?_,?_⟩ (vP ok.aO hl h _)
   ·show cM (close w.aO)=_;rw[lG ok.aO,ok.flat,zaW];simp[plainRow]
   ·show (close w.aO).length<=4;have:=ok.most;lia
  ·exact h
theorem F2(sc:List Int)(many p:Nat):dR (bS sc many p).1.body (bS sc many p).2:=by
 unfold bS;simp only;generalize bo sc (next sc p%4) (next sc (p+1)%4).toNat 0 (p+2)=bs;have h0:c7 ⟨bs.2+1,[{kind:=0,body:=[]}],[]⟩:=⟨rfl,rfl,by simp⟩
 have t0:bA [{kind:=0,body:=[]}] []:=by
  rw[bA];exact⟨[],[],by rw[bA],.inl ⟨rfl,.nil⟩,rfl⟩
 have h1:=rh sc bs.1 (next sc bs.2%4) many h0;have t1:=vQ sc bs.1 (next sc bs.2%4) many h0 t0;obtain⟨h2,h3⟩:=zj bs.1.length (next sc bs.2%4) 4 h1 (by have:=h1.most;lia);have t2:=yh bs.1.length (next sc bs.2%4) 4 h1 t1;generalize ends bs.1.length (next sc bs.2%4) 4 (turns sc bs.1 (next sc bs.2%4) many ⟨bs.2+1,[{kind:=0,body:=[]}],[]⟩)=w at h2 h3 t2;obtain⟨pp,aO,rows⟩:=w;obtain⟨f,rfl⟩:∃f,aO=[f]:=zbN.mp h3;have hk:f.kind=0:=h2.aO;simp only at t2;rw[bA] at t2;obtain⟨r1,r2,x1,x2,rfl⟩:=t2;rw[bA] at x1;subst x1;rcases x2 with ⟨_,t⟩ |⟨z,_⟩ |⟨z,_⟩ |⟨z,_⟩
 ·simpa using t
 ·lia
 ·lia
 ·lia
noncomputable def nh (n:Nat) (w:Walk):Prop:=(∀f∈w.aO,f.body.length<=n)/\w.rows.length<=n
theorem Bh(sc:List Int)(bs:List fO)(mode:Int){n:Nat}{w:Walk}(h:nh n w):nh (n+1) (turn sc bs mode w):=by
 obtain⟨p,aO,rows⟩:=w;obtain⟨h1,h2⟩:=h;simp only at h1 h2;have up:∀f∈aO,f.body.length<=n+1:=fun f hf=>zbt (h1 f hf);have cl:∀l:List Frame,(∀f∈l,f.body.length<=n)->∀f∈close l,f.body.length<=n+1:=by
  intro l hl f hf
  match l,hl,hf with
  |[],_,hf=>cases hf
  |[x],hl,hf=>exact zbt (hl f hf)
  |x::y::r,hl,hf=>
   rcases zae.mp hf with rfl |hf
   ·simp;have:=hl y (by simp);lia
   ·exact zbt (hl f (by simp[hf]))
 unfold turn;simp only;split
 ·exact⟨cl aO h1,by simp;lia⟩
 ·cases aO with
  |nil=>exact⟨up,by simp only;lia⟩
  |cons f r=>
   simp only;split
   ·refine⟨fun x hx=>?_,by simp;lia⟩;rcases zae.mp hx with rfl |hx
    ·simp
    ·exact up x (by simp[hx])
   ·split
    ·refine⟨fun x hx=>?_,by simp;lia⟩;rcases zae.mp hx with rfl |hx
     ·simp
     ·exact up x hx
    ·refine⟨fun x hx=>?_,by simp;lia⟩;rcases zae.mp hx with rfl |hx
     ·have:=h1 f (by simp);simp;lia
     ·exact up x (by simp[hx])
theorem vR(sc:List Int)(bs:List fO)(mode:Int):∀(n:Nat) (w:Walk),turns sc bs mode (n+1) w=turn sc bs mode (turns sc bs mode n w)
 |0,_=>rfl
 |n+1,w=>vR sc bs mode n (turn sc bs mode w)
theorem zl(sc:List Int)(bs:List fO)(mode:Int)(p:Nat)(f:Frame)(r:List Frame)(rows:List Row):turn sc bs mode ⟨p,f::r,rows⟩ =
 if next sc p%12<2/\(f::r).length>1 then ⟨p+1,close (f::r),rows++[(number bs.length rows mode,.fin)]⟩
 else if next sc p%12=2/\f.kind=1 then ⟨p+1,{f with kind:=2,body:=[],first:=f.body}::r,rows++[(number bs.length rows mode,.C4)]⟩
 else if next sc p%12<6/\(f::r).length<4 then
  ⟨(b7 sc bs 1 (b7 sc bs 1 (p+2)).2).2,{kind:=pick 1 [1,1,3] (next sc p%12%3),body:=[],k:=number bs.length rows mode,sg:=pick [] Cs (next sc (p+1)%2),l:=(b7 sc bs 1 (p+2)).1,r:=(b7 sc bs 1 (b7 sc bs 1 (p+2)).2).1}::f::r,rows++[(number bs.length rows mode,if pick 1 [1,1,3] (next sc p%12%3)=3 then .jc else .ifs)]⟩
 else ⟨(bC sc bs (number bs.length rows mode) (p+1)).2,{f with body:=f.body++[(bC sc bs (number bs.length rows mode) (p+1)).1]}::r,rows++[(number bs.length rows mode,(bC sc bs (number bs.length rows mode) (p+1)).1.wd)]⟩:=rfl
theorem jw(sc:List Int)(kr:Int):∀(n k p:Nat),(bo sc kr n k p).1.length=n/\(bo sc kr n k p).2=p+2*n
 |0,_,p=>⟨rfl,rfl⟩
 |n+1,k,p=>by
  obtain⟨a,b⟩:=jw sc kr n (k+1) (p+2);unfold bo;simp only[zaj];exact⟨by rw[a],by rw[b];lia⟩
theorem vS{w:Walk}(ok:c7 w)(k:Int):c7 ⟨w.p,close w.aO,w.rows++[(k,.fin)]⟩:=by
 obtain⟨a,b⟩:=m7 ok.aO;refine⟨a,?_,?_⟩
 ·show cM (close w.aO)=_;rw[lG ok.aO,ok.flat,zaW];simp[plainRow]
 ·show (close w.aO).length<=4;have:=ok.most;lia
theorem yi{n:Nat}{w:Walk}(h:nh n w)(k:Int):nh (n+1) ⟨w.p,close w.aO,w.rows++[(k,.fin)]⟩:=by
 obtain⟨h1,h2⟩:=h;refine⟨?_,by simp;lia⟩;intro f hf;obtain⟨p,aO,rows⟩:=w;simp only at h1 hf
 match aO,h1,hf with
 |[],_,hf=>cases hf
 |[x],hl,hf=>exact zbt (hl f hf)
 |x::y::r,hl,hf=>
  rcases zae.mp hf with rfl |hf
  ·have:=hl y (by simp);simp;lia
  ·exact zbt (hl f (by simp[hf]))
mutual
noncomputable def jY:bX->Nat
 |.ifs _ _ _ _ a b=>max (eX a) (eX b)+1
 |.jc _ _ _ _ a=>eX a+1
 |_=>0
noncomputable def eX:List bX->Nat
 |[]=>0
 |s::r=>max (jY s) (eX r)
end
theorem vT:∀a b:List bX,eX (a++b)=max (eX a) (eX b)
 |[],b=>by simp[eX]
 |s::r,b=>by
  show eX (s::(r++b))=_;rw[eX,eX,vT r b,Nat.max_assoc]
theorem Bi(s:bX):eX [s]=jY s:=by rw[eX,eX];simp
noncomputable def pA:List Frame->Prop
 |[]=>True
 |f::r=>eX f.body+r.length<=3/\(f.kind=2->eX f.first+r.length<=3)/\pA r
theorem IE{f:Frame}{n:Nat}(h1:eX f.body+n<=3)(h2:f.kind=2->eX f.first+n<=3):jY f.told+n<=4:=by
 unfold Frame.told;split
 ·rw[jY,eX];simp;lia
 ·split
  ·rename_i h;rw[jY];have:=h2 h;lia
  ·rw[jY];lia
theorem yj:∀ {l:List Frame},pA l->pA (close l)
 |[],h=>h
 |[f],h=>h
 |f::g::r,h=>by
  obtain⟨h1,h2,h3,h4,h5⟩:=h;have:=IE h1 h2;refine⟨?_,h4,h5⟩;rw[vT,Bi];simp only[zaj] at this ⊢;lia
theorem F3(sc:List Int)(bs:List fO)(k:Int)(p:Nat):jY (bC sc bs k p).1=0:=by
 rw[m9];split
 ·simp[jY]
 ·split
  ·simp[jY]
  ·split
   ·simp[jY]
   ·split
    ·split<;>simp[jY]
    ·simp[jY]
theorem IF(sc:List Int)(bs:List fO)(mode:Int){w:Walk}(ok:c7 w)(h:pA w.aO):pA (turn sc bs mode w).aO:=by
 obtain⟨p,aO,rows⟩:=w;simp only at h;cases aO with
 |nil=>exact ok.aO.elim
 |cons f r=>
  rw[zl];split
  ·exact yj h
  ·obtain⟨h1,h2,h3⟩:=h;split
   ·exact⟨by rw[eX];lia,fun _=>h1,h3⟩
   ·split
    ·rename_i hc;refine⟨?_,fun z=>?_,h1,h2,h3⟩
     ·rw[eX];have:=hc.2;simp only[zaj] at this ⊢;lia
     ·rw[eX];have:=hc.2;simp only[zaj] at this ⊢;lia
    ·refine⟨?_,h2,h3⟩;rw[vT,Bi,F3];lia
theorem yk(sc:List Int)(bs:List fO)(mode:Int):∀(n:Nat) {w:Walk},c7 w->pA w.aO->pA (turns sc bs mode n w).aO
 |0,_,_,h=>h
 |n+1,_,ok,h=>yk sc bs mode n (q0 sc bs mode ok) (IF sc bs mode ok h)
theorem Bj(n:Nat)(mode:Int):∀(m:Nat) {w:Walk},pA w.aO->pA (ends n mode m w).aO
 |0,_,h=>h
 |m+1,w,h=>by
  unfold ends;split
  ·exact Bj n mode m (yj h)
  ·exact h
theorem Bk(sc:List Int)(many p:Nat):eX (bS sc many p).1.body<=3:=by
 unfold bS;simp only;generalize bo sc (next sc p%4) (next sc (p+1)%4).toNat 0 (p+2)=bs;have h0:c7 ⟨bs.2+1,[{kind:=0,body:=[]}],[]⟩:=⟨rfl,rfl,by simp⟩
 have d0:pA [{kind:=0,body:=[]}]:=⟨by simp[eX],(fun z=>absurd z (show ¬(0=2) by decide)),trivial⟩
 have d2:=Bj bs.1.length (next sc bs.2%4) 4 (yk sc bs.1 (next sc bs.2%4) many h0 d0);generalize ends bs.1.length (next sc bs.2%4) 4 (turns sc bs.1 (next sc bs.2%4) many ⟨bs.2+1,[{kind:=0,body:=[]}],[]⟩)=w at d2;obtain⟨pp,aO,rows⟩:=w;cases aO with
 |nil=>simp[eX]
 |cons f r=>
  have:=d2.1;simp;lia
end PG
namespace PG
open PM (W Tr)
section
variable(nm:W->Prop)(ex:Tr->Prop)(sg:W->Prop)
mutual
noncomputable def rj:bX->Prop
 |.ask _ b=>nm b
 |.put _ b e=>nm b/\ex e
 |.say _ e=>ex e
 |.cB _ s l r=>sg s/\ex l/\ex r
 |.stop _=>True
 |.ifs _ s l r a b=>sg s/\ex l/\ex r/\vU a/\vU b
 |.jc _ s l r a=>sg s/\ex l/\ex r/\vU a
noncomputable def vU:List bX->Prop
 |[]=>True
 |s::r=>rj s/\vU r
end
noncomputable def YB (f:Frame):Prop:=vU nm ex sg f.body/\(f.kind≠0->sg f.sg/\ex f.l/\ex f.r)/\(f.kind=2->vU nm ex sg f.first)
noncomputable def K5:List Frame->Prop
 |[]=>True
 |f::r=>YB nm ex sg f/\K5 r
end
section
variable{nm:W->Prop}{ex:Tr->Prop}{sg:W->Prop}
theorem zm:∀ {a b:List bX},vU nm ex sg a->vU nm ex sg b->vU nm ex sg (a++b)
 |[],b,_,h=>h
 |s::r,b,h1,h2=>by
  rw[vU] at h1;show vU nm ex sg (s::(r++b));rw[vU];exact⟨h1.1,zm h1.2 h2⟩
theorem lH:vU nm ex sg []:=by rw[vU];trivial
theorem EK{s:bX}(h:rj nm ex sg s):vU nm ex sg [s]:=by rw[vU];exact⟨h,lH⟩
theorem C6{f:Frame}(h:YB nm ex sg f)(k:f.kind=1\/f.kind=2\/f.kind=3):rj nm ex sg f.told:=by
 obtain⟨h1,h2,h3⟩:=h;have h2:=h2 (by lia);unfold Frame.told;split
 ·rw[rj];exact⟨h2.1,h2.2.1,h2.2.2,h1,lH⟩
 ·split
  ·rename_i z;rw[rj];exact⟨h2.1,h2.2.1,h2.2.2,h3 z,h1⟩
  ·rw[rj];exact⟨h2.1,h2.2.1,h2.2.2,h1⟩
theorem uo:∀ {l:List Frame},mZ l->K5 nm ex sg l->K5 nm ex sg (close l)
 |[],_,h=>h
 |[f],_,h=>h
 |f::g::r,ok,h=>by
  obtain⟨h1,⟨h2,h3,h4⟩,h5⟩:=h;refine⟨⟨zm h2 (EK (C6 h1 ?_)),h3,h4⟩,h5⟩;exact ok.1
section
variable{sc:List Int}{bs:List fO}(Nr:bs≠[]->∀q,nm (pick ⟨[],0,0⟩ bs (next sc q%bs.length)).name)(hex:∀d q,d<=2->ex (b7 sc bs d q).1)(OT:∀q,sg (pick [] Cs (next sc q%2)))
include Nr hex OT
theorem Bl(k:Int)(p:Nat):rj nm ex sg (bC sc bs k p).1:=by
 rw[m9];split
 ·rename_i h;rw[rj];exact Nr h.1 _
 ·split
  ·rename_i h;rw[rj];exact⟨Nr h.1 _,hex _ _ (by decide)⟩
  ·split
   ·rw[rj];exact⟨OT _,hex _ _ (by decide),hex _ _ (by decide)⟩
   ·split
    ·split
     ·rw[rj];trivial
     ·rw[rj];exact hex _ _ (by decide)
    ·rw[rj];exact hex _ _ (by decide)
theorem C7(mode:Int){w:Walk}(ok:c7 w)(h:K5 nm ex sg w.aO):K5 nm ex sg (turn sc bs mode w).aO:=by
 obtain⟨p,aO,rows⟩:=w;simp only at h;cases aO with
 |nil=>exact ok.aO.elim
 |cons f r=>
  rw[zl];split
  ·exact uo ok.aO h
  ·obtain⟨⟨h1,h2,h3⟩,h4⟩:=h;split
   ·rename_i z;exact⟨⟨lH,fun _=>h2 (by rw[z.2];decide),fun _=>h1⟩,h4⟩
   ·split
    ·exact⟨⟨lH,fun _=>⟨OT _,hex _ _ (by decide),hex _ _ (by decide)⟩,fun _=>lH⟩,⟨h1,h2,h3⟩,h4⟩
    ·exact⟨⟨zm h1 (EK (Bl Nr hex OT _ _)),h2,h3⟩,h4⟩
theorem uq(mode:Int):∀(n:Nat) {w:Walk},c7 w->K5 nm ex sg w.aO->K5 nm ex sg (turns sc bs mode n w).aO
 |0,_,_,h=>h
 |n+1,_,ok,h=>uq mode n (q0 sc bs mode ok) (C7 Nr hex OT mode ok h)
end
theorem vV(n:Nat)(mode:Int):∀(m:Nat) {w:Walk},c7 w->K5 nm ex sg w.aO->K5 nm ex sg (ends n mode m w).aO
 |0,_,_,h=>h
 |m+1,w,ok,h=>by
  unfold ends;split
  ·exact vV n mode m (vS ok _) (uo ok.aO h)
  ·exact h
end
noncomputable def dZ (sc:List Int) (p:Nat):List fO:=(bo sc (next sc p%4) (next sc (p+1)%4).toNat 0 (p+2)).1
theorem C8(sc:List Int)(many p:Nat):(bS sc many p).1.aA=dZ sc p:=rfl
theorem vW(sc:List Int)(many p:Nat){nm:W->Prop}{ex:Tr->Prop}{sg:W->Prop}(Nr:dZ sc p≠[]->∀q,nm (pick ⟨[],0,0⟩ (dZ sc p) (next sc q%(dZ sc p).length)).name)(hex:∀d q,d<=2->ex (b7 sc (dZ sc p) d q).1)(OT:∀q,sg (pick [] Cs (next sc q%2))):vU nm ex sg (bS sc many p).1.body:=by
 unfold dZ at Nr hex;unfold bS;simp only;generalize bo sc (next sc p%4) (next sc (p+1)%4).toNat 0 (p+2)=bs at *;have h0:c7 ⟨bs.2+1,[{kind:=0,body:=[]}],[]⟩:=⟨rfl,rfl,by simp⟩
 have d0:K5 nm ex sg [{kind:=0,body:=[]}]:=⟨⟨lH,fun z=>absurd rfl z,fun z=>absurd z (show ¬(0=2) by decide)⟩,trivial⟩
 have d2:=vV bs.1.length (next sc bs.2%4) 4 (rh sc bs.1 (next sc bs.2%4) many h0) (uq Nr hex OT (next sc bs.2%4) many h0 d0);generalize ends bs.1.length (next sc bs.2%4) 4 (turns sc bs.1 (next sc bs.2%4) many ⟨bs.2+1,[{kind:=0,body:=[]}],[]⟩)=w at d2;obtain⟨pp,aO,rows⟩:=w;cases aO with
 |nil=>exact lH
 |cons f r=>exact d2.1.1
noncomputable def mM:Tr->Nat
 |.bin _ l r=>max (mM l) (mM r)+1
 |_=>0
theorem rm(sc:List Int)(bs:List fO):∀(d p:Nat),mM (b7 sc bs d p).1<=d
 |0,p=>by
  unfold b7;simp only;split<;>simp[mM]
 |d+1,p=>by
  unfold b7;simp only;split
  ·rw[mM];have:=rm sc bs d (p+1);have:=rm sc bs d (b7 sc bs d (p+1)).2;lia
  ·split<;>simp[mM]
mutual
theorem Bm:∀(s:bX) (r:Row),r∈dh s->r.2≠.C4/\r.2≠.fin
 |.ifs k _ _ _ a b,r,h=>by
  rw[dh] at h;simp only[zae,zao] at h;rcases h with rfl |h |h
  ·simp
  ·exact iU a r h
  ·exact iU b r h
 |.jc k _ _ _ a,r,h=>by
  rw[dh] at h;simp only[zae] at h;rcases h with rfl |h
  ·simp
  ·exact iU a r h
 |.ask k _,r,h=>by simp[dh] at h;subst h;simp
 |.put k _ _,r,h=>by simp[dh] at h;subst h;simp
 |.say k _,r,h=>by simp[dh] at h;subst h;simp
 |.cB k _ _ _,r,h=>by simp[dh] at h;subst h;simp
 |.stop k,r,h=>by simp[dh] at h;subst h;simp
theorem iU:∀(b:List bX) (r:Row),r∈bH b->r.2≠.C4/\r.2≠.fin
 |[],r,h=>by simp[bH] at h
 |s::t,r,h=>by
  rw[bH,zao] at h;rcases h with h |h
  ·exact Bm s r h
  ·exact iU t r h
end
noncomputable def IG (r:dN):List Tg:=QF (r.1,r.2.1)
theorem LI(b:List bX)(x:Int):(aL b x).flatMap IG=(bH b).flatMap QF:=by
 rw[<- cY b x,List.flatMap_map];rfl
theorem Bn(b:List bX)(x:Int)(r:dN)(h:r∈aL b x):r.2.1≠.C4/\r.2.1≠.fin:=by
 have:=iU b (r.1,r.2.1) (by rw[<- cY b x];exact zaF.mpr ⟨r,h,rfl⟩);exact this
theorem EL(r:Row):(QF r).length<=3:=by
 obtain⟨k,w⟩:=r;cases w<;>simp[QF,plainRow]
theorem ym(sc:List Int)(bs:List fO)(mode:Int):∀(n m:Nat) {w:Walk},nh m w->nh (m+n) (turns sc bs mode n w)
 |0,m,_,h=>h
 |n+1,m,_,h=>by
  have:=ym sc bs mode n (m+1) (Bh sc bs mode h);rw[show m+(n+1)=m+1+n by lia];exact this
theorem Bo(n:Nat)(mode:Int):∀(k m:Nat) {w:Walk},nh m w->(ends n mode k w).rows.length<=m+k
 |0,m,w,h=>h.2
 |k+1,m,w,h=>by
  unfold ends;split
  ·have:=Bo n mode k (m+1) (yi h (number n w.rows mode));lia
  ·have:=h.2;lia
theorem IH(sc:List Int)(many p:Nat):(bS sc many p).2.length<=many+4:=by
 unfold bS;simp only;generalize bo sc (next sc p%4) (next sc (p+1)%4).toNat 0 (p+2)=bs;have h0:nh 0 ⟨bs.2+1,[{kind:=0,body:=[]}],[]⟩:=⟨fun f hf=>by rw[zag.mp hf];exact zah _,zah _⟩
 have:=Bo bs.1.length (next sc bs.2%4) 4 _ (ym sc bs.1 (next sc bs.2%4) many 0 h0);lia
end PG
namespace PG
open PM (W Tr)
inductive Mt where
 |op (C4 fin:Option Nat)
 |back (i:Nat)
 deriving DecidableEq
noncomputable abbrev Mm:=Nat->Option Mt
noncomputable def Mm.set (m:Mm) (i:Nat) (x:Mt):Mm:=fun j=>if j=i then some x else m j
end PG
namespace PG
open PM (W Tr)
noncomputable def At (R:List Row) (i:Nat) (rs:List Row):Prop:=∀j,j<rs.length->R[i+j]?=rs[j]?
theorem At.head{R:List Row}{i:Nat}{x:Row}{b:List Row}(h:At R i (x::b)):R[i]?=some x:=by
 have:=h 0 (by simp);simpa using this
end PG
namespace PG
open PM (W Tr)
noncomputable def ni (n:Nat) (mode:Int) (rows:List Row):Prop:=(rows.filter plainRow).Pairwise (fun a b=>a.1<b.1)/\∀r∈rows.filter plainRow,0<r.1/\r.1<number n rows mode
theorem C9(n:Nat)(rows:List Row)(mode:Int):0<number n rows mode:=by
 unfold number;split
 ·lia
 ·split<;>lia
theorem Bp(n:Nat)(rows:List Row)(mode:Int)(r:Row):number n rows mode<=number n (rows++[r]) mode/\(plainRow r=true->number n rows mode<number n (rows++[r]) mode):=by
 unfold number;simp only[zal,zaG,zaW];split
 ·exact⟨by lia,fun _=>by lia⟩
 ·split
  ·refine⟨by lia,fun h=>?_⟩;have:(List.filter (fun r:Row=>decide (r.2≠.C4/\r.2≠.fin)) [r]).length=1:=by
    unfold plainRow at h;rw[zcz,if_pos h];rfl
   lia
  ·exact⟨by lia,fun _=>by lia⟩
theorem ni.more{n:Nat}{mode:Int}{rows:List Row}(h:ni n mode rows)(w:Wd):ni n mode (rows++[(number n rows mode,w)]):=by
 obtain⟨h1,h2⟩:=h;obtain⟨m1,m2⟩:=Bp n rows mode (number n rows mode,w);unfold ni;rw[zaW];by_cases hp:plainRow (number n rows mode,w)=true
 ·rw[show [(number n rows mode,w)].filter plainRow=[(number n rows mode,w)] by rw[zcz,if_pos hp];rfl];refine⟨zce.mpr ⟨h1,zbI _ _,fun a ha b hb=>?_⟩,fun r hr=>?_⟩
  ·rw[zag.mp hb];exact(h2 a ha).2
  ·rcases zao.mp hr with hr |hr
   ·have:=h2 r hr;lia
   ·rw[zag.mp hr];exact⟨C9 _ _ _,m2 hp⟩
 ·rw[show [(number n rows mode,w)].filter plainRow=[] by rw[zcz,if_neg hp];rfl,zaC];refine⟨h1,fun r hr=>?_⟩;have:=h2 r hr;lia
theorem II(sc:List Int)(bs:List fO)(mode:Int){w:Walk}(h:ni bs.length mode w.rows):ni bs.length mode (turn sc bs mode w).rows:=by
 obtain⟨p,aO,rows⟩:=w;unfold turn;simp only at h ⊢;split
 ·exact h.more _
 ·cases aO with
  |nil=>exact h
  |cons f r=>
   simp only;split
   ·exact h.more _
   ·split
    ·exact h.more _
    ·exact h.more _
theorem yn(sc:List Int)(bs:List fO)(mode:Int):∀(n:Nat) {w:Walk},ni bs.length mode w.rows->ni bs.length mode (turns sc bs mode n w).rows
 |0,_,h=>h
 |n+1,_,h=>yn sc bs mode n (II sc bs mode h)
theorem Bq(n:Nat)(mode:Int):∀(m:Nat) {w:Walk},ni n mode w.rows->ni n mode (ends n mode m w).rows
 |0,_,h=>h
 |m+1,w,h=>by
  unfold ends;split
  ·exact Bq n mode m (h.more _)
  ·exact h
theorem yo(sc:List Int)(many p:Nat):(bH (bS sc many p).1.body).Pairwise (fun a b=>a.1<b.1)/\∀r∈bH (bS sc many p).1.body,0<r.1:=by
 rw[yg];have key:∃n mode,ni n mode (bS sc many p).2:=by
  unfold bS;simp only;generalize bo sc (next sc p%4) (next sc (p+1)%4).toNat 0 (p+2)=bs;refine⟨bs.1.length,next sc bs.2%4,Bq _ _ _ (yn _ _ _ _ ?_)⟩;exact⟨List.Pairwise.nil,fun r hr=>by cases hr⟩
 obtain⟨n,mode,h1,h2⟩:=key;exact⟨h1,fun r hr=>(h2 r hr).1⟩
mutual
noncomputable def lI:bX->List bX
 |.ifs k sg l r a b=>.ifs k sg l r a b::(aB a++aB b)
 |.jc k sg l r a=>.jc k sg l r a::aB a
 |s=>[s]
noncomputable def aB:List bX->List bX
 |[]=>[]
 |s::r=>lI s++aB r
end
mutual
theorem F4:∀s:bX,(lI s).map (fun x=>(x.row,x.wd))=dh s
 |.ifs k sg l r a b=>by
  rw[lI,dh,zaq,zaw,eK a,eK b];rfl
 |.jc k sg l r a=>by
  rw[lI,dh,zaq,eK a];rfl
 |.ask k _=>rfl
 |.put k _ _=>rfl
 |.say k _=>rfl
 |.cB k _ _ _=>rfl
 |.stop k=>rfl
theorem eK:∀b:List bX,(aB b).map (fun x=>(x.row,x.wd))=bH b
 |[]=>rfl
 |s::r=>by simp[aB,bH,F4 s,eK r]
end
theorem IJ{b:List bX}(h:(bH b).Pairwise (fun a b=>a.1<b.1)):(aB b).Pairwise (fun a b=>a.row<b.row):=by
 rw[<- eK,za0] at h;exact h
theorem rq(sc:List Int)(kr:Int):∀(n k p:Nat),k+n<=4->((bo sc kr n k p).1.map (·.name))=(zaJ n).map (fun (i:Nat)=>pick [] c6 (((k:Int)+i-kr)%4))
 |0,k,p,_=>rfl
 |n+1,k,p,h=>by
  rw[bo,List.range_succ_eq_map];simp only[zaq,zbE];rw[rq sc kr n (k+1) (p+2) (by lia)]
  congr 1
  simp;intro i _;rw[show (k:Int)+1+(i:Int)=(k:Int)+((i:Int)+1) by lia]
theorem Br(a b:Nat)(ha:a<4)(hb:b<4)(e:pick [] c6 (a:Int)=pick [] c6 (b:Int)):a=b:=by
 have key:∀(a b:Fin 4),pick [] c6 ((a:Nat):Int)=pick [] c6 ((b:Nat):Int)->a=b:=by decide
 exact congrArg Fin.val (key ⟨a,ha⟩ ⟨b,hb⟩ e)
theorem zo(sc:List Int)(p:Nat):((dZ sc p).map (·.name)).Nodup/\(dZ sc p).length<=4:=by
 unfold dZ;have b:=jg sc (p+1);have l:=(jw sc (next sc p%4) (next sc (p+1)%4).toNat 0 (p+2)).1;rw[rq sc _ _ 0 _ (by lia),l];refine⟨?_,by lia⟩;have hn:(next sc (p+1)%4).toNat<=4:=by lia
 generalize (next sc (p+1)%4).toNat=n at *;generalize next sc p%4=kr at *;refine za0.mpr (List.Pairwise.imp_of_mem ?_ (List.nodup_range (n:=n)));intro i j hi hj Cr e;rw[zbw] at hi hj;have e1:((((0:Nat):Int)+i-kr)%4)=(((((0:Nat):Int)+i-kr)%4).toNat:Int):=by lia
 have e2:((((0:Nat):Int)+j-kr)%4)=(((((0:Nat):Int)+j-kr)%4).toNat:Int):=by lia
 rw[e1,e2] at e;have:=Br _ _ (by lia) (by lia) e;lia
end PG
namespace PG
open PM (W Tr)
theorem rA{α:Type}(d:α){l:List α}{i:Int}(h0:0<=i)(h1:i<l.length):pick d l i∈l:=by
 unfold pick;have lt:i.toNat<l.length:=by lia
 rw[zan,zac lt];exact zat lt
section
variable{nm:W->Prop}{ex:Tr->Prop}{sg:W->Prop}
mutual
theorem LJ:∀(s x:bX),rj nm ex sg s->x∈lI s->rj nm ex sg x
 |.ifs k s l r a b,x,h,m=>by
  rw[lI] at m;rcases zae.mp m with rfl |m
  ·exact h
  ·rw[rj] at h;rcases zao.mp m with m |m
   ·exact jx a x h.2.2.2.1 m
   ·exact jx b x h.2.2.2.2 m
 |.jc k s l r a,x,h,m=>by
  rw[lI] at m;rcases zae.mp m with rfl |m
  ·exact h
  ·rw[rj] at h;exact jx a x h.2.2.2 m
 |.ask k b,x,h,m=>by simp only[lI,zag] at m;subst m;exact h
 |.put k b e,x,h,m=>by simp only[lI,zag] at m;subst m;exact h
 |.say k e,x,h,m=>by simp only[lI,zag] at m;subst m;exact h
 |.cB k s l r,x,h,m=>by simp only[lI,zag] at m;subst m;exact h
 |.stop k,x,h,m=>by simp only[lI,zag] at m;subst m;exact h
theorem jx:∀(b:List bX) (x:bX),vU nm ex sg b->x∈aB b->rj nm ex sg x
 |[],x,_,m=>by simp[aB] at m
 |s::r,x,h,m=>by
  rw[aB] at m;rw[vU] at h;rcases zao.mp m with m |m
  ·exact LJ s x h.1 m
  ·exact jx r x h.2 m
end
end
end PG
namespace PG
open PM (W Tr)
noncomputable def iV (bs:List fO):Tr->Prop
 |.num n=>0<=n/\n<1000
 |.box x=>x∈bs.map (·.name)
 |.bin o l r=>o∈([[43],[45],[42]]:List W)/\iV bs l/\iV bs r
theorem vX{bs:List fO}(sc:List Int)(q:Nat)(h:bs≠[]):(pick ⟨[],0,0⟩ bs (next sc q%bs.length)).name∈bs.map (·.name):=by
 have hp:0<bs.length:=zbc.mpr h;exact zaF.mpr ⟨_,rA _ (zaI _ (by lia)) (zaE _ (by lia)),rfl⟩
theorem EM(sc:List Int)(p q:Nat):0<=next sc p%pick 1 [3,12,1000] (next sc q%3)/\next sc p%pick 1 [3,12,1000] (next sc q%3)<1000:=by
 have m:=rA (1:Int) (l:=[3,12,1000]) (i:=next sc q%3) (zaI _ (by decide)) (zaE _ (by decide));generalize pick (1:Int) [3,12,1000] (next sc q%3)=z at m;have hz:0<z/\z<=1000:=by
  simp only[zae,zcA,or_false] at m;rcases m with rfl |rfl |rfl<;>decide
 have h1:=zaI (next sc p) (b:=z) (by lia);have h2:=zaE (next sc p) (b:=z) hz.1;lia
theorem vY(sc:List Int)(bs:List fO):∀(d p:Nat),iV bs (b7 sc bs d p).1
 |0,p=>by
  unfold b7;simp only;split
  ·rename_i h;rw[iV];exact vX sc _ h.1
  ·rw[iV];exact EM sc _ _
 |d+1,p=>by
  unfold b7;simp only;split
  ·rename_i h;rw[iV];have b:=jg sc p;refine⟨rA _ (zaI _ (by decide)) (by show next sc p%7<3;exact h),vY sc bs d _,vY sc bs d _⟩
  ·split
   ·rename_i h;rw[iV];exact vX sc _ h.1
   ·rw[iV];exact EM sc _ _
theorem IK(sc:List Int)(many p:Nat):vU (·∈(dZ sc p).map (·.name)) (fun e=>iV (dZ sc p) e/\mM e<=2) (·∈Cs) (bS sc many p).1.body:=
 vW sc many p (fun h q=>vX sc q h) (fun d q hd=>⟨vY sc _ d q,zaA (rm _ _ _ _) hd⟩) (fun q=>rA _ (zaI _ (by decide)) (zaE _ (by decide)))
theorem yq(sc:List Int)(kr:Int):∀(n k p:Nat),∀x∈(bo sc kr n k p).1,2<=x.size/\x.size<=10/\0<=x.first/\x.first<x.size
 |0,k,p,x,h=>by simp[bo] at h
 |n+1,k,p,x,h=>by
  rw[bo] at h;simp only[zae] at h;rcases h with rfl |h
  ·simp only;have h3:=zaI (next sc (p+1)) (b:=2+next sc p%3) (by lia);have h4:=zaE (next sc (p+1)) (b:=2+next sc p%3) (by lia);lia
  ·exact yq sc kr n (k+1) (p+2) x h
theorem xv(sc:List Int)(p:Nat):∀x∈dZ sc p,2<=x.size/\x.size<=10/\0<=x.first/\x.first<x.size:=yq sc _ _ _ _
theorem F5(sc:List Int)(p:Nat):(dZ sc p).length<=3:=by
 unfold dZ;have b:=jg sc (p+1);rw[(jw sc (next sc p%4) (next sc (p+1)%4).toNat 0 (p+2)).1];lia
end PG
namespace PG
noncomputable def lJ (r:dN):Prop:=0<r.2.2.length/\(r.2.1=.ifs\/r.2.1=.jc->1<r.2.2.length)
mutual
theorem F6:∀(s:bX) (x:Int),∀r∈fW s x,lJ r
 |.ifs k sg l r a b,x,y,h=>by
  rw[fW] at h;simp only[zae,zao] at h;rcases h with rfl |h |h
  ·simp[lJ]
  ·exact iy a x y h
  ·exact iy b x y h
 |.jc k sg l r a,x,y,h=>by
  rw[fW] at h;simp only[zae] at h;rcases h with rfl |h
  ·simp[lJ]
  ·exact iy a k y h
 |.ask k _,x,y,h=>by simp[fW] at h;subst h;simp[lJ]
 |.put k _ _,x,y,h=>by simp[fW] at h;subst h;simp[lJ]
 |.say k _,x,y,h=>by simp[fW] at h;subst h;simp[lJ]
 |.cB k _ _ _,x,y,h=>by simp[fW] at h;subst h;simp[lJ]
 |.stop k,x,y,h=>by simp[fW] at h;subst h;simp[lJ]
theorem iy:∀(b:List bX) (x:Int),∀r∈aL b x,lJ r
 |[],x,y,h=>by simp[aL] at h
 |s::r,x,y,h=>by
  rw[aL,zao] at h;rcases h with h |h
  ·exact F6 s _ y h
  ·exact iy r x y h
end
end PG
namespace PG
theorem nj:∀(b:List bX) (x:Int),bc b x=x\/∃t∈aB b,t.row=bc b x
 |[],x=>.inl rfl
 |s::r,x=>.inr ⟨s,by rw[aB];exact zbg _ (by cases s<;>simp[lI]),rfl⟩
mutual
theorem IL:∀(s:bX) (x:Int),∀r∈fW s x,∀w∈r.2.2,w=0\/w=x\/∃t∈lI s,t.row=w
 |.ifs k sg l r a b,x,y,h,w,hw=>by
  rw[fW] at h;simp only[zae,zao] at h;rw[lI];rcases h with rfl |h |h
  ·simp only[zae,zcA,or_false] at hw;rcases hw with rfl |rfl
   ·rcases nj a x with e |⟨t,ht,e⟩
    ·exact .inr (.inl e)
    ·exact .inr (.inr ⟨t,by simp[ht],e⟩)
   ·rcases nj b x with e |⟨t,ht,e⟩
    ·exact .inr (.inl e)
    ·exact .inr (.inr ⟨t,by simp[ht],e⟩)
  ·rcases nu a x y h w hw with e |e |⟨t,ht,e⟩
   ·exact .inl e
   ·exact .inr (.inl e)
   ·exact .inr (.inr ⟨t,by simp[ht],e⟩)
  ·rcases nu b x y h w hw with e |e |⟨t,ht,e⟩
   ·exact .inl e
   ·exact .inr (.inl e)
   ·exact .inr (.inr ⟨t,by simp[ht],e⟩)
 |.jc k sg l r a,x,y,h,w,hw=>by
  rw[fW] at h;simp only[zae] at h;rw[lI];have self:w=k->∃t∈(bX.jc k sg l r a::aB a),t.row=w:=fun e=>⟨_,zak ..,e.symm⟩
  rcases h with rfl |h
  ·simp only[zae,zcA,or_false] at hw;rcases hw with rfl |rfl
   ·rcases nj a k with e |⟨t,ht,e⟩
    ·exact .inr (.inr (self e))
    ·exact .inr (.inr ⟨t,by simp[ht],e⟩)
   ·exact .inr (.inl rfl)
  ·rcases nu a k y h w hw with e |e |⟨t,ht,e⟩
   ·exact .inl e
   ·exact .inr (.inr (self e))
   ·exact .inr (.inr ⟨t,by simp[ht],e⟩)
 |.ask k _,x,y,h,w,hw=>by simp[fW] at h;subst h;simp at hw;exact .inr (.inl hw)
 |.put k _ _,x,y,h,w,hw=>by simp[fW] at h;subst h;simp at hw;exact .inr (.inl hw)
 |.say k _,x,y,h,w,hw=>by simp[fW] at h;subst h;simp at hw;exact .inr (.inl hw)
 |.cB k _ _ _,x,y,h,w,hw=>by simp[fW] at h;subst h;simp at hw;exact .inr (.inl hw)
 |.stop k,x,y,h,w,hw=>by simp[fW] at h;subst h;simp at hw;exact .inl hw
theorem nu:∀(b:List bX) (x:Int),∀r∈aL b x,∀w∈r.2.2,w=0\/w=x\/∃t∈aB b,t.row=w
 |[],x,y,h,_,_=>by simp[aL] at h
 |s::r,x,y,h,w,hw=>by
  rw[aL,zao] at h;rw[aB];rcases h with h |h
  ·rcases IL s _ y h w hw with e |e |⟨t,ht,e⟩
   ·exact .inl e
   ·rcases nj r x with e2 |⟨t,ht,e2⟩
    ·exact .inr (.inl (e.trans e2))
    ·exact .inr (.inr ⟨t,zaB _ ht,e2.trans e.symm⟩)
   ·exact .inr (.inr ⟨t,zbg _ ht,e⟩)
  ·rcases nu r x y h w hw with e |e |⟨t,ht,e⟩
   ·exact .inl e
   ·exact .inr (.inl e)
   ·exact .inr (.inr ⟨t,zaB _ ht,e⟩)
end
noncomputable def LK (b:List bX) (row:Int):Nat:=(aB b).findIdx (fun s=>s.row==row)
theorem EN{b:List bX}(pw:(aB b).Pairwise (fun a b=>a.row<b.row))(i:Nat)(hi:i<(aB b).length):LK b (aB b)[i].row=i:=by
 unfold LK;rw[List.findIdx_eq hi];refine⟨by simp,fun j hj=>?_⟩;have:=zct.mp pw j i (by lia) hi hj;simp only[beq_eq_false_iff_ne,ne_eq];lia
inductive fY where
 |on |out |cB (row:Int) |fin
deriving DecidableEq
section
variable(ask:Int->Bool)(step:Int->List Int->Int->Option (Int×List Int)×Option Int)
noncomputable def take1 (a:Bool) (figs:List Int):Option (Int×List Int):=if a then (match figs with |[]=>none |f::r=>some (f,r)) else some (0,figs)
noncomputable def endAt (row:Int):Option fY:=if row=0 then some .fin else none
noncomputable def vm (row:Int) (vals left:List Int):Option Int×List Int×Int×List Int×Option fY:=match take1 (ask row) left with
 |none=>(none,left,row,vals,some .out)
 |some (f,r)=>match step row vals f with
  |(none,s)=>(s,r,row,vals,some (.cB row))
  |(some x,s)=>(s,r,x.1,x.2,endAt x.1)
end
end PG
namespace L2
open PySem
noncomputable def jZ:PG.Wd->Str
 |.ask=>"ask" |.put=>"put" |.say=>"say" |.cB=>"must" |.stop=>"stop" |.ifs=>"if" |.jc=>"while" |.C4=>"else" |.fin=>"end"
mutual
noncomputable def eT:PG.bX->Dp
 |.ask k b=>.tup [.str "ask",.int k,.str (S b)]
 |.put k b e=>.tup [.str "put",.int k,.str (S b),mL e]
 |.say k e=>.tup [.str "say",.int k,mL e]
 |.cB k sg l r=>.tup [.str "must",.int k,.str (S sg),mL l,mL r]
 |.stop k=>.tup [.str "stop",.int k]
 |.ifs k sg l r a b=>.tup [.str "if",.int k,.str (S sg),mL l,mL r,.lst (zp a),.lst (zp b)]
 |.jc k sg l r a=>.tup [.str "while",.int k,.str (S sg),mL l,mL r,.lst (zp a)]
noncomputable def zp:List PG.bX->List Dp
 |[]=>[]
 |s::r=>eT s::zp r
end
theorem gi:∀l:List PG.bX,zp l=l.map eT
 |[]=>rfl
 |s::r=>by rw[zp,gi r];rfl
noncomputable def jm (b:PG.fO):Dp:=.tup [.str (S b.name),.int b.size,.int b.first]
noncomputable def jh (p:PG.Prog):Dp:=.tup [.lst (p.aA.map jm),.lst (p.body.map eT)]
noncomputable def ur (r:PG.Row):Dp:=.lst [.int r.1,.str (jZ r.2)]
noncomputable def ji:PG.Tg->Dp
 |.row k=>.tup [.str "row",.int k]
 |.side k b=>.tup [.str "side",.int k,.bl b]
 |.cB k=>.tup [.str "must",.int k]
 |.fin=>.tup [.str "end"]
noncomputable def aM (O:zc8->Prop) (H H':Hp):Prop:=∀b o,¬O b->H b=some o->H' b=some o
noncomputable def Fix (K:zaa) (O:zc8->Prop) (H:Hp) (d:Dp) (v:V):Prop:=∀H',aM O H H'->Rep K H' d v
noncomputable def dS (K:zaa) (O:zc8->Prop) (H:Hp) (ds:List Dp) (vs:List V):Prop:=∀H',aM O H H'->aI K H' ds vs
section
variable{K:zaa}{O O':zc8->Prop}{H H1 H2:Hp}{d:Dp}{ds:List Dp}{v:V}{vs:List V}{p:zc8}{o:HO}
theorem aM.refl:aM O H H:=fun _ _ _ e=>e
theorem aM.trans(a:aM O H H1)(b:aM O H1 H2):aM O H H2:=fun c u n e=>b c u n (a c u n e)
theorem aM.of(s:au H H1):aM O H H1:=fun b u _ e=>s b u e
theorem aM.mono(a:aM O H H1)(i:∀b,O b->O' b):aM O' H H1:=fun b u n e=>a b u (fun z=>n (i b z)) e
theorem aM.one(a:aT p H H1)(hp:O p):aM O H H1:=fun b u n e=>a b u (fun z=>n (by rw[z];exact hp)) e
theorem aM.put(a:aM O H H1)(hp:O p)(u:HO):aM O H (upd H1 p u):=fun b w n e=>by rw[av (fun z=>n (by rw[z];exact hp))];exact a b w n e
theorem Fix.up(f:Fix K O H d v)(u:aM O H H1):Fix K O H1 d v:=fun H2 u2=>f H2 (u.trans u2)
theorem dS.up(f:dS K O H ds vs)(u:aM O H H1):dS K O H1 ds vs:=fun H2 u2=>f H2 (u.trans u2)
theorem Fix.rep(f:Fix K O H d v):Rep K H d v:=f H .refl
theorem dS.IM(f:dS K O H ds vs):aI K H ds vs:=f H .refl
theorem Fix.sub(f:Fix K O H d v)(i:∀b,O' b->O b):Fix K O' H d v:=fun H2 u=>f H2 (u.mono i)
theorem dS.sub(f:dS K O H ds vs)(i:∀b,O' b->O b):dS K O' H ds vs:=fun H2 u=>f H2 (u.mono i)
theorem Fix.apart(f:Fix K O H d v)(hp:H p=none):Fix K (fun b=>O b\/b=p) (upd H p o) d v:=fun H2 u=>f H2 fun b w n e=>by
 have np:b≠p:=aj e hp;exact u b w (fun z=>z.elim n np) (by rw[av np];exact e)
theorem dS.apart(f:dS K O H ds vs)(hp:H p=none):dS K (fun b=>O b\/b=p) (upd H p o) ds vs:=fun H2 u=>f H2 fun b w n e=>by
 have np:b≠p:=aj e hp;exact u b w (fun z=>z.elim n np) (by rw[av np];exact e)
theorem dS.nil:dS K O H [] []:=fun _ _=>.nil
theorem dS.cons(a:Fix K O H d v)(b:dS K O H ds vs):dS K O H (d::ds) (v::vs):=fun H2 u=>.cons (a H2 u) (b H2 u)
theorem dS.snoc(b:dS K O H ds vs)(a:Fix K O H d v):dS K O H (ds++[d]) (vs++[v]):=fun H2 u=>(b H2 u).append (.cons (a H2 u) .nil)
theorem Fix.int{i:Int}:Fix K O H (.int i) (.int i):=fun _ _=>Rep.bF.mpr rfl
theorem Fix.str{x:Str}:Fix K O H (.str x) (.str x):=fun _ _=>Rep.bY.mpr rfl
theorem Fix.bl{x:Bool}:Fix K O H (.bl x) (.bl x):=fun _ _=>Rep.mY.mpr rfl
theorem Fix.tup(h:H p=some (.tup vs))(n:¬O p)(f:dS K O H ds vs):Fix K O H (.tup ds) (.ref p):=fun H2 u=>Rep.br.mpr ⟨p,vs,rfl,.of (u p _ n h),f H2 u⟩
theorem Fix.lst(h:H p=some (.lst vs))(n:¬O p)(f:dS K O H ds vs):Fix K O H (.lst ds) (.ref p):=fun H2 u=>Rep.cg.mpr ⟨p,vs,rfl,.of (u p _ n h),f H2 u⟩
end
structure eY(K:zaa)(H:Hp)(D S:zc8)(sc:List Int)(p:Nat):Prop where
 a9:H D=some (.lst [.ref S,.int p])
 da:H S=some (.lst (sc.map .int))
 ne:S≠D
 len:sc.length<=63
end L2
namespace L2
open PySem
section
variable(K:zaa)
noncomputable def tG:Sp:=fun vs H Q _=>∃(D S:zc8) (sc:List Int) (p:Nat),vs=[.ref D]/\eY K H D S sc p/\p<=1000000/\∀H',aT D H H'->eY K H' D S sc (p+1)->Q (.int (PG.next sc p)) H'
end
theorem eY.same{K:zaa}{H H':Hp}{D S:zc8}{sc:List Int}{p:Nat}(d:eY K H D S sc p)(s:au H H'):eY K H' D S sc p:=⟨s _ _ d.a9,s _ _ d.da,d.ne,d.len⟩
theorem EO{a:Option V}{r:St}{H:Hp}{Q:VK}:(eW 13 (a::r) H Q)=(eW 12 r H Q):=rfl
theorem ER{a:Option V}{r:St}{H:Hp}{Q:VK}:(eW 14 (a::r) H Q)=(eW 13 r H Q):=rfl
noncomputable def jn (K:zaa) (O:zc8->Prop) (H:Hp) (B:zc8) (bs:List PG.fO):Prop:=Fix K O H (.lst (bs.map jm)) (.ref B)/\bs.length<=10
noncomputable def Own (K:zaa) (H0 H:Hp) (d:Dp) (v:V):Prop:=∀O:zc8->Prop,(∀b,O b->H0 b≠none)->Fix K O H d v
section
variable(K:zaa)
noncomputable def vZ (n:Nat):Sp:=fun vs H Q _=>∃(D S B:zc8) (sc:List Int) (p d:Nat) (bs:List PG.fO),vs=[.ref D,.ref B,.int d]/\d<n/\eY K H D S sc p/\p+4*2 ^ d<=100000/\jn K (·=D) H B bs/\
 ∀v H',aT D H H'->eY K H' D S sc (PG.b7 sc bs d p).2->Own K H H' (mL (PG.b7 sc bs d p).1) v->Q v H'
noncomputable def Dc:Sp:=fun vs H Q _=>∃(D S:zc8) (sc:List Int) (p:Nat),vs=[.ref D]/\eY K H D S sc p/\p<=90000/\
 ∀B H',aT D H H'->eY K H' D S sc (PG.bo sc (PG.next sc p%4) (PG.next sc (p+1)%4).toNat 0 (p+2)).2->H B=none->
  Own K H H' (.lst ((PG.bo sc (PG.next sc p%4) (PG.next sc (p+1)%4).toNat 0 (p+2)).1.map jm)) (.ref B)->Q (.ref B) H'
noncomputable def Dd:Sp:=fun vs H Q _=>∃(D S B:zc8) (sc:List Int) (p:Nat) (k:Int) (bs:List PG.fO),vs=[.ref D,.ref B,.int k]/\eY K H D S sc p/\p<=90000/\jn K (·=D) H B bs/\
 ∀v H',aT D H H'->eY K H' D S sc (PG.bC sc bs k p).2->Own K H H' (eT (PG.bC sc bs k p).1) v->Q v H'
end
section
variable{K:zaa}{O:zc8->Prop}{H0 H H1:Hp}{d:Dp}{v:V}{D B:zc8}{bs:List PG.fO}
theorem Own.up(f:Own K H0 H d v)(u:aT D H H1)(hD:H0 D≠none):Own K H0 H1 d v:=fun O hO=>by
 have:=f (fun b=>O b\/b=D) (fun b hb=>hb.elim (hO b) (fun e=>e▸hD));exact(this.up (aM.one u (.inr rfl))).sub fun b hb=>.inl hb
theorem Own.back{YC:Hp}(f:Own K H0 H d v)(h:∀b,YC b≠none->H0 b≠none):Own K YC H d v:=fun O hO=>f O fun b hb=>h b (hO b hb)
theorem jn.up(f:jn K (·=D) H B bs)(u:aT D H H1):jn K (·=D) H1 B bs:=⟨f.1.up (aM.one u rfl),f.2⟩
theorem jn.same(f:jn K (·=D) H B bs)(s:au H H1):jn K (·=D) H1 B bs:=⟨f.1.up (.of s),f.2⟩
theorem aT.oR(u:aT D H H1)(hD:H1 D≠none):∀b,H b≠none->H1 b≠none:=fun b hb=>by
 by_cases e:b=D
 ·rw[e];exact hD
 ·cases z:H b with
  |none=>exact absurd z hb
  |some o=>rw[u b o e z];simp
theorem jn.list(f:jn K O H B bs):∃xs,gM K H B xs/\xs.length=bs.length/\∀(i:Nat) (b:PG.fO),bs[i]?=some b->∃a ys,xs[i]?=some (.ref a)/\cu K H a ys/\ys=[.str (S b.name),.int b.size,.int b.first]:=by
 have r:=f.1.rep;rw[Rep.cg] at r;obtain⟨a,xs,e,q,rs⟩:=r;cases e;refine⟨xs,q,by rw[rs.length,zad],fun i b hb=>?_⟩;obtain⟨v,hv,rv⟩:=rs.get (i:=i) (d:=jm b) (by rw[zap,hb];rfl);unfold jm at rv;rw[Rep.br] at rv;obtain⟨a2,ys,rfl,q2,r2⟩:=rv;refine⟨a2,ys,hv,q2,?_⟩;rw[aI.aF] at r2;obtain⟨v1,t1,rfl,e1,r2⟩:=r2;rw[aI.aF] at r2;obtain⟨v2,t2,rfl,e2,r2⟩:=r2;rw[aI.aF] at r2;obtain⟨v3,t3,rfl,e3,r2⟩:=r2;rw[aI.bI] at r2;subst r2;rw[Rep.bY] at e1;rw[Rep.bF] at e2 e3;subst e1 e2 e3;rfl
end
noncomputable def kH (K:zaa) (H0 H:Hp) (ds:List Dp) (vs:List V):Prop:=∀O:zc8->Prop,(∀b,O b->H0 b≠none)->dS K O H ds vs
section
variable{K:zaa}{H0 H H1:Hp}{d:Dp}{v:V}{ds:List Dp}{vs:List V}{D p:zc8}
theorem kH.nil:kH K H0 H [] []:=fun _ _=>dS.nil
theorem kH.cons(a:Own K H0 H d v)(b:kH K H0 H ds vs):kH K H0 H (d::ds) (v::vs):=fun O h=>dS.cons (a O h) (b O h)
theorem Own.int{i:Int}:Own K H0 H (.int i) (.int i):=fun _ _=>Fix.int
theorem Own.str{x:Str}:Own K H0 H (.str x) (.str x):=fun _ _=>Fix.str
theorem kH.same(f:kH K H0 H ds vs)(s:au H H1):kH K H0 H1 ds vs:=fun O hO=>(f O hO).up (.of s)
theorem jy(hp:H p=none)(oR:∀b,H0 b≠none->H b≠none)(f:kH K H0 H ds vs):Own K H0 (upd H p (.tup vs)) (.tup ds) (.ref p):=fun O hO=>by
 have np:¬O p:=fun z=>oR p (hO p z) hp;exact Fix.tup ah np ((f.same (au.new hp _)) O hO)
end
theorem jn.pick{K:zaa}{O:zc8->Prop}{H:Hp}{B:zc8}{bs:List PG.fO}(f:jn K O H B bs){i:Int}(h0:0<=i)(h1:i<bs.length){Q:VK}(q:Q (.str (S (PG.pick ⟨[],0,0⟩ bs i).name)) H) :
 FN K (.ref B) (.int i) H (fun x H1=>HN K x (.int 0) H1 Q):=by
 obtain⟨xs,hx,_,get⟩:=f.list;have lt:i.toNat<bs.length:=by lia
 have e:bs[i.toNat]?=some (PG.pick ⟨[],0,0⟩ bs i):=by
  unfold PG.pick;rw[zan,zac lt];rfl
 obtain⟨a,ys,hy,q2,rfl⟩:=get _ _ e;have ei:i=((i.toNat:Nat):Int):=by lia
 refine cN hx (v:=.ref a) (by rw[ei];exact ay hy) (aN q2 (v:=.str (S (PG.pick ⟨[],0,0⟩ bs i).name)) (ay (j:=0) rfl) q)
theorem kH.up{K:zaa}{H0 H H1:Hp}{ds:List Dp}{vs:List V}{D:zc8}(f:kH K H0 H ds vs)(u:aT D H H1)(hD:H0 D≠none):kH K H0 H1 ds vs:=fun O hO=>by
 have:=f (fun b=>O b\/b=D) (fun b hb=>hb.elim (hO b) (fun e=>e▸hD));exact(this.up (aM.one u (.inr rfl))).sub fun b hb=>.inl hb
theorem kH.snoc{K:zaa}{H0 H:Hp}{d:Dp}{v:V}{ds:List Dp}{vs:List V}(b:kH K H0 H ds vs)(a:Own K H0 H d v):kH K H0 H (ds++[d]) (vs++[v]):=fun O h=>dS.snoc (b O h) (a O h)
theorem OU{K:zaa}{H0 H:Hp}{ds:List Dp}{vs xs ys:List V}{B:zc8}(h:H B=some (.lst xs))(f:kH K H0 H ds vs)(hB:H0 B≠none):kH K H0 (upd H B (.lst ys)) ds vs:=f.up ((aT.refl B H).put _) hB
noncomputable def rB:Nat->Str
 |0=>"all"
 |1=>"if"
 |2=>"else"
 |_=>"while"
structure d7(K:zaa)(Oo:zc8->Prop)(H:Hp)(f:PG.Frame)(a b:zc8)(hd fi:V)(xs:List V):Prop where
 fr:H a=some (.lst [.str (rB f.kind),.ref b,hd,fi])
 bd:H b=some (.lst xs)
 ok:dS K Oo H (f.body.map eT) xs
 F7:f.kind≠0->∃c ys,hd=.ref c/\H c=some (.tup ys)/\¬Oo c/\dS K Oo H [.str (if f.kind=3 then "while" else "if"),.int f.k,.str (S f.sg),mL f.l,mL f.r] ys
 IP:f.kind=2->Fix K Oo H (.lst (f.first.map eT)) fi
 len:xs.length=f.body.length
noncomputable abbrev xp:=PG.Frame×zc8×zc8
noncomputable def gS (D P R:zc8) (cV:List xp):List zc8:=D::P::R::cV.flatMap fun x=>[x.2.1,x.2.2]
noncomputable def O (D P R:zc8) (cV:List xp) (E:List zc8):zc8->Prop:=fun b=>b∈gS D P R cV\/b∈E
structure kI(K:zaa)(H:Hp)(D S:zc8)(sc:List Int)(p:Nat)(B:zc8)(bs:List PG.fO)(P R:zc8)(cV:List xp)(rows:List PG.Row)(E:List zc8):Prop where
 a9:eY K H D S sc p
 box:Fix K (O D P R cV E) H (.lst (bs.map jm)) (.ref B)
 v7:bs.length<=10
 aO:H P=some (.lst (cV.reverse.map fun x=>.ref x.2.1))
 frames:∀x∈cV,∃hd fi xs,d7 K (O D P R cV E) H x.1 x.2.1 x.2.2 hd fi xs
 rows:∃xq,H R=some (.lst xq)/\dS K (O D P R cV E) H (rows.map ur) xq/\xq.length=rows.length
 nd:(gS D P R cV).Nodup
 nS:S ∉ gS D P R cV
section
variable{K:zaa}{H H':Hp}{D S B P R:zc8}{sc:List Int}{p p':Nat}{bs:List PG.fO}{cV:List xp}{rows:List PG.Row}{E E':List zc8}
theorem d7.up{Oo:zc8->Prop}{f:PG.Frame}{a b:zc8}{hd fi:V}{xs:List V}(x:d7 K Oo H f a b hd fi xs)(u:aM Oo H H')(ha:H' a=H a)(hb:H' b=H b):d7 K Oo H' f a b hd fi xs:=
 ⟨ha.trans x.fr,hb.trans x.bd,x.ok.up u,fun z=>let ⟨c,ys,e,h,n,g⟩:=x.F7 z;⟨c,ys,e,u _ _ n h,n,g.up u⟩,fun z=>(x.IP z).up u,x.len⟩
theorem d7.sub{O1 O2:zc8->Prop}{f:PG.Frame}{a b:zc8}{hd fi:V}{xs:List V}(x:d7 K O1 H f a b hd fi xs)(i:∀c,O2 c->O1 c):d7 K O2 H f a b hd fi xs:=
 ⟨x.fr,x.bd,x.ok.sub i,fun z=>let ⟨c,ys,e,h,n,g⟩:=x.F7 z;⟨c,ys,e,h,fun w=>n (i c w),g.sub i⟩,fun z=>(x.IP z).sub i,x.len⟩
theorem d7.apart{O1:zc8->Prop}{f:PG.Frame}{a b q:zc8}{hd fi:V}{xs:List V}{o:HO}(x:d7 K O1 H f a b hd fi xs)(hq:H q=none):d7 K (fun c=>O1 c\/c=q) (upd H q o) f a b hd fi xs:=
 ⟨by rw[av (aj x.fr hq)];exact x.fr,by rw[av (aj x.bd hq)];exact x.bd,x.ok.apart hq,fun z=>let ⟨c,ys,e,h,n,g⟩:=x.F7 z;⟨c,ys,e,by rw[av (aj h hq)];exact h,fun w=>w.elim n (aj h hq),g.apart hq⟩,fun z=>(x.IP z).apart hq,x.len⟩
theorem kI.ne(s:kI K H D S sc p B bs P R cV rows E):D≠P/\D≠R/\P≠R/\∀x∈cV,x.2.1≠D/\x.2.2≠D/\x.2.1≠P/\x.2.2≠P/\x.2.1≠R/\x.2.2≠R:=by
 have nd:=s.nd;unfold gS at nd;rw[zaH,zaH,zaH] at nd;obtain⟨h1,h2,h3,h4⟩:=nd;simp only[zae,not_or] at h1 h2;refine⟨h1.1,h1.2.1,h2.1,fun x hx=>?_⟩;have m1:x.2.1∈cV.flatMap fun x=>[x.2.1,x.2.2]:=zaR.mpr ⟨x,hx,by simp⟩;have m2:x.2.2∈cV.flatMap fun x=>[x.2.1,x.2.2]:=zaR.mpr ⟨x,hx,by simp⟩;exact⟨fun e=>h1.2.2 (e▸m1),fun e=>h1.2.2 (e▸m2),fun e=>h2.2 (e▸m1),fun e=>h2.2 (e▸m2),fun e=>h3 (e▸m1),fun e=>h3 (e▸m2)⟩
theorem kI.oR(s:kI K H D S sc p B bs P R cV rows E):∀b,b∈gS D P R cV->H b≠none:=fun b hb=>by
 unfold gS at hb;simp only[zae,zaR] at hb;rcases hb with rfl |rfl |rfl |⟨x,hx,hb⟩
 ·rw[s.a9.a9];simp
 ·rw[s.aO];simp
 ·obtain⟨xq,h,_⟩:=s.rows;rw[h];simp
 ·obtain⟨hd,fi,xs,fa⟩:=s.frames x hx;simp only[zaS,or_false] at hb;rcases hb with rfl |rfl
  ·rw[fa.fr];simp
  ·rw[fa.bd];simp
theorem kI.fresh(s:kI K H D S sc p B bs P R cV rows E){q:zc8}(hq:H q=none):q ∉ gS D P R cV:=fun z=>s.oR q z hq
theorem kI.draw(s:kI K H D S sc p B bs P R cV rows E)(u:aT D H H')(dk:eY K H' D S sc p'):kI K H' D S sc p' B bs P R cV rows E:=by
 obtain⟨n1,n2,n3,n4⟩:=s.ne;have uS:aM (O D P R cV E) H H':=aM.one u (.inl (by simp[gS]));refine⟨dk,s.box.up uS,s.v7,u _ _ n1.symm s.aO,fun x hx=>?_,?_,s.nd,s.nS⟩
 ·obtain⟨hd,fi,xs,fa⟩:=s.frames x hx;obtain⟨m1,m2,_⟩:=n4 x hx;exact⟨hd,fi,xs,fa.up uS ((u _ _ m1 fa.fr).trans fa.fr.symm) ((u _ _ m2 fa.bd).trans fa.bd.symm)⟩
 ·obtain⟨xq,h,f,l⟩:=s.rows;exact⟨xq,u _ _ n2.symm h,f.up uS,l⟩
theorem kI.same(s:kI K H D S sc p B bs P R cV rows E)(e:au H H'):kI K H' D S sc p B bs P R cV rows E:=s.draw (.of e) (s.a9.same e)
theorem kI.aA(s:kI K H D S sc p B bs P R cV rows E):jn K (·=D) H B bs:=⟨s.box.sub fun b hb=>.inl (by rw[show b=D from hb];simp[gS]),s.v7⟩
theorem kI.less(s:kI K H D S sc p B bs P R cV rows E)(i:∀b,b∈E'->b∈E):kI K H D S sc p B bs P R cV rows E':=by
 have j:∀b,O D P R cV E' b->O D P R cV E b:=fun b hb=>hb.elim .inl fun z=>.inr (i b z);exact⟨s.a9,s.box.sub j,s.v7,s.aO,fun x hx=>let ⟨hd,fi,xs,fa⟩:=s.frames x hx;⟨hd,fi,xs,fa.sub j⟩,let ⟨xq,h,f,l⟩:=s.rows;⟨xq,h,f.sub j,l⟩,s.nd,s.nS⟩
theorem kI.more(s:kI K H D S sc p B bs P R cV rows E){q:zc8}(hq:H q=none)(o:HO):kI K (upd H q o) D S sc p B bs P R cV rows (q::E):=by
 have j:∀b,O D P R cV (q::E) b->(O D P R cV E b\/b=q):=fun b hb=>by
  rcases hb with h |h
  ·exact .inl (.inl h)
  ·rcases zae.mp h with h |h
   ·exact .inr h
   ·exact .inl (.inr h)
 have sm:=au.new hq o;exact⟨s.a9.same sm,(s.box.apart hq).sub j,s.v7,sm _ _ s.aO,fun x hx=>let ⟨hd,fi,xs,fa⟩:=s.frames x hx;⟨hd,fi,xs,(fa.apart hq).sub j⟩,let ⟨xq,h,f,l⟩:=s.rows;⟨xq,sm _ _ h,(f.apart hq).sub j,l⟩,s.nd,s.nS⟩
theorem kI.row(s:kI K H D S sc p B bs P R cV rows E){xq:List V}(hR:H R=some (.lst xq)){k:Int}{w:PG.Wd}{q:zc8}(hq:H q=some (.lst [.int k,.str (jZ w)]))(nq:¬O D P R cV E q):kI K (upd H R (.lst (xq++[.ref q]))) D S sc p B bs P R cV (rows++[(k,w)]) E:=by
 obtain⟨n1,n2,n3,n4⟩:=s.ne;have mR:R∈gS D P R cV:=by simp[gS]
 have uS:aM (O D P R cV E) H (upd H R (.lst (xq++[.ref q]))):=aM.refl.put (.inl mR) _;have nSR:S≠R:=fun e=>s.nS (by rw[e];exact mR);refine⟨⟨by rw[av n2];exact s.a9.a9,by rw[av nSR];exact s.a9.da,s.a9.ne,s.a9.len⟩,s.box.up uS,s.v7,by rw[av n3];exact s.aO,fun x hx=>?_,?_,s.nd,s.nS⟩
 ·obtain⟨hd,fi,xs,fa⟩:=s.frames x hx;obtain⟨_,_,_,_,m1,m2⟩:=n4 x hx;exact⟨hd,fi,xs,fa.up uS (av m1) (av m2)⟩
 ·obtain⟨aaz,h,f,l⟩:=s.rows;rw[hR] at h;cases h;refine⟨_,ah,?_,by simp[l]⟩;rw[zaw];exact(f.up uS).snoc (Fix.lst (by rw[av (fun e=>nq (.inl (by rw[e];exact mR)))];exact hq) nq (.cons .int (.cons .str .nil)))
theorem kI.YD{f:PG.Frame}{a b:zc8}{r:List xp}(s:kI K H D S sc p B bs P R ((f,a,b)::r) rows E){xs:List V}(hb:H b=some (.lst xs)){st:PG.bX}{v:V}(hv:Fix K (O D P R ((f,a,b)::r) E) H (eT st) v) :
 kI K (upd H b (.lst (xs++[v]))) D S sc p B bs P R (({f with body:=f.body++[st]},a,b)::r) rows E:=by
 obtain⟨n1,n2,n3,n4⟩:=s.ne;have mb:b∈gS D P R ((f,a,b)::r):=by simp[gS]
 have uS:aM (O D P R ((f,a,b)::r) E) H (upd H b (.lst (xs++[v]))):=aM.refl.put (.inl mb) _;obtain⟨m1,m2,m3,m4,m5,m6⟩:=n4 _ (zak ..);have R1:S≠b:=fun e=>s.nS (by rw[e];exact mb);have nd:=s.nd;have QG:a≠b/\∀x∈r,x.2.1≠b/\x.2.2≠b:=by
  unfold gS at nd;rw[zaH,zaH,zaH,zaK] at nd;obtain⟨_,_,_,h4⟩:=nd;simp only[zaN,za3,zaH,zae,not_or] at h4;exact⟨h4.1.1,fun x hx=>⟨fun e=>h4.2.1 (zaR.mpr ⟨x,hx,by simp[e]⟩),fun e=>h4.2.1 (zaR.mpr ⟨x,hx,by simp[e]⟩)⟩⟩
 refine⟨⟨by rw[av m2.symm];exact s.a9.a9,by rw[av R1];exact s.a9.da,s.a9.ne,s.a9.len⟩,s.box.up uS,s.v7,by rw[av m4.symm,s.aO,zbu,zbu,zaw,zaw];rfl,fun x hx=>?_,?_,s.nd,s.nS⟩
 ·rcases zae.mp hx with rfl |hx
  ·obtain⟨hd,fi,IQ,fa⟩:=s.frames _ (zak ..);have e:=fa.bd;rw[hb] at e;cases e;have fu:=(show d7 K (O D P R ((f,a,b)::r) E) H f a b hd fi xs from fa)
   refine⟨hd,fi,_,⟨by rw[av QG.1];exact fa.fr,ah,?_,fun z=>let ⟨c,ys,e,h,n,g⟩:=fu.F7 z;⟨c,ys,e,uS _ _ n h,n,g.up uS⟩,fun z=>(fu.IP z).up uS,by simp[fu.len]⟩⟩;show dS K _ _ ((f.body++[st]).map eT) _;rw[zaw];exact(fu.ok.up uS).snoc (hv.up uS)
  ·obtain⟨hd,fi,IQ,fa⟩:=s.frames x (zai _ hx);exact⟨hd,fi,IQ,fa.up uS (av (QG.2 x hx).1) (av (QG.2 x hx).2)⟩
 ·obtain⟨xq,h,g,l⟩:=s.rows;exact⟨xq,by rw[av m6.symm];exact h,g.up uS,l⟩
theorem kI.pop{f:PG.Frame}{a b:zc8}{r:List xp}(s:kI K H D S sc p B bs P R ((f,a,b)::r) rows E) :
 kI K (upd H P (.lst (r.reverse.map fun x=>.ref x.2.1))) D S sc p B bs P R r rows (a::b::E)/\(∃hd fi xs,d7 K (O D P R r (a::b::E)) (upd H P (.lst (r.reverse.map fun x=>.ref x.2.1))) f a b hd fi xs)/\a ∉ gS D P R r/\b ∉ gS D P R r/\a≠b:=by
 obtain⟨n1,n2,n3,n4⟩:=s.ne;have mP:P∈gS D P R ((f,a,b)::r):=by simp[gS]
 have uS:aM (O D P R ((f,a,b)::r) E) H (upd H P (.lst (r.reverse.map fun x=>.ref x.2.1))):=aM.refl.put (.inl mP) _;have j:∀c,O D P R r (a::b::E) c->O D P R ((f,a,b)::r) E c:=fun c hc=>by
  simp only[O,gS,zae,zaK,zaN,za3] at hc ⊢;rcases hc with (h |h |h |h) |h |h |h
  ·exact .inl (.inl h)
  ·exact .inl (.inr (.inl h))
  ·exact .inl (.inr (.inr (.inl h)))
  ·exact .inl (.inr (.inr (.inr (.inr (.inr h)))))
  ·exact .inl (.inr (.inr (.inr (.inl h))))
  ·exact .inl (.inr (.inr (.inr (.inr (.inl h)))))
  ·exact .inr h
 have sub:∀c,c∈gS D P R r->c∈gS D P R ((f,a,b)::r):=fun c hc=>by
  simp only[gS,zae,zaK,zaN,za3] at hc ⊢;rcases hc with h |h |h |h
  ·exact .inl h
  ·exact .inr (.inl h)
  ·exact .inr (.inr (.inl h))
  ·exact .inr (.inr (.inr (.inr (.inr h))))
 have nd:=s.nd;unfold gS at nd;rw[zaK] at nd;simp only[zaN,za3,zaH,zae,not_or] at nd;obtain⟨⟨d1,d2,d3,d4,d5⟩,⟨p1,p2,p3,p4⟩,⟨r1,r2,r3⟩,⟨a1,a2⟩,b1,fl⟩:=nd;have VV:S≠P:=fun e=>s.nS (by rw[e];exact mP);obtain⟨m1,m2,m3,m4,m5,m6⟩:=n4 _ (zak ..);refine⟨⟨⟨by rw[av n1];exact s.a9.a9,by rw[av VV];exact s.a9.da,s.a9.ne,s.a9.len⟩,(s.box.up uS).sub j,s.v7,ah,fun x hx=>?_,?_,?_,fun z=>s.nS (sub _ z)⟩,?_,?_,?_,a1⟩
 ·obtain⟨hd,fi,IQ,fa⟩:=s.frames x (zai _ hx);obtain⟨_,_,k3,k4,_,_⟩:=n4 x (zai _ hx);exact⟨hd,fi,IQ,(fa.up uS (av k3) (av k4)).sub j⟩
 ·obtain⟨xq,h,g,l⟩:=s.rows;exact⟨xq,by rw[av n3.symm];exact h,(g.up uS).sub j,l⟩
 ·unfold gS;simp only[zaH,zae,not_or];exact⟨⟨d1,d2,d5⟩,⟨p1,p4⟩,r3,fl⟩
 ·obtain⟨hd,fi,IQ,fa⟩:=s.frames _ (zak ..);exact⟨hd,fi,IQ,(fa.up uS (av m3) (av m4)).sub j⟩
 ·unfold gS;simp only[zae,not_or];exact⟨m1,m3,m5,a2⟩
 ·unfold gS;simp only[zae,not_or];exact⟨m2,m4,m6,b1⟩
theorem kI.push(s:kI K H D S sc p B bs P R cV rows E){f:PG.Frame}{a b:zc8}{hd fi:V}{xs:List V}(fa:d7 K (O D P R cV E) H f a b hd fi xs)(ha:a ∉ gS D P R cV)(hb:b ∉ gS D P R cV)(R3:a≠b)(VW:S≠a)(R1:S≠b)(ea:a∈E)(eb:b∈E) :
 kI K (upd H P (.lst ((cV.reverse.map fun x=>.ref x.2.1)++[.ref a]))) D S sc p B bs P R ((f,a,b)::cV) rows E:=by
 obtain⟨n1,n2,n3,n4⟩:=s.ne;have mP:P∈gS D P R cV:=by simp[gS]
 have uS:aM (O D P R cV E) H (upd H P (.lst ((cV.reverse.map fun x=>.ref x.2.1)++[.ref a]))):=aM.refl.put (.inl mP) _;have j:∀c,O D P R ((f,a,b)::cV) E c->O D P R cV E c:=fun c hc=>by
  simp only[O,gS,zae,zaK,zaN,za3] at hc ⊢;rcases hc with (h |h |h |h |h |h) |h
  ·exact .inl (.inl h)
  ·exact .inl (.inr (.inl h))
  ·exact .inl (.inr (.inr (.inl h)))
  ·exact .inr (by rw[h];exact ea)
  ·exact .inr (by rw[h];exact eb)
  ·exact .inl (.inr (.inr (.inr h)))
  ·exact .inr h
 have VV:S≠P:=fun e=>s.nS (by rw[e];exact mP);unfold gS at ha hb;simp only[zae,not_or] at ha hb;have nd:=s.nd;unfold gS at nd;simp only[zaH,zae,not_or] at nd;obtain⟨⟨d1,d2,d5⟩,⟨p1,p4⟩,r3,fl⟩:=nd;have nS:=s.nS;unfold gS at nS;simp only[zae,not_or] at nS;refine⟨⟨by rw[av n1];exact s.a9.a9,by rw[av VV];exact s.a9.da,s.a9.ne,s.a9.len⟩,(s.box.up uS).sub j,s.v7,by rw[ah,zbu,zaw];rfl,fun x hx=>?_,?_,?_,?_⟩
 ·rcases zae.mp hx with rfl |hx
  ·exact⟨hd,fi,xs,(fa.up uS (av ha.2.1) (av hb.2.1)).sub j⟩
  ·obtain⟨hd,fi,IQ,fa⟩:=s.frames x hx;obtain⟨_,_,k3,k4,_,_⟩:=n4 x hx;exact⟨hd,fi,IQ,(fa.up uS (av k3) (av k4)).sub j⟩
 ·obtain⟨xq,h,g,l⟩:=s.rows;exact⟨xq,by rw[av n3.symm];exact h,(g.up uS).sub j,l⟩
 ·unfold gS;rw[zaK];simp only[zaN,za3,zaH,zae,not_or];exact⟨⟨d1,d2,fun e=>ha.1 e.symm,fun e=>hb.1 e.symm,d5⟩,⟨p1,fun e=>ha.2.1 e.symm,fun e=>hb.2.1 e.symm,p4⟩,⟨fun e=>ha.2.2.1 e.symm,fun e=>hb.2.2.1 e.symm,r3⟩,⟨R3,ha.2.2.2⟩,hb.2.2.2,fl⟩
 ·unfold gS;rw[zaK];simp only[zaN,za3,zae,not_or];exact⟨nS.1,nS.2.1,nS.2.2.1,VW,R1,nS.2.2.2⟩
end
theorem De{K:zaa}{a D:zc8}{xs:List V}{tc:TT}{te:TE}{Q:VK}{r:St}{H:Hp}(p:Nat->Bool)(f:Nat->V)(hS:gM K H a xs)(hl:xs.length<=16000000)(hD:H D=none)
 (test:∀i x,xs[i]?=some x->∀H2,au H H2->∀R:Bool->Hp->Prop,(∀H3,au H2 H3->R (p i) H3)->tc (some x::r) H2 R)
 (step:∀i x,xs[i]?=some x->p i=true->∀H2,au H H2->∀R:VK,(∀H3,au H2 H3->R (f i) H3)->te (some x::r) H2 R)
 (q:∀H2,au H H2->H2 D=some (.lst (((zaJ xs.length).filter p).map f))->Q (.ref D) H2):pz (G6 K a) D (dI 0) tc te Q (none::r) (upd H D (.lst [])):=by
 refine⟨fun i m τ H2=>m=xs.length-i/\i<=xs.length/\(∃x,τ=x::r)/\au H H2/\H2 D=some (.lst (((zaJ i).filter p).map f)),⟨xs.length,by simp,zaU _,⟨none,rfl⟩,au.new hD _,by rw[ah];simp⟩,?_⟩
 rintro i m τ H2 ⟨rfl,hi,⟨x,rfl⟩,s2,h2⟩
 by_cases o8:i<xs.length
 ·refine .inr ⟨⟨xs,xs[i],s2.seq hS,by simp[o8]⟩,fun τ' H'=>(∃x,τ'=x::r)/\au H H'/\H' D=some (.lst (((zaJ (i+1)).filter p).map f)),fun τ' H' ⟨h1,h3,h4⟩=>⟨xs.length-(i+1),by lia,rfl,o8,h1,h3,h4⟩,fun y H' hy=>?_⟩;obtain⟨rfl,hy⟩:=hy;have ey:=hy _ (s2.seq hS);simp only[dI,za6];refine test i y ey _ s2 _ fun H3 s3=>?_;have VX:=s2.trans s3;have h3:=s3 _ _ h2;rw[zbL,zaW,zaw];cases hp:p i with
  |false=>
   rw[if_neg zaf];exact⟨⟨_,rfl⟩,VX,by rw[h3];simp[hp]⟩
  |true=>
   rw[if_pos rfl];refine step i y ey hp _ VX _ fun H4 s4=>⟨_,s4 _ _ h3,?_,⟨_,rfl⟩,?_,?_⟩
   ·have h1:(((zaJ i).filter p).map f).length<=i:=by
     rw[zad];exact zaA (zcQ _ _) (by rw[zba];lia)
    have:zdg=2 ^ 24:=rfl;lia
   ·intro b o e;rw[av (aj e hD)];exact s4 _ _ (VX _ _ e)
   ·rw[ah];simp[hp]
 ·have e:i=xs.length:=by lia
  subst e;exact .inl ⟨⟨xs,s2.seq hS,zah _⟩,q H2 s2 h2⟩
theorem Bs{α:Type}(p:α->Bool)(d:α):∀l:List α,((zaJ l.length).filter fun i=>p (l.getD i d)).length=(l.filter p).length:=by
 intro l;have e:l=(zaJ l.length).map fun i=>l.getD i d:=by
  apply zbS
  ·simp
  ·intro i h1 h2;simp[h1]
 conv=>rhs;rw[e]
 rw[List.filter_map,zad];rfl
section
variable(K:zaa)
noncomputable def IS:Sp:=fun vs H Q _=>∃(B R:zc8) (bs:List PG.fO) (rows:List PG.Row) (mode:Int),vs=[.ref B,.ref R,.int mode]/\Rep K H (.lst (bs.map jm)) (.ref B)/\Rep K H (.lst (rows.map ur)) (.ref R)/\bs.length<=10/\rows.length<=1000/\
 ∀H',au H H'->Q (.int (PG.number bs.length rows mode)) H'
noncomputable def LL:Sp:=fun vs H Q _=>∃(D S:zc8) (sc:List Int) (p:Nat) (B:zc8) (bs:List PG.fO) (P R:zc8) (f g:PG.Frame) (a b a' b':zc8) (r:List xp) (rows:List PG.Row),vs=[.ref P]/\
 kI K H D S sc p B bs P R ((f,a,b)::(g,a',b')::r) rows []/\(f.kind=1\/f.kind=2\/f.kind=3)/\g.body.length<=1000/\r.length<=10/\
 ∀H',(∀c,H c≠none->H' c≠none)->(∀c o,c ∉ gS D P R ((f,a,b)::(g,a',b')::r)->H c=some o->H' c=some o)->kI K H' D S sc p B bs P R (({g with body:=g.body++[f.told]},a',b')::r) rows []->Q .b9 H'
end
theorem IT{X:Cx}{K:zaa}(h:X.K=K):QB X (FN K):=h▸bJ
theorem j3{X:Cx}{K:zaa}(h:X.K=K):QB X (HN K):=h▸aV
theorem F8{X:Cx}{K:zaa}(h:X.K=K):qG X (compareOp .NotIn) (VI K true):=h▸zf
section
variable(K:zaa)
noncomputable def R4 (x:PG.Prog×List PG.Row):Dp:=.lst [jh x.1,.lst (x.2.map ur)]
end
noncomputable def Kept (D:zc8) (H H':Hp):Prop:=aT D H H'/\∀b,H b≠none->H' b≠none
theorem Kept.up{D:zc8}{H H1 H2:Hp}(k:Kept D H H1)(u:aT D H1 H2)(hD:H2 D≠none):Kept D H H2:=⟨k.1.trans u,fun b hb=>u.oR hD b (k.2 b hb)⟩
theorem Kept.same{D:zc8}{H H1 H2:Hp}(k:Kept D H H1)(s:au H1 H2):Kept D H H2:=⟨k.1.trans (.of s),fun b hb=>by
 have:=k.2 b hb;cases z:H1 b with
 |none=>exact absurd z this
 |some o=>rw[s _ _ z];simp⟩
theorem Kept.put{D q:zc8}{H H1:Hp}(k:Kept D H H1)(hq:H q=none)(o:HO):Kept D H (upd H1 q o):=⟨fun b u n e=>by rw[av (aj e hq)];exact k.1 b u n e,fun b hb=>by
 by_cases z:b=q
 ·rw[z,ah];simp
 ·rw[av z];exact k.2 b hb⟩
theorem zr{c:TT}{ta tb:TS}{D:Ends}{σ:St}{H:Hp}(h:∀U:St->Hp->Prop,(∀σ' H',tb D σ' H'->U σ' H')->Hl c ta (fun _ σ H=>U σ H) D σ H):Hl c ta tb D σ H:=h (tb D) fun _ _ x=>x
theorem IU{K:zaa}{H:Hp}:∀(s:PG.bX) {v:V},Rep K H (eT s) v->∃a ys,v=.ref a/\cu K H a (.str (jZ s.wd)::ys):=by
 intro s v h;have key:∃ds,eT s=.tup (.str (jZ s.wd)::ds):=by
  cases s<;>exact⟨_,by rw[eT];rfl⟩
 obtain⟨ds,e⟩:=key;rw[e,Rep.br] at h;obtain⟨a,xs,rfl,q,r⟩:=h;rw[aI.aF] at r;obtain⟨v1,t1,rfl,e1,_⟩:=r;rw[Rep.bY] at e1;subst e1;exact⟨a,t1,rfl,q⟩
noncomputable def aR:PG.bX->List (List PG.bX)
 |.ifs _ _ _ _ a b=>[a,b]
 |.jc _ _ _ _ a=>[a]
 |_=>[]
noncomputable def gU (s:PG.bX) (x:Int):Int:=match s with
 |.jc k _ _ _ _=>k
 |_=>x
noncomputable def nv (s:PG.bX) (x:Int):List Int:=match s with
 |.stop _=>[0]
 |.ifs _ _ _ _ a b=>[PG.bc a x,PG.bc b x]
 |.jc k _ _ _ a=>[PG.bc a k,x]
 |_=>[x]
theorem IV(s:PG.bX)(x:Int):PG.fW s x=(s.row,s.wd,nv s x)::((aR s).flatMap fun b=>PG.aL b (gU s x)):=by
 cases s<;>simp[PG.fW,PG.bX.row,PG.bX.wd,nv,aR,gU]
noncomputable def fh (r:PG.dN):Dp:=.tup [.int r.1,.str (jZ r.2.1),.tup (r.2.2.map .int)]
section
variable(K:zaa)
noncomputable def oE:Sp:=fun vs H Q _=>∃(b:zc8) (body:List PG.bX) (x:Int),vs=[.ref b,.int x]/\Rep K H (.lst (body.map eT)) (.ref b)/\body.length<=100000/\Q (.int (PG.bc body x)) H
noncomputable def Bt:Sp:=fun vs H Q _=>∃(v:V) (st:PG.bX) (x:Int),vs=[v,.int x]/\Rep K H (eT st) v/\Q (.int (gU st x)) H
noncomputable def v8:Sp:=fun vs H Q _=>∃(v:V) (st:PG.bX) (H0:Hp),vs=[v]/\Rep K H0 (eT st) v/\au H0 H/\∀l us H',au H H'->H l=none->H' l=some (.lst us)->aI K H0 ((aR st).map fun b=>.lst (b.map eT)) us->Q (.ref l) H'
end
theorem iz{K:zaa}{H:Hp}:∀(s:PG.bX) {v:V},Rep K H (eT s) v->∃a ys,v=.ref a/\cu K H a (.str (jZ s.wd) :: .int s.row::ys):=by
 intro s v h;have key:∃ds,eT s=.tup (.str (jZ s.wd) :: .int s.row::ds):=by
  cases s<;>exact⟨_,by rw[eT];rfl⟩
 obtain⟨ds,e⟩:=key;rw[e,Rep.br] at h;obtain⟨a,xs,rfl,q,r⟩:=h;rw[aI.aF] at r;obtain⟨v1,t1,rfl,e1,r⟩:=r;rw[aI.aF] at r;obtain⟨v2,t2,rfl,e2,_⟩:=r;rw[Rep.bY] at e1;rw[Rep.bF] at e2;subst e1 e2;exact⟨a,t2,rfl,q⟩
section
variable(K:zaa)
noncomputable def IW (st:PG.bX):Prop:=∀b∈aR st,b.length<=100000
noncomputable def IX:Sp:=fun vs H Q _=>∃(v:V) (st:PG.bX) (x:Int),vs=[v,.int x]/\Rep K H (eT st) v/\IW st/\∀u H',au H H'->Rep K H' (.tup ((nv st x).map .int)) u->Q u H'
end
mutual
noncomputable def G9:Dp->Bool
 |.lst _=>false
 |.tup l=>nC l
 |_=>true
noncomputable def nC:List Dp->Bool
 |[]=>true
 |d::r=>G9 d&&nC r
end
section
variable{K:zaa}{H H':Hp}{tl:zc8}{xs:List V}
mutual
theorem Bu(h:H tl=some (.lst xs))(u:aM (·=tl) H H'):∀(d:Dp) (v:V),G9 d=true->Rep K H d v->Rep K H' d v
 |.b9,v,_,r=>by rw[Rep.qZ] at r ⊢;exact r
 |.bl b,v,_,r=>by rw[Rep.mY] at r ⊢;exact r
 |.int b,v,_,r=>by rw[Rep.bF] at r ⊢;exact r
 |.str b,v,_,r=>by rw[Rep.bY] at r ⊢;exact r
 |.lst l,v,e,_=>by rw[G9] at e;cases e
 |.tup l,v,e,r=>by
  rw[G9] at e;rw[Rep.br] at r ⊢;obtain⟨a,ys,rfl,q,rs⟩:=r;refine⟨a,ys,rfl,?_,tH h u l ys e rs⟩;rcases q with (q |⟨o,q⟩) |q
  ·exact .inl (.inl (u _ _ (bN q h (by intro z;cases z)) q))
  ·exact .inl (.inr ⟨o,u _ _ (bN q h (by intro z;cases z)) q⟩)
  ·exact .inr q
theorem tH(h:H tl=some (.lst xs))(u:aM (·=tl) H H'):∀(ds:List Dp) (vs:List V),nC ds=true->aI K H ds vs->aI K H' ds vs
 |[],vs,_,r=>by rw[aI.bI] at r ⊢;exact r
 |d::ds,vs,e,r=>by
  rw[nC,zbo] at e;rw[aI.aF] at r ⊢;obtain⟨v,t,rfl,r1,r2⟩:=r;exact⟨v,t,rfl,Bu h u d v e.1 r1,tH h u ds t e.2 r2⟩
end
theorem ES(h:H tl=some (.lst xs)){ds:List Dp}{vs:List V}(e:nC ds=true)(r:aI K H ds vs):dS K (·=tl) H ds vs:=fun _ u=>tH h u ds vs e r
theorem OV(h:H tl=some (.lst xs)){d:Dp}{v:V}(e:G9 d=true)(r:Rep K H d v):Fix K (·=tl) H d v:=fun _ u=>Bu h u d v e r
end
theorem tI:∀l:List Int,nC (l.map .int)=true
 |[]=>by simp[nC]
 |i::r=>by rw[zaq,nC,tI r];simp[G9]
theorem IY(r:PG.dN):G9 (fh r)=true:=by simp[fh,G9,nC,tI]
theorem tJ:∀l:List PG.dN,nC (l.map fh)=true
 |[]=>by simp[nC]
 |r::l=>by rw[zaq,nC,IY,tJ l];rfl
section
variable(K:zaa)
noncomputable def vn (n:Nat):Sp:=fun vs H Q _=>∃(b:zc8) (body:List PG.bX) (x:Int),vs=[.ref b,.int x]/\Rep K H (.lst (body.map eT)) (.ref b)/\PG.eX body<n/\(PG.bH body).length<=1000/\
 ∀l us H',au H H'->H l=none->H' l=some (.lst us)->aI K H' ((PG.aL body x).map fh) us->Q (.ref l) H'
end
mutual
theorem lK:∀(s:PG.bX) (b:List PG.bX),b∈aR s->(PG.bH b).length+1<=(PG.dh s).length/\PG.eX b+1<=PG.jY s
 |.ifs k _ _ _ x y,b,h=>by
  simp only[aR,zae,zaS,or_false] at h;rw[PG.dh,PG.jY];simp only[zaj,zal];rcases h with rfl |rfl<;>lia
 |.jc k _ _ _ x,b,h=>by
  simp only[aR,zae,zaS,or_false] at h;rw[PG.dh,PG.jY];simp only[zaj];subst h;lia
 |.ask _ _,b,h=>by cases h
 |.put _ _ _,b,h=>by cases h
 |.say _ _,b,h=>by cases h
 |.cB _ _ _ _,b,h=>by cases h
 |.stop _,b,h=>by cases h
end
theorem tK:∀(l:List PG.bX) (s:PG.bX),s∈l->(PG.dh s).length<=(PG.bH l).length/\PG.jY s<=PG.eX l
 |[],s,h=>by cases h
 |a::r,s,h=>by
  rw[PG.bH,PG.eX,zal];rcases zae.mp h with rfl |h
  ·lia
  ·have:=tK r s h;lia
theorem F9(s:PG.bX):1<=(PG.dh s).length:=by cases s<;>simp[PG.dh]
theorem kJ:∀l:List PG.bX,l.length<=(PG.bH l).length
 |[]=>zaU _
 |s::r=>by
  rw[PG.bH,zal,zaj];have:=F9 s;have:=kJ r;lia
section
variable(K:zaa)
noncomputable def zt:Sp:=fun vs H Q _=>∃(v:V) (pr:PG.Prog),vs=[v]/\Rep K H (jh pr) v/\PG.eX pr.body<=3/\(PG.bH pr.body).length<=1000/\
 ∀l us H',au H H'->H l=none->H' l=some (.lst us)->aI K H' ((PG.aL pr.body 0).map fh) us->Q (.ref l) H'
noncomputable def Ga:Sp:=fun vs H Q _=>∃(v:V) (pr:PG.Prog),vs=[v]/\Rep K H (jh pr) v/\PG.eX pr.body<=3/\(PG.bH pr.body).length<=1000/\
 ∀l us H',au H H'->H l=none->H' l=some (.lst us)->aI K H' ((PG.ID (PG.bH pr.body)).map ji) us->Q (.ref l) H'
end
end L2
namespace L2
open PySem
theorem gk:∀t:PM.Tr,(mL t).deep<=PG.mM t+1
 |.num n=>by simp[mL,Dp.deep,Dp.fe]
 |.box n=>by simp[mL,Dp.deep,Dp.fe]
 |.bin o l r=>by
  have:=gk l;have:=gk r;simp only[mL,Dp.deep,Dp.fe,PG.mM];lia
noncomputable abbrev OkE:PG.bX->Prop:=PG.rj (fun _=>True) (fun e=>PG.mM e<=2) (fun _=>True)
noncomputable abbrev R5:List PG.bX->Prop:=PG.vU (fun _=>True) (fun e=>PG.mM e<=2) (fun _=>True)
mutual
theorem IZ:∀s:PG.bX,OkE s->(eT s).deep<=2*PG.jY s+4
 |.ask k b,h=>by simp[eT,Dp.deep,Dp.fe]
 |.put k b e,h=>by
  simp only[PG.rj] at h;have:=gk e;simp only[eT,Dp.deep,Dp.fe,PG.jY];lia
 |.say k e,h=>by
  simp only[PG.rj] at h;have:=gk e;simp only[eT,Dp.deep,Dp.fe,PG.jY];lia
 |.cB k sg l r,h=>by
  simp only[PG.rj] at h;have:=gk l;have:=gk r;simp only[eT,Dp.deep,Dp.fe,PG.jY];lia
 |.stop k,h=>by simp[eT,Dp.deep,Dp.fe]
 |.ifs k sg l r a b,h=>by
  simp only[PG.rj] at h;have:=gk l;have:=gk r;have:=kK a h.2.2.2.1;have:=kK b h.2.2.2.2;simp only[eT,Dp.deep,Dp.fe,PG.jY];lia
 |.jc k sg l r a,h=>by
  simp only[PG.rj] at h;have:=gk l;have:=gk r;have:=kK a h.2.2.2;simp only[eT,Dp.deep,Dp.fe,PG.jY];lia
theorem kK:∀b:List PG.bX,R5 b->Dp.fe (zp b)<=2*PG.eX b+4
 |[],h=>by simp[zp,Dp.fe]
 |s::r,h=>by
  simp only[PG.vU] at h;have:=IZ s h.1;have:=kK r h.2;simp only[zp,Dp.fe,PG.eX];lia
end
theorem v9:∀b:List PG.fO,Dp.fe (b.map jm)<=1
 |[]=>by simp[Dp.fe]
 |s::r=>by
  have:=v9 r;simp only[zaq,Dp.fe,jm,Dp.deep];lia
theorem yr:∀b:List PG.Row,Dp.fe (b.map ur)<=1
 |[]=>by simp[Dp.fe]
 |s::r=>by
  have:=yr r;simp only[zaq,Dp.fe,ur,Dp.deep];lia
theorem LM(sc:List Int)(many p:Nat):(R4 (PG.bS sc many p)).deep<=60:=by
 have ok:R5 (PG.bS sc many p).1.body:=PG.vW sc many p (fun _ _=>trivial) (fun d q hd=>zaA (PG.rm _ _ _ _) hd) (fun _=>trivial);have h1:=kK _ ok;have h2:=PG.Bk sc many p;have h3:=v9 (PG.bS sc many p).1.aA;have h4:=yr (PG.bS sc many p).2;rw[gi] at h1;simp only[R4,jh,Dp.deep,Dp.fe];lia
structure LN(K:zaa)(H H2:Hp)(tl:zc8)(H3:Hp)(us:List V)(pre:List PG.Tg):Prop where
 s:au H H3
 u:aM (·=tl) H2 H3
 y:H3 tl=some (.lst us)
 f:dS K (·=tl) H3 (pre.map ji) us
 l:us.length=pre.length
section
variable{K:zaa}{H H2 H3 H4:Hp}{tl p:zc8}{us vs:List V}{pre:List PG.Tg}{ds:List Dp}{g:PG.Tg}
theorem LN.same(a:LN K H H2 tl H3 us pre)(s:au H3 H4):LN K H H2 tl H4 us pre:=⟨a.s.trans s,a.u.trans (.of s),s _ _ a.y,a.f.up (.of s),a.l⟩
theorem LN.app(a:LN K H H2 tl H3 us pre)(ht:H tl=none)(hp:H3 p=none)(hg:ji g=.tup ds)(hv:∀Hx,dS K (·=tl) Hx ds vs) :
 LN K H H2 tl (upd (upd H3 p (.tup vs)) tl (.lst (us++[.ref p]))) (us++[.ref p]) (pre++[g]):=by
 have b:=a.same (au.new hp (.tup vs));have np:p≠tl:=(aj a.y hp).symm;have t:(upd H3 p (.tup vs)) p=some (.tup vs):=ah;generalize upd H3 p (.tup vs)=H5 at *;have uu:aM (·=tl) H5 (upd H5 tl (.lst (us++[.ref p]))):=aM.refl.put (O:=(·=tl)) rfl _;refine⟨fun z o e=>by rw[av (aj e ht)];exact b.s z o e,b.u.trans uu,ah,?_,by simp[a.l]⟩;rw[zaw];refine(b.f.snoc (d:=ji g) (v:=.ref p) ?_).up uu;rw[hg];exact Fix.tup t np (hv _)
end
theorem LO{K:zaa}{O:zc8->Prop}{H2:Hp}{fl:List PG.dN}{fv:List V}(g2:dS K O H2 (fl.map fh) fv){i:Nat}{y:V}(hi:fv[i]?=some y)(li:i<fl.length) :
 ∃a,y=.ref a/\∀H',aM O H2 H'->∃t,cu K H' a (.int fl[i].1 :: .str (jZ fl[i].2.1)::t):=by
 have key:∀H',aM O H2 H'->∃a t,y=.ref a/\cu K H' a (.int fl[i].1 :: .str (jZ fl[i].2.1)::t):=fun H' u=>by
  obtain⟨v',FF,rv⟩:=(g2 H' u).get (i:=i) (d:=fh fl[i]) (by rw[zap,zac li];rfl);rw[hi] at FF;cases FF;unfold fh at rv;rw[Rep.br] at rv;obtain⟨a,xs,rfl,hx,rs⟩:=rv;rw[aI.aF] at rs;obtain⟨v1,t1,rfl,r1,rs⟩:=rs;rw[aI.aF] at rs;obtain⟨v2,t2,rfl,r2,rs⟩:=rs;rw[Rep.bF] at r1;rw[Rep.bY] at r2;subst r1 r2;exact⟨a,t2,rfl,hx⟩
 obtain⟨a,_,rfl,_⟩:=key H2 .refl;refine⟨a,rfl,fun H' u=>?_⟩;obtain⟨a',t,e,h⟩:=key H' u;cases e;exact⟨t,h⟩
theorem ET:∀w:PG.Wd,QC (V.str (jZ w)) [V.str (zab "if"),V.str (zab "while")]=decide (w=.ifs\/w=.jc):=by
 intro w;cases w<;>decide +kernel
theorem tL:∀w:PG.Wd,(V.str (jZ w)=V.str (zab "must"))↔w=.cB:=by
 intro w;cases w<;>decide +kernel
end L2
namespace L2
open PySem
theorem Df{aC:List (Key×V)}{k:Key}{v:V}(h:k ∉ aC.map (·.1)):putK aC k v=aC++[(k,v)]:=by
 unfold putK;rw[if_neg];intro z;rw[List.any_eq_true] at z;obtain⟨x,hx,e⟩:=z;exact h (zaF.mpr ⟨x,hx,of_decide_eq_true e⟩)
theorem qh:∀(more aC:List (Key×V)),((aC++more).map (·.1)).Nodup->lC aC more=aC++more
 |[],aC,_=>by simp[lC]
 |p::r,aC,h=>by
  have hp:p.1 ∉ aC.map (·.1):=fun z=>by
   rw[zaw,zbP] at h;exact h.2.2 _ z _ (by simp) rfl
  show lC (putK aC p.1 p.2) r=_;rw[Df hp,qh r _ (by rw[zaZ];exact h),zaZ];rfl
noncomputable def jo (ss:List PG.bX) (vs:List V):List (Key×V):=za8 (fun s v=>(Sum.inl s.row,v)) ss vs
theorem wb:∀(ss:List PG.bX) (vs:List V),vs.length=ss.length->(jo ss vs).map (·.1)=ss.map fun s=>(Sum.inl s.row:Key)
 |[],[],_=>rfl
 |[],_::_,h=>by simp at h
 |_::_,[],h=>by simp at h
 |s::ss,v::vs,h=>by
  show _::(jo ss vs).map (·.1)=_;rw[wb ss vs (by simpa using h)];rfl
theorem wc{ss:List PG.bX}(h:ss.Pairwise fun a b=>a.row<b.row):(ss.map fun s=>(Sum.inl s.row:Key)).Nodup:=by
 refine za0.mpr (h.imp fun {a b} Nt e=>?_);have:=Sum.inl.inj e;lia
theorem rC:∀(ss:List PG.bX) (vs:List V),vs.length=ss.length->ss.Pairwise (fun a b=>a.row<b.row)->∀i (hi:i<ss.length) v,vs[i]?=some v->b8 (jo ss vs) (.inl ss[i].row)=some v
 |[],_,_,_,i,hi,_,_=>by simp at hi
 |_::_,[],h,_,_,_,_,_=>by simp at h
 |s::ss,v::vs,h,hp,0,hi,u,hu=>by
  simp at hu;subst hu;show b8 ((_,v)::jo ss vs) _=_;exact cD rfl
 |s::ss,v::vs,h,hp,i+1,hi,u,hu=>by
  rw[zbA] at hp;have lt:=hp.1 (ss[i]'(by simpa using hi)) (zat _);show b8 ((.inl s.row,v)::jo ss vs) (.inl (ss[i]'(by simpa using hi)).row)=_;rw[cE (fun e=>by have e:=Sum.inl.inj e;lia)];exact rC ss vs (by simpa using h) hp.2 i (by simpa using hi) u (by simpa using hu)
theorem LP(s:PG.bX):PG.lI s=s::(aR s).flatMap PG.aB:=by
 cases s<;>simp[PG.lI,aR]
section
variable(K:zaa)
noncomputable def lL (n:Nat):Sp:=fun vs H Q _=>∃(b:zc8) (body:List PG.bX) (H0:Hp),vs=[.ref b]/\au H0 H/\Rep K H0 (.lst (body.map eT)) (.ref b)/\PG.eX body<n/\(PG.bH body).length<=1000/\
 ∀l us H',au H H'->H l=none->H' l=some (.lst us)->aI K H0 ((PG.aB body).map eT) us->Q (.ref l) H'
end
theorem we:∀a b:List PG.bX,PG.aB (a++b)=PG.aB a++PG.aB b
 |[],b=>by simp[PG.aB]
 |s::r,b=>by
  show PG.aB (s::(r++b))=_;rw[PG.aB,PG.aB,we r b,zaZ]
theorem I0(s:PG.bX):PG.aB [s]=PG.lI s:=by rw[PG.aB,PG.aB,zaC]
theorem wg(b:List PG.bX):(PG.aB b).length=(PG.bH b).length:=by rw[<- PG.eK,zad]
noncomputable def rD {α β γ:Type} (R:α->β->γ->Prop):List α->List β->List γ->Prop
 |[],[],[]=>True
 |a::as,b::bs,c::cs=>R a b c/\rD R as bs cs
 |_,_,_=>False
section
variable{α β γ:Type}{R S:α->β->γ->Prop}
theorem rD.bI{bs:List β}{cs:List γ}:rD R [] bs cs↔bs=[]/\cs=[]:=by
 cases bs<;>cases cs<;>simp[rD]
theorem rD.aF{a:α}{as:List α}{bs:List β}{cs:List γ}:rD R (a::as) bs cs↔∃b Ue c Ug,bs=b::Ue/\cs=c::Ug/\R a b c/\rD R as Ue Ug:=by
 constructor
 ·intro h;cases bs with
  |nil=>simp[rD] at h
  |cons b bs=>
   cases cs with
   |nil=>simp[rD] at h
   |cons c cs=>exact⟨b,bs,c,cs,rfl,rfl,h.1,h.2⟩
 ·rintro ⟨b,Ue,c,Ug,rfl,rfl,h1,h2⟩
  exact⟨h1,h2⟩
theorem rD.length:∀ {as:List α} {bs:List β} {cs:List γ},rD R as bs cs->bs.length=as.length/\cs.length=as.length
 |[],_,_,h=>by obtain⟨rfl,rfl⟩:=rD.bI.mp h;exact⟨rfl,rfl⟩
 |a::as,_,_,h=>by
  obtain⟨b,Ue,c,Ug,rfl,rfl,_,h2⟩:=rD.aF.mp h;have:=rD.length h2;simp[this]
end
section
variable{K:zaa}{H H':Hp}{O:zc8->Prop}
theorem Gb(hO:∀g,O g->∃ys,H g=some (.lst ys))(u:aM O H H'){a:zc8}{ys:List V}(q:cu K H a ys):cu K H' a ys:=by
 rcases q with (q |⟨o,q⟩) |q
 ·exact .inl (.inl (u _ _ (fun z=>by obtain⟨_,e⟩:=hO a z;rw[e] at q;cases q) q))
 ·exact .inl (.inr ⟨o,u _ _ (fun z=>by obtain⟨_,e⟩:=hO a z;rw[e] at q;cases q) q⟩)
 ·exact .inr q
mutual
theorem Gd(hO:∀g,O g->∃ys,H g=some (.lst ys))(u:aM O H H'):∀(d:Dp) (v:V),G9 d=true->Rep K H d v->Rep K H' d v
 |.b9,v,_,r=>by rw[Rep.qZ] at r ⊢;exact r
 |.bl b,v,_,r=>by rw[Rep.mY] at r ⊢;exact r
 |.int b,v,_,r=>by rw[Rep.bF] at r ⊢;exact r
 |.str b,v,_,r=>by rw[Rep.bY] at r ⊢;exact r
 |.lst l,v,e,_=>by rw[G9] at e;cases e
 |.tup l,v,e,r=>by
  rw[G9] at e;rw[Rep.br] at r ⊢;obtain⟨a,ys,rfl,q,rs⟩:=r;exact⟨a,ys,rfl,Gb hO u q,qi hO u l ys e rs⟩
theorem qi(hO:∀g,O g->∃ys,H g=some (.lst ys))(u:aM O H H'):∀(ds:List Dp) (vs:List V),nC ds=true->aI K H ds vs->aI K H' ds vs
 |[],vs,_,r=>by rw[aI.bI] at r ⊢;exact r
 |d::ds,vs,e,r=>by
  rw[nC,zbo] at e;rw[aI.aF] at r ⊢;obtain⟨v,t,rfl,r1,r2⟩:=r;exact⟨v,t,rfl,Gd hO u d v e.1 r1,qi hO u ds t e.2 r2⟩
end
end
theorem wj{K:zaa}{a D:zc8}{xs:List V}{te:TE}{Q:VK}{r:St}{H:Hp}(Pv:Nat->List V->Hp->Prop)(hS:gM K H a xs)(hl:xs.length<=16000000)(hD:H D=none)(h0:Pv 0 [] (upd H D (.lst [])))
 (step:∀i x ys H2,xs[i]?=some x->au H H2->H2 D=some (.lst ys)->ys.length=i->Pv i ys H2->∀R:VK,(∀v H3,au H2 H3->Pv (i+1) (ys++[v]) (upd H3 D (.lst (ys++[v])))->R v H3)->te (some x::r) H2 R)
 (q:∀ys H2,au H H2->H2 D=some (.lst ys)->Pv xs.length ys H2->Q (.ref D) H2):pz (G6 K a) D (dI 0) vN te Q (none::r) (upd H D (.lst [])):=by
 refine⟨fun i m τ H2=>m=xs.length-i/\i<=xs.length/\(∃x,τ=x::r)/\au H H2/\∃ys,H2 D=some (.lst ys)/\ys.length=i/\Pv i ys H2,⟨xs.length,by simp,zaU _,⟨none,rfl⟩,au.new hD _,[],ah,rfl,h0⟩,?_⟩
 rintro i m τ H2 ⟨rfl,hi,⟨x,rfl⟩,s2,ys,h2,ly,p2⟩
 by_cases o8:i<xs.length
 ·refine .inr ⟨⟨xs,xs[i],s2.seq hS,by simp[o8]⟩,fun τ' H'=>(∃x,τ'=x::r)/\au H H'/\∃ys,H' D=some (.lst ys)/\ys.length=i+1/\Pv (i+1) ys H',fun τ' H' ⟨h1,h3,h4⟩=>⟨xs.length-(i+1),by lia,rfl,o8,h1,h3,h4⟩,fun y H' hy=>?_⟩;obtain⟨rfl,hy⟩:=hy;have ey:=hy _ (s2.seq hS);simp only[dI,za6,vN];rw[if_pos trivial];refine step i y ys _ ey s2 h2 ly p2 _ fun v H3 s3 p3=>⟨ys,s3 _ _ h2,?_,⟨_,rfl⟩,?_,ys++[v],ah,by simp[ly],p3⟩
  ·have:zdg=2 ^ 24:=rfl;lia
  ·intro b o e;rw[av (aj e hD)];exact s3 _ _ (s2 _ _ e)
 ·have e:i=xs.length:=by lia
  subst e;exact .inl ⟨⟨xs,s2.seq hS,zah _⟩,q ys H2 s2 h2 p2⟩
end L2
namespace L2
open PySem
theorem Ja{K:zaa}{H:Hp}{fl:List PG.dN}{fv:List V}(g2:aI K H (fl.map fh) fv){i:Nat}{y:V}(hi:fv[i]?=some y)(li:i<fl.length) :
 ∃a p,y=.ref a/\cu K H a [.int fl[i].1,.str (jZ fl[i].2.1),.ref p]/\cu K H p (fl[i].2.2.map V.int):=by
 obtain⟨v',FF,rv⟩:=g2.get (i:=i) (d:=fh fl[i]) (by rw[zap,zac li];rfl);rw[hi] at FF;cases FF;unfold fh at rv;rw[Rep.br] at rv;obtain⟨a,xs,rfl,hx,rs⟩:=rv;rw[aI.aF] at rs;obtain⟨v1,t1,rfl,r1,rs⟩:=rs;rw[aI.aF] at rs;obtain⟨v2,t2,rfl,r2,rs⟩:=rs;rw[aI.aF] at rs;obtain⟨v3,t3,rfl,r3,rs⟩:=rs;rw[aI.bI] at rs;rw[Rep.bF] at r1;rw[Rep.bY] at r2;obtain⟨p,ys,rfl,hp,ry⟩:=Rep.br.mp r3;subst r1 r2 rs;have key:∀ {l:List Int} {ys:List V},aI K H (l.map Dp.int) ys->ys=l.map V.int:=by
  intro l
  induction l with
  |nil=>intro ys h;rw[zbl,aI.bI] at h;exact h
  |cons i r ih=>
   intro ys h;rw[zaq,aI.aF] at h;obtain⟨v,t,rfl,h1,h2⟩:=h;rw[Rep.bF] at h1;rw[h1,ih h2];rfl
 rw[key ry] at hp;exact⟨a,p,rfl,hx,hp⟩
end L2
namespace L3
open PySem PyProof.Rows
theorem LQ:typeLookup (.type "list") "keys"=pure none:=by rw[typeLookup_type,builtinLookup_eq_fast];kernel_rfl
theorem LR:typeLookup (.type "list") "__getattr__"=pure none:=by rw[typeLookup_type,builtinLookup_eq_fast];kernel_rfl
section
variable{prog:zdk}{w:zda}{A:zdj}{E:zc9->zdi->Prop}
theorem Jb(a:zc8)(u:Tok){hp:Heap}{g:Array GenState}{d:Drawn}{tk:Nat}{os:OsState}{bj:Array zc9}{n:Nat}{sl:Array (Option zc9)}{Q:Fin->zdi->Prop}(hx:hp.get? a=some ⟨.type "list",none,.seq bj n,sl⟩)(hA:A.handled=none)
 (h:∀h' LS e,Heap.NewAttrErr hp h' e (.ref a) "keys"->E (.ref e) ⟨h',g,d,LS,os⟩) :
 wpAny (model prog w) A (Builtin.«object.__getattribute__» ⟨[.ref a,.str "keys" u],[]⟩) Q E ⟨hp,g,d,tk,os⟩:=by
 have hT:(⟨hp,g,d,tk,os⟩:zdi).TypeIs (.ref a) "list":=⟨_,hx,rfl⟩
 have f4:=LQ;unfold Builtin.«object.__getattribute__»
 repeat (any_goals (first |assumption |wp_step))
 exact wpAny_raiseAttrError hA h (attrMsg_fits (by decide +kernel) (by size_fits))
theorem Ge(a:zc8){s:zdi}{bj:Array zc9}{n:Nat}{sl:Array (Option zc9)}{Q:Option zc9->zdi->Prop}(hx:s.heap.get? a=some ⟨.type "list",none,.seq bj n,sl⟩)(hA:A.handled=none)
 (h:∀h' tk,(∀b ob,s.heap.get? b=some ob->h'.get? b=some ob)->Q none {s with heap:=h',toks:=tk}):wpAny (model prog w) A (getAttr? (.ref a) "keys") Q E s:=by
 obtain⟨hp,g,d,tk,os⟩:=s;have hT:∀LS,(⟨hp,g,d,LS,os⟩:zdi).TypeIs (.ref a) "list":=fun _=>⟨_,hx,rfl⟩
 have f1:=sub_AttributeError;have f2:=F.slot_list_getattribute.lookup;have f3:=F.slot_list_getattribute.bind (.ref a);have f5:=LR;unfold getAttr? getAttrBy? getAttrBy
 repeat (any_goals (first |assumption |exact hT _ |wp_step))
 all_goals
  refine codeAny_call_builtin F.slot_list_getattribute.plain F.entry_list_ga (F.slot_list_getattribute.check _ _ _ _ _ _ _ _ (show (⟨hp,g,d,tk+1,os⟩:zdi).TypeIs (.ref a) "list" from ⟨_,hx,rfl⟩) (F.args_list_getattribute_2 _ _) ?_)
 all_goals
  refine Jb a tk hx hA fun h' LS e ne=>?_
 all_goals
  obtain⟨t',u',he⟩:=ne.there;show wpAny _ _ (getattributeRaised _ _ _ _ _ _ _) _ _ _;unfold getattributeRaised
  repeat (any_goals (first |assumption |wp_step))
 all_goals exact h _ _ ne.keeps
theorem lM:entryFor table "dict.update.loop"=some Builtin.«dict.update.loop»:=entryFor_of_tree (by kernel_rfl)
theorem fj:plainId "dict.update.loop"=true:=by decide +kernel
theorem Bv{κ:Type}[DecidableEq κ](knd:KeyKind prog w κ)(d it l:zc8)(items:Array zc9)(res:zc9)(hA:A.handled=none)(Cr:it≠d){R:Result->zdi->Prop}:∀(r:List (zc8×κ×zc9×zc9)) (i:Nat) (j:Int) (u:Tok) (aC:List (κ×zc9)) (s:zdi),
 items.toList.drop i=r.map (fun q=>Value.ref q.1)->(∀q∈r,s.heap.IsTuple q.1 #[q.2.2.1,q.2.2.2]/\knd.is q.2.1 q.2.2.1=true)->s.heap.IsListIter it l i->s.heap.IsList l items->s.heap.DictOf knd d aC->aC.length+r.length<=zdg->
 (∀h' tk,h'.DictOf knd d (merged aC (r.map fun q=>(q.2.1,q.2.2.2)))->(∀b o,b≠d->b≠it->s.heap.get? b=some o->h'.get? b=some o)->R (.ok (.ret res)) {s with heap:=h',toks:=tk})->
 codeAny (model prog w) A (.builtin "dict.update.loop" ⟨[.ref d,.ref it,.int j u,res],[]⟩) R s
 |[],i,j,u,aC,s,hi,hp,hit,hl,hd,hz,hR=>by
  refine codeAny_builtin lM ?_;rw[Around.under_plainId fj _];show wpAny _ A.in1 (pyNext (.ref it) >>= _) _ _ s;refine zdb (wpAny_pyNext_list_end hA hit hl (by rw[<- zbe];rw[zbl] at hi;exact zcR (zcX.mp hi)) fun h' ext=>?_);show wpAny _ _ (Builtin.Dict.addKeywords d [] >>= _) _ _ _;refine zdb (zdc (zdc (hR h' s.toks ?_ fun b o _ h2 e=>?_)))
  ·obtain⟨o,es,ep,ho,rest⟩:=hd;exact⟨o,es,ep,ext d o Cr.symm ho,rest⟩
  ·exact ext b o h2 e
 |q::r,i,j,u,aC,s,hi,hp,hit,hl,hd,hz,hR=>by
  have hx:items[i]?=some (Value.ref q.1):=by
   rw[<- zbe,<- zcI,hi];rfl
  refine codeAny_builtin lM ?_;rw[Around.under_plainId fj _];show wpAny _ A.in1 (pyNext (.ref it) >>= _) _ _ s;refine zdb (wpAny_pyNext_list_item hit hl hx fun h' OQ sb=>?_);obtain⟨⟨oq,VY,VZ,nq,hdq⟩,kq⟩:=hp q (zak ..);have niq:q.1≠it:=fun z=>by
   obtain⟨oi,OW,R6,_⟩:=hit;rw[z,OW] at VY;cases VY;rw[R6] at VZ;exact absurd (Value.type.inj VZ) (by decide)
  have R7:h'.get? q.1=some oq:=(sb.2 _ niq).trans VY;have CF:h'.DictOf knd d aC:=by
   obtain⟨o,es,ep,ho,rest⟩:=hd;exact⟨o,es,ep,(sb.2 d Cr.symm).trans ho,rest⟩
  show wpAny _ A.in1 (holding [Value.ref q.1] _ >>= _) _ _ _;refine zdb (zdd (zdb (wpAny_tryCatch ?_)));unfold Builtin.Dict.pairItems;refine zdb (wpAny_typeOf (T:="tuple") ⟨oq,R7,VZ⟩ ?_);rw[if_pos (by decide)];refine zdb (wpAny_seqItems (s:={s with heap:=h' }) R7 hdq (zdc ?_));show wpAny _ A.in1 (holding [q.2.2.1,q.2.2.2] (dictSet d q.2.2.1 q.2.2.2)) _ _ _;refine zdd (wpAny_dictSet_pairs (s:={s with heap:=h' }) kq CF (fun h2 hd2 OX=>?_) (by simp only[zaj] at hz;lia));refine zdc ⟨plainId_quiet fj _,?_⟩;refine Bv knd d it l items res hA Cr r (i+1) (j+1) _ _ _ ?_ (fun p Uh=>?_) ?_ ?_ hd2 ?_ fun h3 tk Ui keep=>hR h3 tk Ui fun b o n1 n2 e=>keep b o n1 n2 ?_
  ·rw[<- zcS,hi];rfl
  ·obtain⟨⟨op,Ov,V0,np,V6⟩,kp⟩:=hp p (zai _ Uh);refine⟨⟨op,?_,V0,np,V6⟩,kp⟩;have n1:p.1≠it:=fun z=>by
    obtain⟨oi,OW,R6,_⟩:=hit;rw[z,OW] at Ov;cases Ov;rw[R6] at V0;exact absurd (Value.type.inj V0) (by decide)
   have n2:p.1≠d:=fun z=>by
    obtain⟨od,_,_,V7,_,LU,_⟩:=hd;rw[z,V7] at Ov;cases Ov;rw[LU] at V6;cases V6
   exact(OX.2 _ n2).trans ((sb.2 _ n1).trans Ov)
  ·obtain⟨oi,OW,rest⟩:=OQ;exact⟨oi,(OX.2 _ Cr).trans OW,rest⟩
  ·obtain⟨ol,R8,QH,nl,V8⟩:=hl;have n1:l≠it:=fun z=>by
    obtain⟨oi,OW,R6,_⟩:=hit;rw[z,OW] at R8;cases R8;rw[R6] at QH;exact absurd (Value.type.inj QH) (by decide)
   have n2:l≠d:=fun z=>by
    obtain⟨od,_,_,V7,_,LU,_⟩:=hd;rw[z,V7] at R8;cases R8;rw[LU] at V8;cases V8
   exact⟨ol,(OX.2 _ n2).trans ((sb.2 _ n1).trans R8),QH,nl,V8⟩
  ·have:=stored_length_le aC q.2.1 q.2.2.2;simp only[zaj] at hz;lia
  ·exact(OX.2 _ n1).trans ((sb.2 _ n2).trans e)
theorem dict_list{κ:Type}[DecidableEq κ](knd:KeyKind prog w κ)(l:zc8){s:zdi}{items:Array zc9}{n:Nat}{sl:Array (Option zc9)}{Q:zc9->zdi->Prop}(hA:A.handled=none)(r:List (zc8×κ×zc9×zc9))(hx:s.heap.get? l=some ⟨.type "list",none,.seq items n,sl⟩)
 (hi:items.toList=r.map (fun q=>Value.ref q.1)) (hp:∀q∈r,s.heap.IsTuple q.1 #[q.2.2.1,q.2.2.2]/\knd.is q.2.1 q.2.2.1=true) (hz:r.length<=zdg)
 (h:∀h' tk,h'.DictOf knd s.heap.objs.size (merged [] (r.map fun q=>(q.2.1,q.2.2.2)))->(∀b o,s.heap.get? b=some o->h'.get? b=some o)->Q (.ref s.heap.objs.size) {s with heap:=h',toks:=tk}) :
 wpAny (model prog w) A (call (.type "dict") [.ref l]) Q E s:=by
 refine callType_codes (Q₁:=fun obj s₁=>obj=.ref s.heap.objs.size/\s₁={s with heap:=s.heap.push {cls:=.type "dict",data:=.dict #[]} }) F.kt_called_dict (F.kt_typeCall_dict_1 _) F.entry_dict_init (kt_code_dict_new _ ⟨rfl,rfl⟩) ?_
 rintro obj s₁ ⟨rfl,rfl⟩
 have Dh:(s.heap.push {cls:=.type "dict",data:=.dict #[]}).DictOf knd s.heap.objs.size []:=Heap.DictOf.new s.heap;have pB:∀b o,s.heap.get? b=some o->(s.heap.push {cls:=.type "dict",data:=.dict #[]}).get? b=some o:=fun b o e=>Heap.get?_push_of_some _ e;refine⟨Dh.typeIs,F.args_dict_init_2 _ _,?_⟩;unfold Builtin.«dict.__init__»;refine zdb ?_;unfold Builtin.Dict.selfAndRest;refine zdb (wpAny_notOrdered_dict Dh.typeIs ?_);show wpAny _ _ (pure (s.heap.objs.size,[Value.ref l])) _ _ _;refine zdc ?_;show wpAny _ _ (Builtin.Dict.updateFrom "dict.__init__" s.heap.objs.size (.ref l) [] .none) _ _ _;unfold Builtin.Dict.updateFrom;refine zdb (wpAny_typeOf (T:="list") ⟨_,pB _ _ hx,rfl⟩ ?_);rw[if_pos (by decide)];refine zdb (Ge (n:=n) (sl:=sl) l (pB _ _ hx) hA fun h2 R9 pC=>?_);rw[if_pos (show (none:Option zc9).isNone=true from rfl)];refine zdb (wpAny_rule ?_);have G8:h2.IsList l items:=⟨_,pC _ _ (pB _ _ hx),rfl,n,rfl⟩
 have hd2:h2.DictOf knd s.heap.objs.size []:=by
  obtain⟨o,es,ep,ho,rest⟩:=Dh;exact⟨o,es,ep,pC _ _ ho,rest⟩
 refine zdb (wpAny_pyIter_list (s:={s with heap:=h2,toks:=R9}) G8 ?_);have EU:∀b o,h2.get? b=some o->(h2.push {cls:=.type "list_iterator",data:=.fields #[.ref l,.int 0 0]}).get? b=some o:=fun b o e=>Heap.get?_push_of_some _ e;have nd:h2.objs.size≠s.heap.objs.size:=by
  obtain⟨o,es,ep,ho,_⟩:=hd2;exact fun e=>absurd (Heap.lt_size ho) (by rw[e];exact zaP _)
 refine zdc ⟨plainId_quiet fj _,?_⟩;refine Bv (A:=A.in1) knd s.heap.objs.size h2.objs.size l items .none hA nd r 0 0 _ [] _ (by simpa using hi) (fun q hq=>?_) ⟨_,Heap.get?_push_size _ rfl,rfl,rfl⟩ ?_ ?_ (by simpa using hz) fun h4 V9 Wa Jc=>?_
 ·obtain⟨⟨o,ho,rest⟩,kq⟩:=hp q hq;exact⟨⟨o,EU _ _ (pC _ _ (pB _ _ ho)),rest⟩,kq⟩
 ·obtain⟨o,ho,rest⟩:=G8;exact⟨o,EU _ _ ho,rest⟩
 ·obtain⟨o,es,ep,ho,rest⟩:=hd2;exact⟨o,es,ep,EU _ _ ho,rest⟩
 ·refine⟨rfl,h h4 V9 Wa fun b o e=>Jc b o (fun z=>?_) (fun z=>?_) (EU _ _ (pC _ _ (pB _ _ e)))⟩
  ·rw[z] at e;exact absurd (Heap.lt_size e) (zaP _)
  ·have:=Heap.lt_size (pC _ _ (pB _ _ e));rw[z] at this;exact absurd this (zaP _)
end
end L3
namespace L2
open PySem PyProof.Rows
theorem qj{X:Cx}(hc:X.calm=true):qQ X (.type "dict") (fun xs H Q=>∃(a:zc8) (ps:List (zc8×Key×V)),xs=[.ref a]/\gM X.K H a (ps.map fun q=>V.ref q.1)/\(∀q∈ps,cu X.K H q.1 [kV q.2.1,q.2.2])/\ps.length<=zdg/\
 ∀p,H p=none->Q (.ref p) (upd H p (.dK (lC [] (ps.map fun q=>(q.2.1,q.2.2)))))):=by
 intro pins s σ H xs us Q I r h;obtain⟨a,ps,rfl,ha,hp,hz,q⟩:=h;obtain⟨u,rfl,ru⟩:=vals1 r;cases (show u=Value.ref a from ru);obtain⟨bj,v1,t1,_⟩:=I.list ha;obtain⟨⟨cls,dct,dat,sl⟩,n,e1,YE,Uj,Sa⟩:=t1;simp only at YE Uj Sa;subst YE Uj Sa;have mk:∀(l:List (zc8×Key×V)) (us:List zc9),Vals (l.map fun q=>V.ref q.1) us->(∀q∈l,cu X.K H q.1 [kV q.2.1,q.2.2])->∃r:List (zc8×Key×zc9×zc9),us=r.map (fun q=>Value.ref q.1)/\r.length=l.length/\
  (∀q∈r,s.heap.IsTuple q.1 #[q.2.2.1,q.2.2.2]/\(bO X.prog X.w).is q.2.1 q.2.2.1=true)/\KV (l.map fun q=>(q.2.1,q.2.2)) (r.map fun q=>(q.2.1,q.2.2.2)):=by
  intro l
  induction l with
  |nil=>intro us v _;cases v;exact⟨[],rfl,rfl,fun _ z=>(by cases z),.nil⟩
  |cons x l ih=>
   intro us v hp;rw[zaq] at v;cases v with
   |cons v1 v2=>
    obtain⟨r,e,lr,hr,kv⟩:=ih _ v2 (fun q hq=>hp q (zai _ hq));obtain⟨qV,w1,tu,_⟩:=I.tuple (hp x (zak ..));obtain⟨ku,vu,rfl,rk,rv⟩:=vals2 w1;cases v1;obtain⟨o,ho,hco,no,hdo⟩:=tu;refine⟨(x.1,x.2.1,ku,vu)::r,by rw[e];rfl,by simp[lr],fun q hq=>?_,.cons ⟨rfl,rv⟩ kv⟩;rcases zae.mp hq with rfl |hq
    ·exact⟨⟨o,ho,hco,no,hdo⟩,ye rk⟩
    ·exact hr q hq
 obtain⟨r',er,lr,hr,kv⟩:=mk ps bj v1 hp;refine L3.dict_list (bO X.prog X.w) a (I.ok.hd hc) r' e1 (by simpa using er) hr (by lia) fun h' tk dd keep=>?_;have hn:=I.cL.fresh (zah s.heap.objs.size);have hb:(s.heap.objs.size==sysModules)=false:=beq_eq_false_iff_ne.mpr (Ne.symm (zaD I.big));refine⟨.ref s.heap.objs.size,_,I.laid keep (zah _) (C1 ?_ hb (kv.merge .nil) dd),rfl,q _ hn⟩;have h1:=kn (ps.map fun q=>(q.2.1,q.2.2)) [];rw[za1,zad] at h1;lia
end L2
namespace L3
open PySem PyProof.Rows
section
variable{prog:zdk}{w:zda}{A:zdj}{E:zc9->zdi->Prop}{s:zdi}
theorem wm{j tp:zc8}{k:Nat}{bj:Array zc9}{v:zc9}{Q:zc9->zdi->Prop}(hj:s.heap.IsTupleIter j tp k)(ht:s.heap.IsTuple tp bj)(hv:bj[k]?=some v)
 (hQ:∀h',h'.IsTupleIter j tp (k+1)->Heap.SameBut j s.heap h'->Q v {s with heap:=h' }):wpAny (model prog w) A (Builtin.SmallTypes.nextOf (.ref j)) Q E s:=by
 obtain⟨oj,gj,cj,dj⟩:=id hj;obtain⟨ot,gt,_,nt,dt⟩:=ht;unfold Builtin.SmallTypes.nextOf;refine zdb (wpAny_callSpecial?_slot (name:=zab "__next__") hj.typeIs F.slot_tuple_iterator_next (wpAny_call_entry F.slot_tuple_iterator_next hj.typeIs F.entry_tuple_iterator_next ?_ (F.args_tuple_iterator_next_1 _)));show wpAny _ _ (field (.ref j) 0 >>= _) _ _ s;refine zdb (wpAny_field gj dj (x:=.ref tp) rfl ?_);show wpAny _ _ (if (Value.ref tp==Value.none)=true then _ else _) _ _ s;rw[if_neg (show ¬((Value.ref tp==Value.none)=true) from zaf)];show wpAny _ _ (field (.ref j) 1 >>= _) _ _ s;refine zdb (wpAny_field gj dj (x:=.int k 0) rfl ?_);show wpAny _ _ (seqItems? (.ref tp) >>= _) _ _ s;refine zdb (wpAny_seqItems gt dt ?_);simp only[zbh,hv];refine zdb (wpAny_setField gj dj (by simp) (zdc ⟨v,rfl,zdc (hQ _ ?_ (Heap.SameBut.update ..))⟩));exact⟨_,Heap.get?_update_self _ gj (Obj.isFreed_of_fields (Obj.data_mapFields dj _)),(Obj.cls_mapFields ..).trans cj,by rw[Obj.data_mapFields dj];simp[rawInt]⟩
noncomputable abbrev zu (h:Heap) (z ti to:zc8) (f g:zc9):Prop:=h.get? z=some {cls:=.type "zip",dict:=none,data:=.fields #[f,g,.bool false,.ref ti,.ref to],slots:=#[]}
theorem Bw{z ti to T:zc8}{u:Tok}{o:Obj}{g:Bool}{R:Bool->zdi->Prop}(hz:zu s.heap z ti to (.int T u) (.bool g))(hT:s.heap.get? T=some o)
 (h:∀h₀,zu h₀ z ti to (.int T u) (.bool true)->Heap.SameBut z s.heap h₀->R false {s with heap:=h₀}):wpAny (model prog w) A (Builtin.SmallTypes.ownedTupleIsFree (.ref z)) R E s:=by
 unfold Builtin.SmallTypes.ownedTupleIsFree;refine zdb (wpAny_field hz rfl (x:=.int T u) rfl ?_);show wpAny _ _ (loadIfAlive (T:Int).toNat >>= _) _ _ _;refine zdb ?_;have alive:∀ {R:Option Obj->zdi->Prop},R (some o) s->wpAny (model prog w) A (loadIfAlive (T:Int).toNat) R E s:=fun h=>by
  rw[zbh];intro Γ p hp;unfold loadIfAlive;rw[Sem.wp_loadIfAlive,hT];exact h
 refine alive ?_;rw[if_neg (by simp)];refine zdb (wpAny_field hz rfl (x:=.bool g) rfl ?_);cases g with
 |false=>
  rw[if_pos (by decide)];exact zdb (wpAny_setField_rec hz (by simp) fun h₀ EW sb=>zdc (h h₀ EW sb))
 |true=>
  rw[if_neg (by decide)];exact zdc (h s.heap hz (Heap.SameBut.refl _ _))
theorem Di{z ti to j1 j2 l tp T:zc8}{xs ys:Array zc9}{i:Nat}{u:Tok}{o:Obj}{g:Bool}{x y:zc9}{Q:zc9->zdi->Prop}(hz:zu s.heap z ti to (.int T u) (.bool g))(hT:s.heap.get? T=some o)(hI:IsPair s.heap ti (.ref j1) (.ref j2))
 (h1:s.heap.IsListIter j1 l i) (h2:s.heap.IsTupleIter j2 tp i) (hl:s.heap.IsList l xs) (ht:s.heap.IsTuple tp ys) (Ct:z≠j1) (LV:z≠j2) (Nu:j1≠j2) (hx:xs[i]?=some x) (hy:ys[i]?=some y)
 (hQ:∀h',zu h' z ti to (.int T u) (.bool true)->h'.IsListIter j1 l (i+1)->h'.IsTupleIter j2 tp (i+1)->IsPair h' s.heap.objs.size x y->h'.objs.size=s.heap.objs.size+1->
  (∀c o,c≠z->c≠j1->c≠j2->s.heap.get? c=some o->h'.get? c=some o)->Q (.ref s.heap.objs.size) {s with heap:=h' }) :
 wpAny (model prog w) A (Builtin.«zip.__next__» ⟨[.ref z],[]⟩) (fun fin s'=>∃v,fin=.done (.ret v)/\Q v s') E s:=by
 have lz:l≠z:=fun e=>by
  obtain⟨q,gq,cq,_⟩:=hl;rw[e,hz] at gq;cases gq;exact absurd (Value.type.inj cq) (by decide)
 have lj1:l≠j1:=fun e=>by
  obtain⟨q,gq,cq,_⟩:=hl;obtain⟨r,gr,cr,_⟩:=h1;rw[e,gr] at gq;cases gq;rw[cr] at cq;exact absurd (Value.type.inj cq) (by decide)
 have tz:tp≠z:=fun e=>by
  obtain⟨q,gq,cq,_⟩:=ht;rw[e,hz] at gq;cases gq;exact absurd (Value.type.inj cq) (by decide)
 have Wb:tp≠j1:=fun e=>by
  obtain⟨q,gq,cq,_⟩:=ht;obtain⟨r,gr,cr,_⟩:=h1;rw[e,gr] at gq;cases gq;rw[cr] at cq;exact absurd (Value.type.inj cq) (by decide)
 show wpAny _ _ (field (.ref z) 2 >>= _) _ _ _;refine zdb (wpAny_field hz rfl (x:=.bool false) rfl ?_);show wpAny _ _ (field (.ref z) 3 >>= _) _ _ _;refine zdb (wpAny_field hz rfl (x:=.ref ti) rfl ?_);refine zdb (wpAny_seqItems hI rfl ?_);show wpAny _ _ (Builtin.SmallTypes.ownedTupleIsFree (.ref z) >>= _) _ _ _;refine zdb (Bw hz hT fun h₀ EW pE=>?_);dsimp only;rw[if_neg zaf];refine zdb ?_;simp only[List.forIn_toArray,za2,zbC];refine zdb (zdb (zdd ?_));show wpAny _ _ (Builtin.SmallTypes.nextOf (.ref j1) >>= _) _ _ _;refine zdb (wpAny_nextOf_list_item (s:={s with heap:=h₀}) (h1.extBut pE.extBut Ct.symm) (hl.extBut pE.extBut lz) hx fun h₂ Sb iW=>zdc ?_);refine zdc ?_;refine zdb (zdb (zdd ?_));show wpAny _ _ (Builtin.SmallTypes.nextOf (.ref j2) >>= _) _ _ _;have Wc:h₂.IsTupleIter j2 tp i:=by
  obtain⟨q,gq,rest⟩:=h2;exact⟨q,iW.extBut _ _ Nu.symm (pE.extBut _ _ LV.symm gq),rest⟩
 have We:h₂.IsTuple tp ys:=(ht.extBut pE.extBut tz).extBut iW.extBut Wb;refine zdb (wm (s:={s with heap:=h₂}) Wc We hy fun h₃ Sd j4=>zdc ?_);refine zdc (zdc ?_);show wpAny _ _ (newTuple [x,y] >>= _) _ _ _;have hsz:h₃.objs.size=s.heap.objs.size:=by rw[j4.1,iW.1,pE.1]
 refine zdb (wpAny_newTuple (s:={s with heap:=h₃}) ?_);refine zdc ⟨_,rfl,?_⟩;show Q (.ref h₃.objs.size) _;have hp:IsPair (h₃.push {cls:=.type "tuple",data:=.seq #[x,y]}) h₃.objs.size x y:=Heap.get?_push_size _ rfl;have Sa:(h₃.push {cls:=.type "tuple",data:=.seq #[x,y]}).objs.size=h₃.objs.size+1:=Heap.size_push ..;rw[hsz] at hp Sa ⊢;have up:∀c o,h₃.get? c=some o->(h₃.push {cls:=.type "tuple",data:=.seq #[x,y]}).get? c=some o:=fun c o e=>Heap.get?_push_of_some _ e;refine hQ _ (up _ _ (j4.extBut _ _ LV (iW.extBut _ _ Ct EW))) ?_ ?_ hp Sa fun c o c1 c2 c3 e=>up _ _ (j4.extBut _ _ c3 (iW.extBut _ _ c2 (pE.extBut _ _ c1 e)))
 ·obtain⟨q,gq,rest⟩:=Sb;exact⟨q,up _ _ (j4.extBut _ _ Nu gq),rest⟩
 ·obtain⟨q,gq,rest⟩:=Sd;exact⟨q,up _ _ gq,rest⟩
theorem Gf{z ti to j1 j2 l T:zc8}{xs:Array zc9}{i:Nat}{u:Tok}{o:Obj}{g:Bool}{Q:Fin->zdi->Prop}(hA:A.handled=none)(hz:zu s.heap z ti to (.int T u) (.bool g))(hT:s.heap.get? T=some o)(hI:IsPair s.heap ti (.ref j1) (.ref j2))
 (h1:s.heap.IsListIter j1 l i) (hl:s.heap.IsList l xs) (Ct:z≠j1) (hx:xs[i]?=none)
 (hE:∀h' e,(∀c o,c≠z->c≠j1->s.heap.get? c=some o->h'.get? c=some o)->(∃o,h'.get? e=some o/\o.cls=.type "StopIteration")->E (.ref e) {s with heap:=h' }) :
 wpAny (model prog w) A (Builtin.«zip.__next__» ⟨[.ref z],[]⟩) Q E s:=by
 have lz:l≠z:=fun e=>by
  obtain⟨q,gq,cq,_⟩:=hl;rw[e,hz] at gq;cases gq;exact absurd (Value.type.inj cq) (by decide)
 show wpAny _ _ (field (.ref z) 2 >>= _) _ _ _;refine zdb (wpAny_field hz rfl (x:=.bool false) rfl ?_);show wpAny _ _ (field (.ref z) 3 >>= _) _ _ _;refine zdb (wpAny_field hz rfl (x:=.ref ti) rfl ?_);refine zdb (wpAny_seqItems hI rfl ?_);show wpAny _ _ (Builtin.SmallTypes.ownedTupleIsFree (.ref z) >>= _) _ _ _;refine zdb (Bw hz hT fun h₀ EW pE=>?_);dsimp only;rw[if_neg zaf];refine zdb ?_;simp only[List.forIn_toArray,za2,zbC];refine zdb (zdb (zdd ?_));show wpAny _ _ (Builtin.SmallTypes.nextOf (.ref j1) >>= _) _ _ _;exact zdb (wpAny_nextOf_list_end (s:={s with heap:=h₀}) hA (h1.extBut pE.extBut Ct.symm) (hl.extBut pE.extBut lz) hx fun h₂ e iW he=>hE h₂ e (fun c o c1 c2 q=>iW _ _ c2 (pE.extBut _ _ c1 q)) he)
theorem Dj{z ti to j1 j2 l tp:zc8}{xs ys:Array zc9}{i:Nat}{a b x y:zc9}{Q:zc9->zdi->Prop}(hz:zu s.heap z ti to .none (.bool false))(hO:IsPair s.heap to a b)(hI:IsPair s.heap ti (.ref j1) (.ref j2))
 (h1:s.heap.IsListIter j1 l i) (h2:s.heap.IsTupleIter j2 tp i) (hl:s.heap.IsList l xs) (ht:s.heap.IsTuple tp ys) (Ct:z≠j1) (LV:z≠j2) (Se:z≠to) (Jd:to≠j1) (Je:to≠j2) (Nu:j1≠j2) (LW:tp≠to) (hx:xs[i]?=some x) (hy:ys[i]?=some y)
 (hQ:∀h',zu h' z ti to (rawInt s.heap.objs.size) (.bool false)->h'.IsListIter j1 l (i+1)->h'.IsTupleIter j2 tp (i+1)->IsPair h' s.heap.objs.size x y->h'.objs.size=s.heap.objs.size+1->
  (∀c o,c≠z->c≠to->c≠j1->c≠j2->s.heap.get? c=some o->h'.get? c=some o)->Q (.ref s.heap.objs.size) {s with heap:=h' }) :
 wpAny (model prog w) A (Builtin.«zip.__next__» ⟨[.ref z],[]⟩) (fun fin s'=>∃v,fin=.done (.ret v)/\Q v s') E s:=by
 have lz:l≠z:=fun e=>by
  obtain⟨q,gq,cq,_⟩:=hl;rw[e,hz] at gq;cases gq;exact absurd (Value.type.inj cq) (by decide)
 have tz:tp≠z:=fun e=>by
  obtain⟨q,gq,cq,_⟩:=ht;rw[e,hz] at gq;cases gq;exact absurd (Value.type.inj cq) (by decide)
 have Wb:tp≠j1:=fun e=>by
  obtain⟨q,gq,cq,_⟩:=ht;obtain⟨r,gr,cr,_⟩:=h1;rw[e,gr] at gq;cases gq;rw[cr] at cq;exact absurd (Value.type.inj cq) (by decide)
 show wpAny _ _ (field (.ref z) 2 >>= _) _ _ _;refine zdb (wpAny_field hz rfl (x:=.bool false) rfl ?_);show wpAny _ _ (field (.ref z) 3 >>= _) _ _ _;refine zdb (wpAny_field hz rfl (x:=.ref ti) rfl ?_);refine zdb (wpAny_seqItems hI rfl ?_);show wpAny _ _ (Builtin.SmallTypes.ownedTupleIsFree (.ref z) >>= _) _ _ _;refine zdb ?_;unfold Builtin.SmallTypes.ownedTupleIsFree;refine zdb (wpAny_field hz rfl (x:=.none) rfl (zdc ?_));simp only[if_true];refine zdb (wpAny_rule ?_);refine zdb (wpAny_field hz rfl (x:=.ref to) rfl ?_);refine zdb (wpAny_setField_rec hz (by simp) fun h₁ z₁ nE=>?_);replace z₁:zu h₁ z ti to .ellipsis (.bool false):=z₁;refine zdb ?_;simp only[List.zipIdx_cons,List.zipIdx_nil,za2,zbC];refine zdb (zdb (wpAny_onRaise ?_));show wpAny _ _ (Builtin.SmallTypes.nextOf (.ref j1) >>= _) _ _ _;refine zdb (wpAny_nextOf_list_item (h1.extBut nE.extBut Ct.symm) (hl.extBut nE.extBut lz) hx fun h₂ k₂ iW=>zdc ?_);have o₂:IsPair h₂ to a b:=iW.extBut _ _ Jd (nE.extBut _ _ Se.symm hO);refine zdb (wpAny_seqItems o₂ rfl ?_);refine zdb (wpAny_updateSeq_pair o₂ fun h₃ o₃ j4=>?_);replace o₃:IsPair h₃ to x b:=o₃;refine zdb (wpAny_letGo (zdc ?_));refine zdb (zdb (wpAny_onRaise ?_));show wpAny _ _ (Builtin.SmallTypes.nextOf (.ref j2) >>= _) _ _ _;have Wc:h₃.IsTupleIter j2 tp i:=by
  obtain⟨q,gq,rest⟩:=h2;exact⟨q,j4.extBut _ _ Je.symm (iW.extBut _ _ Nu.symm (nE.extBut _ _ LV.symm gq)),rest⟩
 have We:h₃.IsTuple tp ys:=((ht.extBut nE.extBut tz).extBut iW.extBut Wb).extBut j4.extBut LW;refine zdb (wm Wc We hy fun h₄ k₄ Bx=>zdc ?_);have o₄:IsPair h₄ to x b:=Bx.extBut _ _ Je o₃;refine zdb (wpAny_seqItems o₄ rfl ?_);refine zdb (wpAny_updateSeq_pair o₄ fun h₅ o₅ By=>?_);replace o₅:IsPair h₅ to x y:=o₅;refine zdb (wpAny_letGo (zdc (zdc ?_)));refine zdb (wpAny_seqItems o₅ rfl ?_);refine zdb (wpAny_newTuple ?_);have hsz:h₅.objs.size=s.heap.objs.size:=by rw[By.1,Bx.1,j4.1,iW.1,nE.1]
 have z₅:zu h₅ z ti to .ellipsis (.bool false):=By.extBut _ _ Se (Bx.extBut _ _ LV (j4.extBut _ _ Se (iW.extBut _ _ Ct z₁)));have kp:∀c o,c≠z->c≠to->c≠j1->c≠j2->s.heap.get? c=some o->h₅.get? c=some o:=fun c o c1 c2 c3 c4 e=>By.extBut _ _ c2 (Bx.extBut _ _ c4 (j4.extBut _ _ c2 (iW.extBut _ _ c3 (nE.extBut _ _ c1 e))));have YF:z<h₅.objs.size:=Heap.lt_size z₅;show wpAny _ _ (Builtin.SmallTypes.ownedTupleHandOut (.ref z) (.ref h₅.objs.size) >>= _) _ _ _;refine zdb ?_;unfold Builtin.SmallTypes.ownedTupleHandOut;have z₆:zu (h₅.push {cls:=.type "tuple",data:=.seq #[x,y]}) z ti to .ellipsis (.bool false):=Heap.get?_push_of_some _ z₅;refine zdb (wpAny_setField_rec z₆ (by simp) fun h₇ z₇ Jf=>?_);replace z₇:zu h₇ z ti to (rawInt h₅.objs.size) (.bool false):=z₇;refine wpAny_setField_rec z₇ (by simp) fun h₈ z₈ Jg=>?_;replace z₈:zu h₈ z ti to (rawInt h₅.objs.size) (.bool false):=z₈;have up:∀c o,c≠z->h₅.get? c=some o->h₈.get? c=some o:=fun c o c1 e=>Jg.extBut _ _ c1 (Jf.extBut _ _ c1 (Heap.get?_push_of_some _ e));have t₈:IsPair h₈ h₅.objs.size x y:=Jg.extBut _ _ (zbD YF) (Jf.extBut _ _ (zbD YF) (Heap.get?_push_size _ rfl));have n₈:h₈.objs.size=h₅.objs.size+1:=by rw[Jg.1,Jf.1,Heap.size_push]
 rw[hsz] at z₈ t₈ n₈;refine zdc ⟨_,rfl,?_⟩;show Q (.ref h₅.objs.size) _;rw[hsz];refine hQ h₈ z₈ ?_ ?_ t₈ n₈ fun c o c1 c2 c3 c4 e=>up c o c1 (kp c o c1 c2 c3 c4 e)
 ·obtain⟨q,gq,rest⟩:=k₂;exact⟨q,up _ _ Ct.symm (By.extBut _ _ Jd.symm (Bx.extBut _ _ Nu (j4.extBut _ _ Jd.symm gq))),rest⟩
 ·obtain⟨q,gq,rest⟩:=k₄;exact⟨q,up _ _ LV.symm (By.extBut _ _ Je.symm gq),rest⟩
theorem Gg{z ti to j1 j2 l:zc8}{xs:Array zc9}{i:Nat}{Q:Fin->zdi->Prop}(hA:A.handled=none)(hz:zu s.heap z ti to .none (.bool false))(hI:IsPair s.heap ti (.ref j1) (.ref j2))
 (h1:s.heap.IsListIter j1 l i) (hl:s.heap.IsList l xs) (Ct:z≠j1) (hx:xs[i]?=none)
 (hE:∀h' e,(∀c o,c≠z->c≠j1->s.heap.get? c=some o->h'.get? c=some o)->(∃o,h'.get? e=some o/\o.cls=.type "StopIteration")->E (.ref e) {s with heap:=h' }) :
 wpAny (model prog w) A (Builtin.«zip.__next__» ⟨[.ref z],[]⟩) Q E s:=by
 have lz:l≠z:=fun e=>by
  obtain⟨q,gq,cq,_⟩:=hl;rw[e,hz] at gq;cases gq;exact absurd (Value.type.inj cq) (by decide)
 show wpAny _ _ (field (.ref z) 2 >>= _) _ _ _;refine zdb (wpAny_field hz rfl (x:=.bool false) rfl ?_);show wpAny _ _ (field (.ref z) 3 >>= _) _ _ _;refine zdb (wpAny_field hz rfl (x:=.ref ti) rfl ?_);refine zdb (wpAny_seqItems hI rfl ?_);show wpAny _ _ (Builtin.SmallTypes.ownedTupleIsFree (.ref z) >>= _) _ _ _;refine zdb ?_;unfold Builtin.SmallTypes.ownedTupleIsFree;refine zdb (wpAny_field hz rfl (x:=.none) rfl (zdc ?_));simp only[if_true];refine zdb (wpAny_rule ?_);refine zdb (wpAny_field hz rfl (x:=.ref to) rfl ?_);refine zdb (wpAny_setField_rec hz (by simp) fun h₁ z₁ nE=>?_);replace z₁:zu h₁ z ti to .ellipsis (.bool false):=z₁;refine zdb ?_;simp only[List.zipIdx_cons,List.zipIdx_nil,za2,zbC];refine zdb (zdb (wpAny_onRaise ?_));show wpAny _ _ (Builtin.SmallTypes.nextOf (.ref j1) >>= _) _ _ _;refine zdb (wpAny_nextOf_list_end hA (h1.extBut nE.extBut Ct.symm) (hl.extBut nE.extBut lz) hx fun h₂ e iW he=>?_);obtain⟨oe,ge,ce⟩:=he;have z₂:zu h₂ z ti to .ellipsis (.bool false):=iW _ _ Ct z₁;have ez:e≠z:=fun q=>by subst q;rw[z₂] at ge;cases ge;simp at ce
 exact wpAny_setField_rec z₂ (by simp) fun h₃ _ j4=>hE h₃ e (fun c o c1 c3 q=>j4.extBut _ _ c1 (iW _ _ c3 (nE.extBut _ _ c1 q))) ⟨oe,j4.extBut _ _ ez ge,ce⟩
structure QI(z ti to j1 j2 l tp:zc8):Prop where
 zti:z≠ti
 Se:z≠to
 Ct:z≠j1
 LV:z≠j2
 Wf:ti≠to
 Wg:ti≠j1
 Wh:ti≠j2
 Jd:to≠j1
 Je:to≠j2
 Nu:j1≠j2
 Wi:l≠to
 LW:tp≠to
structure K6(h:Heap)(z ti to j1 j2 l tp:zc8)(xs ys:Array zc9)(i:Nat):Prop where
 zip:(∃a b,zu h z ti to .none (.bool false)/\IsPair h to a b)\/∃(T:zc8) (u:Tok) (a b:zc9) (g:Bool),zu h z ti to (.int T u) (.bool g)/\IsPair h T a b
 ins:IsPair h ti (.ref j1) (.ref j2)
 LX:h.IsListIter j1 l i
 QJ:h.IsTupleIter j2 tp i
 ls:h.IsList l xs
 tu:h.IsTuple tp ys
theorem lN{h:Heap}{a b:zc8}{o o':Obj}{c c':String}(e:h.get? a=some o)(e':h.get? b=some o')(hc:o.cls=.type c)(Ri:o'.cls=.type c')(n:c≠c'):a≠b:=fun q=>by
 rw[q,e'] at e;cases e;rw[hc] at Ri;exact n (Value.type.inj Ri)
theorem Jh{z ti to j1 j2 l tp:zc8}{xs ys:Array zc9}{i:Nat}{x y:zc9}{Q:Option zc9->zdi->Prop}(ap:QI z ti to j1 j2 l tp)(st:K6 s.heap z ti to j1 j2 l tp xs ys i)(hx:xs[i]?=some x)(hy:ys[i]?=some y)
 (hQ:∀h',K6 h' z ti to j1 j2 l tp xs ys (i+1)->IsPair h' s.heap.objs.size x y->(∀c o,c≠z->c≠to->c≠j1->c≠j2->s.heap.get? c=some o->h'.get? c=some o)->Q (some (.ref s.heap.objs.size)) {s with heap:=h' }) :
 wpAny (model prog w) A (pyNext (.ref z)) Q E s:=by
 have zT:s.TypeIs (.ref z) "zip":=by
  rcases st.zip with ⟨a,b,hz,_⟩ |⟨T,u,a,b,g,hz,_⟩
  ·exact⟨_,hz,rfl⟩
  ·exact⟨_,hz,rfl⟩
 obtain⟨o1,g1,c1,_⟩:=st.LX;obtain⟨o2,g2,c2,_⟩:=st.QJ;obtain⟨ol,gl,cl,_⟩:=st.ls;obtain⟨ot,gt,ct,_⟩:=st.tu;obtain⟨oz,gz,cz⟩:=zT;have lk:∀h',(∀c o,c≠z->c≠to->c≠j1->c≠j2->s.heap.get? c=some o->h'.get? c=some o)->IsPair h' ti (.ref j1) (.ref j2)/\h'.IsList l xs/\h'.IsTuple tp ys:=fun h' k=>by
  refine⟨k _ _ ap.zti.symm ap.Wf ap.Wg ap.Wh st.ins,?_,?_⟩
  ·obtain⟨q,gq,rest⟩:=st.ls;exact⟨q,k _ _ (lN gl gz cl cz (by decide)) ap.Wi (lN gl g1 cl c1 (by decide)) (lN gl g2 cl c2 (by decide)) gq,rest⟩
  ·obtain⟨q,gq,rest⟩:=st.tu;exact⟨q,k _ _ (lN gt gz ct cz (by decide)) ap.LW (lN gt g1 ct c1 (by decide)) (lN gt g2 ct c2 (by decide)) gq,rest⟩
 unfold pyNext;refine zdb (wpAny_attempt (wpAny_callSpecial?_slot (name:=zab "__next__") ⟨oz,gz,cz⟩ F.slot_zip_next (wpAny_call_entry F.slot_zip_next ⟨oz,gz,cz⟩ F.entry_zip_next ?_ (F.args_zip_next_1 _))));rcases st.zip with ⟨a,b,hz,hO⟩ |⟨T,u,a,b,g,hz,hT⟩
 ·refine Dj hz hO st.ins st.LX st.QJ st.ls st.tu ap.Ct ap.LV ap.Se ap.Jd ap.Je ap.Nu ap.LW hx hy fun h' q1 q2 q3 q4 q5 q6=>zdc ?_;obtain⟨k1,k2,k3⟩:=lk h' q6;exact hQ h' ⟨.inr ⟨_,_,x,y,false,q1,q4⟩,k1,q2,q3,k2,k3⟩ q4 q6
 ·refine Di hz hT st.ins st.LX st.QJ st.ls st.tu ap.Ct ap.LV ap.Nu hx hy fun h' q1 q2 q3 q4 q5 q6=>zdc ?_;have YG:∀c o,c≠z->c≠to->c≠j1->c≠j2->s.heap.get? c=some o->h'.get? c=some o:=fun c o a1 _ a3 a4 e=>q6 c o a1 a3 a4 e;obtain⟨k1,k2,k3⟩:=lk h' YG;exact hQ h' ⟨.inr ⟨T,u,a,b,true,q1,q6 _ _ (lN hT gz rfl cz (by decide)) (lN hT g1 rfl c1 (by decide)) (lN hT g2 rfl c2 (by decide)) hT⟩,k1,q2,q3,k2,k3⟩ q4 YG
theorem LY{z ti to j1 j2 l tp:zc8}{xs ys:Array zc9}{i:Nat}{Q:Option zc9->zdi->Prop}(hA:A.handled=none)(ap:QI z ti to j1 j2 l tp)(st:K6 s.heap z ti to j1 j2 l tp xs ys i)(hx:xs[i]?=none)
 (hQ:∀h',(∀c o,c≠z->c≠j1->s.heap.get? c=some o->h'.get? c=some o)->Q none {s with heap:=h' }):wpAny (model prog w) A (pyNext (.ref z)) Q E s:=by
 have zT:s.TypeIs (.ref z) "zip":=by
  rcases st.zip with ⟨a,b,hz,_⟩ |⟨T,u,a,b,g,hz,_⟩
  ·exact⟨_,hz,rfl⟩
  ·exact⟨_,hz,rfl⟩
 unfold pyNext;refine zdb (wpAny_attempt (wpAny_callSpecial?_slot (name:=zab "__next__") zT F.slot_zip_next (wpAny_call_entry F.slot_zip_next zT F.entry_zip_next ?_ (F.args_zip_next_1 _))));rcases st.zip with ⟨a,b,hz,hO⟩ |⟨T,u,a,b,g,hz,hT⟩
 ·refine Gg hA hz st.ins st.LX st.ls ap.Ct hx fun h' e k he=>?_;obtain⟨oe,ge,ce⟩:=he;refine zdb (wpAny_isInstance (T:="StopIteration") (b:=true) ⟨oe,ge,ce⟩ isSubtype_stop ?_);exact zdc (hQ _ k)
 ·refine Gf hA hz hT st.ins st.LX st.ls ap.Ct hx fun h' e k he=>?_;obtain⟨oe,ge,ce⟩:=he;refine zdb (wpAny_isInstance (T:="StopIteration") (b:=true) ⟨oe,ge,ce⟩ isSubtype_stop ?_);exact zdc (hQ _ k)
theorem K6.but{h h':Heap}{z ti to j1 j2 l tp d:zc8}{xs ys:Array zc9}{i:Nat}(st:K6 h z ti to j1 j2 l tp xs ys i)(sb:Heap.SameBut d h h')(dn:∀a o,h.get? a=some o->(∀es n,o.data≠.dict es n)->a≠d):K6 h' z ti to j1 j2 l tp xs ys i:=by
 have k:∀a o,h.get? a=some o->(∀es n,o.data≠.dict es n)->h'.get? a=some o:=fun a o e n=>sb.extBut _ _ (dn a o e n) e;refine⟨?_,k _ _ st.ins (by intro es n q;cases q),?_,?_,?_,?_⟩
 ·rcases st.zip with ⟨a,b,hz,hO⟩ |⟨T,u,a,b,g,hz,hT⟩
  ·exact .inl ⟨a,b,k _ _ hz (by intro es n q;cases q),k _ _ hO (by intro es n q;cases q)⟩
  ·exact .inr ⟨T,u,a,b,g,k _ _ hz (by intro es n q;cases q),k _ _ hT (by intro es n q;cases q)⟩
 ·obtain⟨o,go,hc,hd⟩:=st.LX;exact⟨o,k _ _ go (by intro es n q;rw[hd] at q;cases q),hc,hd⟩
 ·obtain⟨o,go,hc,hd⟩:=st.QJ;exact⟨o,k _ _ go (by intro es n q;rw[hd] at q;cases q),hc,hd⟩
 ·obtain⟨o,go,hc,n',hd⟩:=st.ls;exact⟨o,k _ _ go (by intro es n q;rw[hd] at q;cases q),hc,n',hd⟩
 ·obtain⟨o,go,hc,n',hd⟩:=st.tu;exact⟨o,k _ _ go (by intro es n q;rw[hd] at q;cases q),hc,n',hd⟩
theorem EX{κ:Type}[DecidableEq κ](knd:KeyKind prog w κ)(d z ti to j1 j2 l tp:zc8)(xs ys:Array zc9)(res:zc9)(hA:A.handled=none)(ap:QI z ti to j1 j2 l tp)(YH:d≠to){R:Result->zdi->Prop}:∀(r:List (κ×zc9×zc9)) (i:Nat) (j:Int) (u:Tok) (aC:List (κ×zc9)) (s:zdi),
 xs.toList.drop i=r.map (·.2.1)->ys.toList.drop i=r.map (·.2.2)->(∀q∈r,knd.is q.1 q.2.1=true)->K6 s.heap z ti to j1 j2 l tp xs ys i->s.heap.DictOf knd d aC->aC.length+r.length<=zdg->
 (∀h' tk,h'.DictOf knd d (merged aC (r.map fun q=>(q.1,q.2.2)))->(∀b o,b≠d->b≠z->b≠to->b≠j1->b≠j2->s.heap.get? b=some o->h'.get? b=some o)->R (.ok (.ret res)) {s with heap:=h',toks:=tk})->
 codeAny (model prog w) A (.builtin "dict.update.loop" ⟨[.ref d,.ref z,.int j u,res],[]⟩) R s
 |[],i,j,u,aC,s,hi,hk,hp,st,hd,hz,hR=>by
  refine codeAny_builtin lM ?_;rw[Around.under_plainId fj _];show wpAny _ A.in1 (pyNext (.ref z) >>= _) _ _ s;have dn:∀a o,s.heap.get? a=some o->(∀es n,o.data≠.dict es n)->a≠d:=fun a o e n q=>by
   obtain⟨od,_,_,Ji,_,LU,_⟩:=hd;rw[q,Ji] at e;cases e;exact n _ _ LU
  refine zdb (LY hA ap st (by rw[<- zbe];rw[zbl] at hi;exact zcR (zcX.mp hi)) fun h' kp=>?_);show wpAny _ _ (Builtin.Dict.addKeywords d [] >>= _) _ _ _;refine zdb (zdc (zdc (hR h' s.toks ?_ fun b o _ c1 _ c3 _ e=>kp b o c1 c3 e)));have dz:d≠z:=by
   rcases st.zip with ⟨a,b,gz,_⟩ |⟨T,u,a,b,g,gz,_⟩
   ·exact(dn _ _ gz (by intro es n q;cases q)).symm
   ·exact(dn _ _ gz (by intro es n q;cases q)).symm
  have dj:d≠j1:=by
   obtain⟨o,go,hc,CF⟩:=st.LX;exact(dn _ _ go (by intro es n q;rw[CF] at q;cases q)).symm
  obtain⟨o,es,ep,ho,rest⟩:=hd;exact⟨o,es,ep,kp d o dz dj ho,rest⟩
 |q::r,i,j,u,aC,s,hi,hk,hp,st,hd,hz,hR=>by
  have hx:xs[i]?=some q.2.1:=by
   rw[<- zbe,<- zcI,hi];rfl
  have hy:ys[i]?=some q.2.2:=by
   rw[<- zbe,<- zcI,hk];rfl
  have dn:∀a o,s.heap.get? a=some o->(∀es n,o.data≠.dict es n)->a≠d:=fun a o e n q=>by
   obtain⟨od,_,_,Ji,_,LU,_⟩:=hd;rw[q,Ji] at e;cases e;exact n _ _ LU
  have dz:d≠z:=by
   rcases st.zip with ⟨a,b,gz,_⟩ |⟨T,u,a,b,g,gz,_⟩
   ·exact(dn _ _ gz (by intro es n q;cases q)).symm
   ·exact(dn _ _ gz (by intro es n q;cases q)).symm
  have dj1:d≠j1:=by
   obtain⟨o,go,hc,CF⟩:=st.LX;exact(dn _ _ go (by intro es n q;rw[CF] at q;cases q)).symm
  have dj2:d≠j2:=by
   obtain⟨o,go,hc,CF⟩:=st.QJ;exact(dn _ _ go (by intro es n q;rw[CF] at q;cases q)).symm
  refine codeAny_builtin lM ?_;rw[Around.under_plainId fj _];show wpAny _ A.in1 (pyNext (.ref z) >>= _) _ _ s;refine zdb (Jh ap st hx hy fun h' Oj pr kp=>?_);have CF:h'.DictOf knd d aC:=by
   obtain⟨o,es,ep,ho,rest⟩:=hd;exact⟨o,es,ep,kp d o dz YH dj1 dj2 ho,rest⟩
  show wpAny _ A.in1 (holding [Value.ref s.heap.objs.size] _ >>= _) _ _ _;refine zdb (zdd (zdb (wpAny_tryCatch ?_)));unfold Builtin.Dict.pairItems;refine zdb (wpAny_typeOf (T:="tuple") ⟨_,pr,rfl⟩ ?_);rw[if_pos (by decide)];refine zdb (wpAny_seqItems (s:={s with heap:=h' }) pr rfl (zdc ?_));show wpAny _ A.in1 (holding [q.2.1,q.2.2] (dictSet d q.2.1 q.2.2)) _ _ _;refine zdd (wpAny_dictSet_pairs (s:={s with heap:=h' }) (hp q (zak ..)) CF (fun h2 hd2 OX=>?_) (by simp only[zaj] at hz;lia));refine zdc ⟨plainId_quiet fj _,?_⟩;refine EX knd d z ti to j1 j2 l tp xs ys res hA ap YH r (i+1) (j+1) _ _ _ ?_ ?_ (fun p Uh=>hp p (zai _ Uh)) (Oj.but OX fun a o e n w=>?_) hd2 ?_ fun h3 tk Ui keep=>hR h3 tk Ui fun b o n1 n2 n3 n4 n5 e=>keep b o n1 n2 n3 n4 n5 ?_
  ·rw[<- zcS,hi];rfl
  ·rw[<- zcS,hk];rfl
  ·obtain⟨od,_,_,Ji,_,LU,_⟩:=CF;rw[w,Ji] at e;cases e;exact n _ _ LU
  ·have:=stored_length_le aC q.1 q.2.2;simp only[zaj] at hz;lia
  ·exact(OX.2 _ n1).trans (kp b o n2 n3 n4 n5 e)
theorem Jj:typeLookup (.type "zip") "keys"=pure none:=by rw[typeLookup_type,builtinLookup_eq_fast];kernel_rfl
theorem Jk:typeLookup (.type "zip") "__getattr__"=pure none:=by rw[typeLookup_type,builtinLookup_eq_fast];kernel_rfl
theorem zv:entryFor table "zip.__getattribute__"=some Builtin.«object.__getattribute__»:=entryFor_alias (id':="object.__getattribute__") (by kernel_rfl) (by first |rfl |decide +kernel) (by decide +kernel) (by kernel_rfl)
theorem Gh(a:zc8)(u:Tok){hp:Heap}{g:Array GenState}{d:Drawn}{tk:Nat}{os:OsState}{vs:Array zc9}{Q:Fin->zdi->Prop}(hx:hp.get? a=some ⟨.type "zip",none,.fields vs, #[]⟩)(hA:A.handled=none)
 (h:∀h' LS e,Heap.NewAttrErr hp h' e (.ref a) "keys"->E (.ref e) ⟨h',g,d,LS,os⟩) :
 wpAny (model prog w) A (Builtin.«object.__getattribute__» ⟨[.ref a,.str "keys" u],[]⟩) Q E ⟨hp,g,d,tk,os⟩:=by
 have hT:(⟨hp,g,d,tk,os⟩:zdi).TypeIs (.ref a) "zip":=⟨_,hx,rfl⟩
 have f4:=Jj;unfold Builtin.«object.__getattribute__»
 repeat (any_goals (first |assumption |wp_step))
 exact wpAny_raiseAttrError hA h (attrMsg_fits (by decide +kernel) (by size_fits))
theorem Dl(a:zc8){s:zdi}{vs:Array zc9}{Q:Option zc9->zdi->Prop}(hx:s.heap.get? a=some ⟨.type "zip",none,.fields vs, #[]⟩)(hA:A.handled=none)
 (h:∀h' tk,(∀b ob,s.heap.get? b=some ob->h'.get? b=some ob)->Q none {s with heap:=h',toks:=tk}):wpAny (model prog w) A (getAttr? (.ref a) "keys") Q E s:=by
 obtain⟨hp,g,d,tk,os⟩:=s;have hT:∀LS,(⟨hp,g,d,LS,os⟩:zdi).TypeIs (.ref a) "zip":=fun _=>⟨_,hx,rfl⟩
 have f1:=sub_AttributeError;have f2:=F.slot_zip_getattribute.lookup;have f3:=F.slot_zip_getattribute.bind (.ref a);have f5:=Jk;unfold getAttr? getAttrBy? getAttrBy
 repeat (any_goals (first |assumption |exact hT _ |wp_step))
 all_goals
  refine codeAny_call_builtin F.slot_zip_getattribute.plain zv (F.slot_zip_getattribute.check _ _ _ _ _ _ _ _ (show (⟨hp,g,d,tk+1,os⟩:zdi).TypeIs (.ref a) "zip" from ⟨_,hx,rfl⟩) (F.args_zip_getattribute_2 _ _) ?_)
 all_goals
  refine Gh a tk hx hA fun h' LS e ne=>?_
 all_goals
  obtain⟨t',u',he⟩:=ne.there;show wpAny _ _ (getattributeRaised _ _ _ _ _ _ _) _ _ _;unfold getattributeRaised
  repeat (any_goals (first |assumption |wp_step))
 all_goals exact h _ _ ne.keeps
end
noncomputable abbrev zA (h:Heap) (l:zc8):Heap:=h.push {cls:=.type "list_iterator",data:=.fields #[.ref l,.int 0 0]}
noncomputable abbrev zB (h:Heap) (l tp:zc8):Heap:=(zA h l).push {cls:=.type "tuple_iterator",data:=.fields #[.ref tp,.int 0 0]}
noncomputable abbrev zC (h:Heap) (l tp:zc8):Heap:=(zB h l tp).push {cls:=.type "tuple",data:=.seq #[.ref h.objs.size,.ref (zA h l).objs.size]}
noncomputable abbrev zD (h:Heap) (l tp:zc8):Heap:=(zC h l tp).push {cls:=.type "tuple",data:=.seq #[.none,.none]}
noncomputable abbrev zE (h:Heap) (l tp:zc8):Heap:=(zD h l tp).push {cls:=.type "zip",data:=.fields #[.none,.bool false,.bool false,.ref (zB h l tp).objs.size,.ref (zC h l tp).objs.size]}
theorem Jl(l tp:zc8)(xs ys:Array zc9):Meets (Builtin.«zip.__new__» ⟨[.type "zip",.ref l,.ref tp],[]⟩) (fun _ R s=>s.heap.IsList l xs/\s.heap.IsTuple tp ys/\R (.ok (.ret (.ref (zD s.heap l tp).objs.size))) {s with heap:=zE s.heap l tp}):=
 .of_wp fun prog w A R s h=>by
  obtain⟨hp,g,d,tk,os⟩:=s;obtain⟨g1,g2,h⟩:=h;have aaI:=sub_zip;have k1:Heap.IsList (Shared.heap ⟨hp,g,d,tk,os⟩) l xs:=g1;have k2:Heap.IsTuple (Shared.heap ⟨hp.push {cls:=.type "list_iterator",data:=.fields #[.ref l,.int 0 0]},g,d,tk,os⟩) tp ys:=by
   obtain⟨o,go,rest⟩:=g2;exact⟨o,Heap.get?_push_of_some _ go,rest⟩
  wp_walk using wpAny_pyIter_list k1,wpAny_pyIter_tuple k2
  exact⟨_,rfl,h⟩
section
variable{prog:zdk}{w:zda}{A:zdj}{E:zc9->zdi->Prop}{s:zdi}
theorem LZ(n l tp:Nat)(h1:l<n)(h2:tp<n):QI (n+4) (n+2) (n+3) n (n+1) l tp:=by
 constructor<;>(show (_:Nat)≠_;lia)
theorem Dm{l tp:zc8}{xs ys:Array zc9}{Q:zc9->zdi->Prop}(hl:s.heap.IsList l xs)(ht:s.heap.IsTuple tp ys)
 (h:∀h',QI (s.heap.objs.size+4) (s.heap.objs.size+2) (s.heap.objs.size+3) s.heap.objs.size (s.heap.objs.size+1) l tp->K6 h' (s.heap.objs.size+4) (s.heap.objs.size+2) (s.heap.objs.size+3) s.heap.objs.size (s.heap.objs.size+1) l tp xs ys 0->
  zu h' (s.heap.objs.size+4) (s.heap.objs.size+2) (s.heap.objs.size+3) .none (.bool false)->(∀c o,s.heap.get? c=some o->h'.get? c=some o)->Q (.ref (s.heap.objs.size+4)) {s with heap:=h' }) :
 wpAny (model prog w) A (call (.type "zip") [.ref l,.ref tp]) Q E s:=by
 refine callType_new F.called_zip (by decide) (F.typeCall_zip_2 _ _) (F.newCall_zip_2 _ _) (fun obj=>F.args_object_init_3 obj _ _) F.entry_zip_new (Jl l tp xs ys) ⟨hl,ht,?_⟩;have z1:(zA s.heap l).objs.size=s.heap.objs.size+1:=Heap.size_push ..;have z2:(zB s.heap l tp).objs.size=s.heap.objs.size+2:=by rw[Heap.size_push,z1]
 have z3:(zC s.heap l tp).objs.size=s.heap.objs.size+3:=by rw[Heap.size_push,z2]
 have z4:(zD s.heap l tp).objs.size=s.heap.objs.size+4:=by rw[Heap.size_push,z3]
 have g5:(zE s.heap l tp).get? (zD s.heap l tp).objs.size=some _:=Heap.get?_push_size _ rfl;have g4:(zE s.heap l tp).get? (zC s.heap l tp).objs.size=some _:=Heap.get?_push_of_some _ (Heap.get?_push_size _ rfl);have g3:(zE s.heap l tp).get? (zB s.heap l tp).objs.size=some _:=Heap.get?_push_of_some _ (Heap.get?_push_of_some _ (Heap.get?_push_size _ rfl));have g2:(zE s.heap l tp).get? (zA s.heap l).objs.size=some _:=Heap.get?_push_of_some _ (Heap.get?_push_of_some _ (Heap.get?_push_of_some _ (Heap.get?_push_size _ rfl)));have g1:(zE s.heap l tp).get? s.heap.objs.size=some _:=Heap.get?_push_of_some _ (Heap.get?_push_of_some _ (Heap.get?_push_of_some _ (Heap.get?_push_of_some _ (Heap.get?_push_size _ rfl))));have up:∀c o,s.heap.get? c=some o->(zE s.heap l tp).get? c=some o:=fun c o e=>Heap.get?_push_of_some _ (Heap.get?_push_of_some _ (Heap.get?_push_of_some _ (Heap.get?_push_of_some _ (Heap.get?_push_of_some _ e))));show _/\_;rw[z2,z3,z4] at g5;rw[z1,z2] at g3;rw[z3] at g4;rw[z1] at g2;rw[z4];obtain⟨ol,gl,rl⟩:=id hl;obtain⟨ot,gt,rt⟩:=id ht;have ll:=Heap.lt_size gl;have lt:=Heap.lt_size gt;refine⟨⟨_,g5,rfl⟩,h _ (LZ _ _ _ ll lt) ⟨.inl ⟨_,_,g5,g4⟩,g3,⟨_,g1,rfl,rfl⟩,⟨_,g2,rfl,rfl⟩,⟨ol,up _ _ gl,rl⟩,⟨ot,up _ _ gt,rt⟩⟩ g5 up⟩
theorem Jm{κ:Type}[DecidableEq κ](knd:KeyKind prog w κ)(z ti to j1 j2 l tp:zc8){xs ys:Array zc9}{Q:zc9->zdi->Prop}(hA:A.handled=none)(ap:QI z ti to j1 j2 l tp)(st:K6 s.heap z ti to j1 j2 l tp xs ys 0)(gz:zu s.heap z ti to .none (.bool false))(r:List (κ×zc9×zc9))
 (hi:xs.toList=r.map (·.2.1)) (hk:ys.toList=r.map (·.2.2)) (hp:∀q∈r,knd.is q.1 q.2.1=true) (hz:r.length<=zdg) (Wi:to<s.heap.objs.size)
 (h:∀h' tk,h'.DictOf knd s.heap.objs.size (merged [] (r.map fun q=>(q.1,q.2.2)))->(∀b o,b≠z->b≠to->b≠j1->b≠j2->s.heap.get? b=some o->h'.get? b=some o)->Q (.ref s.heap.objs.size) {s with heap:=h',toks:=tk}) :
 wpAny (model prog w) A (call (.type "dict") [.ref z]) Q E s:=by
 refine callType_codes (Q₁:=fun obj s₁=>obj=.ref s.heap.objs.size/\s₁={s with heap:=s.heap.push {cls:=.type "dict",data:=.dict #[]} }) F.kt_called_dict (F.kt_typeCall_dict_1 _) F.entry_dict_init (kt_code_dict_new _ ⟨rfl,rfl⟩) ?_
 rintro obj s₁ ⟨rfl,rfl⟩
 have Dh:(s.heap.push {cls:=.type "dict",data:=.dict #[]}).DictOf knd s.heap.objs.size []:=Heap.DictOf.new s.heap;have pB:∀b o,s.heap.get? b=some o->(s.heap.push {cls:=.type "dict",data:=.dict #[]}).get? b=some o:=fun b o e=>Heap.get?_push_of_some _ e;refine⟨Dh.typeIs,F.args_dict_init_2 _ _,?_⟩;unfold Builtin.«dict.__init__»;refine zdb ?_;unfold Builtin.Dict.selfAndRest;refine zdb (wpAny_notOrdered_dict Dh.typeIs ?_);show wpAny _ _ (pure (s.heap.objs.size,[Value.ref z])) _ _ _;refine zdc ?_;show wpAny _ _ (Builtin.Dict.updateFrom "dict.__init__" s.heap.objs.size (.ref z) [] .none) _ _ _;unfold Builtin.Dict.updateFrom;refine zdb (wpAny_typeOf (T:="zip") ⟨_,pB _ _ gz,rfl⟩ ?_);rw[if_pos (by decide)];refine zdb (Dl z (pB _ _ gz) hA fun h2 R9 pC=>?_);rw[if_pos (show (none:Option zc9).isNone=true from rfl)];refine zdb (wpAny_rule ?_);have up:∀b o,s.heap.get? b=some o->h2.get? b=some o:=fun b o e=>pC _ _ (pB _ _ e);have hd2:h2.DictOf knd s.heap.objs.size []:=by
  obtain⟨o,es,ep,ho,rest⟩:=Dh;exact⟨o,es,ep,pC _ _ ho,rest⟩
 refine zdb (wpAny_pyIter_zip (s:={s with heap:=h2,toks:=R9}) (up _ _ gz) ?_);refine zdc ⟨plainId_quiet fj _,?_⟩;have yU:K6 h2 z ti to j1 j2 l tp xs ys 0:=by
  refine⟨?_,up _ _ st.ins,?_,?_,?_,?_⟩
  ·rcases st.zip with ⟨a,b,e1,e2⟩ |⟨T,u,a,b,g,e1,e2⟩
   ·exact .inl ⟨a,b,up _ _ e1,up _ _ e2⟩
   ·exact .inr ⟨T,u,a,b,g,up _ _ e1,up _ _ e2⟩
  ·obtain⟨o,go,rest⟩:=st.LX;exact⟨o,up _ _ go,rest⟩
  ·obtain⟨o,go,rest⟩:=st.QJ;exact⟨o,up _ _ go,rest⟩
  ·obtain⟨o,go,rest⟩:=st.ls;exact⟨o,up _ _ go,rest⟩
  ·obtain⟨o,go,rest⟩:=st.tu;exact⟨o,up _ _ go,rest⟩
 refine EX (A:=A.in1) knd s.heap.objs.size z ti to j1 j2 l tp xs ys .none hA ap (zbD Wi) r 0 0 _ [] _ (by simpa using hi) (by simpa using hk) hp yU hd2 (by simpa using hz) fun h4 V9 Wa Jc=>?_;refine⟨rfl,h h4 V9 Wa fun b o n1 n2 n3 n4 e=>Jc b o (fun w=>?_) n1 n2 n3 n4 (up _ _ e)⟩;rw[w] at e;exact absurd (Heap.lt_size e) (zaP _)
end
end L3
namespace L2
open PySem PyProof.Rows
theorem Dn(c n k:Nat)(h:c<n):c≠n+k:=by lia
noncomputable def YI (K:zaa) (t:TA):TE:=fun σ H Q=>t σ H fun xs H1=>∃(a b:zc8) (ks:List Key) (vs:List V),xs=[.ref a,.ref b]/\gM K H1 a (ks.map kV)/\cu K H1 b vs/\vs.length=ks.length/\∀p,H1 p=none->Q (.ref p) (upd H1 p (.dK (lC [] (ks.zip vs))))
theorem Dq{X:Cx}(hc:X.calm=true){ea eb:Expr}{p1 p2 Sf Gi:Pos}{t:TA}(hg1:Gl X "dict")(Wj:X.mg "dict"=none)(hg2:Gl X "zip")(Wk:X.mg "zip"=none)(ha:PA X [ea,eb] t)
 (he:zde [ea,eb] X.env=(false,eval ea X.env)::zde [eb] X.env:=by rfl) (AK:(backTo Gi (zde [eb] X.env)).any (·.1)=false:=by rfl)
 (K4:zde [.Call (.Name "zip" p2) [ea,eb] [] Gi] X.env=(false,eval (.Call (.Name "zip" p2) [ea,eb] [] Gi) X.env)::zde [] X.env:=by rfl) :
 PE X (.Call (.Name "dict" p1) [.Call (.Name "zip" p2) [ea,eb] [] Gi] [] Sf) (YI X.K t):=by
 intro pins s σ H Q I h;refine wpAny_Call_Name_kw (sY I hg1 Wj PyProof.Rows.Boot.«dict» ?_ (by decide) (by decide));refine zbj ?_ K4 rfl;rw[K4];show wpAny _ _ (spliced ((false,eval (.Call (.Name "zip" p2) [ea,eb] [] Gi) X.env)::backTo Sf (zde [] X.env))) _ _ s;refine Calls.spliced_cons ?_;refine wpAny_Call_Name_kw (sY I hg2 Wk PyProof.Rows.Boot.«zip» ?_ (by decide) (by decide));refine zbj (eD (ha Gi pins s σ H _ I h) fun us s1 zqz=>?_) he AK;obtain⟨xs,H1,I1,r1,q1⟩:=zqz;obtain⟨a,b,ks,vs,rfl,ha1,Nv,lk,q⟩:=q1;obtain⟨u1,u2,rfl,ru1,ru2⟩:=vals2 r1;cases (show u1=Value.ref a from ru1);cases (show u2=Value.ref b from ru2);obtain⟨Wl,v1,t1,z1⟩:=I1.list ha1;obtain⟨qV,v2,t2,z2⟩:=I1.tuple Nv;have mk:∀(ks:List Key) (vs:List V) (Uk OY:List zc9),Vals (ks.map kV) Uk->Vals vs OY->vs.length=ks.length->∃r:List (Key×zc9×zc9),Uk=r.map (·.2.1)/\OY=r.map (·.2.2)/\(∀q∈r,(bO X.prog X.w).is q.1 q.2.1=true)/\KV (ks.zip vs) (r.map fun q=>(q.1,q.2.2))/\r.length=ks.length:=by
  intro ks
  induction ks with
  |nil=>
   intro vs Uk OY w1 w2 l;have:vs=[]:=zaV.mp l;subst this;cases w1;cases w2;exact⟨[],rfl,rfl,fun _ z=>(by cases z),.nil,rfl⟩
  |cons k ks ih=>
   intro vs Uk OY w1 w2 l;cases vs with
   |nil=>simp at l
   |cons v vs=>
    rw[zaq] at w1;cases w1 with
    |@cons _ ku _ kus w11 w12=>
     cases w2 with
     |@cons _ vu _ vus w21 w22=>
      obtain⟨r,e1,e2,h3,h4,h5⟩:=ih vs kus vus w12 w22 (by simpa using l);refine⟨(k,ku,vu)::r,by rw[e1];rfl,by rw[e2];rfl,fun q hq=>?_,.cons ⟨rfl,w21⟩ h4,by simp[h5]⟩;rcases zae.mp hq with rfl |hq
      ·exact ye w11
      ·exact h3 q hq
 obtain⟨r,e1,e2,kis,kv,lr⟩:=mk ks vs Wl qV v1 v2 lk;rw[zad] at z1;refine L3.Dm t1.isList (show s1.heap.IsTuple b qV.toArray from t2) fun h' ap st gz keep=>?_;refine Calls.spliced_nil ?_;have big:(s1.heap.objs.size+4:Nat)<h'.objs.size:=Heap.lt_size gz;have hle:s1.heap.objs.size<=h'.objs.size:=by lia
 refine L3.Jm (s:={s1 with heap:=h' }) (bO X.prog X.w) _ _ _ _ _ a b (I1.ok.hd hc) ap st gz r (by simpa using e1) (by simpa using e2) kis (by lia) (show (s1.heap.objs.size+3:Nat)<h'.objs.size by lia) fun h2 tk dd pC=>?_;have hn:=I1.cL.fresh hle;have hb:(h'.objs.size==sysModules)=false:=beq_eq_false_iff_ne.mpr (Ne.symm (zaD (zay I1.big hle)));refine⟨.ref h'.objs.size,_,I1.laid (fun c o e=>pC c o ?_ ?_ ?_ ?_ (keep c o e)) hle (C1 ?_ hb (kv.merge .nil) dd),rfl,q _ hn⟩
 ·have lc:(c:Nat)<s1.heap.objs.size:=Heap.lt_size e;exact Dn _ _ _ lc
 ·have lc:(c:Nat)<s1.heap.objs.size:=Heap.lt_size e;exact Dn _ _ _ lc
 ·have lc:(c:Nat)<s1.heap.objs.size:=Heap.lt_size e;exact zaD lc
 ·have lc:(c:Nat)<s1.heap.objs.size:=Heap.lt_size e;exact Dn _ _ _ lc
 ·have h1:=kn (ks.zip vs) [];rw[za1,List.length_zip] at h1;lia
section
variable{K:zaa}{H H':Hp}{p C dx:zc8}{fs:List (Str×V)}
mutual
theorem oF(h:H p=some (.ins C dx fs))(u:aM (·=p) H H'):∀(d:Dp) (v:V),Rep K H d v->Rep K H' d v
 |.b9,v,r=>by rw[Rep.qZ] at r ⊢;exact r
 |.bl b,v,r=>by rw[Rep.mY] at r ⊢;exact r
 |.int b,v,r=>by rw[Rep.bF] at r ⊢;exact r
 |.str b,v,r=>by rw[Rep.bY] at r ⊢;exact r
 |.lst l,v,r=>by
  rw[Rep.cg] at r ⊢;obtain⟨a,ys,rfl,q,rs⟩:=r;refine⟨a,ys,rfl,?_,kL h u l ys rs⟩;rcases q with (q |⟨o,q⟩) |q
  ·exact .inl (.inl (u _ _ (bN q h (by intro z;cases z)) q))
  ·exact .inl (.inr ⟨o,u _ _ (bN q h (by intro z;cases z)) q⟩)
  ·exact .inr q
 |.tup l,v,r=>by
  rw[Rep.br] at r ⊢;obtain⟨a,ys,rfl,q,rs⟩:=r;refine⟨a,ys,rfl,?_,kL h u l ys rs⟩;rcases q with (q |⟨o,q⟩) |q
  ·exact .inl (.inl (u _ _ (bN q h (by intro z;cases z)) q))
  ·exact .inl (.inr ⟨o,u _ _ (bN q h (by intro z;cases z)) q⟩)
  ·exact .inr q
theorem kL(h:H p=some (.ins C dx fs))(u:aM (·=p) H H'):∀(ds:List Dp) (vs:List V),aI K H ds vs->aI K H' ds vs
 |[],vs,r=>by rw[aI.bI] at r ⊢;exact r
 |d::ds,vs,r=>by
  rw[aI.aF] at r ⊢;obtain⟨v,t,rfl,r1,r2⟩:=r;exact⟨v,t,rfl,oF h u d v r1,kL h u ds t r2⟩
end
end
theorem qk{K:zaa}{a D:zc8}{xs:List V}{te:TE}{Q:VK}{r:St}{H:Hp}(kf:Nat->Key×V)(hS:gM K H a xs)(hl:xs.length<=16000000)(hD:H D=none)
 (step:∀i x H2,xs[i]?=some x->au H H2->∀R:VK,(∀p,H2 p=none->R (.ref p) (upd H2 p (.tup [kV (kf i).1,(kf i).2])))->te (some x::r) H2 R)
 (q:∀(ps:List (zc8×Key×V)) H2,au H H2->H2 D=some (.lst (ps.map fun q=>V.ref q.1))->(∀q∈ps,H2 q.1=some (.tup [kV q.2.1,q.2.2]))->ps.map (·.2)=(zaJ xs.length).map kf->Q (.ref D) H2) :
 pz (G6 K a) D (dI 0) vN te Q (none::r) (upd H D (.lst [])):=by
 refine wj (K:=K) (fun i ys H2=>∃ps:List (zc8×Key×V),ys=ps.map (fun q=>V.ref q.1)/\(∀q∈ps,H2 q.1=some (.tup [kV q.2.1,q.2.2]))/\ps.map (·.2)=(zaJ i).map kf) hS hl hD ⟨[],rfl,fun _ z=>(by cases z),rfl⟩ ?_ ?_
 ·rintro i x ys H2 hx s2 OZ ly ⟨ps,rfl,L0,ep⟩ R hR
  refine step i x H2 hx s2 R fun p hp=>hR _ _ (au.new hp _) ⟨ps++[(p,kf i)],by simp,fun q hq=>?_,by rw[zaw,ep,zbL,zaw];rfl⟩;have pD:D≠p:=aj OZ hp;rcases zao.mp hq with hq |hq
  ·have e:=L0 q hq;rw[av (bN e OZ (by intro z;cases z))];exact au.new hp _ _ _ e
  ·rw[zag.mp hq];show upd (upd H2 p _) D _ p=_;rw[av pD.symm,ah]
 ·rintro ys H2 s2 OZ ⟨ps,rfl,L0,ep⟩
  exact q ps H2 s2 OZ L0 ep
theorem tM{K:zaa}{a D:zc8}{xs:List V}{te:TE}{Q:VK}{r:St}{H:Hp}(f:Nat->V)(hS:gM K H a xs)(hl:xs.length<=16000000)(hD:H D=none)
 (step:∀i x H2,xs[i]?=some x->au H H2->∀R:VK,R (f i) H2->te (some x::r) H2 R)
 (q:∀H2,au H H2->H2 D=some (.lst ((zaJ xs.length).map f))->Q (.ref D) H2):pz (G6 K a) D (dI 0) vN te Q (none::r) (upd H D (.lst [])):=by
 refine wj (K:=K) (fun i ys H2=>ys=(zaJ i).map f) hS hl hD rfl ?_ ?_
 ·rintro i x ys H2 hx s2 OZ ly rfl R hR
  exact step i x H2 hx s2 R (hR _ _ (au.refl _) (by rw[zbL,zaw];rfl))
 ·rintro ys H2 s2 OZ rfl
  exact q H2 s2 OZ
structure ql(K:zaa)(C:zc8)(H:Hp)(p:zc8)(pr:PG.Prog):Prop where
 at_:∃(dx nl sd fa va st wy:zc8) (us ws:List V),H p=some (.ins C dx [("names",.ref nl),("sizes",.ref sd),("first",.ref fa),("statements",.ref st),("ways",.ref wy)])/\H dx=some (.own p)/\
  H nl=some (.lst (pr.aA.map fun b=>.str (S b.name)))/\H sd=some (.dK (pr.aA.map fun b=>(.inr (S b.name),.int b.size)))/\
  H fa=some (.tup [.int (PG.bc pr.body 0),.ref va])/\H va=some (.tup (pr.aA.map fun b=>.int b.first))/\
  us.length=(PG.aB pr.body).length/\H st=some (.dK (jo (PG.aB pr.body) us))/\aI K H ((PG.aB pr.body).map eT) us/\
  ws.length=(PG.aL pr.body 0).length/\H wy=some (.dK (za8 (fun r v=>(Sum.inl r.1,v)) (PG.aL pr.body 0) ws))/\∀i (hi:i<(PG.aL pr.body 0).length),∃q,ws[i]?=some (.ref q)/\cu K H q ((PG.aL pr.body 0)[i].2.2.map V.int)
section
variable(K:zaa)(C:zc8)
noncomputable def L1:Sp:=fun vs H Q _=>∃(p dx:zc8) (v:V) (pr:PG.Prog),vs=[.ref p,v]/\H p=some (.ins C dx [])/\H dx=some (.own p)/\Rep K H (jh pr) v/\PG.eX pr.body<=3/\(PG.bH pr.body).length<=1000/\(PG.aB pr.body).Pairwise (fun a b=>a.row<b.row)/\(pr.aA.map (·.name)).Nodup/\pr.aA.length<=10/\
 ∀H',aT p H H'->ql K C H' p pr->Q .b9 H'
end
end L2
namespace L2
open PySem
noncomputable def O0 (aC:List (Key×V)) (x:W):Int:=match b8 aC (.inr (S x)) with
 |some (.int i)=>i
 |_=>0
noncomputable def Ha (aC:List (Key×V)):PM.Tr->Prop
 |.num n=>n.natAbs<=2 ^ 12
 |.box x=>∃i:Int,b8 aC (.inr (S x))=some (.int i)/\i.natAbs<=2 ^ 12
 |.bin o l r=>(o=[43]\/o=[45]\/o=[42])/\Ha aC l/\Ha aC r
theorem Jn{aC:List (Key×V)}{x:W}{i:Int}(h:b8 aC (.inr (S x))=some (.int i)):O0 aC x=i:=by
 unfold O0;rw[h]
theorem rE{aC:List (Key×V)}:∀ {t:PM.Tr},Ha aC t->(fX (O0 aC) t).natAbs<=2 ^ (14*2 ^ PG.mM t)
 |.num n,h=>by
  rw[Ha] at h;rw[fX];simp only[PG.mM];exact zaA h (zaX (by decide) (by decide))
 |.box x,h=>by
  rw[Ha] at h;obtain⟨i,e,hi⟩:=h;rw[fX,Jn e];simp only[PG.mM];exact zaA hi (zaX (by decide) (by decide))
 |.bin o l r,h=>by
  rw[Ha] at h;have hl:=rE h.2.1;have hr:=rE h.2.2;have one:∀a b:Nat,1<=2 ^ max a b:=fun a b=>zbY;have ml:(fX (O0 aC) l).natAbs<=2 ^ (14*2 ^ max (PG.mM l) (PG.mM r)):=zaA hl (zaX (by decide) (zc2 _ (zaX (by decide) (Nat.le_max_left _ _))));have mr:(fX (O0 aC) r).natAbs<=2 ^ (14*2 ^ max (PG.mM l) (PG.mM r)):=zaA hr (zaX (by decide) (zc2 _ (zaX (by decide) (Nat.le_max_right _ _))));rw[PG.mM,show 14*2 ^ (max (PG.mM l) (PG.mM r)+1)=14*2 ^ max (PG.mM l) (PG.mM r)+14*2 ^ max (PG.mM l) (PG.mM r) by rw[zcy];lia];have Wm:14<=14*2 ^ max (PG.mM l) (PG.mM r):=Nat.le_mul_of_pos_right _ (one _ _);generalize 14*2 ^ max (PG.mM l) (PG.mM r)=k at *;have two:2<=2 ^ k:=zaA (by decide:2<=2 ^ 1) (zaX (by decide) (by lia));rw[Nat.pow_add];have b2:2*2 ^ k<=2 ^ k*2 ^ k:=zcY _ two;rw[fX];split
  ·lia
  ·split
   ·lia
   ·rw[Int.natAbs_mul];exact zcl ml mr
theorem Jo{a:Int}{d:Nat}(h:a.natAbs<=2 ^ (14*2 ^ d))(hd:d<=6):a.natAbs<2 ^ 4000:=by
 refine za4 h (Nat.pow_lt_pow_right (by decide) ?_);have:2 ^ d<=2 ^ 6:=zaX (by decide) hd;lia
section
variable(K:zaa)
noncomputable def Ul (n:Nat):Sp:=fun vs H Q _=>∃(v:V) (d:zc8) (tr:PM.Tr) (aC:List (Key×V)),vs=[v,.ref d]/\Rep K H (mL tr) v/\H d=some (.dK aC)/\Ha aC tr/\PG.mM tr<n/\PG.mM tr<=6/\∀H',au H H'->Q (.int (fX (O0 aC) tr)) H'
end
theorem ql.mono{K:zaa}{C p:zc8}{H H':Hp}{pr:PG.Prog}(c:ql K C H p pr)(s:au H H'):ql K C H' p pr:=by
 obtain⟨dx,nl,sd,fa,va,st,wy,us,ws,h1,h2,h3,h4,h5,h6,h7,h8,h9,Gj,Hb,K7⟩:=c.at_;exact⟨⟨dx,nl,sd,fa,va,st,wy,us,ws,s _ _ h1,s _ _ h2,s _ _ h3,s _ _ h4,s _ _ h5,s _ _ h6,h7,s _ _ h8,h9.mono s,Gj,s _ _ Hb,fun i hi=>let ⟨q,e,r⟩:=K7 i hi;⟨q,e,s.cI r⟩⟩⟩
theorem oG{α β:Type}(g:α->β)(d:α)(l:List α):(zaJ l.length).map (fun i=>g (l.getD i d))=l.map g:=by
 apply zbS
 ·simp
 ·intro i h1 h2;simp at h1 h2;simp[h2]
noncomputable def dU (bs:List PG.fO) (vs:List V):List (Key×V):=za8 (fun b v=>(Sum.inr (S b.name),v)) bs vs
theorem wt:∀(bs:List PG.fO) (vs:List V),(bs.map fun b=>(Sum.inr (S b.name):Key)).zip vs=dU bs vs
 |[],vs=>by simp[dU]
 |b::bs,[]=>by simp[dU]
 |b::bs,v::vs=>by
  show _::(bs.map fun b=>(Sum.inr (S b.name):Key)).zip vs=_::dU bs vs;rw[wt bs vs]
theorem uv:∀(bs:List PG.fO) (vs:List V),vs.length=bs.length->(dU bs vs).map (·.1)=bs.map fun b=>(Sum.inr (S b.name):Key)
 |[],[],_=>rfl
 |[],_::_,h=>by simp at h
 |_::_,[],h=>by simp at h
 |b::bs,v::vs,h=>by
  show _::(dU bs vs).map (·.1)=_;rw[uv bs vs (by simpa using h)];rfl
theorem names_nodup{bs:List PG.fO}(nb:(bs.map (·.name)).Nodup):(bs.map fun b=>(Sum.inr (S b.name):Key)).Nodup:=by
 refine za0.mpr ((za0.mp nb).imp fun {a b} Nt e=>Nt ?_);exact vO.mp (Sum.inr.inj e)
theorem kM:∀(bs:List PG.fO) (vs:List V),vs.length=bs.length->(bs.map (·.name)).Nodup->∀i (hi:i<bs.length) v,vs[i]?=some v->b8 (dU bs vs) (.inr (S bs[i].name))=some v
 |[],_,_,_,i,hi,_,_=>by simp at hi
 |_::_,[],h,_,_,_,_,_=>by simp at h
 |b::bs,v::vs,h,nb,0,hi,u,hu=>by
  simp at hu;subst hu;show b8 ((_,v)::dU bs vs) _=_;exact cD rfl
 |b::bs,v::vs,h,nb,i+1,hi,u,hu=>by
  rw[zaq,zaH] at nb;have mem:(bs[i]'(by simpa using hi)).name∈bs.map (·.name):=zaF.mpr ⟨_,zat _,rfl⟩;show b8 ((.inr (S b.name),v)::dU bs vs) (.inr (S (bs[i]'(by simpa using hi)).name))=_;rw[cE (fun e=>by have e:=vO.mp (Sum.inr.inj e);exact nb.1 (e▸mem))];exact kM bs vs (by simpa using h) nb.2 i (by simpa using hi) u (by simpa using hu)
section
variable(K:zaa)(C:zc8)
noncomputable def Gk:Sp:=fun vs H Q _=>∃(p a:zc8) (pr:PG.Prog) (us:List V),vs=[.ref p,.ref a]/\ql K C H p pr/\cu K H a us/\us.length=pr.aA.length/\(pr.aA.map (·.name)).Nodup/\pr.aA.length<=10/\
 ∀d H',au H H'->H d=none->H' d=some (.dK (dU pr.aA us))->Q (.ref d) H'
noncomputable def Gm:Sp:=fun vs H Q _=>∃(p d:zc8) (pr:PG.Prog) (aC:List (Key×V)) (us:List V),vs=[.ref p,.ref d]/\ql K C H p pr/\H d=some (.dK aC)/\us.length=pr.aA.length/\(∀i (hi:i<pr.aA.length),b8 aC (.inr (S pr.aA[i].name))=us[i]?)/\pr.aA.length<=10/\
 ∀a H',au H H'->cu K H' a us->Q (.ref a) H'
noncomputable def Jp:Sp:=fun vs H Q _=>∃(p:zc8) (pr:PG.Prog) (row:Int),vs=[.ref p,.int row]/\ql K C H p pr/\(PG.aB pr.body).Pairwise (fun a b=>a.row<b.row)/\
 ((row=0/\Q (.str "end") H)\/(row≠0/\∃i,∃hi:i<(PG.aB pr.body).length,(PG.aB pr.body)[i].row=row/\Q (.str (jZ (PG.aB pr.body)[i].wd)) H))
end
noncomputable def uy:PG.bX->Option (W×PM.Tr×PM.Tr)
 |.cB _ sg l r=>some (sg,l,r)
 |.ifs _ sg l r _ _=>some (sg,l,r)
 |.jc _ sg l r _=>some (sg,l,r)
 |_=>none
noncomputable def qm (sg:W) (a b:Int):Bool:=if sg=[60] then decide (a<b) else decide (a=b)
noncomputable def wv (bs:List PG.fO) (vals:List Int) (e:PM.Tr):Int:=fX (O0 (dU bs (vals.map V.int))) e
noncomputable abbrev Dr (bs:List PG.fO) (vals:List Int) (e:PM.Tr):Prop:=Ha (dU bs (vals.map V.int)) e/\PG.mM e<=2
theorem Ds{K:zaa}{H:Hp}{st:PG.bX}{v:V}{sg:W}{l r:PM.Tr}(h:Rep K H (eT st) v)(c:uy st=some (sg,l,r)):∃a w0 vl vr ys,v=.ref a/\cu K H a (w0 :: .int st.row :: .str (S sg)::vl::vr::ys)/\Rep K H (mL l) vl/\Rep K H (mL r) vr:=by
 have key:∃w ds,eT st=.tup (.str w :: .int st.row :: .str (S sg)::mL l::mL r::ds):=by
  cases st<;>simp only[uy,zaT.injEq,Prod.mk.injEq,reduceCtorEq] at c<;>obtain⟨rfl,rfl,rfl⟩:=c<;>exact⟨_,_,by rw[eT];rfl⟩
 obtain⟨w0,ds,e⟩:=key;rw[e,Rep.br] at h;obtain⟨a,xs,rfl,q,rs⟩:=h;rw[aI.aF] at rs;obtain⟨v0,t0,rfl,_,rs⟩:=rs;rw[aI.aF] at rs;obtain⟨v1,t1,rfl,e1,rs⟩:=rs;rw[aI.aF] at rs;obtain⟨v2,t2,rfl,e2,rs⟩:=rs;rw[aI.aF] at rs;obtain⟨v3,t3,rfl,e3,rs⟩:=rs;rw[aI.aF] at rs;obtain⟨v4,t4,rfl,e4,rs⟩:=rs;rw[Rep.bF] at e1;rw[Rep.bY] at e2;subst e1 e2;exact⟨a,v0,v3,v4,t4,rfl,q,e3,e4⟩
noncomputable def cx (K:zaa) (H:Hp) (sa:zc8) (row:Int) (vals:List Int):Prop:=∃va,cu K H sa [.int row,.ref va]/\cu K H va (vals.map V.int)
theorem cx.mono{K:zaa}{H H':Hp}{sa:zc8}{row:Int}{vals:List Int}(h:cx K H sa row vals)(s:au H H'):cx K H' sa row vals:=let ⟨va,h1,h2⟩:=h;⟨va,s.cI h1,s.cI h2⟩
structure Dt(pr:PG.Prog):Prop where
 pw:(PG.aB pr.body).Pairwise (fun a b=>a.row<b.row)
 nb:(pr.aA.map (·.name)).Nodup
 v7:pr.aA.length<=10
 pos:∀s∈PG.aB pr.body,0<s.row
section
variable(K:zaa)(C:zc8)
noncomputable def L4:Sp:=fun vs H Q _=>∃(p sa:zc8) (pr:PG.Prog) (vals:List Int) (i:Nat) (hi:i<(PG.aB pr.body).length) (sg:W) (l r:PM.Tr),vs=[.ref p,.ref sa]/\ql K C H p pr/\Dt pr/\cx K H sa (PG.aB pr.body)[i].row vals/\vals.length=pr.aA.length/\uy (PG.aB pr.body)[i]=some (sg,l,r)/\Dr pr.aA vals l/\Dr pr.aA vals r/\
 ∀H',au H H'->Q (.bl (qm sg (wv pr.aA vals l) (wv pr.aA vals r))) H'
end
theorem yu:∀(fl:List PG.dN) (vs:List V),vs.length=fl.length->fl.Pairwise (fun a b=>a.1<b.1)->∀i (hi:i<fl.length) v,vs[i]?=some v->b8 (za8 (fun r v=>((Sum.inl r.1:Key),v)) fl vs) (.inl fl[i].1)=some v
 |[],_,_,_,i,hi,_,_=>by simp at hi
 |_::_,[],h,_,_,_,_,_=>by simp at h
 |s::ss,v::vs,h,hp,0,hi,u,hu=>by
  simp at hu;subst hu;rw[zcL];exact cD rfl
 |s::ss,v::vs,h,hp,i+1,hi,u,hu=>by
  rw[zbA] at hp;have lt:=hp.1 (ss[i]'(by simpa using hi)) (zat _);rw[zcL];show b8 _ (Sum.inl (ss[i]'(by simpa using hi)).1:Key)=_;rw[cE (fun e=>by have e:=Sum.inl.inj e;lia)];exact yu ss vs (by simpa using h) hp.2 i (by simpa using hi) u (by simpa using hu)
theorem nF(b:List PG.bX)(i:Nat)(hi:i<(PG.aB b).length):∃hf:i<(PG.aL b 0).length,(PG.aL b 0)[i].1=(PG.aB b)[i].row/\(PG.aL b 0)[i].2.1=(PG.aB b)[i].wd:=by
 have e:((PG.aL b 0).map fun r=>(r.1,r.2.1))=(PG.aB b).map fun x=>(x.row,x.wd):=by rw[PG.cY,PG.eK]
 have l:=congrArg za9 e;rw[zad,zad] at l;have hf:i<(PG.aL b 0).length:=by lia
 refine⟨hf,?_⟩;have h1:((PG.aL b 0).map fun r=>(r.1,r.2.1))[i]?=((PG.aB b).map fun x=>(x.row,x.wd))[i]?:=by rw[e]
 rw[zap,zap,zac hf,zac hi] at h1;have h1:=zaT.inj h1;exact⟨congrArg Prod.fst h1,congrArg Prod.snd h1⟩
theorem Gn{b:List PG.bX}(pw:(PG.aB b).Pairwise fun a b=>a.row<b.row):(PG.aL b 0).Pairwise fun a b=>a.1<b.1:=by
 have e:((PG.aL b 0).map fun r=>(r.1,r.2.1))=(PG.aB b).map fun x=>(x.row,x.wd):=by rw[PG.cY,PG.eK]
 have h:((PG.aB b).map fun x=>(x.row,x.wd)).Pairwise fun a b=>a.1<b.1:=za0.mpr pw;rw[<- e,za0] at h;exact h
theorem ql.way{K:zaa}{C p:zc8}{H:Hp}{pr:PG.Prog}(c:ql K C H p pr)(ok:Dt pr)(i:Nat)(hi:i<(PG.aB pr.body).length)(hf:i<(PG.aL pr.body 0).length):∃dx fs wy q,H p=some (.ins C dx fs)/\fs.lookup (zab "ways")=some (V.ref wy)/\uT H wy (.int (PG.aB pr.body)[i].row) (some (.ref q))/\cu K H q ((PG.aL pr.body 0)[i].2.2.map V.int):=by
 obtain⟨dx,nl,sd,fa,va,st,wy,us,ws,h1,h2,h3,h4,h5,h6,h7,h8,h9,Gj,Hb,K7⟩:=c.at_;obtain⟨q,e,hq⟩:=K7 i hf;obtain⟨hf',e1,_⟩:=nF pr.body i hi;have g:=yu _ _ Gj (Gn ok.pw) i hf _ e;rw[e1] at g;exact⟨dx,_,wy,q,h1,rfl,.inl ⟨_,.inl _,.inl Hb,rfl,g.symm⟩,hq⟩
noncomputable def wu (K:zaa) (H:Hp):Option (Int×List Int)->V->Prop
 |none,v=>v=.b9
 |some x,v=>∃a,v=.ref a/\cx K H a x.1 x.2
noncomputable def iX (bs:List PG.fO) (st:PG.bX) (ws:List Int) (vals:List Int):Option (Int×List Int):=match uy st with
 |none=>none
 |some (sg,l,r)=>if qm sg (wv bs vals l) (wv bs vals r) then some (ws.getD 0 0,vals) else if st.wd=.cB then none else some (ws.getD 1 0,vals)
section
variable(K:zaa)(C:zc8)
noncomputable def Gp:Sp:=fun vs H Q _=>∃(p sa:zc8) (pr:PG.Prog) (vals:List Int) (i:Nat) (hi:i<(PG.aB pr.body).length) (hf:i<(PG.aL pr.body 0).length) (sg:W) (l r:PM.Tr),vs=[.ref p,.ref sa]/\ql K C H p pr/\Dt pr/\cx K H sa (PG.aB pr.body)[i].row vals/\vals.length=pr.aA.length/\uy (PG.aB pr.body)[i]=some (sg,l,r)/\Dr pr.aA vals l/\Dr pr.aA vals r/\
 0<(PG.aL pr.body 0)[i].2.2.length/\((PG.aB pr.body)[i].wd≠.cB->1<(PG.aL pr.body 0)[i].2.2.length)/\
 ∀v H',au H H'->wu K H' (iX pr.aA (PG.aB pr.body)[i] (PG.aL pr.body 0)[i].2.2 vals) v->Q v H'
end
open PyProof.Rows
noncomputable def iq (bs:List PG.fO) (x:W):Nat:=(bs.map (·.name)).idxOf x
noncomputable def uV (bs:List PG.fO) (vals:List Int) (x:W) (v:Int):List Int:=vals.set (iq bs x) v
noncomputable def gI (bs:List PG.fO) (x:W):Int:=((bs[iq bs x]?).map (·.size)).getD 1
noncomputable def mD (bs:List PG.fO) (st:PG.bX) (ws vals:List Int) (K8:Int):Option (Int×List Int)×Option Int:=match st with
 |.ask _ b=>(some (ws.getD 0 0,uV bs vals b (K8%gI bs b)),none)
 |.put _ b e=>(some (ws.getD 0 0,uV bs vals b (wv bs vals e%gI bs b)),none)
 |.say _ e=>(some (ws.getD 0 0,vals),some (wv bs vals e))
 |.stop _=>(some (ws.getD 0 0,vals),none)
 |st=>(iX bs st ws vals,none)
noncomputable def Jq (bs:List PG.fO) (vals:List Int):PG.bX->Prop
 |.ask _ b=>b∈bs.map (·.name)
 |.put _ b e=>b∈bs.map (·.name)/\Dr bs vals e
 |.say _ e=>Dr bs vals e
 |.cB _ _ l r=>Dr bs vals l/\Dr bs vals r
 |.ifs _ _ l r _ _=>Dr bs vals l/\Dr bs vals r
 |.jc _ _ l r _=>Dr bs vals l/\Dr bs vals r
 |.stop _=>True
noncomputable def Bz:Option Int->V
 |none=>.b9
 |some n=>.int n
theorem nG{bs:List PG.fO}{x:W}(h:x∈bs.map (·.name)):∃hi:iq bs x<bs.length,bs[iq bs x].name=x:=by
 have l:iq bs x<(bs.map (·.name)).length:=List.idxOf_lt_length_iff.mpr h;have e:(bs.map (·.name))[iq bs x]=x:=List.getElem_idxOf l;rw[zad] at l;rw[zbT] at e;exact⟨l,e⟩
theorem Du{bs:List PG.fO}{vs:List V}(l:vs.length=bs.length)(nb:(bs.map (·.name)).Nodup){x:W}(h:x∈bs.map (·.name))(v:V)(i:Nat)(hi:i<bs.length) :
 b8 (putK (dU bs vs) (.inr (S x)) v) (.inr (S bs[i].name))=(vs.set (iq bs x) v)[i]?:=by
 obtain⟨hx,ex⟩:=nG h;rw[vL];by_cases e:i=iq bs x
 ·subst e;rw[if_pos (by rw[ex]),zb6 (by lia)]
 ·have ne:bs[i].name≠x:=fun z=>e (by
   have p1:=zct.mp nb;rw[<- ex] at z;rcases Nat.lt_trichotomy i (iq bs x) with lt |eq |gt
   ·exact absurd (by rw[zbT,zbT];exact z) (p1 i (iq bs x) (by simpa using hi) (by simpa using hx) lt)
   ·exact eq
   ·exact absurd (by rw[zbT,zbT];exact z.symm) (p1 (iq bs x) i (by simpa using hx) (by simpa using hi) gt))
  rw[if_neg (fun z=>ne (vO.mp (Sum.inr.inj z))),zcd (fun z=>e z.symm)];have li:i<vs.length:=by lia
  rw[kM bs vs l nb i hi vs[i] (zac li),zac li]
theorem BA{bs:List PG.fO}(nb:(bs.map (·.name)).Nodup){x:W}(h:x∈bs.map (·.name)):b8 (bs.map fun b=>((Sum.inr (S b.name):Key),V.int b.size)) (.inr (S x))=some (.int (gI bs x)):=by
 obtain⟨hx,ex⟩:=nG h;have e:(bs.map fun b=>((Sum.inr (S b.name):Key),V.int b.size))=dU bs (bs.map fun b=>V.int b.size):=by
  unfold dU;rw[List.zipWith_map_right,List.zipWith_self]
 rw[e];have:=kM bs (bs.map fun b=>V.int b.size) (by simp) nb (iq bs x) hx (.int bs[iq bs x].size) (by rw[zap,zac hx];rfl);rw[ex] at this;rw[this];unfold gI;rw[zac hx];rfl
section
variable(K:zaa)(C:zc8)
noncomputable def Jr:Sp:=fun vs H Q _=>∃(p sa:zc8) (fv:V) (pr:PG.Prog) (vals:List Int) (K8:Int) (i:Nat) (hi:i<(PG.aB pr.body).length) (hf:i<(PG.aL pr.body 0).length),vs=[.ref p,.ref sa,fv]/\ql K C H p pr/\Dt pr/\(∀b∈pr.aA,0<b.size)/\cx K H sa (PG.aB pr.body)[i].row vals/\vals.length=pr.aA.length/\
 ((PG.aB pr.body)[i].wd=.ask->fv=.int K8)/\Jq pr.aA vals (PG.aB pr.body)[i]/\0<(PG.aL pr.body 0)[i].2.2.length/\((PG.aB pr.body)[i].wd=.ifs\/(PG.aB pr.body)[i].wd=.jc->1<(PG.aL pr.body 0)[i].2.2.length)/\
 ∀q sv H',au H H'->cu K H' q [sv,Bz (mD pr.aA (PG.aB pr.body)[i] (PG.aL pr.body 0)[i].2.2 vals K8).2]->wu K H' (mD pr.aA (PG.aB pr.body)[i] (PG.aL pr.body 0)[i].2.2 vals K8).1 sv->Q (.ref q) H'
end
open PySem.Spec
noncomputable def Sg (K:zaa):R2:=fun x y H Q=>∃a b xs ys,x=.ref a/\y=.ref b/\cu K H a xs/\cu K H b ys/\xs.length+ys.length<=zdg/\∀p H',au H H'->cu K H' p (xs++ys)->Q (.ref p) H'
theorem L5{X:Cx}:qG X (binaryOp .Add) (Sg X.K):=by
 intro pins s σ H x y v u Q I rx ry h;by_cases hx:∃Sh,(∃a b ys,x=.ref a/\y=.ref b/\cu X.K H a Sh/\cu X.K H b ys/\Sh.length+ys.length<=zdg/\∀p H',au H H'->cu X.K H' p (Sh++ys)->Q (.ref p) H')/\Sh=[]
 ·obtain⟨xs,⟨a,b,ys,rfl,rfl,ha,hb,hz,q⟩,rfl⟩:=hx;cases rx;cases ry;obtain⟨bj,r1,p1,_⟩:=I.tuple ha;obtain⟨qV,r2,p2,_⟩:=I.tuple hb;obtain⟨⟨cls,dd,data,sl⟩,ho,hc,n,hd⟩:=id p1;obtain⟨⟨RG,HL,data2,G7⟩,K3,Na,n2,hd2⟩:=id p2;simp only at hc hd Na hd2;subst hc hd Na hd2;cases r1;exact concat_meets ⟨_,ho,rfl⟩ ⟨_,K3,rfl⟩ noFill_tuple_add seq_tuple_add zb7 zb3 (zbZ _ _)
   (tuple_addW0 a b _ qV.toArray n n2 dd HL sl G7 rfl) ⟨ho,K3,⟨.ref b,H,I,rfl,q _ _ (au.refl _) hb⟩⟩
 ·obtain⟨a,b,xs,ys,rfl,rfl,ha,hb,hz,q⟩:=h;refine qU pins s σ H _ _ v u Q I rx ry ⟨a,b,xs,ys,rfl,rfl,ha,hb,fun e=>hx ⟨xs,⟨a,b,ys,rfl,rfl,ha,hb,hz,q⟩,e⟩,hz,fun e=>q _ _ (au.refl _) ?_,fun _ p hp=>q _ _ (au.new hp _) (.of ah)⟩;rw[e,zaC];exact ha
noncomputable def Wn:PG.bX->Prop
 |.cB _ sg _ _=>sg∈PG.Cs
 |.ifs _ sg _ _ _ _=>sg∈PG.Cs
 |.jc _ sg _ _ _=>sg∈PG.Cs
 |_=>True
theorem Gq{H H':Hp}{b:zc8}(s:au H H')(h:H' b=none):H b=none:=by
 cases z:H b with
 |none=>rfl
 |some o=>rw[s _ _ z] at h;cases h
theorem cu.BB{K:zaa}{H H':Hp}{D a:zc8}{xs ys:List V}(h:cu K H a xs)(hD:H D=some (.lst ys))(u:aT D H H'):cu K H' a xs:=by
 rcases h with (q |⟨o,q⟩) |q
 ·exact .inl (.inl (u _ _ (bN q hD (by intro z;cases z)) q))
 ·exact .inl (.inr ⟨o,u _ _ (bN q hD (by intro z;cases z)) q⟩)
 ·exact .inr q
theorem zw{bs:List PG.fO}{vals:List Int}(lv:vals.length=bs.length)(nb:(bs.map (·.name)).Nodup)(hv:∀v∈vals,v.natAbs<=2 ^ 12):∀e:PM.Tr,PG.iV bs e->Ha (dU bs (vals.map V.int)) e
 |.num n,h=>by rw[PG.iV] at h;rw[Ha];lia
 |.box x,h=>by
  rw[PG.iV] at h;rw[Ha];obtain⟨hx,ex⟩:=nG h;have li:iq bs x<vals.length:=by lia
  refine⟨vals[iq bs x],?_,hv _ (zat li)⟩;have:=kM bs (vals.map V.int) (by simpa using lv) nb (iq bs x) hx (.int vals[iq bs x]) (by rw[zap,zac li];rfl);rw[ex] at this;exact this
 |.bin o l r,h=>by
  rw[PG.iV] at h;rw[Ha];exact⟨by simpa using h.1,zw lv nb hv l h.2.1,zw lv nb hv r h.2.2⟩
theorem Dv{bs:List PG.fO}{vals:List Int}(lv:vals.length=bs.length)(nb:(bs.map (·.name)).Nodup)(hv:∀v∈vals,v.natAbs<=2 ^ 12){st:PG.bX}(h:PG.rj (·∈bs.map (·.name)) (fun e=>PG.iV bs e/\PG.mM e<=2) (·∈PG.Cs) st):Jq bs vals st/\Wn st:=by
 have k:∀e,(PG.iV bs e/\PG.mM e<=2)->Dr bs vals e:=fun e h=>⟨zw lv nb hv e h.1,h.2⟩
 cases st<;>rw[PG.rj] at h
 ·exact⟨h,trivial⟩
 ·exact⟨⟨h.1,k _ h.2⟩,trivial⟩
 ·exact⟨k _ h,trivial⟩
 ·exact⟨⟨k _ h.2.1,k _ h.2.2⟩,h.1⟩
 ·exact⟨trivial,trivial⟩
 ·exact⟨⟨k _ h.2.1,k _ h.2.2.1⟩,h.1⟩
 ·exact⟨⟨k _ h.2.1,k _ h.2.2.1⟩,h.1⟩
section
variable(K:zaa)
noncomputable def Dw:Sp:=fun vs H Q _=>∃(D S:zc8) (sc:List Int) (p many:Nat),vs=[.ref D,.int many]/\eY K H D S sc p/\p<=100/\many<=100/\
 ∀(l t1 B b R:zc8) H',aT D H H'->(∃p',p'<=90000/\eY K H' D S sc p')->H' l=some (.lst [.ref t1,.ref R])->H' t1=some (.tup [.ref B,.ref b])->l≠D->t1≠D->B≠D->b≠D->R≠D->
  Fix K (·=D) H' (.lst ((PG.bS sc many p).1.aA.map jm)) (.ref B)->Fix K (·=D) H' (.lst ((PG.bS sc many p).1.body.map eT)) (.ref b)->Fix K (·=D) H' (.lst ((PG.bS sc many p).2.map ur)) (.ref R)->Q (.ref l) H'
end
section
variable{K:zaa}{H H':Hp}{p C dx a:zc8}{fs:List (Str×V)}{xs:List V}
theorem cu.ins(h:cu K H a xs)(hp:H p=some (.ins C dx fs))(u:aT p H H'):cu K H' a xs:=by
 rcases h with (q |⟨o,q⟩) |q
 ·exact .inl (.inl (u _ _ (bN q hp (by intro z;cases z)) q))
 ·exact .inl (.inr ⟨o,u _ _ (bN q hp (by intro z;cases z)) q⟩)
 ·exact .inr q
theorem gM.ins(h:gM K H a xs)(hp:H p=some (.ins C dx fs))(u:aT p H H'):gM K H' a xs:=by
 rcases h with (q |⟨o,q⟩) |q
 ·exact .inl (.inl (u _ _ (bN q hp (by intro z;cases z)) q))
 ·exact .inl (.inr ⟨o,u _ _ (bN q hp (by intro z;cases z)) q⟩)
 ·exact .inr q
theorem cx.ins{row:Int}{vals:List Int}(h:cx K H a row vals)(hp:H p=some (.ins C dx fs))(u:aT p H H'):cx K H' a row vals:=let ⟨va,h1,h2⟩:=h;⟨va,h1.ins hp u,h2.ins hp u⟩
theorem ql.ins{CC ch:zc8}{pr:PG.Prog}(c:ql K CC H ch pr)(hp:H p=some (.ins C dx fs))(n:ch≠p)(u:aT p H H'):ql K CC H' ch pr:=by
 obtain⟨dx,nl,sd,fa,va,st,wy,us,ws,h1,h2,h3,h4,h5,h6,h7,h8,h9,Gj,Hb,K7⟩:=c.at_;have k:∀ {b:zc8} {o:HO},H b=some o->(∀C dx fs,o≠.ins C dx fs)->H' b=some o:=fun e no=>u _ _ (bN e hp (no _ _ _)) e;exact⟨⟨dx,nl,sd,fa,va,st,wy,us,ws,u _ _ n h1,k h2 (by intro _ _ _ z;cases z),k h3 (by intro _ _ _ z;cases z),k h4 (by intro _ _ _ z;cases z),k h5 (by intro _ _ _ z;cases z),k h6 (by intro _ _ _ z;cases z),h7,k h8 (by intro _ _ _ z;cases z),kL hp (aM.one u rfl) _ _ h9,Gj,k Hb (by intro _ _ _ z;cases z),fun i hi=>let ⟨q,e,r⟩:=K7 i hi;⟨q,e,r.ins hp u⟩⟩⟩
end
theorem Dx{tc:TT}{tb:TS}{D:Ends}{σ:St}{H:Hp}(h:∀B:TS,(∀D σ H,tb D σ H->B D σ H)->CJ tc B D σ H):CJ tc tb D σ H:=h tb fun _ _ _ x=>x
theorem gV{f:Str}{y:V}:∀ {fs:List (Str×V)} {n:Nat},fs.length<=n->(je f y fs).length<=n+1
 |[],n,h=>by simp[je]
 |(g,x)::r,n,h=>by
  unfold je;split
  ·simp only[zaj] at h ⊢;lia
  ·obtain⟨m,rfl⟩:∃m,n=m+1:=⟨n-1,by simp only[zaj] at h;lia⟩
   have:=gV (f:=f) (y:=y) (fs:=r) (n:=m) (by simp only[zaj] at h;lia);simp only[zaj];lia
noncomputable def Wo:PG.fY->List V
 |.on=>[.str "on"]
 |.out=>[.str "out"]
 |.cB r=>[.str "must",.int r]
 |.fin=>[.str "end"]
noncomputable def tO (K:zaa) (H:Hp):Option PG.fY->V->Prop
 |none,v=>v=.b9
 |some e,v=>∃a,v=.ref a/\cu K H a (Wo e)
theorem tO.mono{K:zaa}{H H':Hp}{e:Option PG.fY}{v:V}(h:tO K H e v)(s:au H H'):tO K H' e v:=by
 cases e with
 |none=>exact h
 |some x=>obtain⟨a,e,q⟩:=h;exact⟨a,e,s.cI q⟩
theorem tO.ins{K:zaa}{H H':Hp}{p C dx:zc8}{fs:List (Str×V)}{e:Option PG.fY}{v:V}(h:tO K H e v)(hp:H p=some (.ins C dx fs))(u:aT p H H'):tO K H' e v:=by
 cases e with
 |none=>exact h
 |some x=>obtain⟨a,e,q⟩:=h;exact⟨a,e,q.ins hp u⟩
noncomputable def Si (ch fl:zc8) (n:Nat) (sa:zc8) (ev:V):List (Str×V):=[("chart",.ref ch),("figures",.ref fl),("taken",.int n),("standing",.ref sa),("end",ev)]
structure AL(K:zaa)(CC CW:zc8)(H:Hp)(wk ch fl:zc8)(pr:PG.Prog)(figs:List Int)(n:Nat)(row:Int)(vals:List Int)(e:Option PG.fY):Prop where
 at_:∃(dx sa:zc8) (ev:V),H wk=some (.ins CW dx (Si ch fl n sa ev))/\cx K H sa row vals/\tO K H e ev
 Sj:ql K CC H ch pr
 Um:gM K H fl (figs.map V.int)
 Uo:ch≠wk
theorem AL.mono{K:zaa}{CC CW:zc8}{H H':Hp}{wk ch fl:zc8}{pr:PG.Prog}{figs:List Int}{n:Nat}{row:Int}{vals:List Int}{e:Option PG.fY}(h:AL K CC CW H wk ch fl pr figs n row vals e)(s:au H H'):AL K CC CW H' wk ch fl pr figs n row vals e:=
 let ⟨dx,sa,ev,h1,h2,h3⟩:=h.at_
 ⟨⟨dx,sa,ev,s _ _ h1,h2.mono s,h3.mono s⟩,h.Sj.mono s,s.seq h.Um,h.Uo⟩
theorem AL.put{K:zaa}{CC CW:zc8}{H:Hp}{wk ch fl dx sa Up:zc8}{pr:PG.Prog}{figs:List Int}{n n':Nat}{row Sk:Int}{vals Nw:List Int}{e e':Option PG.fY}{ev Uq:V}(h:AL K CC CW H wk ch fl pr figs n row vals e)(hw:H wk=some (.ins CW dx (Si ch fl n sa ev)))
 (hs:cx K H Up Sk Nw) (he:tO K H e' Uq):AL K CC CW (upd H wk (.ins CW dx (Si ch fl n' Up Uq))) wk ch fl pr figs n' Sk Nw e':=by
 have u:aT wk H (upd H wk (.ins CW dx (Si ch fl n' Up Uq))):=(aT.refl _ _).put _;exact⟨⟨dx,Up,Uq,ah,hs.ins hw u,he.ins hw u⟩,h.Sj.ins hw h.Uo u,h.Um.ins hw u,h.Uo⟩
noncomputable def zx (b:List PG.bX) (row:Int):PG.bX:=((PG.aB b)[PG.LK b row]?).getD (.stop 0)
noncomputable def O3 (b:List PG.bX) (row:Int):List Int:=(((PG.aL b 0)[PG.LK b row]?).map (·.2.2)).getD []
noncomputable def gE (b:List PG.bX) (row:Int):Bool:=decide ((zx b row).wd=.ask)
noncomputable def cm (pr:PG.Prog) (row:Int) (vals:List Int) (f:Int):Option (Int×List Int)×Option Int:=mD pr.aA (zx pr.body row) (O3 pr.body row) vals f
theorem lO{b:List PG.bX}(pw:(PG.aB b).Pairwise (fun a b=>a.row<b.row))(i:Nat)(hi:i<(PG.aB b).length):zx b (PG.aB b)[i].row=(PG.aB b)[i]:=by
 unfold zx;rw[PG.EN pw i hi,zac hi];rfl
theorem zy{b:List PG.bX}(pw:(PG.aB b).Pairwise (fun a b=>a.row<b.row))(i:Nat)(hi:i<(PG.aB b).length)(hf:i<(PG.aL b 0).length):O3 b (PG.aB b)[i].row=(PG.aL b 0)[i].2.2:=by
 unfold O3;rw[PG.EN pw i hi,zac hf];rfl
structure wx(pr:PG.Prog)(row:Int)(vals:List Int):Prop where
 row:row=0\/∃i,∃hi:i<(PG.aB pr.body).length,(PG.aB pr.body)[i].row=row
 len:vals.length=pr.aA.length
 small:∀v∈vals,v.natAbs<=2 ^ 12
structure iA(pr:PG.Prog):Prop where
 ok:Dt pr
 dep:PG.eX pr.body<=3
 v7:(PG.bH pr.body).length<=1000
 own:PG.vU (·∈pr.aA.map (·.name)) (fun e=>PG.iV pr.aA e/\PG.mM e<=2) (·∈PG.Cs) pr.body
 size:∀b∈pr.aA,2<=b.size/\b.size<=10/\0<=b.first/\b.first<b.size
theorem EY{pr:PG.Prog}{w:Int}(h:w=0\/w=0\/∃t∈PG.aB pr.body,t.row=w):w=0\/∃i,∃hi:i<(PG.aB pr.body).length,(PG.aB pr.body)[i].row=w:=by
 rcases h with h |h |⟨t,ht,e⟩
 ·exact .inl h
 ·exact .inl h
 ·obtain⟨i,hi,e2⟩:=zcf.mp ht;exact .inr ⟨i,hi,by rw[e2];exact e⟩
theorem iA.first{pr:PG.Prog}(d:iA pr):wx pr (PG.bc pr.body 0) (pr.aA.map (·.first)):=by
 refine⟨EY (.inr ?_),by simp,fun v hv=>?_⟩
 ·rcases PG.nj pr.body 0 with e |e
  ·exact .inl e
  ·exact .inr e
 ·obtain⟨b,hb,rfl⟩:=zaF.mp hv;have:=d.size b hb;lia
theorem BC{pr:PG.Prog}(d:iA pr){x:W}(h:x∈pr.aA.map (·.name)):2<=gI pr.aA x/\gI pr.aA x<=10:=by
 obtain⟨hx,_⟩:=nG h;unfold gI;rw[zac hx];have:=d.size _ (zat hx);exact⟨this.1,this.2.1⟩
theorem wx.step{pr:PG.Prog}(d:iA pr){i:Nat}(hi:i<(PG.aB pr.body).length)(hf:i<(PG.aL pr.body 0).length){vals:List Int}{f:Int}(lv:vals.length=pr.aA.length)(sm:∀v∈vals,v.natAbs<=2 ^ 12){x:Int×List Int}{s:Option Int}
 (h:mD pr.aA (PG.aB pr.body)[i] (PG.aL pr.body 0)[i].2.2 vals f=(some x,s)):wx pr x.1 x.2:=by
 have Js:=PG.jx pr.body _ d.own (zat hi);obtain⟨w0,w1⟩:=PG.iy pr.body 0 _ (zat hf);have win:=PG.nu pr.body 0 _ (zat hf);obtain⟨_,_,ew⟩:=nF pr.body i hi;rw[ew] at w1;generalize (PG.aL pr.body 0)[i].2.2=ws at *;generalize (PG.aB pr.body)[i]=st at *;have r0:∀j,j<ws.length->ws.getD j 0=0\/∃i,∃hi:i<(PG.aB pr.body).length,(PG.aB pr.body)[i].row=ws.getD j 0:=fun j hj=>by
  rw[zan,zac hj];exact EY (win _ (zat hj))
 have set:∀(b:W) (z:Int),b∈pr.aA.map (·.name)->(uV pr.aA vals b (z%gI pr.aA b)).length=pr.aA.length/\∀v∈uV pr.aA vals b (z%gI pr.aA b),v.natAbs<=2 ^ 12:=fun b z hb=>by
  unfold uV;refine⟨by rw[zcH];exact lv,fun v hv=>?_⟩;rcases List.mem_or_eq_of_mem_set hv with hv |rfl
  ·exact sm v hv
  ·have:=BC d hb;have m1:=zaI z (b:=gI pr.aA b) (by lia);have m2:=zaE z (b:=gI pr.aA b) (by lia);lia
 have cs:iX pr.aA st ws vals=some x->(st.wd=.cB\/st.wd=.ifs\/st.wd=.jc)->wx pr x.1 x.2:=by
  intro e hw;unfold iX at e;split at e
  ·cases e
  ·split at e
   ·cases e;exact⟨r0 0 w0,lv,sm⟩
   ·split at e
    ·cases e
    ·rename_i nm;cases e;exact⟨r0 1 (w1 (hw.resolve_left nm)),lv,sm⟩
 have yv:∀(y:Int×List Int) (s':Option Int),(some y,s')=(some x,s)->wx pr y.1 y.2->wx pr x.1 x.2:=fun y s' e h=>by cases e;exact h
 cases st<;>rw[PG.rj] at Js
 ·exact yv _ _ h ⟨r0 0 w0,(set _ _ Js).1,(set _ _ Js).2⟩
 ·exact yv _ _ h ⟨r0 0 w0,(set _ _ Js.1).1,(set _ _ Js.1).2⟩
 ·exact yv _ _ h ⟨r0 0 w0,lv,sm⟩
 ·exact cs (congrArg Prod.fst h) (.inl rfl)
 ·exact yv _ _ h ⟨r0 0 w0,lv,sm⟩
 ·exact cs (congrArg Prod.fst h) (.inr (.inl rfl))
 ·exact cs (congrArg Prod.fst h) (.inr (.inr rfl))
noncomputable abbrev wz (pr:PG.Prog):=PG.vm (gE pr.body) (cm pr)
theorem Jt{pr:PG.Prog}{row f:Int}{vals left r:List Int}{s:Option Int}(ht:PG.take1 (gE pr.body row) left=some (f,r))(hs:cm pr row vals f=(none,s)):wz pr row vals left=(s,r,row,vals,some (.cB row)):=by
 show PG.vm _ _ _ _ _=_;unfold PG.vm;rw[ht];simp only[hs]
theorem Ju{pr:PG.Prog}{row f:Int}{vals left r:List Int}{s:Option Int}{x:Int×List Int}(ht:PG.take1 (gE pr.body row) left=some (f,r))(hs:cm pr row vals f=(some x,s)):wz pr row vals left=(s,r,x.1,x.2,PG.endAt x.1):=by
 show PG.vm _ _ _ _ _=_;unfold PG.vm;rw[ht];simp only[hs]
theorem L6{pr:PG.Prog}{row:Int}{vals left:List Int}(ht:PG.take1 (gE pr.body row) left=none):wz pr row vals left=(none,left,row,vals,some .out):=by
 show PG.vm _ _ _ _ _=_;unfold PG.vm;rw[ht]
section
variable(K:zaa)(CC CW:zc8)
noncomputable def Jv:Sp:=fun vs H Q _=>∃(wk dx ch fl:zc8) (pr:PG.Prog) (figs:List Int),vs=[.ref wk,.ref ch,.ref fl]/\H wk=some (.ins CW dx [])/\ql K CC H ch pr/\gM K H fl (figs.map V.int)/\
 ∀H',aT wk H H'->AL K CC CW H' wk ch fl pr figs 0 (PG.bc pr.body 0) (pr.aA.map (·.first)) (PG.endAt (PG.bc pr.body 0))->Q .b9 H'
noncomputable def Jw:Sp:=fun vs H Q _=>∃(wk ch fl:zc8) (pr:PG.Prog) (figs:List Int) (n:Nat) (row:Int) (vals:List Int),vs=[.ref wk]/\AL K CC CW H wk ch fl pr figs n row vals none/\
 ∀H',aT wk H H'->AL K CC CW H' wk ch fl pr figs n row vals (PG.endAt row)->Q .b9 H'
noncomputable def L7:Sp:=fun vs H Q _=>∃(wk ch fl:zc8) (pr:PG.Prog) (figs:List Int) (n:Nat) (vals:List Int) (e:Option PG.fY) (i:Nat) (hi:i<(PG.aB pr.body).length),vs=[.ref wk]/\Dt pr/\AL K CC CW H wk ch fl pr figs n (PG.aB pr.body)[i].row vals e/\
 Q (.bl (decide ((PG.aB pr.body)[i].wd=.ask))) H
noncomputable def O4:Sp:=fun vs H Q _=>∃(wk ch fl:zc8) (pr:PG.Prog) (figs:List Int) (n:Nat) (row:Int) (vals:List Int),vs=[.ref wk]/\iA pr/\AL K CC CW H wk ch fl pr figs n row vals none/\row≠0/\wx pr row vals/\n<=figs.length/\figs.length<=3000/\
 ∀H' n',aT wk H H'->n'<=figs.length->figs.drop n'=(wz pr row vals (figs.drop n)).2.1->AL K CC CW H' wk ch fl pr figs n' (wz pr row vals (figs.drop n)).2.2.1 (wz pr row vals (figs.drop n)).2.2.2.1 (wz pr row vals (figs.drop n)).2.2.2.2->
  wx pr (wz pr row vals (figs.drop n)).2.2.1 (wz pr row vals (figs.drop n)).2.2.2.1->Q (Bz (wz pr row vals (figs.drop n)).1) H'
end
theorem Dy{K:zaa}{D Dk S:zc8}{n:Nat}{te:TE}{Q:VK}{r:St}{H:Hp}{sc:List Int}{p:Nat}(ok:Int->Prop)(hl:n<=16000000)(hD:H D=none)(dk:eY K H Dk S sc p)
 (step:∀(i:Nat) x H2,i<n->aT Dk H H2->eY K H2 Dk S sc (p+i)->∀R:VK,(∀m H3,ok m->aT Dk H2 H3->eY K H3 Dk S sc (p+i+1)->R (.int m) H3)->te (some x::r) H2 R)
 (q:∀(ns:List Int) H2,ns.length=n->(∀m∈ns,ok m)->aT Dk H H2->eY K H2 Dk S sc (p+n)->H2 D=some (.lst (ns.map V.int))->Q (.ref D) H2) :
 pz (Ei 0 n) D (dI 0) vN te Q (none::r) (upd H D (.lst [])):=by
 have nD:D≠Dk:=fun z=>by rw[z,dk.a9] at hD;cases hD
 have nS:S≠D:=fun z=>by have:=dk.da;rw[z,hD] at this;cases this
 have YJ:∀ {H2:Hp} {j:Nat} {o:HO},eY K H2 Dk S sc j->eY K (upd H2 D o) Dk S sc j:=fun d=>⟨by rw[av nD.symm];exact d.a9,by rw[av nS];exact d.da,d.ne,d.len⟩
 have Sl:∀ {H2:Hp} {o:HO},aT Dk H H2->aT Dk H (upd H2 D o):=fun u b w n e=>by rw[av (aj e hD)];exact u b w n e
 refine⟨fun i m τ H2=>m=n-i/\i<=n/\(∃x,τ=x::r)/\aT Dk H H2/\eY K H2 Dk S sc (p+i)/\∃ns:List Int,H2 D=some (.lst (ns.map V.int))/\ns.length=i/\∀m∈ns,ok m,⟨n,by simp,zaU _,⟨none,rfl⟩,Sl (.of (au.refl _)),YJ dk,[],ah,rfl,fun m z=>by simp at z⟩,?_⟩
 rintro i m τ H2 ⟨rfl,hi,⟨x,rfl⟩,u2,d2,ns,h2,ly,p2⟩
 by_cases o8:i<n
 ·refine .inr ⟨o8,fun τ' H'=>(∃x,τ'=x::r)/\aT Dk H H'/\eY K H' Dk S sc (p+i+1)/\∃ns:List Int,H' D=some (.lst (ns.map V.int))/\ns.length=i+1/\∀m∈ns,ok m,fun τ' H' ⟨h1,h3,h4,h5⟩=>⟨n-(i+1),by lia,rfl,o8,h1,h3,h4,h5⟩,fun y H' hy=>?_⟩;obtain⟨rfl,rfl⟩:=hy;simp only[dI,za6,vN];rw[if_pos trivial];refine step i _ _ o8 u2 d2 _ fun v H3 hv u3 d3=>⟨ns.map V.int,u3 _ _ nD h2,?_,⟨_,rfl⟩,Sl (u2.trans u3),YJ d3,ns++[v],by rw[zaw];exact ah,by simp[ly],fun m hm=>?_⟩
  ·have:zdg=2 ^ 24:=rfl;rw[zad];lia
  ·rcases zao.mp hm with hm |hm
   ·exact p2 m hm
   ·rw[zag.mp hm];exact hv
 ·have e:i=n:=by lia
  subst e;exact .inl ⟨zah _,q ns H2 ly p2 u2 d2 h2⟩
section
variable{K:zaa}{H H1:Hp}{p:zc8}{vs:List V}{ds:List Dp}
theorem gT(e:upd H p (.tup vs)=H1)(hp:H p=none):au H H1:=e▸au.new hp _
theorem gL(e:upd H p (.lst vs)=H1)(hp:H p=none):au H H1:=e▸au.new hp _
theorem QK(e:upd H p (.tup vs)=H1)(hp:H p=none)(hr:aI K H ds vs):Rep K H1 (.tup ds) (.ref p):=e▸Rep.new hp hr
theorem Ur(e:upd H p (.lst vs)=H1):H1 p=some (.lst vs):=e▸ah
end
theorem rS{K:zaa}{H:Hp}{x:Str}:Rep K H (.str x) (.str x):=Rep.bY.mpr rfl
theorem Sm{K:zaa}{H:Hp}{x:Int}:Rep K H (.int x) (.int x):=Rep.bF.mpr rfl
section
variable{prog:zdk}{w:zda}
noncomputable def tP (prog:zdk) (w:zda) (h:Heap) (x:Key×List Key) (a:zc8):Prop:=∃(o:Obj) (n:Nat) (u:zc9) (b:zc8),h.get? a=some o/\o.cls=.type "tuple"/\o.data=.seq #[u,.ref b] n/\qK x.1 u=true/\IsTupleKey (bO prog w) h x.2 b
theorem tP.ty{s:zdi}{x:Key×List Key}{a:zc8}(h:tP prog w s.heap x a):s.TypeIs (.ref a) "tuple":=let ⟨o,_,_,_,e,c,_⟩:=h;⟨o,e,c⟩
noncomputable def Jx (w:zda) (prog:zdk) (x:Key×List Key):Int:=reduceHash (Builtin.Tuple.tupleHashOf [Lg w x.1,tupleKeyHash (bO prog w) x.2])
theorem tP.one{h:Heap}{a:zc8}{x y:Key×List Key}(hx:tP prog w h x a)(hy:tP prog w h y a):x=y:=by
 obtain⟨o,n,u,b,e,_,d,i,t⟩:=hx;obtain⟨o',n',u',b',e',_,d',i',t'⟩:=hy;rw[e] at e';cases e';rw[d] at d'
 injection d' with d1 _
 have d1:=congrArg Array.toList d1;simp only[zc5.injEq,Value.ref.injEq,and_true] at d1;obtain⟨rfl,rfl⟩:=d1;exact Prod.ext ((bO prog w).inj _ _ _ i i') (t.inj t')
theorem tP.kp{h h':Heap}{x:Key×List Key}{a d:zc8}{o:Obj}{es ep}(hx:tP prog w h x a)(ho:h.get? d=some o)(hd:o.data=.dict es ep)(hs:Heap.SameBut d h h'):tP prog w h' x a:=by
 obtain⟨o',n,u,b,e,c,d',i,t⟩:=hx;have ne:a≠d:=fun z=>by
  rw[z,ho] at e;cases e;rw[hd] at d';cases d'
 exact⟨o',n,u,b,(hs.2 a ne).trans e,c,d',i,t.keeps ho hd hs⟩
variable{A:zdj}{E:zc9->zdi->Prop}{s:zdi}
theorem L8{x:Key×List Key}{a:zc8}{Q:Int->zdi->Prop}(hu:A.units+8<cLine)(hk:tP prog w s.heap x a)(h:Q (Jx w prog x) {s with toks:=s.toks+(x.2.length+3)}) :
 wpAny (model prog w) A (pyHash (.ref a)) Q E s:=by
 have ty:=hk.ty;obtain⟨o,n,u,b,e,c,d,i,t⟩:=hk;refine zc3 (T:="tuple") ty F.slot_tuple_hash F.entry_tuple_hash (F.args_tuple_hash_1 _) (beq_builtin_none _) (.inr (by lia)) ((show wpAny _ _ (Builtin.Tuple.tupleItemsOf (.ref a) >>= _) _ _ s from ?_));refine zdb (wpAny_tupleItemsOf e d (zdb ?_));rw[<- zcp];show wpAny _ _ (forIn [u,Value.ref b] #[] _) _ _ s;rw[za2];refine zdb (zdb ((bO prog w).pyHash i (zdc ?_)));show wpAny _ _ (forIn [Value.ref b] _ _) _ _ _;rw[za2];refine zdb (zdb (wpAny_pyHash_tuple (ks:=x.2) (by show A.units+1<cLine;lia) (show IsTupleKey (bO prog w) _ x.2 b from t) (zdc ?_)));show wpAny _ _ (forIn ([]:List zc9) _ _) _ _ _;rw[zbC];refine zdc ?_;show wpAny _ _ (retInt (Builtin.Tuple.tupleHashOf [Lg w x.1,tupleKeyHash (bO prog w) x.2])) _ _ _;refine zdb (wpAny_mkInt (zdc ⟨_,_,rfl,?_⟩));rw[show s.toks+(x.2.length+3)=s.toks+1+(x.2.length+1)+1 by lia] at h;exact h
theorem Sn{x y:Key×List Key}{a b:zc8}{Q:Bool->zdi->Prop}(hu:A.units+8<cLine)(hx:tP prog w s.heap x a)(hy:tP prog w s.heap y b)(h:Q (decide (x=y)) s):wpAny (model prog w) A (eqBool (.ref a) (.ref b)) Q E s:=by
 unfold eqBool
 try with_reducible refine zdd ?_
 show wpAny _ _ (if (Value.ref a==Value.ref b)=true then _ else _) Q E s;by_cases Nt:(Value.ref a==Value.ref b)=true
 ·rw[if_pos Nt];have e:a=b:=by have:=eq_of_beq Nt;injection this
  subst e;cases hx.one hy;exact zdb (wpAny_rule (zdc (by simpa using h)))
 ·rw[if_neg Nt];refine zdb (wpAny_richCompare_same_room (op:=.Eq) hx.ty hy.ty F.slot_tuple_eq (wpAny_call_entry F.slot_tuple_eq hx.ty F.entry_tuple_eq ?_ (F.args_tuple_eq_2 _ _)) (by lia));have hTb:=hy.ty;obtain⟨o1,n1,u1,b1,e1,c1,d1,i1,t1⟩:=hx;obtain⟨o2,n2,u2,b2,e2,c2,d2,i2,t2⟩:=hy;show wpAny _ _ (isInstance (.ref b) (.type "tuple") >>= _) _ _ s;refine zdb (wpAny_isInstance hTb isSubtype_tuple_tuple ?_);simp only[zbB,zaz,if_false];refine zdb (wpAny_tupleItemsOf e1 d1 (zdb (wpAny_tupleItemsOf e2 d2 (zdb ?_))));show wpAny _ _ (forIn [(u1,u2),(Value.ref b1,Value.ref b2)] _ _) _ _ s;have fin:∀c:Bool,c=decide (x=y)->∃v,(Fin.done (Flow.ret (Value.bool c)))=Fin.done (Flow.ret v)/\v≠Value.notImplemented/\wpAny (model prog w) A (truthOfDropped v) Q E s:=fun c hc=>⟨_,rfl,(fun z=>nomatch z),wpAny_truthy_bool (hc▸h)⟩
  rw[za2];refine zdb (zdb ((bO prog w).eqBool (a:=x.1) (b:=y.1) i1 i2 ?_));by_cases k1:x.1=y.1
  ·rw[decide_eq_true k1];simp only[zbB,zaz,if_false];refine zdc ?_;show wpAny _ _ (forIn [(Value.ref b1,Value.ref b2)] _ _) _ _ s;rw[za2];refine zdb (zdb (wpAny_eqBool_tuple (x:=x.2) (y:=y.2) (by show A.units+1<cLine;lia) t1 t2 ?_));by_cases k2:x.2=y.2
   ·rw[decide_eq_true k2];simp only[zbB,zaz,if_false];refine zdc ?_;show wpAny _ _ (forIn ([]:List (zc9×zc9)) _ _) _ _ s;rw[zbC];exact zdc (zdc (fin true (decide_eq_true (Prod.ext k1 k2)).symm))
   ·rw[decide_eq_false k2];simp only[Bool.not_false,if_true];exact zdb (zdc (zdc (zdc (zdc (fin false (decide_eq_false fun z=>k2 (congrArg Prod.snd z)).symm)))))
  ·rw[decide_eq_false k1];simp only[Bool.not_false,if_true];exact zdb (zdc (zdc (zdc (zdc (fin false (decide_eq_false fun z=>k1 (congrArg Prod.fst z)).symm)))))
theorem Dz(m:Nat){l:List Key}{b:zc8}{Q:Bool->zdi->Prop}(hk:IsTupleKey (bO prog w) s.heap l b)(h:Q true s):wpAny (model prog w) A (eqIsQuiet (m+1) (.ref b)) Q E s:=by
 have ty:=hk.typeIs;obtain⟨o,bj,n,e,_,d,hi⟩:=hk;unfold eqIsQuiet;refine zdb (wpAny_specialOf ty F.slot_tuple_eq.lookup ((show wpAny _ _ (isInstance (.ref b) (.type "tuple") >>= _) _ _ s from ?_)));refine zdb (wpAny_isInstance ty isSubtype_tuple_tuple ?_);simp only[zbB,zaz,if_false];refine zdb (wpAny_seqItems e d (zdb ((show wpAny _ _ (forIn bj _ _) _ _ s from ?_))));rw[<- zcp];have all:=hi.byValue;generalize bj.toList=vs at all;refine wpAny_forIn_list _ (fun r (c:Option Bool×Unit) s'=>c.1=none/\s'=s/\∀v∈r,carriedByValue v=true) _ (fun v r c s' hv=>?_) (fun c s' hv=>?_) _ _ ⟨rfl,rfl,all⟩
 ·obtain⟨_,rfl,hv⟩:=hv;rw[eqIsQuiet_byValue _ (hv v (zak ..))];refine zdb (zdc ?_);simp only[zbB,zaz,if_false];exact zdc ⟨rfl,rfl,fun z hz=>hv z (zai _ hz)⟩
 ·obtain⟨c1,c2⟩:=c;obtain⟨hc,rfl,_⟩:=hv;cases (show c1=none from hc);exact zdc h
theorem Jy{x:Key×List Key}{a:zc8}{Q:Bool->zdi->Prop}(hk:tP prog w s.heap x a)(h:Q true s):wpAny (model prog w) A (eqIsQuiet 8 (.ref a)) Q E s:=by
 have ty:=hk.ty;obtain⟨o,n,u,b,e,c,d,i,t⟩:=hk;unfold eqIsQuiet;refine zdb (wpAny_specialOf ty F.slot_tuple_eq.lookup ((show wpAny _ _ (isInstance (.ref a) (.type "tuple") >>= _) _ _ s from ?_)));refine zdb (wpAny_isInstance ty isSubtype_tuple_tuple ?_);simp only[zbB,zaz,if_false];refine zdb (wpAny_seqItems e d (zdb ?_));have key:∀ {z:zc9} {k:Key} {m:Nat},qK k z=true->eqIsQuiet m z=pure true:=fun {z k m} hz=>eqIsQuiet_byValue m ((bO prog w).byValue k z hz);show wpAny _ _ (forIn #[u,Value.ref b] _ _) _ _ s;rw[<- zcp];show wpAny _ _ (forIn [u,Value.ref b] _ _) _ _ s;rw[za2,key i];refine zdb (zdb (zdc ?_));simp only[zbB,zaz,if_false];refine zdc ?_;show wpAny _ _ (forIn [Value.ref b] _ _) _ _ s;rw[za2];refine zdb (zdb (Dz 6 t ?_));simp only[zbB,zaz,if_false];refine zdc ?_;show wpAny _ _ (forIn ([]:List zc9) _ _) _ _ s;rw[zbC];exact zdc (zdc h)
end
noncomputable def O5 (prog:zdk) (w:zda):HeapKind prog w (Key×List Key) where
 is:=tP prog w
 hash:=Jx w prog
 draws:=fun x=>x.2.length+3
 room:=fun A=>A.units+8<cLine
 inj:=fun hx hy=>hx.one hy
 keeps:=fun hx ho hd hs=>hx.kp ho hd hs
 pyHash:=fun hu hk h=>L8 hu hk h
 eqBool:=fun hu hx hy h=>Sn hu hx hy h
 quiet:=fun hk h=>Jy hk h
noncomputable def tN (b:Bool):Int:=if b then 1 else 0
noncomputable def Ma (k:Key) (v:zc9):Bool:=match v with
 |.bool b=>decide (k=.inl (tN b))
 |v=>qK k v
theorem eA{k:Key}{v:zc9}(h:Ma k v=true):(∃i t,k=.inl i/\v=.int i t)\/(∃x t,k=.inr x/\v=.str x t)\/∃b,k=.inl (tN b)/\v=.bool b:=by
 unfold Ma at h;split at h
 ·rename_i b;exact .inr (.inr ⟨b,of_decide_eq_true h,rfl⟩)
 ·rcases cU h with z |z
  ·exact .inl z
  ·exact .inr (.inl z)
theorem Jz{a b:Bool}:(tN a==tN b)=(a==b):=by cases a<;>cases b<;>rfl
noncomputable def So (prog:zdk) (w:zda):PySem.KeyKind prog w Key where
 is:=Ma
 hash:=Lg w
 inj:=fun v a b ha hb=>by
  rcases eA ha with ⟨i,t,rfl,rfl⟩ |⟨x,t,rfl,rfl⟩ |⟨c,rfl,rfl⟩<;>rcases eA hb with ⟨j,u,rfl,e⟩ |⟨y,u,rfl,e⟩ |⟨d,rfl,e⟩<;>cases e<;>rfl
 byValue:=fun k v h=>by
  rcases eA h with ⟨i,t,rfl,rfl⟩ |⟨x,t,rfl,rfl⟩ |⟨c,rfl,rfl⟩<;>rfl
 pyHash:=fun hv h=>by
  rcases eA hv with ⟨i,t,rfl,rfl⟩ |⟨x,t,rfl,rfl⟩ |⟨c,rfl,rfl⟩
  ·exact wpAny_pyHash_int h
  ·exact wpAny_pyHash_str h
  ·refine zc3 (T:="bool") rfl F.slot_bool_hash entry_int_hash (args_int_hash _) (beq_builtin_none _) (.inl rfl) ?_;cases c
   ·exact(show wpAny _ _ (do ret (<- mkInt 0)) _ _ _ from zdb (wpAny_mkInt (zdc ⟨_,_,rfl,h⟩)))
   ·exact(show wpAny _ _ (do ret (<- mkInt 1)) _ _ _ from zdb (wpAny_mkInt (zdc ⟨_,_,rfl,h⟩)))
 eqBool:=fun hu hv h=>by
  rcases eA hu with ⟨i,t,rfl,rfl⟩ |⟨x,t,rfl,rfl⟩ |⟨c,rfl,rfl⟩
  ·rcases eA hv with ⟨j,u,rfl,rfl⟩ |⟨y,u,rfl,rfl⟩ |⟨d,rfl,rfl⟩
   ·rw[vA] at h;exact wpAny_eqBool_int h
   ·rw[CA] at h;exact SeqAt.EqAt.int_str i t y u _ _ _ _ h
   ·rw[vA] at h;exact SeqAt.EqAt.int_bool i t d _ _ _ _ h
  ·rcases eA hv with ⟨j,u,rfl,rfl⟩ |⟨y,u,rfl,rfl⟩ |⟨d,rfl,rfl⟩
   ·rw[CB] at h;exact SeqAt.EqAt.str_int x t j u _ _ _ _ h
   ·rw[Hf] at h;exact wpAny_eqBool_str h
   ·rw[CB] at h;exact SeqAt.EqAt.str_bool x t d _ _ _ _ h
  ·rcases eA hv with ⟨j,u,rfl,rfl⟩ |⟨y,u,rfl,rfl⟩ |⟨d,rfl,rfl⟩
   ·rw[vA] at h;exact SeqAt.EqAt.bool_int c j u _ _ _ _ h
   ·rw[CA] at h;exact SeqAt.EqAt.bool_str c y u _ _ _ _ h
   ·rw[vA,Jz] at h;exact SeqAt.EqAt.bool_bool c d _ _ _ _ h
 «strs»:=fun k x t v h=>by
  rcases eA h with ⟨i,u,rfl,e⟩ |⟨y,u,rfl,e⟩ |⟨d,rfl,e⟩
  ·cases e
  ·cases e;cases v<;>rfl
  ·cases e
structure KH(κ:Type)[DecidableEq κ] where
 knd:∀(P:zdk) (w:zda),HeapKind P w κ
 on:zaa->Hp->κ->zc8->Prop
 up:∀ {K:zaa} {H H':Hp} {x:κ} {a:zc8},(∀b ys,cu K H b ys->cu K H' b ys)->on K H x a->on K H' x a
 of:∀ {X:Cx} {pins:List (zc8×Obj)} {σ:St} {H:Hp} {s:zdi} {x:κ} {a:zc8},Inv X pins σ H s->on X.K H x a->(knd X.prog X.w).is s.heap x a
 room:∀ {P:zdk} {w:zda} {A:zdj},A.units+16<cLine->(knd P w).room A.in1
section
variable{κ:Type}[DecidableEq κ](J:KH κ)
noncomputable def fq (P:zdk) (w:zda) (a:zc8) (xs:List (κ×zc8×zc9)):Heap->Prop:=fun h=>∃o es ep,h.get? a=some o/\o.ExactDict/\o.data=.dict es ep/\es.toList=xs.map (entryOfKey (J.knd P w))
noncomputable abbrev KS (K:zaa) (H:Hp):List (κ×V)->List (κ×zc8×zc9)->Prop:=Paired fun p q=>p.1=q.1/\J.on K H p.1 q.2.1/\RelV p.2 q.2.2
structure DS(P:zdk)(w:zda)(K:zaa)(H:Hp)(a:zc8)(aC:List (κ×V)):Prop where
 len:aC.length<=zdg
 sys:(a==sysModules)=false
 at_:∃xs,H a=some (.ext (fq J P w a xs))/\KS J K H aC xs/\(xs.map (·.1)).Nodup
variable{J}
section
variable{K:zaa}{H H':Hp}{aC:List (κ×V)}{xs:List (κ×zc8×zc9)}
theorem KS.val(r:KS J K H aC xs)(k:κ):mK (b8 aC k) ((atKey xs k).map (·.2)):=by
 induction r with
 |nil=>exact True.intro
 |@cons p q ps qs h t ih=>
  by_cases e:p.1=k
  ·rw[cD e,show atKey (q::qs) k=some q.2 by simp[atKey,h.1.symm.trans e]];exact h.2.2
  ·have e':¬q.1=k:=fun z=>e (h.1.trans z);rw[cE e,show atKey (q::qs) k=atKey qs k by simp[atKey,e']];exact ih
theorem KS.put(r:KS J K H aC xs)(k:κ){b:zc8}{y:V}{u:zc9}(hb:J.on K H k b)(ry:RelV y u):KS J K H (putK aC k y) (storedH xs k b u):=by
 have e:(aC.any fun kv=>decide (kv.1=k))=(atKey xs k).isSome:=by rw[jM,(r.val k).oy,zb4]
 unfold putK storedH;rw[e];by_cases q:(atKey xs k).isSome=true
 ·rw[if_pos q,if_pos q];clear e q
  induction r with
  |nil=>exact .nil
  |@cons p q ps qs h t ih=>
   refine .cons ?_ ih;dsimp only;unfold putAt;by_cases e:p.1=k
   ·rw[if_pos e];rw[if_pos (h.1.symm.trans e)];exact⟨h.1,h.2.1,ry⟩
   ·rw[if_neg e];rw[if_neg fun z=>e (h.1.trans z)];exact h
 ·rw[if_neg q,if_neg q];exact Paired.snoc r ⟨rfl,hb,ry⟩
theorem KS.up(r:KS J K H aC xs)(t:∀b ys,cu K H b ys->cu K H' b ys):KS J K H' aC xs:=Paired.AS r fun _ _ z=>⟨z.1,J.up t z.2.1,z.2.2⟩
end
section
variable{X:Cx}{pins:List (zc8×Obj)}{σ:St}{H:Hp}{s:zdi}{a b:zc8}{v:V}{u r:zc9}{A:zdj}{E:zc9->zdi->Prop}{aC:List (κ×V)}{k:κ}
theorem wA(I:Inv X pins σ H s){xs:List (κ×zc8×zc9)}(e:H a=some (.ext (fq J X.prog X.w a xs)))(r:KS J X.K H aC xs)(nd:(xs.map (·.1)).Nodup):s.heap.DictOfH (J.knd X.prog X.w) a xs:=by
 obtain⟨⟨o,es,ep,h1,h2,h3,h4⟩, -⟩:=(show eF X.prog X.w H s.heap a (.ext (fq J X.prog X.w a xs)) from I.cL a _ e)
 refine⟨o,es,ep,h1,h2,h3,h4,?_,nd⟩;clear h4 nd e
 induction r with
 |nil=>intro x hx;cases hx
 |@cons p q ps qs hq t ih=>
  intro x hx;rcases zae.mp hx with rfl |hx
  ·exact J.of I (hq.1▸hq.2.1)
  ·exact ih x hx
theorem Sq{Q:zc9->zdi->Prop}(hu:A.units+16<cLine)(I:Inv X pins σ H s)(d:DS J X.prog X.w X.K H a aC)(hk:J.on X.K H k b)(h:∀s',Inv X pins σ H s'->Q (.bool (b8 aC k).isSome) s') :
 wpAny (model X.prog X.w) A (compareOp .In (.ref b) (.ref a)) Q E s:=by
 obtain⟨z,sy,xs,e,r,nd⟩:=d;refine wpAny_in_heap (knd:=J.knd X.prog X.w) (J.room hu) (J.of I hk) sy (wA I e r nd) ?_;have q:=(r.val k).oy;rw[zb4] at q;rw[<- q];exact h _ (I.tok _)
theorem JA{Q:zc9->zdi->Prop}(hu:A.units+16<cLine)(I:Inv X pins σ H s)(d:DS J X.prog X.w X.K H a aC)(hk:J.on X.K H k b)(h:∀s',Inv X pins σ H s'->Q (.bool (!(b8 aC k).isSome)) s') :
 wpAny (model X.prog X.w) A (compareOp .NotIn (.ref b) (.ref a)) Q E s:=by
 obtain⟨z,sy,xs,e,r,nd⟩:=d;refine PyProof.Rows.wpAny_notIn_heap (knd:=J.knd X.prog X.w) (J.room hu) (J.of I hk) sy (wA I e r nd) ?_;have q:=(r.val k).oy;rw[zb4] at q;rw[<- q];exact h _ (I.tok _)
theorem O6{Q:zc9->zdi->Prop}(hu:A.units+16<cLine)(I:Inv X pins σ H s)(d:DS J X.prog X.w X.K H a aC)(hk:J.on X.K H k b)(l:b8 aC k=some v)(h:∀w' s',Inv X pins σ H s'->RelV v w'->Q w' s') :
 wpAny (model X.prog X.w) A (getItem (.ref a) (.ref b)) Q E s:=by
 obtain⟨z,sy,xs,e,r,nd⟩:=d;obtain⟨w',hw,FO⟩:=mK.some_of (v:=v) (o:=(atKey xs k).map (·.2)) (by rw[<- l];exact r.val k);obtain⟨p,hp,C0⟩:=zbm.mp hw;refine wpAny_getItem_heap (knd:=J.knd X.prog X.w) (J.room hu) (J.of I hk) (wA I e r nd) hp ?_;rw[C0];exact h w' _ (I.tok _) FO
theorem cu.ext{K:zaa}{H:Hp}{a c:zc8}{φ:Heap->Prop}{o:HO}{ys:List V}(h:cu K H c ys)(e:H a=some (.ext φ)):cu K (upd H a o) c ys:=by
 rcases h with (q |⟨o',q⟩) |q
 ·exact .inl (.inl (by rw[av (bN q e (by intro z;cases z))];exact q))
 ·exact .inl (.inr ⟨o',by rw[av (bN q e (by intro z;cases z))];exact q⟩)
 ·exact .inr q
theorem O7{Q:Unit->zdi->Prop}(hu:A.units+16<cLine)(I:Inv X pins σ H s)(d:DS J X.prog X.w X.K H a aC)(hk:J.on X.K H k b)(l:aC.length<zdg)(rv:RelV v r)
 (h:∀s' H',Inv X pins σ H' s'->DS J X.prog X.w X.K H' a (putK aC k v)->(∃φ,H'=upd H a (.ext φ))->Q () s') :
 wpAny (model X.prog X.w) A (setItem (.ref a) (.ref b) r) Q E s:=by
 obtain⟨z,sy,xs,e,rel,nd⟩:=d;have hz:xs.length<=zdg:=by rw[<- Paired.length rel];exact z
 have hl:(putK aC k v).length<=zdg:=by have:=fc aC k v;lia
 refine wpAny_setItem_heap (knd:=J.knd X.prog X.w) (hsz:=hz) (J.room hu) (J.of I hk) (wA I e rel nd) fun h' Nf hs=>?_;obtain⟨q,es,ep,hq,h2,h3,h4,_,h5⟩:=Nf;have ph:fq J X.prog X.w a (storedH xs k b r) h':=⟨q,es,ep,hq,h2,h3,h4⟩
 refine h _ (upd H a (.ext (fq J X.prog X.w a (storedH xs k b r)))) (qX I (by rw[e];exact True.intro) hs ⟨q,hq⟩ ⟨ph,⟨q,hq⟩,fun g1 g2 p1 kp=>?_⟩) ⟨hl,sy,_,ah,(rel.put k hk rv).up fun c ys ec=>ec.ext e,h5⟩ ⟨_,rfl⟩;obtain⟨o,es,ep,h1,h2,h3,h4⟩:=p1;exact⟨o,es,ep,kp o h1,h2,h3,h4⟩
end
theorem DS.Sr{P:zdk}{w:zda}{K:zaa}{H H':Hp}{a:zc8}{aC:List (κ×V)}(d:DS J P w K H a aC)(e:∀o,H a=some o->H' a=some o)(t:∀b ys,cu K H b ys->cu K H' b ys):DS J P w K H' a aC:=⟨d.len,d.sys,let ⟨xs,h,r,nd⟩:=d.at_;⟨xs,e _ h,r.up t,nd⟩⟩
theorem DS.mono{P:zdk}{w:zda}{K:zaa}{H H':Hp}{a:zc8}{aC:List (κ×V)}(d:DS J P w K H a aC)(s:au H H'):DS J P w K H' a aC:=d.Sr (fun o h=>s _ _ h) fun b ys q=>s.cI q
section
variable{X:Cx}{o i value:Expr}{pos pos':Pos}{td ty tv:TE}
noncomputable def DA (J:KH κ) (P:zdk) (w:zda):TE:=fun _ H Q=>∀p,H p=none->(p==sysModules)=false->Q (.ref p) (upd H p (.ext (fq J P w p [])))
theorem wB{P:zdk}{w:zda}{K:zaa}{H:Hp}{p:zc8}(h:(p==sysModules)=false):DS J P w K (upd H p (.ext (fq J P w p []))) p []:=⟨zaU _,h,[],ah,.nil,zbR⟩
theorem nH:PE X (.Dict [] [] pos) (DA J X.prog X.w):=fun pins s σ H Q I h=>by
 have big:=I.big;refine wpAny_Dict_empty ⟨.ref s.heap.objs.size,_,I.laid (a:=s.heap.objs.size) (o:=.ext (fq J X.prog X.w s.heap.objs.size [])) (t':=s.toks) (fun _ _ q=>Heap.get?_push_of_some _ q) (zah _) ⟨⟨_, #[],0,Heap.get?_push_size _ rfl,⟨rfl,rfl,rfl⟩,rfl,rfl⟩,⟨_,Heap.get?_push_size _ rfl⟩,fun g1 g2 p1 kp=>?_⟩,rfl,h _ (I.cL.fresh (zah _)) (beq_eq_false_iff_ne.mpr (Ne.symm (zaD big)))⟩;obtain⟨ob,es,ep,h1,h2,h3,h4⟩:=p1;exact⟨ob,es,ep,kp ob h1,h2,h3,h4⟩
theorem DB(hu:X.A.units+16<cLine):qG X (compareOp .In) (fun x y H Q=>∃(a b:zc8) (aC:List (κ×V)) (k:κ),x=.ref b/\y=.ref a/\DS J X.prog X.w X.K H a aC/\J.on X.K H k b/\Q (.bl (b8 aC k).isSome) H):=by
 intro pins s σ H x y v u Q I rx ry h;obtain⟨a,b,aC,k,rfl,rfl,d,hk,q⟩:=h;cases rx;cases ry;exact Sq hu I d hk fun s' I'=>⟨.bl (b8 aC k).isSome,H,I',rfl,q⟩
theorem Gr(hu:X.A.units+16<cLine):qG X (compareOp .NotIn) (fun x y H Q=>∃(a b:zc8) (aC:List (κ×V)) (k:κ),x=.ref b/\y=.ref a/\DS J X.prog X.w X.K H a aC/\J.on X.K H k b/\Q (.bl (!(b8 aC k).isSome)) H):=by
 intro pins s σ H x y v u Q I rx ry h;obtain⟨a,b,aC,k,rfl,rfl,d,hk,q⟩:=h;cases rx;cases ry;exact JA hu I d hk fun s' I'=>⟨.bl (!(b8 aC k).isSome),H,I',rfl,q⟩
noncomputable def DC (J:KH κ) (P:zdk) (w:zda) (K:zaa) (td ty tv:TE):TS:=fun D σ H=>tv σ H fun v H1=>td σ H1 fun x H2=>ty σ H2 fun y H3=>∃(a b:zc8) (aC:List (κ×V)) (k:κ),x=.ref a/\y=.ref b/\DS J P w K H3 a aC/\J.on K H3 k b/\aC.length<zdg/\
 ∀H4,DS J P w K H4 a (putK aC k v)->(∃φ,H4=upd H3 a (.ext φ))->D.nx σ H4
theorem wC(hu:X.A.units+16<cLine)(ho:PE X o td)(hi:PE X i ty)(hv:PE X value tv)(hs:swapsWith value (some (.Subscript o i pos')) pos.line X.env=pure false):PS X (.Assign [.Subscript o i pos'] value pos) (DC J X.prog X.w X.K td ty tv):=by
 intro pins s σ H D I h;refine wpAny_Assign_Subscript (eD (hv pins s σ H _ I h) fun r s1 zqz=>?_) hs;obtain⟨v,H1,I1,rv,q1⟩:=zqz;refine eD (ho pins s1 σ H1 _ I1 q1) fun u s2 zqz=>?_;obtain⟨x,H2,I2,rx,q2⟩:=zqz;refine eD (hi pins s2 σ H2 _ I2 q2) fun iv s3 zqz=>?_;obtain⟨y,H3,I3,ry,a,b,aC,k,ex,ey,d,hk,l,q3⟩:=zqz;subst ex ey;cases rx;cases ry;exact O7 hu I3 d hk l rv fun s4 H4 I4 d4 e4=>⟨σ,H4,I4,q3 H4 d4 e4⟩
noncomputable def DD (J:KH κ) (P:zdk) (w:zda) (K:zaa) (td ty:TE):TE:=fun σ H Q=>td σ H fun x H1=>ty σ H1 fun y H2=>∃(a b:zc8) (aC:List (κ×V)) (k:κ) (v:V),x=.ref a/\y=.ref b/\DS J P w K H2 a aC/\J.on K H2 k b/\b8 aC k=some v/\Q v H2
theorem JB(hu:X.A.units+16<cLine)(ho:PE X o td)(hi:PE X i ty)(hs:OJ i):PE X (.Subscript o i pos) (DD J X.prog X.w X.K td ty):=by
 intro pins s σ H Q I h;refine Eu PySem.F.slot_dict_getitem.lookup hs (eD (ho pins s σ H _ I h) fun u s1 zqz=>?_);obtain⟨x,H1,I1,rx,q1⟩:=zqz;refine eD (hi pins s1 σ H1 _ I1 q1) fun iv s2 zqz=>?_;obtain⟨y,H2,I2,ry,a,b,aC,k,v,ex,ey,d,hk,l,q2⟩:=zqz;subst ex ey;cases rx;cases ry;have dd:=d;obtain⟨z,sy,xs,e,r,nd⟩:=dd;exact⟨(wA I2 e r nd).typeIs,O6 hu I2 d hk l fun w' s3 I3 FO=>⟨v,H2,I3,FO,q2⟩⟩
end
end
noncomputable abbrev qo:=Key×List Key
noncomputable def SkH (K:zaa) (H:Hp) (x:qo) (a:zc8):Prop:=∃b,cu K H a [kV x.1,.ref b]/\cu K H b (x.2.map kV)
noncomputable def qI:KH qo where
 knd:=O5
 on:=SkH
 up:=fun t ⟨b,h1,h2⟩=>⟨b,t _ _ h1,t _ _ h2⟩
 of:=fun {X pins σ H s x a} I ⟨c,h1,h2⟩=>by
  obtain⟨i1,r1,⟨o1,e1,c1,n1,d1⟩,_⟩:=I.tuple h1;obtain⟨i2,r2,⟨o2,e2,c2,n2,d2⟩,_⟩:=I.tuple h2;obtain⟨u1,u2,rfl,q1,q2⟩:=vals2 r1;cases (show u2=Value.ref c from q2);exact⟨o1,n1,u1,c,e1,c1,d1,ye (P:=X.prog) (w:=X.w) q1,o2,i2.toArray,n2,e2,c2,d2,by simpa using tD r2⟩
 room:=fun {P w A} h=>by show A.units+1+8<cLine;lia
noncomputable def Us (k:Key) (v:V):Prop:=v=kV k\/∃b,v=.bl b/\k=.inl (tN b)
theorem Mb{k:Key}{v:V}{u:zc9}(h:Us k v)(r:RelV v u):Ma k u=true:=by
 rcases h with rfl |⟨b,rfl,rfl⟩
 ·cases k with
  |inl i=>obtain⟨t,rfl⟩:=(show ∃t,u=Value.int i t from r);exact xW i t
  |inr x=>obtain⟨t,rfl⟩:=(show ∃t,u=Value.str x t from r);exact xX x t
 ·cases (show u=Value.bool b from r);exact decide_eq_true rfl
theorem JC{P:zdk}{w:zda}:∀ {ks:List Key} {vs:List V} {us:List zc9},Paired Us ks vs->Vals vs us->ItemsAre (So P w) ks us
 |_,_,_,.nil,r=>by cases r;exact .nil
 |_,_,_,.cons h t,r=>by
  cases r with
  |cons r1 r2=>exact .cons (Mb h r1) (JC t r2)
noncomputable def uW:KH (List Key) where
 knd:=fun P w=>tupleKind (So P w)
 on:=fun K H x a=>∃vs,cu K H a vs/\Paired Us x vs
 up:=fun t ⟨vs,h1,h2⟩=>⟨vs,t _ _ h1,h2⟩
 of:=fun {X pins σ H s x a} I ⟨vs,h1,h2⟩=>by
  obtain⟨i1,r1,⟨o1,e1,c1,n1,d1⟩,_⟩:=I.tuple h1;exact⟨o1,i1.toArray,n1,e1,c1,d1,by simpa using JC h2 r1⟩
 room:=fun {P w A} h=>by show A.units+1<cLine;lia
noncomputable def rF (h:Heap) (d:zc8) (es:Array DictEntry) (ep:Nat):Prop:=∃o,h.get? d=some o/\o.ExactDict/\o.data=.dict es ep
section
variable{prog:zdk}{w:zda}{A:zdj}{E:zc9->zdi->Prop}{s:zdi}{d it:zc8}{es:Array DictEntry}{ep i:Nat}
theorem rF.ty(x:rF s.heap d es ep):s.TypeIs (.ref d) "dict":=let ⟨o,g,c,_⟩:=x;⟨o,g,c.1⟩
end
end L2
namespace PG
section
variable{β:Type}(ask:Int->Bool)(step:Int->List Int->Int->Option (Int×List Int)×Option Int)(tg:Int×List Int->List β)
noncomputable abbrev bM:=Int×List Int
noncomputable def qH (x:bM×List Int):Option (bM×List Int):=if x.1.1=0 then none else match take1 (ask x.1.1) x.2 with
 |none=>none
 |some (f,r)=>(step x.1.1 x.1.2 f).1.map fun y=>(y,r)
inductive Met:bM×List Int->β->Prop
 |here {s t}:t∈tg s.1->Met s t
 |on {s s' t}:qH ask step s=some s'->Met s' t->Met s t
variable{ask step tg}
theorem iB{s:bM}{l:List Int}(h0:s.1≠0)(ha:ask s.1=false):qH ask step (s,l)=(step s.1 s.2 0).1.map fun y=>(y,l):=by
 unfold qH;rw[if_neg h0];simp only[take1,ha,zaz,if_false]
theorem zz{s:bM}{f:Int}{l:List Int}(h0:s.1≠0)(ha:ask s.1=true):qH ask step (s,f::l)=(step s.1 s.2 f).1.map fun y=>(y,l):=by
 unfold qH;rw[if_neg h0];simp only[take1,ha,if_true]
theorem EZ{s:bM}(ha:ask s.1=true):qH ask step (s,[])=none:=by
 unfold qH;split
 ·rfl
 ·simp only[take1,ha,if_true]
theorem rG{s:bM}{l:List Int}(h0:s.1=0):qH ask step (s,l)=none:=by
 unfold qH;rw[if_pos h0]
structure MI(ask:Int->Bool)(step:Int->List Int->Int->Option (Int×List Int)×Option Int)(tg:Int×List Int->List β)(s0:bM×List Int)(ms:List β)(seen:List bM)(s:bM×List Int):Prop where
 a:∀t,Met ask step tg s0 t->t∈ms\/Met ask step tg s t
 b:∀t∈ms,Met ask step tg s0 t
 c:∀t,Met ask step tg s t->Met ask step tg s0 t
 d:∀x∈seen,(∀t∈tg x,t∈ms)/\x.1≠0/\ask x.1=false/\∀y,(step x.1 x.2 0).1=some y->y∈seen\/y=s.1
variable{s0 s s':bM×List Int}{ms Mc:List β}{seen:List bM}
theorem MI.start:MI ask step tg s0 [] [] s0:=⟨fun t h=>.inr h,fun t h=>(by cases h),fun t h=>h,fun x h=>(by cases h)⟩
theorem Md(h:qH ask step s=none){t:β}(m:Met ask step tg s t):t∈tg s.1:=by
 cases m with
 |here m=>exact m
 |on e _=>rw[h] at e;cases e
theorem MI.fin(h:MI ask step tg s0 ms seen s)(hm:∀t,t∈Mc↔t∈ms\/t∈tg s.1)(he:qH ask step s=none\/s.1∈seen)(t:β):t∈Mc↔Met ask step tg s0 t:=by
 rw[hm];refine⟨fun z=>z.elim (h.b t) fun z=>h.c t (.here z),fun z=>?_⟩;rcases h.a t z with z |z
 ·exact .inl z
 rcases he with he |he
 ·exact .inr (Md he z)
 ·have key:∀s' t,Met ask step tg s' t->s'.1∈seen->t∈ms:=by
   intro s' t m
   induction m with
   |here m=>exact fun q=>(h.d _ q).1 _ m
   |@on a b t e _ ih=>
    intro q;obtain⟨_,h0,ha,hs⟩:=h.d _ q;obtain⟨a1,a2⟩:=a;rw[iB h0 ha] at e;obtain⟨y,hy,rfl⟩:=zbm.mp e;rcases hs y hy with q2 |rfl
    ·exact ih q2
    ·exact ih he
  exact .inl (key _ _ z he)
theorem MI.next(h:MI ask step tg s0 ms seen s)(hm:∀t,t∈Mc↔t∈ms\/t∈tg s.1)(hn:qH ask step s=some s'\/qH ask step s=none/\s'=s) :
 (∀t,Met ask step tg s0 t->t∈Mc\/Met ask step tg s' t)/\(∀t∈Mc,Met ask step tg s0 t)/\∀t,Met ask step tg s' t->Met ask step tg s0 t:=by
 refine⟨fun t m=>?_,fun t m=>?_,fun t m=>?_⟩
 ·rw[hm];rcases h.a t m with z |z
  ·exact .inl (.inl z)
  ·rcases hn with hn |⟨hn,rfl⟩
   ·cases z with
    |here z=>exact .inl (.inr z)
    |on e z=>rw[hn] at e;cases e;exact .inr z
   ·exact .inr z
 ·rcases(hm t).mp m with z |z
  ·exact h.b t z
  ·exact h.c t (.here z)
 ·rcases hn with hn |⟨hn,rfl⟩
  ·exact h.c t (.on hn m)
  ·exact h.c t m
theorem MI.asked(h:MI ask step tg s0 ms seen s)(hm:∀t,t∈Mc↔t∈ms\/t∈tg s.1)(hn:qH ask step s=some s'\/qH ask step s=none/\s'=s):MI ask step tg s0 Mc [] s':=
 let ⟨a,b,c⟩:=h.next hm hn
 ⟨a,b,c,fun x q=>(by cases q)⟩
theorem MI.go(h:MI ask step tg s0 ms seen s)(hm:∀t,t∈Mc↔t∈ms\/t∈tg s.1)(hn:qH ask step s=some s'\/qH ask step s=none/\s'=s)(h0:s.1.1≠0)(ha:ask s.1.1=false):MI ask step tg s0 Mc (seen++[s.1]) s':=by
 obtain⟨a,b,c⟩:=h.next hm hn;refine⟨a,b,c,fun x q=>?_⟩;rcases zao.mp q with q |q
 ·obtain⟨d1,d2,d3,d4⟩:=h.d x q;refine⟨fun t m=>(hm t).mpr (.inl (d1 t m)),d2,d3,fun y hy=>.inl ?_⟩;rcases d4 y hy with z |rfl
  ·exact zbg _ z
  ·exact zaB _ (zag.mpr rfl)
 ·cases zag.mp q;refine⟨fun t m=>(hm t).mpr (.inr m),h0,ha,fun y hy=>.inr ?_⟩;obtain⟨s1,s2⟩:=s;rw[iB h0 ha,hy] at hn;rcases hn with hn |⟨hn,_⟩
  ·cases hn;rfl
  ·cases hn
theorem Me(hk:∀row vals f,ask row=true->(step row vals f).1≠none){row:Int}{vals left:List Int}(h:row≠0) :
 (qH ask step ((row,vals),left)=some (((vm ask step row vals left).2.2.1,(vm ask step row vals left).2.2.2.1),(vm ask step row vals left).2.1)/\(vm ask step row vals left).2.2.2.2=endAt (vm ask step row vals left).2.2.1/\(ask row=true->(vm ask step row vals left).2.1.length<left.length)/\(ask row=false->(vm ask step row vals left).2.1=left))\/
 (qH ask step ((row,vals),left)=none/\(((vm ask step row vals left).2.2.1,(vm ask step row vals left).2.2.2.1),(vm ask step row vals left).2.1)=((row,vals),left)/\∃e,(vm ask step row vals left).2.2.2.2=some e):=by
 cases ha:ask row with
 |false=>
  rw[iB (s:=(row,vals)) h ha];unfold vm;simp only[take1,ha,zaz,if_false];rcases hs:step row vals 0 with ⟨o,sd⟩
  cases o with
  |none=>exact .inr ⟨rfl,rfl,_,rfl⟩
  |some x=>exact .inl ⟨rfl,rfl,fun z=>absurd z (by simp),fun _=>rfl⟩
 |true=>
  cases left with
  |nil=>
   rw[EZ (s:=(row,vals)) ha];unfold vm;simp only[take1,ha,if_true];exact .inr ⟨trivial,trivial,_,rfl⟩
  |cons f l=>
   rw[zz (s:=(row,vals)) h ha];have:=hk row vals f ha;unfold vm;simp only[take1,ha,if_true];rcases hs:step row vals f with ⟨o,sd⟩
   cases o with
   |none=>rw[hs] at this;exact absurd rfl this
   |some x=>exact .inl ⟨rfl,rfl,fun _=>(by simp),fun z=>(by cases z)⟩
structure Seg(ask:Int->Bool)(step:Int->List Int->Int->Option (Int×List Int)×Option Int)(s:bM)(g:List bM):Prop where
 head:g[0]?=some s
 mid:∀i (h:i+1<g.length),g[i].1≠0/\ask g[i].1=false/\(step g[i].1 g[i].2 0).1=some g[i+1]
 last:∀x,g.getLast?=some x->x.1=0\/ask x.1=true\/(step x.1 x.2 0).1=none\/∃y∈g,(step x.1 x.2 0).1=some y
section
variable{s:bM}{g:List bM}{l:List Int}
theorem Seg.nx(h:Seg ask step s g)(i:Nat)(hi:i+1<g.length):qH ask step (g[i],l)=some (g[i+1],l):=by
 obtain⟨h0,ha,e⟩:=h.mid i hi;rw[iB h0 ha,e];rfl
theorem Seg.all(h:Seg ask step s g){t:β}(m:Met ask step tg (s,l) t):(∃x∈g,t∈tg x)\/∃x s',g.getLast?=some x/\x.1≠0/\ask x.1=true/\qH ask step (x,l)=some s'/\Met ask step tg s' t:=by
 have key:∀s' t,Met ask step tg s' t->s'.2=l->s'.1∈g->(∃x∈g,t∈tg x)\/∃x s',g.getLast?=some x/\x.1≠0/\ask x.1=true/\qH ask step (x,l)=some s'/\Met ask step tg s' t:=by
  intro s' t m
  induction m with
  |here m=>exact fun _ q=>.inl ⟨_,q,m⟩
  |@on a b t e mm ih=>
   intro el q;obtain⟨a1,a2⟩:=a;simp only at el q;subst el;obtain⟨i,hi,rfl⟩:=zcf.mp q;by_cases hl:i+1<g.length
   ·rw[h.nx i hl] at e;cases e;exact ih rfl (zat hl)
   ·have ei:g.length-1=i:=by lia
    have hx:g.getLast?=some g[i]:=by rw[List.getLast?_eq_getElem?,ei,zac hi]
    by_cases h0:g[i].1=0
    ·rw[rG h0] at e;cases e
    cases ha:ask g[i].1 with
    |true=>exact .inr ⟨_,_,hx,h0,ha,e,mm⟩
    |false=>
     rw[iB h0 ha] at e;rcases h.last _ hx with z |z |z |⟨y,hy,z⟩
     ·exact absurd z h0
     ·rw[ha] at z;cases z
     ·rw[z] at e;cases e
     ·rw[z] at e;cases e;exact ih rfl hy
 refine key _ _ m rfl ?_;exact List.mem_iff_getElem?.mpr ⟨0,h.head⟩
end
structure TI(ask:Int->Bool)(step:Int->List Int->Int->Option (Int×List Int)×Option Int)(s:bM)(g:List bM)(o:Option bM):Prop where
 nil:g=[]->o=some s
 head:g≠[]->g[0]?=some s
 mid:∀i (h:i+1<g.length),g[i].1≠0/\ask g[i].1=false/\(step g[i].1 g[i].2 0).1=some g[i+1]
 last:∀x,g.getLast?=some x->x.1≠0/\ask x.1=false/\(step x.1 x.2 0).1=o
end
theorem yw{α:Type}[DecidableEq α]:∀(xs ys:List α),xs.Nodup->(∀x∈xs,x∈ys)->xs.length<=ys.length
 |[],ys,_,_=>zaU _
 |x::r,ys,h,q=>by
  obtain⟨nx,nr⟩:=zaH.mp h;have hx:=q x (zak ..);have:=yw r (ys.erase x) nr fun y hy=>(List.mem_erase_of_ne (fun e:y=x=>nx (e▸hy))).mpr (q y (zai _ hy));have l:=List.length_erase_of_mem hx;have p:=List.length_pos_of_mem hx;simp only[zaj];lia
noncomputable def tQ:List Int->List (List Int)
 |[]=>[[]]
 |s::r=>(zaJ s.toNat).flatMap fun (v:Nat)=>(tQ r).map fun t=>((v:Int)::t)
noncomputable def pF:List Int->List Int->Prop
 |[],[]=>True
 |s::r,v::t=>(0<=v/\v<s)/\pF r t
 |[],_::_=>False
 |_::_,[]=>False
theorem pF.mem:∀ {ss vs:List Int},pF ss vs->vs∈tQ ss
 |[],[],_=>by simp[tQ]
 |s::r,v::t,h=>by
  rw[pF] at h;simp only[tQ,zaR,zbw,zaF];exact⟨v.toNat,by lia,t,h.2.mem,by rw[zbW h.1.1]⟩
 |[],v::t,h=>by rw[pF] at h;exact h.elim
 |s::r,[],h=>by rw[pF] at h;exact h.elim
theorem pF.set:∀ {ss vs:List Int} (i:Nat) (v:Int),pF ss vs->(∀s,ss[i]?=some s->0<=v/\v<s)->pF ss (vs.set i v)
 |[],[],i,v,h,_=>h
 |s::r,u::t,0,v,h,q=>by
  rw[pF] at h;rw[List.set_cons_zero,pF];exact⟨q s rfl,h.2⟩
 |s::r,u::t,i+1,v,h,q=>by
  rw[pF] at h;rw[List.set_cons_succ,pF];exact⟨h.1,h.2.set i v fun z hz=>q z (by simpa using hz)⟩
 |[],u::t,i,v,h,q=>by rw[pF] at h;exact h.elim
 |s::r,[],i,v,h,q=>by rw[pF] at h;exact h.elim
noncomputable def univ (rows ss:List Int):List bM:=(0::rows).flatMap fun r=>(tQ ss).map fun v=>(r,v)
theorem JD{rows ss:List Int}{s:bM}(h:s.1=0\/s.1∈rows)(q:pF ss s.2):s∈univ rows ss:=by
 simp only[univ,zaR,zaF,zae];exact⟨s.1,h,s.2,q.mem,rfl⟩
theorem JE(rows ss:List Int):(univ rows ss).length=(rows.length+1)*(tQ ss).length:=by
 have k:∀l:List Int,(l.flatMap fun r=>(tQ ss).map fun v=>((r,v):bM)).length=l.length*(tQ ss).length:=fun l=>by
  induction l with
  |nil=>simp
  |cons a r ih=>rw[zaK,zal,ih];simp[zc6,Nat.add_comm]
 rw[univ,k];simp
end PG
namespace L2
open PySem
noncomputable def FH (K:zaa) (x:Str) (st:Stmt) (f:zc8):Prop:=zaL K zdf x=some (some (.ref f))/\∃fd,Cq K x x st f fd
theorem FH.of{K:zaa}{x:Str}{st:Stmt}{f:zc8}{oc:zc9}{od an:Option zc8}{Es:Array (Option zc9)}{kV doc pm dY ct:zc9}(a:zaL K zdf x=some (some (.ref f)))(l:K.lookup f=some ⟨oc,od,.func (zaM x x (dM st) (cJ st) (az st) .none kV doc pm an dY ct),Es⟩)
 (c:zbq K dY x=true) (k:zaO K (.ref f)=true):FH K x st f:=⟨a,_,tw l c k⟩
theorem E1{α:Type}{P:List α->Prop}(h:∀a,P [a])(us:List α)(e:us.length=1):P us:=match us,e with |[a],_=>h a
theorem AM{α:Type}{P:List α->Prop}(h:∀a b,P [a,b])(us:List α)(e:us.length=2):P us:=match us,e with |[a,b],_=>h a b
theorem QL{α:Type}{P:List α->Prop}(h:∀a b c,P [a,b,c])(us:List α)(e:us.length=3):P us:=match us,e with |[a,b,c],_=>h a b c
theorem bn4{α:Type}{P:List α->Prop}(h:∀a b c d,P [a,b,c,d])(us:List α)(e:us.length=4):P us:=match us,e with |[a,b,c,d],_=>h a b c d
theorem oH{K:zaa}{mg:Str->Option zc9}{h:Heap}{x:Str}{st:Stmt}{f:zc8}{ps:List Str}(X:K.In h)(G:h.Ns zdf mg)(q:FH K x st f)
 (b:∀(kV doc pm:zc9) (an:Option zc8) (dY ct:zc9) (us:List zc9),us.length=ps.length->bindArgs (zaM x x (dM st) (cJ st) (az st) .none kV doc pm an dY ct) ⟨us,[]⟩=pure (ps.zip us)):∃fd,cw K mg x st ps f fd:=
 let ⟨a,fd,F⟩:=q
 ⟨fd,F,F.binds b,zbv X G a⟩
theorem Mf{A:zdj}{k:Nat}(hr:gg k A):A.units+16<cLine:=by have:=VU hr;lia
theorem JF{CX:AJ}{P:zdk}{w:zda}{K:zaa}{mg:Str->Option zc9}{base:Heap}{N:List Str}{qual:Str}{scope:Scope}{f:zc8}{cd:zc9}{A:zdj}{outer:List Env}{s:zdi}{H:Hp}{E:XK}:(lA CX P w K mg base N qual scope f cd A outer s H E).prog=P:=rfl
theorem JG{CX:AJ}{P:zdk}{w:zda}{K:zaa}{mg:Str->Option zc9}{base:Heap}{N:List Str}{qual:Str}{scope:Scope}{f:zc8}{cd:zc9}{A:zdj}{outer:List Env}{s:zdi}{H:Hp}{E:XK}:(lA CX P w K mg base N qual scope f cd A outer s H E).w=w:=rfl
noncomputable def iY:PG.Tg->List Key
 |.row k=>[.inr "row",.inl k]
 |.side k b=>[.inr "side",.inl k,.inl (tN b)]
 |.cB k=>[.inr "must",.inl k]
 |.fin=>[.inr "end"]
theorem yx{a b:PG.Tg}(h:iY a=iY b):a=b:=by
 have s1:(zab "row":Str)≠zab "must":=by decide +kernel
 cases a<;>cases b<;>simp only[iY,zc5.injEq,Sum.inl.injEq,Sum.inr.injEq,and_true,reduceCtorEq,and_false] at h
 ·rw[h.2]
 ·exact absurd h.1 s1
 ·obtain⟨_,rfl,e⟩:=h;have e:=(beq_iff_eq (α:=Int)).mpr e;rw[Jz] at e;rw[beq_iff_eq.mp e]
 ·exact absurd h.1.symm s1
 ·rw[h.2]
 ·rfl
theorem E2{K:zaa}{H:Hp}{g:PG.Tg}{v:V}(h:Rep K H (ji g) v):∃a,v=.ref a/\uW.on K H (iY g) a:=by
 have k:∀k:Key,Us k (kV k):=fun k=>.inl rfl;cases g with
 |row k=>
  simp only[ji,Rep.br,aI.aF,aI.bI,Rep.bY,Rep.bF] at h;obtain⟨a,ys,rfl,hS,_,_,rfl,rfl,_,_,rfl,rfl,rfl⟩:=h;exact⟨a,rfl,_,hS,.cons (.inl rfl) (.cons (.inl rfl) .nil)⟩
 |side k b=>
  simp only[ji,Rep.br,aI.aF,aI.bI,Rep.bY,Rep.bF,Rep.mY] at h;obtain⟨a,ys,rfl,hS,_,_,rfl,rfl,_,_,rfl,rfl,_,_,rfl,rfl,rfl⟩:=h;exact⟨a,rfl,_,hS,.cons (.inl rfl) (.cons (.inl rfl) (.cons (.inr ⟨b,rfl,rfl⟩) .nil))⟩
 |cB k=>
  simp only[ji,Rep.br,aI.aF,aI.bI,Rep.bY,Rep.bF] at h;obtain⟨a,ys,rfl,hS,_,_,rfl,rfl,_,_,rfl,rfl,rfl⟩:=h;exact⟨a,rfl,_,hS,.cons (.inl rfl) (.cons (.inl rfl) .nil)⟩
 |fin=>
  simp only[ji,Rep.br,aI.aF,aI.bI,Rep.bY] at h;obtain⟨a,ys,rfl,hS,_,_,rfl,rfl,rfl⟩:=h;exact⟨a,rfl,_,hS,.cons (.inl rfl) .nil⟩
noncomputable def qp (s:PG.bM):qo:=(.inl s.1,s.2.map .inl)
theorem BD{a b:PG.bM}(h:qp a=qp b):a=b:=by
 obtain⟨a1,a2⟩:=a;obtain⟨b1,b2⟩:=b;simp only[qp,Prod.mk.injEq,Sum.inl.injEq] at h;obtain⟨rfl,h⟩:=h;have h:=(List.map_inj_right (fun x y (e:(Sum.inl x:Key)=.inl y)=>Sum.inl.inj e)).mp h;rw[h]
theorem yy(l:List Int):(l.map (Sum.inl:Int->Key)).map kV=l.map V.int:=by rw[zbE];rfl
theorem E3{K:zaa}{H:Hp}{a:zc8}{s:PG.bM}(h:cx K H a s.1 s.2):qI.on K H (qp s) a:=let ⟨b,h1,h2⟩:=h;⟨b,h1,by rw[qp,yy];exact h2⟩
theorem O8{K:zaa}{H:Hp}{a:zc8}{s:PG.bM}(h:qI.on K H (qp s) a):cx K H a s.1 s.2:=let ⟨b,h1,h2⟩:=h;⟨b,h1,by rw[qp,yy] at h2;exact h2⟩
noncomputable def uz (l:List PG.bM):List (qo×V):=l.map fun s=>(qp s,V.bl true)
theorem BE(l:List PG.bM)(s:PG.bM):(b8 (uz l) (qp s)).isSome=decide (s∈l):=by
 induction l with
 |nil=>rfl
 |cons a r ih=>
  rw[uz,zaq];by_cases e:a=s
  ·rw[cD (by rw[e]),e];simp
  ·rw[cE (fun z=>e (BD z))];refine(show _=_ from ih).trans ?_;simp[Ne.symm e]
theorem Gs{l:List PG.bM}{s:PG.bM}(h:s ∉ l):putK (uz l) (qp s) (.bl true)=uz (l++[s]):=by
 unfold putK;rw[jM,BE,decide_eq_false h,if_neg zaf];simp[uz]
section
variable{κ:Type}[DecidableEq κ]{J:KH κ}{P:zdk}{w:zda}{K:zaa}{H H':Hp}{a b p C dx:zc8}{aC:List (κ×V)}{φ:Heap->Prop}{fs:List (Str×V)}{xs:List V}
theorem DS.qr(d:DS J P w K H a aC):∃φ,H a=some (.ext φ):=let ⟨xs,h,_⟩:=d.at_;⟨_,h⟩
theorem DS.ins(d:DS J P w K H a aC)(hp:H p=some (.ins C dx fs))(u:aT p H H'):DS J P w K H' a aC:=by
 obtain⟨φ,e⟩:=d.qr;exact d.Sr (fun o h=>u _ _ (bN e hp (by intro z;cases z)) h) fun b ys q=>q.ins hp u
theorem cu.nI(h:cu K H a xs)(hb:H b=some (.ext φ))(u:aT b H H'):cu K H' a xs:=by
 rcases h with (q |⟨o',q⟩) |q
 ·exact .inl (.inl (u _ _ (bN q hb (by intro z;cases z)) q))
 ·exact .inl (.inr ⟨o',u _ _ (bN q hb (by intro z;cases z)) q⟩)
 ·exact .inr q
theorem DS.other(d:DS J P w K H a aC)(hb:H b=some (.ext φ))(n:a≠b)(u:aT b H H'):DS J P w K H' a aC:=d.Sr (fun o h=>u _ _ n h) fun c ys q=>q.nI hb u
theorem cx.ext{row:Int}{vals:List Int}(h:cx K H a row vals)(hb:H b=some (.ext φ))(u:aT b H H'):cx K H' a row vals:=let ⟨va,h1,h2⟩:=h;⟨va,h1.nI hb u,h2.nI hb u⟩
theorem tO.ext{e:Option PG.fY}{v:V}(h:tO K H e v)(hb:H b=some (.ext φ))(u:aT b H H'):tO K H' e v:=by
 cases e with
 |none=>exact h
 |some x=>obtain⟨a,e,q⟩:=h;exact⟨a,e,q.nI hb u⟩
theorem AL.ext{CC CW wk ch fl:zc8}{pr:PG.Prog}{figs:List Int}{n:Nat}{row:Int}{vals:List Int}{e:Option PG.fY}(h:AL K CC CW H wk ch fl pr figs n row vals e)(hb:H b=some (.ext φ))(u:aT b H H')(c:ql K CC H' ch pr)(f:gM K H' fl (figs.map V.int)):AL K CC CW H' wk ch fl pr figs n row vals e:=by
 obtain⟨dx,sa,ev,h1,h2,h3⟩:=h.at_;exact⟨⟨dx,sa,ev,u _ _ (bN h1 hb (by intro z;cases z)) h1,h2.ext hb u,h3.ext hb u⟩,c,f,h.Uo⟩
end
theorem BF{K:zaa}{H H':Hp}{l:zc8}{ys:List V}{ds:List Dp}{vs:List V}(hl:H l=some (.lst ys))(u:aT l H H')(hn:nC ds=true)(r:aI K H ds vs):aI K H' ds vs:=qi (O:=(·=l)) (fun g e=>⟨ys,e▸hl⟩) (aM.one u rfl) ds vs hn r
theorem zF:∀l:List PG.Tg,nC (l.map ji)=true
 |[]=>rfl
 |g::r=>by
  rw[zaq,nC,zF r];cases g<;>rfl
noncomputable def jj (pr:PG.Prog):List Int:=pr.aA.map (·.size)
noncomputable def E4 (pr:PG.Prog):List Int:=(PG.aB pr.body).map (·.row)
noncomputable def ba (pr:PG.Prog):Nat:=(PG.univ (E4 pr) (jj pr)).length
structure cZ(pr:PG.Prog)(s:PG.bM):Prop where
 ok:wx pr s.1 s.2
 inv:PG.pF (jj pr) s.2
theorem cZ.mem{pr:PG.Prog}{s:PG.bM}(h:cZ pr s):s∈PG.univ (E4 pr) (jj pr):=by
 refine PG.JD ?_ h.inv;rcases h.ok.row with e |⟨i,hi,e⟩
 ·exact .inl e
 ·exact .inr (zaF.mpr ⟨_,zat hi,e⟩)
theorem gW{pr:PG.Prog}{l:List PG.bM}(nd:l.Nodup)(h:∀s∈l,cZ pr s):l.length<=ba pr:=PG.yw l _ nd fun s hs=>(h s hs).mem
theorem pF.first:∀ {bs:List PG.fO},(∀b∈bs,2<=b.size/\b.size<=10/\0<=b.first/\b.first<b.size)->PG.pF (bs.map (·.size)) (bs.map (·.first))
 |[],_=>trivial
 |b::r,h=>by
  simp only[zaq,PG.pF];have:=h b (zak ..);exact⟨⟨by lia,by lia⟩,pF.first fun x hx=>h x (zai _ hx)⟩
theorem cZ.first{pr:PG.Prog}(d:iA pr):cZ pr (PG.bc pr.body 0,pr.aA.map (·.first)):=⟨d.first,pF.first d.size⟩
theorem pF.uV{pr:PG.Prog}(d:iA pr){vals:List Int}(h:PG.pF (jj pr) vals){b:W}(hb:b∈pr.aA.map (·.name))(z:Int):PG.pF (jj pr) (uV pr.aA vals b (z%gI pr.aA b)):=by
 refine h.set _ _ fun s hs=>?_;obtain⟨hx,_⟩:=nG hb;have e:gI pr.aA b=s:=by
  unfold gI;rw[jj,zap,zac hx] at hs;rw[zac hx];exact zaT.inj hs
 have:=BC d hb;rw[e] at this ⊢;exact⟨zaI z (by lia),zaE z (by lia)⟩
theorem pF.step{pr:PG.Prog}(d:iA pr){st:PG.bX}(ok:PG.rj (·∈pr.aA.map (·.name)) (fun e=>PG.iV pr.aA e/\PG.mM e<=2) (·∈PG.Cs) st){ws vals:List Int}{f:Int}(h:PG.pF (jj pr) vals){x:PG.bM}(e:(mD pr.aA st ws vals f).1=some x):PG.pF (jj pr) x.2:=by
 have cs:iX pr.aA st ws vals=some x->PG.pF (jj pr) x.2:=by
  intro e;unfold iX at e;split at e
  ·cases e
  ·split at e
   ·cases e;exact h
   ·split at e
    ·cases e
    ·cases e;exact h
 cases st<;>rw[PG.rj] at ok
 ·cases e;exact pF.uV d h ok _
 ·cases e;exact pF.uV d h ok.1 _
 ·cases e;exact h
 ·exact cs e
 ·cases e;exact h
 ·exact cs e
 ·exact cs e
theorem JH{pr:PG.Prog}(ok:Dt pr){i:Nat}(hi:i<(PG.aB pr.body).length)(hf:i<(PG.aL pr.body 0).length)(vals:List Int)(f:Int):cm pr (PG.aB pr.body)[i].row vals f=mD pr.aA (PG.aB pr.body)[i] (PG.aL pr.body 0)[i].2.2 vals f:=by
 unfold cm;rw[lO ok.pw i hi,zy ok.pw i hi hf]
theorem cZ.next{pr:PG.Prog}(d:iA pr){s x:PG.bM}(h:cZ pr s)(h0:s.1≠0){f:Int}(e:(cm pr s.1 s.2 f).1=some x):cZ pr x:=by
 obtain⟨row,vals⟩:=s;obtain⟨i,hi,rfl⟩:=h.ok.row.resolve_left h0;obtain⟨hf,_,_⟩:=nF pr.body i hi;rw[JH d.ok hi hf] at e;refine⟨?_,pF.step d (PG.jx pr.body _ d.own (zat hi)) h.inv e⟩;rcases hs:mD pr.aA (PG.aB pr.body)[i] (PG.aL pr.body 0)[i].2.2 vals f with ⟨o,sd⟩
 rw[hs] at e;exact wx.step d hi hf h.ok.len h.ok.small (by rw[hs];exact congrArg (·,sd) e)
theorem wD{pr:PG.Prog}(row:Int)(vals:List Int)(f:Int)(h:gE pr.body row=true):(cm pr row vals f).1≠none:=by
 unfold gE at h;unfold cm;obtain⟨k,b,e⟩:∃k b,zx pr.body row=.ask k b:=by
  generalize zx pr.body row=st at h;cases st<;>first |exact⟨_,_,rfl⟩ |(have h:=of_decide_eq_true h;cases h)
 rw[e];intro z;cases z
theorem cZ.nx{pr:PG.Prog}(d:iA pr){s s':PG.bM×List Int}(h:cZ pr s.1)(e:PG.qH (gE pr.body) (cm pr) s=some s'):cZ pr s'.1:=by
 unfold PG.qH at e;split at e
 ·cases e
 ·rename_i h0;split at e
  ·cases e
  ·obtain⟨y,hy,rfl⟩:=zbm.mp e;exact h.next d h0 hy
noncomputable def muM (N L k:Nat):Option PG.fY->Nat
 |none=>L*(N+1)+(N-k)+1
 |some _=>0
theorem Mg{N L L' k:Nat}(h:L'<L)(e:Option PG.fY):muM N L' 0 e<muM N L k none:=by
 have:=zcY (N+1) (show L'+1<=L from h);rw[zc6] at this;cases e<;>simp only[muM]<;>lia
theorem O9{N L k:Nat}(h:k<N)(e:Option PG.fY):muM N L (k+1) e<muM N L k none:=by
 cases e<;>simp only[muM]<;>lia
noncomputable def iZ (pr:PG.Prog) (s:PG.bM):List PG.Tg:=if s.1=0 then [.fin] else match uy (zx pr.body s.1) with
 |none=>[.row s.1]
 |some (sg,l,r)=>if (zx pr.body s.1).wd=.cB then (if qm sg (wv pr.aA s.2 l) (wv pr.aA s.2 r) then [.row s.1] else [.row s.1,.cB s.1]) else [.row s.1,.side s.1 (qm sg (wv pr.aA s.2 l) (wv pr.aA s.2 r))]
theorem E5(pr:PG.Prog)(s:PG.bM):(iZ pr s).length<=2:=by
 unfold iZ;split
 ·simp
 ·split
  ·simp
  ·split
   ·split<;>simp
   ·simp
noncomputable abbrev Gu (pr:PG.Prog) (figs:List Int):PG.Tg->Prop:=PG.Met (gE pr.body) (cm pr) (iZ pr) ((PG.bc pr.body 0,pr.aA.map (·.first)),figs)
section
variable(P:zdk)(w:zda)(K:zaa)(CC:zc8)
noncomputable def JI (H:Hp) (l:zc8) (us:List V) (ts:List PG.Tg):Prop:=H l=some (.lst us)/\aI K H (ts.map ji) us
noncomputable def Pa:Sp:=fun vs H Q _=>∃(ch sa:zc8) (pr:PG.Prog) (s:PG.bM),vs=[.ref ch,.ref sa]/\ql K CC H ch pr/\iA pr/\cx K H sa s.1 s.2/\cZ pr s/\
 ∀l us H',au H H'->H l=none->JI K H' l us (iZ pr s)->Q (.ref l) H'
noncomputable def Mh:Sp:=fun vs H Q _=>∃(ch fl:zc8) (pr:PG.Prog) (figs:List Int),vs=[.ref ch,.ref fl]/\ql K CC H ch pr/\iA pr/\gM K H fl (figs.map V.int)/\figs.length<=3000/\(figs.length+2)*(ba pr+2)<=4000000/\
 ∀d aC H',au H H'->DS uW P w K H' d aC->(∀t,(b8 aC (iY t)).isSome=true↔Gu pr figs t)->Q (.ref d) H'
noncomputable def E6:Sp:=fun vs H Q _=>∃(v:V) (fl:zc8) (tv:V) (pr:PG.Prog) (figs:List Int) (t:PG.Tg),vs=[v,.ref fl,tv]/\iA pr/\Rep K H (jh pr) v/\gM K H fl (figs.map V.int)/\figs.length<=3000/\(figs.length+2)*(ba pr+2)<=4000000/\Rep K H (ji t) tv/\
 ∀b H',au H H'->(b=true↔Gu pr figs t)->Q (.bl b) H'
noncomputable def jq (H:Hp) (g:List PG.bM) (us:List V):Prop:=Paired (fun (s:PG.bM) v=>∃a,v=.ref a/\cx K H a s.1 s.2) g us
end
theorem jq.at{K:zaa}{H:Hp}{g:List PG.bM}{us:List V}(h:jq K H g us):us.length=g.length/\∀(i:Nat) (s:PG.bM),g[i]?=some s->∃a,us[i]?=some (V.ref a)/\cx K H a s.1 s.2:=by
 unfold jq at h
 induction h with
 |nil=>exact⟨rfl,fun i s h=>by simp at h⟩
 |@cons x y l1 l2 z t ih=>
  obtain⟨a,e,q⟩:=z;obtain⟨l,g⟩:=ih;refine⟨by simp[l],fun i s h=>?_⟩;cases i with
  |zero=>simp at h;subst h;exact⟨a,by simp[e],q⟩
  |succ i=>simp at h;obtain⟨b,hb,k⟩:=g i s h;exact⟨b,by simp[hb],k⟩
theorem jq.mono{K:zaa}{H H':Hp}{g:List PG.bM}{us:List V}(h:jq K H g us)(s:au H H'):jq K H' g us:=Paired.AS h fun _ _ ⟨a,e,q⟩=>⟨a,e,q.mono s⟩
open PyProof.Rows
theorem BG{J:It}{D:zc8}{g:TG}{te:TE}{Q:VK}{τ0:St}{H:Hp}(G:St->Prop)(xs:List V)(Pv:Nat->List V->Hp->Prop)
 (go:∀i H2,au H H2->i<xs.length->J.go i H2) (stop:∀H2,au H H2->J.stop xs.length H2) (Eh:∀i H2 x H3,au H H2->i<xs.length->J.Eh i H2 x H3->H3=H2/\xs[i]?=some x)
 (hl:xs.length<=16000000) (hD:H D=none) (g0:G τ0) (h0:Pv 0 [] (upd H D (.lst [])))
 (step:∀i x ys τ H2,xs[i]?=some x->G τ->au H H2->H2 D=some (.lst ys)->ys.length=i->Pv i ys H2->∀R:St->VK,(∀τ' v H3,G τ'->au H2 H3->Pv (i+1) (ys++[v]) (upd H3 D (.lst (ys++[v])))->R τ' v H3)->g x τ H2 fun τ' H'=>te τ' H' (R τ'))
 (q:∀ys H2,au H H2->H2 D=some (.lst ys)->ys.length=xs.length->Pv xs.length ys H2->Q (.ref D) H2):pz J D g vN te Q τ0 (upd H D (.lst [])):=by
 refine⟨fun i m τ H2=>m=xs.length-i/\i<=xs.length/\G τ/\au H H2/\∃ys,H2 D=some (.lst ys)/\ys.length=i/\Pv i ys H2,⟨xs.length,by simp,zaU _,g0,au.new hD _,[],ah,rfl,h0⟩,?_⟩
 rintro i m τ H2 ⟨rfl,hi,gt,s2,ys,h2,ly,p2⟩
 by_cases o8:i<xs.length
 ·refine .inr ⟨go i H2 s2 o8,fun τ' H'=>G τ'/\au H H'/\∃ys,H' D=some (.lst ys)/\ys.length=i+1/\Pv (i+1) ys H',fun τ' H' ⟨h1,h3,h4⟩=>⟨xs.length-(i+1),by lia,rfl,o8,h1,h3,h4⟩,fun y H' hy=>?_⟩;obtain⟨rfl,ey⟩:=Eh i H2 y H' s2 o8 hy;simp only[vN,if_true];refine step i y ys τ _ ey gt s2 h2 ly p2 (fun τ' v H4=>_) fun τ' v H3 gt' s3 p3=>⟨ys,s3 _ _ h2,?_,gt',?_,ys++[v],ah,by simp[ly],p3⟩
  ·have:zdg=2 ^ 24:=rfl;lia
  ·intro b o e;rw[av (aj e hD)];exact s3 _ _ (s2 _ _ e)
 ·have e:i=xs.length:=by lia
  subst e;exact .inl ⟨stop H2 s2,q ys H2 s2 h2 ly p2⟩
theorem JJ{K:zaa}{ta:TA}{g:TG}{tb:TS}{D:Ends}{σ:St}{H:Hp} (h:∀U:zc8->Hp->Prop,(∀a H1,(∃W:Nat->Nat->St->Hp->Prop,(∃m,W 0 m σ H1)/\∀i m σ H,W i m σ H->
 ((Np K a).stop i H/\D.nx σ H)\/((Np K a).go i H/\∃N:St->Hp->Prop,(∀σ' H',N σ' H'->∃m',m'<m/\W (i+1) m' σ' H')/\∀x H',(Np K a).Eh i H x H'->g x σ H' fun σ2 H2=>tb {D with nx:=N,ct:=N,bk:=D.nx} σ2 H2))->U a H1)->
 ta σ H fun vs H1=>∃a,vs=[.ref a]/\(∃xs,gM K H1 a xs)/\U a H1):Hs (Nq K ta) g tb D σ H:=h _ fun _ _ x=>x
section
variable{prog:zdk}{w:zda}{A:zdj}{E:zc9->zdi->Prop}{s:zdi}{d:zc8}{es:Array DictEntry}{ep:Nat}
theorem JK(hd:(d==sysModules)=false) :
 MeetsIn prog w (Builtin.«dict.__len__» ⟨[.ref d],[]⟩) (fun _ R s=>∃es ep,rF s.heap d es ep/\R (.ok (.ret (.int es.size s.toks))) {s with toks:=s.toks+1}):=by
 refine .of_wp fun A R s hh=>?_;obtain⟨es,ep,⟨o,g,_,Wq⟩,h⟩:=hh;show wpAny _ _ (dictSize d >>= _) _ _ s;unfold dictSize;refine zdb (zdb (wpAny_dictEntries g Wq (zdc ?_)));show wpAny _ _ (Builtin.Dict.pendingCount d >>= _) _ _ s;refine zdb (wpAny_pendingCount_other hd (wpAny_ret_mkInt ?_));rw[Nat.add_zero];exact h
theorem Mi{Q:zc9->zdi->Prop}(hd:(d==sysModules)=false)(x:rF s.heap d es ep)(aa0:(es.size:Int)<2 ^ 63)(h:Q (.int es.size (s.toks+1)) {s with toks:=s.toks+1+1}):wpAny (model prog w) A (call (.builtin "len") [.ref d]) Q E s:=by
 refine Calls.call_function_entry kind_len plain_len entry_len (args_len1 _) ?_;unfold Builtin.«len»;refine zdb (m:=oneArg "len" _) (zdc ?_);refine zdb (m:=callSpecial? (.ref d) (zab "__len__")) (wpAny_callSpecial?_slot (name:=zab "__len__") x.ty F.slot_dict_len
  (call_meetsIn F.slot_dict_len x.ty F.entry_dict_len (F.args_dict_len_1 _) (JK hd) ⟨es,ep,x,?_⟩))
 show wpAny _ _ _ _ _ {s with toks:=s.toks+1};refine zdb (zdd (zdc (zdb (wpAny_letGo ?_))));show wpAny _ _ (if ((es.size:Nat):Int)<0 then _ else _) _ _ _;rw[if_neg (by first|decide|omega)];show wpAny _ _ (if ((es.size:Nat):Int) ≥ 2 ^ 63 then _ else _) _ _ _;rw[if_neg (by first|decide|omega)];exact zdb (wpAny_mkInt (zdc ⟨_,rfl,h⟩))
end
section
variable{κ:Type}[DecidableEq κ]{J:KH κ}{X:Cx}
theorem Gv:qQ X (.builtin "len") (fun xs H Q=>∃(a:zc8) (aC:List (κ×V)),xs=[.ref a]/\DS J X.prog X.w X.K H a aC/\Q (.int aC.length) H):=by
 intro pins s σ H xs us Q I r h;obtain⟨a,aC,rfl,⟨z,sy,ks,e,rel,nd⟩,q⟩:=h;obtain⟨u,rfl,ru⟩:=vals1 r;cases (show u=Value.ref a from ru);obtain⟨o,es,ep,h1,h2,h3,h4,_,_⟩:=wA I e rel nd;have le:es.size=aC.length:=by rw[<- zbV,h4,zad,Paired.length rel]
 have line:zdg=2 ^ 24:=rfl;exact Mi sy (⟨o,h1,h2,h3⟩:rF s.heap a es ep) (by rw[le];omega) ⟨.int aC.length,H,I.tok _,⟨_,by rw[le]⟩,q⟩
end
open PySem.Spec
noncomputable def BH (CX:AJ) (P:zdk) (w:zda) (K:zaa) (mg:Str->Option zc9) (base:Heap) (N:List Str) (qual:Str) (scope:Scope) (f:zc8) (cd:zc9) (cl:List (Str×zc8)) (A:zdj) (outer:List Env) (s:zdi) (H:Hp) (E:XK):Cx where
 prog:=P
 w:=w
 K:=K
 mg:=mg
 base:=base
 A:=A.deeper (zb0 qual scope s.heap.objs.size f cd cl)
 N:=N
 s₀:=s
 H₀:=H
 env:=zb0 qual scope s.heap.objs.size f cd cl
 outer:=outer
 stack:=zb0 qual scope s.heap.objs.size f cd cl::outer
 ex:=[]
 calm:=true
 fn:=fun _=>false
 pn:=[]
 xe:=fun e s'=>wpAny (model P w) (A.deeper (zb0 qual scope s.heap.objs.size f cd cl)) (leaving (zb0 qual scope s.heap.objs.size f cd cl) e) (fun _ FJ=>CX outer H s E e FJ) (fun e' FJ=>CX outer H s E e' FJ) s'
structure rH(x y:Str)(sc:Scope):Prop where
 kind:sc.kind=.function
 co:sc.isCoroutine=false
 gen:sc.isGenerator=false
 px:sc.names.lookup x=some .local
 py:sc.names.lookup y=some .free
 only:∀z,(sc.names.lookup z=some .cell\/sc.names.lookup z=some .free)->z=y
 Pb:∀z∈sc.names,z.2≠.cell
theorem Mj{CX:AJ}{P:zdk}{w:zda}{K:zaa}{mg:Str->Option zc9}{base:Heap}{x y:Str}{qual:Str}{scope:Scope}{f cc:zc8}{cd:zc9}{A:zdj}{outer:List Env}{s:zdi}{H:Hp}{E:XK}{u uc:zc9}{v vc:V}{h1:Heap}{tk:Nat}
 (S:rH x y scope) (hd:A.handled=none) (e0:qg P w K mg base A outer s H) (rv:RelV v u) (xm:H cc=none) (uh:s.heap.IsCell cc (some uc)) (rc:RelV vc uc)
 (Ni:h1.Ns s.heap.objs.size fun z=>zbf z [(x,u)].reverse) (hk:∀b o,s.heap.get? b=some o->h1.get? b=some o) :
 Inv (BH CX P w K mg base [x,y] qual scope f cd [(y,cc)] A outer s H E) [] [some v,some vc] H {s with heap:=h1,toks:=tk}:=by
 have Oy:∀b:zc8,b ∉ (BH CX P w K mg base [x,y] qual scope f cd [(y,cc)] A outer s H E).ex:=fun b z=>absurd (show b∈([]:List zc8) from z) (by simp);have lk:∀z c,zbf z [(y,cc)]=some c->z=y/\c=cc:=fun z c e=>by
  rw[zaQ] at e;cases hb:z==y with
  |true=>rw[hb] at e;cases e;exact⟨eq_of_beq hb,rfl⟩
  |false=>rw[hb] at e;cases e
 have YK:zbf y [(y,cc)]=some cc:=by rw[zaQ,beq_self_eq_true]
 have JL:h1.IsCell cc (some uc):=by obtain⟨o,ho,q⟩:=uh;exact⟨o,hk _ _ ho,q⟩
 refine⟨⟨e0.mod,S.kind,rfl,rfl,zah _,fun a b c h1 h2=>?_,fun z hz=>?_,fun z c hf _=>?_,fun _=>hd,Around.frames_deeper e0.frames,.inr ⟨rfl,rfl⟩,fun b z=>absurd z (Oy b),e0.bs,e0.AU,fun b _ _=>Oy b,fun b z=>absurd z (Oy b),e0.oQ,e0.KZ⟩,
  rfl,e0.bare,Un.kept hk,⟨_,Ni,fun i z v' h1 h2 h3=>?_⟩,fun z c h=>?_,e0.cL.fresh (zah _),fun z c h=>?_,fun p hp=>absurd (show p∈([]:List (zc8×Obj)) from hp) (by simp),e0.cL.kept hk,rfl⟩
 ·exact(lk a c h1).1.trans (lk b c h2).1.symm
 ·have hz:scope.names.lookup z=some .cell\/scope.names.lookup z=some .free:=hz;rw[S.only z hz];exact⟨cc,YK⟩
 ·cases hf
 ·rcases i with _ |_ |i
  ·cases h1;cases h2;refine⟨u,rv,.inl ⟨S.px,?_⟩⟩;show zbf x [(x,u)].reverse=some u;rw[List.reverse_singleton,zaQ,beq_self_eq_true]
  ·cases h1;cases h2;exact⟨uc,rc,.inr ⟨.inr S.py,cc,YK,JL⟩⟩
  ·cases h1
 ·rw[(lk z c h).2];exact⟨_,JL⟩
 ·rw[(lk z c h).2];exact xm
theorem Ml{CX:AJ}{P:zdk}{w:zda}{K:zaa}{mg:Str->Option zc9}{base:Heap}{k:Nat}{x y:Str}{name qual:Str}{params:Arguments}{body:Expr}{scope:Scope}{fo cc c':zc8}{pm uC:zc9}{A:zdj}{outer:List Env}{s:zdi}{H:Hp}{E:XK}{Q:VK}{u uc:zc9}{v vc:V}
 (S:rH x y scope) (hr:gg (k+1) A) (e0:qg P w K mg base A outer s H) (Ss:s.heap.get? fo=some (zbM name qual params body scope [(y,cc)] pm c' uC)) (hcr:s.heap.CodeRec (.ref c') qual)
 (xm:H cc=none) (uh:s.heap.IsCell cc (some uc)) (rc:RelV vc uc) (rv:RelV v u) (wF:bindArgs (zcT name qual params body scope [(y,cc)] pm (.ref c') uC) ⟨[u],[]⟩=pure [(x,u)])
 {t:TE} (ht:PE (BH CX P w K mg base [x,y] qual scope fo (.ref c') [(y,cc)] A outer s H E) body t) (hq:t [some v,some vc] H Q) :
 codeAny (model P w) A (.call (.ref fo) ⟨[u],[]⟩) (CR CX outer P w H s Q E) s:=by
 have lim:s.heap.NoLimit:=e0.mod.nolimit.keeps fun b o e=>(e0.bs b o e).1;refine PySem.W.kla_callFunE hr.depth Ss rfl S.co S.gen rfl hcr ?_;rw[wF];refine zdc (wpAny_newFunctionEnv S.Pb (fun z hz=>?_) (fun h1 Ni VS=>?_) S.kind)
 ·rw[zag.mp hz];exact S.px
 have hk:∀b o,s.heap.get? b=some o->h1.get? b=some o:=fun b o e=>VS.extBut b o (zaD (Heap.lt_size e)) (Heap.get?_push_of_some _ e);refine⟨lim.keeps hk,?_⟩;show codeAny _ _ (.expr body (zb0 qual scope s.heap.objs.size fo (.ref c') [(y,cc)])) _ _;refine PySem.W.kla_codeExpr (wpAny_mono (ht [] _ _ _ Q (Mj S hr.hd e0 rv xm uh rc Ni hk) hq) (fun u' s' h=>?_) fun e s' z=>z);obtain⟨v',H',J,rv',q'⟩:=h;exact⟨v',H',J.os,J.bare,J.base,J.cL,rv',q'⟩
noncomputable def fQ (a:zc8) (o:Obj):HO:=.ext fun h=>h.get? a=some o
noncomputable def wo (H:Hp) (a:zc8):Hp:=fun b=>if b=a then none else H b
theorem iJ{H:Hp}{a:zc8}:wo H a a=none:=if_pos rfl
theorem dW{H:Hp}{a b:zc8}(h:b≠a):wo H a b=H b:=if_neg h
section
variable{P:zdk}{w:zda}{H:Hp}{h:Heap}{a:zc8}{o:Obj}
theorem fQ.get(x:my P w H h)(e:H a=some (fQ a o)):h.get? a=some o:=(x a _ e).1
theorem fQ.ok{H':Hp}(e:h.get? a=some o):eF P w H' h a (fQ a o):=⟨e,⟨o,e⟩,fun _ _ p k=>k _ p⟩
theorem my.add(x:my P w H h)(hn:H a=none)(e:h.get? a=some o):my P w (upd H a (fQ a o)) h:=fun b u q=>by
 by_cases hb:b=a
 ·subst hb;rw[ah] at q;cases q;exact fQ.ok e
 ·rw[av hb] at q;exact(x b u q).uN (fun c v _ r=>r) (fun c r=>by rw[av (aj r hn)];exact r) fun c xs r=>by rw[av (aj r hn)];exact r
theorem my.wo(x:my P w H h)(ha:H a=some (fQ a o)):my P w (wo H a) h:=fun b u q=>by
 by_cases hb:b=a
 ·subst hb;rw[iJ] at q;cases q
 ·rw[dW hb] at q;refine(x b u q).uN (fun c v _ r=>r) (fun c r=>?_) fun c xs r=>?_
  ·rw[dW (bN r ha (by intro z;cases z))];exact r
  ·rw[dW (bN r ha (by intro z;cases z))];exact r
end
noncomputable def Nx (y name qual:Str) (params:Arguments) (body:Expr) (scope:Scope) (H:Hp) (fo cc:zc8) (kN:Obj) (vc:V):Prop:=
 ∃(c':zc8) (pm uC uc:zc9) (oc:Obj) (vs:Array zc9) (tk:Nat),H fo=some (fQ fo (zbM name qual params body scope [(y,cc)] pm c' uC))/\H c'=some (fQ c' oc)/\oc.data=.fields vs/\vs[1]?=some (.str qual tk)/\
  H cc=some (fQ cc kN)/\kN.data=.cell (some uc)/\RelV vc uc
noncomputable def Pc (y name qual:Str) (params:Arguments) (body:Expr) (scope:Scope) (tb tf:TE) (ta:TA):TE:=fun σ H Q=>tf σ H fun f H1=>ta σ H1 fun vs H2=>∃(a:V) (fo cc:zc8) (kN:Obj) (vc:V),vs=[a]/\f=.ref fo/\Nx y name qual params body scope H2 fo cc kN vc/\
 tb [some a,some vc] (wo H2 cc) fun v H3=>H3 cc=none->Q v (upd H3 cc (fQ cc kN))
theorem qg.wo{P:zdk}{w:zda}{K:zaa}{mg:Str->Option zc9}{base:Heap}{A:zdj}{outer:List Env}{s:zdi}{H:Hp}{a:zc8}{o:Obj}(e:qg P w K mg base A outer s H)(ha:H a=some (fQ a o)):qg P w K mg base A outer s (L2.wo H a):=
 ⟨e.frames,e.mod,fun b o hb=>⟨(e.bs b o hb).1,by unfold L2.wo;rw[(e.bs b o hb).2];split<;>rfl⟩,e.AU,e.oQ,fun b hb=>by unfold L2.wo;rw[e.KZ b hb];split<;>rfl,e.cL.wo ha,e.bare⟩
theorem CE.back{outer:List Env}{P:zdk}{w:zda}{H:Hp}{s s':zdi}{Q:VK}{u:zc9}{a:zc8}{o:Obj}(cL:my P w H s.heap)(ha:H a=some (fQ a o))(hf:a ∉ cV outer)(h:CE outer P w (wo H a) s (fun v H3=>H3 a=none->Q v (upd H3 a (fQ a o))) u s'):CE outer P w H s Q u s':=by
 obtain⟨v,H3,os,bare,un,Mn,rv,q⟩:=h;have g0:=fQ.get cL ha;have n3:H3 a=none:=un.free a o g0 iJ (by simp);have g1:=un.keep a o g0 iJ hf (by simp);have nb:∀ {b:zc8},H b=none->b≠a:=fun {b} n z=>by rw[z,ha] at n;cases n
 refine⟨v,upd H3 a (fQ a o),os,bare,⟨fun b ob e n hb hx=>un.keep b ob e (by rw[dW (nb n)];exact n) hb hx,fun b ob e n hb hx=>un.slot b ob e (by rw[dW (nb n)];exact n) hb hx,fun b ob e n hx=>?_,un.there,fun b xs e=>?_,fun b ob x e=>?_,fun b ps e=>?_⟩,Mn.add n3 g1,rv,q n3⟩
 ·rw[av (nb n)];exact un.free b ob e (by rw[dW (nb n)];exact n) hx
 ·have ne:=bN e ha (by intro z;cases z);rw[av ne];exact un.vB b xs (by rw[dW ne];exact e)
 ·have ne:=bN e ha (by intro z;cases z);rw[av ne];exact un.uO b ob x (by rw[dW ne];exact e)
 ·have ne:=bN e ha (by intro z;cases z);rw[av ne];exact un.uP b ps (by rw[dW ne];exact e)
theorem DE{M:Model}{A:zdj}{E:zc9->zdi->Prop}{s:zdi}{env:Env}{pos:Pos}{f:zc9}{first:List zc9}{Q:zc9->zdi->Prop}{P:Heap->Prop}{e:Expr}{rest:List Expr}
 (hk:∀h,P h->∃k,(k=Keeper.frame\/k=Keeper.machine\/k=Keeper.boundFrame)/\PySem.W.Looks M h (keeperOf f) k) (h:wpAny M A (spliced (backTo pos (zde (e::rest) env))) (fun vs s₁=>P s₁.heap/\wpAny M A (call f (first++vs)) Q E s₁) E s)
 (he:zde (e::rest) env=(false,eval e env)::zde rest env) (AK:(backTo pos (zde rest env)).any (·.1)=false):wpAny M A (callWith pos f first (backTo pos (zde (e::rest) env)) []) Q E s:=by
 rw[he] at h ⊢;exact PySem.W.callWith_of (by show ((false ||(backTo pos (zde rest env)).any (·.1)) ||false)=false;rw[AK];rfl) hk (Calls.evalArgs_plain h)
theorem JM{X:Cx}{x y z name qual:Str}{params:Arguments}{body e:Expr}{scope:Scope}{tb tf:TE}{ta:TA}{p pos:Pos}{k:Nat}{CX:AJ}{E:XK}(hr:gg (k+1) X.A)(S:rH x y scope)(hf:PE X (.Name z p) tf)(ha:PA X [e] ta)(Lv:∀pins σ (H:Hp) (s:zdi) e s' a o,Inv X pins σ H s->H a=some (fQ a o)->CX X.stack (wo H a) s E e s'->X.xe e s')
 (wF:∀(u:zc9) (cc c':zc8) (pm uC:zc9),bindArgs (zcT name qual params body scope [(y,cc)] pm (.ref c') uC) ⟨[u],[]⟩=pure [(x,u)])
 (hb:∀(fo cc c':zc8) (s:zdi) (H:Hp),PE (BH CX X.prog X.w X.K X.mg X.base [x,y] qual scope fo (.ref c') [(y,cc)] X.A X.stack s H E) body tb)
 (he:zde [e] X.env=(false,eval e X.env)::zde [] X.env:=by rfl) (AK:(backTo pos (zde [] X.env)).any (·.1)=false:=by rfl) :
 PE X (.Call (.Name z p) [e] [] pos) (Pc y name qual params body scope tb tf ta):=by
 intro pins s σ H Q I h;refine wpAny_Call_Name_kw (eD (hf pins s σ H _ I h) fun u0 s1 zqz=>?_);obtain⟨f,H1,I1,rf,h1⟩:=zqz;refine DE (P:=fun h=>∃fo cc c' pm uC,u0=.ref fo/\h.get? fo=some (zbM name qual params body scope [(y,cc)] pm c' uC)) (fun h ⟨fo,cc,c',pm,uC,eu,hg⟩=>?_) ?_ he AK
 ·subst eu;exact⟨.frame,.inl rfl,(PySem.W.Looks.ld (part:=none) hg).andThen .now⟩
 ·refine eD (ha pos pins s1 σ H1 _ I1 h1) fun us s2 zqz=>?_;obtain⟨vs,H2,I2,r,a,fo,cc,kN,vc,ev,ef,la,hq⟩:=zqz;subst ev ef;obtain⟨u,rfl,ru⟩:=r.one;obtain rfl:u0=Value.ref fo:=rf;obtain⟨c',pm,uC,uc,oc,ovs,tk,g1,g2,d2,q2,g3,d3,rc⟩:=la;have e1:=fQ.get I2.cL g1;have e2:=fQ.get I2.cL g2;have e3:=fQ.get I2.cL g3;refine⟨⟨fo,cc,c',pm,uC,rfl,e1⟩,?_⟩;have Wr:cc ∉ cV X.stack:=fun hb=>by rw[I2.yR cc hb] at g3;cases g3
  refine wpAny_call (codeAny_mono (Ml (CX:=CX) (E:=E) S hr (I2.Ln.wo g3) e1 ⟨c',oc,ovs,tk,rfl,e2,d2,q2⟩ iJ ⟨kN,e3,d3⟩ rc ru (wF u cc c' pm uC) (hb fo cc c' s2 (wo H2 cc)) hq) fun r s' wG=>?_);cases r with
  |error e=>exact Lv pins σ H2 s2 e s' cc kN I2 g3 wG
  |ok fl=>
   cases fl with
   |ret u'=>exact I2.after (CE.back I2.cL g3 Wr wG)
   |next=>exact False.elim wG
   |brk=>exact False.elim wG
   |cont=>exact False.elim wG
noncomputable def TabOk (qual:Str) (lp:Pos) (H:Hp) (ps:Array zc9):Prop:=
 ps = #[]\/∃(c':zc8) (oc:Obj) (vs:Array zc9) (tk:Nat),ps = #[rawInt lp.line,rawInt lp.col,.ref c']/\H c'=some (fQ c' oc)/\oc.data=.fields vs/\vs[1]?=some (.str qual tk)
structure iK(K:zaa)(mg:Str->Option zc9)(base:Heap)(c P:zc8):Prop where
 hd:PySem.W.CodeHd base c P
 bm:∃bm o,mg "__builtins__"=some (.ref bm)/\bm≠builtinsNs/\bm≠zdf/\base.get? bm=some o/\o.cls=.type "module"/\o.dict=some builtinsNs/\o.data=.plain
noncomputable def Ws (cy:zc8->Prop) (P:zc8) (y qual:Str) (params:Arguments) (body:Expr) (scope:Scope) (lp:Pos):TE:=fun _ H Q=>∃ps,H P=some (.oZ ps)/\TabOk qual lp H ps/\
 ∀(fo cc c':zc8) (pm uC:zc9) (oc:Obj) (vs Cu:Array zc9) (tk:Nat) (H':Hp),cy cc->H fo=none->(∀b o,b≠P->H b=some o->H' b=some o)->(∀b,H' b≠none->H b≠none\/b=fo\/b=c')->
  H' fo=some (fQ fo (zbM "<lambda>" qual params body scope [(y,cc)] pm c' uC))->H' c'=some (fQ c' oc)->oc.data=.fields vs->vs[1]?=some (.str qual tk)->H' P=some (.oZ Cu)->TabOk qual lp H' Cu->Q (.ref fo) H'
noncomputable def eZ (H:Hp) (P:zc8) (ps:Array zc9) (c':zc8) (oc:Obj) (fo:zc8) (ob:Obj):Hp:=upd (upd (upd H P (.oZ ps)) c' (fQ c' oc)) fo (fQ fo ob)
section
variable{H:Hp}{P:zc8}{ps:Array zc9}{c':zc8}{oc:Obj}{fo:zc8}{ob:Obj}
theorem eZ.keep(hF:H fo=none)(hc:H c'=some (fQ c' oc)\/H c'=none){b:zc8}{o:HO}(n:b≠P)(e:H b=some o):eZ H P ps c' oc fo ob b=some o:=by
 unfold eZ;rw[av (aj e hF)];by_cases z:b=c'
 ·subst z;rcases hc with q |q
  ·rw[ah,<- q,e]
  ·rw[q] at e;cases e
 ·rw[av z,av n,e]
theorem eZ.back(hP:H P≠none){b:zc8}(n:eZ H P ps c' oc fo ob b≠none):H b≠none\/b=fo\/b=c':=by
 by_cases z1:b=fo
 ·exact .inr (.inl z1)
 ·by_cases z2:b=c'
  ·exact .inr (.inr z2)
  ·by_cases z3:b=P
   ·rw[z3];exact .inl hP
   ·unfold eZ at n;rw[av z1,av z2,av z3] at n;exact .inl n
theorem eZ.YL:eZ H P ps c' oc fo ob fo=some (fQ fo ob):=ah
theorem eZ.c_(n:c'≠fo):eZ H P ps c' oc fo ob c'=some (fQ c' oc):=by unfold eZ;rw[av n,ah]
theorem eZ.P_(n1:P≠fo)(n2:P≠c'):eZ H P ps c' oc fo ob P=some (.oZ ps):=by unfold eZ;rw[av n1,av n2,ah]
end
theorem Inv.lam{X:Cx}{pins:List (zc8×Obj)}{σ:St}{H:Hp}{s:zdi}{P fo c':zc8}{ps more:Array zc9}{h1:Heap}{oc ob:Obj}{tk:Nat}(I:Inv X pins σ H s)(hP:H P=some (.oZ ps))(hx:Heap.ExtBut P s.heap h1)(gP:h1.get? P=some (zcU (ps++more)))
 (Ss:s.heap.objs.size<=fo) (hc:H c'=some (fQ c' oc)\/s.heap.objs.size<=c') (nf:c'≠fo) (gc:h1.get? c'=some oc) (gf:h1.get? fo=some ob):Inv X pins σ (eZ H P (ps++more) c' oc fo ob) {s with heap:=h1,toks:=tk}:=by
 have nP:∀ {b:zc8},H b=none->b≠P:=fun {b} n z=>by rw[z,hP] at n;cases n
 have hF:H fo=none:=I.cL.fresh Ss;have cP:c'≠P:=fun z=>by
  rcases hc with e |e
  ·rw[z,hP] at e;cases e
  ·have:=I.cL.fresh e;rw[z,hP] at this;cases this
 have fP:fo≠P:=nP hF;have Ut:∀ {b:zc8},b≠fo->b≠c'->b≠P->eZ H P (ps++more) c' oc fo ob b=H b:=fun n1 n2 n3=>by
  unfold eZ;rw[av n1,av n2,av n3]
 have E7:∀ {b:zc8} {u:HO},H b=some u->(∀Cu,u≠.oZ Cu)->eZ H P (ps++more) c' oc fo ob b=some u:=fun {b u} e nt=>by
  have n1:b≠fo:=aj e hF;have n3:b≠P:=fun z=>by rw[z,hP] at e;cases e;exact nt _ rfl
  by_cases n2:b=c'
  ·subst n2;rcases hc with z |z
   ·rw[e] at z;cases z;unfold eZ;rw[av n1,ah]
   ·rw[I.cL.fresh z] at e;cases e
  ·rw[Ut n1 n2 n3];exact e
 have Su:∀ {b:zc8} {o:Obj},s.heap.get? b=some o->H b=none->eZ H P (ps++more) c' oc fo ob b=none:=fun {b o} e n=>by
  have lt:=Heap.lt_size e;have n1:b≠fo:=fun z=>by rw[z] at lt;exact absurd (zay lt Ss) (zaP _)
  have n2:b≠c':=fun z=>by
   rcases hc with q |q
   ·rw[z,q] at n;cases n
   ·rw[z] at lt;exact absurd (zay lt q) (zaP _)
  rw[Ut n1 n2 (nP n)];exact n
 refine I.call (g':=s.gens) (d':=s.drawn) (t':=tk) (ch:=[]) ⟨fun b o e n _ _=>hx b o (nP n) e,fun b o e n _ _=>⟨o.slots,hx b o (nP n) e⟩,fun b o e n _=>Su e n,fun b o e _=>?_,fun b xs e=>E7 e (fun _ z=>by cases z),fun b o u e=>E7 e (fun _ z=>by cases z),fun b Cu e=>?_⟩ (fun b u q=>?_) I.bare (fun b z=>absurd z (by simp))
 ·by_cases z:b=P
  ·exact⟨_,by rw[z];exact gP⟩
  ·exact⟨o,hx b o z e⟩
 ·by_cases z:b=P
  ·subst z;rw[hP] at e;cases e;refine⟨more,?_⟩;unfold eZ;rw[av fP.symm,av cP.symm,ah]
  ·refine⟨#[],?_⟩;have n1:b≠fo:=aj e hF;have n2:b≠c':=fun y=>by
    rcases hc with q |q
    ·rw[y,q] at e;cases e
    ·rw[y,I.cL.fresh q] at e;cases e
   rw[Ut n1 n2 z,e];simp
 ·by_cases z1:b=fo
  ·subst z1;unfold eZ at q;rw[ah] at q;cases q;exact fQ.ok gf
  ·by_cases z2:b=c'
   ·subst z2;unfold eZ at q;rw[av z1,ah] at q;cases q;exact fQ.ok gc
   ·by_cases z3:b=P
    ·subst z3;unfold eZ at q;rw[av z1,av z2,ah] at q;cases q;exact gP
    ·rw[Ut z1 z2 z3] at q;refine(I.cL b u q).uN (fun c v hcv r=>hx c v ?_ r) (fun c r=>E7 r (fun _ z=>by cases z)) fun c xs r=>E7 r (fun _ z=>by cases z);rcases hcv with rfl |r2
     ·exact z3
     ·intro z;rw[z,hP] at r2;cases r2
theorem Pd{X:Cx}{c P:zc8}{y qual:Str}{params:Arguments}{body:Expr}{scope:Scope}{lp:Pos}(B:iK X.K X.mg X.base c P)(Ny:X.env.code=.ref c)(hq:X.env.qual ++ "<lambda>"=qual)
 (hcy:∃cc,X.env.cells.lookup y=some cc/\closureFor scope X.env=pure [(y,cc)]) (Wt:defaultsOf params X.env=([],[])) :
 PE X (.Lambda params body scope lp) (Ws (fun cc=>X.env.cells.lookup y=some cc) P y qual params body scope lp):=by
 intro pins s σ H Q I h;obtain⟨ps,hP,tok,q⟩:=h;obtain⟨cc,Pe,QH⟩:=hcy;have gP:s.heap.get? P=some (zcU ps):=I.cL P _ hP;have hgP:zdf≠P:=fun z=>by
  obtain⟨o,es,ep,e,_⟩:=I.mod.glob;have:=(I.bs _ _ e).2;rw[z,hP] at this;cases this
 have hb:s.heap.BuiltinsAt X.mg P:=by
  obtain⟨bm,o,e1,e2,e3,e4,r⟩:=B.bm;have nbP:bm≠P:=fun z=>by
   have:=(I.bs _ _ e4).2;rw[z,hP] at this;cases this
  exact⟨bm,o,e1,e2,e3,nbP,(I.bs _ _ e4).1,r⟩
 have C:PySem.W.CodeHd s.heap c P:=B.hd.keeps I.bk;have YM:TriplesOk ps.toList:=by
  rcases tok with rfl |⟨c',oc,vs,tk,rfl,_⟩
  ·trivial
  ·exact trivial
 have nP:∀ {b:zc8},H b=none->b≠P:=fun {b} n z=>by rw[z,hP] at n;cases n
 refine PySem.W.kla_eval Wt ?_;rw[hq];rcases tok with rfl |⟨c',oc,vs,tk,rfl,hc,d1,d2⟩
 ·refine PySem.W.kla_makeFunction QH I.ok.glob (I.mod.glob.keeps I.bk) Ny C gP YM rfl hgP hb fun c' uC h' tk hx Wu o8 JN htb=>?_;obtain⟨c2,oc,vs,t2,e2,QA,d1,d2⟩:=JN;cases e2;have ge:s.heap.objs.size<=h'.objs.size:=zcc (za4 Wu o8);have Nz:H h'.objs.size=none:=I.cL.fresh ge;have nc:H c'=none:=I.cL.fresh Wu;have Pf:c'≠h'.objs.size:=zaD o8;have J:=I.lam (more:=#[rawInt lp.line,rawInt lp.col,.ref c']) (tk:=tk) hP (fun b o n e=>Heap.get?_push_of_some _ (hx b o n e)) (Heap.get?_push_of_some _ htb) ge (.inr Wu) Pf (Heap.get?_push_of_some _ QA) (Heap.get?_push_size h' (o:=zbM "<lambda>" qual params body scope [(y,cc)] ((X.mg "__name__").getD .none) c' uC) rfl);exact⟨.ref h'.objs.size,_,J,rfl,q _ cc c' _ uC oc vs _ t2 _ Pe Nz (fun b o n e=>eZ.keep Nz (.inr nc) n e) (fun b n=>eZ.back (by rw[hP];simp) n) eZ.YL (eZ.c_ Pf) d1 d2 (eZ.P_ (nP Nz).symm (nP nc).symm) (.inr ⟨c',oc,vs,t2,by simp,eZ.c_ Pf,d1,d2⟩)⟩
 ·refine PySem.W.kla_makeFunctionHit (cv:=.ref c') QH I.ok.glob (I.mod.glob.keeps I.bk) Ny C gP YM ?_ hb fun uC h' R9 hk hsz=>?_
  ·exact codeAmong_snoc [] trivial rfl
  ·have Nz:H h'.objs.size=none:=I.cL.fresh hsz;have Pf:c'≠h'.objs.size:=aj hc Nz;have cP:c'≠P:=fun z=>by rw[z,hP] at hc;cases hc
   have J:=I.lam (more:=#[]) (tk:=R9) hP (fun b o n e=>Heap.get?_push_of_some _ (hk b o e)) (by simpa using Heap.get?_push_of_some _ (hk _ _ gP)) hsz (.inl hc) Pf (Heap.get?_push_of_some _ (hk _ _ (fQ.get I.cL hc))) (Heap.get?_push_size h' (o:=zbM "<lambda>" qual params body scope [(y,cc)] ((X.mg "__name__").getD .none) c' uC) rfl);exact⟨.ref h'.objs.size,_,J,rfl,q _ cc c' _ uC oc vs _ tk _ Pe Nz (fun b o n e=>eZ.keep Nz (.inl hc) n e) (fun b n=>eZ.back (by rw[hP];simp) n) eZ.YL (eZ.c_ Pf) d1 d2 (eZ.P_ (nP Nz).symm cP.symm) (.inr ⟨c',oc,vs,tk,by simp,eZ.c_ Pf,d1,d2⟩)⟩
theorem qg.add{P:zdk}{w:zda}{K:zaa}{mg:Str->Option zc9}{base:Heap}{A:zdj}{outer:List Env}{s:zdi}{H:Hp}{a:zc8}{o:Obj}(e:qg P w K mg base A outer s H)(ha:H a=none)(hb:base.get? a=none)(hf:a ∉ cV outer)(g:s.heap.get? a=some o):qg P w K mg base A outer s (upd H a (fQ a o)):=
 ⟨e.frames,e.mod,fun b ob hB=>⟨(e.bs b ob hB).1,by rw[av (fun z=>by rw[z,hb] at hB;cases hB)];exact(e.bs b ob hB).2⟩,e.AU,e.oQ,fun b hB=>by rw[av (fun z:b=a=>hf (by rw[<- z];exact hB))];exact e.KZ b hB,e.cL.add ha g,e.bare⟩
theorem CE.out{outer:List Env}{P:zdk}{w:zda}{H:Hp}{s s':zdi}{Q:VK}{u:zc9}{a:zc8}{o:Obj}(ha:H a=none)(g:s.heap.get? a=some o)(h:CE outer P w (upd H a (fQ a o)) s (fun v H3=>H3 a=some (fQ a o)/\Q v (wo H3 a)) u s'):CE outer P w H s Q u s':=by
 obtain⟨v,H3,os,bare,un,Mn,rv,h3,q⟩:=h;have g3:=fQ.get Mn h3;refine⟨v,wo H3 a,os,bare,⟨fun b ob e n hb hx=>?_,fun b ob e n hb hx=>?_,fun b ob e n hx=>?_,un.there,fun b xs e=>?_,fun b ob x e=>?_,fun b ps e=>?_⟩,Mn.wo h3,rv,q⟩
 ·by_cases z:b=a
  ·rw[z] at e ⊢;rw[g] at e;cases e;exact g3
  ·exact un.keep b ob e (by rw[av z];exact n) hb hx
 ·by_cases z:b=a
  ·rw[z] at e ⊢;rw[g] at e;cases e;exact⟨o.slots,g3⟩
  ·exact un.slot b ob e (by rw[av z];exact n) hb hx
 ·by_cases z:b=a
  ·rw[z];exact iJ
  ·rw[dW z];exact un.free b ob e (by rw[av z];exact n) hx
 ·have ne:b≠a:=aj e ha;rw[dW ne];exact un.vB b xs (by rw[av ne];exact e)
 ·have ne:b≠a:=aj e ha;rw[dW ne];exact un.uO b ob x (by rw[av ne];exact e)
 ·have ne:b≠a:=aj e ha;rw[dW ne];exact un.uP b ps (by rw[av ne];exact e)
noncomputable def JO (cy:zc8->Prop) (i:Nat) (sp:Sp) (E:XK) (t:TA):TE:=fun σ H Q=>t σ H fun vs H1=>∃vc,σ[i]?=some (some vc)/\∀(cc:zc8) (kN:Obj) (uc:zc9),cy cc->H1 cc=none->kN.data=.cell (some uc)->RelV vc uc->
 sp vs (upd H1 cc (fQ cc kN)) (fun v H2=>H2 cc=some (fQ cc kN)/\Q v (wo H2 cc)) E
theorem JP{X:Cx}{CX:AJ}{k i:Nat}{f:zc8}{fd:zdh}{ps:List Str}{sp:Sp}{E:XK}{x y:Str}{p pos:Pos}{e:Expr}{es:List Expr}{t:TA}(F:bz X.prog X.w X.K X.mg X.base CX k f fd ps sp)(hr:gg k X.A)(hg:Gl X x)(hm:X.mg x=some (.ref f))(hk:zaO X.K (.ref f)=true)(hb:Binds X.K fd ps [])
 (Lv:∀pins σ (H:Hp) (s:zdi) e s' a o,Inv X pins σ H s->H a=none->s.heap.get? a=some o->CX X.stack (upd H a (fQ a o)) s E e s'->X.xe e s')
 (ha:PA X (e::es) t) (hN:X.N[i]?=some y) (hy:X.env.scope.names.lookup y=some .cell) (N7:X.fn y=true) (HJ:(x==("__debug__":Str))=false:=by decide) (he:zde (e::es) X.env=(false,eval e X.env)::zde es X.env:=by rfl) (AK:(backTo pos (zde es X.env)).any (·.1)=false:=by rfl) :
 PE X (.Call (.Name x p) (e::es) [] pos) (JO (fun cc=>X.env.cells.lookup y=some cc) i sp E t):=by
 intro pins s σ H Q I h;refine wpAny_Call_Name_kw (vb I hg hm ?_ HJ);refine zcq (h₀:=X.base) I.ok.mod.Rb hk (eD (ha pos pins s σ H _ I h) fun us s1 ⟨vs,H1,I1,r,vc,hσ,q⟩=>⟨I1.CD,?_⟩) he AK;obtain⟨m,hn,hl⟩:=I1.loc;obtain⟨uc,rc,lk⟩:=hl i y vc hN hσ (.inr (.inl hy));rcases lk with ⟨HZ,_⟩ |⟨_,cc,Pe,kN,Wv,dcc⟩
 ·have HZ:X.env.scope.names.lookup y=some .local:=HZ;rw[hy] at HZ;cases HZ
 have NA:=I1.mz y cc Pe;have Li:=I1.ok.Li y cc N7 Pe;have bcc:X.base.get? cc=none:=Heap.get?_none_of_le (zaA I1.ok.AU Li);have Wr:cc ∉ cV X.stack:=fun hb=>by
  rcases zae.mp (I1.vC cc hb) with z |z
  ·exact I1.MZ y cc Pe z
  ·obtain⟨_,o,ho,_⟩:=I1.ok.oQ.mem z;exact absurd (zay (Heap.lt_size ho) Li) (zaP _)
 have Pg:=q cc kN uc Pe NA dcc rc;have hl':(us++[]).length=ps.length:=by rw[zaC,<- r.length];exact F.len _ _ _ _ Pg
 have vo:=hb s1 us I1.CD hl';rw[zaC] at vo;refine wpAny_call (codeAny_mono (F.run X.A X.stack s1 (upd H1 cc (fQ cc kN)) ⟨us,[]⟩ us vs _ E hr (I1.Ln.add NA bcc Wr Wv) vo r Pg) fun r s' wG=>?_);cases r with
 |error e=>exact Lv pins σ H1 s1 e s' cc kN I1 NA Wv wG
 |ok fl=>
  cases fl with
  |ret u'=>exact I1.after (CE.out NA Wv wG)
  |next=>exact False.elim wG
  |brk=>exact False.elim wG
  |cont=>exact False.elim wG
theorem Gw{P:zdk}{w:zda}{K:zaa}{mg mb:Str->Option zc9}{CX:AJ}{k:Nat}{fa a c Pt:zc8}{fd:zdh}{x:Str}{sp:Sp}{s₁:zdi}{vs:List zc9}{ns:List Int}
 (KX:K.In s₁.heap) (Ni:s₁.heap.Ns zdf mg) (hb:s₁.heap.Ns builtinsNs mb) (Ww:∀x:Str,x≠"__name__"->mb x=bootBuiltins x) (Wx:s₁.heap.NoLimit) (hg:s₁.gens = #[])
 (ha:s₁.heap.get? a=some {cls:=.type "list",data:=.seq vs.toArray}) (hi:IntsAre vs ns) (hl:ns.length<=zdg) (hr:gg k callerA) (hd:PySem.W.CodeHd s₁.heap c Pt) (zG:s₁.heap.get? Pt=some (zcU #[])) (Sv:K.lookup Pt=none)
 (Wy:∃bm o,mg "__builtins__"=some (.ref bm)/\bm≠builtinsNs/\bm≠zdf/\s₁.heap.get? bm=some o/\o.cls=.type "module"/\o.dict=some builtinsNs/\o.data=.plain)
 (F:∀base:Heap,K.In base->base.Ns zdf mg->iK K mg base c Pt->bz P w K mg base CX k fa fd [x] sp) (wF:∀(s:zdi) (u:zc9),BindsTo s fd ⟨[u],[]⟩ [(x,u)])
 (K2:∀H:Hp,gM K H a (ns.map V.int)->H Pt=some (.oZ #[])->sp [.ref a] H (fun v _=>v=.bl true) fun _ _ _=>False)
 (Wz:∀H e s',CX [] H s₁ (fun _ _ _=>False) e s'->False) :
 codeAny (model P w) callerA (.call (.ref fa) ⟨[.ref a],[]⟩) (fun r s'=>r=.ok (.ret (.bool true))/\OldK s₁.heap s'.heap/\s'.os=s₁.os/\AllBare s'.gens) s₁:=by
 have rv:=yc hi;have WA:=hi.length;have Uu:a≠Pt:=fun z=>by rw[z,zG] at ha;cases ha
 obtain⟨H,WB,WC,Uv,hS,hK⟩:∃H:Hp,H Pt=some (.oZ #[])/\(H a=none\/H a=some (.KY {cls:=.type "list",data:=.seq vs.toArray} (.lst (ns.map V.int))))/\(∀b,b≠Pt->b≠a->H b=none)/\gM K H a (ns.map V.int)/\(H a≠none->K.lookup a=none):=by
  cases hk:K.lookup a with
  |some o=>
   have e:=KX a o hk;rw[ha] at e;cases e;exact⟨fun b=>if b=Pt then some (.oZ #[]) else none,if_pos rfl,.inl (if_neg Uu),fun b n _=>if_neg n,.inr ⟨_,vs.toArray,_,hk,rfl,rfl,rfl,by rw[zas,WA];exact hl,by simpa using rv⟩,fun z=>absurd (if_neg Uu) z⟩
  |none=>exact⟨fun b=>if b=Pt then some (.oZ #[]) else if b=a then some (.KY {cls:=.type "list",data:=.seq vs.toArray} (.lst (ns.map V.int))) else none,if_pos rfl,.inr ((if_neg Uu).trans (if_pos rfl)),fun b n1 n2=>(if_neg n1).trans (if_neg n2),.inl (.inr ⟨_,(if_neg Uu).trans (if_pos rfl)⟩),fun _=>rfl⟩
 have cL:my P w H s₁.heap:=fun b u q=>by
  by_cases z:b=Pt
  ·subst z;rw[WB] at q;cases q;exact zG
  ·by_cases z2:b=a
   ·subst z2;rcases WC with e |e
    ·rw[e] at q;cases q
    ·rw[e] at q;cases q;exact⟨ha,by rw[zad];exact hl,vs,_,rv,ha⟩
   ·rw[Uv b z z2] at q;cases q
 have free:∀ {b:zc8} {o:Obj},s₁.heap.get? b=some o->(∀xs n,o.data≠.seq xs n)->(∀fs,o.data≠.fields fs\/o.cls≠.none)->H b=none:=fun {b o} e n1 n2=>by
  refine Uv b (fun z=>?_) (fun z=>?_)
  ·rw[z,zG] at e;cases e;exact(n2 #[]).elim (fun q=>q rfl) fun q=>q rfl
  ·rw[z,ha] at e;cases e;exact n1 _ _ rfl
 have Uw:∀ {b:zc8} {m:Str->Option zc9},s₁.heap.Ns b m->(yQ s₁.heap H).Ns b m:=fun {b m} ⟨o,es,ep,e,d,r⟩=>⟨o,es,ep,qL e (free e (fun _ _ z=>by rw[d] at z;cases z) fun _=>.inl fun z=>by rw[d] at z;cases z),d,r⟩
 have YN:K.In (yQ s₁.heap H):=fun b o e=>qL (KX b o e) (by
  by_cases z:b=Pt
  ·rw[z,Sv] at e;cases e
  ·by_cases z2:b=a
   ·rcases WC with q |q
    ·rw[z2];exact q
    ·rw[z2,hK (by rw[q];simp)] at e;cases e
   ·exact Uv b z z2)
 have hM:Mod K mg (yQ s₁.heap H):=⟨YN,Uw Ni,⟨mb,Uw hb,Ww⟩,let ⟨mc,h1,h2⟩:=Wx;⟨mc,Uw h1,h2⟩⟩
 have e0:qg P w K mg (yQ s₁.heap H) callerA [] s₁ H:=⟨rfl,hM,fun b o e=>Lh e,zc4 (Fv _ _),trivial,fun b hb=>absurd (show b∈([]:List zc8) from hb) (by simp),cL,.of_eq hg⟩
 have hL:iK K mg (yQ s₁.heap H) c Pt:=by
  refine⟨?_,?_⟩
  ·obtain⟨o,WD,file,tf,flags,tg,YO,text,tt,e1,r1,r2,r⟩:=hd;exact⟨o,WD,file,tf,flags,tg,YO,text,tt,qL e1 (free e1 (fun _ _ z=>by rw[r2] at z;cases z) fun _=>.inr fun z=>by rw[r1] at z;cases z),r1,r2,r⟩
  ·obtain⟨bm,o,e1,e2,e3,e4,r1,r2,r3⟩:=Wy;exact⟨bm,o,e1,e2,e3,qL e4 (free e4 (fun _ _ z=>by rw[r3] at z;cases z) fun _=>.inl fun z=>by rw[r3] at z;cases z),r1,r2,r3⟩
 refine codeAny_mono ((F _ YN (Uw Ni) hL).run callerA [] s₁ H ⟨[.ref a],[]⟩ [.ref a] [.ref a] _ _ hr e0 (wF s₁ (.ref a)) (.cons rfl .nil) (K2 H hS WB)) fun r s' h=>?_;cases r with
 |error e=>exact(Wz H e s' h).elim
 |ok fl=>
  cases fl with
  |next=>exact False.elim h
  |brk=>exact False.elim h
  |cont=>exact False.elim h
  |ret u=>
   obtain⟨v,H',os,bare,un,Sw,r',q⟩:=h;have q':v=.bl true:=q;subst q';obtain rfl:u=Value.bool true:=r';refine⟨rfl,⟨fun b o e=>?_,fun b o e=>un.there b o e (by simp)⟩,os,bare⟩;by_cases z:b=Pt
   ·subst z;rw[zG] at e;cases e;obtain⟨more,em⟩:=un.uP b _ WB;have g':=Sw b _ em;obtain⟨oc,WD,file,tf,flags,tg,YO,text,tt,e1,r1,r2,r3,_⟩:=hd;exact .inr (.inl ⟨⟨c,oc,WD,e1,r1,r2,r3⟩,rfl, #[],more,rfl,g'⟩)
   ·refine .inl ?_;by_cases z2:b=a
    ·subst z2;rcases WC with n |n
     ·exact un.keep b o e n (by intro z;exact absurd (show b∈([]:List zc8) from z) (by simp)) (by simp)
     ·have z3:=un.uO b _ _ n;obtain⟨e2,_⟩:=Sw b _ z3;rw[ha] at e;cases e;exact e2
    ·exact un.keep b o e (Uv b z z2) (by intro z;exact absurd (show b∈([]:List zc8) from z) (by simp)) (by simp)
theorem JQ{l:PySem.W.OpenLaw}{n k:Nat}{q:zdk}{loose:List Str}{XP:(Str->Option zc9)->Heap->Prop}{YP:zda->Heap->Prop}{d dF:DefRec}{K:Params->zaa}{CX:zda->AJ}{sp:zda->Sp}{x fn:Str}{c Pt:zc8}
 (hn:l.most=some n) (HC:n<=zdg) (RL:d.params.defaults=[]) (hr:gg k callerA)
 (hY:∀(w:zda) (h:Heap),YP w h->(K w.params).In h) (JN:(recsOf q).find? (fun e=>e.name==fn)=some dF) (JR:∀w:zda,zb9 (K w.params) fn=some (c,Pt)) (Sv:∀w:zda,(K w.params).lookup Pt=none)
 (F:∀(w:zda) (mg:Str->Option zc9) (fa:zc8) (h:Heap),(K w.params).In h->h.Ns zdf mg->mg d.name=some (.ref fa)->
  ∃fd:zdh,(∀(s:zdi) (u:zc9),BindsTo s fd ⟨[u],[]⟩ [(x,u)])/\
   ∀base:Heap,(K w.params).In base->base.Ns zdf mg->iK (K w.params) mg base c Pt->bz l.prog w (K w.params) mg base (CX w) k fa fd [x] (sp w))
 (K2:∀(w:zda) (H:Hp) (a:zc8) (ns:List Int),ns.length<=n->gM (K w.params) H a (ns.map V.int)->H Pt=some (.oZ #[])->sp w [.ref a] H (fun v _=>v=.bl true) fun _ _ _=>False)
 (Wz:∀(w:zda) (H:Hp) (s:zdi) (e:zc9) (s':zdi),CX w [] H s (fun _ _ _=>False) e s'->False) :
 PySem.W.WalkO q loose XP YP l.row.toRowW d [] (fun f vs=>PySem.call f vs):=by
 refine Yw.A6 hn RL fun w s₀ s₁ mg mb fa o pm cd doc a vs ns G Y ho hd CH OF OG hints hlen hg=>?_;have KX:=hY w _ Y;obtain⟨fd,hb,hF⟩:=F w mg fa _ KX G.T.g OF;obtain⟨Uj,hd2⟩:=PySem.W.tab_of G.T KX JN (JR w);have Wy:∃bm o,mg "__builtins__"=some (.ref bm)/\bm≠builtinsNs/\bm≠zdf/\s₁.heap.get? bm=some o/\o.cls=.type "module"/\o.dict=some builtinsNs/\o.data=.plain:=by
  obtain⟨bm,ob,b1,b2,b3,b4,b5,b6⟩:=G.T.bmain;refine⟨bm,ob,b1,b2,fun z=>?_,b3,b4,b5,b6⟩;obtain⟨o,es,ep,e,hd,_⟩:=G.T.g;rw[z,e] at b3;cases b3;rw[hd] at b6;cases b6
 exact Gw KX G.T.g G.T.b G.T.builtins G.T.nolimit hg OG hints (zaA hlen HC) hr Uj hd2 (Sv w) Wy hF hb (fun H hS hP=>K2 w H a ns hlen hS hP) fun H e s'=>Wz w H s₁ e s'
noncomputable def tR (K:zaa) (f c:zc8):Prop:=∀oc od fd Es,K.lookup f=some ⟨oc,od,.func fd,Es⟩->fd.code=.ref c
theorem JS{K:zaa}{x:Str}{f c P:zc8}(h:zb9 K x=some (c,P))(hn:zaL K zdf x=some (some (.ref f))):tR K f c:=by
 intro oc od fd Es hl;unfold zb9 at h;rw[hn] at h;simp only[hl] at h;split at h
 ·rename_i c2 hc;split at h
  ·split at h
   ·cases h;exact hc
   ·cases h
  ·cases h
 ·cases h
section
variable{P:zdk}{w:zda}{K:zaa}{mg:Str->Option zc9}{base:Heap}
theorem Cq.okC{x qual:Str}{st:Stmt}{f c:zc8}{fd:zdh}{N ps:List Str}{k:Nat}{sp:Sp}(F:Cq K x qual st f fd)(S:aX N ps (az st))(hc:tR K f c)(len:∀vs H Q E,sp vs H Q E->vs.length=ps.length)
 (qR:∀(A:zdj) (outer:List Env) (s:zdi) (H:Hp) (vs:List V) (Q:VK) (E:XK),gg k (A.deeper (envOfC qual (az st) s.heap.objs.size f (.ref c)))->sp vs H Q E->
  ∃t σ,CG (lA de P w K mg base N qual (az st) f (.ref c) A outer s H E).CI (cJ st) t/\start N vs=σ/\t {nx:=fun _ H'=>Q .b9 H',rt:=Q} σ H):bz P w K mg base de (k+1) f fd ps sp:=by
 obtain⟨oc,od,kV,doc,pm,an,dY,ct,Es,rfl,lk,CH⟩:=F.ex;have e:dY=.ref c:=hc _ _ _ _ lk;subst e;refine M9 lk CH S len fun A outer s H vs Q E hr K2=>?_;obtain⟨t,σ,h,e,q⟩:=qR A outer s H vs Q E hr K2;subst e;exact⟨t,h.CI,q⟩
end
noncomputable def gJ (st:Stmt):Expr:=match cJ st with
 |[.Return (some (.Call _ [_,l] _ _)) _]=>l
 |_=>.Constant .none 0 ⟨0,0,0,0⟩
noncomputable def DF:Expr->Arguments
 |.Lambda p _ _ _=>p
 |_=>{posonlyargs:=[],args:=[],vararg:=none,kwonlyargs:=[],kw_defaults:=[],kwarg:=none,defaults:=[]}
noncomputable def vp:Expr->Expr
 |.Lambda _ b _ _=>b
 |e=>e
noncomputable def kO:Expr->Scope
 |.Lambda _ _ s _=>s
 |_=>{kind:=.function,names:=[],isGenerator:=false,isCoroutine:=false}
noncomputable def qt:Expr->Pos
 |.Lambda _ _ _ p=>p
 |_=>⟨0,0,0,0⟩
noncomputable def Gx (y qual:Str) (l:Expr) (H:Hp) (fo cc:zc8) (kN:Obj) (vc:V):Prop:=Nx y "<lambda>" qual (DF l) (vp l) (kO l) H fo cc kN vc
noncomputable def c5 (pr:PG.Prog) (s:PG.bM):List PG.bM:=if s.1=0 then [] else if gE pr.body s.1=true then (zaJ 10).map fun f=>((cm pr s.1 s.2 (f:Nat)).1.getD s) else (cm pr s.1 s.2 0).1.toList
theorem rJ{pr:PG.Prog}(d:iA pr){s:PG.bM}(h:cZ pr s):∀x∈c5 pr s,cZ pr x:=by
 intro x hx;unfold c5 at hx;split at hx
 ·cases hx
 ·rename_i h0;split at hx
  ·rename_i ha;obtain⟨f,_,rfl⟩:=zaF.mp hx;cases e:(cm pr s.1 s.2 (f:Nat)).1 with
   |none=>exact h
   |some y=>exact h.next d h0 e
  ·rw[Option.mem_toList] at hx;exact h.next d h0 hx
theorem cx.upL{K:zaa}{H H':Hp}{D a:zc8}{row:Int}{vals:List Int}{ys:List V}(h:cx K H a row vals)(hD:H D=some (.lst ys))(u:aT D H H'):cx K H' a row vals:=let ⟨va,h1,h2⟩:=h;⟨va,h1.BB hD u,h2.BB hD u⟩
theorem rK{K:zaa}{H H':Hp}{g:List PG.bM}{us:List V}(h:jq K H g us)(f:∀a row vals,cx K H a row vals->cx K H' a row vals):jq K H' g us:=Paired.AS h fun _ _ ⟨a,e,q⟩=>⟨a,e,f _ _ _ q⟩
theorem BJ{K:zaa}{H:Hp}:∀ {g:List PG.bM} {us:List V} {x:PG.bM} {a:zc8},jq K H g us->cx K H a x.1 x.2->jq K H (g++[x]) (us++[.ref a])
 |[],_,_,_,h,q=>by cases h;exact .cons ⟨_,rfl,q⟩ .nil
 |_::_,_,_,_,h,q=>by
  cases h with
  |cons a b=>exact .cons a (BJ b q)
section
variable(P:zdk)(w:zda)(K:zaa)(CC:zc8)
noncomputable def JT:Sp:=fun vs H Q _=>∃(ch sa:zc8) (pr:PG.Prog) (s:PG.bM),vs=[.ref ch,.ref sa]/\ql K CC H ch pr/\iA pr/\cx K H sa s.1 s.2/\cZ pr s/\
 ∀l us H',au H H'->H l=none->H' l=some (.lst us)->jq K H' (c5 pr s) us->Q (.ref l) H'
end
noncomputable abbrev jd:=List (PG.bM×List Int)
noncomputable def mE (led:PG.bM->List PG.bM):Nat->jd->PG.bM->List Int->jd×Option (List PG.bM)
 |0,f,_,_=>(f,none)
 |n+1,f,s,g=>if s∈f.map (·.1) then (f,none) else match led s with
  |[t]=>mE led n (f++[(s,g)]) t g
  |l=>(f++[(s,g)],some l)
noncomputable def gX (K:zaa) (H:Hp) (f:jd) (aC:List (qo×V)):Prop:=Paired (fun (x:PG.bM×List Int) (kv:qo×V)=>kv.1=qp x.1/\∃a,kv.2=.ref a/\cu K H a (x.2.map V.int)) f aC
section
variable{K:zaa}{H H':Hp}
theorem gX.imp{f:jd}{aC:List (qo×V)}(h:gX K H f aC)(t:∀a xs,cu K H a xs->cu K H' a xs):gX K H' f aC:=Paired.AS h fun _ _ ⟨e,a,e2,q⟩=>⟨e,a,e2,t _ _ q⟩
theorem gX.WE:∀ {f:jd} {aC:List (qo×V)},gX K H f aC->∀s:PG.bM,(b8 aC (qp s)).isSome=decide (s∈f.map (·.1))
 |[],_,h,s=>by cases h;rfl
 |x::r,_,h,s=>by
  cases h with
  |@cons _ kv _ _ a b=>
   obtain⟨k,v⟩:=kv;obtain⟨e,_⟩:=a;simp only at e;subst e;by_cases z:x.1=s
   ·rw[cD (by rw[z]),zaq,z];simp
   ·rw[cE (fun y=>z (BD y)),gX.WE b s,zaq];simp[Ne.symm z]
theorem gX.len{f:jd}{aC:List (qo×V)}(h:gX K H f aC):aC.length=f.length:=(Paired.length h).symm
theorem gX.put{f:jd}{aC:List (qo×V)}(h:gX K H f aC){s:PG.bM}{g:List Int}{a:zc8}(n:s ∉ f.map (·.1))(q:cu K H a (g.map V.int)):gX K H (f++[(s,g)]) (putK aC (qp s) (.ref a)):=by
 unfold putK;rw[jM,h.WE,decide_eq_false n,if_neg zaf];exact Paired.snoc h ⟨rfl,a,rfl,q⟩
end
section
variable(P:zdk)(w:zda)(K:zaa)(CC:zc8)(l:Expr)(qual:Str)
noncomputable def JU (H0 H:Hp) (us:List V) (gv:V):Option (List PG.bM)->Prop
 |none=>us=[]
 |some Ux=>∃ta la sV,us=[.ref ta]/\cu K H ta [gv,.ref la]/\H0 la=none/\H la=some (.lst sV)/\jq K H Ux sV
noncomputable def Ph:Sp:=fun vs H Q _=>∃(sa fo D ga cc ch:zc8) (kN:Obj) (pr:PG.Prog) (s:PG.bM) (f:jd) (g:List Int) (aC:List (qo×V)),vs=[.ref sa,.ref fo,.ref ga,.ref D]/\ql K CC H ch pr/\iA pr/\cx K H sa s.1 s.2/\cZ pr s/\Gx "chart" qual l (wo H D) fo cc kN (.ref ch)/\
 cu K H ga (g.map V.int)/\DS qI P w K H D aC/\gX K H f aC/\(f.map (·.1)).Nodup/\(∀x∈f,cZ pr x.1)/\ba pr<2000/\
 ∀L us Sx H',aT D H H'->H L=none->H' L=some (.lst us)->DS qI P w K H' D Sx->gX K H' (mE (c5 pr) (ba pr+1) f s g).1 Sx->JU K H H' us (.ref ga) (mE (c5 pr) (ba pr+1) f s g).2->Q (.ref L) H'
end
theorem Gx.mono{y qual:Str}{l:Expr}{H H':Hp}{fo cc:zc8}{kN:Obj}{vc:V}(h:Gx y qual l H fo cc kN vc)(s:au H H'):Gx y qual l H' fo cc kN vc:=by
 obtain⟨c',pm,uC,uc,oc,vs,tk,g1,g2,d2,q2,g3,d3,rc⟩:=h;exact⟨c',pm,uC,uc,oc,vs,tk,s _ _ g1,s _ _ g2,d2,q2,s _ _ g3,d3,rc⟩
theorem JV{H H':Hp}{D:zc8}(u:aT D H H'):au (wo H D) H':=fun b o e=>by
 by_cases z:b=D
 ·subst z;rw[iJ] at e;cases e
 ·rw[dW z] at e;exact u b o z e
theorem nJ{H:Hp}{D:zc8}{o:HO}:wo (upd H D o) D=wo H D:=funext fun b=>by
 by_cases z:b=D
 ·subst z;rw[iJ,iJ]
 ·rw[dW z,dW z,av z]
theorem vq{H H':Hp}{D:zc8}(s:au H H')(n:H D=none):au H (wo H' D):=fun b o e=>by
 rw[dW (aj e n)];exact s b o e
theorem Mo{H H':Hp}{D:zc8}(s:au H H'):au (wo H D) (wo H' D):=fun b o e=>by
 by_cases z:b=D
 ·subst z;rw[iJ] at e;cases e
 ·rw[dW z] at e ⊢;exact s b o e
theorem uG{H:Hp}{D:zc8}:au (wo H D) H:=JV (.refl _ _)
theorem Pj{H H':Hp}{D b:zc8}(u:aT D H H'):aT D (wo H b) (wo H' b):=fun a o n e=>by
 by_cases z:a=b
 ·subst z;rw[iJ] at e;cases e
 ·rw[dW z] at e ⊢;exact u a o n e
theorem vt{H:Hp}{a:zc8}:aT a H (wo H a):=fun b o n e=>by rw[dW n];exact e
theorem Mp{H H3:Hp}{a:zc8}{o:Obj}(ha:H a=some (fQ a o))(s:au (wo H a) H3):au H (upd H3 a (fQ a o)):=fun b u e=>by
 by_cases z:b=a
 ·subst z;rw[ha] at e;cases e;exact ah
 ·rw[av z];exact s b u (by rw[dW z];exact e)
section
variable{K:zaa}{H H':Hp}{p:zc8}{φ:Heap->Prop}
mutual
theorem Mq(h:H p=some (.ext φ))(u:aT p H H'):∀(d:Dp) (v:V),Rep K H d v->Rep K H' d v
 |.b9,v,r=>by rw[Rep.qZ] at r ⊢;exact r
 |.bl b,v,r=>by rw[Rep.mY] at r ⊢;exact r
 |.int b,v,r=>by rw[Rep.bF] at r ⊢;exact r
 |.str b,v,r=>by rw[Rep.bY] at r ⊢;exact r
 |.lst l,v,r=>by
  rw[Rep.cg] at r ⊢;obtain⟨a,ys,rfl,q,rs⟩:=r;refine⟨a,ys,rfl,?_,nK h u l ys rs⟩;rcases q with (q |⟨o,q⟩) |q
  ·exact .inl (.inl (u _ _ (bN q h (by intro z;cases z)) q))
  ·exact .inl (.inr ⟨o,u _ _ (bN q h (by intro z;cases z)) q⟩)
  ·exact .inr q
 |.tup l,v,r=>by
  rw[Rep.br] at r ⊢;obtain⟨a,ys,rfl,q,rs⟩:=r;exact⟨a,ys,rfl,q.nI h u,nK h u l ys rs⟩
theorem nK(h:H p=some (.ext φ))(u:aT p H H'):∀(ds:List Dp) (vs:List V),aI K H ds vs->aI K H' ds vs
 |[],vs,r=>by rw[aI.bI] at r ⊢;exact r
 |d::ds,vs,r=>by
  rw[aI.aF] at r ⊢;obtain⟨v,t,rfl,r1,r2⟩:=r;exact⟨v,t,rfl,Mq h u d v r1,nK h u ds t r2⟩
end
theorem ql.ext{C ch:zc8}{pr:PG.Prog}(c:ql K C H ch pr)(h:H p=some (.ext φ))(u:aT p H H'):ql K C H' ch pr:=by
 obtain⟨dx,nl,sd,fa,va,st,wy,us,ws,h1,h2,h3,h4,h5,h6,h7,h8,h9,Gj,Hb,K7⟩:=c.at_;have k:∀ {b:zc8} {o:HO},H b=some o->(∀ψ,o≠.ext ψ)->H' b=some o:=fun {b o} e n=>u _ _ (bN e h (n φ)) e;exact⟨⟨dx,nl,sd,fa,va,st,wy,us,ws,k h1 (fun _ z=>by cases z),k h2 (fun _ z=>by cases z),k h3 (fun _ z=>by cases z),k h4 (fun _ z=>by cases z),k h5 (fun _ z=>by cases z),k h6 (fun _ z=>by cases z),h7,k h8 (fun _ z=>by cases z),nK h u _ _ h9,Gj,k Hb (fun _ z=>by cases z),fun i hi=>let ⟨q,e,r⟩:=K7 i hi;⟨q,e,r.nI h u⟩⟩⟩
end
end L2
namespace L2
open PySem PySem.Spec PyProof.Rows
noncomputable def pG (g:List Int):Option (List PG.bM)->List (List Int×List PG.bM)
 |none=>[]
 |some l=>[(g,l)]
noncomputable def cW (led:PG.bM->List PG.bM) (n:Nat):jd->jd->jd×List (List Int×List PG.bM)
 |f,[]=>(f,[])
 |f,(s,g)::r=>((cW led n (mE led n f s g).1 r).1,pG g (mE led n f s g).2++(cW led n (mE led n f s g).1 r).2)
noncomputable def bT (as:List (List Int×List PG.bM)):jd:=as.flatMap fun a=>(zaJ a.2.length).map fun i:Nat=>(a.2.getD i (0,[]),a.1++[((i:Nat):Int)])
noncomputable def oS (led:PG.bM->List PG.bM) (n:Nat):Nat->jd->List (List Int×List PG.bM)->jd
 |0,f,_=>f
 |m+1,f,as=>if as=[] then f else oS led n m (cW led n f (bT as)).1 (cW led n f (bT as)).2
noncomputable def cF (pr:PG.Prog) (s:PG.bM):jd:=oS (c5 pr) (ba pr+1) (ba pr+2) (mE (c5 pr) (ba pr+1) [] s []).1 (pG [] (mE (c5 pr) (ba pr+1) [] s []).2)
section
variable(P:zdk)(w:zda)(K:zaa)(CC:zc8)(l:Expr)(qual:Str)
noncomputable def BK:Sp:=fun vs H Q _=>∃(sa fo cc ch:zc8) (kN:Obj) (pr:PG.Prog) (s:PG.bM),vs=[.ref sa,.ref fo]/\ql K CC H ch pr/\iA pr/\cx K H sa s.1 s.2/\cZ pr s/\Gx "chart" qual l H fo cc kN (.ref ch)/\ba pr<2000/\
 ∀D aC H',au H H'->H D=none->DS qI P w K H' D aC->gX K H' (cF pr s) aC->Q (.ref D) H'
noncomputable def Gy (Pt:zc8) (lp:Pos):Sp:=fun vs H Q _=>∃(ch:zc8) (pr:PG.Prog) (ps:Array zc9),vs=[.ref ch]/\ql K CC H ch pr/\iA pr/\ba pr<2000/\H Pt=some (.oZ ps)/\TabOk qual lp H ps/\
 ∀D aC H' Cu,aT Pt H H'->H D=none->DS qI P w K H' D aC->gX K H' (cF pr (PG.bc pr.body 0,pr.aA.map (·.first))) aC->H' Pt=some (.oZ Cu)->TabOk qual lp H' Cu->Q (.ref D) H'
end
section
variable{led:PG.bM->List PG.bM}{S:PG.bM->Prop}
structure wH(S:PG.bM->Prop)(f:jd):Prop where
 nd:(f.map (·.1)).Nodup
 Cv:∀x∈f,S x.1
theorem wH.nil:wH S []:=⟨zbR,fun x h=>by cases h⟩
theorem wH.put{f:jd}{s:PG.bM}{g:List Int}(h:wH S f)(n:s ∉ f.map (·.1))(hs:S s):wH S (f++[(s,g)]):=by
 refine⟨?_,fun x hx=>?_⟩
 ·rw[zaw];exact zbP.mpr ⟨h.nd,by simp,fun a ha b hb=>by rw[zaq,zbl,zag] at hb;rw[hb];exact fun y=>n (by rw[<- show a=s from y];exact ha)⟩
 ·rcases zao.mp hx with hx |hx
  ·exact h.Cv x hx
  ·rw[zag.mp hx];exact hs
structure rL(S:PG.bM->Prop)(m:Nat)(as:List (List Int×List PG.bM)):Prop where
 Cv:∀a∈as,∀x∈a.2,S x
 len:∀a∈as,a.1.length<=m
theorem rL.nil{m:Nat}:rL S m []:=⟨fun a h=>(by cases h),fun a h=>(by cases h)⟩
theorem rL.app{m:Nat}{as bs:List (List Int×List PG.bM)}(h:rL S m as)(h2:rL S m bs):rL S m (as++bs):=⟨fun a ha=>(zao.mp ha).elim (h.Cv a) (h2.Cv a),fun a ha=>(zao.mp ha).elim (h.len a) (h2.len a)⟩
theorem nL(li:∀s,S s->∀x∈led s,S x){m:Nat}:∀(n:Nat) (f:jd) (s:PG.bM) (g:List Int),wH S f->S s->g.length<=m->wH S (mE led n f s g).1/\rL S m (pG g (mE led n f s g).2)/\f.length+(pG g (mE led n f s g).2).length<=(mE led n f s g).1.length
 |0,f,s,g,h,_,_=>⟨h,.nil,zah _⟩
 |n+1,f,s,g,h,hs,hg=>by
  rw[mE];split
  ·exact⟨h,.nil,zah _⟩
  ·rename_i hn;have h1:=h.put (g:=g) hn hs;split
   ·rename_i t e;have:=nL li n (f++[(s,g)]) t g h1 (li s hs t (by rw[e];exact zag.mpr rfl)) hg;refine⟨this.1,this.2.1,?_⟩;have:=this.2.2;rw[zal,zaG] at this;lia
   ·refine⟨h1,⟨fun a ha x hx=>?_,fun a ha=>?_⟩,?_⟩
    ·rw[zag.mp ha] at hx;exact li s hs x hx
    ·rw[zag.mp ha];exact hg
    ·rw[zal];exact zah _
theorem kP(li:∀s,S s->∀x∈led s,S x){m n:Nat}:∀(l:jd) (f:jd),wH S f->(∀x∈l,S x.1/\x.2.length<=m)->wH S (cW led n f l).1/\rL S m (cW led n f l).2/\f.length+(cW led n f l).2.length<=(cW led n f l).1.length
 |[],f,h,_=>⟨h,.nil,zah _⟩
 |(s,g)::r,f,h,hl=>by
  obtain⟨a1,a2,a3⟩:=nL li n f s g h (hl _ (zak ..)).1 (hl _ (zak ..)).2;obtain⟨b1,b2,b3⟩:=kP li r _ a1 fun x hx=>hl x (zai _ hx);refine⟨b1,a2.app b2,?_⟩;show f.length+(pG g (mE led n f s g).2++(cW led n (mE led n f s g).1 r).2).length<=_;rw[zal];show _<=(cW led n (mE led n f s g).1 r).1.length;lia
theorem yz{n:Nat}:∀(l k:jd) (f:jd),cW led n f (l++k)=((cW led n (cW led n f l).1 k).1,(cW led n f l).2++(cW led n (cW led n f l).1 k).2)
 |[],k,f=>rfl
 |(s,g)::r,k,f=>by
  rw[zaN,cW,yz r k];simp only[cW,zaZ]
theorem Gz{n:Nat}{f:jd}{s:PG.bM}{g:List Int}:cW led n f [(s,g)]=((mE led n f s g).1,pG g (mE led n f s g).2):=by simp only[cW,zaC]
theorem iC{m:Nat}{as:List (List Int×List PG.bM)}(h:rL S m as):∀x∈bT as,S x.1/\x.2.length<=m+1:=by
 intro x hx;obtain⟨a,ha,hx⟩:=zaR.mp hx;obtain⟨i,hi,rfl⟩:=zaF.mp hx;have hi:=zbw.mp hi;refine⟨h.Cv a ha _ ?_,?_⟩
 ·rw[zan,zac hi];exact zat hi
 ·have:=h.len a ha;rw[zal,zaG];lia
noncomputable def j5 (a:List Int×List PG.bM) (j:Nat):jd:=(zaJ j).map fun i:Nat=>(a.2.getD i (0,[]),a.1++[((i:Nat):Int)])
theorem BL{a:List Int×List PG.bM}{as:List (List Int×List PG.bM)}:bT (as++[a])=bT as++j5 a a.2.length:=by
 unfold bT;rw[zbH];simp only[zaK,zbx,zaC];rfl
theorem zH{a:List Int×List PG.bM}{j:Nat}:j5 a (j+1)=j5 a j++[(a.2.getD j (0,[]),a.1++[((j:Nat):Int)])]:=by
 unfold j5;rw[zbL,zaw];rfl
theorem DG{m j:Nat}{a:List Int×List PG.bM}(h1:∀x∈a.2,S x)(h2:a.1.length<=m)(hj:j<=a.2.length):∀x∈j5 a j,S x.1/\x.2.length<=m+1:=by
 intro x hx;obtain⟨i,hi,rfl⟩:=zaF.mp hx;have hi:=zbw.mp hi;refine⟨h1 _ ?_,?_⟩
 ·rw[zan,zac (by lia)];exact zat (by lia)
 ·rw[zal,zaG];lia
theorem JW{n m:Nat}{f:jd}:oS led n m f []=f:=by
 cases m
 ·rfl
 ·rw[oS,if_pos rfl]
end
section
variable(K:zaa)
noncomputable def dG (H:Hp) (as:List (List Int×List PG.bM)) (us:List V):Prop:=Paired (fun (a:List Int×List PG.bM) (v:V)=>∃ta ga la sV,v=.ref ta/\cu K H ta [.ref ga,.ref la]/\cu K H ga (a.1.map V.int)/\H la=some (.lst sV)/\jq K H a.2 sV) as us
end
section
variable{K:zaa}{H H':Hp}
theorem dG.imp{as:List (List Int×List PG.bM)}{us:List V}(h:dG K H as us)(t:∀a xs,cu K H a xs->cu K H' a xs)(l:∀a xs,H a=some (.lst xs)->H' a=some (.lst xs)):dG K H' as us:=
 Paired.AS h fun _ _ ⟨ta,ga,la,sV,e,q1,q2,q3,q4⟩=>⟨ta,ga,la,sV,e,t _ _ q1,t _ _ q2,l _ _ q3,rK q4 fun a row vals ⟨va,h1,h2⟩=>⟨va,t _ _ h1,t _ _ h2⟩⟩
theorem dG.mono{as:List (List Int×List PG.bM)}{us:List V}(h:dG K H as us)(s:au H H'):dG K H' as us:=h.imp (fun a xs q=>s.cI q) fun a xs q=>s _ _ q
theorem dG.ext{as:List (List Int×List PG.bM)}{us:List V}{D:zc8}{φ:Heap->Prop}(h:dG K H as us)(hD:H D=some (.ext φ))(u:aT D H H'):dG K H' as us:=h.imp (fun a xs q=>q.nI hD u) fun a xs q=>u _ _ (bN q hD (by intro z;cases z)) q
theorem dG.of{H0:Hp}{us:List V}{ga b:zc8}{ys:List V}{g:List Int}{o:Option (List PG.bM)}(h:JU K H0 H us (.ref ga) o)(q:cu K H ga (g.map V.int))(n:H0 b≠none)(hb:H b=some (.lst ys)):dG K (wo H b) (pG g o) us:=by
 have u:aT b H (wo H b):=vt;cases o with
 |none=>rw[show us=[] from h];exact .nil
 |some l=>
  obtain⟨ta,la,sV,rfl,q1,n1,q2,q3⟩:=h;refine .cons ⟨ta,ga,la,sV,rfl,q1.BB hb u,q.BB hb u,?_,rK q3 fun a row vals ⟨va,h1,h2⟩=>⟨va,h1.BB hb u,h2.BB hb u⟩⟩ .nil;rw[dW (fun z=>n (by rw[<- z];exact n1))];exact q2
theorem dG.of1{H0:Hp}{us:List V}{ga:zc8}{g:List Int}{o:Option (List PG.bM)}(h:JU K H0 H us (.ref ga) o)(q:cu K H ga (g.map V.int)):dG K H (pG g o) us:=by
 cases o with
 |none=>rw[show us=[] from h];exact .nil
 |some l=>
  obtain⟨ta,la,sV,rfl,q1,n1,q2,q3⟩:=h;exact .cons ⟨ta,ga,la,sV,rfl,q1,q,q2,q3⟩ .nil
theorem wI{α β:Type}{R:α->β->Prop}:∀ {as:List α} {us:List β} {bs:List α} {vs:List β},Paired R as us->Paired R bs vs->Paired R (as++bs) (us++vs)
 |[],_,_,_,h,h2=>by cases h;exact h2
 |_::_,_,_,_,h,h2=>by
  cases h with
  |cons a b=>exact .cons a (wI b h2)
theorem jI{α β:Type}{R:α->β->Prop}:∀ {as:List α} {us:List β} {i:Nat} {v:β},Paired R as us->us[i]?=some v->∃a,as[i]?=some a/\R a v
 |[],_,_,_,h,e=>by cases h;simp at e
 |_::_,_,0,_,h,e=>by
  cases h with
  |cons a b=>cases e;exact⟨_,rfl,a⟩
 |_::_,_,i+1,_,h,e=>by
  cases h with
  |cons a b=>
   obtain⟨x,e1,e2⟩:=jI (i:=i) b (by simpa using e);exact⟨x,by simpa using e1,e2⟩
end
noncomputable def Kp (H H':Hp):Prop:=∀b o,H b=some o->(∀ps,o≠.oZ ps)->H' b=some o
section
variable{K:zaa}{H H':Hp}
theorem Kp.of{Pt:zc8}{ps:Array zc9}(u:aT Pt H H')(h:H Pt=some (.oZ ps)):Kp H H':=fun b o e n=>u b o (bN e h (n ps)) e
theorem cu.kp{a:zc8}{xs:List V}(h:cu K H a xs)(k:Kp H H'):cu K H' a xs:=by
 rcases h with (q |⟨o',q⟩) |q
 ·exact .inl (.inl (k _ _ q (by intro _ z;cases z)))
 ·exact .inl (.inr ⟨o',k _ _ q (by intro _ z;cases z)⟩)
 ·exact .inr q
theorem gM.kp{a:zc8}{xs:List V}(h:gM K H a xs)(k:Kp H H'):gM K H' a xs:=by
 rcases h with (q |⟨o',q⟩) |q
 ·exact .inl (.inl (k _ _ q (by intro _ z;cases z)))
 ·exact .inl (.inr ⟨o',k _ _ q (by intro _ z;cases z)⟩)
 ·exact .inr q
mutual
theorem zI(k:Kp H H'):∀(d:Dp) (v:V),Rep K H d v->Rep K H' d v
 |.b9,v,r=>by rw[Rep.qZ] at r ⊢;exact r
 |.bl b,v,r=>by rw[Rep.mY] at r ⊢;exact r
 |.int b,v,r=>by rw[Rep.bF] at r ⊢;exact r
 |.str b,v,r=>by rw[Rep.bY] at r ⊢;exact r
 |.lst l,v,r=>by
  rw[Rep.cg] at r ⊢;obtain⟨a,ys,rfl,q,rs⟩:=r;exact⟨a,ys,rfl,gM.kp q k,vv k l ys rs⟩
 |.tup l,v,r=>by
  rw[Rep.br] at r ⊢;obtain⟨a,ys,rfl,q,rs⟩:=r;exact⟨a,ys,rfl,cu.kp q k,vv k l ys rs⟩
theorem vv(k:Kp H H'):∀(ds:List Dp) (vs:List V),aI K H ds vs->aI K H' ds vs
 |[],vs,r=>by rw[aI.bI] at r ⊢;exact r
 |d::ds,vs,r=>by
  rw[aI.aF] at r ⊢;obtain⟨v,t,rfl,r1,r2⟩:=r;exact⟨v,t,rfl,zI k d v r1,vv k ds t r2⟩
end
theorem ql.kp{C ch:zc8}{pr:PG.Prog}(c:ql K C H ch pr)(k:Kp H H'):ql K C H' ch pr:=by
 obtain⟨dx,nl,sd,fa,va,st,wy,us,ws,h1,h2,h3,h4,h5,h6,h7,h8,h9,Gj,Hb,K7⟩:=c.at_;exact⟨⟨dx,nl,sd,fa,va,st,wy,us,ws,k _ _ h1 (fun _ z=>by cases z),k _ _ h2 (fun _ z=>by cases z),k _ _ h3 (fun _ z=>by cases z),k _ _ h4 (fun _ z=>by cases z),k _ _ h5 (fun _ z=>by cases z),k _ _ h6 (fun _ z=>by cases z),h7,k _ _ h8 (fun _ z=>by cases z),vv k _ _ h9,Gj,k _ _ Hb (fun _ z=>by cases z),fun i hi=>let ⟨q,e,r⟩:=K7 i hi;⟨q,e,r.kp k⟩⟩⟩
theorem cx.kp{a:zc8}{row:Int}{vals:List Int}(h:cx K H a row vals)(k:Kp H H'):cx K H' a row vals:=let ⟨va,h1,h2⟩:=h;⟨va,h1.kp k,h2.kp k⟩
theorem TabOk.kp{qual:Str}{lp:Pos}{ps:Array zc9}(h:TabOk qual lp H ps)(k:Kp H H'):TabOk qual lp H' ps:=by
 rcases h with h |⟨c',oc,vs,tk,e,h1,h2,h3⟩
 ·exact .inl h
 ·exact .inr ⟨c',oc,vs,tk,e,k _ _ h1 (fun _ z=>by cases z),h2,h3⟩
theorem Kp.same(s:au H H'):Kp H H':=fun b o e _=>s b o e
end
end L2
namespace L2
open PySem PySem.Spec PyProof.Rows
noncomputable abbrev gN (pr:PG.Prog):PG.bM:=(PG.bc pr.body 0,pr.aA.map (·.first))
section
variable(P:zdk)(w:zda)(K:zaa)(CC:zc8)
noncomputable def zJ (Pt:zc8):Sp:=fun vs H Q _=>∃(a:zc8) (ns:List Int),vs=[.ref a]/\gM K H a (ns.map V.int)/\ns.length<=63/\H Pt=some (.oZ #[])/\∀H',Q (.bl true) H'
end
end L2
namespace PG
theorem BM(sc:List Int)(kr:Int):∀(n k p:Nat),∀x∈(bo sc kr n k p).1,x.size<=4
 |0,k,p,x,h=>by simp[bo] at h
 |n+1,k,p,x,h=>by
  rw[bo] at h;simp only[zae] at h;rcases h with rfl |h
  ·simp only;lia
  ·exact BM sc kr n (k+1) (p+2) x h
theorem zK(sc:List Int)(p:Nat):∀x∈dZ sc p,x.size<=4:=BM sc _ _ _ _
theorem yA:∀(ss:List Int),(∀s∈ss,s<=4)->(tQ ss).length<=4 ^ ss.length
 |[],_=>by simp[tQ]
 |s::r,h=>by
  have ih:=yA r fun x hx=>h x (zai _ hx);have hs:=h s (zak ..);have k:∀n:Nat,((zaJ n).flatMap fun (v:Nat)=>(tQ r).map fun t=>((v:Int)::t)).length=n*(tQ r).length:=fun n=>by
   induction n with
   |zero=>simp
   |succ n ih=>rw[zbL,zbH,zal,ih];simp[zc6]
  rw[tQ,k,zaj,zcy,Nat.mul_comm (4 ^ r.length)];exact zcl (by lia) ih
end PG
namespace L2
open PySem PySem.Spec PyProof.Rows
theorem TabOk.up{H H':Hp}{qual:Str}{lp:Pos}{ps:Array zc9}(h:TabOk qual lp H ps)(k:∀b φ,H b=some (.ext φ)->H' b=some (.ext φ)):TabOk qual lp H' ps:=by
 rcases h with h |⟨c',oc,vs,tk,e,h1,h2,h3⟩
 ·exact .inl h
 ·exact .inr ⟨c',oc,vs,tk,e,k _ _ h1,h2,h3⟩
theorem E8{led:PG.bM->List PG.bM}{S:PG.bM->Prop}(li:∀s,S s->∀x∈led s,S x){n:Nat}:∀(m k:Nat) (f:jd) (as:List (List Int×List PG.bM)),wH S f->rL S k as->wH S (oS led n m f as)
 |0,_,f,as,h,_=>h
 |m+1,k,f,as,h,h2=>by
  rw[oS];split
  ·exact h
  ·have:=kP li (n:=n) (m:=k+1) (bT as) f h (iC h2);exact E8 li m (k+1) _ _ this.1 this.2.1
theorem JX{pr:PG.Prog}(d:iA pr):wH (cZ pr) (cF pr (gN pr)):=by
 have li:∀s,cZ pr s->∀x∈c5 pr s,cZ pr x:=fun s h=>rJ d h;have:=nL li (m:=0) (ba pr+1) [] (gN pr) [] .nil (cZ.first d) (zah _);exact E8 li _ 0 _ _ this.1 this.2.1
theorem BN{pr:PG.Prog}{n:Nat}(h1:(PG.bH pr.body).length<=n)(h2:∀b∈pr.aA,b.size<=4)(h3:pr.aA.length<=3):ba pr<=(n+1)*64:=by
 unfold ba;rw[PG.JE];have l1:(E4 pr).length+1<=n+1:=by unfold E4;rw[zad,wg];lia
 have l2:=PG.yA (jj pr) fun s hs=>by
  obtain⟨b,hb,rfl⟩:=zaF.mp hs;exact h2 b hb
 have l3:4 ^ (jj pr).length<=4 ^ 3:=zaX (by decide) (by unfold jj;rw[zad];exact h3);exact zcl l1 (zaA l2 l3)
section
variable{prog:zdk}{w:zda}{A:zdj}{E:zc9->zdi->Prop}{s:zdi}{d it:zc8}{es:Array DictEntry}{ep i:Nat}
theorem BO(d:zc8)(hd:(d==sysModules)=false) :
 MeetsIn prog w (Builtin.«dict.items» ⟨[.ref d],[]⟩) (fun _ R s=>(∃es ep,rF s.heap d es ep)/\R (.ok (.ret (.ref s.heap.objs.size))) {s with heap:=s.heap.push {cls:=.type "dict_items",data:=.fields #[.ref d]} }):=
 .of_wp fun A R s ⟨⟨es,ep,en⟩,h⟩=>by
  unfold Builtin.«dict.items»;refine zdb ?_;unfold Builtin.Dict.noArgs;refine zdb (wpAny_notOrdered_dict en.ty ?_);show wpAny _ _ (pure d) _ _ s;refine zdc ?_;show wpAny _ _ (Builtin.Dict.showsAll d >>= _) _ _ s;unfold Builtin.Dict.showsAll;rw[if_neg (by rw[hd];exact zaf)];refine zdb (zdc ?_);exact zdb (wpAny_newObj_type (zdc ⟨_,rfl,h⟩))
theorem GA{v:zc8}{Q:zc9->zdi->Prop}(hv:s.heap.IsItemsView v d)(en:rF s.heap d es ep)
 (q:Q (.ref s.heap.objs.size) {s with heap:=s.heap.push {cls:=.type "dict_itemiterator",data:=.fields #[.none,.bool false,.ref d,.int 0 0,.int es.size 0,.int ep 0,.none,.none]} }) :
 wpAny (model prog w) A (pyIter (.ref v)) Q E s:=by
 obtain⟨ov,gv,cv,dv⟩:=id hv;obtain⟨o,ho,hc,dt⟩:=id en;refine wpAny_pyIter_slot hv.typeIs F.slot_dict_items_iter (wpAny_call_entry F.slot_dict_items_iter hv.typeIs F.entry_dict_items_iter ?_ (F.args_dict_items_iter_1 _));unfold Builtin.«dict_items.__iter__»;refine zdb (zdc (zdb ?_));unfold Builtin.Dict_items.dictOf;refine zdb (wpAny_field gv dv (x:=.ref d) rfl (zdc (zdb ?_)));unfold Builtin.Dict_items.newIterator;refine zdb (wpAny_dictEntries ho dt (zdb (wpAny_dictEpoch ho dt ?_)));have ow:Builtin.Dict_items.ownsTuple "dict_itemiterator"=true:=by decide
 simp only[ow,if_true];refine wpAny_newObj_type (zdc ⟨_,rfl, "dict_itemiterator",_,⟨_,Heap.get?_push_size _ rfl,rfl⟩,F.slot_dict_itemiterator_next.lookup,?_⟩)
  (by simp only[sizeOk,Builtin.Dict_items.ownedTupleFields,zas,zal,zaj,za1,sizeLine_eq];omega)
 simpa[rawInt,Builtin.Dict_items.ownedTupleFields] using q
theorem GB{ok ov:zc9}{Q:Option zc9->zdi->Prop}(st:IsItemIter s.heap it d i es.size ep ok ov)(en:rF s.heap d es ep)(li:i<es.size)
 (q:∀h',IsItemIterOut h' it d (i+1) es.size ep es[i].key es[i].val s.heap.objs.size->h'.get? s.heap.objs.size=some {cls:=.type "tuple",data:=.seq #[es[i].key,es[i].val]}->h'.objs.size=s.heap.objs.size+1->
  (∀b o,b≠it->s.heap.get? b=some o->h'.get? b=some o)->Q (some (.ref s.heap.objs.size)) {s with heap:=h' }) :
 wpAny (model prog w) A (pyNext (.ref it)) Q E s:=by
 obtain⟨hp,g,dr,tk,os⟩:=s;obtain⟨od,Ji,cod,Sy⟩:=id en;have hT:Shared.TypeIs ⟨hp,g,dr,tk,os⟩ (.ref it) "dict_itemiterator":=⟨_,st,rfl⟩
 unfold pyNext;refine zdb (wpAny_attempt (wpAny_callSpecial?_slot (name:=zab "__next__") hT F.slot_dict_itemiterator_next (wpAny_call_entry F.slot_dict_itemiterator_next hT F.entry_dict_itemiterator_next ?_ (F.args_dict_itemiterator_next_1 _))));refine zdb (zdc (zdb (zdb ?_)));refine zdb (wpAny_typeNameOfWhole_itemiter hT (zdc (zdb (wpAny_fieldsOf st rfl ?_))));have ow:Builtin.Dict_items.ownsTuple "dict_itemiterator"=true:=by decide
 simp only[ow,if_true];show wpAny _ _ (if (Value.ref d==Value.none)=true then _ else _) _ _ _;rw[if_neg (show ¬((Value.ref d==Value.none)=true) from zaf)];refine zdb (zdc (zdb (wpAny_dictEntries Ji Sy ?_)));rw[if_neg (by simp)];refine zdb (zdc (zdb (wpAny_dictEpoch Ji Sy ?_)));rw[if_neg (by simp)];refine zdc ?_;simp only[show ¬((i:Int)<0) from by first|decide|omega,if_false,zbh,zcu li];refine zdb (zdb (wpAny_typeNameOfWhole_itemiter hT (zdc (zdb (wpAny_isOneOf_itemiter hT ?_)))));show wpAny _ _ (setField (.ref it) 3 (rawInt ((i:Int)+1)) >>= _) _ _ ⟨hp,g,dr,tk,os⟩;refine zdb (wpAny_setField_rec st (by simp) fun ga ea sa=>?_);replace sa:Heap.SameBut it hp ga:=sa;replace ea:IsItemIter ga it d (i+1) es.size ep ok ov:=by
  have e:((i+1:Nat):Int)=(i:Int)+1:=by first|decide|omega
  unfold IsItemIter;rw[e];simpa[rawInt] using ea
 have ta:Shared.TypeIs ⟨ga,g,dr,tk,os⟩ (.ref it) "dict_itemiterator":=⟨_,ea,rfl⟩
 refine zdb (zdd (zdb (wpAny_isOneOf_itemiter ta (zdb (wpAny_isOneOf_itemiter ta ?_)))));show wpAny _ _ (Builtin.Dict_items.pairFromOwner (.ref it) 6 es[i].key es[i].val) _ _ ⟨ga,g,dr,tk,os⟩;unfold Builtin.Dict_items.pairFromOwner;refine zdb (wpAny_newTuple ?_);have eb:IsItemIter (ga.push {cls:=.type "tuple",data:=.seq #[es[i].key,es[i].val]}) it d (i+1) es.size ep ok ov:=Heap.get?_push_of_some _ ea;generalize qb:ga.push {cls:=.type "tuple",data:=.seq #[es[i].key,es[i].val]}=gb at eb;have za:ga.objs.size=hp.objs.size:=sa.1;have lti:it<hp.objs.size:=Heap.lt_size st;have tb:gb.get? hp.objs.size=some {cls:=.type "tuple",data:=.seq #[es[i].key,es[i].val]}:=by rw[<- qb,<- za];exact Heap.get?_push_size _ rfl
 have zb:gb.objs.size=hp.objs.size+1:=by rw[<- qb,Heap.size_push,za]
 have kb:∀b o,b≠it->hp.get? b=some o->gb.get? b=some o:=fun b o hb e=>by rw[<- qb];exact Heap.get?_push_of_some _ (sa.extBut b o hb e)
 show wpAny _ _ (Builtin.Dict_items.ownedTupleIsFree (.ref it) >>= _) _ _ ⟨gb,g,dr,tk,os⟩;rw[za];clear qb ea sa ta za ga;refine zdb ?_;unfold Builtin.Dict_items.ownedTupleIsFree;refine zdb (wpAny_field eb rfl (x:=.none) rfl (zdc ?_));simp only[if_true];refine zdb (wpAny_field eb rfl (x:=ok) rfl (zdb (wpAny_field eb rfl (x:=ov) rfl ?_)));refine zdb (wpAny_setField_rec eb (by simp) fun gc ec sc=>?_);replace ec:IsItemIter gc it d (i+1) es.size ep es[i].key ov:=ec;refine zdb (wpAny_setField_rec ec (by simp) fun gd ed sd=>?_);replace ed:IsItemIter gd it d (i+1) es.size ep es[i].key es[i].val:=ed;refine zdb (wpAny_setField_rec ed (by simp) fun ge ee se=>?_);replace ee:IsItemIterOut ge it d (i+1) es.size ep es[i].key es[i].val hp.objs.size:=ee;refine zdb (wpAny_setField_rec ee (by simp) fun gf ef sf=>?_);replace ef:IsItemIterOut gf it d (i+1) es.size ep es[i].key es[i].val hp.objs.size:=ef;have all:∀b o,b≠it->gb.get? b=some o->gf.get? b=some o:=fun b o hb e=>sf.extBut b o hb (se.extBut b o hb (sd.extBut b o hb (sc.extBut b o hb e)));refine zdb (wpAny_letGo (zdc (zdc ⟨_,rfl,zdc (q gf ef (all _ _ (zbD lti) tb) ?_ fun b o hb e=>all b o hb (kb b o hb e))⟩)));show gf.objs.size=hp.objs.size+1;rw[sf.1,se.1,sd.1,sc.1];exact zb
theorem JY{ok ov:zc9}{Q:Option zc9->zdi->Prop}(hA:A.handled=none)(st:IsItemIter s.heap it d i es.size ep ok ov)(en:rF s.heap d es ep)(li:es.size<=i)
 (q:∀h',Heap.ExtBut it s.heap h'->Q none {s with heap:=h' }):wpAny (model prog w) A (pyNext (.ref it)) Q E s:=by
 obtain⟨od,Ji,cod,Sy⟩:=id en;have hT:s.TypeIs (.ref it) "dict_itemiterator":=⟨_,st,rfl⟩
 unfold pyNext;refine zdb (wpAny_attempt (wpAny_callSpecial?_slot (name:=zab "__next__") hT F.slot_dict_itemiterator_next (wpAny_call_entry F.slot_dict_itemiterator_next hT F.entry_dict_itemiterator_next ?_ (F.args_dict_itemiterator_next_1 _))));refine zdb (zdc (zdb (zdb ?_)));refine zdb (wpAny_typeNameOfWhole_itemiter hT (zdc (zdb (wpAny_fieldsOf st rfl ?_))));have ow:Builtin.Dict_items.ownsTuple "dict_itemiterator"=true:=by decide
 simp only[ow,if_true];show wpAny _ _ (if (Value.ref d==Value.none)=true then _ else _) _ _ s;rw[if_neg (show ¬((Value.ref d==Value.none)=true) from zaf)];refine zdb (zdc (zdb (wpAny_dictEntries Ji Sy ?_)));rw[if_neg (by simp)];refine zdb (zdc (zdb (wpAny_dictEpoch Ji Sy ?_)));rw[if_neg (by simp)];refine zdc ?_;simp only[show ¬((i:Int)<0) from by first|decide|omega,if_false,zbh,Array.getElem?_eq_none li];refine zdb (zdb (wpAny_typeNameOfWhole_itemiter hT (zdc ?_)));show wpAny _ _ (setField (.ref it) 2 .none >>= _) _ _ s;refine zdb (wpAny_setField st rfl (by simp) ?_);show wpAny _ _ (newExc (.type "StopIteration") [] >>= _) _ _ _;refine zdb ?_;simp only[newExc,newTuple];refine zdb (wpAny_newObj_type (zdb (m:=firstArgMember _ _) (wpAny_of_eq (a:=Value.none) (by first |rfl |(simp only[firstArgMember];rfl)) (wpAny_newObj_type ?_ (by size_fits)))) (by size_fits));simp only[raiseNew];refine zdb (wpAny_handled ?_);rw[show A.in1.handled=none from hA];refine zdb (zdc (wpAny_throw (zdb ?_)));refine wpAny_isInstance (T:="StopIteration") (b:=true) ⟨_,Heap.get?_push_size _ rfl,rfl⟩ isSubtype_stop ?_;exact zdc (q _ (((Heap.SameBut.update ..).extBut.push _).push _))
end
noncomputable def EV (ps:List (zc8×V)) (es:Array DictEntry):Prop:=Paired (fun (p:zc8×V) (e:DictEntry)=>e.key=.ref p.1/\RelV p.2 e.val) ps es.toList
theorem EV.size{ps:List (zc8×V)}{es:Array DictEntry}(h:EV ps es):es.size=ps.length:=by rw[<- zbV];exact(Paired.length h).symm
theorem EV.at{ps:List (zc8×V)}{es:Array DictEntry}(h:EV ps es){i:Nat}(hi:i<es.size):∃b v,ps[i]?=some (b,v)/\es[i].key=.ref b/\RelV v es[i].val:=by
 obtain⟨⟨b,v⟩,e,e2⟩:=jI h (i:=i) (v:=es[i]) (by rw[zbe,zcu hi]);exact⟨b,v,e,e2.1,e2.2⟩
noncomputable def Itm (d:zc8) (o:Obj) (ps:List (zc8×V)):It:=
 ⟨fun i H=>H d=some (fQ d o)/\i<ps.length,fun i H x H'=>∃p b v,x=.ref p/\H p=none/\H'=upd H p (.tup [.ref b,v])/\ps[i]?=some (b,v),fun i H=>H d=some (fQ d o)/\ps.length<=i⟩
theorem DH{P:zdk}{w:zda}{K:zaa}{elts:List Expr}{x1}{pos:Pos}{d it:zc8}{o:Obj}{ps:List (zc8×V)}{es:Array DictEntry}{ep:Nat}(hx:o.ExactDict)(hd:o.data=.dict es ep)(ev:EV ps es) :
 Turn P w K (.Tuple elts x1 pos) (Itm d o ps) [it] it (fun i h=>∃ok ov,IsItemIter h it d i es.size ep ok ov) where
 mem:=by simp
 obj:=fun i h st b hb=>by
  obtain⟨ok,ov,he⟩:=st;have z:b=it:=by simpa using hb
  subst z;exact⟨_,he,fun v z=>by cases (show Data.fields _=Data.cell v from z)⟩
 keep:=fun i h h' st k=>let ⟨ok,ov,he⟩:=st;⟨ok,ov,k it (by simp) _ he⟩
 item:=by
  intro X hP hw hK hc i pins s σ H E I hf st hg;subst hP hw hK;obtain⟨hH,hi⟩:=hg;rw[<- ev.size] at hi;obtain⟨b,v,e1,e2,rv⟩:=ev.at hi;obtain⟨ok,ov,he⟩:=st;refine GB he ⟨o,fQ.get I.cL hH,hx,hd⟩ hi fun h' ho hT hsz hk=>?_;refine⟨_,rfl,?_⟩;refine wpAny_letOwnedTupleGo_items ho fun h2 K4 sb=>?_;have EF:it<s.heap.objs.size:=Heap.lt_size he;have I1:Inv X pins σ H {s with heap:=h2,toks:=s.toks}:=I.oB (t':=s.toks) (fun b o hb q=>(sb.2 b fun z=>hb (by simp[z])).trans (hk b o (fun z=>hb (by simp[z])) q)) hf;have fr:H s.heap.objs.size=none:=I.cL.fresh (zah _);obtain⟨g0,g1,g2,g3,g4,g5⟩:=I.Fx (zah _) fr;have LH:h2.get? s.heap.objs.size=some {cls:=.type "tuple",data:=.seq #[es[i].key,es[i].val]}:=(sb.2 _ (zbD EF)).trans hT;rw[e2] at LH;have I2:=I1.told (o:=.tup [.ref b,v]) fr I.sz g1 g4 g5 ⟨(show (2:Nat)<=zdg by decide),[.ref b,es[i].val],.cons rfl (.cons rv .nil),⟨_,LH,rfl,_,rfl⟩⟩;refine⟨.ref s.heap.objs.size,_,I2,rfl,⟨_,b,v,rfl,fr,rfl,e1⟩,⟨_,_,K4⟩,fun c hb=>?_⟩;have z:c=it:=by simpa using hb
  subst z;rw[av (zaD EF)];exact(hf c hb).1
 done:=by
  intro X hP hw hK hc i pins s σ H E I hf st hg;subst hP hw hK;obtain⟨hH,hi⟩:=hg;rw[<- ev.size] at hi;obtain⟨ok,ov,he⟩:=st;exact JY (I.ok.hd hc) he ⟨o,fQ.get I.cL hH,hx,hd⟩ hi fun h' eb=>⟨rfl,I.oB (t':=s.toks) (fun b o hb q=>eb b o (fun z=>hb (by simp[z])) q) hf⟩
 self:=fun _ _ _ _ _ st h=>let ⟨_,_,he⟩:=st;PySem.W.kcp_self he h
section
variable{prog:zdk}{w:zda}{κ:Type}[DecidableEq κ]{knd:HeapKind prog w κ}{A:zdj}{E:zc9->zdi->Prop}{s:zdi}
theorem Mr{d a:zc8}{xs:List (κ×zc8×zc9)}{k:κ}{v:zc9}{Q:zc9->zdi->Prop}(hu:knd.room A)(CN:knd.is s.heap k a)(hm:s.heap.DictOfH knd d xs)(hsz:xs.length<=zdg)
 (h1:∀p,atKey xs k=some p->Q p.2 {s with toks:=s.toks+knd.draws k})
 (h2:atKey xs k=none->∀h',h'.DictOfH knd d (storedH xs k a v)->Heap.SameBut d s.heap h'->Q v {s with heap:=h',toks:=s.toks+knd.draws k}) :
 wpAny (model prog w) A (dictSetDefault d (.ref a) v) Q E s:=by
 obtain⟨o,es,ep,ho,hc,hd,he,YQ,hn⟩:=hm;unfold dictSetDefault
 try with_reducible refine zdd ?_
 refine zdb (knd.pyHash hu CN (zdb (wpAny_dictFind_heap (s:={s with toks:=s.toks+knd.draws k}) hu CN ho hd he YQ hn ?_ ?_)))
 ·intro Sz;have WG:k ∉ xs.map (·.1):=not_mem_keys_of_get Sz;refine zdb (wpAny_rule (zdb (wpAny_updateDictKeys (hz:=by have e:=size_of_entries he;omega) (s:={s with toks:=s.toks+knd.draws k}) ho hd (zdc (h2 (atKey_none_of_get Sz) _ ⟨_,_,ep+1,Heap.get?_update_self _ ho (Obj.isFreed_of_dict (Obj.data_mapDictKeys hd _)),
   hc.mapDictKeys _,Obj.data_mapDictKeys hd _,?_,?_,?_⟩ (Heap.SameBut.update ..))))))
  ·rw[storedH_new (atKey_none_of_get Sz)];simp[he,entryOfKey]
  ·rw[storedH_new (atKey_none_of_get Sz)];intro x hx;rcases zao.mp hx with hx |hx
   ·exact knd.keeps (YQ x hx) ho hd (Heap.SameBut.update ..)
   ·simp only[zag] at hx;subst hx;exact knd.keeps CN ho hd (Heap.SameBut.update ..)
  ·rw[storedH_new (atKey_none_of_get Sz),zaw,zbP];refine⟨hn,by simp,?_⟩;intro x hx y hy;simp only[zaq,zbl,zag] at hy;subst hy;exact fun e=>WG (e▸hx)
 ·intro j p hj;refine zdb (wpAny_dictEntries (s:={s with toks:=s.toks+knd.draws k}) ho hd ?_);rw[entry_at he j,hj];exact zdb (wpAny_rule (zdc (h1 p (atKey_of_get hn hj))))
theorem zL{d a:zc8}{k:κ}{v:zc9}(hd:(d==sysModules)=false) :
 MeetsIn prog w (Builtin.«dict.setdefault» ⟨[.ref d,.ref a,v],[]⟩) (fun A R s=>∃xs,knd.room A.in1/\knd.is s.heap k a/\s.heap.DictOfH knd d xs/\xs.length<=zdg/\
  (∀p,atKey xs k=some p->R (.ok (.ret p.2)) {s with toks:=s.toks+knd.draws k})/\
  (atKey xs k=none->∀h',h'.DictOfH knd d (storedH xs k a v)->Heap.SameBut d s.heap h'->R (.ok (.ret v)) {s with heap:=h',toks:=s.toks+knd.draws k})):=
 .of_wp fun A R s ⟨xs,hu,CN,hm,hz,h1,h2⟩=>by
  unfold Builtin.«dict.setdefault»;refine zdb ?_;unfold Builtin.Dict.keyAndDefault;refine zdb (wpAny_notOrdered_dict hm.typeIs ?_);show wpAny _ _ (pure (d,Value.ref a,some v)) _ _ s;refine zdc ?_;show wpAny _ _ (if (d==sysModules)=true then _ else (dictSetDefault d (.ref a) v >>= _)) _ _ s;rw[if_neg (by rw[hd];exact zaf)];exact zdb (Mr hu CN hm hz (fun p hp=>zdc ⟨p.2,rfl,h1 p hp⟩) fun hn h' hm' SA=>zdc ⟨v,rfl,h2 hn h' hm' SA⟩)
end
section
variable{κ:Type}[DecidableEq κ](J:KH κ)
structure Fz(P:zdk)(w:zda)(K:zaa)(H:Hp)(d:zc8)(aC:List (κ×V))(o:Obj):Prop where
 len:aC.length<=zdg
 sys:(d==sysModules)=false
 at_:∃xs,(∀h:Heap,h.get? d=some o->fq J P w d xs h)/\KS J K H aC xs/\(xs.map (·.1)).Nodup
noncomputable def Pk (K:zaa) (H:Hp) (aC:List (κ×V)) (ps:List (zc8×V)):Prop:=Paired (fun (kv:κ×V) (p:zc8×V)=>J.on K H kv.1 p.1/\p.2=kv.2) aC ps
noncomputable def j6 (p d:zc8):Heap->Prop:=fun h=>h.IsItemsView p d
noncomputable def JZ (P:zdk) (w:zda) (K:zaa) (to:TE):TE:=fun σ H Q=>to σ H fun x H1=>∃d aC,x=.ref d/\DS J P w K H1 d aC/\∀p,H1 p=none->Q (.ref p) (upd H1 p (.ext (j6 p d)))
noncomputable def J0 (P:zdk) (w:zda) (K:zaa) (tl:TE):TI:=fun σ H R=>tl σ H fun x H1=>∃p d aC,x=.ref p/\H1 p=some (.ext (j6 p d))/\DS J P w K H1 d aC/\∀o ps,Fz J P w K H1 d aC o->Pk J K H1 aC ps->R (Itm d o ps) (upd H1 d (fQ d o))
noncomputable def NB (P:zdk) (w:zda) (K:zaa) (to:TE) (t:TA):TE:=fun σ H Q=>to σ H fun x H1=>∃a,x=.ref a/\(∃aC,DS J P w K H1 a aC)/\t σ H1 fun vs H2=>∃b aC k v,vs=[.ref b,v]/\DS J P w K H2 a aC/\J.on K H2 k b/\aC.length<zdg/\
 (∀u,b8 aC k=some u->Q u H2)/\(b8 aC k=none->∀H3,DS J P w K H3 a (putK aC k v)->(∃φ,H3=upd H2 a (.ext φ))->Q v H3)
variable{J}
theorem NC{P:zdk}{w:zda}{K:zaa}{H:Hp}:∀ {aC:List (κ×V)} {xs:List (κ×zc8×zc9)},KS J K H aC xs->∃ps,Pk J K H aC ps/\Paired (fun (p:zc8×V) (e:DictEntry)=>e.key=.ref p.1/\RelV p.2 e.val) ps (xs.map (entryOfKey (J.knd P w)))
 |[],_,h=>by cases h;exact⟨[],.nil,.nil⟩
 |(k,v)::r,_,h=>by
  cases h with
  |cons a b=>
   obtain⟨ps,p1,p2⟩:=NC (P:=P) (w:=w) b;exact⟨(_,v)::ps,.cons ⟨a.2.1,rfl⟩ p1,.cons ⟨rfl,a.2.2⟩ p2⟩
section
variable{X:Cx}{tg l e e1 e2:Expr}{es:List Expr}{tl te to:TE}{ta:TA}{pins:List (zc8×Obj)}{σ:St}{H:Hp}{s:zdi}{apos lB:Pos}
theorem freeze{d:zc8}{aC:List (κ×V)}(I:Inv X pins σ H s)(ds:DS J X.prog X.w X.K H d aC):∃o es ep ps,s.heap.get? d=some o/\o.ExactDict/\o.data=.dict es ep/\EV ps es/\Fz J X.prog X.w X.K H d aC o/\Pk J X.K H aC ps/\Inv X pins σ (upd H d (fQ d o)) s:=by
 obtain⟨z,sy,xs,e,rel,nd⟩:=ds;obtain⟨⟨o,es,ep,h1,h2,h3,h4⟩, -⟩:=(show eF X.prog X.w H s.heap d (.ext (fq J X.prog X.w d xs)) from I.cL d _ e)
 obtain⟨ps,p1,p2⟩:=NC (P:=X.prog) (w:=X.w) rel;refine⟨o,es,ep,ps,h1,h2,h3,?_,⟨z,sy,xs,fun h eh=>⟨o,es,ep,eh,h2,h3,h4⟩,rel,nd⟩,p1,qX (h':=s.heap) (t':=s.toks) I (by rw[e];exact True.intro) ⟨rfl,fun _ _=>rfl⟩ ⟨o,h1⟩ (fQ.ok h1)⟩;unfold EV;rw[h4];exact p2
theorem J7(ho:PE X e to)(vJ:attributeBase e "items" X.env (eval e X.env)=eval e X.env:=by rfl)(vK:(apos.endLine==lB.line)=true:=by rfl):PE X (.Call (.Attribute e "items" apos) [] [] lB) (JZ J X.prog X.w X.K to):=by
 intro pins s σ H Q I h;refine wpAny_Call_method0_late vJ vK (eD (ho pins s σ H _ I h) fun v s1 zqz=>?_);obtain⟨x,H1,I1,r1,q1⟩:=zqz;obtain⟨d,aC,rfl,ds,q⟩:=q1;cases r1;obtain⟨o,es,ep,ps,h1,h2,h3,ev,fz,po,I2⟩:=freeze I1 ds;refine⟨"dict", "dict.items",zcE,zcF,PySem.F.type_dict_items,⟨o,h1,h2.1⟩,fun a e2=>by cases e2;exact⟨o,h1,h2.2.1⟩,Calls.callWith_builtin rfl (PySem.evalArgs_none ?_)⟩;refine call_meetsIn zcF ⟨o,h1,h2.1⟩ PySem.F.entry_dict_items (PySem.F.args_dict_items_1 _) (BO d ds.sys) ⟨⟨es,ep,o,h1,h2,h3⟩,?_⟩;refine⟨.ref s1.heap.objs.size,_,I1.laid (a:=s1.heap.objs.size) (o:=.ext (j6 s1.heap.objs.size d)) (t':=s1.toks) (fun _ _ q=>Heap.get?_push_of_some _ q) (zah _) ⟨⟨_,Heap.get?_push_size _ rfl,rfl,rfl⟩,⟨_,Heap.get?_push_size _ rfl⟩,fun g1 g2 p1 kp=>?_⟩,rfl,q _ (I1.cL.fresh (zah _))⟩;obtain⟨ob,e1,e2⟩:=p1;exact⟨ob,kp ob e1,e2⟩
theorem GC{elts:List Expr}{x1}{tp:Pos}(hl:PE X l tl):PI X (.Tuple elts x1 tp) l (J0 J X.prog X.w X.K tl):=by
 intro pins s σ H R I h;refine eD (hl pins s σ H _ I h) fun v s1 zqz=>?_;obtain⟨x,H1,I1,r1,q1⟩:=zqz;obtain⟨p,d,aC,rfl,hp,ds,q⟩:=q1;cases r1;obtain⟨o,es,ep,ps,h1,h2,h3,ev,fz,po,I2⟩:=freeze I1 ds;have hv:s1.heap.IsItemsView p d:=(I1.cL p _ hp).1;refine GA hv ⟨o,h1,h2,h3⟩ ?_;have I3:=I2.kept (t':=s1.toks) (h':=s1.heap.push {cls:=.type "dict_itemiterator",data:=.fields #[.none,.bool false,.ref d,.int 0 0,.int es.size 0,.int ep 0,.none,.none]}) fun b o e=>Heap.get?_push_of_some _ e;refine⟨s1.heap.objs.size,[s1.heap.objs.size],_,Itm d o ps,_,rfl,I3,DH h2 h3 ev,⟨_,_,Heap.get?_push_size _ rfl⟩,fun b hb=>?_,q o ps fz po⟩;have e:b=s1.heap.objs.size:=by simpa using hb
 subst e;exact I2.Fx (zah _) (I2.cL.fresh (zah _))
theorem GD(hu:X.A.units+16<cLine)(ho:PE X e to)(ha:PA X [e1,e2] ta)
 (vJ:attributeBase e "setdefault" X.env (eval e X.env)=eval e X.env:=by rfl)
 (OC:((backTo lB (zde [e1,e2] X.env)).all (fun x=>!x.1)&&(backToKw lB (keywordEach [] X.env)).all (fun x=>x.1.isSome)
  && decide ([e1,e2].length+([]:List Keyword).length+(if ([]:List Keyword).isEmpty then 0 else 1)<30))=true:=by rfl)
 (vK:(apos.endLine==lB.line)=true:=by rfl) (hs:zde [e1,e2] X.env=(false,eval e1 X.env)::zde [e2] X.env:=by rfl) (CV:(backTo lB (zde [e2] X.env)).any (·.1)=false:=by rfl) :
 PE X (.Call (.Attribute e "setdefault" apos) [e1,e2] [] lB) (NB J X.prog X.w X.K to ta):=by
 intro pins s σ H Q I h;refine wpAny_Call_method_late vJ OC vK rfl (eD (ho pins s σ H _ I h) fun v s1 zqz=>?_);obtain⟨x,H1,I1,r1,q1⟩:=zqz;obtain⟨d,rfl,⟨SD,Uy⟩,q⟩:=q1;cases r1;obtain⟨o,es,ep,ps,h1,h2,h3,ev,fz,po,I2⟩:=freeze I1 Uy;refine⟨"dict", "dict.setdefault",zcE,zcn,PySem.F.type_dict_setdefault,⟨o,h1,h2.1⟩,fun a e2=>by cases e2;exact⟨o,h1,h2.2.1⟩,?_⟩;have hA:=ha lB pins s1 σ H1 _ I1 q;rw[hs] at hA ⊢;refine Calls.callWith_builtin (by show (false ||(backTo lB (zde [e2] X.env)).any (·.1))=false;rw[CV]<;>rfl) (Calls.evalArgs_plain ?_);refine eD hA fun us s2 zqz=>?_;obtain⟨vs,H2,I2,r2,q2⟩:=zqz;obtain⟨b,aC,k,v,rfl,ds,hk,lt,w1,w2⟩:=q2;obtain⟨u,rfl,rv⟩:∃u,us=[.ref b,u]/\RelV v u:=by
  cases r2 with
  |cons ra rb=>
   cases rb with
   |cons rv rn=>
    cases rn;cases ra;exact⟨_,rfl,rv⟩
 have dd:=ds;obtain⟨z,sy,xs,e,rel,nd⟩:=dd;have D2:=wA I2 e rel nd;have hz:xs.length<=zdg:=by rw[<- Paired.length rel];exact z
 have rl:=rel.val k;refine call_meetsIn zcn D2.typeIs PySem.F.entry_dict_setdefault (PySem.F.args_dict_setdefault_3 _ _ _) (zL (knd:=J.knd X.prog X.w) (k:=k) sy) ⟨xs,J.room hu,J.of I2 hk,D2,hz,fun p hp=>?_,fun hn h' Nf hs=>?_⟩
 ·rw[hp] at rl;cases hv:b8 aC k with
  |none=>rw[hv] at rl;exact rl.elim
  |some y=>
   rw[hv] at rl;exact⟨y,H2,I2.tok _,rl,w1 y hv⟩
 ·have hv:b8 aC k=none:=by
   rw[hn] at rl;cases hv:b8 aC k with
   |none=>rfl
   |some y=>rw[hv] at rl;exact rl.elim
  obtain⟨q,es,ep,hq,g2,g3,g4,_,g5⟩:=Nf;have ph:fq J X.prog X.w d (storedH xs k b u) h':=⟨q,es,ep,hq,g2,g3,g4⟩
  have hl:(putK aC k v).length<=zdg:=by have:=fc aC k v;lia
  refine⟨v,upd H2 d (.ext (fq J X.prog X.w d (storedH xs k b u))),qX I2 (by rw[e];exact True.intro) hs ⟨q,hq⟩ ⟨ph,⟨q,hq⟩,fun g1 g2 p1 kp=>?_⟩,rv,w2 hv _ ⟨hl,sy,_,ah,(rel.put k hk rv).up fun c ys ec=>ec.ext e,g5⟩ ⟨_,rfl⟩⟩;obtain⟨ob,es,ep,h1,h2,h3,h4⟩:=p1;exact⟨ob,es,ep,kp ob h1,h2,h3,h4⟩
end
end
theorem J8{wi:TI}{g:TG}{tb:TS}{D:Ends}{σ:St}{H:Hp} (h:∀U:It->Hp->Prop,(∀J H1,(∃W:Nat->Nat->St->Hp->Prop,(∃m,W 0 m σ H1)/\∀i m σ H,W i m σ H->
 (J.stop i H/\D.nx σ H)\/(J.go i H/\∃N:St->Hp->Prop,(∀σ' H',N σ' H'->∃m',m'<m/\W (i+1) m' σ' H')/\∀x H',J.Eh i H x H'->g x σ H' fun σ2 H2=>tb {D with nx:=N,ct:=N,bk:=D.nx} σ2 H2))->U J H1)->wi σ H U):Hs wi g tb D σ H:=h _ fun _ _ x=>x
theorem Ms{d:zc8}{o:Obj}{ps:List (zc8×V)}{g:TG}{tb:TS}{D:Ends}{σ:St}{H:Hp}(Pv:Nat->St->Hp->Prop)(h0:Pv 0 σ H)(hl:∀i σ H,i<=ps.length->Pv i σ H->H d=some (fQ d o))
 (hs:∀i b v σ H p,ps[i]?=some (b,v)->Pv i σ H->H p=none->g (.ref p) σ (upd H p (.tup [.ref b,v])) fun σ2 H2=>tb {D with nx:=Pv (i+1),ct:=Pv (i+1),bk:=D.nx} σ2 H2) (hd:∀σ H,Pv ps.length σ H->D.nx σ H) :
 ∃W:Nat->Nat->St->Hp->Prop,(∃m,W 0 m σ H)/\∀i m σ H,W i m σ H->
  ((Itm d o ps).stop i H/\D.nx σ H)\/((Itm d o ps).go i H/\∃N:St->Hp->Prop,(∀σ' H',N σ' H'->∃m',m'<m/\W (i+1) m' σ' H')/\∀x H',(Itm d o ps).Eh i H x H'->g x σ H' fun σ2 H2=>tb {D with nx:=N,ct:=N,bk:=D.nx} σ2 H2):=by
 refine⟨fun i m σ H=>m=ps.length-i/\i<=ps.length/\Pv i σ H,⟨ps.length,by simp,zaU _,h0⟩,?_⟩
 rintro i m σ H ⟨rfl,hi,p⟩
 have q:=hl i σ H hi p;by_cases o8:i<ps.length
 ·refine .inr ⟨⟨q,o8⟩,Pv (i+1),fun σ' H' p'=>⟨ps.length-(i+1),by lia,rfl,o8,p'⟩,fun x H' y=>?_⟩;obtain⟨pp,b,v,rfl,hn,rfl,e⟩:=y;exact hs i b v σ H pp e p hn
 ·have e:i=ps.length:=by lia
  subst e;exact .inl ⟨⟨q,zah _⟩,hd σ H p⟩
noncomputable def ik (pr:PG.Prog):jd->PG.Tg->Option (List Int)
 |[],_=>none
 |x::r,t=>if t∈iZ pr x.1 then some x.2 else ik pr r t
theorem BP(pr:PG.Prog):∀(f g:jd) (t:PG.Tg),ik pr (f++g) t=(ik pr f t).or (ik pr g t)
 |[],g,t=>rfl
 |x::r,g,t=>by
  rw[zaN,ik,ik];split
  ·rfl
  ·exact BP pr r g t
section
variable(P:zdk)(w:zda)(K:zaa)(CC:zc8)
noncomputable def wJ (H:Hp):Option (List Int)->Option V->Prop
 |none,r=>r=none
 |some g,r=>∃a,r=some (.ref a)/\cu K H a (g.map V.int)
noncomputable def mF (H:Hp) (M:PG.Tg->Option (List Int)) (aC:List (List Key×V)):Prop:=∀t,wJ K H (M t) (b8 aC (iY t))
noncomputable def Pl (qual:Str) (Pt:zc8) (lp:Pos):Sp:=fun vs H Q _=>∃(ch:zc8) (pr:PG.Prog) (ps:Array zc9),vs=[.ref ch]/\ql K CC H ch pr/\iA pr/\ba pr<2000/\H Pt=some (.oZ ps)/\TabOk qual lp H ps/\
 ∀D aC H' Cu,aT Pt H H'->H D=none->DS uW P w K H' D aC->mF K H' (ik pr (cF pr (gN pr))) aC->H' Pt=some (.oZ Cu)->TabOk qual lp H' Cu->Q (.ref D) H'
noncomputable def Mu (qual:Str) (Pt:zc8) (lp:Pos):Sp:=fun vs H Q _=>∃(v tv:V) (pr:PG.Prog) (t:PG.Tg) (ps:Array zc9),vs=[v,tv]/\Rep K H (jh pr) v/\Rep K H (ji t) tv/\iA pr/\ba pr<2000/\H Pt=some (.oZ ps)/\TabOk qual lp H ps/\
 ∀H' Cu,aT Pt H H'->H' Pt=some (.oZ Cu)->TabOk qual lp H' Cu->(ik pr (cF pr (gN pr)) t=none->Q .b9 H')/\∀g l,ik pr (cF pr (gN pr)) t=some g->H l=none->H' l=some (.lst (g.map V.int))->Q (.ref l) H'
end
section
variable{K:zaa}{H H':Hp}
theorem wJ.imp{o:Option (List Int)}{r:Option V}(h:wJ K H o r)(t:∀a xs,cu K H a xs->cu K H' a xs):wJ K H' o r:=by
 cases o with
 |none=>exact h
 |some y=>obtain⟨a,h1,h2⟩:=h;exact⟨a,h1,t _ _ h2⟩
theorem mF.imp{M:PG.Tg->Option (List Int)}{aC:List (List Key×V)}(h:mF K H M aC)(t:∀a xs,cu K H a xs->cu K H' a xs):mF K H' M aC:=fun g=>(h g).imp t
theorem mF.congr{M N:PG.Tg->Option (List Int)}{aC:List (List Key×V)}(h:mF K H M aC)(e:∀t,M t=N t):mF K H N aC:=by rw[<- show M=N from funext e];exact h
theorem mF.put{M:PG.Tg->Option (List Int)}{aC:List (List Key×V)}{t:PG.Tg}{g:List Int}{a:zc8}(h:mF K H M aC)(n:M t=none)(q:cu K H a (g.map V.int)):mF K H (fun u=>(M u).or (if u=t then some g else none)) (putK aC (iY t) (.ref a)):=fun u=>by
 show wJ K H ((M u).or (if u=t then some g else none)) _;rw[vL];by_cases e:u=t
 ·subst e;rw[n,if_pos rfl,if_pos rfl];exact⟨a,rfl,q⟩
 ·rw[if_neg e,if_neg (fun z=>e (yx z)),Option.or_none];exact h u
end
theorem Pm{κ:Type}[DecidableEq κ]{J:KH κ}{P:zdk}{w:zda}{a:zc8}{oc:Obj}{vs:Array zc9}{xs:List (κ×zc8×zc9)}(hd:oc.data=.fields vs):fQ a oc≠.ext (fq J P w a xs):=by
 intro h;have e:=HO.ext.inj h;have g:Heap.get? ⟨zcJ (a+1) oc,{}⟩ a=some oc:=by
  obtain⟨c,d,dt,sl⟩:=oc;cases (show dt=_ from hd);unfold Heap.get?;rw[Array.getElem?_replicate,if_pos (zca a)]
 have f:=congrFun e ⟨zcJ (a+1) oc,{}⟩;have k:fq J P w a xs ⟨zcJ (a+1) oc,{}⟩:=by rw[<- f];exact g
 obtain⟨o,es,ep,h1,h2,h3,h4⟩:=k;rw[g] at h1;cases h1;rw[hd] at h3;cases h3
theorem TabOk.ds{κ:Type}[DecidableEq κ]{J:KH κ}{P:zdk}{w:zda}{K:zaa}{H H':Hp}{qual:Str}{lp:Pos}{ps:Array zc9}{D:zc8}{aC:List (κ×V)}(h:TabOk qual lp H ps)(d:DS J P w K H D aC)(u:aT D H H'):TabOk qual lp H' ps:=by
 rcases h with h |⟨c',oc,vs,tk,e,h1,h2,h3⟩
 ·exact .inl h
 ·refine .inr ⟨c',oc,vs,tk,e,u _ _ (fun z=>?_) h1,h2,h3⟩;obtain⟨xs,e1,_⟩:=d.at_;subst z;rw[e1] at h1;exact Pm h2 (zaT.inj h1).symm
noncomputable def zM (m:Nat) (f:jd):Prop:=∀x∈f,x.2.length<=m
section
variable{led:PG.bM->List PG.bM}
theorem zN{m:Nat}:∀(n:Nat) (f:jd) (s:PG.bM) (g:List Int),zM m f->g.length<=m->zM m (mE led n f s g).1
 |0,f,s,g,h,_=>h
 |n+1,f,s,g,h,hg=>by
  have h1:zM m (f++[(s,g)]):=fun x hx=>by
   rcases zao.mp hx with hx |hx
   ·exact h x hx
   ·rw[zag.mp hx];exact hg
  rw[mE];split
  ·exact h
  ·split
   ·exact zN n _ _ g h1 hg
   ·exact h1
theorem yB{m n:Nat}:∀(l:jd) (f:jd),zM m f->zM m l->zM m (cW led n f l).1
 |[],f,h,_=>h
 |(s,g)::r,f,h,hl=>yB r _ (zN n f s g h (hl _ (zak ..))) fun x hx=>hl x (zai _ hx)
theorem BQ{S:PG.bM->Prop}(li:∀s,S s->∀x∈led s,S x){n:Nat}:∀(m k:Nat) (f:jd) (as:List (List Int×List PG.bM)),wH S f->zM k f->rL S k as->zM (k+m) (oS led n m f as)
 |0,_,f,as,_,h,_=>h
 |m+1,k,f,as,h0,h,h2=>by
  rw[oS];split
  ·exact fun x hx=>zaA (h x hx) (by lia)
  ·have g:=kP li (n:=n) (m:=k+1) (bT as) f h0 (iC h2);have:=BQ li (n:=n) m (k+1) _ _ g.1 (yB (n:=n) (bT as) f (fun x hx=>zbt (h x hx)) fun x hx=>(iC h2 x hx).2) g.2.1;rw[show k+(m+1)=k+1+m by lia];exact this
end
theorem GF{pr:PG.Prog}(d:iA pr):zM (ba pr+2) (cF pr (gN pr)):=by
 have li:∀s,cZ pr s->∀x∈c5 pr s,cZ pr x:=fun s h=>rJ d h;have g:=nL li (m:=0) (ba pr+1) [] (gN pr) [] .nil (cZ.first d) (zah _);have:=BQ li (n:=ba pr+1) (ba pr+2) 0 _ _ g.1 (zN (ba pr+1) [] (gN pr) [] (fun x hx=>by cases hx) (zah _)) g.2.1;rw[Nat.zero_add] at this;exact this
theorem BR(pr:PG.Prog):∀(f:jd) (t:PG.Tg) {g:List Int},ik pr f t=some g->∃x∈f,x.2=g
 |[],t,g,h=>by cases h
 |x::r,t,g,h=>by
  rw[ik] at h;split at h
  ·cases h;exact⟨x,zak ..,rfl⟩
  ·obtain⟨y,hy,e⟩:=BR pr r t h;exact⟨y,zai _ hy,e⟩
theorem J9{α β γ:Type}(F:α->β->γ->Prop->Prop):∃X:α->β->γ->Prop,(∀a b c,(∀zq,F a b c zq->zq)->X a b c)/\∀a b c,X a b c->∀zq,F a b c zq->zq:=⟨fun a b c=>∀zq,F a b c zq->zq,fun _ _ _ h=>h,fun _ _ _ h=>h⟩
section
variable{X:Cx}{k n:Nat}{f:zc8}{fd:zdh}{ps:List Str}{sp:Sp}{x:Str}{st:Stmt}{e:Expr}{es:List Expr}{t:TA}{te:TE}{p pos pos':Pos}
theorem dC(F:bz X.prog X.w X.K X.mg X.base de k f fd ps sp)(D:cw X.K X.mg x st ps f fd)(hr:gg n X.A)(ha:PA X (e::es) t)(h:k<=n:=by first |decide |omega)(hg:Gl X x:=by rfl)(HJ:(x==("__debug__":Str))=false:=by decide)
 (he:zde (e::es) X.env=(false,eval e X.env)::zde es X.env:=by rfl) (AK:(backTo pos (zde es X.env)).any (·.1)=false:=by rfl):PE X (.Call (.Name x p) (e::es) [] pos) (A2 sp [] E0 t):=
 Er F (hr.mono h) hg D.m D.F.kp D.b .nil pj ha HJ he AK
theorem eE(i:Nat)(hN:X.N.Nodup)(he:PE X e te)(hi:X.N[i]?=some x:=by rfl)(hx:Loc X.env.scope x:=by exact zbz rfl)(hs:swapsWith e (some (.Name x pos')) pos.line X.env=pure false:=by rfl)(hf:X.fn x=true\/X.env.scope.names.lookup x=some .local:=by first |exact .inl rfl |exact .inr rfl |assumption) :
 PS X (.Assign [.Name x pos'] e pos) (Fw te (dI i)):=Oi hN hi hx he hs hf
theorem pH(i:Nat)(hN:X.N.Nodup)(hi:X.N[i]?=some x:=by rfl)(hx:Loc X.env.scope x:=by exact zbz rfl)(hf:X.fn x=true\/X.env.scope.names.lookup x=some .local:=by first |exact .inl rfl |exact .inr rfl |assumption):PG X (.Name x pos) (dI i):=gA hN hi hx hf
theorem a8(i:Nat)(hr:PA X es t)(hN:X.N[i]?=some x:=by rfl)(hv:Rc X.env.scope x:=by first |exact zbz rfl |exact Or.inr (zbz rfl) |exact Or.inr (Or.inr rfl))(hd:(x==("__debug__":Str))=false:=by decide)(CH:(x==("__classdict__":Str))=false:=by decide):PA X (.Name x pos::es) (vI (eW i) t):=ai (pv i hN hv hd CH) hr lE
end
noncomputable def nA (a:Int):List Int->Int
 |[]=>a
 |d::r=>nA (10*a+d+1) r
noncomputable def Dg (g:List Int):Prop:=∀d∈g,0<=d/\d<=9
theorem wK:∀(g r:List Int) (a:Int),nA a (g++r)=nA (nA a g) r
 |[],r,a=>rfl
 |d::g,r,a=>wK g r _
theorem E9:∀(g:List Int) (a:Int),0<=a->Dg g->a<=nA a g
 |[],a,_,_=>zbO _
 |d::r,a,h,q=>by
  have:=q d (zak ..);have:=E9 r (10*a+d+1) (by lia) fun x hx=>q x (zai _ hx);rw[nA];lia
theorem Ka:∀(g h:List Int) (a b:Int),a<b->g.length=h.length->Dg g->Dg h->nA a g<nA b h
 |[],[],a,b,h,_,_,_=>h
 |x::g,y::h,a,b,l,e,q1,q2=>by
  have:=q1 x (zak ..);have:=q2 y (zak ..);exact Ka g h _ _ (by lia) (by simpa using e) (fun z hz=>q1 z (zai _ hz)) fun z hz=>q2 z (zai _ hz)
 |[],_::_,_,_,_,e,_,_=>by simp at e
 |_::_,[],_,_,_,e,_,_=>by simp at e
theorem ND{g h:List Int}(l:g.length<h.length)(q1:Dg g)(q2:Dg h):nA 0 g<nA 0 h:=by
 have e:h=h.take (h.length-g.length)++h.drop (h.length-g.length):=(zcb _ _).symm;have d1:Dg (h.take (h.length-g.length)):=fun x hx=>q2 x (zbr hx);have d2:Dg (h.drop (h.length-g.length)):=fun x hx=>q2 x (zcZ hx);have l2:(h.drop (h.length-g.length)).length=g.length:=by rw[zbn];lia
 have l1:(h.take (h.length-g.length)).length≠0:=by rw[zcw];lia
 rw[e,wK];refine Ka _ _ _ _ ?_ l2.symm q1 d2;generalize h.take (h.length-g.length)=t at *;cases t with
 |nil=>exact absurd rfl l1
 |cons x r=>
  have:=d1 x (zak ..);have:=E9 r (10*0+x+1) (by lia) fun z hz=>d1 z (zai _ hz);rw[nA];lia
noncomputable def DI:List Int->List Int->Bool
 |[],[]=>false
 |[],_::_=>true
 |_::_,[]=>false
 |x::g,y::h=>if x=y then DI g h else decide (x<y)
theorem Kb:∀(g h:List Int) (a:Int),DI g h=true->g.length=h.length->Dg g->Dg h->nA a g<nA a h
 |[],[],a,l,_,_,_=>by cases l
 |x::g,y::h,a,l,e,q1,q2=>by
  have t1:Dg g:=fun z hz=>q1 z (zai _ hz);have t2:Dg h:=fun z hz=>q2 z (zai _ hz);have e:g.length=h.length:=by simpa using e
  rw[DI] at l;rw[nA,nA];split at l
  ·rename_i z;rw[z];exact Kb g h _ l e t1 t2
  ·exact Ka g h _ _ (by have:=of_decide_eq_true l;lia) e t1 t2
 |[],_::_,_,_,e,_,_=>by simp at e
 |_::_,[],_,_,e,_,_=>by simp at e
section
variable(led:PG.bM->List PG.bM)(s0:PG.bM)
inductive Cm:PG.bM->List Int->Prop
 |start:Cm s0 []
 |one {s t g}:Cm s g->led s=[t]->Cm t g
 |many {s t g} {i:Nat}:Cm s g->(led s).length≠1->(led s)[i]?=some t->Cm t (g++[(i:Int)])
end
section
variable{led:PG.bM->List PG.bM}{s0:PG.bM}
theorem Cm.dg(hl:∀s,(led s).length<=10){s:PG.bM}{g:List Int}(h:Cm led s0 s g):Dg g:=by
 induction h with
 |start=>exact fun d h=>by cases h
 |one _ _ ih=>exact ih
 |@many s t g i _ _ e ih=>
  intro d hd;rcases zao.mp hd with hd |hd
  ·exact ih d hd
  ·rw[zag.mp hd];have:=(zam.mp e).1;have:=hl s;lia
structure BI(led:PG.bM->List PG.bM)(s0:PG.bM)(k:Nat)(f l:jd)(as:List (List Int×List PG.bM)):Prop where
 SE:f.Pairwise fun x y=>nA 0 x.2<=nA 0 y.2
 fl:∀x∈f,∀y∈l,nA 0 x.2<=nA 0 y.2
 ll:l.Pairwise fun x y=>nA 0 x.2<nA 0 y.2
 al:∀a∈as,∀y∈l,nA 0 a.1<nA 0 y.2
 aa:as.Pairwise fun a b=>nA 0 a.1<nA 0 b.1
 fk:∀x∈f,x.2.length<=k
 lk:∀x∈l,x.2.length=k
 ak:∀a∈as,a.1.length=k
 sf:∀x∈f,Cm led s0 x.1 x.2
 sl:∀x∈l,Cm led s0 x.1 x.2
 sa:∀a∈as,∃s,Cm led s0 s a.1/\a.2=led s/\(led s).length≠1
 c1:∀x∈f,∀t,led x.1=[t]->(∃y∈f,y.1=t/\nA 0 y.2<=nA 0 x.2)\/(t,x.2)∈l
 c2:∀x∈f,(led x.1).length≠1->∀(i:Nat) t,(led x.1)[i]?=some t->(∃y∈f,y.1=t/\nA 0 y.2<=nA 0 (x.2++[(i:Int)]))\/(t,x.2++[(i:Int)])∈l\/(x.2,led x.1)∈as
 st:(∃y∈f,y.1=s0/\nA 0 y.2<=0)\/(s0,[])∈l
theorem BI.start:BI led s0 0 [] [(s0,[])] [] where
 SE:=.nil
 fl:=fun x h=>by cases h
 ll:=zbI _ _
 al:=fun x h=>by cases h
 aa:=.nil
 fk:=fun x h=>by cases h
 lk:=fun x h=>by rw[zag.mp h];rfl
 ak:=fun x h=>by cases h
 sf:=fun x h=>by cases h
 sl:=fun x h=>by rw[zag.mp h];exact .start
 sa:=fun x h=>by cases h
 c1:=fun x h=>by cases h
 c2:=fun x h=>by cases h
 st:=.inr (zag.mpr rfl)
section
variable{k:Nat}{f r:jd}{s:PG.bM}{g:List Int}{as:List (List Int×List PG.bM)}
theorem BI.skip(h:BI led s0 k f ((s,g)::r) as)(hs:s∈f.map (·.1)):BI led s0 k f r as:=by
 obtain⟨y,hy,ey⟩:=zaF.mp hs;have ny:=h.fl y hy (s,g) (zak ..);refine⟨h.SE,fun x hx z hz=>h.fl x hx z (zai _ hz),(zbA.mp h.ll).2,fun a ha z hz=>h.al a ha z (zai _ hz),h.aa,h.fk,fun x hx=>h.lk x (zai _ hx),h.ak,h.sf,fun x hx=>h.sl x (zai _ hx),h.sa,fun x hx t e=>?_,fun x hx n i t e=>?_,?_⟩
 ·rcases h.c1 x hx t e with z |z
  ·exact .inl z
  ·rcases zae.mp z with z |z
   ·cases z;exact .inl ⟨y,hy,ey,ny⟩
   ·exact .inr z
 ·rcases h.c2 x hx n i t e with z |z |z
  ·exact .inl z
  ·rcases zae.mp z with z |z
   ·cases z;exact .inl ⟨y,hy,ey,ny⟩
   ·exact .inr (.inl z)
  ·exact .inr (.inr z)
 ·rcases h.st with z |z
  ·exact .inl z
  ·rcases zae.mp z with z |z
   ·cases z;exact .inl ⟨y,hy,ey,ny⟩
   ·exact .inr z
theorem BI.put(h:BI led s0 k f ((s,g)::r) as){l:jd}{bs:List (List Int×List PG.bM)}(hl:l=r/\bs=[(g,led s)]/\(led s).length≠1\/∃t,led s=[t]/\l=(t,g)::r/\bs=[]):BI led s0 k (f++[(s,g)]) l (as++bs):=by
 have hg:=zak (a:=(s,g)) (l:=r);obtain⟨gr,rr⟩:=zbA.mp h.ll;have inr:∀x∈r,x∈l:=fun x hx=>by
  rcases hl with ⟨rfl,_⟩ |⟨t,_,rfl,_⟩
  ·exact hx
  ·exact zai _ hx
 have WH:∀x∈l,x∈r\/x.2=g/\led s=[x.1]:=fun x hx=>by
  rcases hl with ⟨rfl,_⟩ |⟨t,e,rfl,_⟩
  ·exact .inl hx
  ·rcases zae.mp hx with rfl |hx
   ·exact .inr ⟨rfl,e⟩
   ·exact .inl hx
 have bin:∀a∈bs,a=(g,led s)/\l=r/\(led s).length≠1:=fun a ha=>by
  rcases hl with ⟨e,rfl,n⟩ |⟨t,e,rfl,rfl⟩
  ·exact⟨zag.mp ha,e,n⟩
  ·cases ha
 have nf:∀x∈f++[(s,g)],nA 0 x.2<=nA 0 g:=fun x hx=>by
  rcases zao.mp hx with hx |hx
  ·exact h.fl x hx _ hg
  ·rw[zag.mp hx];exact zbO _
 have ng:∀y∈l,nA 0 g<=nA 0 y.2:=fun y hy=>by
  rcases WH y hy with z |⟨z,_⟩
  ·exact Int.le_of_lt (gr y z)
  ·rw[z];exact zbO _
 have me:(s,g)∈f++[(s,g)]:=zaB _ (zag.mpr rfl);have up:∀ {P:PG.bM×List Int->Prop},(∃y∈f,P y)->∃y∈f++[(s,g)],P y:=fun ⟨y,hy,p⟩=>⟨y,zbg _ hy,p⟩
 refine⟨zce.mpr ⟨h.SE,zbI _ _,fun x hx y hy=>?_⟩,fun x hx y hy=>zc7 (nf x hx) (ng y hy),?_,?_,?_,?_,?_,?_,?_,?_,?_,fun x hx t e=>?_,fun x hx n i t e=>?_,?_⟩
 ·rw[zag.mp hy];exact h.fl x hx _ hg
 ·rcases hl with ⟨rfl,_⟩ |⟨t,_,rfl,_⟩
  ·exact rr
  ·exact zbA.mpr ⟨fun y hy=>gr y hy,rr⟩
 ·intro a ha y hy;rcases zao.mp ha with ha |ha
  ·exact Int.lt_of_lt_of_le (h.al a ha _ hg) (ng y hy)
  ·obtain⟨rfl,rfl,_⟩:=bin a ha;exact gr y hy
 ·refine zce.mpr ⟨h.aa,?_,fun a ha b hb=>?_⟩
  ·rcases hl with ⟨_,rfl,_⟩ |⟨_,_,_,rfl⟩
   ·exact zbI _ _
   ·exact .nil
  ·rw[(bin b hb).1];exact h.al a ha _ hg
 ·intro x hx;rcases zao.mp hx with hx |hx
  ·exact h.fk x hx
  ·rw[zag.mp hx];exact zc4 (h.lk _ hg)
 ·intro x hx;rcases WH x hx with z |⟨z,_⟩
  ·exact h.lk x (zai _ z)
  ·rw[z];exact h.lk _ hg
 ·intro a ha;rcases zao.mp ha with ha |ha
  ·exact h.ak a ha
  ·rw[(bin a ha).1];exact h.lk _ hg
 ·intro x hx;rcases zao.mp hx with hx |hx
  ·exact h.sf x hx
  ·rw[zag.mp hx];exact h.sl _ hg
 ·intro x hx;rcases WH x hx with z |⟨z,e⟩
  ·exact h.sl x (zai _ z)
  ·rw[z];exact .one (h.sl _ hg) e
 ·intro a ha;rcases zao.mp ha with ha |ha
  ·exact h.sa a ha
  ·obtain⟨rfl,_,n⟩:=bin a ha;exact⟨s,h.sl _ hg,rfl,n⟩
 ·rcases zao.mp hx with hx |hx
  ·rcases h.c1 x hx t e with z |z
   ·exact .inl (up z)
   ·rcases zae.mp z with z |z
    ·cases z;exact .inl ⟨_,me,rfl,zbO _⟩
    ·exact .inr (inr _ z)
  ·rw[zag.mp hx] at e ⊢;rcases hl with ⟨_,_,n⟩ |⟨t',e',rfl,_⟩
   ·exact absurd (by rw[show led s=[t] from e];rfl) n
   ·rw[show led s=[t] from e] at e';cases e';exact .inr (zak ..)
 ·rcases zao.mp hx with hx |hx
  ·rcases h.c2 x hx n i t e with z |z |z
   ·exact .inl (up z)
   ·rcases zae.mp z with z |z
    ·cases z;exact .inl ⟨_,me,rfl,zbO _⟩
    ·exact .inr (.inl (inr _ z))
   ·exact .inr (.inr (zbg _ z))
  ·rw[zag.mp hx] at n ⊢;rcases hl with ⟨_,rfl,_⟩ |⟨t',e',_⟩
   ·exact .inr (.inr (zaB _ (zag.mpr rfl)))
   ·exact absurd (by rw[show led s=[t'] from e'];rfl) n
 ·rcases h.st with z |z
  ·exact .inl (up z)
  ·rcases zae.mp z with z |z
   ·cases z;exact .inl ⟨_,me,rfl,zbO _⟩
   ·exact .inr (inr _ z)
end
variable{S:PG.bM->Prop}{M:Nat}
theorem BI.mE(li:∀s,S s->∀x∈led s,S x)(hM:∀f:jd,wH S f->f.length<=M){k:Nat}:∀(n:Nat) (f r:jd) (s:PG.bM) (g:List Int) (as:List (List Int×List PG.bM)),M<f.length+n->wH S f->S s->BI led s0 k f ((s,g)::r) as->BI led s0 k (mE led n f s g).1 r (as++pG g (mE led n f s g).2)
 |0,f,r,s,g,as,hn,o,_,_=>absurd (hM f o) (by lia)
 |n+1,f,r,s,g,as,hn,o,hs,h=>by
  rw[L2.mE];split
  ·rename_i SF;show BI led s0 k f r (as++[]);rw[zaC];exact h.skip SF
  ·rename_i SF;have o1:=o.put (g:=g) SF hs;split
   ·rename_i t e;have h2:=h.put (l:=(t,g)::r) (bs:=[]) (.inr ⟨t,e,rfl,rfl⟩);rw[zaC] at h2;exact BI.mE li hM n _ r t g as (by rw[zal,zaG];lia) o1 (li s hs t (by rw[e];exact zag.mpr rfl)) h2
   ·rename_i l1 ne;refine h.put (.inl ⟨rfl,rfl,fun z=>?_⟩);obtain⟨t,e⟩:=zbN.mp z;exact ne t e
theorem BI.all(li:∀s,S s->∀x∈led s,S x)(hM:∀f:jd,wH S f->f.length<=M){k n:Nat}(hn:M<n):∀(l f:jd) (as:List (List Int×List PG.bM)),wH S f->(∀x∈l,S x.1)->BI led s0 k f l as->BI led s0 k (cW led n f l).1 [] (as++(cW led n f l).2)
 |[],f,as,_,_,h=>by
  show BI led s0 k f [] (as++[]);rw[zaC];exact h
 |(s,g)::r,f,as,o,hl,h=>by
  have h1:=BI.mE li hM n f r s g as (by lia) o (hl _ (zak ..)) h;have o1:=(nL li (m:=g.length) n f s g o (hl _ (zak ..)) (zah _)).1;have:=BI.all li hM hn r _ _ o1 (fun x hx=>hl x (zai _ hx)) h1;rw[zaZ] at this;exact this
theorem BI.level(hl:∀s,(led s).length<=10){k:Nat}{f:jd}{as:List (List Int×List PG.bM)}(h:BI led s0 k f [] as):BI led s0 (k+1) f (bT as) []:=by
 have mem:∀x∈bT as,∃a∈as,∃i:Nat,i<a.2.length/\a.2[i]?=some x.1/\x.2=a.1++[(i:Int)]:=fun x hx=>by
  obtain⟨a,ha,hx⟩:=zaR.mp hx;obtain⟨i,hi,rfl⟩:=zaF.mp hx;have hi:=zbw.mp hi;exact⟨a,ha,i,hi,by rw[zan,zac hi];rfl,rfl⟩
 have sl:∀x∈bT as,Cm led s0 x.1 x.2:=fun x hx=>by
  obtain⟨a,ha,i,_,e,e2⟩:=mem x hx;obtain⟨s,c,es,n⟩:=h.sa a ha;rw[e2];rw[es] at e;exact .many c n e
 have lk:∀x∈bT as,x.2.length=k+1:=fun x hx=>by
  obtain⟨a,ha,i,_,_,e2⟩:=mem x hx;rw[e2,zal,h.ak a ha];rfl
 have sn:∀(g:List Int) (i:Int),nA 0 (g++[i])=10*nA 0 g+i+1:=fun g i=>by rw[wK];rfl
 refine⟨h.SE,fun x hx y hy=>?_,?_,fun a ha=>(by cases ha),.nil,fun x hx=>zbt (h.fk x hx),lk,fun a ha=>(by cases ha),h.sf,sl,fun a ha=>(by cases ha),fun x hx t e=>?_,fun x hx n i t e=>?_,?_⟩
 ·exact Int.le_of_lt (ND (by have:=h.fk x hx;have:=lk y hy;lia) ((h.sf x hx).dg hl) ((sl y hy).dg hl))
 ·have key:∀bs:List (List Int×List PG.bM),(∀a∈bs,a.2.length<=10)->bs.Pairwise (fun a b=>nA 0 a.1<nA 0 b.1)->(bT bs).Pairwise fun x y=>nA 0 x.2<nA 0 y.2:=by
   intro bs hb p;unfold bT;refine List.pairwise_flatMap.mpr ⟨fun a ha=>?_,p.imp_of_mem fun {a b} ha RZ q x hx y hy=>?_⟩
   ·refine za0.mpr (List.pairwise_lt_range.imp fun {i j} hij=>?_);show nA 0 (a.1++[(i:Int)])<nA 0 (a.1++[(j:Int)]);rw[sn,sn];lia
   ·obtain⟨i,hi,rfl⟩:=zaF.mp hx;obtain⟨j,hj,rfl⟩:=zaF.mp hy;have hi:=zbw.mp hi;have:=hb a ha;show nA 0 (a.1++[(i:Int)])<nA 0 (b.1++[(j:Int)]);rw[sn,sn];lia
  exact key as (fun a ha=>by obtain⟨s,_,e,_⟩:=h.sa a ha;rw[e];exact hl s) h.aa
 ·exact .inl ((h.c1 x hx t e).resolve_right fun z=>by cases z)
 ·rcases h.c2 x hx n i t e with z |z |z
  ·exact .inl z
  ·cases z
  ·refine .inr (.inl (zaR.mpr ⟨_,z,zaF.mpr ⟨i,zbw.mpr (zam.mp e).1,?_⟩⟩));show (((led x.1).getD i (0,[]),x.2++[(i:Int)]):PG.bM×List Int)=_;rw[zan,e];rfl
 ·exact .inl (h.st.resolve_right fun z=>by cases z)
theorem BI.oS(li:∀s,S s->∀x∈led s,S x)(hl:∀s,(led s).length<=10)(hM:∀f:jd,wH S f->f.length<=M){n:Nat}(hn:M<n):∀(m k:Nat) (f:jd) (as:List (List Int×List PG.bM)),(as≠[]->M<f.length+m)->wH S f->rL S k as->BI led s0 k f [] as->∃k',BI led s0 k' (oS led n m f as) [] []
 |0,k,f,as,hm,o,_,h=>by
  by_cases e:as=[]
  ·subst e;exact⟨k,h⟩
  ·exact absurd (hM f o) (by have:=hm e;lia)
 |m+1,k,f,as,hm,o,oa,h=>by
  rw[L2.oS];split
  ·rename_i e;subst e;exact⟨k,h⟩
  ·rename_i e;have q:=kP li (n:=n) (m:=k+1) (bT as) f o (iC oa);have h1:=BI.all li hM hn (bT as) f [] o (fun x hx=>(iC oa x hx).1) (h.level hl);refine BI.oS li hl hM hn m (k+1) _ _ (fun e2=>?_) q.1 q.2.1 h1;have:=q.2.2;have:=hm e;have:0<(cW led n f (bT as)).2.length:=zbc.mpr e2;lia
theorem BI.SG{k:Nat}{f:jd}(h:BI led s0 k f [] []){s:PG.bM}{g:List Int}(c:Cm led s0 s g):∃y∈f,y.1=s/\nA 0 y.2<=nA 0 g:=by
 have sn:∀(g:List Int) (i:Int),nA 0 (g++[i])=10*nA 0 g+i+1:=fun g i=>by rw[wK];rfl
 induction c with
 |start=>exact h.st.resolve_right fun z=>by cases z
 |one _ e ih=>
  obtain⟨y,hy,ey,ny⟩:=ih;obtain⟨z,hz,ez,nz⟩:=(h.c1 y hy _ (by rw[ey];exact e)).resolve_right fun z=>by cases z
  exact⟨z,hz,ez,zc7 nz ny⟩
 |many _ n e ih=>
  obtain⟨y,hy,ey,ny⟩:=ih;obtain⟨z,hz,ez,nz⟩:=(h.c2 y hy (by rw[ey];exact n) _ _ (by rw[ey];exact e)).resolve_right fun z=>z.elim (fun z=>by cases z) fun z=>by cases z
  refine⟨z,hz,ez,zc7 nz ?_⟩;rw[sn,sn];lia
end
open MeetsSeq MeetsSeq2 MeetsSeq3 PySem.SeqAt
open AutoSeq1 (wpAny_loadPart')
theorem GG(l b:zc8)(items gF:Array zc9)(n n2:Nat)(dd HL:Option zc8)(sl G7:Array (Option zc9))(xs ys:List Int)(h1:items.size=xs.length)(h2:gF.size=ys.length)(k:Nat) :
 ∀i:Nat,items.size-i=k->i<=items.size->Meets (Builtin.«list.__eq__.loop» ⟨[.ref l,.ref b,rawInt i,rawInt 0],[]⟩)
  (fun A R s=>s.heap.get? l=some {cls:=.type "list",dict:=dd,data:=.seq items n,slots:=sl}/\s.heap.get? b=some {cls:=.type "list",dict:=HL,data:=.seq gF n2,slots:=G7}/\
   (∀(j:Nat) (x:Int),xs[j]?=some x->∃t,items[j]?=some (Value.int x t))/\(∀(j:Nat) (x:Int),ys[j]?=some x->∃t,gF[j]?=some (Value.int x t))/\
   R (.ok (.ret (.bool (DI (xs.drop i) (ys.drop i))))) s):=by
 induction k with
 |zero=>
  intro i hk hle prog w A R s h;obtain⟨hp,g,d,tk,os⟩:=s;obtain⟨hl,hb,hx,hy,h⟩:=h
  wp_walk using wpAny_loadPart' hl,wpAny_loadPart' hb
  have SH:items[((i:Nat):Int).toNat]?=none:=by simp;omega
  have hd:xs.drop i=[]:=by simp;omega
  rw[hd] at h;rw[SH]
  wp_walk using wpAny_loadPart' hl,wpAny_loadPart' hb
  show R (.ok (.ret (.bool (decide (items.size<gF.size))))) _;cases e:ys.drop i with
  |nil=>
   have:ys.length<=i:=by simpa using e
   have:¬items.size<gF.size:=by first|decide|omega
   rw[e,DI] at h;rw[decide_eq_false this];exact h
  |cons y r=>
   have:(ys.drop i).length=r.length+1:=by rw[e];rfl
   rw[zbn] at this;have:items.size<gF.size:=by first|decide|omega
   rw[e,DI] at h;rw[decide_eq_true this];exact h
 |succ k ih=>
  intro i hk hle prog w A R s h;obtain⟨hp,g,d,tk,os⟩:=s;obtain⟨hl,hb,hx,hy,h⟩:=h
  wp_walk using wpAny_loadPart' hl,wpAny_loadPart' hb
  have o8:i<xs.length:=by first|decide|omega
  obtain⟨t,e1⟩:=hx i xs[i] (zac o8);have SH:items[((i:Nat):Int).toNat]?=some (Value.int xs[i] t):=e1;rw[zbd o8] at h;by_cases SI:i<ys.length
  ·obtain⟨u,e2⟩:=hy i ys[i] (zac SI);have Uz:gF[((i:Nat):Int).toNat]?=some (Value.int ys[i] u):=e2;have hc:((i:Int)+1)=((i+1:Nat):Int):=by lia
   rw[zbd SI,DI] at h;rw[SH,Uz];refine zdb (EqAt.int_int _ _ _ _ prog w _ _ ?_);by_cases e:xs[i]=ys[i]
   ·rw[if_pos e] at h;rw[show (xs[i]==ys[i])=true from by simpa using e]
    wp_walk
    rw[hc];exact⟨plainId_quiet plain_eq_loop _,codeAny_builtin entry_eq_loop (by
     rw[Around.under_plainId plain_eq_loop _];exact ih (i+1) (by first|decide|omega) (by first|decide|omega) prog w A R _ ⟨hl,hb,hx,hy,h⟩)⟩
   ·rw[if_neg e] at h;rw[show (xs[i]==ys[i])=false from by simpa using e]
    wp_walk using wpAny_loadPart' hl,wpAny_loadPart' hb
    rw[SH,Uz];refine zdb (richCompare_gives (typeIs_int _ _ _) (typeIs_int _ _ _) F.slot_int_lt F.entry_int_lt (F.args_int_lt_2 _ _) (gives_int_lt _ _ _ _) (fun x=>nomatch x) ?_);show wpAny (model prog w) A.in1 (ret (Value.bool (decide (xs[i]<ys[i])))) _ _ _
    wp_walk
    exact h
  ·have Uz:gF[((i:Nat):Int).toNat]?=none:=by simp;omega
   have hd:ys.drop i=[]:=by simp;omega
   rw[hd,DI] at h;rw[SH,Uz]
   wp_walk using wpAny_loadPart' hl,wpAny_loadPart' hb
   show R (.ok (.ret (.bool (decide (items.size<gF.size))))) _;have:¬items.size<gF.size:=by first|decide|omega
   rw[decide_eq_false this];exact h
theorem GH(l b:zc8)(items gF:Array zc9)(n n2:Nat)(dd HL:Option zc8)(sl G7:Array (Option zc9))(xs ys:List Int)(h1:items.size=xs.length)(h2:gF.size=ys.length) :
 Meets (Builtin.«list.__lt__» ⟨[.ref l,.ref b],[]⟩)
  (fun A R s=>s.heap.get? l=some {cls:=.type "list",dict:=dd,data:=.seq items n,slots:=sl}/\s.heap.get? b=some {cls:=.type "list",dict:=HL,data:=.seq gF n2,slots:=G7}/\
   (∀(j:Nat) (x:Int),xs[j]?=some x->∃t,items[j]?=some (Value.int x t))/\(∀(j:Nat) (x:Int),ys[j]?=some x->∃t,gF[j]?=some (Value.int x t))/\
   R (.ok (.ret (.bool (DI xs ys)))) s):=by
 intro prog w A R s h;obtain⟨hp,g,d,tk,os⟩:=s;obtain⟨hl,hb,hx,hy,h⟩:=h;have f3:=AutoSeq1.sub_list_list
 wp_walk using wpAny_loadPart' hl,wpAny_loadPart' hb
 exact⟨plainId_quiet plain_eq_loop _,codeAny_builtin entry_eq_loop (by
  rw[Around.under_plainId plain_eq_loop _];exact GG l b items gF n n2 dd HL sl G7 xs ys h1 h2 _ 0 rfl (zaU _) prog w A R _ ⟨hl,hb,hx,hy,by simpa using h⟩)⟩
end L2
namespace L2
open PySem PySem.SeqAt
theorem tS:∀ {xs:List Int} {bj:List zc9},Vals (xs.map V.int) bj->bj.length=xs.length/\∀(j:Nat) (x:Int),xs[j]?=some x->∃t,bj[j]?=some (Value.int x t)
 |[],bj,h=>by
  cases h;exact⟨rfl,fun j x e=>by simp at e⟩
 |z::r,bj,h=>by
  cases h with
  |cons a b=>
   obtain⟨h1,h2⟩:=tS b;refine⟨by simp[h1],fun j x e=>?_⟩;cases j with
   |zero=>
    cases e;obtain⟨t,e⟩:=a;exact⟨t,by rw[e];rfl⟩
   |succ j=>exact h2 j x (by simpa using e)
theorem Kc{X:Cx}(hu:X.A.units+1<cLine):qG X (compareOp .Lt) (fun x y H Q=>∃a b xs ys,x=.ref a/\y=.ref b/\gM X.K H a (xs.map V.int)/\gM X.K H b (ys.map V.int)/\Q (.bl (DI xs ys)) H):=by
 intro pins s σ H x y v u Q I rx ry h;obtain⟨a,b,xs,ys,rfl,rfl,h1,h2,q⟩:=h;cases (show v=Value.ref a from rx);cases (show u=Value.ref b from ry);obtain⟨bj,v1,p1,_⟩:=I.list h1;obtain⟨its',v2,p2,_⟩:=I.list h2;obtain⟨l1,g1⟩:=tS v1;obtain⟨l2,g2⟩:=tS v2;obtain⟨⟨cls,dd,data,sl⟩,ho,hc,n,hd⟩:=id p1.isList;obtain⟨⟨RG,HL,data2,G7⟩,K3,Na,n2,hd2⟩:=id p2.isList;simp only at hc hd Na hd2;subst hc hd Na hd2;exact richCompare_meets_room (op:=.Lt) ⟨_,ho,rfl⟩ ⟨_,K3,rfl⟩ F.slot_list_lt F.entry_list_lt (F.args_list_lt_2 _ _) (GH a b bj.toArray its'.toArray n n2 dd HL sl G7 xs ys (by simp[l1]) (by simp[l2]))
  ⟨ho,K3,fun j x e=>by simpa using g1 j x e,fun j x e=>by simpa using g2 j x e,(show Value.bool (DI xs ys)≠Value.notImplemented/\_ from ⟨(fun x=>nomatch x),⟨.bl (DI xs ys),H,I,rfl,q⟩⟩)⟩ (by lia)
open PyProof.Rows PySem.Spec
theorem zO(pr:PG.Prog)(s:PG.bM):(c5 pr s).length<=10:=by
 unfold c5;split
 ·exact zaU _
 ·split
  ·rw[zad,zba];exact zah _
  ·cases (cm pr s.1 s.2 0).1<;>simp
theorem Kd{pr:PG.Prog}{s0:PG.bM}{x:PG.bM×List Int}{t:PG.Tg}(m:PG.Met (gE pr.body) (cm pr) (iZ pr) x t):∀g,Cm (c5 pr) s0 x.1 g->Dg x.2->∃s h,Cm (c5 pr) s0 s h/\t∈iZ pr s/\nA 0 h<=nA 0 (g++x.2):=by
 induction m with
 |@here x t m=>
  intro g c d;refine⟨_,g,c,m,?_⟩;rw[wK];exact E9 _ _ (E9 g 0 (zbO _) (c.dg (zO pr))) d
 |@on x y t e _ ih=>
  intro g c d;obtain⟨⟨row,vals⟩,r⟩:=x;by_cases h0:row=0
  ·rw[PG.rG h0] at e;cases e
  cases ha:gE pr.body row with
  |true=>
   cases r with
   |nil=>rw[PG.EZ ha] at e;cases e
   |cons f r=>
    rw[PG.zz h0 ha] at e;obtain⟨z,ez,rfl⟩:=zbm.mp e;have df:=d f (zak ..);obtain⟨i,rfl⟩:∃i:Nat,f=(i:Int):=⟨f.toNat,by lia⟩
    have hi:i<10:=by lia
    have el:c5 pr (row,vals)=(zaJ 10).map fun f=>((cm pr row vals (f:Nat)).1.getD (row,vals)):=by
     unfold c5;rw[if_neg h0,if_pos ha]
    have:=ih (g++[(i:Int)]) (.many c (by rw[el,zad,zba];decide) (by
     rw[el,zap,zbX hi];show some ((cm pr row vals ((i:Nat):Int)).1.getD (row,vals))=_;rw[show (cm pr row vals ((i:Nat):Int)).1=some z from ez];rfl)) fun x hx=>d x (zai _ hx)
    rw[zaZ] at this;exact this
  |false=>
   rw[PG.iB h0 ha] at e;obtain⟨z,ez,rfl⟩:=zbm.mp e;refine ih g (.one c ?_) d;unfold c5;rw[if_neg h0,if_neg (by rw[ha];exact zaf),show (cm pr row vals 0).1=some z from ez];rfl
theorem Pn{pr:PG.Prog}{s0 s:PG.bM}{g:List Int}(c:Cm (c5 pr) s0 s g):∀(r:List Int) (t:PG.Tg),PG.Met (gE pr.body) (cm pr) (iZ pr) (s,r) t->PG.Met (gE pr.body) (cm pr) (iZ pr) (s0,g++r) t:=by
 induction c with
 |start=>exact fun r t m=>m
 |@one s x g _ e ih=>
  intro r t m;refine ih r t (.on (s':=(x,r)) ?_ m);unfold c5 at e;split at e
  ·cases e
  ·rename_i h0;split at e
   ·have:=congrArg za9 e;simp at this
   ·rename_i ha;rw[PG.iB h0 (by simpa using ha),Option.toList_eq_singleton_iff.mp e];rfl
 |@many s x g i _ n e ih=>
  intro r t m;rw[zaZ];refine ih _ t (.on (s':=(x,r)) ?_ m);unfold c5 at e n;split at e
  ·cases e
  ·rename_i h0;rw[if_neg h0] at n;split at e
   ·rename_i ha;have hi:=(zam.mp e).1;rw[zad,zba] at hi;rw[zap,zbX hi] at e;show PG.qH _ _ (s,(i:Int)::r)=_;rw[PG.zz h0 ha];have:=wD s.1 s.2 (i:Int) ha;cases es:(cm pr s.1 s.2 (i:Int)).1 with
    |none=>exact absurd es this
    |some y=>
     have e:some ((cm pr s.1 s.2 (i:Int)).1.getD s)=some x:=e;rw[es] at e;cases e;rfl
   ·rename_i ha;rw[if_neg ha] at n;cases es:(cm pr s.1 s.2 0).1 with
    |none=>rw[es] at e;cases e
    |some y=>rw[es] at n;exact absurd rfl n
theorem BS{pr:PG.Prog}(d:iA pr):∃k,BI (c5 pr) (gN pr) k (cF pr (gN pr)) [] []:=by
 have li:∀s,cZ pr s->∀x∈c5 pr s,cZ pr x:=fun s h=>rJ d h;have hM:∀f:jd,wH (cZ pr) f->f.length<=ba pr:=fun f h=>by
  have:=gW h.nd fun s hs=>by obtain⟨x,hx,rfl⟩:=zaF.mp hs;exact h.Cv x hx
  rwa [zad] at this
 have g:=nL li (m:=0) (ba pr+1) [] (gN pr) [] .nil (cZ.first d) (zah _);have h:=BI.mE li hM (ba pr+1) [] [] (gN pr) [] [] (by simp) .nil (cZ.first d) (BI.start (led:=c5 pr));exact BI.oS li (zO pr) hM (zca _) (ba pr+2) 0 _ _ (fun _=>by lia) g.1 g.2.1 h
theorem yC(pr:PG.Prog):∀(f:jd) (t:PG.Tg) {g:List Int},ik pr f t=some g->f.Pairwise (fun x y=>nA 0 x.2<=nA 0 y.2)->∃x∈f,x.2=g/\t∈iZ pr x.1/\∀y∈f,t∈iZ pr y.1->nA 0 g<=nA 0 y.2
 |[],t,g,h,_=>by cases h
 |x::r,t,g,h,p=>by
  obtain⟨p1,p2⟩:=zbA.mp p;rw[ik] at h;split at h
  ·rename_i ht;cases h;refine⟨x,zak ..,rfl,ht,fun y hy _=>?_⟩;rcases zae.mp hy with rfl |hy
   ·exact zbO _
   ·exact p1 y hy
  ·rename_i ht;obtain⟨z,hz,e,t1,q⟩:=yC pr r t h p2;refine⟨z,zai _ hz,e,t1,fun y hy ty=>?_⟩;rcases zae.mp hy with rfl |hy
   ·exact absurd ty ht
   ·exact q y hy ty
theorem yE(pr:PG.Prog):∀(f:jd) (t:PG.Tg),ik pr f t=none->∀y∈f,t ∉ iZ pr y.1
 |[],t,h,y,hy=>by cases hy
 |x::r,t,h,y,hy=>by
  rw[ik] at h;split at h
  ·cases h
  ·rename_i ht;rcases zae.mp hy with rfl |hy
   ·exact ht
   ·exact yE pr r t h y hy
theorem qu{pr:PG.Prog}(d:iA pr){t:PG.Tg}{g:List Int}(h:ik pr (cF pr (gN pr)) t=some g):Dg g/\Gu pr g t/\∀one,Dg one->nA 0 one<nA 0 g->¬Gu pr one t:=by
 obtain⟨k,b⟩:=BS d;obtain⟨x,hx,rfl,ht,q⟩:=yC pr _ t h b.SE;have c:=b.sf x hx;refine⟨c.dg (zO pr),?_,fun one ho l m=>?_⟩
 ·have:=Pn c [] t (.here ht);rw[zaC] at this;exact this
 ·obtain⟨s,h1,c1,t1,l1⟩:=Kd (x:=(gN pr,one)) m [] .start ho;obtain⟨y,hy,rfl,ny⟩:=b.SG c1;have:=q y hy t1;have l1:nA 0 h1<=nA 0 one:=l1;lia
theorem DJ{pr:PG.Prog}(d:iA pr){t:PG.Tg}(h:ik pr (cF pr (gN pr)) t=none):∀one,Dg one->¬Gu pr one t:=by
 obtain⟨k,b⟩:=BS d;intro one ho m;obtain⟨s,h1,c1,t1,l1⟩:=Kd (x:=(gN pr,one)) m [] .start ho;obtain⟨y,hy,rfl,ny⟩:=b.SG c1;exact yE pr _ t h y hy t1
theorem SJ(xs:List V)(j:Nat):uQ xs none (some (j:Int))=xs.take j:=by
 unfold uQ;rw[HT.qS,HT.vg,zcP,Nat.sub_zero];by_cases h:j<=xs.length
 ·rw[Nat.min_eq_left h]
 ·rw[Nat.min_eq_right (by lia),zbp,zby (by lia)]
theorem Mv(xs:List V)(j:Nat):uQ xs (some (j:Int)) none=xs.drop j:=by
 unfold uQ;rw[HT.qS,HT.vg];by_cases h:j<=xs.length
 ·rw[Nat.min_eq_left h,zby (by rw[zbn];lia)]
 ·rw[Nat.min_eq_right (by lia),zcM (by lia),zcM (by lia),List.take_nil]
theorem GI{D:zc8}{n:Nat}{te:TE}{Q:VK}{r:St}{H:Hp}(Pv:Nat->List V->Hp->Prop)(hl:n<=16000000)(hD:H D=none)(h0:Pv 0 [] (upd H D (.lst [])))
 (step:∀(i:Nat) ys H2,i<n->au H H2->H2 D=some (.lst ys)->ys.length=i->Pv i ys H2->∀R:VK,(∀v H3,au H2 H3->Pv (i+1) (ys++[v]) (upd H3 D (.lst (ys++[v])))->R v H3)->te (some (.int i)::r) H2 R)
 (q:∀ys H2,au H H2->H2 D=some (.lst ys)->ys.length=n->Pv n ys H2->Q (.ref D) H2):pz (Ei 0 n) D (dI 0) vN te Q (none::r) (upd H D (.lst [])):=by
 have ln:((zaJ n).map fun i:Nat=>V.int i).length=n:=by rw[zad,zba]
 refine BG (fun τ=>∃x,τ=x::r) ((zaJ n).map fun i:Nat=>V.int i) Pv (fun i H2 _ hi=>by rw[ln] at hi;exact hi) (fun H2 _=>by rw[ln];exact zah n) (fun i H2 x H3 _ hi y=>?_) (by rw[ln];exact hl) hD ⟨_,rfl⟩ h0 (fun i x ys τ H2 hx ⟨z,e⟩ s2 h2 ly p2 R hR=>?_) (by rw[ln];exact q)
 ·rw[ln] at hi;obtain⟨rfl,rfl⟩:=y;refine⟨rfl,?_⟩;rw[zap,zbX hi,zcg];rfl
 ·have hi:=(zam.mp hx).1;rw[ln] at hi;rw[zap,zbX hi] at hx;cases hx;subst e;exact step i ys H2 hi s2 h2 ly p2 (R (some (.int i)::r)) fun v H3 s3 p3=>hR _ v H3 ⟨_,rfl⟩ s3 p3
noncomputable def i0 (N:zc8->Prop) (H:Hp) (P:List Int->Prop) (us:List V):Prop:=∀u∈us,∃a figs,u=.ref a/\N a/\H a=some (.lst (figs.map V.int))/\Dg figs/\P figs
theorem i0.nil{N:zc8->Prop}{H:Hp}{P:List Int->Prop}:i0 N H P []:=fun u h=>by cases h
theorem i0.snoc{N:zc8->Prop}{H:Hp}{P:List Int->Prop}{us:List V}(h:i0 N H P us){a:zc8}{figs:List Int}(n:N a)(y:H a=some (.lst (figs.map V.int)))(d:Dg figs)(p:P figs):i0 N H P (us++[.ref a]):=fun u hu=>by
 rcases zao.mp hu with hu |hu
 ·exact h u hu
 ·rw[zag.mp hu];exact⟨a,figs,rfl,n,y,d,p⟩
theorem i0.keep{N M:zc8->Prop}{H H':Hp}{P:List Int->Prop}{us:List V}(h:i0 N H P us)(k:∀a xs,N a->H a=some (.lst xs)->M a/\H' a=some (.lst xs)):i0 M H' P us:=fun u hu=>by
 obtain⟨a,f,e,n,y,d⟩:=h u hu;exact⟨a,f,e,(k a _ n y).1,(k a _ n y).2,d⟩
theorem yF{D:zc8}{n:Nat}{te:TE}{Q:VK}{r:St}{H:Hp}(P:List Int->Prop)(hl:n<=16000000)(hD:H D=none)
 (step:∀(i:Nat) H2,i<n->∀R:VK,(∀p figs,H2 p=none->Dg figs->P figs->R (.ref p) (upd H2 p (.lst (figs.map V.int))))->te (some (.int i)::r) H2 R)
 (q:∀us H',au H H'->H' D=some (.lst us)->i0 (fun _=>True) H' P us->Q (.ref D) H'):pz (Ei 0 n) D (dI 0) vN te Q (none::r) (upd H D (.lst [])):=by
 refine GI (fun i ys H2=>i0 (·≠D) H2 P ys) hl hD .nil (fun i ys H2 hi s2 h2 ly f2 R hR=>?_) (fun ys H2 s2 h2 ly f2=>q ys H2 s2 h2 (f2.keep fun a xs _ y=>⟨trivial,y⟩));refine step i H2 hi R fun p figs hp d pf=>?_;have s3:=au.new hp (.lst (figs.map V.int));have np:p≠D:=(aj h2 hp).symm;refine hR _ _ s3 (i0.snoc (f2.keep fun a xs n y=>⟨n,?_⟩) np ?_ d pf)
 ·rw[av n];exact s3 _ _ y
 ·rw[av np];exact ah
noncomputable def DK (D:zc8) (H:Hp) (tv:V):Option (List Int)->Prop
 |none=>tv=.b9
 |some g=>Dg g/\g.length<=2002/\∃lt,tv=.ref lt/\lt≠D/\H lt=some (.lst (g.map V.int))
noncomputable def Mw:Option (List Int)->List Int->Prop
 |none,one=>one.length<=12
 |some g,one=>nA 0 one<nA 0 g/\one.length<=2002
noncomputable def Ke:Sp:=fun vs H Q _=>∃m:Nat,vs=[.int m]/\m<=2/\∀L us H',au H H'->H' L=some (.lst us)->i0 (fun _=>True) H' (fun g=>g.length=m) us->Q (.ref L) H'
noncomputable def Mx (K:zaa):Sp:=fun vs H Q _=>∃(D S:zc8) (sc:List Int) (p:Nat) (tv:V) (go:Option (List Int)),vs=[.ref D,tv]/\eY K H D S sc p/\p<=900000/\DK D H tv go/\
 ∀L us H' p',aT D H H'->H L=none->p'<=p+90000->eY K H' D S sc p'->H' L=some (.lst us)->i0 (·≠D) H' (Mw go) us->Q (.ref L) H'
theorem Po{g one:List Int}{at_:Nat}{z:Int}(d1:Dg g)(d2:Dg one)(hz:0<=z/\z<=9):Dg (g.take at_++[z]++one.drop (at_+1)):=fun x hx=>by
 rcases zao.mp hx with hx |hx
 ·rcases zao.mp hx with hx |hx
  ·exact d1 x (zbr hx)
  ·rw[zag.mp hx];exact hz
 ·exact d2 x (zcZ hx)
theorem zP{g one:List Int}(d1:Dg g)(l:g.length<=2002)(d2:Dg one)(h:one.length<=g.length)(q:one.length<g.length\/DI one g=true):Mw (some g) one:=by
 refine⟨?_,zaA h l⟩;by_cases e:one.length<g.length
 ·exact ND e d2 d1
 ·exact Kb one g 0 (q.resolve_left e) (by lia) d2 d1
theorem Fb{D Pt:zc8}{H H':Hp}{ps:Array zc9}(y:H Pt=some (.oZ ps))(u:aM (fun b=>b=D\/b=Pt) H H'):∃Hm,aT D H Hm/\Kp Hm H':=by
 refine⟨fun b=>if b=Pt then H b else H' b,fun b o n e=>?_,fun b o e n=>?_⟩
 ·show (if b=Pt then H b else H' b)=some o;by_cases z:b=Pt
  ·rw[if_pos z];exact e
  ·rw[if_neg z];exact u b o (fun q=>q.elim n z) e
 ·have e:(if b=Pt then H b else H' b)=some o:=e;by_cases z:b=Pt
  ·rw[if_pos z,z,y] at e;cases e;exact absurd rfl (n ps)
  ·rw[if_neg z] at e;exact e
theorem Fc{pr:PG.Prog}(d:iA pr){t:PG.Tg}{go:Option (List Int)}(h:ik pr (cF pr (gN pr)) t=go){one:List Int}(d1:Dg one)(b:Mw go one\/go=none):¬Gu pr one t:=by
 cases go with
 |none=>exact DJ d h one d1
 |some g=>
  rcases b with b |b
  ·exact(qu d h).2.2 one d1 b.1
  ·cases b
theorem My{go:Option (List Int)}{one:List Int}(b:Mw go one):one.length<=2002:=by
 cases go with
 |none=>exact zaA b (by decide)
 |some g=>exact b.2
end L2
section
set_option maxHeartbeats 4000000
namespace Pp
open PySem L2
noncomputable def top (i:Nat):Stmt:=PySem.Challenge.pw_everyrow_k30_whole_none_is_shorter.main.body.getD i (.Pass ⟨0,0,0,0⟩)
noncomputable abbrev DL:Stmt:=top 2
noncomputable abbrev jO:Stmt:=top 3
noncomputable abbrev nM:Stmt:=top 4
noncomputable abbrev ky:Stmt:=top 5
noncomputable abbrev tT:Stmt:=top 6
noncomputable abbrev nN:Stmt:=top 7
noncomputable abbrev jk:Stmt:=top 8
noncomputable abbrev zQ:Stmt:=top 13
noncomputable abbrev tU:Stmt:=top 16
noncomputable abbrev qv:Stmt:=top 17
noncomputable abbrev qw:Stmt:=top 18
noncomputable abbrev zR:Stmt:=top 19
noncomputable abbrev tV:Stmt:=top 23
noncomputable abbrev gG:Stmt:=top 24
noncomputable abbrev lP:Stmt:=top 25
noncomputable abbrev tW:Stmt:=top 28
noncomputable abbrev zS:Stmt:=top 29
noncomputable abbrev qx:Stmt:=top 30
noncomputable abbrev lQ:Stmt:=top 31
noncomputable abbrev wL:Stmt:=top 32
noncomputable abbrev gY:Stmt:=top 33
noncomputable abbrev aG:Stmt:=top 34
noncomputable abbrev lS:Stmt:=top 35
noncomputable abbrev gK:Stmt:=top 36
noncomputable abbrev nO:Stmt:=top 38
noncomputable abbrev wM:Stmt:=top 39
noncomputable abbrev lT:Stmt:=top 40
noncomputable abbrev lU:Stmt:=top 41
noncomputable abbrev lV:Stmt:=top 42
noncomputable abbrev kz:Stmt:=top 43
noncomputable abbrev jP:Stmt:=top 44
noncomputable abbrev kA:Stmt:=top 45
noncomputable abbrev lW:Stmt:=top 46
noncomputable abbrev Kf:Stmt:=top 47
noncomputable abbrev cO:Stmt:=inClass (top 15) 0
noncomputable abbrev di:Stmt:=inClass (top 22) 0
noncomputable abbrev bt:Stmt:=inClass (top 22) 1
noncomputable abbrev bU:Stmt:=inClass (top 22) 2
noncomputable abbrev cQ:Stmt:=inClass (top 22) 3
theorem Fd:aX ["program"] ["program"] (az DL):=⟨rfl,rfl,rfl,by decide +kernel,rfl,by decide +kernel,by decide +kernel⟩
theorem mG:aX ["body", "behind", "told", "place", "statement", "after", "inner"] ["body", "behind"] (az jO):=⟨rfl,rfl,rfl,by decide +kernel,rfl,by decide +kernel,by decide +kernel⟩
theorem rM:aX ["body", "behind"] ["body", "behind"] (az nM):=⟨rfl,rfl,rfl,by decide +kernel,rfl,by decide +kernel,by decide +kernel⟩
theorem nQ:aX ["statement", "after"] ["statement", "after"] (az ky):=⟨rfl,rfl,rfl,by decide +kernel,rfl,by decide +kernel,by decide +kernel⟩
theorem wN:aX ["statement", "after", "word"] ["statement", "after"] (az tT):=⟨rfl,rfl,rfl,by decide +kernel,rfl,by decide +kernel,by decide +kernel⟩
theorem rN:aX ["statement"] ["statement"] (az nN):=⟨rfl,rfl,rfl,by decide +kernel,rfl,by decide +kernel,by decide +kernel⟩
theorem kQ:aX ["body", "found", "statement", "inner"] ["body"] (az jk):=⟨rfl,rfl,rfl,by decide +kernel,rfl,by decide +kernel,by decide +kernel⟩
theorem BU:aX ["e", "values", "kind", "left", "right"] ["e", "values"] (az zQ):=⟨rfl,rfl,rfl,by decide +kernel,rfl,by decide +kernel,by decide +kernel⟩
theorem wO:aX ["chart", "row"] ["chart", "row"] (az tU):=⟨rfl,rfl,rfl,by decide +kernel,rfl,by decide +kernel,by decide +kernel⟩
theorem uH:aX ["chart", "parts"] ["chart", "parts"] (az qv):=⟨rfl,rfl,rfl,by decide +kernel,rfl,by decide +kernel,by decide +kernel⟩
theorem uI:aX ["chart", "named"] ["chart", "named"] (az qw):=⟨rfl,rfl,rfl,by decide +kernel,rfl,by decide +kernel,by decide +kernel⟩
theorem BV:aX ["chart", "standing", "statement", "values", "left", "right"] ["chart", "standing"] (az zR):=⟨rfl,rfl,rfl,by decide +kernel,rfl,by decide +kernel,by decide +kernel⟩
theorem wQ:aX ["chart", "standing", "figure", "row", "statement", "word", "values", "said"] ["chart", "standing", "figure"] (az tV):=⟨rfl,rfl,rfl,by decide +kernel,rfl,by decide +kernel,by decide +kernel⟩
theorem jr:aX ["chart", "standing", "row"] ["chart", "standing"] (az gG):=⟨rfl,rfl,rfl,by decide +kernel,rfl,by decide +kernel,by decide +kernel⟩
theorem pI:aX ["chart", "standing", "word", "behind"] ["chart", "standing"] (az lP):=⟨rfl,rfl,rfl,by decide +kernel,rfl,by decide +kernel,by decide +kernel⟩
theorem wR:aX ["program", "told", "entry", "row"] ["program"] (az tW):=⟨rfl,rfl,rfl,by decide +kernel,rfl,by decide +kernel,by decide +kernel⟩
theorem BW:aX ["program", "figures", "target"] ["program", "figures", "target"] (az zS):=⟨rfl,rfl,rfl,by decide +kernel,rfl,by decide +kernel,by decide +kernel⟩
theorem uJ:aX ["program", "target", "found"] ["program", "target"] (az qx):=⟨rfl,rfl,rfl,by decide +kernel,rfl,by decide +kernel,by decide +kernel⟩
theorem pJ:aX ["chart", "standing", "row", "word"] ["chart", "standing"] (az lQ):=⟨rfl,rfl,rfl,by decide +kernel,rfl,by decide +kernel,by decide +kernel⟩
theorem yG:aX ["chart", "figures", "walk", "met", "seen", "target"] ["chart", "figures"] (az wL):=⟨rfl,rfl,rfl,by decide +kernel,rfl,by decide +kernel,by decide +kernel⟩
theorem jQ:aX ["chart", "met", "standing", "figures", "target"] ["chart"] (az gY):=⟨rfl,rfl,rfl,by decide +kernel,rfl,by decide +kernel,by decide +kernel⟩
theorem mH:aX ["chart"] ["chart"] (az aG):=⟨rfl,rfl,rfl,by decide +kernel,rfl,by decide +kernel,by decide +kernel⟩
theorem pK:aX ["first", "led_from", "found", "asking", "behind", "figures", "led", "figure", "place"] ["first", "led_from"] (az lS):=⟨rfl,rfl,rfl,by decide +kernel,rfl,by decide +kernel,by decide +kernel⟩
theorem wU:aX ["place", "led_from", "figures", "found", "led"] ["place", "led_from", "figures", "found"] (az gK):=⟨rfl,rfl,rfl,by decide +kernel,rfl,by decide +kernel,by decide +kernel⟩
theorem rO:aX ["deck", "at", "many", "cell", "j", "number"] ["deck"] (az nO):=⟨rfl,rfl,rfl,by decide +kernel,rfl,by decide +kernel,by decide +kernel⟩
theorem yH:aX ["deck", "boxes", "deep", "kind", "one"] ["deck", "boxes", "deep"] (az wM):=⟨rfl,rfl,rfl,by decide +kernel,rfl,by decide +kernel,by decide +kernel⟩
theorem pL:aX ["deck", "found", "spin", "k", "size"] ["deck"] (az lT):=⟨rfl,rfl,rfl,by decide +kernel,rfl,by decide +kernel,by decide +kernel⟩
theorem pM:aX ["deck", "boxes", "k", "kind", "sign"] ["deck", "boxes", "k"] (az lU):=⟨rfl,rfl,rfl,by decide +kernel,rfl,by decide +kernel,by decide +kernel⟩
theorem pN:aX ["pile", "kind", "body", "head", "first", "told"] ["pile"] (az lV):=⟨rfl,rfl,rfl,by decide +kernel,rfl,by decide +kernel,by decide +kernel⟩
theorem nT:aX ["boxes", "rows", "mode"] ["boxes", "rows", "mode"] (az kz):=⟨rfl,rfl,rfl,by decide +kernel,rfl,by decide +kernel,by decide +kernel⟩
theorem mI:aX ["deck", "many", "boxes", "pile", "rows", "mode", "turn", "k", "way", "kind", "body", "head", "first", "word", "condition"] ["deck", "many"] (az jP):=⟨rfl,rfl,rfl,by decide +kernel,rfl,by decide +kernel,by decide +kernel⟩
theorem nU:aX ["many"] ["many"] (az kA):=⟨rfl,rfl,rfl,by decide +kernel,rfl,by decide +kernel,by decide +kernel⟩
theorem pO:aX ["deck", "told", "found", "k", "size", "one", "at"] ["deck", "told"] (az lW):=⟨rfl,rfl,rfl,by decide +kernel,rfl,by decide +kernel,by decide +kernel⟩
theorem Kg:aX ["script", "deck", "program", "rows", "some", "k", "target", "told", "most", "size", "one"] ["script"] (az Kf):=⟨rfl,rfl,rfl,by decide +kernel,rfl,by decide +kernel,by decide +kernel⟩
theorem pP:aX ["self", "program", "boxes", "body"] ["self", "program"] (az cO):=⟨rfl,rfl,rfl,by decide +kernel,rfl,by decide +kernel,by decide +kernel⟩
theorem rP:aX ["self", "chart", "figures"] ["self", "chart", "figures"] (az di):=⟨rfl,rfl,rfl,by decide +kernel,rfl,by decide +kernel,by decide +kernel⟩
theorem i4:aX ["self"] ["self"] (az bt):=⟨rfl,rfl,rfl,by decide +kernel,rfl,by decide +kernel,by decide +kernel⟩
theorem j7:aX ["self"] ["self"] (az bU):=⟨rfl,rfl,rfl,by decide +kernel,rfl,by decide +kernel,by decide +kernel⟩
theorem pQ:aX ["self", "figure", "told"] ["self"] (az cQ):=⟨rfl,rfl,rfl,by decide +kernel,rfl,by decide +kernel,by decide +kernel⟩
set_option genInjectivity false in
structure Ad where
 nV:zc8
 lX:zdh
 c8:zc8
 dc:zdh
 cX:zc8
 cR:zdh
 eM:zc8
 fw:zdh
 jJ:zc8
 jR:zdh
 fC:zc8
 fS:zdh
 bL:zc8
 bV:zdh
 lY:zc8
 kR:zdh
 kS:zc8
 lZ:zdh
 jS:zc8
 j8:zdh
 jT:zc8
 j9:zdh
 rQ:zc8
 rR:zdh
 kT:zc8
 l0:zdh
 c9:zc8
 dO:zdh
 gZ:zc8
 iL:zdh
 kU:zc8
 l6:zdh
 rT:zc8
 rV:zdh
 jU:zc8
 ka:zdh
 g7:zc8
 iM:zdh
 nW:zc8
 oI:zdh
 dq:zc8
 eB:zdh
 bD:zc8
 gB:zdh
 g8:zc8
 iN:zdh
 eO:zc8
 l7:zdh
 du:zc8
 dw:zdh
 jV:zc8
 jK:zdh
 g9:zc8
 iO:zdh
 hC:zc8
 iP:zdh
 hG:zc8
 iQ:zdh
 gm:zc8
 hJ:zdh
 fD:zc8
 gC:zdh
 gu:zc8
 hV:zdh
 hX:zc8
 iR:zdh
 Fe:zc8
 tY:zdh
 cS:zc8
 kB:zdh
 dy:zc8
 ma:zdh
 bu:zc8
 fE:zdh
 bW:zc8
 hZ:zdh
 cT:zc8
 kC:zdh
 aE:zc8
 bE:zc8
 dH:zc8
 eP:zc8
set_option genInjectivity false in
structure Tx(K:zaa)(mg:Str->Option zc9)(t:Ad):Prop where
 wV:cw K mg "flow" DL ["program"] t.nV t.lX
 fG:cw K mg "flow_of_body" jO ["body", "behind"] t.c8 t.dc
 dX:cw K mg "first_row" nM ["body", "behind"] t.cX t.cR
 iS:cw K mg "behind_body" ky ["statement", "after"] t.eM t.fw
 oJ:cw K mg "ways_of" tT ["statement", "after"] t.jJ t.jR
 i6:cw K mg "bodies_in" nN ["statement"] t.fC t.fS
 eG:cw K mg "statements_in" jk ["body"] t.bL t.bV
 jz:cw K mg "worth" zQ ["e", "values"] t.lY t.kR
 iD:cw K mg "word_at" tU ["chart", "row"] t.kS t.lZ
 jW:cw K mg "by_names" qv ["chart", "parts"] t.jS t.j8
 md:cw K mg "in_order" qw ["chart", "named"] t.jT t.j9
 oK:cw K mg "holds" zR ["chart", "standing"] t.rQ t.rR
 jL:cw K mg "step_by" tV ["chart", "standing", "figure"] t.kT t.l0
 eC:cw K mg "behind_condition" gG ["chart", "standing"] t.c9 t.dO
 fT:cw K mg "all_led_to" lP ["chart", "standing"] t.gZ t.iL
 oM:cw K mg "targets" tW ["program"] t.kU t.l6
 oN:cw K mg "meets" zS ["program", "figures", "target"] t.rT t.rV
 mf:cw K mg "shortest" qx ["program", "target"] t.jU t.ka
 ia:cw K mg "targets_at" lQ ["chart", "standing"] t.g7 t.iM
 rW:cw K mg "met_by" wL ["chart", "figures"] t.nW t.oI
 eU:cw K mg "shortest_inputs" gY ["chart"] t.dq t.eB
 ib:cw K mg "first_inputs" aG ["chart"] t.bD t.gB
 fU:cw K mg "found_from" lS ["first", "led_from"] t.g8 t.iN
 kW:cw K mg "gone_on" gK ["place", "led_from", "figures", "found"] t.eO t.l7
 aU:cw K mg "_law_next" nO ["deck"] t.du t.dw
 fH:cw K mg "_law_e" wM ["deck", "boxes", "deep"] t.jV t.jK
 jA:cw K mg "_law_boxes" lT ["deck"] t.g9 t.iO
 jB:cw K mg "_law_plain" lU ["deck", "boxes", "k"] t.hC t.iP
 ic:cw K mg "_law_close" lV ["pile"] t.hG t.iQ
 gw:cw K mg "_law_number" kz ["boxes", "rows", "mode"] t.gm t.hJ
 ie:cw K mg "_law_program" jP ["deck", "many"] t.fD t.gC
 iT:cw K mg "_law_inputs" kA ["many"] t.gu t.hV
 jC:cw K mg "_law_drawn" lW ["deck", "told"] t.hX t.iR
 Ff:cw K mg "law" Kf ["script"] t.Fe t.tY
 jD:Cq K "__init__" "Chart.__init__" cO t.cS t.kB
 rY:Binds K t.kB ["self", "program"] []
 kc:Cq K "__init__" "Walk.__init__" di t.dy t.ma
 BX:Binds K t.ma ["self", "chart", "figures"] []
 dP:Cq K "look_for_end" "Walk.look_for_end" bt t.bu t.fE
 js:Binds K t.fE ["self"] []
 jt:Meth K t.bE "look_for_end" t.bu
 fV:Cq K "is_at_ask" "Walk.is_at_ask" bU t.bW t.hZ
 kX:Binds K t.hZ ["self"] []
 kY:Meth K t.bE "is_at_ask" t.bW
 jE:Cq K "go_on" "Walk.go_on" cQ t.cT t.kC
 zU:Binds K t.kC ["self"] []
 zV:Meth K t.bE "go_on" t.cT
 cG:HE K t.aE
 BY:mg "Chart"=some (.ref t.aE)
 rZ:Mk K t.aE t.cS
 fI:e7 K t.aE "names"
 fJ:e7 K t.aE "sizes"
 fK:e7 K t.aE "first"
 cb:e7 K t.aE "statements"
 eQ:e7 K t.aE "ways"
 bG:HE K t.bE
 Mz:mg "Walk"=some (.ref t.bE)
 zW:Mk K t.bE t.dy
 gx:e7 K t.bE "chart"
 eI:e7 K t.bE "figures"
 eR:e7 K t.bE "taken"
 bw:e7 K t.bE "standing"
 fL:e7 K t.bE "end"
 wW:RV K t.dH
 uK:zco K (.ref t.dH) (.ref t.dH)=some true
 NF:mg "RowError"=some (.ref t.dH)
 yI:RV K t.eP
 wX:zco K (.ref t.eP) (.ref t.eP)=some true
 Pq:mg "TooMany"=some (.ref t.eP)
 wY:∃u,mg "END"=some u/\RelV (.int 0) u
 uX:∃u,mg "FIGURE_COUNT"=some u/\RelV (.int 10) u
 wZ:∃u,mg "MOST_PLACES"=some u/\RelV (.int 2000) u
 eV:mg "len"=none
 gD:mg "range"=none
 tZ:mg "dict"=none
 DM:mg "list"=none
 vw:mg "tuple"=none
 Kh:mg "max"=none
 Fg:mg "min"=none
 ke:mg "enumerate"=none
 Ki:mg "zip"=none
 r9:mg "ValueError"=none
end Pp
end
section
set_option maxHeartbeats 4000000
namespace Pp
open PySem L2
local macro_rules | `(tactic|walk_at "rd")=>`(tactic|((try dsimp only[Hw,HH,M0,Rl,M1,Yo,Oa,Hk,Ro,VJ,OB,VF,HM,zc,HG,Ou,A0,yZ,Ep,VB,rU,RW,Ej,Ek,M6,M4,Hj,M3,Of,Ho,Oe,Og,Nj,Lk,Hl,Ey,Nk,Ib,Ic,Ie,Ig,Ih,Ii,Ij,Ik,Il,Im,EH,EI,EJ,EO,ER,OR,RS,Ob,Hi,Fw,dI,Nl,Nm,za6,Ez,EA,Ip,EC,ED,Bc,DA,DC,DD,EE,Nn,RU,IA,Iq,Ir,Vu,za3,zaN,zaj,za1,Iu,Iw,JF,JG,EB]);(try simp only[Hw,HH,M0,Rl,M1,Yo,Oa,Hk,Ro,VJ,OB,VF,HM,zc,HG,Ou,A0,yZ,Ep,VB,rU,RW,Ej,Ek,M6,M4,Hj,M3,OL,OM,Of,Ho,Oe,Og,Nj,Lk,Hl,Ey,Nk,Ib,Ic,Ie,Ig,Ih,Ii,Ij,Ik,Il,Im,EH,EI,EJ,EO,ER,OR,RS,Ob,Hi,Fw,dI,RR,VT,Nl,Nm,RT,Ly,Io,ON,OO,za6,Ez,EA,Ip,EC,ED,Bc,DA,DC,DD,EE,Nn,RU,IA,Iq,Ir,Vu,zaC,za3,zaN,LB,LC,true_and,and_true,zaj,za1,LD,Iu,Iw,JF,JG,EB,Int.reduceLT,Int.reduceLE,Nat.reduceLeDiff,Nat.reduceAdd,and_self])))
section
variable{P:zdk}{w:zda}{K:zaa}{mg:Str->Option zc9}{base:Heap}{t:Ad}
theorem BZ{ss:List PG.bX}{vs:List V}(l:vs.length=ss.length):(zaJ ss.length).map (fun i=>((Sum.inl (ss.getD i (.stop 0)).row:Key),vs.getD i .b9))=jo ss vs:=by
 apply zbS
 ·simp[jo,l]
 ·intro i h1 h2;simp at h1;simp[jo,h1,l]
theorem zX{fl:List PG.dN}{vs:List V}(l:vs.length=fl.length):(zaJ fl.length).map (fun i=>((Sum.inl (fl.getD i (0,.stop,[])).1:Key),vs.getD i .b9))=za8 (fun r v=>(Sum.inl r.1,v)) fl vs:=by
 apply zbS
 ·simp[l]
 ·intro i h1 h2;simp at h1;simp[h1,l]
theorem B0{fl:List PG.dN}{vs:List V}(l:vs.length=fl.length):(za8 (fun r v=>((Sum.inl r.1:Key),v)) fl vs).map (·.1)=fl.map fun r=>(Sum.inl r.1:Key):=by
 apply zbS
 ·simp[l]
 ·intro i h1 h2;simp
theorem Fh{K:zaa}{H:Hp}:∀ {fl:List PG.dN} {us:List V},aI K H (fl.map fh) us->∃ws:List V,ws.length=fl.length/\∀i (hi:i<fl.length),∃a q,us[i]?=some (.ref a)/\ws[i]?=some (.ref q)/\cu K H a [.int fl[i].1,.str (jZ fl[i].2.1),.ref q]/\cu K H q (fl[i].2.2.map V.int)
 |[],us,_=>⟨[],rfl,fun i hi=>by simp at hi⟩
 |r::fl,us,h=>by
  have h0:=h;rw[zaq,aI.aF] at h;obtain⟨v,tl,rfl,h1,h2⟩:=h;obtain⟨ws,l,hw⟩:=Fh h2;obtain⟨a,q,e,s1,s2⟩:=Ja h0 (i:=0) (y:=v) rfl (by simp);refine⟨.ref q::ws,by simp[l],fun i hi=>?_⟩;cases i with
  |zero=>exact⟨a,q,by rw[e];rfl,rfl,s1,s2⟩
  |succ i=>
   obtain⟨a',q',e1,e2,e3,e4⟩:=hw i (by simpa using hi);exact⟨a',q',by simpa using e1,by simpa using e2,by simpa using e3,by simpa using e4⟩
theorem DN{b:List PG.bX}(pw:(PG.aB b).Pairwise fun a b=>a.row<b.row):((PG.aL b 0).map fun r=>(Sum.inl r.1:Key)).Nodup:=by
 have e:(PG.aL b 0).map (fun r=>(Sum.inl r.1:Key))=(PG.aB b).map fun s=>(Sum.inl s.row:Key):=by
  have h:((PG.aL b 0).map fun r=>(r.1,r.2.1))=(PG.aB b).map fun x=>(x.row,x.wd):=by rw[PG.cY,PG.eK]
  have h2:=congrArg (List.map fun r:Int×PG.Wd=>(Sum.inl r.1:Key)) h;rw[zbE,zbE] at h2;exact h2
 rw[e];exact wc pw
theorem w5{K:zaa}{H:Hp}{B:zc8}{bs:List PG.fO}(r:Rep K H (.lst (bs.map jm)) (.ref B)):∃xs,gM K H B xs/\xs.length=bs.length/\∀i x,xs[i]?=some x->∃a,x=.ref a/\cu K H a [.str (S (bs.getD i ⟨[],0,0⟩).name),.int (bs.getD i ⟨[],0,0⟩).size,.int (bs.getD i ⟨[],0,0⟩).first]:=by
 rw[Rep.cg] at r;obtain⟨_,xs,e,q,rs⟩:=r;cases e;have lx:xs.length=bs.length:=by rw[rs.length,zad]
 refine⟨xs,q,lx,fun i x hx=>?_⟩;have li:i<bs.length:=by have:=(zam.mp hx).1;lia
 obtain⟨v,hv,rv⟩:=rs.get (i:=i) (d:=jm bs[i]) (by rw[zap,zac li];rfl);rw[hx] at hv;cases hv;have eg:bs.getD i ⟨[],0,0⟩=bs[i]:=by rw[zan,zac li];rfl
 rw[eg];simp only[jm,Rep.br,aI.aF,aI.bI,Rep.bY,Rep.bF] at rv;obtain⟨a,ys,rfl,hS,_,_,rfl,rfl,_,_,rfl,rfl,_,_,rfl,rfl,rfl⟩:=rv;exact⟨a,rfl,hS⟩
theorem qy{aC:List (Key×V)}(h:(aC.map (·.1)).Nodup):lC [] aC=aC:=by
 have:=qh aC [] (by simpa using h);simpa using this
theorem pR(T:Tx K mg t)(cH:bz P w K mg base de 1 t.cX t.cR ["body", "behind"] (oE K))(cK:bz P w K mg base de 6 t.bL t.bV ["body"] (lL K 4))(qz:bz P w K mg base de 7 t.nV t.lX ["program"] (zt K)) :
 bz P w K mg base de 8 t.cS t.kB ["self", "program"] (L1 K t.aE):=by
 refine T.jD.mB pP (fun vs H Q E h=>?_) (fun dY A outer s H vs Q E hr h=>?_)
 ·obtain⟨_,_,_,_,rfl,_⟩:=h;rfl
 obtain⟨p,dx,v,pr,rfl,hp,NG,rp,hd,hf,pw,nb,lb,q⟩:=h;have nd:=pP.nd;obtain⟨Fi,sj,sk⟩:=T.wY;refine⟨_,[some (.ref p),some v,none,none],(ag (eE 2 nd (aK aV (pv 1) ao ax))
 (ag (eE 3 nd (aK aV (pv 1) ao ax))
 (ag (gQ (pv 0) (iI (own:=["box"]) (ix:=[]) rfl (by rfl) (by rfl) (dJ (pv 2)) (fun _ _ _ _=>(gA (i:=0) (by show List.Nodup (["box"]:List Str);decide +kernel) rfl (zbz rfl))) (fun _ _ _ _=>iH) (fun _ _ _ _=>(aK (j3 (K:=K) rfl) (pv 0) ao ax))) rfl)
 (ag (gQ (pv 0) (jH (qj rfl) rfl T.tZ PyProof.Rows.Boot.«dict» (ai (iI (own:=["box"]) (ix:=[]) rfl (by rfl) (by rfl) (dJ (pv 2)) (fun _ _ _ _=>(gA (i:=0) (by show List.Nodup (["box"]:List Str);decide +kernel) rfl (zbz rfl))) (fun _ _ _ _=>iH) (fun _ _ _ _=>(a7 (ai (aK (j3 (K:=K) rfl) (pv 0) ao ax) (ai (aK (j3 (K:=K) rfl) (pv 0) ao ax) ae bq) bq)))) ae oA)) rfl)
 (ag (gQ (pv 0) (a7 (ai (dC cH T.dX hr (a8 3 (ai (k0 rfl sj sk) ae lE))) (ai (jH pd rfl T.vw PyProof.Rows.Boot.«tuple» (ai (iI (own:=["box"]) (ix:=[]) rfl (by rfl) (by rfl) (dJ (pv 2)) (fun _ _ _ _=>(gA (i:=0) (by show List.Nodup (["box"]:List Str);decide +kernel) rfl (zbz rfl))) (fun _ _ _ _=>iH) (fun _ _ _ _=>(aK (j3 (K:=K) rfl) (pv 0) ao ax))) ae oA)) ae bR) bR)) rfl)
 (ag (gQ (pv 0) (jH (qj rfl) rfl T.tZ PyProof.Rows.Boot.«dict» (ai (iI (own:=["statement"]) (ix:=[]) rfl (by rfl) (by rfl) (dJ (dC cK T.eG hr (a8 3 ae))) (fun _ _ _ _=>(gA (i:=0) (by show List.Nodup (["statement"]:List Str);decide +kernel) rfl (zbz rfl))) (fun _ _ _ _=>iH) (fun _ _ _ _=>(a7 (ai (aK (j3 (K:=K) rfl) (pv 0) ao ax) (a8 0 ae) bq)))) ae oA)) rfl)
 (aq (gQ (pv 0) (jH (qj rfl) rfl T.tZ PyProof.Rows.Boot.«dict» (ai (iI (own:=["told"]) (ix:=[]) rfl (by rfl) (by rfl) (dJ (dC qz T.wV hr (a8 1 ae))) (fun _ _ _ _=>(gA (i:=0) (by show List.Nodup (["told"]:List Str);decide +kernel) rfl (zbz rfl))) (fun _ _ _ _=>iH) (fun _ _ _ _=>(a7 (ai (aK (j3 (K:=K) rfl) (pv 0) ao ax) (ai (aK (j3 (K:=K) rfl) (pv 0) ao ax) ae bq) bq)))) ae oA)) rfl)))))))),rfl,?_⟩
 have line:zdg=2 ^ 24:=rfl;have WI:=rp;unfold jh at WI;rw[Rep.br] at WI;obtain⟨pa,pxs,rfl,QN,QO⟩:=WI;rw[aI.aF] at QO;obtain⟨v1,t1,rfl,UA,QO⟩:=QO;rw[aI.aF] at QO;obtain⟨v2,t2,rfl,WJ,QO⟩:=QO;obtain⟨bb,_,rfl,_⟩:=Rep.cg.mp WJ;obtain⟨bx,_,rfl,_⟩:=Rep.cg.mp UA;refine aw fun U1 fM=>?_;walk_at "rd";refine aN QN (v:=.ref bx) (ay (j:=0) rfl) ((fM _ _).mpr (aw fun U2 ig=>?_));clear fM;walk_at "rd";refine aN QN (v:=.ref bb) (ay (j:=1) rfl) ((ig _ _).mpr (aw fun U3 jF=>?_));clear ig;walk_at "rd";simp only[A0,j0];walk_at "rd";obtain⟨xs1,YR,lx1,g1⟩:=w5 UA;refine⟨⟨_,YR⟩,fun D1 UB=>tM (K:=K) (r:=[]) (fun i=>.str (S (pr.aA.getD i ⟨[],0,0⟩).name)) YR (by lia) UB (fun i x H2 hx s2 R hR=>?_) (fun H2 s2 h2=>⟨p,_,dx,[],rfl,s2 _ _ hp,T.cG,T.fI,by decide,(jF _ _).mpr (aw fun U4 mQ=>?_)⟩)⟩
 ·obtain⟨a,rfl,ha⟩:=g1 i x hx;walk_at "rd";exact aN (s2.cI ha) (v:=.str (S (pr.aA.getD i ⟨[],0,0⟩).name)) (ay (j:=0) rfl) hR
 clear jF;rw[lx1,oG (fun b:PG.fO=>V.str (S b.name))] at h2;have C0:=s2 _ _ hp;have n1:D1≠p:=(aj hp UB).symm;have u3:aM (·=p) H (upd H2 p (.ins t.aE dx [("names",.ref D1)])):=(aM.of s2).trans (aM.refl.put (O:=(·=p)) rfl _);have Fj:(upd H2 p (.ins t.aE dx [("names",.ref D1)])) p=some (.ins t.aE dx [("names",.ref D1)]):=ah;have d1:(upd H2 p (.ins t.aE dx [("names",.ref D1)])) D1=some (.lst (pr.aA.map fun b=>.str (S b.name))):=by rw[av n1];exact h2
 rw[show je (zab "names") (V.ref D1) []=[(zab "names",V.ref D1)] from rfl];generalize upd H2 p (.ins t.aE dx [("names",.ref D1)])=H3 at *;walk_at "rd";simp only[A0,j0];walk_at "rd";have pr3:=oF hp u3 _ _ UA;obtain⟨xs3,UC,lx3,g3⟩:=w5 pr3;refine⟨⟨_,UC⟩,fun D2 Pr=>qk (K:=K) (r:=[]) (fun i=>(.inr (S (pr.aA.getD i ⟨[],0,0⟩).name),.int (pr.aA.getD i ⟨[],0,0⟩).size)) UC (by lia) Pr (fun i x H2 hx s2 R hR=>?_) (fun ps H4 s4 h4 L0 ep=>⟨D2,ps,rfl,.of h4,fun q hq=>.of (L0 q hq),?_,fun D3 QP=>⟨p,_,dx,_,rfl,au.new QP _ _ _ (s4 _ _ Fj),T.cG,T.fJ,by simp,(mQ _ _).mpr (aw fun U5 AN=>?_)⟩⟩)⟩
 ·obtain⟨a,rfl,ha⟩:=g3 i x hx;walk_at "rd";exact aN (s2.cI ha) (v:=.str (S (pr.aA.getD i ⟨[],0,0⟩).name)) (ay (j:=0) rfl) (aN (s2.cI ha) (v:=.int (pr.aA.getD i ⟨[],0,0⟩).size) (ay (j:=1) rfl) hR)
 ·have:=congrArg za9 ep;simp only[zad,zba] at this;lia
 clear mQ;have ek:ps.map (fun q=>(q.2.1,q.2.2))=pr.aA.map fun b=>(Sum.inr (S b.name),V.int b.size):=by
  rw[show (fun q:zc8×Key×V=>(q.2.1,q.2.2))=(·.2) from rfl,ep,lx3,oG (fun b:PG.fO=>((Sum.inr (S b.name):Key),V.int b.size))]
 have nk:((pr.aA.map fun b=>((Sum.inr (S b.name):Key),V.int b.size)).map (·.1)).Nodup:=by
  rw[zbE];refine za0.mpr ((za0.mp nb).imp fun {a b} Nt e=>Nt ?_);exact vO.mp (Sum.inr.inj e)
 rw[ek,qy nk,show je (zab "sizes") (V.ref D3) [(zab "names",V.ref D1)]=[(zab "names",V.ref D1),(zab "sizes",V.ref D3)] from rfl];have YS:=s4.trans (au.new QP (.dK (pr.aA.map fun b=>(Sum.inr (S b.name),V.int b.size))));have d3:(upd H4 D3 (.dK (pr.aA.map fun b=>(Sum.inr (S b.name),V.int b.size)))) D3=some (.dK (pr.aA.map fun b=>(Sum.inr (S b.name),V.int b.size))):=ah;generalize upd H4 D3 (.dK (pr.aA.map fun b=>(Sum.inr (S b.name),V.int b.size)))=H5 at *;have n3:D3≠p:=bN d3 (YS _ _ Fj) (by intro z;cases z);have u6:aM (·=p) H3 (upd H5 p (.ins t.aE dx [(zab "names",V.ref D1),(zab "sizes",V.ref D3)])):=(aM.of YS).trans (aM.refl.put (O:=(·=p)) rfl _);have nX:(upd H5 p (.ins t.aE dx [(zab "names",V.ref D1),(zab "sizes",V.ref D3)])) p=some (.ins t.aE dx [(zab "names",V.ref D1),(zab "sizes",V.ref D3)]):=ah;have d3:(upd H5 p (.ins t.aE dx [(zab "names",V.ref D1),(zab "sizes",V.ref D3)])) D3=some (.dK (pr.aA.map fun b=>(Sum.inr (S b.name),V.int b.size))):=by rw[av n3];exact d3
 generalize upd H5 p (.ins t.aE dx [(zab "names",V.ref D1),(zab "sizes",V.ref D3)])=H6 at *;have d1:=u6 _ _ n1 d1;have u6:=u3.trans u6;have pr6:=oF hp u6 _ _ UA;have pb6:=oF hp u6 _ _ WJ;walk_at "rd";simp only[A0,j0];walk_at "rd";have lbd:=kJ pr.body;obtain⟨xs6,YT,lx6,g6⟩:=w5 pr6;refine⟨bb,pr.body,0,rfl,pb6,by lia,⟨_,YT⟩,fun D4 hD4=>tM (K:=K) (r:=[]) (fun i=>.int (pr.aA.getD i ⟨[],0,0⟩).first) YT (by lia) hD4 (fun i x H2 hx s2 R hR=>?_) (fun H7 s7 h7=>⟨D4,_,rfl,.inl ⟨.of h7,fun D5 YU D6 UD=>⟨p,_,dx,_,rfl,au.new UD _ _ _ (au.new YU _ _ _ (s7 _ _ nX)),T.cG,T.fK,by simp,(AN _ _).mpr (aw fun U6 GJ=>?_)⟩⟩⟩)⟩
 ·obtain⟨a,rfl,ha⟩:=g6 i x hx;walk_at "rd";exact aN (s2.cI ha) (v:=.int (pr.aA.getD i ⟨[],0,0⟩).first) (ay (j:=2) rfl) hR
 clear AN;rw[show je (zab "first") (V.ref D6) [(zab "names",V.ref D1),(zab "sizes",V.ref D3)]=[(zab "names",V.ref D1),(zab "sizes",V.ref D3),(zab "first",V.ref D6)] from rfl];rw[lx6,oG (fun b:PG.fO=>V.int b.first)] at UD ⊢;have s8:=s7.trans ((au.new YU (.tup (pr.aA.map fun b=>V.int b.first))).trans (au.new UD (.tup [V.int (PG.bc pr.body 0),V.ref D5])));have d5:(upd (upd H7 D5 (.tup (pr.aA.map fun b=>V.int b.first))) D6 (.tup [V.int (PG.bc pr.body 0),V.ref D5])) D5=some (.tup (pr.aA.map fun b=>V.int b.first)):=au.new UD _ _ _ ah;have d6:(upd (upd H7 D5 (.tup (pr.aA.map fun b=>V.int b.first))) D6 (.tup [V.int (PG.bc pr.body 0),V.ref D5])) D6=some (.tup [V.int (PG.bc pr.body 0),V.ref D5]):=ah;generalize upd (upd H7 D5 (.tup (pr.aA.map fun b=>V.int b.first))) D6 (.tup [V.int (PG.bc pr.body 0),V.ref D5])=H8 at *;have K9:=s8 _ _ nX;have n5:D5≠p:=bN d5 K9 (by intro z;cases z);have n6:D6≠p:=bN d6 K9 (by intro z;cases z);have u9:aM (·=p) H6 (upd H8 p (.ins t.aE dx [(zab "names",V.ref D1),(zab "sizes",V.ref D3),(zab "first",V.ref D6)])):=(aM.of s8).trans (aM.refl.put (O:=(·=p)) rfl _);have SK:(upd H8 p (.ins t.aE dx [(zab "names",V.ref D1),(zab "sizes",V.ref D3),(zab "first",V.ref D6)])) p=some (.ins t.aE dx [(zab "names",V.ref D1),(zab "sizes",V.ref D3),(zab "first",V.ref D6)]):=ah;have d5:(upd H8 p (.ins t.aE dx [(zab "names",V.ref D1),(zab "sizes",V.ref D3),(zab "first",V.ref D6)])) D5=some (.tup (pr.aA.map fun b=>V.int b.first)):=by rw[av n5];exact d5
 have d6:(upd H8 p (.ins t.aE dx [(zab "names",V.ref D1),(zab "sizes",V.ref D3),(zab "first",V.ref D6)])) D6=some (.tup [V.int (PG.bc pr.body 0),V.ref D5]):=by rw[av n6];exact d6
 generalize upd H8 p (.ins t.aE dx [(zab "names",V.ref D1),(zab "sizes",V.ref D3),(zab "first",V.ref D6)])=H9 at *;have d1:=u9 _ _ n1 d1;have d3:=u9 _ _ n3 d3;have u9:=u6.trans u9;have pb9:=oF hp u9 _ _ WJ;walk_at "rd";simp only[A0,j0];walk_at "rd";refine⟨bb,pr.body,H9,rfl,au.refl _,pb9,by lia,hf,fun UE us nY qA WK QQ QR=>?_⟩;have sl:=wg pr.body;have sV:us.length=(PG.aB pr.body).length:=by rw[QR.length,zad]
 refine⟨UE,rfl,⟨_,.of QQ⟩,fun D7 hD7=>qk (K:=K) (r:=[]) (fun i=>(.inl ((PG.aB pr.body).getD i (.stop 0)).row,us.getD i .b9)) (.of QQ) (by lia) hD7 (fun i x H2 hx s2 R hR=>?_) (fun ps Hc Hd Hb L0 ep=>⟨D7,ps,rfl,.of Hb,fun q hq=>.of (L0 q hq),?_,fun D8 YV=>⟨p,_,dx,_,rfl,au.new YV _ _ _ (Hd _ _ (qA _ _ SK)),T.cG,T.cb,by simp,(GJ _ _).mpr ?_⟩⟩)⟩
 ·have li:i<(PG.aB pr.body).length:=by have:=(zam.mp hx).1;lia
  obtain⟨v',FF,rv⟩:=QR.get (i:=i) (d:=eT (PG.aB pr.body)[i]) (by rw[zap,zac li];rfl);rw[hx] at FF;cases FF;have e1:(PG.aB pr.body).getD i (.stop 0)=(PG.aB pr.body)[i]:=by rw[zan,zac li];rfl
  have e2:us.getD i .b9=x:=by rw[zan,hx];rfl
  rw[e1,e2] at hR;obtain⟨sa,ys,rfl,hs⟩:=iz _ rv;walk_at "rd";exact aN ((qA.trans s2).cI hs) (v:=.int (PG.aB pr.body)[i].row) (ay (j:=1) rfl) hR
 ·have:=congrArg za9 ep;simp only[zad,zba] at this;lia
 clear GJ;have ek:ps.map (fun q=>(q.2.1,q.2.2))=jo (PG.aB pr.body) us:=by
  rw[show (fun q:zc8×Key×V=>(q.2.1,q.2.2))=(·.2) from rfl,ep,sV,BZ sV]
 have nk:((jo (PG.aB pr.body) us).map (·.1)).Nodup:=by
  rw[wb _ _ sV];exact wc pw
 rw[ek,qy nk,show je (zab "statements") (V.ref D8) [(zab "names",V.ref D1),(zab "sizes",V.ref D3),(zab "first",V.ref D6)]=[(zab "names",V.ref D1),(zab "sizes",V.ref D3),(zab "first",V.ref D6),(zab "statements",V.ref D8)] from rfl];have AO:=(qA.trans Hd).trans (au.new YV (.dK (jo (PG.aB pr.body) us)));have d8:(upd Hc D8 (.dK (jo (PG.aB pr.body) us))) D8=some (.dK (jo (PG.aB pr.body) us)):=ah;generalize upd Hc D8 (.dK (jo (PG.aB pr.body) us))=yJ at *;have WL:=AO _ _ SK;have n8:D8≠p:=bN d8 WL (by intro z;cases z);have Cw:aM (·=p) H9 (upd yJ p (.ins t.aE dx [(zab "names",V.ref D1),(zab "sizes",V.ref D3),(zab "first",V.ref D6),(zab "statements",V.ref D8)])):=(aM.of AO).trans (aM.refl.put (O:=(·=p)) rfl _);have Pu:(upd yJ p (.ins t.aE dx [(zab "names",V.ref D1),(zab "sizes",V.ref D3),(zab "first",V.ref D6),(zab "statements",V.ref D8)])) p=some (.ins t.aE dx [(zab "names",V.ref D1),(zab "sizes",V.ref D3),(zab "first",V.ref D6),(zab "statements",V.ref D8)]):=ah;have d8:(upd yJ p (.ins t.aE dx [(zab "names",V.ref D1),(zab "sizes",V.ref D3),(zab "first",V.ref D6),(zab "statements",V.ref D8)])) D8=some (.dK (jo (PG.aB pr.body) us)):=by rw[av n8];exact d8
 generalize upd yJ p (.ins t.aE dx [(zab "names",V.ref D1),(zab "sizes",V.ref D3),(zab "first",V.ref D6),(zab "statements",V.ref D8)])=UG at *;have d1:=Cw _ _ n1 d1;have d3:=Cw _ _ n3 d3;have d5:=Cw _ _ n5 d5;have d6:=Cw _ _ n6 d6;have r13:=kL SK Cw _ _ QR;have Cw:=u9.trans Cw;have WM:=oF hp Cw _ _ rp;walk_at "rd";simp only[A0,j0];walk_at "rd";refine⟨_,pr,rfl,WM,hd,hf,fun l14 fv WN Px abv NH YW=>?_⟩;obtain⟨ws,WO,YX⟩:=Fh YW;have WQ:fv.length=(PG.aL pr.body 0).length:=by rw[YW.length,zad]
 have lfl:(PG.aL pr.body 0).length=(PG.aB pr.body).length:=by
  have h1:=congrArg za9 (PG.cY pr.body 0);rw[zad] at h1;lia
 refine⟨l14,rfl,⟨_,.of NH⟩,fun D9 hD9=>qk (K:=K) (r:=[]) (fun i=>(.inl ((PG.aL pr.body 0).getD i (0,.stop,[])).1,ws.getD i .b9)) (.of NH) (by lia) hD9 (fun i x H2 hx s2 R hR=>?_) (fun ps NI MA h15 L0 ep=>⟨D9,ps,rfl,.of h15,fun q hq=>.of (L0 q hq),?_,fun Py PB=>⟨p,_,dx,_,rfl,au.new PB _ _ _ (MA _ _ (Px _ _ Pu)),T.cG,T.eQ,by simp,?_⟩⟩)⟩
 ·have li:i<(PG.aL pr.body 0).length:=by have:=(zam.mp hx).1;lia
  obtain⟨a,qq,e1,e2,q1,q2⟩:=YX i li;rw[hx] at e1;cases e1;have g1:(PG.aL pr.body 0).getD i (0,.stop,[])=(PG.aL pr.body 0)[i]:=by rw[zan,zac li];rfl
  have g2:ws.getD i .b9=V.ref qq:=by rw[zan,e2];rfl
  rw[g1,g2] at hR;walk_at "rd";exact aN (s2.cI q1) (v:=.int (PG.aL pr.body 0)[i].1) (ay (j:=0) rfl) (aN (s2.cI q1) (v:=.ref qq) (ay (j:=2) rfl) hR)
 ·have:=congrArg za9 ep;simp only[zad,zba] at this;lia
 have ek:ps.map (fun q=>(q.2.1,q.2.2))=za8 (fun r v=>(Sum.inl r.1,v)) (PG.aL pr.body 0) ws:=by
  rw[show (fun q:zc8×Key×V=>(q.2.1,q.2.2))=(·.2) from rfl,ep,WQ,zX WO]
 have nk:((za8 (fun r v=>((Sum.inl r.1:Key),v)) (PG.aL pr.body 0) ws).map (·.1)).Nodup:=by
  rw[B0 WO];exact DN pw
 rw[ek,qy nk,show je (zab "ways") (V.ref Py) [(zab "names",V.ref D1),(zab "sizes",V.ref D3),(zab "first",V.ref D6),(zab "statements",V.ref D8)]=[(zab "names",V.ref D1),(zab "sizes",V.ref D3),(zab "first",V.ref D6),(zab "statements",V.ref D8),(zab "ways",V.ref Py)] from rfl];have MB:=(Px.trans MA).trans (au.new PB (.dK (za8 (fun r v=>(Sum.inl r.1,v)) (PG.aL pr.body 0) ws)));have SM:=MA.trans (au.new PB (.dK (za8 (fun r v=>(Sum.inl r.1,v)) (PG.aL pr.body 0) ws)));have QS:(upd NI Py (.dK (za8 (fun r v=>(Sum.inl r.1,v)) (PG.aL pr.body 0) ws))) Py=some (.dK (za8 (fun r v=>(Sum.inl r.1,v)) (PG.aL pr.body 0) ws)):=ah;generalize upd NI Py (.dK (za8 (fun r v=>(Sum.inl r.1,v)) (PG.aL pr.body 0) ws))=SN at *;have PC:=MB _ _ Pu;have n10:Py≠p:=bN QS PC (by intro z;cases z);have put:∀fs,aM (·=p) SN (upd SN p (.ins t.aE dx fs)):=fun fs=>aM.refl.put (O:=(·=p)) rfl _;have uE:=fun fs=>(aM.of MB).trans (put fs);have uA:=fun fs=>Cw.trans (uE fs);refine q _ (fun b o n e=>uA _ b o n e) ⟨⟨dx,D1,D3,D6,D5,D8,Py,us,ws,ah,uA _ _ _ (bN NG hp (by intro z;cases z)) NG,uE _ _ _ n1 d1,uE _ _ _ n3 d3,uE _ _ _ n6 d6,uE _ _ _ n5 d5,sV,uE _ _ _ n8 d8,kL Pu (uE _) _ _ r13,WO,put _ _ _ n10 QS,fun i hi=>?_⟩⟩;obtain⟨a,qq,e1,e2,q1,q2⟩:=YX i hi;refine⟨qq,e2,?_⟩;have q2:=SM.cI q2;rcases q2 with (q2 |⟨o,q2⟩) |q2
 ·exact .inl (.inl (put _ _ _ (bN q2 PC (by intro z;cases z)) q2))
 ·exact .inl (.inr ⟨o,put _ _ _ (bN q2 PC (by intro z;cases z)) q2⟩)
 ·exact .inr q2
theorem Kj(T:Tx K mg t){n:Nat}(kg:bz P w K mg base de n t.lY t.kR ["e", "values"] (Ul K n)) :
 bz P w K mg base de (n+1) t.lY t.kR ["e", "values"] (Ul K (n+1)):=by
 refine T.jz.F.mB BU (fun vs H Q E h=>?_) (fun dY A outer s H vs Q E hr h=>?_)
 ·obtain⟨_,_,_,_,rfl,_⟩:=h;rfl
 obtain⟨v,d,tr,kv,rfl,hv,hd,ok,ht,h6,q⟩:=h;have nd:=BU.nd;have hu:=ip hr;refine⟨_,[some v,some (.ref d),none,none,none],(ag (eE 2 nd (aK aV (pv 0) ao ax))
 (ag (bh (aD cf (pv 2) aY (aP _))
 (aq (aJ (aK aV (pv 0) ao ax)))
 aQ)
 (ag (bh (aD cf (pv 2) aY (aP _))
 (aq (aJ (iG hu (pv 1) (aK aV (pv 0) ao ax) (fun _ _=>rfl))))
 aQ)
 (ag (eE 3 nd (dC kg T.jz hr (ai (aK aV (pv 0) ao ax) (a8 1 ae) bq)))
 (ag (eE 4 nd (dC kg T.jz hr (ai (aK aV (pv 0) ao ax) (a8 1 ae) bq)))
 (ag (bh (aD cf (pv 2) aY (aP _))
 (aq (aJ (aW dE (pv 3) (pv 4))))
 aQ)
 (ag (bh (aD cf (pv 2) aY (aP _))
 (aq (aJ (aW yV (pv 3) (pv 4))))
 aQ)
 (aq (aJ (aW Lx (pv 3) (pv 4))))))))))),rfl,?_⟩
 have n1:¬("box":Str) = "number":=by decide +kernel
 cases tr with
 |num m=>
  unfold mL at hv;simp only[Rep.br,aI.aF,aI.bI,Rep.bY,Rep.bF] at hv;obtain⟨a,xs,rfl,hS,_,_,rfl,rfl,_,_,rfl,rfl,rfl⟩:=hv;walk_at "rd";refine aN hS rfl ?_;walk_at "rd";rw[if_pos trivial];exact aN hS rfl (q _ (au.refl _))
 |box x=>
  unfold mL at hv;simp only[Rep.br,aI.aF,aI.bI,Rep.bY,Rep.bF] at hv;obtain⟨a,xs,rfl,hS,_,_,rfl,rfl,_,_,rfl,rfl,rfl⟩:=hv;walk_at "rd";refine aN hS rfl ?_;walk_at "rd";rw[if_neg n1,if_pos trivial];obtain⟨i,e,_⟩:=ok;have q:=q _ (au.refl _);rw[fX,Jn e] at q;exact aN hS rfl ⟨d,.int i,rfl,uT.s hd e,q⟩
 |bin o l r=>
  unfold mL at hv;simp only[Rep.br,aI.aF,aI.bI,Rep.bY,Rep.bF] at hv;obtain⟨a,xs,rfl,hS,_,_,rfl,rfl,vl,_,rfl,hl,vr,_,rfl,hr',rfl⟩:=hv;obtain⟨ho,ol,or'⟩:=ok;have n2:¬S o = "number":=by rcases ho with rfl |rfl |rfl<;>decide +kernel
  have n3:¬S o = "box":=by rcases ho with rfl |rfl |rfl<;>decide +kernel
  have e1:(S o = "+")↔o=[43]:=by rw[show ("+":Str)=S [43] from rfl,vO]
  have e2:(S o = "-")↔o=[45]:=by rw[show ("-":Str)=S [45] from rfl,vO]
  walk_at "rd";refine aN hS rfl ?_;walk_at "rd";rw[if_neg n2,if_neg n3];have wl:=rE ol;have wr:=rE or';rw[PG.mM] at ht h6;refine aN hS rfl ⟨vl,d,l,kv,rfl,hl,hd,ol,by lia,by lia,fun H1 s1=>?_⟩;refine aN (s1.cI hS) rfl ⟨vr,d,r,kv,rfl,hr'.mono s1,s1 _ _ hd,or',by lia,by lia,fun H2 s2=>?_⟩;walk_at "rd";have q:=q _ (s1.trans s2);rw[fX] at q;refine cA (fun c=>?_) (fun c=>?_)
  ·rw[if_pos (e1.mp c)] at q;exact q
  rw[if_neg (fun z=>c (e1.mpr z))] at q;refine cA (fun c=>?_) (fun c=>?_)
  ·rw[if_pos (e2.mp c)] at q;exact q
  rw[if_neg (fun z=>c (e2.mpr z))] at q;exact⟨⟨Jo wl (by lia),Jo wr (by lia)⟩,q⟩
theorem t8(T:Tx K mg t):∀n,bz P w K mg base de n t.lY t.kR ["e", "values"] (Ul K n)
 |0=>by
  have no:∀vs H Q E,¬Ul K 0 vs H Q E:=fun vs H Q E h=>by obtain⟨_,_,_,_,_,_,_,_,h,_⟩:=h;lia
  exact⟨fun vs H Q E h=>absurd h (no vs H Q E),fun A outer s H args us vs Q E _ _ _ _ h=>absurd h (no vs H Q E)⟩
 |n+1=>Kj T (t8 T n)
theorem uL(T:Tx K mg t):bz P w K mg base de 1 t.jS t.j8 ["chart", "parts"] (Gk K t.aE):=by
 refine T.jW.F.mB uH (fun vs H Q E h=>?_) (fun dY A outer s H vs Q E hr h=>?_)
 ·obtain⟨_,_,_,_,rfl,_⟩:=h;rfl
 obtain⟨p,a,pr,us,rfl,co,ha,lu,nb,lb,q⟩:=h;have nd:=uH.nd;refine⟨_,[some (.ref p),some (.ref a)],(aq (aJ (Dq rfl rfl T.tZ rfl T.Ki (ai (cC (pv 0) rfl) (a8 1 ae) lF)))),rfl,?_⟩;obtain⟨dx,nl,sd,fa,va,st,wy,uu,ws,h1,h2,h3,_⟩:=co.at_;walk_at "rd";simp only[YI];walk_at "rd";refine⟨p,_,dx,_,.ref nl,rfl,h1,T.cG,T.fI,rfl,?_⟩;refine⟨nl,a,pr.aA.map fun b=>.inr (S b.name),us,rfl,?_,ha,by rw[zad];exact lu,fun d hd=>?_⟩
 ·rw[zbE];exact .of h3
 ·rw[wt,qh _ [] (by rw[za3,uv _ _ lu];exact names_nodup nb),za3];exact q d _ (au.new hd _) hd ah
theorem B2(T:Tx K mg t):bz P w K mg base de 1 t.jT t.j9 ["chart", "named"] (Gm K t.aE):=by
 refine T.md.F.mB uI (fun vs H Q E h=>?_) (fun dY A outer s H vs Q E hr h=>?_)
 ·obtain⟨_,_,_,_,_,rfl,_⟩:=h;rfl
 obtain⟨p,d,pr,aC,us,rfl,co,hd,lu,hv,lb,q⟩:=h;have nd:=uI.nd;have hu:=ip hr;refine⟨_,[some (.ref p),some (.ref d)],(aq (aJ (jH pd rfl T.vw PyProof.Rows.Boot.«tuple» (ai (iI (own:=["name"]) (ix:=[1]) rfl (by rfl) (by rfl) (dJ (cC (pv 0) rfl)) (fun _ _ _ _=>(gA (i:=0) (by show List.Nodup (["name", "named"]:List Str);decide +kernel) rfl (zbz rfl))) (fun _ _ _ _=>iH) (fun _ _ _ _=>(iG hu (pv 1) (pv 0) (fun _ _=>rfl)))) ae oA)))),rfl,?_⟩;obtain⟨dx,nl,sd,fa,va,st,wy,uu,ws,h1,h2,h3,_⟩:=co.at_;walk_at "rd";simp only[j0];walk_at "rd";have ln:(pr.aA.map fun b=>V.str (S b.name)).length=pr.aA.length:=zad ..;refine⟨p,_,dx,_,.ref nl,rfl,h1,T.cG,T.fI,rfl,nl,rfl,⟨_,.of h3⟩,fun D hD=>?_⟩;refine tM (K:=K) (r:=[some (V.ref d)]) (fun i=>us.getD i .b9) (.of h3) (by rw[ln];lia) hD (fun i x H2 hx s2 R hR=>?_) (fun H2 s2 h2=>⟨D,_,rfl,.inl ⟨.of h2,fun l hl=>?_⟩⟩)
 ·have li:i<pr.aA.length:=by have:=(zam.mp hx).1;rw[ln] at this;exact this
  rw[zap,zac li] at hx;cases hx;have g:=hv i li;have YY:i<us.length:=by lia
  rw[zac YY] at g;have e:us.getD i .b9=us[i]:=by rw[zan,zac YY];rfl
  rw[e] at hR;walk_at "rd";exact⟨d,us[i],rfl,uT.s (s2 _ _ hd) g,hR⟩
 ·have e:(zaJ (pr.aA.map fun b=>V.str (S b.name)).length).map (fun i=>us.getD i .b9)=us:=by
   rw[ln,<- lu];have:=oG (fun v:V=>v) V.b9 us;rw[List.map_id'] at this;exact this
  rw[e];exact q l _ (s2.trans (au.new hl _)) (.of ah)
theorem mh(T:Tx K mg t):bz P w K mg base de 1 t.kS t.lZ ["chart", "row"] (Jp K t.aE):=by
 refine T.iD.F.mB wO (fun vs H Q E h=>?_) (fun dY A outer s H vs Q E hr h=>?_)
 ·obtain⟨_,_,_,rfl,_⟩:=h;rfl
 obtain⟨p,pr,row,rfl,co,pw,q⟩:=h;have nd:=wO.nd;have hu:=ip hr;obtain⟨Fi,sj,sk⟩:=T.wY;refine⟨_,[some (.ref p),some (.int row)],(ag (bh (aD cf (pv 1) (k0 rfl sj sk) (aP _))
 (aq (aJ aY))
 aQ)
 (aq (aJ (aK aV (iG hu (cC (pv 0) rfl) (pv 1) (fun _ _=>rfl)) ao ax)))),rfl,?_⟩
 obtain⟨dx,nl,sd,fa,va,st,wy,uu,ws,h1,h2,h3,h4,h5,h6,h7,h8,h9,_⟩:=co.at_;walk_at "rd";rcases q with ⟨rfl,q⟩ |⟨n0,i,hi,er,q⟩
 ·exact(if_pos rfl).mpr q
 ·refine(if_neg n0).mpr ⟨p,_,dx,_,.ref st,rfl,h1,T.cG,T.cb,rfl,?_⟩;have li:i<uu.length:=by lia
  obtain⟨v,hv,rv⟩:=h9.get (i:=i) (d:=eT (PG.aB pr.body)[i]) (by rw[zap,zac hi];rfl);have g:=rC _ _ h7 pw i hi v hv;obtain⟨sa,ys,rfl,hs⟩:=iz _ rv;rw[er] at g;exact⟨st,.ref sa,rfl,.inl ⟨_,.inl row,.inl h8,rfl,g.symm⟩,aN hs (v:=.str (jZ (PG.aB pr.body)[i].wd)) (ay (j:=0) rfl) q⟩
theorem B3(T:Tx K mg t):bz P w K mg base de 4 t.rQ t.rR ["chart", "standing"] (L4 K t.aE):=by
 have qB:=uL (P:=P) (w:=w) (base:=base) T;have kg:=t8 (P:=P) (w:=w) (base:=base) T 3;refine T.oK.F.mB BV (fun vs H Q E h=>?_) (fun dY A outer s H vs Q E hr h=>?_)
 ·obtain⟨_,_,_,_,_,_,_,_,_,rfl,_⟩:=h;rfl
 obtain⟨p,sa,pr,vals,i,hi,sg,l,r,rfl,co,ok,⟨va,MC,SO⟩,lv,cp,tl,tr,q⟩:=h;have nd:=BV.nd;have hu:=ip hr;refine⟨_,[some (.ref p),some (.ref sa),none,none,none,none],(ag (eE 2 nd (iG hu (cC (pv 0) rfl) (aK aV (pv 1) ao ax) (fun _ _=>rfl)))
 (ag (eE 3 nd (dC qB T.jW hr (a8 0 (ai (aK aV (pv 1) ao ax) ae bq))))
 (ag (eE 4 nd (dC kg T.jz hr (ai (aK aV (pv 2) ao ax) (a8 3 ae) bq)))
 (ag (eE 5 nd (dC kg T.jz hr (ai (aK aV (pv 2) ao ax) (a8 3 ae) bq)))
 (ag (bh (aD cf (aK aV (pv 2) ao ax) aY (aP _))
 (aq (aJ (vf o9 (pv 4) (pv 5) (aP _))))
 aQ)
 (aq (aJ (vf cf (pv 4) (pv 5) (aP _))))))))),rfl,?_⟩
 obtain⟨dx,nl,sd,fa,wa,st,wy,uu,ws,h1,h2,h3,h4,h5,h6,h7,h8,h9,_⟩:=co.at_;have li:i<uu.length:=by lia
 obtain⟨v,hv,rv⟩:=h9.get (i:=i) (d:=eT (PG.aB pr.body)[i]) (by rw[zap,zac hi];rfl);have g:=rC _ _ h7 ok.pw i hi v hv;obtain⟨ta,w0,vl,vr,ys,rfl,hs,rl,rr⟩:=Ds rv cp;generalize (PG.aB pr.body)[i]=sm at *;have e1:(V.str (S sg)=V.str (zab "<"))↔sg=[60]:=by rw[show (zab "<":Str)=S [60] from rfl,V.str.injEq,vO]
 refine aw fun U1 fM=>?_;walk_at "rd";refine⟨p,_,dx,_,.ref st,rfl,h1,T.cG,T.cb,rfl,?_⟩;refine aN MC (v:=.int sm.row) (ay (j:=0) rfl) ⟨st,.ref ta,rfl,.inl ⟨_,.inl sm.row,.inl h8,rfl,g.symm⟩,(fM _ _).mpr (aw fun U2 ig=>?_)⟩;clear fM;walk_at "rd";refine aN MC (v:=.ref va) (ay (j:=1) rfl) ⟨p,va,pr,vals.map V.int,rfl,co,SO,by rw[zad];exact lv,ok.nb,ok.v7,fun d H2 s2 hd2 y2=>(ig _ _).mpr (aw fun U3 jF=>?_)⟩;clear ig;walk_at "rd";refine aN (s2.cI hs) (v:=vl) (ay (j:=3) rfl) ⟨vl,d,l,_,rfl,rl.mono s2,y2,tl.1,by have:=tl.2;lia,by have:=tl.2;lia,fun H3 s3=>(jF _ _).mpr (aw fun U4 mQ=>?_)⟩;clear jF;walk_at "rd";refine aN ((s2.trans s3).cI hs) (v:=vr) (ay (j:=4) rfl) ⟨vr,d,r,_,rfl,rr.mono (s2.trans s3),s3 _ _ y2,tr.1,by have:=tr.2;lia,by have:=tr.2;lia,fun H4 s4=>(mQ _ _).mpr ?_⟩;clear mQ;have q:=q _ ((s2.trans s3).trans s4);unfold qm at q;walk_at "rd";refine aN (((s2.trans s3).trans s4).cI hs) (v:=.str (S sg)) (ay (j:=2) rfl) ⟨rfl,cA (fun e=>?_) (fun e=>?_)⟩
 ·rw[if_pos (e1.mp e)] at q;exact q
 ·rw[if_neg (fun z=>e (e1.mpr z))] at q;exact q
theorem oT(T:Tx K mg t):bz P w K mg base de 5 t.c9 t.dO ["chart", "standing"] (Gp K t.aE):=by
 have vx:=B3 (P:=P) (w:=w) (base:=base) T;have iE:=mh (P:=P) (w:=w) (base:=base) T;refine T.eC.F.mB jr (fun vs H Q E h=>?_) (fun dY A outer s H vs Q E hr h=>?_)
 ·obtain⟨_,_,_,_,_,_,_,_,_,_,rfl,_⟩:=h;rfl
 obtain⟨p,sa,pr,vals,i,hi,hf,sg,l,r,rfl,co,ok,nZ,lv,cp,tl,tr,w0,w1,q⟩:=h;have nd:=jr.nd;have hu:=ip hr;refine⟨_,[some (.ref p),some (.ref sa),none],(ag (eE 2 nd (aK aV (pv 1) ao ax))
 (ag (bh (mS (dC vx T.oK hr (a8 0 (a8 1 ae))))
 (aq (aJ (a7 (ai (aK aV (iG hu (cC (pv 0) rfl) (pv 2) (fun _ _=>rfl)) ao ax) (ai (aK aV (pv 1) ao ax) ae bq) bq))))
 aQ)
 (ag (bh (aD cf (dC iE T.iD hr (a8 0 (a8 2 ae))) aY (aP _))
 (aq (aJ dQ))
 aQ)
 (aq (aJ (a7 (ai (aK aV (iG hu (cC (pv 0) rfl) (pv 2) (fun _ _=>rfl)) ao ax) (ai (aK aV (pv 1) ao ax) ae bq) bq))))))),rfl,?_⟩
 obtain⟨va,MC,SO⟩:=id nZ;have abB:=ok.pos _ (zat hi);refine aw fun U1 fM=>?_;walk_at "rd";refine aN MC (v:=.int (PG.aB pr.body)[i].row) (ay (j:=0) rfl) ((fM _ _).mpr ?_);clear fM;walk_at "rd";refine⟨p,sa,pr,vals,i,hi,sg,l,r,rfl,co,ok,nZ,lv,cp,tl,tr,fun H2 s2=>?_⟩;obtain⟨dx,fs,wy,wq,g1,g2,g3,g4⟩:=(co.mono s2).way ok i hi hf;have qq:∀(j:Nat) (x:Int),(PG.aL pr.body 0)[i].2.2[j]?=some x->xo ((PG.aL pr.body 0)[i].2.2.map V.int) (j:Int)=some (V.int x):=fun j x e=>ay (by rw[zap,e];rfl);have back:∀(x:Int) (H3:Hp),au H2 H3->∀pp,H3 pp=none->wu K (upd H3 pp (.tup [V.int x,V.ref va])) (some (x,vals)) (.ref pp):=fun x H3 s3 pp DO=>⟨pp,rfl,va,.of ah,((s2.trans s3).trans (au.new DO _)).cI SO⟩
 unfold iX at q;rw[cp] at q;simp only at q;refine⟨_,rfl,cA (fun e=>?_) (fun e=>?_)⟩
 ·rw[if_pos e] at q;have e0:(PG.aL pr.body 0)[i].2.2[0]?=some ((PG.aL pr.body 0)[i].2.2.getD 0 0):=by rw[zan,zac w0];rfl
  refine⟨p,_,dx,fs,.ref wy,rfl,g1,T.cG,T.eQ,g2,wy,.ref wq,rfl,g3,aN g4 (v:=.int ((PG.aL pr.body 0)[i].2.2.getD 0 0)) (qq 0 _ e0) (aN (s2.cI MC) (v:=.ref va) (ay (j:=1) rfl) fun pp DO=>?_)⟩;exact q _ _ (s2.trans (au.new DO _)) (back _ _ (au.refl _) pp DO)
 ·rw[if_neg e] at q;refine⟨p,pr,_,rfl,co.mono s2,ok.pw,.inr ⟨by lia,i,hi,rfl,rfl,cA (fun e2=>?_) (fun e2=>?_)⟩⟩
  ·have ew:(PG.aB pr.body)[i].wd=.cB:=(tL _).mp e2;rw[if_pos ew] at q;exact q _ _ s2 rfl
  ·have ew:(PG.aB pr.body)[i].wd≠.cB:=fun z=>e2 ((tL _).mpr z);rw[if_neg ew] at q;have w1:=w1 ew;have e1:(PG.aL pr.body 0)[i].2.2[1]?=some ((PG.aL pr.body 0)[i].2.2.getD 1 0):=by rw[zan,zac w1];rfl
   refine⟨p,_,dx,fs,.ref wy,rfl,g1,T.cG,T.eQ,g2,wy,.ref wq,rfl,g3,aN g4 (v:=.int ((PG.aL pr.body 0)[i].2.2.getD 1 0)) (qq 1 _ e1) (aN (s2.cI MC) (v:=.ref va) (ay (j:=1) rfl) fun pp DO=>?_)⟩;exact q _ _ (s2.trans (au.new DO _)) (back _ _ (au.refl _) pp DO)
theorem Fl:∀w:PG.Wd,QC (V.str (jZ w)) [V.str (zab "must"),V.str (zab "if"),V.str (zab "while")]=decide (w=.cB\/w=.ifs\/w=.jc):=by
 intro w;cases w<;>decide +kernel
theorem DP:∀w:PG.Wd,(jZ w=zab "ask")↔w=.ask:=by
 intro w;cases w<;>decide +kernel
theorem SQ:∀w:PG.Wd,(jZ w=zab "put")↔w=.put:=by
 intro w;cases w<;>decide +kernel
theorem SR:∀w:PG.Wd,(jZ w=zab "say")↔w=.say:=by
 intro w;cases w<;>decide +kernel
theorem wu.mono{H H':Hp}{o:Option (Int×List Int)}{v:V}(h:wu K H o v)(s:au H H'):wu K H' o v:=by
 cases o with
 |none=>exact h
 |some x=>obtain⟨a,e,sa⟩:=h;exact⟨a,e,sa.mono s⟩
theorem cond_of{bs:List PG.fO}{vals:List Int}{st:PG.bX}(h:st.wd=.cB\/st.wd=.ifs\/st.wd=.jc)(po:Jq bs vals st):∃sg l r,uy st=some (sg,l,r)/\Dr bs vals l/\Dr bs vals r/\∀ws K8,mD bs st ws vals K8=(iX bs st ws vals,none):=by
 cases st<;>simp only[PG.bX.wd,reduceCtorEq,or_self,or_false,false_or] at h<;>exact⟨_,_,_,rfl,po.1,po.2,fun _ _=>rfl⟩
theorem PD{st:PG.bX}(h:st.wd=.ask):∃k b,st=.ask k b:=by
 cases st<;>first |exact⟨_,_,rfl⟩ |cases h
theorem PF{st:PG.bX}(h:st.wd=.put):∃k b e,st=.put k b e:=by
 cases st<;>first |exact⟨_,_,_,rfl⟩ |cases h
theorem PH{st:PG.bX}(h:st.wd=.say):∃k e,st=.say k e:=by
 cases st<;>first |exact⟨_,_,rfl⟩ |cases h
theorem MD{st:PG.bX}(h0:¬(st.wd=.cB\/st.wd=.ifs\/st.wd=.jc))(h1:st.wd≠.ask)(h2:st.wd≠.put)(h3:st.wd≠.say):∃k,st=.stop k:=by
 cases st<;>simp only[PG.bX.wd,reduceCtorEq,or_self,or_false,false_or,not_true,not_false_iff,ne_eq] at h0 h1 h2 h3<;>exact⟨_,rfl⟩
theorem GK{H:Hp}{k:Int}{b:W}{v:V}(h:Rep K H (eT (.ask k b)) v):∃a,v=.ref a/\cu K H a [.str "ask",.int k,.str (S b)]:=by
 simp only[eT,Rep.br,aI.aF,aI.bI,Rep.bY,Rep.bF] at h;obtain⟨a,ys,rfl,hS,_,_,rfl,rfl,_,_,rfl,rfl,_,_,rfl,rfl,rfl⟩:=h;exact⟨a,rfl,hS⟩
theorem GL{H:Hp}{k:Int}{b:W}{e:PM.Tr}{v:V}(h:Rep K H (eT (.put k b e)) v):∃a u,v=.ref a/\cu K H a [.str "put",.int k,.str (S b),u]/\Rep K H (mL e) u:=by
 simp only[eT,Rep.br,aI.aF,aI.bI,Rep.bY,Rep.bF] at h;obtain⟨a,ys,rfl,hS,_,_,rfl,rfl,_,_,rfl,rfl,_,_,rfl,rfl,u,_,rfl,ru,rfl⟩:=h;exact⟨a,u,rfl,hS,ru⟩
theorem GN{H:Hp}{k:Int}{e:PM.Tr}{v:V}(h:Rep K H (eT (.say k e)) v):∃a u,v=.ref a/\cu K H a [.str "say",.int k,u]/\Rep K H (mL e) u:=by
 simp only[eT,Rep.br,aI.aF,aI.bI,Rep.bY,Rep.bF] at h;obtain⟨a,ys,rfl,hS,_,_,rfl,rfl,_,_,rfl,rfl,u,_,rfl,ru,rfl⟩:=h;exact⟨a,u,rfl,hS,ru⟩
theorem yX(vals:List Int)(j:Nat)(x:Int):(vals.map V.int).set j (.int x)=(vals.set j x).map V.int:=by
 rw[List.map_set]
theorem yK{bs:List PG.fO}(bp:∀b∈bs,0<b.size)(x:W):0<gI bs x:=by
 unfold gI;cases e:bs[iq bs x]? with
 |none=>decide
 |some b=>exact bp b (za5 e)
theorem w8(T:Tx K mg t):bz P w K mg base de 6 t.kT t.l0 ["chart", "standing", "figure"] (Jr K t.aE):=by
 have qC:=oT (P:=P) (w:=w) (base:=base) T;have qB:=uL (P:=P) (w:=w) (base:=base) T;have DQ:=B2 (P:=P) (w:=w) (base:=base) T;have kg:=t8 (P:=P) (w:=w) (base:=base) T 3;refine T.jL.F.mB wQ (fun vs H Q E h=>?_) (fun dY A outer s H vs Q E hr h=>?_)
 ·obtain⟨_,_,_,_,_,_,_,_,_,rfl,_⟩:=h;rfl
 obtain⟨p,sa,fv,pr,vals,K8,i,hi,hf,rfl,co,ok,bp,nZ,lv,WR,po,w0,w1,q⟩:=h;have nd:=wQ.nd;have hu:=ip hr;refine⟨_,[some (.ref p),some (.ref sa),some fv,none,none,none,none,none],(ag (eE 3 nd (aK aV (pv 1) ao ax))
 (ag (eE 4 nd (iG hu (cC (pv 0) rfl) (pv 3) (fun _ _=>rfl)))
 (ag (eE 5 nd (aK aV (pv 4) ao ax))
 (ag (bh (aD tm (pv 5) (a7 (gH (vs:=[.str "must",.str "if",.str "while"]) (by kernel_rfl))) rfl)
 (aq (aJ (a7 (ai (dC qC T.eC hr (a8 0 (a8 1 ae))) (ai dQ ae aH) bR))))
 aQ)
 (ag (eE 6 nd (dC qB T.jW hr (a8 0 (ai (aK aV (pv 1) ao ax) ae bq))))
 (ag (eE 7 nd dQ)
 (ag (bh (aD cf (pv 5) aY (aP _))
 (aq (Ew hu (pv 6) (aK aV (pv 4) ao ax) (aW bK (pv 2) (iG hu (cC (pv 0) rfl) (aK aV (pv 4) ao ax) (fun _ _=>rfl))) rfl))
 (aq (bh (aD cf (pv 5) aY (aP _))
 (aq (Ew hu (pv 6) (aK aV (pv 4) ao ax) (aW bK (dC kg T.jz hr (ai (aK aV (pv 4) ao ax) (a8 6 ae) bq)) (iG hu (cC (pv 0) rfl) (aK aV (pv 4) ao ax) (fun _ _=>rfl))) rfl))
 (aq (bh (aD cf (pv 5) aY (aP _))
 (aq (eE 7 nd (dC kg T.jz hr (ai (aK aV (pv 4) ao ax) (a8 6 ae) bq))))
 aQ)))))
 (aq (aJ (a7 (ai (a7 (ai (aK aV (iG hu (cC (pv 0) rfl) (pv 3) (fun _ _=>rfl)) ao ax) (ai (dC DQ T.md hr (a8 0 (a8 6 ae))) ae bR) bq)) (a8 7 ae) ff))))))))))),rfl,?_⟩
 obtain⟨va,MC,SO⟩:=id nZ;obtain⟨dx,nl,sd,fa,va',st,wy,uu,ws,h1,h2,h3,h4,h5,h6,h7,h8,h9,_⟩:=co.at_;have li:i<uu.length:=by lia
 obtain⟨v,hv,rv⟩:=h9.get (i:=i) (d:=eT (PG.aB pr.body)[i]) (by rw[zap,zac hi];rfl);have g:=rC _ _ h7 ok.pw i hi v hv;have sel:∃ta ds,v=.ref ta/\cu K H ta (.str (jZ (PG.aB pr.body)[i].wd)::ds):=by
  generalize (PG.aB pr.body)[i]=sm at rv;cases sm<;>(rw[eT,Rep.br] at rv;obtain⟨ta,ys,rfl,hs,rs⟩:=rv;rw[aI.aF] at rs;obtain⟨v0,t0,rfl,e0,rs⟩:=rs;rw[Rep.bY] at e0;subst e0;exact⟨ta,_,rfl,hs⟩)
 obtain⟨ta,ds,rfl,hs⟩:=sel;refine aw fun U1 fM=>?_;walk_at "rd";refine aN MC (v:=.int (PG.aB pr.body)[i].row) (ay (j:=0) rfl) ((fM _ _).mpr (aw fun U2 ig=>?_));clear fM;walk_at "rd";refine⟨p,_,dx,_,.ref st,rfl,h1,T.cG,T.cb,rfl,⟨st,.ref ta,rfl,.inl ⟨_,.inl _,.inl h8,rfl,g.symm⟩,(ig _ _).mpr (aw fun U3 jF=>?_)⟩⟩;clear ig;walk_at "rd";refine aN hs (v:=.str (jZ (PG.aB pr.body)[i].wd)) (ay (j:=0) rfl) ((jF _ _).mpr ?_);clear jF;refine aw fun U4 mQ=>?_;walk_at "rd";intro z hz;have sz:=au.new hz (HO.tup [V.str (zab "must"),V.str (zab "if"),V.str (zab "while")]);refine⟨z,_,rfl,.inr (.of ah),rfl,rfl,_,rfl,cA (fun e=>?_) (fun e=>?_)⟩
 ·have e:=e;simp only[zaz,if_false,Fl,decide_eq_true_eq] at e;obtain⟨sg,l,r,cp,tl,tr,es⟩:=cond_of e po;rw[es] at q;refine⟨p,sa,pr,vals,i,hi,hf,sg,l,r,rfl,co.mono sz,ok,nZ.mono sz,lv,cp,tl,tr,w0,fun nm=>w1 (by rcases e with e |e |e;exact absurd e nm;exact .inl e;exact .inr e),fun v H2 s2 os pp DO=>?_⟩;exact q pp v _ ((sz.trans s2).trans (au.new DO _)) (.of ah) (wu.mono os (au.new DO _))
 have e0:=e;simp only[zaz,if_false,Fl,decide_eq_true_eq] at e0;refine(mQ _ _).mpr (aw fun U5 AN=>?_);clear mQ e;walk_at "rd";refine aN (sz.cI MC) (v:=.ref va) (ay (j:=1) rfl) ⟨p,va,pr,vals.map V.int,rfl,co.mono sz,sz.cI SO,by rw[zad];exact lv,ok.nb,ok.v7,fun d H2 s2' hd2 y2=>(AN _ _).mpr (aw fun U6 GJ=>?_)⟩;clear AN;have s2:=sz.trans s2';have hd:=sz.free hd2;walk_at "rd";refine(GJ _ _).mpr (aw fun U7 SS=>?_);clear GJ;have fin:∀(H5:Hp) (aC:List (Key×V)) (us:List Int) (sd:Option Int),au H H5->H5 d=some (.dK aC)->us.length=pr.aA.length->(∀i (hi:i<pr.aA.length),b8 aC (.inr (S pr.aA[i].name))=(us.map V.int)[i]?)->
  mD pr.aA (PG.aB pr.body)[i] (PG.aL pr.body 0)[i].2.2 vals K8=(some ((PG.aL pr.body 0)[i].2.2.getD 0 0,us),sd)->
  U7 [some (.ref p),some (.ref sa),some fv,some (.int (PG.aB pr.body)[i].row),some (.ref ta),some (.str (jZ (PG.aB pr.body)[i].wd)),some (.ref d),some (Bz sd)] H5:=by
  intro H5 aC us sd' s5 hd5 lu look es;rw[es] at q;refine(SS _ _).mpr ?_;clear SS;walk_at "rd";obtain⟨dx,fs,wy,wq,g1,g2,g3,g4⟩:=(co.mono s5).way ok i hi hf;have e0:(PG.aL pr.body 0)[i].2.2[0]?=some ((PG.aL pr.body 0)[i].2.2.getD 0 0):=by rw[zan,zac w0];rfl
  have qq:xo ((PG.aL pr.body 0)[i].2.2.map V.int) ((0:Nat):Int)=some (V.int ((PG.aL pr.body 0)[i].2.2.getD 0 0)):=ay (by rw[zap,e0];rfl);refine⟨p,_,dx,fs,.ref wy,rfl,g1,T.cG,T.eQ,g2,wy,.ref wq,rfl,g3,aN g4 (v:=.int ((PG.aL pr.body 0)[i].2.2.getD 0 0)) qq ?_⟩;refine⟨p,d,pr,aC,us.map V.int,rfl,co.mono s5,hd5,by rw[zad];exact lu,look,ok.v7,fun a H6 s6 sq p1 ME p2 C0=>?_⟩;exact q p2 _ _ (((s5.trans s6).trans (au.new ME _)).trans (au.new C0 _)) (.of ah) ⟨p1,rfl,a,(au.new C0 _).cI (.of ah),((au.new ME _).trans (au.new C0 _)).cI sq⟩
 have SU:(dU pr.aA (vals.map V.int)).length<zdg:=by
  have line:zdg=2 ^ 24:=rfl;have:=ok.v7;unfold dU;rw[List.length_zipWith];lia
 have keep:∀i (hi:i<pr.aA.length),b8 (dU pr.aA (vals.map V.int)) (.inr (S pr.aA[i].name))=(vals.map V.int)[i]?:=fun i hi=>by
  have li:i<(vals.map V.int).length:=by rw[zad];lia
  rw[kM pr.aA (vals.map V.int) (by rw[zad];exact lv) ok.nb i hi _ (zac li),zac li]
 have put:∀(b:W),b∈pr.aA.map (·.name)->∀(x:Int),(uV pr.aA vals b x).length=pr.aA.length/\∀i (hi:i<pr.aA.length),b8 (putK (dU pr.aA (vals.map V.int)) (.inr (S b)) (.int x)) (.inr (S pr.aA[i].name))=((uV pr.aA vals b x).map V.int)[i]?:=fun b hb x=>by
  refine⟨by unfold uV;rw[zcH];exact lv,fun i hi=>?_⟩;rw[Du (by rw[zad];exact lv) ok.nb hb,yX];rfl
 have SV:∀H3 o,au H H3->au H (upd H3 d o):=fun H3 o s3=>((aT.of s3:aT d H H3).put o).same hd;walk_at "rd";refine cA (fun e=>?_) (fun e=>?_)
 ·obtain⟨k,b,La⟩:=PD ((DP _).mp e);have rv:=rv;rw[La] at rv po;obtain⟨_,ee,hT⟩:=GK rv;cases ee;have efv:=WR ((DP _).mp e);subst efv;obtain⟨l1,l2⟩:=put b po (K8%gI pr.aA b);refine⟨p,_,dx,_,.ref sd,rfl,s2 _ _ h1,T.cG,T.fJ,rfl,aN (s2.cI hT) (v:=.str (S b)) (ay (j:=2) rfl) ⟨sd,.int (gI pr.aA b),rfl,.inl ⟨_,.inr (S b),.inl (s2 _ _ h4),rfl,(BA ok.nb po).symm⟩,?_⟩⟩;refine⟨_,_,rfl,rfl,yK bp b,aN (s2.cI hT) (v:=.str (S b)) (ay (j:=2) rfl) ⟨d,_,rfl,.inl ⟨_,.inr (S b),y2,rfl,SU,rfl⟩,?_⟩⟩;exact fin _ _ _ none (SV _ _ s2) ah l1 l2 (by rw[La];rfl)
 refine cA (fun e2=>?_) (fun e2=>?_)
 ·obtain⟨k,b,tr,La⟩:=PF ((SQ _).mp e2);have rv:=rv;rw[La] at rv po;obtain⟨_,u,ee,hT,ru⟩:=GL rv;cases ee;obtain⟨l1,l2⟩:=put b po.1 (wv pr.aA vals tr%gI pr.aA b);refine aN (s2.cI hT) (v:=u) (ay (j:=3) rfl) ⟨u,d,tr,_,rfl,ru.mono s2,y2,po.2.1,by have:=po.2.2;lia,by have:=po.2.2;lia,fun H3 SW=>?_⟩;have s3:=s2.trans SW;refine⟨p,_,dx,_,.ref sd,rfl,s3 _ _ h1,T.cG,T.fJ,rfl,aN (s3.cI hT) (v:=.str (S b)) (ay (j:=2) rfl) ⟨sd,.int (gI pr.aA b),rfl,.inl ⟨_,.inr (S b),.inl (s3 _ _ h4),rfl,(BA ok.nb po.1).symm⟩,?_⟩⟩;refine⟨_,_,rfl,rfl,yK bp b,aN (s3.cI hT) (v:=.str (S b)) (ay (j:=2) rfl) ⟨d,_,rfl,.inl ⟨_,.inr (S b),SW _ _ y2,rfl,SU,rfl⟩,?_⟩⟩;exact fin _ _ _ none (SV _ _ s3) ah l1 l2 (by rw[La];rfl)
 refine cA (fun e3=>?_) (fun e3=>?_)
 ·obtain⟨k,tr,La⟩:=PH ((SR _).mp e3);have rv:=rv;rw[La] at rv po;obtain⟨_,u,ee,hT,ru⟩:=GN rv;cases ee;refine aN (s2.cI hT) (v:=u) (ay (j:=2) rfl) ⟨u,d,tr,_,rfl,ru.mono s2,y2,po.1,by have:=po.2;lia,by have:=po.2;lia,fun H3 SW=>?_⟩;exact fin _ _ _ (some _) (s2.trans SW) (SW _ _ y2) lv keep (by rw[La];rfl)
 obtain⟨k,La⟩:=MD e0 (fun z=>e ((DP _).mpr z)) (fun z=>e2 ((SQ _).mpr z)) (fun z=>e3 ((SR _).mpr z));exact fin _ _ _ none s2 y2 lv keep (by rw[La];rfl)
theorem sr(T:Tx K mg t):bz P w K mg base de 1 t.bu t.fE ["self"] (Jw K t.aE t.bE):=by
 refine T.dP.mB i4 (fun vs H Q E h=>?_) (fun dY A outer s H vs Q E hr h=>?_)
 ·obtain⟨_,_,_,_,_,_,_,_,rfl,_⟩:=h;rfl
 obtain⟨wk,ch,fl,pr,figs,n,row,vals,rfl,wo,q⟩:=h;have nd:=i4.nd;obtain⟨Fi,sj,sk⟩:=T.wY;refine⟨_,[some (.ref wk)],(aq (bh (aD cf (aK aV (cC (pv 0) rfl) ao ax) (k0 rfl sj sk) (aP _))
 (aq (gQ (pv 0) (a7 (ai aY ae aH)) rfl))
 aQ)),rfl,?_⟩
 obtain⟨dx,sa,ev,hw,nZ,he⟩:=wo.at_;obtain⟨va,yv,yU⟩:=id nZ;walk_at "rd";refine⟨wk,_,dx,_,.ref sa,rfl,hw,T.bG,T.bw,rfl,aN yv (v:=.int row) (ay (j:=0) rfl) ⟨rfl,cA (fun e=>fun p hp=>?_) (fun e=>?_)⟩⟩
 ·have e:=V.int.inj e;have s1:=au.new hp (.tup [V.str (zab "end")]);refine⟨wk,_,dx,_,rfl,s1 _ _ hw,T.bG,T.fL,(show 5<1000 by decide),?_⟩;refine q _ ((aT.of s1).put _) ?_;unfold PG.endAt;rw[if_pos e];exact(wo.mono s1).put (s1 _ _ hw) (nZ.mono s1) ⟨p,rfl,.of ah⟩
 ·refine q _ (.refl _ _) ?_;unfold PG.endAt;rw[if_neg (fun z=>e (by rw[z]))];exact wo
theorem zY(T:Tx K mg t):bz P w K mg base de 2 t.dy t.ma ["self", "chart", "figures"] (Jv K t.aE t.bE):=by
 have fZ:=sr (P:=P) (w:=w) (base:=base) T;refine T.kc.mB rP (fun vs H Q E h=>?_) (fun dY A outer s H vs Q E hr h=>?_)
 ·obtain⟨_,_,_,_,_,_,rfl,_⟩:=h;rfl
 obtain⟨wk,dx,ch,fl,pr,figs,rfl,hw,co,hf,q⟩:=h;have nd:=rP.nd;refine⟨_,[some (.ref wk),some (.ref ch),some (.ref fl)],(ag (gQ (pv 0) (pv 1) rfl)
 (ag (gQ (pv 0) (pv 2) rfl)
 (ag (gQ (pv 0) ao rfl)
 (ag (gQ (pv 0) (cC (pv 1) rfl) rfl)
 (ag (gQ (pv 0) dQ rfl)
 (aq (bP (mU (pv 0) T.bG T.jt fZ (hr.mono (by first|decide|omega)) T.js .nil pj)))))))),rfl,?_⟩
 obtain⟨cdx,nl,sd,fa,va,st,wy,us,ws,h1,h2,h3,h4,h5,h6,YZ⟩:=co.at_;have nc:ch≠wk:=bN h1 hw (by intro z;injection z with _ _ z;cases z);walk_at "rd";refine⟨wk,_,dx,_,rfl,hw,T.bG,T.gx,by decide,?_⟩;refine⟨wk,_,dx,_,rfl,ah,T.bG,T.eI,za4 (gV (zah 0)) (by decide),?_⟩;refine⟨wk,_,dx,_,rfl,ah,T.bG,T.eR,za4 (gV (gV (zah 0))) (by decide),?_⟩;refine⟨ch,_,cdx,_,.ref fa,rfl,by rw[av nc,av nc,av nc];exact h1,T.cG,T.fK,rfl,?_⟩;refine⟨wk,_,dx,_,rfl,ah,T.bG,T.bw,za4 (gV (gV (gV (zah 0)))) (by decide),?_⟩;refine⟨wk,_,dx,_,rfl,ah,T.bG,T.fL,za4 (gV (gV (gV (gV (zah 0))))) (by decide),?_⟩;have nZ:cx K H fa (PG.bc pr.body 0) (pr.aA.map (·.first)):=⟨va,.of h5,.of (by rw[zbE];exact h6)⟩
 have u5:=fun o1 o2 o3 o4 o5=>(((((aT.refl wk H).put o1).put o2).put o3).put o4).put o5;refine⟨wk,dx,_,rfl,ah,rfl,wk,ch,fl,pr,figs,0,_,_,rfl,⟨⟨dx,fa,.b9,ah,nZ.ins hw (u5 _ _ _ _ _),rfl⟩,co.ins hw nc (u5 _ _ _ _ _),hf.ins hw (u5 _ _ _ _ _),nc⟩,fun H6 u6 w6=>q _ ((u5 _ _ _ _ _).trans u6) w6⟩
theorem uM(T:Tx K mg t):bz P w K mg base de 2 t.bW t.hZ ["self"] (L7 K t.aE t.bE):=by
 have iE:=mh (P:=P) (w:=w) (base:=base) T;refine T.fV.mB j7 (fun vs H Q E h=>?_) (fun dY A outer s H vs Q E hr h=>?_)
 ·obtain⟨_,_,_,_,_,_,_,_,_,_,rfl,_⟩:=h;rfl
 obtain⟨wk,ch,fl,pr,figs,n,vals,e,i,hi,rfl,ok,wo,q⟩:=h;have nd:=j7.nd;refine⟨_,[some (.ref wk)],(aq (aJ (vf cf (dC iE T.iD hr (ai (cC (pv 0) rfl) (ai (aK aV (cC (pv 0) rfl) ao ax) ae bq) lF)) aY (aP _)))),rfl,?_⟩;obtain⟨dx,sa,ev,hw,⟨va,yv,yU⟩,he⟩:=wo.at_;have pos:=ok.pos _ (zat hi);walk_at "rd";refine⟨wk,_,dx,_,.ref ch,rfl,hw,T.bG,T.gx,rfl,wk,_,dx,_,.ref sa,rfl,hw,T.bG,T.bw,rfl,aN yv (v:=.int (PG.aB pr.body)[i].row) (ay (j:=0) rfl) ⟨ch,pr,_,rfl,wo.Sj,ok.pw,.inr ⟨by lia,i,hi,rfl,?_⟩⟩⟩;have e:decide (V.str (jZ (PG.aB pr.body)[i].wd)=V.str (zab "ask"))=decide ((PG.aB pr.body)[i].wd=.ask):=decide_eq_decide.mpr ⟨fun z=>(DP _).mp (V.str.inj z),fun z=>congrArg V.str ((DP _).mpr z)⟩;refine⟨rfl,?_⟩;rw[e];exact q
theorem DR(T:Tx K mg t):bz P w K mg base de 7 t.cT t.kC ["self"] (O4 K t.aE t.bE):=by
 have fZ:=sr (P:=P) (w:=w) (base:=base) T;have iF:=uM (P:=P) (w:=w) (base:=base) T;have oO:=w8 (P:=P) (w:=w) (base:=base) T;refine T.jE.mB pQ (fun vs H Q E h=>?_) (fun dY A outer s H vs Q E hr h=>?_)
 ·obtain⟨_,_,_,_,_,_,_,_,rfl,_⟩:=h;rfl
 obtain⟨wk,ch,fl,pr,figs,n,row,vals,rfl,dr,wo,WS,NJ,hn,Fm,q⟩:=h;have nd:=pQ.nd;refine⟨_,[some (.ref wk),none,none],(ag (eE 1 nd dQ)
 (ag (bh (mS (mU (pv 0) T.bG T.kY iF (hr.mono (by first|decide|omega)) T.kX .nil pj))
 (ag (bh (aD cf (cC (pv 0) rfl) (bB aZ rfl T.eV PyProof.Rows.Boot.«len» (ai (cC (pv 0) rfl) ae lF)) (aP _))
 (ag (gQ (pv 0) (a7 (ai aY ae aH)) rfl)
 (aq (aJ dQ)))
 aQ)
 (ag (eE 1 nd (aK bJ (cC (pv 0) rfl) (cC (pv 0) rfl) LF))
 (aq (FI (pv 0) ao Ow))))
 aQ)
 (ag (eE 2 nd (dC oO T.jL hr (ai (cC (pv 0) rfl) (ai (cC (pv 0) rfl) (a8 1 ae) lF) lF)))
 (ag (bh (aD yW (aK aV (pv 2) ao ax) dQ (aP _))
 (aq (gQ (pv 0) (a7 (ai aY (ai (aK aV (cC (pv 0) rfl) ao ax) ae bq) aH)) rfl))
 (ag (gQ (pv 0) (aK aV (pv 2) ao ax) rfl)
 (aq (bP (mU (pv 0) T.bG T.jt fZ (hr.mono (by first|decide|omega)) T.js .nil pj)))))
 (aq (aJ (aK aV (pv 2) ao ax))))))),rfl,?_⟩
 obtain⟨i,hi,rfl⟩:=NJ.row.resolve_left WS;obtain⟨hf,ek,ew⟩:=nF pr.body i hi;obtain⟨w0,w1⟩:=PG.iy pr.body 0 _ (zat hf);rw[ew] at w1;obtain⟨po,so⟩:=Dv NJ.len dr.ok.nb NJ.small (PG.jx pr.body _ dr.own (zat hi));have bp:∀b∈pr.aA,0<b.size:=fun b hb=>by have:=dr.size b hb;lia
 have ea:gE pr.body (PG.aB pr.body)[i].row=decide ((PG.aB pr.body)[i].wd=.ask):=by unfold gE;rw[lO dr.ok.pw i hi]
 have es:∀f,cm pr (PG.aB pr.body)[i].row vals f=mD pr.aA (PG.aB pr.body)[i] (PG.aL pr.body 0)[i].2.2 vals f:=fun f=>by unfold cm;rw[lO dr.ok.pw i hi,zy dr.ok.pw i hi hf]
 obtain⟨dx,sa,ev,hw,nZ,he⟩:=wo.at_;have he:ev=.b9:=he;subst he;refine aw fun U1 fM=>?_;walk_at "rd";refine(fM _ _).mpr (aw fun U2 ig=>?_);clear fM;have rest:∀(H2:Hp) (n':Nat) (fv:V) (f:Int),aT wk H H2->AL K t.aE t.bE H2 wk ch fl pr figs n' (PG.aB pr.body)[i].row vals none->((PG.aB pr.body)[i].wd=.ask->fv=.int f)->n'<=figs.length->PG.take1 (gE pr.body (PG.aB pr.body)[i].row) (figs.drop n)=some (f,figs.drop n')->U2 [some (.ref wk),some fv,none] H2:=by
  intro H2 n' fv f u2 WT WR N6 ht;obtain⟨PJ,WU,ev2,WV,SX,K4⟩:=WT.at_;have K4:ev2=.b9:=K4;subst K4;refine(ig _ _).mpr (aw fun U3 jF=>?_);clear ig;walk_at "rd";refine⟨wk,_,PJ,_,.ref ch,rfl,WV,T.bG,T.gx,rfl,wk,_,PJ,_,.ref WU,rfl,WV,T.bG,T.bw,rfl,ch,WU,fv,pr,vals,f,i,hi,hf,rfl,WT.Sj,dr.ok,bp,SX,NJ.len,WR,po,w0,w1,fun q1 sv H3 s3 k1 o1=>(jF _ _).mpr ?_⟩;clear jF;have Y0:=WT.mono s3;have PK:=s3 _ _ WV;have SY:=SX.mono s3;have u3:=u2.trans (.of s3);have sst:=fun x s=>wx.step (f:=f) (x:=x) (s:=s) dr hi hf NJ.len NJ.small;rcases K1:mD pr.aA (PG.aB pr.body)[i] (PG.aL pr.body 0)[i].2.2 vals f with ⟨o,sd⟩
  have UH:=(es f).trans K1;rw[K1] at k1 o1;simp only at k1 o1;refine aw fun U4 mQ=>?_;walk_at "rd";refine aN k1 (v:=sv) (ay (j:=0) rfl) ?_;cases o with
  |none=>
   have o1:sv=.b9:=o1;subst o1;have eg:=Jt ht UH;rw[eg] at q;obtain⟨va3,yv,yU⟩:=id SY;refine cA (fun _=>?_) (fun z=>absurd rfl z);refine⟨wk,_,PJ,_,.ref WU,rfl,PK,T.bG,T.bw,rfl,aN yv (v:=.int (PG.aB pr.body)[i].row) (ay (j:=0) rfl) fun p hp=>?_⟩;have s4:=au.new hp (.tup [V.str (zab "must"),V.int (PG.aB pr.body)[i].row]);refine⟨wk,_,PJ,_,rfl,s4 _ _ PK,T.bG,T.fL,(show 5<1000 by decide),(mQ _ _).mpr ?_⟩;walk_at "rd";refine aN ((s4.cI k1).ins (s4 _ _ PK) ((aT.refl _ _).put _)) (v:=Bz sd) (ay (j:=1) rfl) (q _ n' (u3.trans ((aT.of s4).put _)) N6 rfl ((Y0.mono s4).put (s4 _ _ PK) (SY.mono s4) ⟨p,rfl,.of ah⟩) NJ)
  |some x=>
   obtain⟨Y1,rfl,WW⟩:=o1;have eg:=Ju ht UH;rw[eg] at q;refine cA (fun z=>by cases z) (fun _=>?_);refine aN k1 (v:=.ref Y1) (ay (j:=0) rfl) ⟨wk,_,PJ,_,rfl,PK,T.bG,T.bw,(show 5<1000 by decide),?_⟩;have u4:aT wk H3 (upd H3 wk (.ins t.bE PJ (Si ch fl n' Y1 .b9))):=(aT.refl _ _).put _;have wo4:=Y0.put PK (n':=n') WW (show tO K H3 none .b9 from rfl);refine⟨wk,PJ,_,rfl,ah,rfl,wk,ch,fl,pr,figs,n',x.1,x.2,rfl,wo4,fun H5 u5 QT=>(mQ _ _).mpr ?_⟩;walk_at "rd";refine aN ((k1.ins PK u4).ins ah u5) (v:=Bz sd) (ay (j:=1) rfl) (q _ n' (u3.trans (u4.trans u5)) N6 rfl QT (sst x sd K1))
 walk_at "rd";refine⟨wk,dx,_,rfl,hw,rfl,wk,ch,fl,pr,figs,n,vals,none,i,hi,rfl,dr.ok,wo,?_⟩;refine⟨_,rfl,cA (fun e=>?_) (fun e=>?_)⟩
 ·have ew:(PG.aB pr.body)[i].wd=.ask:=by simpa using e
  refine⟨wk,_,dx,_,.int n,rfl,hw,T.bG,T.eR,rfl,wk,_,dx,_,.ref fl,rfl,hw,T.bG,T.eI,rfl,fl,_,rfl,.inl wo.Um,rfl,cA (fun e2=>fun p hp=>?_) (fun e2=>?_)⟩
  ·have e2:=V.int.inj e2;rw[zad] at e2;have s1:=au.new hp (.tup [V.str (zab "out")]);refine⟨wk,_,dx,_,rfl,s1 _ _ hw,T.bG,T.fL,(show 5<1000 by decide),?_⟩;have ed:figs.drop n=[]:=List.drop_eq_nil_of_le (by lia);have eg:=L6 (pr:=pr) (row:=(PG.aB pr.body)[i].row) (vals:=vals) (left:=figs.drop n) (by rw[ea,ed];simp[PG.take1,ew]);rw[eg] at q;exact q _ n ((aT.of s1).put _) hn rfl ((wo.mono s1).put (s1 _ _ hw) (nZ.mono s1) ⟨p,rfl,.of ah⟩) NJ
  ·rw[zad] at e2;have ln:n<figs.length:=by
    have:n≠figs.length:=fun z=>e2 (by rw[z]);lia
   refine⟨wk,_,dx,_,.ref fl,rfl,hw,T.bG,T.eI,rfl,wk,_,dx,_,.int n,rfl,hw,T.bG,T.eR,rfl,cN wo.Um (v:=.int figs[n]) (ay (by rw[zap,zac ln];rfl)) ?_⟩;refine⟨wk,_,dx,_,.int n,rfl,hw,T.bG,T.eR,rfl,?_⟩;refine⟨n,1,rfl,rfl,dx,_,hw,(show 5<1000 by decide),?_⟩;refine rest _ (n+1) _ figs[n] ((aT.refl _ _).put _) (wo.put hw (n':=n+1) nZ (show tO K H none .b9 from rfl)) (fun _=>rfl) ln ?_;rw[ea,decide_eq_true ew,zbd ln];rfl
 ·have ew:(PG.aB pr.body)[i].wd≠.ask:=by simpa using e
  refine rest H n .b9 0 (.refl _ _) wo (fun z=>absurd z ew) hn ?_;rw[ea,decide_eq_false ew];rfl
theorem GO:∀sm:PG.bX,¬jZ sm.wd=zab "end":=fun sm=>by cases sm<;>(simp only[PG.bX.wd];decide +kernel)
theorem xw(T:Tx K mg t):bz P w K mg base de 7 t.gZ t.iL ["chart", "standing"] (JT K t.aE):=by
 have iE:=mh (P:=P) (w:=w) (base:=base) T;have oO:=w8 (P:=P) (w:=w) (base:=base) T;refine T.fT.F.mB pI (fun vs H Q E h=>?_) (fun dY A outer s H vs Q E hr h=>?_)
 ·obtain⟨_,_,_,_,rfl,_⟩:=h;rfl
 obtain⟨ch,sa,pr,st,rfl,co,dr,nZ,si,q⟩:=h;have nd:=pI.nd;obtain⟨Kk,w9,xb⟩:=T.uX;refine⟨_,[some (.ref ch),some (.ref sa),none,none],(ag (eE 2 nd (dC iE T.iD hr (a8 0 (ai (aK aV (pv 1) ao ax) ae bq))))
 (ag (bh (aD cf (pv 2) aY (aP _))
 (aq (aJ (bg ae)))
 aQ)
 (ag (bh (aD cf (pv 2) aY (aP _))
 (aq (aJ (iI (own:=["figure"]) (ix:=[0,1]) rfl (by rfl) (by rfl) (eJ rfl T.gD (ai (k0 rfl w9 xb) ae lE)) (fun _ _ _ _=>(gA (i:=0) (by show List.Nodup (["figure", "chart", "standing"]:List Str);decide +kernel) rfl (zbz rfl))) (fun _ _ _ _=>iH) (fun _ _ _ _=>(aK (j3 (K:=K) rfl) (dC oO T.jL hr (a8 1 (a8 2 (a8 0 ae)))) ao ax)))))
 aQ)
 (ag (eE 3 nd (aK aV (dC oO T.jL hr (a8 0 (a8 1 (ai dQ ae aH)))) ao ax))
 (ag (bh (aD yW (pv 3) dQ (aP _))
 (aq (aJ (bg ae)))
 aQ)
 (aq (aJ (bg (a8 3 ae))))))))),rfl,?_⟩
 obtain⟨row,vals⟩:=st;obtain⟨va,yv,yU⟩:=id nZ;refine aw fun U1 fM=>?_;walk_at "rd";refine aN yv (v:=.int row) (ay (j:=0) rfl) ?_;rcases si.ok.row with h0 |⟨i,hi,er⟩
 ·replace h0:row=0:=h0;subst h0;refine⟨ch,pr,0,rfl,co,dr.ok.pw,.inl ⟨rfl,(fM _ _).mpr ?_⟩⟩;refine aw fun U2 ig=>?_;walk_at "rd";exact(if_pos trivial).mpr fun L hL=>q L _ _ (au.new hL _) hL ah .nil
 replace er:(PG.aB pr.body)[i].row=row:=er;subst er;have WX:(PG.aB pr.body)[i].row≠0:=by have:=dr.ok.pos _ (zat hi);lia
 obtain⟨hf,ek,ew⟩:=nF pr.body i hi;obtain⟨w0,w1⟩:=PG.iy pr.body 0 _ (zat hf);rw[ew] at w1;obtain⟨po,so⟩:=Dv si.ok.len dr.ok.nb si.ok.small (PG.jx pr.body _ dr.own (zat hi));have bp:∀b∈pr.aA,0<b.size:=fun b hb=>by have:=dr.size b hb;lia
 have ea:gE pr.body (PG.aB pr.body)[i].row=decide ((PG.aB pr.body)[i].wd=.ask):=by unfold gE;rw[lO dr.ok.pw i hi]
 have es:∀f,cm pr (PG.aB pr.body)[i].row vals f=mD pr.aA (PG.aB pr.body)[i] (PG.aL pr.body 0)[i].2.2 vals f:=fun f=>by unfold cm;rw[lO dr.ok.pw i hi,zy dr.ok.pw i hi hf]
 unfold c5 at q;simp only[if_neg WX,ea,decide_eq_true_eq] at q;refine⟨ch,pr,_,rfl,co,dr.ok.pw,.inr ⟨WX,i,hi,rfl,(fM _ _).mpr (aw fun U2 ig=>?_)⟩⟩;clear fM;walk_at "rd";refine(if_neg (GO _)).mpr ((ig _ _).mpr (aw fun U3 jF=>?_));clear ig;walk_at "rd";refine cA (fun e=>?_) (fun e=>(jF _ _).mpr ?_)
 ·have e:=(DP _).mp e;simp only[e,if_true] at q;simp only[j0];walk_at "rd";refine⟨10,rfl,by decide,by decide,fun D hD=>?_⟩;refine BG (J:=Ei 0 10) (fun τ=>∃x,τ=[x,some (.ref ch),some (.ref sa)]) ((zaJ 10).map fun f=>V.int (f:Nat)) (fun j ys H2=>au H H2/\jq K H2 ((zaJ j).map fun f=>((cm pr (PG.aB pr.body)[i].row vals (f:Nat)).1.getD ((PG.aB pr.body)[i].row,vals))) ys) ?_ ?_ ?_ (by simp) hD ⟨none,rfl⟩ ⟨au.new hD _,.nil⟩ ?_ ?_
  ·intro j H2 _ hj;show j<10;simpa using hj
  ·intro H2 _;show 10<=_;simp
  ·intro j H2 x H3 _ hj hy;have lj:j<10:=by simpa using hj
   obtain⟨rfl,rfl⟩:=hy;exact⟨rfl,by simp[lj]⟩
  ·rintro j x ys τ H2 hx ⟨x0,rfl⟩ s2 yD ly ⟨_,sy⟩ R hR
   have lj:j<10:=by have:=(zam.mp hx).1;simpa using this
   have hx:x=.int (j:Nat):=by simpa[lj] using hx.symm
   subst hx;walk_at "rd";refine⟨ch,sa,_,pr,vals,(j:Nat),i,hi,hf,rfl,co.mono s2,dr.ok,bp,nZ.mono s2,si.ok.len,fun _=>rfl,po,w0,w1,fun q1 sv H3 s3 k1 o1=>?_⟩;rw[<- es] at k1 o1;have hn:=wD (pr:=pr) (PG.aB pr.body)[i].row vals (j:Nat) (by rw[ea];exact decide_eq_true e);refine aN k1 (v:=sv) (ay (j:=0) rfl) (hR _ _ _ ⟨_,rfl⟩ s3 ⟨?_,?_⟩)
   ·exact(((aT.of (s2.trans s3)).put _).same hD)
   ·rw[zbL,zaw];cases ho:(cm pr (PG.aB pr.body)[i].row vals (j:Nat)).1 with
    |none=>exact absurd ho hn
    |some y=>
     rw[ho] at o1;obtain⟨ya,rfl,sty⟩:=o1;have yD3:=s3 _ _ yD;have z:=BJ (x:=y) (rK sy fun _ _ _ h=>h.mono s3) sty;simp only[zaq,zbl,ho,zcx];exact rK z fun _ _ _ h=>h.upL yD3 ((aT.refl D H3).put _)
  ·rintro ys H2 s2 yD ly ⟨_,sy⟩
   rw[zad,zba] at sy;exact q D ys H2 s2 hD yD sy
 ·have e:(PG.aB pr.body)[i].wd≠.ask:=fun z=>e ((DP _).mpr z);simp only[if_neg e] at q;walk_at "rd";refine⟨ch,sa,.b9,pr,vals,0,i,hi,hf,rfl,co,dr.ok,bp,nZ,si.ok.len,fun z=>absurd z e,po,w0,w1,fun q1 sv H2 s2 k1 o1=>?_⟩;rw[<- es] at k1 o1;refine aN k1 (v:=sv) (ay (j:=0) rfl) ?_;cases ho:(cm pr (PG.aB pr.body)[i].row vals 0).1 with
  |none=>
   rw[ho] at o1 q;exact(if_pos o1).mpr fun p hp=>q p _ _ (s2.trans (au.new hp _)) (s2.free hp) ah .nil
  |some x=>
   rw[ho] at o1 q;obtain⟨xa,rfl,xs⟩:=o1;exact(if_neg (by intro z;cases z)).mpr fun p hp=>q p _ _ (s2.trans (au.new hp _)) (s2.free hp) ah (.cons ⟨xa,rfl,xs.mono (au.new hp _)⟩ .nil)
theorem WY:rH "standing" "chart" (kO (gJ aG)):=⟨rfl,rfl,rfl,rfl,rfl,fun z h=>by
 have key:∀p∈(kO (gJ aG)).names,(p.2=.cell\/p.2=.free)->p.1 = "chart":=by decide +kernel
 rcases h with h |h
 ·exact key _ (PySem.mem_of_lookup h) (.inl rfl)
 ·exact key _ (PySem.mem_of_lookup h) (.inr rfl),by decide +kernel⟩
theorem DT(T:Tx K mg t):bz P w K mg base de 9 t.eO t.l7 ["place", "led_from", "figures", "found"] (Ph P w K t.aE (gJ aG) "first_inputs.<locals>.<lambda>"):=by
 have zZ:=xw (P:=P) (w:=w) (base:=base) T;refine T.kW.F.mB wU (fun vs H Q E h=>?_) (fun dY A outer s H vs Q E hr h=>?_)
 ·obtain⟨_,_,_,_,_,_,_,_,_,_,_,_,rfl,_⟩:=h;rfl
 obtain⟨Y2,fo,D,ga,cc,ch,kN,pr,s0,f0,g,SD,rfl,co,dr,WZ,si0,lam,hga,Uy,W0,nd0,Y3,su,q⟩:=h;have nd:=wU.nd;have hu:=ip hr;obtain⟨Lb,xx,xy⟩:=T.wZ;have wF:∀(u:zc9) (cc c':zc8) (pm uC:zc9),bindArgs (zcT "<lambda>" "first_inputs.<locals>.<lambda>" (DF (gJ aG)) (vp (gJ aG)) (kO (gJ aG)) [("chart",cc)] pm (.ref c') uC) ⟨[u],[]⟩=(pure [(("standing":Str),u)]:Sem (List (Str×zc9))):=fun _ _ _ _ _=>rfl;have qR:∀(fo cc c':zc8) (s':zdi) (H':Hp),PE (BH de P w K mg base ["standing", "chart"] "first_inputs.<locals>.<lambda>" (kO (gJ aG)) fo (.ref c') [("chart",cc)] (lA de P w K mg base ["place", "led_from", "figures", "found", "led"] "gone_on" (az gK) t.eO dY A outer s H E).CI.A (lA de P w K mg base ["place", "led_from", "figures", "found", "led"] "gone_on" (az gK) t.eO dY A outer s H E).CI.stack s' H' E0) (vp (gJ aG)) (A2 (JT K t.aE) [] E0 (vI (eW 1) (vI (eW 0) HF))):=by
  intro fo cc c' s' H';exact Er zZ (hr.deeper _) rfl T.fT.m T.fT.F.kp T.fT.b .nil pj (ai (pv 1) (ai (pv 0) ae lE) lE)
 have Lv:∀pins σ (H':Hp) (s':zdi) e FJ a o,Inv (lA de P w K mg base ["place", "led_from", "figures", "found", "led"] "gone_on" (az gK) t.eO dY A outer s H E).CI pins σ H' s'->H' a=some (fQ a o)->de (lA de P w K mg base ["place", "led_from", "figures", "found", "led"] "gone_on" (az gK) t.eO dY A outer s H E).CI.stack (wo H' a) s' E0 e FJ->(lA de P w K mg base ["place", "led_from", "figures", "found", "led"] "gone_on" (az gK) t.eO dY A outer s H E).CI.xe e FJ:=fun _ _ _ _ _ _ _ _ _ _ h=>h.elim;refine⟨_,[some (.ref Y2),some (.ref fo),some (.ref ga),some (.ref D),none],(ag (qN PassesOwn.never (aD (Gr (J:=qI) (Mf hr)) (pv 0) (pv 3) rfl)
 (ag (bh (aD cf (bB (Gv (J:=qI)) rfl T.eV PyProof.Rows.Boot.«len» (a8 3 ae)) (k0 rfl xx xy) (aP _))
 (aq Hn)
 aQ)
 (ag (wC (J:=qI) (Mf hr) (pv 3) (pv 0) (pv 2) rfl)
 (ag (eE 4 nd (JM (CX:=de) (E:=E0) (x:="standing") (y:="chart") (name:="<lambda>") (qual:="first_inputs.<locals>.<lambda>") (params:=DF (gJ aG)) (body:=vp (gJ aG)) (scope:=kO (gJ aG)) (tb:=A2 (JT K t.aE) [] E0 (vI (eW 1) (vI (eW 0) HF))) (k:=7) (hr.mono (by first|decide|omega)) WY (pv 1) (a8 0 ae) Lv wF qR))
 (ag (bh (aD Rw (bB aZ rfl T.eV PyProof.Rows.Boot.«len» (a8 4 ae)) ao (aP _))
 (aq (aJ (bg (ai (a7 (a8 2 (a8 4 ae))) ae ff))))
 aQ)
 (aq (eE 0 nd (aK bJ (pv 4) ao ax))))))))
 (aq (aJ (bg ae)))),rfl,?_⟩
 have line:zdg=2 ^ 24:=rfl;refine aw fun U2 ig=>?_;refine Dx fun Bd NK=>?_;walk_at "rd";obtain⟨φ0,Y4⟩:=Uy.qr;obtain⟨Iv,MF,PL⟩:=J9 fun (m:Nat) (σ:St) (Hx:Hp) zq=>∀(sa:zc8) (s':PG.bM) (f:jd) (aC:List (qo×V)) (z:Option V) (k:Nat),σ=[some (.ref sa),some (.ref fo),some (.ref ga),some (.ref D),z]->aT D H Hx->DS qI P w K Hx D aC->gX K Hx f aC->cx K Hx sa s'.1 s'.2->cZ pr s'->(f.map (·.1)).Nodup->(∀x∈f,cZ pr x.1)->mE (c5 pr) (ba pr+1) f0 s0 g=mE (c5 pr) (ba pr+1-k) f s' g->k<=f.length->m=ba pr-f.length->zq;refine⟨Iv,⟨_,(MF _ _ _ fun _ zk=>zk Y2 s0 f0 SD none 0 rfl (.refl _ _) Uy W0 WZ si0 nd0 Y3 rfl (zaU _) rfl)⟩,?_⟩;intro m σ Hx hv;refine PL _ _ _ hv _ fun sa s' f aC z k xA ux ds fa nZ si QG fi eg hk xB=>?_;subst xA;subst xB;clear hv;have abO:f.length<=ba pr:=by
  have:=gW QG (fun x hx=>by obtain⟨y,hy,rfl⟩:=zaF.mp hx;exact fi y hy)
  rwa [zad] at this
 obtain⟨n,en⟩:∃n,ba pr+1-k=n+1:=⟨ba pr-k,by lia⟩
 rw[en] at eg;walk_at "rd";refine⟨D,sa,aC,qp s',rfl,rfl,ds,E3 nZ,?_⟩;rw[fa.WE s'];by_cases hx:s'∈f.map (·.1)
 ·refine(if_neg (by rw[decide_eq_true hx];decide)).mpr ((ig _ _).mpr ?_);walk_at "rd";intro L hL;have e2:mE (c5 pr) (n+1) f s' g=(f,none):=by rw[mE,if_pos hx]
  rw[eg,e2] at q;obtain⟨φx,QU⟩:=ds.qr;have nLD:L≠D:=(aj QU hL).symm;have hL0:H L=none:=by
   cases y:H L with
   |none=>rfl
   |some o=>rw[ux L o nLD y] at hL;cases hL
  have sL:=au.new hL (.lst []);exact q L [] aC _ (ux.trans (.of sL)) hL0 ah (ds.mono sL) (fa.imp fun a xs h=>sL.cI h) rfl
 refine(if_pos (by rw[decide_eq_false hx];decide)).mpr ?_;have Y5:((f++[(s',g)]).map (·.1)).Nodup:=by
  rw[zaw];exact zbP.mpr ⟨QG,by simp,fun a ha b hb=>by rw[zaq,zbl,zag] at hb;rw[hb];exact fun y=>hx (by rw[<- show a=s' from y];exact ha)⟩
 have Y6:∀x∈f++[(s',g)],cZ pr x.1:=fun x hy=>by
  rcases zao.mp hy with hy |hy
  ·exact fi x hy
  ·rw[zag.mp hy];exact si
 have abR:(f++[(s',g)]).length<=ba pr:=by
  have:=gW Y5 (fun x hx=>by obtain⟨y,hy,rfl⟩:=zaF.mp hx;exact Y6 y hy)
  rwa [zad] at this
 have l1:(f++[(s',g)]).length=f.length+1:=by simp
 refine⟨Iv (ba pr-(f++[(s',g)]).length),fun σ' H' h=>⟨_,by lia,h⟩,?_⟩;refine NK _ _ _ (aw fun V1 Cy=>?_);clear NK ig;have lk:=fa.len;walk_at "rd";refine⟨D,aC,rfl,ds,?_⟩;refine(if_neg (by lia)).mpr ((Cy _ _).mpr (aw fun V2 Fn=>?_));clear Cy;obtain⟨φx,QU⟩:=ds.qr;walk_at "rd";refine⟨D,sa,aC,qp s',rfl,rfl,ds,E3 nZ,by lia,fun H6 d6 e6=>(Fn _ _).mpr (aw fun V3 GP=>?_)⟩;clear Fn;obtain⟨φ',rfl⟩:=e6;have u6:aT D Hx (upd Hx D (.ext φ')):=(aT.refl _ _).put _;have Y7:(upd Hx D (.ext φ')) D=some (.ext φ'):=ah;have S0:=ux.trans u6;have S1:=nZ.ext QU u6;have W2:=(hga.nI Y4 ux).nI QU u6;have Y8:=(fa.imp fun a xs h=>h.nI QU u6).put hx W2;have co6:=(co.ext Y4 ux).ext QU u6;have S2:=lam.mono (JV S0);clear u6;generalize upd Hx D (.ext φ')=H6 at *;walk_at "rd";have g3:H6 cc=some (fQ cc kN):=by
  obtain⟨_,_,_,_,_,_,_,_,_,_,_,g3,_⟩:=S2;exact g3
 refine⟨.ref sa,fo,cc,kN,.ref ch,rfl,rfl,S2,ch,sa,pr,s',rfl,co6.ext g3 vt,dr,S1.ext g3 vt,si,fun l us H7 s7 hl yl Ux n7=>(GP _ _).mpr (aw fun V4 QV=>?_)⟩;clear GP;have S3:=Mp g3 s7;have nl:l≠cc:=fun y=>by rw[y,n7] at yl;cases yl
 have W4:(upd H7 cc (fQ cc kN)) l=some (.lst us):=by rw[av nl];exact yl
 have W5:H6 l=none:=by rw[dW nl] at hl;exact hl
 have PN:jq K (upd H7 cc (fQ cc kN)) (c5 pr s') us:=Ux.mono (au.new n7 _);generalize upd H7 cc (fQ cc kN)=H8 at *;have sV:=Ux.at.1;walk_at "rd";refine⟨l,us,rfl,.inl (.of W4),?_⟩;have ug:∀t1,c5 pr s'=[t1]->mE (c5 pr) (n+1) f s' g=mE (c5 pr) n (f++[(s',g)]) t1 g:=fun t1 e=>by
  rw[mE,if_neg hx];split
  ·rename_i t2 e2;rw[e] at e2;cases e2;rfl
  ·rename_i l2 e2;exact absurd e (e2 t1)
 have W6:(∀t1,c5 pr s'≠[t1])->mE (c5 pr) (n+1) f s' g=(f++[(s',g)],some (c5 pr s')):=fun e=>by
  rw[mE,if_neg hx];split
  ·rename_i t2 e2;exact absurd e2 (e t2)
  ·rfl
 have li:=rJ dr si;refine cA (fun e=>?_) (fun e=>fun p hp p1 ME=>?_)
 ·obtain⟨t1,et⟩:∃t1,c5 pr s'=[t1]:=zbN.mp (by lia);have ug:=ug t1 et;rw[et] at PN li;obtain⟨ls8,at8⟩:=PN.at
  obtain⟨ta,eta,W7⟩:=at8 0 t1 rfl;refine(QV _ _).mpr ?_;walk_at "rd";refine cN (.of W4) (v:=.ref ta) (ay eta) ((MF _ _ _ fun _ zk=>zk ta t1 (f++[(s',g)]) _ (some (.ref l)) (k+1) rfl (S0.trans (.of S3)) (d6.mono S3) (Y8.imp fun a xs h=>S3.cI h) W7 (li t1 (by simp)) Y5 Y6 ?_ (by lia) rfl));rw[eg,ug,show ba pr+1-(k+1)=n by lia]
 ·have W6:=W6 fun t1 z=>by rw[z] at sV;exact e (by rw[sV];rfl)
  rw[eg,W6] at q;have sp:=au.new hp (.tup [.ref ga,.ref l]);have yp:(upd H8 p (.tup [.ref ga,.ref l])) p=_:=ah;have Pg:=au.new ME (.lst [.ref p]);have sA:=S3.trans (sp.trans Pg);have e6:H6 p1=none:=(S3.trans sp).free ME;have n1:p1≠D:=(aj Y7 e6).symm;have h0:H p1=none:=by
   cases y:H p1 with
   |none=>rfl
   |some o=>rw[S0 p1 o n1 y] at e6;cases e6
  have W8:H l=none:=by
   cases y:H l with
   |none=>rfl
   |some o=>rw[S0 l o (aj Y7 W5).symm y] at W5;cases W5
  exact q p1 _ _ _ (S0.trans (.of sA)) h0 ah (d6.mono sA) (Y8.imp fun a xs h=>sA.cI h) ⟨p,l,us,rfl,.of (Pg _ _ yp),W8,Pg _ _ (sp _ _ W4),PN.mono (sp.trans Pg)⟩
theorem oP(T:Tx K mg t):bz P w K mg base de 1 t.du t.dw ["deck"] (tG K):=by
 refine T.aU.F.mB rO (fun vs H Q E h=>?_) (fun dY A outer s H vs Q E hr h=>?_)
 ·obtain⟨_,_,_,_,rfl,_⟩:=h;rfl
 obtain⟨D,S,sc,p,rfl,dk,hp,q⟩:=h;have nd:=rO.nd;refine⟨_,[some (V.ref D),none,none,none,none,none],(ag (eE 1 nd (aK bJ (pv 0) ao ax))
 (ag (yT (aW dE (pv 1) ao) (Oh (pv 0) ao set_list))
 (ag (eE 2 nd (bB (FD rfl) rfl T.Kh PyProof.Rows.Boot.«max» (ai ao (ai (bB aZ rfl T.eV PyProof.Rows.Boot.«len» (ai (aK bJ (pv 0) ao ax) ae bq)) ae bR) aH)))
 (ag (eE 3 nd ao)
 (ag (bh (aD (oC (ip hr)) (aK bJ (pv 0) ao ax) (bg ae) (aP _))
 (aq (eE 3 nd (aK bJ (aK bJ (pv 0) ao ax) (aW bK (pv 1) (pv 2)) ko)))
 aQ)
 (ag (bh (aD Rx (pv 3) (aW Oq ao ao) (aP _))
 (ag (eS PassesOwn.never rfl (eJ rfl T.gD (ai (bB (xZ rfl) rfl T.Fg PyProof.Rows.Boot.«min» (ai ao (ai (aW vd (pv 1) (pv 2)) ae iu) aH)) ae bR)) (pH 4 nd)
 (aq (eE 3 nd (aW vd (pv 3) ao))))
 (aq (aJ (aW bK (pv 3) ao))))
 aQ)
 (ag (eE 5 nd (aW bK (aW dE (aW dE (aW bK (pv 3) ao) (aW qf (aW qf ao (aW dE (pv 1) ao)) (aW dE (pv 1) ao))) ao) ao))
 (ag (eE 5 nd (aW bK (aW qf (pv 5) (pv 5)) ao))
 (ag (eE 5 nd (aW bK (aW dE (aW dE (aW qf (pv 5) ao) (aW qf ao (pv 1))) ao) ao))
 (aq (aJ (aW vd (aW bK (aW qf (pv 5) (pv 5)) ao) ao)))))))))))),rfl,?_⟩
 have line:zdg=2 ^ 24:=rfl;refine aw fun U1 fM=>?_;walk_at "rd";refine cN (.of dk.a9) (ay (j:=1) rfl) ((fM _ _).mpr (aw fun U2 ig=>?_));clear fM;walk_at "rd";refine⟨D,_,1,1,rfl,rfl,dk.a9,rfl,?_⟩;have u1:aT D H (upd H D (.lst [.ref S,.int (p+1)])):=(aT.refl D H).put _;have d1:(upd H D (.lst [.ref S,.int (p+1)])) D=some (.lst [.ref S,.int (p+1)]):=ah;show U2 _ (upd H D (.lst [.ref S,.int (p+1)]));generalize upd H D (.lst [.ref S,.int (p+1)])=H1 at *;have UI:=u1 _ _ dk.ne dk.da;refine(ig _ _).mpr (aw fun U3 jF=>?_);clear ig;walk_at "rd";refine cN (.of d1) (ay (j:=0) rfl) ⟨S,_,rfl,.inl (.of UI),1,_,rfl,?_⟩;rw[zad];have em:(if (sc.length:Int)>1 then (sc.length:Int) else 1)=((max 1 sc.length:Nat):Int):=by split<;>lia
 rw[em];have m1:1<=max 1 sc.length:=by lia
 refine(jF _ _).mpr (aw fun U4 mQ=>?_);clear jF;walk_at "rd";refine(mQ _ _).mpr (aw fun U5 AN=>?_);clear mQ;have rest:∀H2,au H1 H2->U5 [some (V.ref D),some (V.int p),some (V.int ((max 1 sc.length:Nat):Int)),some (V.int (if sc=[] then 0 else sc.getD (p%max 1 sc.length) 0)),none,none] H2:=by
  intro H2 s2;have fin:Q (V.int (PG.next sc p)) H2:=q H2 (u1.trans (.of s2)) ⟨s2 _ _ d1,s2 _ _ UI,dk.ne,dk.len⟩;unfold PG.next at fin;simp only at fin;have mle:max 1 sc.length<=63:=by have:=dk.len;lia
  generalize (if sc=[] then 0 else sc.getD (p%max 1 sc.length) 0)=cell at *;generalize max 1 sc.length=m at *;refine(AN _ _).mpr (aw fun U6 GJ=>?_);walk_at "rd";have e18:(10:Int) ^ Int.toNat 18=10 ^ 18:=rfl;have p18:Rv 10 18:=⟨by decide,by decide,by decide⟩
  rw[e18];refine⟨p18,cA (fun hc=>?_) (fun hc=>?_)⟩
  ·rw[if_pos hc] at fin;refine kF fun U hU=>?_;walk_at "rd";have ed:(p:Int)/(m:Int)=((p/m:Nat):Int):=(Int.natCast_ediv p m).symm;have e60:(if (p:Int)/(m:Int)<60 then (p:Int)/(m:Int) else 60)=((min 60 (p/m):Nat):Int):=by
    rw[ed];split<;>lia
   have b60:min 60 (p/m)<=60:=Nat.min_le_left _ _;refine⟨⟨by lia,by lia⟩,_,_,rfl,_,rfl,?_⟩;rw[e60];generalize min 60 (p/m)=N at *;refine⟨by lia,by lia,hU _ _ ?_⟩;rw[zbh];refine jG (lo:=0) (n:=N) (fun i σ H3=>H3=H2/\∃(c:Int) (a:Option V),σ=[some (V.ref D),some (V.int p),some (V.int m),some (V.int c),a,none]/\PG.Bg (N-i) c=PG.Bg N cell) ⟨rfl,cell,none,rfl,rfl⟩ ?_ ?_
   ·rintro i σ H3 hi ⟨rfl,c,a,rfl,e⟩
    rw[zcg];walk_at "rd";refine⟨_,_,rfl,?_⟩;rw[<- e,show N-i=(N-(i+1))+1 by lia,PG.Bg]
   ·rintro σ H3 ⟨rfl,c,a,rfl,e⟩
    rw[Nat.sub_self,PG.Bg] at e;walk_at "rd";rw[e];exact fin
  ·rw[if_neg hc] at fin;refine(GJ _ _).mpr ?_;clear AN GJ;walk_at "rd";have b1:=zaI (cell%2147483629+51437*((p:Int)+1)*((p:Int)+3)+1409) (show (2147483629:Int)≠0 by decide);have b2:=zaE (cell%2147483629+51437*((p:Int)+1)*((p:Int)+3)+1409) (show (0:Int)<2147483629 by decide);refine⟨mulL (by decide) (by decide),mulR (by lia) (by lia),?_⟩;generalize (cell%2147483629+51437*((p:Int)+1)*((p:Int)+3)+1409)%2147483629=x at *;refine⟨mulL (by lia) (by lia),mulR (by decide) (by decide),mulL (by decide) (by decide),?_⟩;have c1:=zaI (x*x%2147483587*69621+401*(p:Int)+7) (show (2147483579:Int)≠0 by decide);have c2:=zaE (x*x%2147483587*69621+401*(p:Int)+7) (show (0:Int)<2147483579 by decide);generalize (x*x%2147483587*69621+401*(p:Int)+7)%2147483579=y at *;exact⟨mulL (by lia) (by lia),fin⟩
 walk_at "rd";refine cN (.of d1) (ay (j:=0) rfl) fun p1 ME=>?_;have s2:=au.new ME (.lst []);have d2:=s2 _ _ d1;refine⟨S,p1,_,rfl,rfl,.of (s2 _ _ UI),.of ah,?_⟩;have sc2:=s2 _ _ UI;generalize upd H1 p1 (.lst [])=H2 at *;have rs:=rest H2 s2;cases sc with
 |nil=>exact rs
 |cons c r=>
  rw[if_neg (by simp)] at rs;refine(if_pos rfl).mpr (cN (.of d2) (ay (j:=0) rfl) ⟨by lia,?_⟩);have lt:p%max 1 (c::r).length<(c::r).length:=by
   have:max 1 (c::r).length=(c::r).length:=by simp
   rw[this];exact Nat.mod_lt _ (by simp)
  refine cN (.of sc2) (Lz (f:=V.int) (xs:=c::r) 0 (by lia) (by lia)) ?_;have e:((p:Int)%((max 1 (c::r).length:Nat):Int)).toNat=p%max 1 (c::r).length:=by lia
  rw[e];exact rs
theorem W9(T:Tx K mg t){n:Nat}(gy:bz P w K mg base de (n+1) t.jV t.jK ["deck", "boxes", "deep"] (vZ K n)) :
 bz P w K mg base de (n+2) t.jV t.jK ["deck", "boxes", "deep"] (vZ K (n+1)):=by
 have aS:bz P w K mg base de 1 t.du t.dw ["deck"] (tG K):=oP T;refine T.fH.F.mB yH (fun vs H Q E h=>?_) (fun dY A outer s H vs Q E hr h=>?_)
 ·obtain⟨_,_,_,_,_,_,_,rfl,_⟩:=h;rfl
 obtain⟨D,S,B,sc,p,d,bs,rfl,hd,dk,hp,hb,q⟩:=h;have nd:=yH.nd;refine⟨_,[some (V.ref D),some (V.ref B),some (V.int d),none,none],(ag (eE 3 nd (aW bK (dC aS T.aU hr (a8 0 ae)) ao))
 (ag (bh (PW.pt (pw_and (aD Eo (pv 2) ao (aP _)) (pw_and1 (aD o9 (pv 3) ao (aP _)))))
 (ag (eE 4 nd (dC gy T.fH hr (a8 0 (a8 1 (ai (aW yV (pv 2) ao) ae iu)))))
 (aq (aJ (a7 (ai (aK CS aY (pv 3) zi) (a8 4 (ai (dC gy T.fH hr (a8 0 (a8 1 (ai (aW yV (pv 2) ao) ae iu)))) ae bR)) bq)))))
 aQ)
 (ag (bh (PW.pt (pw_and (aD (oC (ip hr)) (pv 1) (bg ae) (aP _)) (pw_and1 (aD o9 (pv 3) ao (aP _)))))
 (aq (aJ (a7 (ai aY (ai (aK aV (aK bJ (pv 1) (aW bK (dC aS T.aU hr (a8 0 ae)) (bB aZ rfl T.eV PyProof.Rows.Boot.«len» (a8 1 ae))) ko) ao ax) ae bq) aH))))
 aQ)
 (aq (aJ (a7 (ai aY (ai (aW bK (dC aS T.aU hr (a8 0 ae)) (aK bJ (bg (gH (vs:=[.int 3,.int 12,.int 1000]) (by kernel_rfl))) (aW bK (dC aS T.aU hr (a8 0 ae)) ao) ko)) ae iu) aH))))))),rfl,?_⟩
 have line:zdg=2 ^ 24:=rfl;have pw:1<=2 ^ d:=zbY;refine aw fun U1 fM=>?_;walk_at "rd";refine⟨D,S,sc,p,rfl,dk,by lia,fun H1 u1 B4=>?_⟩;walk_at "rd";refine(fM _ _).mpr (aw fun U2 ig=>?_);clear fM;have NL:H D≠none:=by rw[dk.a9];simp
 have UB:H1 D≠none:=by rw[B4.a9];simp
 have Nv:=hb.up u1;obtain⟨n0,n1⟩:=PG.jg sc p;have DU:=u1.oR UB;walk_at "rd";have leaf:(d=0\/¬PG.next sc p%7<3)->U2 [some (V.ref D),some (V.ref B),some (V.int d),some (V.int (PG.next sc p%7)),none] H1:=by
  intro hl;have eg:PG.b7 sc bs d p=if bs≠[]/\PG.next sc p%7<5 then (.box (PG.pick ⟨[],0,0⟩ bs (PG.next sc (p+1)%bs.length)).name,p+2) else (.num (PG.next sc (p+1)%PG.pick 1 [3,12,1000] (PG.next sc (p+2)%3)),p+3):=by
   cases d with
   |zero=>rfl
   |succ d=>
    unfold PG.b7;simp only;rw[if_neg (hl.resolve_left (by lia))]
  refine(ig _ _).mpr (aw fun U3 jF=>?_);have num:¬(bs≠[]/\PG.next sc p%7<5)->∀H2,au H1 H2->U3 [some (V.ref D),some (V.ref B),some (V.int d),some (V.int (PG.next sc p%7)),none] H2:=by
   intro hn H2 s2;rw[if_neg hn] at eg;rw[eg] at q;refine(jF _ _).mpr ?_;walk_at "rd";refine⟨D,S,sc,p+1,rfl,B4.same s2,by lia,fun H3 u3 mJ p4 xr=>?_⟩;have sD:=mJ.same (au.new xr (.lst [.int 3,.int 12,.int 1000]));have h4:(upd H3 p4 (.lst [.int 3,.int 12,.int 1000])) p4=some (.lst [.int 3,.int 12,.int 1000]):=ah;have u4:=u3.new xr (.lst [.int 3,.int 12,.int 1000]);have n4:p4≠D:=(aj mJ.a9 xr).symm;generalize upd H3 p4 (.lst [.int 3,.int 12,.int 1000])=H4 at *;refine⟨D,S,sc,p+2,rfl,sD,by lia,fun H5 u5 xC=>?_⟩;obtain⟨m0,m1⟩:=PG.jg sc (p+2);have h5:=u5 _ _ n4 h4;have pk:∀i:Int,0<=i->i<3->xo [V.int 3,V.int 12,V.int 1000] i=some (V.int (PG.pick 1 [3,12,1000] i))/\(0:Int)<PG.pick 1 [3,12,1000] i:=fun i h0 h3=>by
    have z3:i=0\/i=1\/i=2:=by lia
    rcases z3 with rfl |rfl |rfl
    ·exact⟨ay (j:=0) rfl,by decide⟩
    ·exact⟨ay (j:=1) rfl,by decide⟩
    ·exact⟨ay (j:=2) rfl,by decide⟩
   obtain⟨k1,k2⟩:=pk (PG.next sc (p+2)%3) (by lia) (by lia);walk_at "rd";refine cN (.of h5) k1 ?_;walk_at "rd";refine⟨k2,fun p6 nX=>?_⟩;have u2:aT D H1 H2:=.of s2;refine q _ _ (((u1.trans (u2.trans u4)).trans u5).new nX _) (xC.same (au.new nX _)) ?_;refine jy nX ?_ (.cons .str (.cons .int .nil));exact fun b Xa=>(u5.oR (by rw[xC.a9];simp)) b ((u4.oR (by rw[sD.a9];simp)) b ((u2.oR (by rw[s2 _ _ B4.a9];simp)) b (DU b Xa)))
  walk_at "rd";intro p2 C0;have s2:=au.new C0 (.lst []);have sW:=Nv.same s2;have h2:(upd H1 p2 (.lst [])) p2=some (.lst []):=ah;have vy:=B4.same s2;generalize upd H1 p2 (.lst [])=H2 at *;obtain⟨xs,hx,lx,_⟩:=sW.list;refine⟨B,p2,xs,rfl,rfl,hx,.of h2,?_⟩;have em:xs.isEmpty=true↔bs=[]:=by
   rw[zcB,<- zaV,lx,zaV]
  by_cases vo:bs=[]
  ·have e1:=em.mpr vo;rw[e1,if_neg (by decide),if_neg zaf];exact num (fun z=>z.1 vo) H2 s2
  ·have e1:xs.isEmpty=false:=Bool.eq_false_iff.mpr fun z=>vo (em.mp z);rw[e1,if_pos (by decide)];refine cA (fun k5=>?_) (fun k5=>num (fun z=>k5 z.2) H2 s2);rw[if_pos ⟨vo,k5⟩] at eg;rw[eg] at q;refine⟨D,S,sc,p+1,rfl,vy,by lia,fun H3 u3 mJ=>?_⟩;have Kl:=sW.up u3;obtain⟨ys,hy,ly,_⟩:=Kl.list;refine⟨B,ys,rfl,.inl hy,?_⟩;rw[ly];have pos:0<bs.length:=zbc.mpr vo;walk_at "rd";refine⟨by lia,Kl.pick (zaI _ (by lia)) (zaE _ (by lia)) fun p4 xr=>?_⟩;have u2:aT D H1 H2:=.of s2;refine q _ _ (((u1.trans u2).trans u3).new xr _) (mJ.same (au.new xr _)) (jy xr ?_ (.cons .str (.cons .str .nil)));exact fun b Xa=>(u3.oR (by rw[mJ.a9];simp)) b ((u2.oR (by rw[vy.a9];simp)) b (DU b Xa))
 refine cA (fun d0=>cA (fun k3=>?_) (fun k3=>leaf (.inr k3))) (fun d0=>(if_neg zaf).mpr (leaf (.inl (by lia))));obtain⟨d,rfl⟩:∃e,d=e+1:=⟨d-1,by lia⟩
 have e1:((d+1:Nat):Int)-1=(d:Int):=by lia
 rw[e1];have e2:(2:Nat) ^ (d+1)=2*2 ^ d:=by rw[zcy];lia
 have one:1<=2 ^ d:=zbY;rw[e2] at hp;have eg:PG.b7 sc bs (d+1) p=(.bin (PG.pick [] [[43],[45],[42]] (PG.next sc p%7)) (PG.b7 sc bs d (p+1)).1 (PG.b7 sc bs d (PG.b7 sc bs d (p+1)).2).1,(PG.b7 sc bs d (PG.b7 sc bs d (p+1)).2).2):=by
  conv=>lhs;unfold PG.b7
  simp only;rw[if_pos k3]
 rw[eg] at q;obtain⟨g1,g2⟩:=PG.jf sc bs d (p+1);refine⟨D,S,B,sc,p+1,d,bs,rfl,by lia,B4,by lia,Nv,fun v2 H2 u2 vy o2=>?_⟩;have sW:=Nv.up u2;have sg:∀i:Int,0<=i->i<3->∃c,xo (zab "+-*").cps.toList i=some c/\V.str ⟨#[c]⟩=V.str (L2.S (PG.pick [] [[43],[45],[42]] i)):=fun i h0 h3=>by
  have z3:i=0\/i=1\/i=2:=by lia
  rcases z3 with rfl |rfl |rfl
  ·exact⟨43,ay (j:=0) (by decide +kernel),rfl⟩
  ·exact⟨45,ay (j:=1) (by decide +kernel),rfl⟩
  ·exact⟨42,ay (j:=2) (by decide +kernel),rfl⟩
 obtain⟨c,hc,ec⟩:=sg (PG.next sc p%7) (by lia) k3;refine⟨_,_,c,rfl,rfl,by decide,hc,?_⟩;rw[ec];refine⟨D,S,B,sc,_,d,bs,rfl,by lia,vy,by lia,sW,fun v3 H3 u3 mJ o3 p4 xr=>?_⟩;have Pr:H2 D≠none:=by rw[vy.a9];simp
 have QP:H3 D≠none:=by rw[mJ.a9];simp
 refine q _ _ (((u1.trans u2).trans u3).new xr _) (mJ.same (au.new xr _)) (jy xr ?_ (.cons .str (.cons ((o2.back DU).up u3 NL) (.cons (o3.back fun b z=>(u2.oR Pr) b (DU b z)) .nil))));exact fun b z=>(u3.oR QP) b ((u2.oR Pr) b (DU b z))
theorem Km(T:Tx K mg t):∀n,bz P w K mg base de (n+1) t.jV t.jK ["deck", "boxes", "deep"] (vZ K n)
 |0=>by
  have no:∀vs H Q E,¬vZ K 0 vs H Q E:=fun vs H Q E h=>by obtain⟨_,_,_,_,_,_,_,_,h,_⟩:=h;lia
  exact⟨fun vs H Q E h=>absurd h (no vs H Q E),fun A outer s H args us vs Q E _ _ _ _ h=>absurd h (no vs H Q E)⟩
 |n+1=>W9 T (Km T n)
theorem Kn(T:Tx K mg t):bz P w K mg base de 2 t.g9 t.iO ["deck"] (Dc K):=by
 have aS:bz P w K mg base de 1 t.du t.dw ["deck"] (tG K):=oP T;refine T.jA.F.mB pL (fun vs H Q E h=>?_) (fun dY A outer s H vs Q E hr h=>?_)
 ·obtain⟨_,_,_,_,rfl,_⟩:=h;rfl
 obtain⟨D,S,sc,p,rfl,dk,hp,q⟩:=h;have nd:=pL.nd;refine⟨_,[some (V.ref D),none,none,none,none],(ag (eE 1 nd (bg ae))
 (ag (eE 2 nd (aW bK (dC aS T.aU hr (a8 0 ae)) ao))
 (ag (eS PassesOwn.never rfl (eJ rfl T.gD (ai (aW bK (dC aS T.aU hr (a8 0 ae)) ao) ae iu)) (pH 3 nd)
 (ag (eE 4 nd (aW dE ao (aW bK (dC aS T.aU hr (a8 0 ae)) ao)))
 (aq (bP (gh zar zau zav bQ (pv 1) (ai (a7 (ai (aK bJ (bg (gH (vs:=[.str "c",.str "bb",.str "aaa",.str "boxes"]) (by kernel_rfl))) (aW yV (pv 3) (pv 2)) ko) (a8 4 (ai (aW bK (dC aS T.aU hr (a8 0 ae)) (pv 4)) ae iu)) bq)) ae ff))))))
 (aq (aJ (pv 1)))))),rfl,?_⟩
 have line:zdg=2 ^ 24:=rfl;refine aw fun U1 fM=>?_;walk_at "rd";intro B hB;have s1:=au.new hB (.lst []);have h1:(upd H B (.lst [])) B=some (.lst []):=ah;have B4:=dk.same s1;have nB:B≠D:=(aj dk.a9 hB).symm;have NL:H D≠none:=by rw[dk.a9];simp
 generalize upd H B (.lst [])=H1 at *;refine(fM _ _).mpr (aw fun U2 ig=>?_);clear fM;walk_at "rd";refine⟨D,S,sc,p,rfl,B4,by lia,fun H2 u2 vy=>?_⟩;walk_at "rd";refine(ig _ _).mpr (aw fun U3 jF=>?_);clear ig;have h2:=u2 _ _ nB h1;refine kF fun U hU=>?_;walk_at "rd";refine⟨D,S,sc,p+1,rfl,vy,by lia,fun H3 u3 mJ=>?_⟩;walk_at "rd";obtain⟨c0,c1⟩:=PG.jg sc (p+1);refine⟨_,rfl,by lia,by lia,hU _ _ ?_⟩;have h3:=u3 _ _ nB h2;have Cw:aT D H H3:=((aT.of s1).trans u2).trans u3;have GQ:∀b,H b≠none->H3 b≠none:=Cw.oR (by rw[mJ.a9];simp);generalize hN:(PG.next sc (p+1)%4).toNat=N at *;have N5:N<=4:=by lia
 clear hU;refine jG (lo:=0) (n:=N) (fun i σ H4=>∃(a b:Option V) (pi:Nat) (pre:List PG.fO) (xs:List V),σ=[some (V.ref D),some (V.ref B),some (V.int (PG.next sc p%4)),a,b]/\pi<=p+2+2*i/\eY K H4 D S sc pi/\H4 B=some (.lst xs)/\xs.length=i/\pre.length=i/\
  (PG.bo sc (PG.next sc p%4) N 0 (p+2)).1=pre++(PG.bo sc (PG.next sc p%4) (N-i) i pi).1/\(PG.bo sc (PG.next sc p%4) N 0 (p+2)).2=(PG.bo sc (PG.next sc p%4) (N-i) i pi).2/\
  kH K (fun b=>if b=B then some (.lst []) else H b) H4 (pre.map jm) xs/\(∀b o,b≠D->b≠B->H b=some o->H4 b=some o)) ?_ ?_ ?_
 ·exact⟨none,none,p+2,[],[],rfl,by lia,mJ,h3,rfl,rfl,rfl,rfl,kH.nil,fun b o n1 n2 e=>Cw b o n1 e⟩
 ·rintro i σ H4 hi ⟨a,b,pi,pre,xs,rfl,lp,sD,h4,lx,PQ,e1,e2,ow,kp⟩
  rw[zcg];refine aw fun U4 mQ=>?_;walk_at "rd";refine⟨D,S,sc,pi,rfl,sD,by lia,fun H7 u7 NM=>?_⟩;have h7:=u7 _ _ nB h4;walk_at "rd";refine(mQ _ _).mpr ?_;clear mQ;have z0:0<2+PG.next sc pi%3:=by lia
  have eN:N-i=(N-(i+1))+1:=by lia
  rw[eN,PG.bo] at e1 e2;simp only at e1 e2;generalize 2+PG.next sc pi%3=size at *;walk_at "rd";refine⟨.inl ⟨rfl,_,.of h7⟩,fun p8 K9=>?_⟩;have s8:=au.new K9 (.lst [V.str (zab "c"),V.str (zab "bb"),V.str (zab "aaa"),V.str (zab "boxes")]);have NN:=NM.same s8;have h8:=s8 _ _ h7;have Y9:0<=PG.next sc p%4/\PG.next sc p%4<4:=by lia
  have nm:∀(a:Nat) (b:Int),a<4->0<=b->b<4->xo [V.str (zab "c"),V.str (zab "bb"),V.str (zab "aaa"),V.str (zab "boxes")] ((a:Int)-b)=some (V.str (L2.S (PG.pick [] PG.c6 (((a:Int)-b)%4)))):=by
   intro a b ha NO Nv;obtain⟨c,rfl⟩:∃c:Nat,b=c:=⟨b.toNat,by lia⟩
   have key:∀a<4,∀c<4,xo [V.str (zab "c"),V.str (zab "bb"),V.str (zab "aaa"),V.str (zab "boxes")] (((a:Nat):Int)-((c:Nat):Int))=some (V.str (L2.S (PG.pick [] PG.c6 ((((a:Nat):Int)-((c:Nat):Int))%4)))):=by decide +kernel
   exact key a ha c (by lia)
  refine Ba (nm i _ (by lia) Y9.1 Y9.2) ?_;generalize upd H7 p8 (.lst [V.str (zab "c"),V.str (zab "bb"),V.str (zab "aaa"),V.str (zab "boxes")])=H8 at *;refine⟨D,S,sc,pi+1,rfl,NN,by lia,fun H9 u9 NP=>?_⟩;walk_at "rd";refine⟨z0,fun pa PR=>?_⟩;have h9:=u9 _ _ nB h8;have uD:aT D H4 H9:=u7.trans ((aT.of s8).trans u9);have Aa:=NP.same (au.new PR (.tup [V.str (L2.S (PG.pick [] PG.c6 (((i:Int)-PG.next sc p%4)%4))),V.int size,V.int (PG.next sc (pi+1)%size)]));have Gj:=au.new PR (.tup [V.str (L2.S (PG.pick [] PG.c6 (((i:Int)-PG.next sc p%4)%4))),V.int size,V.int (PG.next sc (pi+1)%size)]) _ _ h9;have Xb:∀b,(fun b=>if b=B then some (HO.lst []) else H b) b≠none->H9 b≠none:=fun b hb=>by
   by_cases eb:b=B
   ·rw[eb,h9];simp
   ·have RZ:H b≠none:=by simpa[eb] using hb
    by_cases ed:b=D
    ·rw[ed,NP.a9];simp
    ·cases z:H b with
     |none=>exact absurd z RZ
     |some o=>rw[uD b o ed (kp b o ed eb z)];simp
  have PU:(fun b=>if b=B then some (HO.lst []) else H b) D≠none:=by simp[nB.symm];exact NL
  have nt:=jy (K:=K) PR Xb (.cons (.str (x:=L2.S (PG.pick [] PG.c6 (((i:Int)-PG.next sc p%4)%4)))) (.cons (.int (i:=size)) (.cons (.int (i:=PG.next sc (pi+1)%size)) .nil)));have ow9:kH K (fun b=>if b=B then some (HO.lst []) else H b) H9 (pre.map jm) xs:=ow.up uD PU;have PV:=ow9.same (au.new PR (.tup [V.str (L2.S (PG.pick [] PG.c6 (((i:Int)-PG.next sc p%4)%4))),V.int size,V.int (PG.next sc (pi+1)%size)]));have Ko:∀b o,b≠D->b≠B->H b=some o->(upd H9 pa (.tup [V.str (L2.S (PG.pick [] PG.c6 (((i:Int)-PG.next sc p%4)%4))),V.int size,V.int (PG.next sc (pi+1)%size)])) b=some o:=fun b o n1 n2 e=>au.new PR _ _ _ (uD b o n1 (kp b o n1 n2 e));generalize upd H9 pa (.tup [V.str (L2.S (PG.pick [] PG.c6 (((i:Int)-PG.next sc p%4)%4))),V.int size,V.int (PG.next sc (pi+1)%size)])=nY at *;refine⟨B,xs,_,rfl,rfl,Gj,by lia,?_⟩;refine⟨_,_,pi+2,pre++[⟨PG.pick [] PG.c6 (((i:Int)-PG.next sc p%4)%4),size,PG.next sc (pi+1)%size⟩],xs++[V.ref pa],rfl,by lia,?_,ah,by simp[lx],by simp[PQ],?_,e2,?_,?_⟩
  ·have nS:S≠B:=aj dk.da hB;exact⟨by rw[av nB.symm];exact Aa.a9,by rw[av nS];exact Aa.da,Aa.ne,Aa.len⟩
  ·rw[e1];simp
  ·rw[zaw];exact OU Gj (PV.snoc nt) (by simp)
  ·intro b o n1 n2 e;rw[av n2];exact Ko b o n1 n2 e
 ·rintro σ H4 ⟨a,b,pi,pre,xs,rfl,lp,sD,h4,lx,PQ,e1,e2,ow,kp⟩
  refine(jF _ _).mpr ?_;walk_at "rd";rw[Nat.sub_self,PG.bo] at e1 e2;simp only[zaC] at e1 e2;refine q B H4 (fun b o n1 e=>?_) (by rw[e2];exact sD) hB (fun O hO=>?_)
  ·by_cases eb:b=B
   ·rw[eb,hB] at e;cases e
   ·exact kp b o n1 eb e
  ·rw[e1];refine Fix.lst h4 (fun z=>hO B z hB) (ow O fun b hb=>?_);by_cases eb:b=B
   ·simp[eb]
   ·simp[eb];exact hO b hb
theorem Kq(T:Tx K mg t):bz P w K mg base de 5 t.hC t.iP ["deck", "boxes", "k"] (Dd K):=by
 have aS:bz P w K mg base de 1 t.du t.dw ["deck"] (tG K):=oP T;have gy:=Km (P:=P) (w:=w) (base:=base) T 3;refine T.jB.F.mB pM (fun vs H Q E h=>?_) (fun dY A outer s H vs Q E hr h=>?_)
 ·obtain⟨_,_,_,_,_,_,_,rfl,_⟩:=h;rfl
 obtain⟨D,S,B,sc,p,k,bs,rfl,dk,hp,hb,q⟩:=h;have nd:=pM.nd;refine⟨_,[some (V.ref D),some (V.ref B),some (V.int k),none,none],(ag (eE 3 nd (aW bK (dC aS T.aU hr (a8 0 ae)) ao))
 (ag (bh (PW.pt (pw_and (aD (oC (ip hr)) (pv 1) (bg ae) (aP _)) (pw_and1 (aD o9 (pv 3) ao (aP _)))))
 (aq (aJ (a7 (ai aY (a8 2 (ai (aK aV (aK bJ (pv 1) (aW bK (dC aS T.aU hr (a8 0 ae)) (bB aZ rfl T.eV PyProof.Rows.Boot.«len» (a8 1 ae))) ko) ao ax) ae bq)) aH))))
 aQ)
 (ag (bh (PW.pt (pw_and (aD (oC (ip hr)) (pv 1) (bg ae) (aP _)) (pw_and1 (aD o9 (pv 3) ao (aP _)))))
 (aq (aJ (a7 (ai aY (a8 2 (ai (aK aV (aK bJ (pv 1) (aW bK (dC aS T.aU hr (a8 0 ae)) (bB aZ rfl T.eV PyProof.Rows.Boot.«len» (a8 1 ae))) ko) ao ax) (ai (dC gy T.fH hr (a8 0 (a8 1 (ai ao ae aH)))) ae bR) bq)) aH))))
 aQ)
 (ag (bh (aD cf (pv 3) ao (aP _))
 (ag (eE 4 nd (aK CS aY (aW bK (dC aS T.aU hr (a8 0 ae)) ao) ko))
 (aq (aJ (a7 (ai aY (a8 2 (a8 4 (ai (dC gy T.fH hr (a8 0 (a8 1 (ai ao ae aH)))) (ai (dC gy T.fH hr (a8 0 (a8 1 (ai ao ae aH)))) ae bR) bR))) aH)))))
 aQ)
 (ag (bh (PW.pt (pw_and (aD cf (pv 3) ao (aP _)) (pw_and1 (aD cf (aW bK (dC aS T.aU hr (a8 0 ae)) ao) ao (aP _)))))
 (aq (aJ (a7 (ai aY (a8 2 ae) aH))))
 aQ)
 (aq (aJ (a7 (ai aY (a8 2 (ai (dC gy T.fH hr (a8 0 (a8 1 (ai ao ae aH)))) ae bR)) aH))))))))),rfl,?_⟩
 have line:zdg=2 ^ 24:=rfl;refine aw fun U1 fM=>?_;walk_at "rd";refine⟨D,S,sc,p,rfl,dk,by lia,fun H1 u1 B4=>?_⟩;walk_at "rd";refine(fM _ _).mpr (aw fun U2 ig=>?_);clear fM;have NL:H D≠none:=by rw[dk.a9];simp
 obtain⟨n0,n1⟩:=PG.jg sc p;have DU:=u1.oR (by rw[B4.a9];simp);have Nv:=hb.up u1;have eg:=PG.m9 sc bs k p;generalize hkd:PG.next sc p%10=kd at *;have say:∀(H2:Hp) (p2:Nat),PG.bC sc bs k p=(.say k (PG.b7 sc bs 2 p2).1,(PG.b7 sc bs 2 p2).2)->p2<=p+2->aT D H H2->eY K H2 D S sc p2->jn K (·=D) H2 B bs->
  vZ K 3 [V.ref D,V.ref B,V.int 2] H2 (fun x H3=>∀p4,H3 p4=none->Q (V.ref p4) (upd H3 p4 (.tup [V.str (zab "say"),V.int k,x]))) E0:=by
  intro H2 p2 e C0 u2 vy sW;rw[e] at q;obtain⟨g1,g2⟩:=PG.jf sc bs 2 p2;refine⟨D,S,B,sc,p2,2,bs,rfl,by lia,vy,by lia,sW,fun v H3 u3 mJ o3 p4 xr=>?_⟩;have Pr:H2 D≠none:=by rw[vy.a9];simp
  have QP:H3 D≠none:=by rw[mJ.a9];simp
  refine q _ _ ((u2.trans u3).new xr _) (mJ.same (au.new xr _)) (jy xr (fun b z=>(u3.oR QP) b ((u2.oR Pr) b z)) (.cons .str (.cons .int (.cons (o3.back (u2.oR Pr)) .nil))))
 walk_at "rd";intro p2 C0;have s2:=au.new C0 (.lst []);have sW:=Nv.same s2;have h2:(upd H1 p2 (.lst [])) p2=some (.lst []):=ah;have vy:=B4.same s2;generalize upd H1 p2 (.lst [])=H2 at *;obtain⟨xs,hx,lx,_⟩:=sW.list;refine⟨B,p2,xs,rfl,rfl,hx,.of h2,?_⟩;have em:xs.isEmpty=decide (bs=[]):=by
  rw[zbJ,zcB,decide_eq_true_eq,<- zaV,lx,zaV]
 rw[em];have u2:aT D H1 H2:=.of s2;have Xc:=u2.oR (by rw[vy.a9];simp);have box:∀(H3:Hp) (p3:Nat) (R:VK),eY K H3 D S sc p3->p3<=99000->jn K (·=D) H3 B bs->bs≠[]->(∀H4,aT D H3 H4->eY K H4 D S sc (p3+1)->jn K (·=D) H4 B bs->R (V.str (L2.S (PG.pick ⟨[],0,0⟩ bs (PG.next sc p3%bs.length)).name)) H4)->
  tG K [V.ref D] H3 (fun x H1=>∃p ys,[V.ref B]=[V.ref p]/\(gM K H1 p ys\/cu K H1 p ys)/\rI (fun x j=>0<j) (fun i j=>V.int (i%j)) x (V.int (ys.length:Nat)) H1 fun y H2=>FN K (V.ref B) y H2 fun x H1=>HN K x (V.int 0) H1 R) E0:=by
  intro H3 p3 R mJ l3 Kl vo hR;refine⟨D,S,sc,p3,rfl,mJ,by lia,fun H4 u4 sD=>?_⟩;have MG:=Kl.up u4;obtain⟨ys,hy,ly,_⟩:=MG.list;refine⟨B,ys,rfl,.inl hy,?_⟩;rw[ly];have pos:0<bs.length:=zbc.mpr vo;walk_at "rd";exact⟨by lia,MG.pick (zaI _ (by lia)) (zaE _ (by lia)) (hR H4 u4 sD MG)⟩
 have QW:=u1.trans u2;have NQ:¬(bs≠[]/\kd<3)->U2 [some (V.ref D),some (V.ref B),some (V.int k),some (V.int kd),none] H2:=by
  intro hn;rw[if_neg hn] at eg;refine(ig _ _).mpr (aw fun U3 jF=>?_);have NR:¬(bs≠[]/\kd<6)->∀H3,au H2 H3->U3 [some (V.ref D),some (V.ref B),some (V.int k),some (V.int kd),none] H3:=by
   intro HC H3 s3;rw[if_neg HC] at eg;have u3:aT D H H3:=QW.trans (.of s3);have mJ:=vy.same s3;have Kl:=sW.same s3;have GQ:=u3.oR (by rw[mJ.a9];simp);refine(jF _ _).mpr (aw fun U4 mQ=>?_);walk_at "rd";refine cA (fun k6=>?_) (fun k6=>(mQ _ _).mpr (aw fun U5 AN=>?_))
   ·rw[if_pos k6] at eg;rw[eg] at q;refine⟨D,S,sc,p+1,rfl,mJ,by lia,fun H4 u4 sD=>?_⟩;walk_at "rd";obtain⟨m0,m1⟩:=PG.jg sc (p+1);have sg:∀i:Int,0<=i->i<2->∃c,xo (zab "<=").cps.toList i=some c/\V.str ⟨#[c]⟩=V.str (L2.S (PG.pick [] PG.Cs i)):=fun i h0 h3=>by
     have z3:i=0\/i=1:=by lia
     rcases z3 with rfl |rfl
     ·exact⟨60,ay (j:=0) (by decide +kernel),rfl⟩
     ·exact⟨61,ay (j:=1) (by decide +kernel),rfl⟩
    obtain⟨c,hc,ec⟩:=sg (PG.next sc (p+1)%2) (by lia) (by lia);refine⟨_,_,c,rfl,rfl,by decide,hc,?_⟩;rw[ec];have MG:=Kl.up u4;have B5:=u4.oR (by rw[sD.a9];simp);obtain⟨g1,g2⟩:=PG.jf sc bs 1 (p+2);refine⟨D,S,B,sc,p+2,1,bs,rfl,by lia,sD,by lia,MG,fun v5 H5 u5 xC o5=>?_⟩;have hb5:=MG.up u5;have PX:=u5.oR (by rw[xC.a9];simp);obtain⟨g3,g4⟩:=PG.jf sc bs 1 (PG.b7 sc bs 1 (p+2)).2;refine⟨D,S,B,sc,_,1,bs,rfl,by lia,xC,by lia,hb5,fun v6 H6 u6 Kr o6 p7 QX=>?_⟩;have Xd:=u6.oR (by rw[Kr.a9];simp);have dA:∀b,H b≠none->H4 b≠none:=fun b z=>B5 b (GQ b z);have dB:∀b,H b≠none->H5 b≠none:=fun b z=>PX b (dA b z);exact q _ _ ((((u3.trans u4).trans u5).trans u6).new QX _) (Kr.same (au.new QX _)) (jy QX (fun b z=>Xd b (dB b z)) (.cons .str (.cons .int (.cons .str (.cons ((o5.back dA).up u6 NL) (.cons (o6.back dB) .nil))))))
   ·rw[if_neg k6] at eg;walk_at "rd";refine cA (fun k7=>?_) (fun k7=>(if_neg zaf).mpr ((AN _ _).mpr ?_))
    ·rw[if_pos k7] at eg;refine⟨D,S,sc,p+1,rfl,mJ,by lia,fun H4 u4 sD=>?_⟩;walk_at "rd";have B5:=u4.oR (by rw[sD.a9];simp);refine cA (fun z3=>?_) (fun z3=>(AN _ _).mpr ?_)
     ·rw[if_pos z3] at eg;rw[eg] at q;intro p5 B6;exact q _ _ ((u3.trans u4).new B6 _) (sD.same (au.new B6 _)) (jy B6 (fun b z=>B5 b (GQ b z)) (.cons .str (.cons .int .nil)))
     ·rw[if_neg z3] at eg;walk_at "rd";exact say H4 (p+2) eg (by lia) (u3.trans u4) sD (Kl.up u4)
    ·rw[if_neg k7] at eg;walk_at "rd";exact say H3 (p+1) eg (by lia) u3 mJ Kl
  walk_at "rd";intro p3 Fj;have s3:=au.new Fj (.lst []);have Kl:=sW.same s3;have h3:(upd H2 p3 (.lst [])) p3=some (.lst []):=ah;have mJ:=vy.same s3;generalize upd H2 p3 (.lst [])=H3 at *;obtain⟨ys,hy,ly,_⟩:=Kl.list;refine⟨B,p3,ys,rfl,rfl,hy,.of h3,?_⟩;have em3:ys.isEmpty=decide (bs=[]):=by
   rw[zbJ,zcB,decide_eq_true_eq,<- zaV,ly,zaV]
  rw[em3];by_cases vo:bs=[]
  ·rw[decide_eq_true vo,if_neg (by decide),if_neg zaf];exact NR (fun z=>z.1 vo) H3 s3
  ·rw[decide_eq_false vo,if_pos (by decide)];refine cA (fun k6=>?_) (fun k6=>NR (fun z=>k6 z.2) H3 s3);rw[if_pos ⟨vo,k6⟩] at eg;rw[eg] at q;refine box H3 (p+1) _ mJ (by lia) Kl vo fun H4 u4 sD MG=>?_;have u3:aT D H H3:=QW.trans (.of s3);have GQ:=u3.oR (by rw[mJ.a9];simp);have B5:=u4.oR (by rw[sD.a9];simp);obtain⟨g1,g2⟩:=PG.jf sc bs 2 (p+2);refine⟨D,S,B,sc,p+2,2,bs,rfl,by lia,sD,by lia,MG,fun v5 H5 u5 xC o5 p6 nX=>?_⟩;have PX:=u5.oR (by rw[xC.a9];simp);exact q _ _ (((u3.trans u4).trans u5).new nX _) (xC.same (au.new nX _)) (jy nX (fun b z=>PX b (B5 b (GQ b z))) (.cons .str (.cons .int (.cons .str (.cons (o5.back fun b z=>B5 b (GQ b z)) .nil)))))
 by_cases vo:bs=[]
 ·rw[decide_eq_true vo,if_neg (by decide),if_neg zaf];exact NQ fun z=>z.1 vo
 ·rw[decide_eq_false vo,if_pos (by decide)];refine cA (fun k3=>?_) (fun k3=>NQ fun z=>k3 z.2);rw[if_pos ⟨vo,k3⟩] at eg;rw[eg] at q;refine box H2 (p+1) _ vy (by lia) sW vo fun H4 u4 sD MG p5 B6=>?_;have B5:=u4.oR (by rw[sD.a9];simp);exact q _ _ ((QW.trans u4).new B6 _) (sD.same (au.new B6 _)) (jy B6 (fun b z=>B5 b (Xc b (DU b z))) (.cons .str (.cons .int (.cons .str .nil))))
theorem Ks:∀w:PG.Wd,(!QC (V.str (jZ w)) [V.str (zab "else"),V.str (zab "end")])=decide (w≠.C4/\w≠.fin):=by
 intro w;cases w<;>decide +kernel
theorem GR(T:Tx K mg t):bz P w K mg base de 1 t.gm t.hJ ["boxes", "rows", "mode"] (IS K):=by
 refine T.gw.F.mB nT (fun vs H Q E h=>?_) (fun dY A outer s H vs Q E hr h=>?_)
 ·obtain⟨_,_,_,_,_,rfl,_⟩:=h;rfl
 obtain⟨B,R,bs,rows,mode,rfl,rb,rr,lb,lr,q⟩:=h;have nd:=nT.nd;refine⟨_,[some (V.ref B),some (V.ref R),some (V.int mode)],(ag (bh (aD cf (pv 2) ao (aP _))
 (aq (aJ (aW dE (aW dE (bB aZ rfl T.eV PyProof.Rows.Boot.«len» (a8 0 ae)) ao) (aW qf ao (bB aZ rfl T.eV PyProof.Rows.Boot.«len» (a8 1 ae))))))
 aQ)
 (ag (bh (aD cf (pv 2) ao (aP _))
 (aq (aJ (aW dE (aW dE (bB aZ rfl T.eV PyProof.Rows.Boot.«len» (a8 0 ae)) ao) (bB aZ rfl T.eV PyProof.Rows.Boot.«len» (ai (iI (own:=["row"]) (ix:=[]) rfl (by rfl) (by rfl) (dJ (pv 1)) (fun _ _ _ _=>(gA (i:=0) (by show List.Nodup (["row"]:List Str);decide +kernel) rfl (zbz rfl))) (fun _ _ _ _=>(Lu (aD (F8 (K:=K) rfl) (aK (IT (K:=K) rfl) (pv 0) ao ax) (a7 (gH (vs:=[.str "else",.str "end"]) (by kernel_rfl))) rfl))) (fun _ _ _ _=>(pv 0))) ae oA)))))
 aQ)
 (aq (aJ (aW dE (aW dE (bB aZ rfl T.eV PyProof.Rows.Boot.«len» (a8 0 ae)) ao) (bB aZ rfl T.eV PyProof.Rows.Boot.«len» (a8 1 ae))))))),rfl,?_⟩
 have line:zdg=2 ^ 24:=rfl;rw[Rep.cg] at rb rr;obtain⟨_,bv,e,hB,rb⟩:=rb;cases e;obtain⟨_,rv,e,hR,rr⟩:=rr;cases e;have PY:bv.length=bs.length:=by rw[rb.length,zad]
 have Xe:rv.length=rows.length:=by rw[rr.length,zad]
 unfold PG.number at q;walk_at "rd";refine cA (fun m2=>?_) (fun m2=>?_)
 ·rw[if_pos m2] at q;refine⟨B,bv,rfl,.inl hB,R,rv,rfl,.inl hR,?_⟩;rw[PY,Xe];exact⟨mulL (by decide) (by decide),q _ (au.refl _)⟩
 rw[if_neg m2] at q;refine cA (fun m3=>?_) (fun m3=>?_)
 ·rw[if_pos m3] at q;refine⟨B,bv,rfl,.inl hB,?_⟩;simp only[j0];walk_at "rd";refine⟨⟨rv,hR⟩,fun D hD=>?_⟩;refine De (K:=K) (r:=[]) (fun i=>PG.plainRow (rows.getD i (0,.ask))) (fun i=>rv.getD i .b9) hR (by lia) hD (fun i x hx H2 s2 R2 Xf=>?_) (fun i x hx _ H2 s2 R2 Xf=>?_) (fun H2 s2 h2=>?_)
  ·have li:i<rows.length:=by
    have:=(zam.mp hx).1;lia
   obtain⟨v,hv,rw_⟩:=rr.get (i:=i) (d:=ur (rows.getD i (0,.ask))) (by rw[zap,zac li,zan,zac li];rfl);rw[hx] at hv;cases hv;generalize rows.getD i (0,.ask)=row at *;unfold ur at rw_;rw[Rep.cg] at rw_;obtain⟨a,ys,rfl,hy,ry⟩:=rw_;rw[aI.aF] at ry;obtain⟨v1,t1,rfl,e1,ry⟩:=ry;rw[aI.aF] at ry;obtain⟨v2,t2,rfl,e2,ry⟩:=ry;rw[aI.bI] at ry;subst ry;rw[Rep.bY] at e2;subst e2;walk_at "rd";refine cN (v:=V.str (jZ row.2)) (s2.seq hy) (ay (j:=1) rfl) fun p3 Fj=>?_;refine⟨p3,_,rfl,.inr (.of ah),rfl,rfl,?_⟩;have ew:(!QC (V.str (jZ row.2)) [V.str (zab "else"),V.str (zab "end")])=PG.plainRow row:=by
    exact Ks row.2
   have:=Xf _ (au.new Fj (.tup [V.str (zab "else"),V.str (zab "end")]));rw[<- ew] at this;exact⟨_,rfl,this⟩
  ·walk_at "rd";have:=Xf H2 (au.refl _);rw[zan,hx] at this;exact this
  ·refine⟨D,_,rfl,.inl (.of h2),?_⟩;rw[zad,Xe,Bs,PY];exact q _ s2
 ·rw[if_neg m3] at q;refine⟨B,bv,rfl,.inl hB,R,rv,rfl,.inl hR,?_⟩;rw[PY,Xe];exact q _ (au.refl _)
theorem n9{α:Type}{xs:List α}{x:α}:xo (xs++[x]) (-1)=some x:=by
 have e:Lp (xs++[x]).length (-1)=some xs.length:=by
  unfold Lp;simp
  try lia
 unfold xo;rw[e];simp
theorem sE{K:zaa}{Oo:zc8->Prop}{H:Hp}{ds es:List Dp}{vs us:List V}(a:dS K Oo H ds vs)(b:dS K Oo H es us):dS K Oo H (ds++es) (vs++us):=fun H2 u=>(a H2 u).append (b H2 u)
theorem Ab{K:zaa}{H:Hp}{a b:zc8}{xs ys:List V}{Q:VK}(h1:H a=some (.tup xs))(h2:H b=some (.tup ys))(n1:1<=xs.length/\xs.length<=10)(n2:1<=ys.length/\ys.length<=10)(q:∀p,H p=none->Q (.ref p) (upd H p (.tup (xs++ys)))):Nb K (.ref a) (.ref b) H Q:=by
 have line:zdg=2 ^ 24:=rfl;refine⟨a,b,xs,ys,rfl,rfl,.of h1,.of h2,by intro z;rw[z] at n1;simp at n1,by lia,fun z=>by rw[z] at n2;simp at n2,fun _=>q⟩
theorem Kt(T:Tx K mg t):bz P w K mg base de 1 t.hG t.iQ ["pile"] (LL K):=by
 refine T.ic.F.mB pN (fun vs H Q E h=>?_) (fun dY A outer s H vs Q E hr h=>?_)
 ·obtain⟨_,_,_,_,_,_,_,_,_,_,_,_,_,_,_,_,rfl,_⟩:=h;rfl
 obtain⟨D,S,sc,p,B,bs,P',R,f,g,a,b,a',b',r,rows,rfl,st,hk,hg,ab1,q⟩:=h;have nd:=pN.nd;refine⟨_,[some (V.ref P'),none,none,none,none,none],(ag (yT (HR zar zcV zcW HU (pv 0)) (C3 rfl (ck (pH 1 nd) (ck (pH 2 nd) (ck (pH 3 nd) (ck (pH 4 nd) lh))))))
 (ag (eE 5 nd (aW qU (pv 3) (a7 (a8 2 ae))))
 (ag (bh (aD cf (pv 1) aY (aP _))
 (aq (eE 5 nd (aW qU (pv 3) (a7 (a8 2 (ai (bg ae) ae iw))))))
 aQ)
 (ag (bh (aD cf (pv 1) aY (aP _))
 (aq (eE 5 nd (aW qU (pv 3) (a7 (a8 4 (a8 2 ae))))))
 aQ)
 (aq (bP (gh zar zau zav bQ (aK bJ (aK bJ (pv 0) (AY vE ao) Bb) ao ax) (a8 5 ae)))))))),rfl,?_⟩
 have line:zdg=2 ^ 24:=rfl;refine aw fun U1 fM=>?_;walk_at "rd";have ep:((f,a,b)::(g,a',b')::r:List xp).reverse.map (fun x=>V.ref x.2.1)=((g,a',b')::r:List xp).reverse.map (fun x=>V.ref x.2.1)++[.ref a]:=by rw[zbu,zaw];rfl
 obtain⟨yv,⟨hd,fi,xs,fa⟩,na,nb,R3⟩:=st.pop;have kd:∀c,H c≠none->(upd H P' (.lst (((g,a',b')::r:List xp).reverse.map fun x=>V.ref x.2.1))) c≠none:=fun c hc=>by
  by_cases e:c=P'
  ·rw[e,ah];simp
  ·rw[av e];exact hc
 have kp:∀c o,c ∉ gS D P' R ((f,a,b)::(g,a',b')::r)->H c=some o->(upd H P' (.lst (((g,a',b')::r:List xp).reverse.map fun x=>V.ref x.2.1))) c=some o:=fun c o hc e=>by
  rw[av (fun z=>hc (by rw[z];simp[gS]))];exact e
 refine⟨.inl ⟨rfl,_,.of st.aO⟩,P',_,.ref a,rfl,rfl,st.aO,by rw[ep];simp,?_⟩;rw[ep,zc0];generalize upd H P' (.lst (((g,a',b')::r:List xp).reverse.map fun x=>V.ref x.2.1))=H1 at *;refine⟨a,_,rfl,.of fa.fr,rfl,_,_,rfl,_,_,rfl,_,_,rfl,_,_,rfl,rfl,(fM _ _).mpr (aw fun U2 ig=>?_)⟩;clear fM;obtain⟨c,ys,rfl,hc,nc,QY⟩:=fa.F7 (by lia);have lys:ys.length=5:=by have:=QY.IM.length;simpa using this
 have DV:∀z,O D P' R ((g,a',b')::r) [] z->O D P' R ((g,a',b')::r) [a,b] z:=fun z hz=>hz.elim .inl fun w=>absurd w (by simp);have yU:=yv.less (E':=[]) (fun z hz=>absurd hz (by simp));have PZ:=QY.sub DV;have S4:¬O D P' R ((g,a',b')::r) [] b:=fun z=>z.elim nb (by simp);have S5:Fix K (O D P' R ((g,a',b')::r) []) H1 (.lst (f.body.map eT)) (.ref b):=Fix.lst fa.bd S4 (fa.ok.sub DV);walk_at "rd";intro p2 C0;have s2:=au.new C0 (.tup [.ref b]);have t2:(upd H1 p2 (.tup [.ref b])) p2=some (.tup [.ref b]):=ah;generalize upd H1 p2 (.tup [.ref b])=H2 at *;refine Ab (s2 _ _ hc) t2 (by lia) (by simp) fun p3 Fj=>?_;have s3:=s2.trans (au.new Fj (.tup (ys++[.ref b])));have t3:(upd H2 p3 (.tup (ys++[.ref b]))) p3=some (.tup (ys++[.ref b])):=ah;have n3:p3 ∉ gS D P' R ((g,a',b')::r):=(yU.same s2).fresh Fj;generalize upd H2 p3 (.tup (ys++[.ref b]))=H3 at *;refine(ig _ _).mpr (aw fun U3 jF=>?_);clear ig;walk_at "rd";have S6:(rB f.kind=zab "if")↔f.kind=1:=by
  rcases hk with h |h |h<;>rw[h]<;>simp[rB]<;>decide +kernel
 have S7:(rB f.kind=zab "else")↔f.kind=2:=by
  rcases hk with h |h |h<;>rw[h]<;>simp[rB]<;>decide +kernel
 have NS:∀(v:V) (H4:Hp),au H1 H4->(f.kind≠2->Fix K (O D P' R ((g,a',b')::r) []) H4 (eT f.told) v)->U3 [some (V.ref P'),some (V.str (rB f.kind)),some (V.ref b),some (V.ref c),some fi,some v] H4:=by
  intro v H4 s4 hv;refine(jF _ _).mpr (aw fun U4 mQ=>?_);have last:∀(v:V) (H5:Hp),au H1 H5->Fix K (O D P' R ((g,a',b')::r) []) H5 (eT f.told) v->U4 [some (V.ref P'),some (V.str (rB f.kind)),some (V.ref b),some (V.ref c),some fi,some v] H5:=by
   intro v H5 s5 fv;refine(mQ _ _).mpr ?_;have Ht:=yU.same s5;obtain⟨CF,fi',IQ,fg⟩:=Ht.frames _ (zak ..);have lg:IQ.length<=1000:=by have:=fg.len;simp only at this;lia
   walk_at "rd";have pl:H5 P'=some (.lst ((r.reverse.map fun x=>V.ref x.2.1)++[.ref a'])):=by rw[Ht.aO,zbu,zaw];rfl
   refine⟨1,rfl,cN (v:=.ref a') (.of pl) n9 (cN (v:=.ref b') (.of fg.fr) (ay (j:=1) rfl) ⟨.inl ⟨rfl,_,.of fg.bd⟩,b',IQ,v,rfl,rfl,fg.bd,by lia,?_⟩)⟩;refine q _ (fun z hz=>?_) (fun z o nz e=>?_) (Ht.YD fg.bd fv)
   ·by_cases e:z=b'
    ·rw[e,ah];simp
    ·rw[av e];have h1:=kd z hz;cases w:H1 z with
     |none=>exact absurd w h1
     |some o=>rw[s5 _ _ w];simp
   ·rw[av (fun w=>nz (by rw[w];simp[gS]))];exact s5 _ _ (kp z o nz e)
  walk_at "rd";refine cA (fun e2=>?_) (fun e2=>last v H4 s4 (hv fun z=>e2 (S7.mpr z)));have k2:=S7.mp e2;intro p5 B6;have s5:=s4.trans (au.new B6 (.tup [fi,.ref b]));have t5:(upd H4 p5 (.tup [fi,.ref b])) p5=some (.tup [fi,.ref b]):=ah;generalize upd H4 p5 (.tup [fi,.ref b])=H5 at *;refine Ab (s5 _ _ hc) t5 (by lia) (by simp) fun p6 nX=>?_;have s6:=s5.trans (au.new nX (.tup (ys++[fi,.ref b])));have n6:¬O D P' R ((g,a',b')::r) [] p6:=fun z=>z.elim ((yU.same s5).fresh nX) (by simp);refine last _ _ s6 ?_;have et:eT f.told=.tup ([.str "if",.int f.k,.str (L2.S f.sg),mL f.l,mL f.r]++[.lst (f.first.map eT),.lst (f.body.map eT)]):=by
   unfold PG.Frame.told;rw[if_neg (by lia),if_pos k2,eT,gi,gi];rfl
  rw[et];have f5:=PZ;rw[if_neg (by lia)] at f5;refine Fix.tup ah n6 ?_;exact sE (f5.up (.of s6)) (.cons (((fa.IP k2).sub DV).up (.of s6)) (.cons (S5.up (.of s6)) .nil))
 refine cA (fun e1=>?_) (fun e1=>NS _ H3 s3 fun HC=>?_)
 ·have k1:=S6.mp e1;intro p4 xr p5 B6;have s4:=s3.trans (au.new xr (.lst []));have t4:(upd H3 p4 (.lst [])) p4=some (.lst []):=ah;have n4:¬O D P' R ((g,a',b')::r) [] p4:=fun z=>z.elim ((yU.same s3).fresh xr) (by simp);generalize upd H3 p4 (.lst [])=H4 at *;have s5:=s4.trans (au.new B6 (.tup [.ref b,.ref p4]));have t45:=au.new B6 (.tup [.ref b,.ref p4]) _ _ t4;have t5:(upd H4 p5 (.tup [.ref b,.ref p4])) p5=some (.tup [.ref b,.ref p4]):=ah;generalize upd H4 p5 (.tup [.ref b,.ref p4])=H5 at *;refine Ab (s5 _ _ hc) t5 (by lia) (by simp) fun p6 nX=>?_;have s6:=s5.trans (au.new nX (.tup (ys++[.ref b,.ref p4])));have t6:=au.new nX (.tup (ys++[.ref b,.ref p4])) _ _ t45;have n6:¬O D P' R ((g,a',b')::r) [] p6:=fun z=>z.elim ((yU.same s5).fresh nX) (by simp);refine NS _ _ s6 fun _=>?_;have et:eT f.told=.tup ([.str "if",.int f.k,.str (L2.S f.sg),mL f.l,mL f.r]++[.lst (f.body.map eT),.lst []]):=by
   unfold PG.Frame.told;rw[if_pos k1,eT,gi];rfl
  rw[et];have f5:=PZ;rw[if_neg (by lia)] at f5;refine Fix.tup ah n6 ?_;exact sE (f5.up (.of s6)) (.cons (S5.up (.of s6)) (.cons (Fix.lst t6 n4 .nil) .nil))
 ·have k3:f.kind=3:=by
   have:¬f.kind=1:=fun z=>e1 (S6.mpr z);lia
  have et:eT f.told=.tup ([.str "while",.int f.k,.str (L2.S f.sg),mL f.l,mL f.r]++[.lst (f.body.map eT)]):=by
   unfold PG.Frame.told;rw[if_neg (by lia),if_neg (by lia),eT,gi];rfl
  rw[et];have f5:=PZ;rw[if_pos k3] at f5;exact Fix.tup t3 (fun z=>z.elim n3 (by simp)) (sE (f5.up (.of s3)) (.cons (S5.up (.of s3)) .nil))
theorem DW(T:Tx K mg t):bz P w K mg base de 6 t.fD t.gC ["deck", "many"] (Dw K):=by
 have aS:bz P w K mg base de 1 t.du t.dw ["deck"] (tG K):=oP T;have gy:=Km (P:=P) (w:=w) (base:=base) T 2;have Ac:=Kn (P:=P) (w:=w) (base:=base) T;have Ae:=Kq (P:=P) (w:=w) (base:=base) T;have pS:=GR (P:=P) (w:=w) (base:=base) T;have sF:=Kt (P:=P) (w:=w) (base:=base) T;refine T.ie.F.mB mI (fun vs H Q E h=>?_) (fun dY A outer s H vs Q E hr h=>?_)
 ·obtain⟨_,_,_,_,_,rfl,_⟩:=h;rfl
 obtain⟨D,S,sc,p,many,rfl,dk,hp,hm,q⟩:=h;have nd:=mI.nd;refine⟨_,[some (V.ref D),some (V.int many),none,none,none,none,none,none,none,none,none,none,none,none,none],(ag (eE 2 nd (dC Ac T.jA hr (a8 0 ae)))
 (ag (eE 3 nd (bg (ai (bg (ai aY (ai (bg ae) (ai dQ (ai dQ ae aH) aH) iw) aH)) ae iw)))
 (ag (eE 4 nd (bg ae))
 (ag (eE 5 nd (aW bK (dC aS T.aU hr (a8 0 ae)) ao))
 (ag (eS PassesOwn.never rfl (eJ rfl T.gD (a8 1 ae)) (pH 6 nd)
 (ag (eE 7 nd (dC pS T.gw hr (a8 2 (a8 4 (a8 5 ae)))))
 (ag (eE 8 nd (aW bK (dC aS T.aU hr (a8 0 ae)) ao))
 (aq (bh (PW.pt (pw_and (aD o9 (pv 8) ao (aP _)) (pw_and1 (aD Eo (bB aZ rfl T.eV PyProof.Rows.Boot.«len» (a8 3 ae)) ao (aP _)))))
 (ag (bP (dC sF T.ic hr (a8 3 ae)))
 (aq (bP (gh zar zau zav bQ (pv 4) (ai (bg (a8 7 (ai aY ae aH))) ae iw)))))
 (aq (bh (PW.pt (pw_and (aD cf (pv 8) ao (aP _)) (pw_and1 (aD cf (aK bJ (aK bJ (pv 3) (AY vE ao) Bb) ao ax) aY (aP _)))))
 (ag (yT (HR zar zcV zcW HU (pv 3)) (C3 rfl (ck (pH 9 nd) (ck (pH 10 nd) (ck (pH 11 nd) (ck (pH 12 nd) lh))))))
 (ag (bP (gh zar zau zav bQ (pv 3) (ai (bg (ai aY (ai (bg ae) (a8 11 (a8 10 ae)) iw) aH)) ae iw)))
 (aq (bP (gh zar zau zav bQ (pv 4) (ai (bg (a8 7 (ai aY ae aH))) ae iw))))))
 (aq (bh (PW.pt (pw_and (aD o9 (pv 8) ao (aP _)) (pw_and1 (aD o9 (bB aZ rfl T.eV PyProof.Rows.Boot.«len» (a8 3 ae)) ao (aP _)))))
 (ag (eE 13 nd (aK bJ (bg (gH (vs:=[.str "if",.str "if",.str "while"]) (by kernel_rfl))) (aW bK (pv 8) ao) ko))
 (ag (eE 14 nd (a7 (ai (aK CS aY (aW bK (dC aS T.aU hr (a8 0 ae)) ao) ko) (ai (dC gy T.fH hr (a8 0 (a8 2 (ai ao ae aH)))) (ai (dC gy T.fH hr (a8 0 (a8 2 (ai ao ae aH)))) ae bR) bR) bq)))
 (ag (bP (gh zar zau zav bQ (pv 3) (ai (bg (a8 13 (ai (bg ae) (ai (aW qU (a7 (a8 13 (a8 7 ae))) (pv 14)) (ai dQ ae aH) iu) iw))) ae iw)))
 (aq (bP (gh zar zau zav bQ (pv 4) (ai (bg (a8 7 (a8 13 ae))) ae iw)))))))
 (ag (bP (gh zar zau zav bQ (aK bJ (aK bJ (pv 3) (AY vE ao) Bb) ao ax) (ai (dC Ae T.jB hr (a8 0 (a8 2 (a8 7 ae)))) ae bR)))
 (aq (bP (gh zar zau zav bQ (pv 4) (ai (bg (a8 7 (ai (aK aV (aK bJ (aK bJ (aK bJ (pv 3) (AY vE ao) Bb) ao ax) (AY vE ao) Bb) ao ax) ae bq))) ae iw))))))))))))))
 (ag (qN PassesOwn.never (aD Eo (bB aZ rfl T.eV PyProof.Rows.Boot.«len» (a8 3 ae)) ao (aP _))
 (ag (bP (dC sF T.ic hr (a8 3 ae)))
 (aq (bP (gh zar zau zav bQ (pv 4) (ai (bg (ai (dC pS T.gw hr (a8 2 (a8 4 (a8 5 ae)))) (ai aY ae aH) bR)) ae iw))))))
 (aq (aJ (bg (ai (a7 (a8 2 (ai (aK bJ (aK bJ (pv 3) ao ax) ao ax) ae bq))) (a8 4 ae) ff)))))))))),rfl,?_⟩
 have line:zdg=2 ^ 24:=rfl;have NL:H D≠none:=by rw[dk.a9];simp
 refine aw fun U1 fM=>?_;walk_at "rd";refine⟨D,S,sc,p,rfl,dk,by lia,fun B H1 u1 B4 hB ow1=>(fM _ _).mpr (aw fun U2 ig=>?_)⟩;clear fM;unfold PG.bS at q;simp only at q;generalize vo:PG.bo sc (PG.next sc p%4) (PG.next sc (p+1)%4).toNat 0 (p+2)=bs at *;have k1:Kept D H H1:=⟨u1,u1.oR (by rw[B4.a9];simp)⟩
 have bx1:Fix K (·=D) H1 (.lst (bs.1.map jm)) (.ref B):=ow1 _ fun b hb=>by rw[show b=D from hb];exact NL
 walk_at "rd";intro b0 NO;have x1:=bx1.apart (o:=.lst []) NO;have y1:(upd H1 b0 (.lst [])) b0=some (.lst []):=ah;have s1:=au.new NO (.lst []);have vy:=B4.same s1;have k2:=k1.same s1;have e1:H b0=none:=by
  cases z:H b0 with
  |none=>rfl
  |some o=>exact absurd NO (k1.2 b0 (by rw[z];simp))
 generalize upd H1 b0 (.lst [])=H2 at *;intro a0 NT;have x2:=x1.apart (o:=.lst [V.str (zab "all"),V.ref b0,V.b9,V.b9]) NT;have s2:=au.new NT (.lst [V.str (zab "all"),V.ref b0,V.b9,V.b9]);have y2:(upd H2 a0 (.lst [V.str (zab "all"),V.ref b0,V.b9,V.b9])) a0=some (.lst [V.str (zab "all"),V.ref b0,V.b9,V.b9]):=ah;have y1:=s2 _ _ y1;have R3:a0≠b0:=fun z=>by rw[z] at NT;rw[‹H2 b0=some (HO.lst [])›] at NT;cases NT
 have mJ:=vy.same s2;have k3:=k2.same s2;have e2:H a0=none:=by
  cases z:H a0 with
  |none=>rfl
  |some o=>exact absurd NT (k2.2 a0 (by rw[z];simp))
 generalize upd H2 a0 (.lst [V.str (zab "all"),V.ref b0,V.b9,V.b9])=H3 at *;intro P' hP;have x3:=x2.apart (o:=.lst [V.ref a0]) hP;have s3:=au.new hP (.lst [V.ref a0]);have y3:(upd H3 P' (.lst [V.ref a0])) P'=some (.lst [V.ref a0]):=ah;have nPa:a0≠P':=aj y2 hP;have nPb:b0≠P':=aj y1 hP;have S8:D≠P':=aj mJ.a9 hP;have nPS:S≠P':=aj mJ.da hP;have y2:=s3 _ _ y2;have y1:=s3 _ _ y1;have S9:D≠b0:=aj B4.a9 NO;have R1:S≠b0:=aj B4.da NO;have nDa:D≠a0:=aj vy.a9 NT;have VW:S≠a0:=aj vy.da NT;have sD:=mJ.same s3;have k4:=k3.same s3;have e3:H P'=none:=by
  cases z:H P' with
  |none=>rfl
  |some o=>exact absurd hP (k3.2 P' (by rw[z];simp))
 generalize upd H3 P' (.lst [V.ref a0])=H4 at *;refine(ig _ _).mpr (aw fun U3 jF=>?_);clear ig;walk_at "rd";intro R hR;have x4:=x3.apart (o:=.lst []) hR;have s4:=au.new hR (.lst []);have y4:(upd H4 R (.lst [])) R=some (.lst []):=ah;have nRa:a0≠R:=aj y2 hR;have nRb:b0≠R:=aj y1 hR;have nRP:P'≠R:=aj y3 hR;have nRD:D≠R:=aj sD.a9 hR;have nRS:S≠R:=aj sD.da hR;have y1:=s4 _ _ y1;have y2:=s4 _ _ y2;have y3:=s4 _ _ y3;have xC:=sD.same s4;have k5:=k4.same s4;have e4:H R=none:=by
  cases z:H R with
  |none=>rfl
  |some o=>exact absurd hR (k4.2 R (by rw[z];simp))
 generalize upd H4 R (.lst [])=H5 at *;obtain⟨bl,bp⟩:bs.1.length<=10/\bs.2<=p+20:=by
  obtain⟨l1,l2⟩:=PG.jw sc (PG.next sc p%4) (PG.next sc (p+1)%4).toNat 0 (p+2);rw[vo] at l1 l2;have:=PG.jg sc (p+1);lia
 have Za:kI K H5 D S sc bs.2 B bs.1 P' R [({kind:=0,body:=[]},a0,b0)] [] []:=by
  refine⟨xC,x4.sub fun z hz=>?_,bl,y3,fun x hx=>?_,⟨[],y4,.nil,rfl⟩,?_,?_⟩
  ·rcases hz with hz |hz
   ·simp only[gS,zaK,zbx,zaC,zae,zaS,or_false] at hz;rcases hz with rfl |rfl |rfl |rfl |rfl
    ·exact .inl (.inl (.inl (.inl rfl)))
    ·exact .inl (.inr rfl)
    ·exact .inr rfl
    ·exact .inl (.inl (.inr rfl))
    ·exact .inl (.inl (.inl (.inr rfl)))
   ·cases hz
  ·rw[zag.mp hx];exact⟨.b9,.b9,[],y2,y1,.nil,fun z=>absurd rfl z,fun z=>absurd z (show ¬(0=2) by decide),rfl⟩
  ·simp only[gS,zaK,zbx,zaC,zaH,zae,zaS,or_false,not_or,not_false_eq_true,zbR,and_true];exact⟨⟨S8,nRD,nDa,S9⟩,⟨nRP,nPa.symm,nPb.symm⟩,⟨nRa.symm,nRb.symm⟩,R3⟩
  ·simp only[gS,zaK,zbx,zaC,zae,zaS,or_false,not_or];exact⟨xC.ne,nPS,nRS,VW,R1⟩
 refine(jF _ _).mpr (aw fun U4 mQ=>?_);clear jF x1 x2 x3 x4;walk_at "rd";refine⟨D,S,sc,bs.2,rfl,xC,by lia,fun H6 u6 Kr=>?_⟩;walk_at "rd";have k6:=k5.up u6 (by rw[Kr.a9];simp);have st6:=Za.draw u6 Kr;clear Za;generalize PG.next sc bs.2%4=mode at *;refine(mQ _ _).mpr (aw fun U5 AN=>?_);clear mQ;generalize Ta:(⟨bs.2+1,[{kind:=0,body:=[]}],[]⟩:PG.Walk)=w0 at *;have ok0:PG.c7 w0:=by rw[<- Ta];exact⟨rfl,rfl,by simp⟩
 have len0:PG.nh 0 w0:=by rw[<- Ta];exact⟨fun f hf=>by rw[zag.mp hf];exact zah _,zah _⟩
 refine kF fun U hU=>?_;walk_at "rd";refine⟨_,rfl,by lia,by lia,hU _ _ ?_⟩;clear hU;rw[zbh];obtain⟨Pv,mN,mO⟩:=J9 fun (i:Nat) (σ:St) (H7:Hp) zq=>∀(z6 z7 z8 z9 qJ Lc Ld Le Lf:Option V) (cV:List xp),σ=[some (V.ref D),some (V.int many),some (V.ref B),some (V.ref P'),some (V.ref R),some (V.int mode),z6,z7,z8,z9,qJ,Lc,Ld,Le,Lf]->cV.map (·.1)=(PG.turns sc bs.1 mode i w0).aO->kI K H7 D S sc (PG.turns sc bs.1 mode i w0).p B bs.1 P' R cV (PG.turns sc bs.1 mode i w0).rows []->Kept D H H7->PG.c7 (PG.turns sc bs.1 mode i w0)->PG.nh i (PG.turns sc bs.1 mode i w0)->(PG.turns sc bs.1 mode i w0).p<=200+20*i->(∀x∈cV,H x.2.1=none/\H x.2.2=none)->zq;refine jG (lo:=0) (n:=many) Pv ?_ ?_ ?_
 ·refine(mN _ _ _ fun _ zk=>zk none none none none none none none none none [({kind:=0,body:=[]},a0,b0)] rfl ?_ ?_ k6 ok0 len0 ?_ (fun x hx=>by rw[zag.mp hx];exact⟨e2,e1⟩))
  ·show _=w0.aO;rw[<- Ta];rfl
  ·show kI K H6 D S sc w0.p B bs.1 P' R _ w0.rows [];rw[<- Ta];exact st6
  ·show w0.p<=_;rw[<- Ta];simp only;lia
 ·intro i σ H7 hi hv;refine mO _ _ _ hv _ fun z6 z7 z8 z9 qJ Lc Ld Le Lf cV xA ef st kp ok ln pb Fo=>?_;subst xA;clear hv;rw[zcg];have done:=fun σ H7=>mN (i+1) σ H7;rw[PG.vR] at done;have Ku:=PG.q0 sc bs.1 mode ok;have Kv:=PG.Bh sc bs.1 mode ln;have NU:=(PG.OS sc bs.1 mode (PG.turns sc bs.1 mode i w0)).2;generalize PG.turns sc bs.1 mode i w0=wk at *;obtain⟨pp,aO,rows⟩:=wk;simp only at ef st pb NU;have rl:rows.length<=i:=ln.2;cases aO with
  |nil=>exact ok.aO.elim
  |cons f r=>
  cases cV with
  |nil=>cases ef
  |cons x0 fr=>
  obtain⟨f',a,b⟩:=x0;simp only[zaq,zc5.injEq] at ef;obtain⟨rfl,ef⟩:=ef;have Xg:fr.length=r.length:=by rw[<- ef,zad]
  rw[PG.zl] at done Ku Kv NU;simp only[dI,za6];refine aw fun U6 GJ=>?_;walk_at "rd";obtain⟨xq,hR7,fR,lR⟩:=st.rows;refine⟨B,R,bs.1,rows,mode,rfl,st.box.rep,Rep.cg.mpr ⟨R,xq,rfl,.of hR7,fR.IM⟩,bl,by lia,fun H8 s8=>(GJ _ _).mpr (aw fun U7 SS=>?_)⟩;clear GJ;have Xh:=st.same s8;have kp8:=kp.same s8;generalize PG.number bs.1.length rows mode=k at *;walk_at "rd";refine⟨D,S,sc,pp,rfl,Xh.a9,by lia,fun H9 u9 NP=>?_⟩;walk_at "rd";refine(SS _ _).mpr ?_;clear SS;have xD:=Xh.draw u9 NP;have Tb:=kp8.up u9 (by rw[NP.a9];simp);obtain⟨w0',w1'⟩:=PG.jg sc pp;generalize acj:PG.next sc pp%12=way at *;have ack:0<=way/\way<12:=by lia
  clear st Xh s8 u9;have DX:∀(cV:List xp),(∀x∈cV,H x.2.1=none/\H x.2.2=none)->∀z o,z≠D->H z=some o->z ∉ gS D P' R cV:=by
   intro cV hf z o nz e hz;simp only[gS,zae,zaR] at hz;rcases hz with hz |rfl |rfl |⟨x,hx,hz⟩
   ·exact nz hz
   ·rw[e3] at e;cases e
   ·rw[e4] at e;cases e
   ·simp only[zaS,or_false] at hz;rcases hz with rfl |rfl
    ·rw[(hf x hx).1] at e;cases e
    ·rw[(hf x hx).2] at e;cases e
  have Af:∀(nY:Hp) (w:PG.Wd) (cV:List xp) (pq:Nat) (M:Hp->Prop),kI K nY D S sc pq B bs.1 P' R cV rows []->Kept D H nY->(∀Hc,kI K Hc D S sc pq B bs.1 P' R cV (rows++[(k,w)]) []->Kept D H Hc->M Hc)->
   RI K "list" (V.ref R) nY/\∀q,nY q=none->zh (V.ref R) [V.ref q] (upd nY q (.lst [.int k,.str (jZ w)])) fun _ H1=>M H1:=by
   intro nY w cV pq M qA Fp hM;obtain⟨rv,hr,_,lr⟩:=qA.rows;refine⟨.inl ⟨rfl,_,.of hr⟩,fun q hq=>?_⟩;have Hd:=qA.same (au.new hq (.lst [.int k,.str (jZ w)]));have P0:=Fp.same (au.new hq (.lst [.int k,.str (jZ w)]));have Tc:=au.new hq (.lst [.int k,.str (jZ w)]) _ _ hr;refine⟨R,rv,_,rfl,rfl,Tc,by lia,hM _ (Hd.row Tc (k:=k) (w:=w) (q:=q) ah fun z=>z.elim (qA.fresh hq) (by simp)) (P0.put e4 _)⟩
  have lp:((f',a,b)::fr:List xp).reverse.map (fun x=>V.ref x.2.1)=(fr.reverse.map fun x=>V.ref x.2.1)++[.ref a]:=by rw[zbu,zaw];rfl
  have Qa:∀(fs:List xp) z,O D P' R fs [] z->z∈gS D P' R fs:=fun fs z hz=>hz.elim id (by simp);refine zr fun V1 Cy=>?_;have c1:¬(way<2/\(f'::r).length>1)->V1 [some (V.ref D),some (V.int many),some (V.ref B),some (V.ref P'),some (V.ref R),some (V.int mode),some (V.int i),some (V.int k),some (V.int way),z9,qJ,Lc,Ld,Le,Lf] H9:=by
   intro h1;rw[if_neg h1] at done Ku Kv NU;refine Cy _ _ (zr fun V2 Fn=>?_);have c2:¬(way=2/\f'.kind=1)->V2 [some (V.ref D),some (V.int many),some (V.ref B),some (V.ref P'),some (V.ref R),some (V.int mode),some (V.int i),some (V.int k),some (V.int way),z9,qJ,Lc,Ld,Le,Lf] H9:=by
    intro h2;rw[if_neg h2] at done Ku Kv NU;refine Fn _ _ (zr fun V3 GP=>?_);have c3:¬(way<6/\(f'::r).length<4)->V3 [some (V.ref D),some (V.int many),some (V.ref B),some (V.ref P'),some (V.ref R),some (V.int mode),some (V.int i),some (V.int k),some (V.int way),z9,qJ,Lc,Ld,Le,Lf] H9:=by
     intro h3;rw[if_neg h3] at done Ku Kv NU;refine GP _ _ ?_;walk_at "rd";have Td:=xD.aO;rw[lp] at Td;obtain⟨hd,fi,xs,fa⟩:=xD.frames _ (zak ..);refine⟨1,rfl,cN (v:=.ref a) (.of Td) n9 (cN (v:=.ref b) (.of fa.fr) (ay (j:=1) rfl) ⟨.inl ⟨rfl,_,.of fa.bd⟩,?_⟩)⟩;refine⟨D,S,B,sc,pp+1,k,bs.1,rfl,xD.a9,by lia,xD.aA,fun v nY Qb Aa PV=>?_⟩;have mn:=xD.draw Qb Aa;have Fp:=Tb.up Qb (by rw[Aa.a9];simp);obtain⟨hd2,fi2,Qc,Xi⟩:=mn.frames _ (zak ..);have fv:Fix K (O D P' R ((f',a,b)::fr) []) nY (eT (PG.bC sc bs.1 k (pp+1)).1) v:=PV _ fun z hz=>xD.oR z (Qa _ z hz);have l2:Qc.length<=1000:=by have:=Xi.len;have:=ln.1 f' (by simp);simp only at *;lia
     refine⟨b,Qc,v,rfl,rfl,Xi.bd,by lia,?_⟩;have xE:=mn.YD Xi.bd fv;have P0:=Fp.put (Fo (f',a,b) (by simp)).2 (.lst (Qc++[v]));have Xj:Rep K (upd nY b (.lst (Qc++[v]))) (eT (PG.bC sc bs.1 k (pp+1)).1) v:=(fv.up (aM.refl.put (.inl (by simp[gS])) _)).rep;have Xk:(upd nY b (.lst (Qc++[v]))) b=some (.lst (Qc++[v])):=ah;have Te:=xE.aO;obtain⟨Ui,fi3,xs3,UJ⟩:=xE.frames _ (zak ..);have Xl:=UJ.fr;generalize upd nY b (.lst (Qc++[v]))=Hc at *;have pe:((({f' with body:=f'.body++[(PG.bC sc bs.1 k (pp+1)).1]}:PG.Frame),a,b)::fr:List xp).reverse.map (fun x=>V.ref x.2.1)=(fr.reverse.map fun x=>V.ref x.2.1)++[.ref a]:=by rw[zbu,zaw];rfl
     rw[pe] at Te;obtain⟨ta,ys,rfl,hta⟩:=IU _ Xj;have ar:=Af Hc (PG.bC sc bs.1 k (pp+1)).1.wd _ _ (fun yJ=>Pv (i+1) [some (V.ref D),some (V.int many),some (V.ref B),some (V.ref P'),some (V.ref R),some (V.int mode),some (V.int i),some (V.int k),some (V.int way),z9,qJ,Lc,Ld,Le,Lf] yJ) xE P0 fun yJ B7 Tf=>done _ _ (fun _ zk=>zk _ _ _ _ _ _ _ _ _ _ rfl (by simp only[zaq,ef]) B7 Tf Ku Kv (by lia) (fun x hx=>by
      rcases zae.mp hx with rfl |hx
      ·exact Fo (f',a,b) (by simp)
      ·exact Fo x (by simp[hx])))
     exact⟨ar.1,1,rfl,cN (v:=.ref a) (.of Te) n9 (cN (v:=.ref b) (.of Xl) (ay (j:=1) rfl) ⟨1,rfl,cN (v:=.ref ta) (.of Xk) n9 (aN hta (ay (j:=0) rfl) ar.2)⟩)⟩
    walk_at "rd";refine cA (fun w6=>⟨P',_,rfl,.inl (.of xD.aO),cA (fun l4=>?_) (fun l4=>c3 fun z=>l4 ?_)⟩) (fun w6=>(if_neg zaf).mpr (c3 fun z=>w6 z.1))
    ·rw[lp,zal,zad,zbk,Xg] at l4;have cond:way<6/\(f'::r).length<4:=⟨w6,by simp only[zaj,za1] at l4 ⊢;lia⟩
     rw[if_pos cond] at done Ku Kv NU;intro p1 ME;have qA:=au.new ME (.lst [V.str (zab "if"),V.str (zab "if"),V.str (zab "while")]);have mn:=xD.same qA;have Fp:=Tb.same qA;have wk:∀z:Int,0<=z->z<3->xo [V.str (zab "if"),V.str (zab "if"),V.str (zab "while")] z=some (V.str (rB (PG.pick 1 [1,1,3] z)))/\(PG.pick 1 [1,1,3] z=1\/PG.pick 1 [1,1,3] z=3):=fun z h0 h3=>by
      have z3:z=0\/z=1\/z=2:=by lia
      rcases z3 with rfl |rfl |rfl
      ·exact⟨ay (j:=0) rfl,.inl rfl⟩
      ·exact⟨ay (j:=1) rfl,.inl rfl⟩
      ·exact⟨ay (j:=2) rfl,.inr rfl⟩
     obtain⟨wk1,wk2⟩:=wk (way%3) (by lia) (by lia);refine Ba wk1 ?_;generalize upd H9 p1 (.lst [V.str (zab "if"),V.str (zab "if"),V.str (zab "while")])=nY at *;generalize PG.pick 1 [1,1,3] (way%3)=kd at *;have wd:(if kd=3 then ("while":Str) else "if")=rB kd/\jZ (if kd=3 then PG.Wd.jc else PG.Wd.ifs)=rB kd:=by
      rcases wk2 with rfl |rfl<;>exact⟨rfl,rfl⟩
     refine⟨D,S,sc,pp+1,rfl,mn.a9,by lia,fun Hc Zb Th=>?_⟩;have xE:=mn.draw Zb Th;have P0:=Fp.up Zb (by rw[Th.a9];simp);obtain⟨m0,m1⟩:=PG.jg sc (pp+1);walk_at "rd";have sg:∀z:Int,0<=z->z<2->∃c,xo (zab "<=").cps.toList z=some c/\V.str ⟨#[c]⟩=V.str (L2.S (PG.pick [] PG.Cs z)):=fun z h0 h3=>by
      have z3:z=0\/z=1:=by lia
      rcases z3 with rfl |rfl
      ·exact⟨60,ay (j:=0) (by decide +kernel),rfl⟩
      ·exact⟨61,ay (j:=1) (by decide +kernel),rfl⟩
     obtain⟨c,hc,ec⟩:=sg (PG.next sc (pp+1)%2) (by lia) (by lia);refine⟨_,_,c,rfl,rfl,by decide,hc,?_⟩;rw[ec];obtain⟨g1,g2⟩:=PG.jf sc bs.1 1 (pp+2);refine⟨D,S,B,sc,pp+2,1,bs.1,rfl,by lia,xE.a9,by lia,xE.aA,fun v3 yJ QW Ti Xm=>?_⟩;have B7:=xE.draw QW Ti;have Tf:=P0.up QW (by rw[Ti.a9];simp);have f3:Fix K (O D P' R ((f',a,b)::fr) []) yJ (mL (PG.b7 sc bs.1 1 (pp+2)).1) v3:=Xm _ fun z hz=>xE.oR z (Qa _ z hz);obtain⟨g3,g4⟩:=PG.jf sc bs.1 1 (PG.b7 sc bs.1 1 (pp+2)).2;refine⟨D,S,B,sc,_,1,bs.1,rfl,by lia,B7.a9,by lia,B7.aA,fun v4 UG Cw Tj Xn t0 ht0=>?_⟩;have Xo:=B7.draw Cw Tj;have k13:=Tf.up Cw (by rw[Tj.a9];simp);have f4:Fix K (O D P' R ((f',a,b)::fr) []) UG (mL (PG.b7 sc bs.1 1 (PG.b7 sc bs.1 1 (pp+2)).2).1) v4:=Xn _ fun z hz=>B7.oR z (Qa _ z hz);have f3:=f3.up (aM.one Cw (.inl (by simp[gS])));generalize PG.b7 sc bs.1 1 (PG.b7 sc bs.1 1 (pp+2)).2=Zc at *;generalize PG.b7 sc bs.1 1 (pp+2)=ge1 at *;generalize PG.pick [] PG.Cs (PG.next sc (pp+1)%2)=sgn at *;have Px:=au.new ht0 (.tup [V.str (L2.S sgn),v3,v4]);have NH:(upd UG t0 (.tup [V.str (L2.S sgn),v3,v4])) t0=some (.tup [V.str (L2.S sgn),v3,v4]):=ah;have MH:=Xo.same Px;have Wm:=k13.same Px;have f3:=f3.up (.of Px);have f4:=f4.up (.of Px);generalize upd UG t0 (.tup [V.str (L2.S sgn),v3,v4])=WN at *;refine⟨.inl ⟨rfl,_,.of MH.aO⟩,fun b2 sW=>?_⟩;have MA:=au.new sW (.lst []);have Kw:=MH.more sW (.lst []);have f3:=f3.apart (o:=.lst []) sW;have f4:=f4.apart (o:=.lst []) sW;have S4:b2 ∉ gS D P' R ((f',a,b)::fr):=MH.fresh sW;have Qd:S≠b2:=aj MH.a9.da sW;have Fq:(upd WN b2 (.lst [])) b2=some (.lst []):=ah;have UK:=Wm.same MA;have Qe:H b2=none:=by
      cases z:H b2 with
      |none=>rfl
      |some o=>exact absurd sW (Wm.2 b2 (by rw[z];simp))
     have NH:=MA _ _ NH;generalize upd WN b2 (.lst [])=NI at *;intro t1 MJ;have MB:=au.new MJ (.tup [V.str (rB kd),V.int k]);have y16:(upd NI t1 (.tup [V.str (rB kd),V.int k])) t1=some (.tup [V.str (rB kd),V.int k]):=ah;have Tn:=Kw.same MB;have k16:=UK.same MB;have f3:=f3.up (.of MB);have f4:=f4.up (.of MB);have Fq:=MB _ _ Fq;have NH:=MB _ _ NH;generalize upd NI t1 (.tup [V.str (rB kd),V.int k])=SN at *;refine Ab y16 NH (by simp) (by simp) fun t2 UL=>?_;have To:=au.new UL (.tup ([V.str (rB kd),V.int k]++[V.str (L2.S sgn),v3,v4]));have UM:(upd SN t2 (.tup ([V.str (rB kd),V.int k]++[V.str (L2.S sgn),v3,v4]))) t2=some (.tup ([V.str (rB kd),V.int k]++[V.str (L2.S sgn),v3,v4])):=ah;have Qf:=Tn.same To;have Zd:=k16.same To;have f3:=f3.up (.of To);have f4:=f4.up (.of To);have nt2:t2 ∉ gS D P' R ((f',a,b)::fr):=Tn.fresh UL;have Xp:t2≠b2:=fun z=>by rw[z,Fq] at UL;cases UL
     have Fq:=To _ _ Fq;generalize upd SN t2 (.tup ([V.str (rB kd),V.int k]++[V.str (L2.S sgn),v3,v4]))=Ze at *;intro a2 xF;have Qg:=au.new xF (.lst [V.str (rB kd),V.ref b2,V.ref t2,V.b9]);have Ky:=Qf.more xF (.lst [V.str (rB kd),V.ref b2,V.ref t2,V.b9]);have f3:=f3.apart (o:=.lst [V.str (rB kd),V.ref b2,V.ref t2,V.b9]) xF;have f4:=f4.apart (o:=.lst [V.str (rB kd),V.ref b2,V.ref t2,V.b9]) xF;have Xq:a2 ∉ gS D P' R ((f',a,b)::fr):=Qf.fresh xF;have Qh:S≠a2:=aj Qf.a9.da xF;have Qi:a2≠b2:=fun z=>by rw[z,Fq] at xF;cases xF
     have Xr:t2≠a2:=aj UM xF;have Xs:(upd Ze a2 (.lst [V.str (rB kd),V.ref b2,V.ref t2,V.b9])) a2=some (.lst [V.str (rB kd),V.ref b2,V.ref t2,V.b9]):=ah;have Xt:=Zd.same Qg;have Qj:H a2=none:=by
      cases z:H a2 with
      |none=>rfl
      |some o=>exact absurd xF (Zd.2 a2 (by rw[z];simp))
     have Fq:=Qg _ _ Fq;have UM:=Qg _ _ UM;generalize upd Ze a2 (.lst [V.str (rB kd),V.ref b2,V.ref t2,V.b9])=Xu at *;have j:∀z,O D P' R ((f',a,b)::fr) [a2,b2] z->((O D P' R ((f',a,b)::fr) [] z\/z=b2)\/z=a2):=fun z hz=>by
      rcases hz with h |h
      ·exact .inl (.inl (.inl h))
      ·simp only[zae,zaS,or_false] at h;rcases h with h |h
       ·exact .inr h
       ·exact .inl (.inr h)
     have nf:d7 K (O D P' R ((f',a,b)::fr) [a2,b2]) Xu ({kind:=kd,body:=[],k:=k,sg:=sgn,l:=ge1.1,r:=Zc.1}:PG.Frame) a2 b2 (.ref t2) .b9 []:=by
      refine⟨Xs,Fq,.nil,fun _=>⟨t2,_,rfl,UM,fun z=>?_,?_⟩,fun z=>?_,rfl⟩
      ·rcases z with z |z
       ·exact nt2 z
       ·simp only[zae,zaS,or_false] at z;exact z.elim Xr Xp
      ·show dS K _ _ [.str (if kd=3 then "while" else "if"),.int k,.str (L2.S sgn),mL ge1.1,mL Zc.1] _;rw[wd.1];exact .cons .str (.cons .int (.cons .str (.cons (f3.sub j) (.cons (f4.sub j) .nil))))
      ·have z:kd=2:=z;lia
     have Qk:=(Ky.push nf Xq S4 Qi Qh Qd (by simp) (by simp)).less (E':=[]) (fun z hz=>absurd hz (by simp));have Xv:=Xt.put e3 (.lst (((f',a,b)::fr:List xp).reverse.map (fun x=>V.ref x.2.1)++[.ref a2]));refine⟨P',_,_,rfl,rfl,Ky.aO,by rw[zad,zbk];have:=ok.most;simp only[zaj] at this ⊢;lia,?_⟩;have ar:=Af _ (if kd=3 then PG.Wd.jc else PG.Wd.ifs) _ _ (fun Tp=>Pv (i+1) [some (V.ref D),some (V.int many),some (V.ref B),some (V.ref P'),some (V.ref R),some (V.int mode),some (V.int i),some (V.int k),some (V.int way),z9,qJ,Lc,Ld,some (V.str (rB kd)),some (V.ref t0)] Tp) Qk Xv fun Tp Ql Xw=>done _ _ (fun _ zk=>zk _ _ _ _ _ _ _ _ _ _ rfl (by simp only[zaq,ef]) Ql Xw Ku Kv (by lia) (fun x hx=>by
      rcases zae.mp hx with rfl |hx
      ·exact⟨Qj,Qe⟩
      ·exact Fo x hx))
     rw[wd.2] at ar;exact ar
    ·rw[lp,zal,zad,zbk,Xg];have:=z.2;simp only[zaj,za1] at this ⊢;lia
   walk_at "rd";have Td:=xD.aO;rw[lp] at Td;obtain⟨Tq,Y3,Sh,W0⟩:=xD.frames _ (zak ..);have kk:(V.str (rB f'.kind)=V.str (zab "if"))↔f'.kind=1:=by
    have:f'.kind=0\/f'.kind=1\/f'.kind=2\/f'.kind=3:=by
     have z:=ok.aO;cases r with
     |nil=>exact .inl z
     |cons g r2=>exact .inr z.1
    rcases this with h |h |h |h<;>rw[h]<;>decide +kernel
   refine cA (fun w2=>⟨1,rfl,cN (v:=.ref a) (.of Td) n9 (cN (v:=.str (rB f'.kind)) (.of W0.fr) (ay (j:=0) rfl) ⟨rfl,cA (fun kf=>?_) (fun kf=>c2 fun z=>kf (kk.mpr z.2))⟩)⟩) (fun w2=>(if_neg zaf).mpr (c2 fun z=>w2 z.1));have kd1:=kk.mp kf;rw[if_pos ⟨w2,kd1⟩] at done Ku Kv NU;obtain⟨mn,⟨hd,fi,xs,fa⟩,na,nb,R3⟩:=xD.pop;have Fp:=Tb.put e3 (.lst (fr.reverse.map fun x=>V.ref x.2.1));refine⟨.inl ⟨rfl,_,.of xD.aO⟩,P',_,.ref a,rfl,rfl,xD.aO,by rw[lp];simp,?_⟩;rw[lp,zc0];generalize upd H9 P' (.lst (fr.reverse.map fun x=>V.ref x.2.1))=nY at *;obtain⟨cc,ys,rfl,xm,NA,QY⟩:=fa.F7 (by lia);have DV:∀z,O D P' R fr [] z->O D P' R fr [a,b] z:=fun z hz=>hz.elim .inl fun w=>absurd w (by simp);have mn:=mn.less (E':=[]) (fun z hz=>absurd hz (by simp));have QY:=QY.sub DV;have NA:¬O D P' R fr [] cc:=fun z=>NA (DV cc z);have S5:Fix K (O D P' R fr []) nY (.lst (f'.body.map eT)) (.ref b):=Fix.lst fa.bd (fun z=>z.elim nb (by simp)) (fa.ok.sub DV);refine⟨a,_,rfl,.of fa.fr,rfl,_,_,rfl,_,_,rfl,_,_,rfl,_,_,rfl,rfl,.inl ⟨rfl,_,.of mn.aO⟩,fun b2 sW=>?_⟩;have MA:=au.new sW (.lst []);have Kw:=mn.more sW (.lst []);have f3:=QY.apart (o:=.lst []) sW;have f4:=S5.apart (o:=.lst []) sW;have S4:b2 ∉ gS D P' R fr:=mn.fresh sW;have Qd:S≠b2:=aj mn.a9.da sW;have Fq:(upd nY b2 (.lst [])) b2=some (.lst []):=ah;have UK:=Fp.same MA;have Qe:H b2=none:=by
    cases z:H b2 with
    |none=>rfl
    |some o=>exact absurd sW (Fp.2 b2 (by rw[z];simp))
   have ncb:cc≠b2:=aj xm sW;have xm:=MA _ _ xm;generalize upd nY b2 (.lst [])=NI at *;intro a2 xF;have Qg:=au.new xF (.lst [V.str (zab "else"),V.ref b2,V.ref cc,V.ref b]);have Ky:=Kw.more xF (.lst [V.str (zab "else"),V.ref b2,V.ref cc,V.ref b]);have f3:=f3.apart (o:=.lst [V.str (zab "else"),V.ref b2,V.ref cc,V.ref b]) xF;have f4:=f4.apart (o:=.lst [V.str (zab "else"),V.ref b2,V.ref cc,V.ref b]) xF;have Xq:a2 ∉ gS D P' R fr:=Kw.fresh xF;have Qh:S≠a2:=aj Kw.a9.da xF;have Qi:a2≠b2:=fun z=>by rw[z,Fq] at xF;cases xF
   have nca:cc≠a2:=aj xm xF;have Xs:(upd NI a2 (.lst [V.str (zab "else"),V.ref b2,V.ref cc,V.ref b])) a2=some (.lst [V.str (zab "else"),V.ref b2,V.ref cc,V.ref b]):=ah;have Xt:=UK.same Qg;have Qj:H a2=none:=by
    cases z:H a2 with
    |none=>rfl
    |some o=>exact absurd xF (UK.2 a2 (by rw[z];simp))
   have Fq:=Qg _ _ Fq;have xm:=Qg _ _ xm;generalize upd NI a2 (.lst [V.str (zab "else"),V.ref b2,V.ref cc,V.ref b])=Xu at *;have j:∀z,O D P' R fr [a2,b2] z->((O D P' R fr [] z\/z=b2)\/z=a2):=fun z hz=>by
    rcases hz with h |h
    ·exact .inl (.inl (.inl h))
    ·simp only[zae,zaS,or_false] at h;rcases h with h |h
     ·exact .inr h
     ·exact .inl (.inr h)
   have nf:d7 K (O D P' R fr [a2,b2]) Xu ({f' with kind:=2,body:=[],first:=f'.body}:PG.Frame) a2 b2 (.ref cc) (.ref b) []:=by
    refine⟨Xs,Fq,.nil,fun _=>⟨cc,ys,rfl,xm,fun z=>?_,?_⟩,fun _=>f4.sub j,rfl⟩
    ·rcases j cc z with (z |z) |z
     ·exact NA z
     ·exact ncb z
     ·exact nca z
    ·have f5:=f3.sub j;rw[if_neg (by lia)] at f5;exact f5
   have Qk:=(Ky.push nf Xq S4 Qi Qh Qd (by simp) (by simp)).less (E':=[]) (fun z hz=>absurd hz (by simp));have Xv:=Xt.put e3 (.lst ((fr.reverse.map fun x=>V.ref x.2.1)++[.ref a2]));refine⟨P',_,_,rfl,rfl,Ky.aO,by rw[zad,zbk];have:=ok.most;simp only[zaj] at this ⊢;lia,?_⟩;exact Af _ .C4 _ _ (fun Tp=>Pv (i+1) [some (V.ref D),some (V.int many),some (V.ref B),some (V.ref P'),some (V.ref R),some (V.int mode),some (V.int i),some (V.int k),some (V.int way),some (V.str (rB f'.kind)),some (V.ref b),some (V.ref cc),some fi,Le,Lf] Tp) Qk Xv fun Tp Ql Xw=>done _ _ (fun _ zk=>zk _ _ _ _ _ _ _ _ _ _ rfl (by simp only[zaq,ef]) Ql Xw Ku Kv (by lia) (fun x hx=>by
    rcases zae.mp hx with rfl |hx
    ·exact⟨Qj,Qe⟩
    ·exact Fo x (by simp[hx])))
  walk_at "rd";refine cA (fun w2=>⟨P',_,rfl,.inl (.of xD.aO),cA (fun l2=>?_) (fun l2=>c1 fun z=>l2 ?_)⟩) (fun w2=>(if_neg zaf).mpr (c1 fun z=>w2 z.1))
  ·rw[lp,zal,zad,zbk] at l2;cases fr with
   |nil=>simp at l2
   |cons x1 UN=>
    obtain⟨g,a',b'⟩:=x1;cases r with
    |nil=>cases ef
    |cons g' r2=>
    simp only[zaq,zc5.injEq] at ef;obtain⟨rfl,ef⟩:=ef;have cond:way<2/\(f'::g::r2).length>1:=⟨w2,by simp⟩
    rw[if_pos cond] at done Ku Kv NU;have m4:=ok.most;simp only[zaj] at m4 Xg;refine⟨D,S,sc,pp+1,B,bs.1,P',R,f',g,a,b,a',b',UN,rows,rfl,xD,ok.aO.1,by have:=ln.1 g (by simp);lia,by lia,fun nY QS Ko mn=>?_⟩;have Fp:Kept D H nY:=⟨fun z o nz e=>Ko z o (DX _ Fo z o nz e) (Tb.1 z o nz e),fun z hz=>QS z (Tb.2 z hz)⟩
    refine Af nY .fin _ _ _ mn Fp fun Hc xE P0=>done _ _ (fun _ zk=>zk _ _ _ _ _ _ _ _ _ _ rfl ?_ xE P0 Ku Kv (by lia) (fun x hx=>?_))
    ·simp only[zaq,ef];rfl
    ·rcases zae.mp hx with rfl |hx
     ·exact Fo (g,a',b') (by simp)
     ·exact Fo x (by simp[hx])
  ·rw[lp,zal,zad,zbk];have:=z.2;simp only[zaj,za1] at this ⊢;lia
 ·intro σ H7 hv;refine mO _ _ _ hv _ fun z6 z7 z8 z9 qJ Lc Ld Le Lf cV xB ef st kp ok ln pb Fo=>?_;subst xB;clear hv;generalize PG.turns sc bs.1 mode many w0=wk at *;show U5 _ H7;refine(AN _ _).mpr (aw fun U6 GJ=>?_);walk_at "rd";refine⟨fun m σ H8=>∃(cV:List xp) (vz:PG.Walk),σ=[some (V.ref D),some (V.int many),some (V.ref B),some (V.ref P'),some (V.ref R),some (V.int mode),z6,z7,z8,z9,qJ,Lc,Ld,Le,Lf]/\cV.map (·.1)=vz.aO/\kI K H8 D S sc vz.p B bs.1 P' R cV vz.rows []/\Kept D H H8/\PG.c7 vz/\PG.nh (many+4-m) vz/\
   PG.ends bs.1.length mode 4 wk=PG.ends bs.1.length mode m vz/\vz.aO.length<=m+1/\m<=4/\vz.p<=90000/\∀x∈cV,H x.2.1=none/\H x.2.2=none,⟨4,cV,wk,rfl,ef,st,kp,ok,by rw[show many+4-4=many by lia];exact ln,rfl,by have:=ok.most;lia,zah _,by lia,Fo⟩,?_⟩
  rintro m σ H8 ⟨cV,vz,rfl,ef,st,kp,ok,ln,ee,pl,m4,Zf,Fo⟩
  walk_at "rd";refine⟨P',_,rfl,.inl (.of st.aO),?_⟩;rw[zad,zbk];have lf:cV.length=vz.aO.length:=by rw[<- ef,zad]
  refine cA (fun l1=>?_) (fun l1=>?_)
  ·obtain⟨n,rfl⟩:∃n,m=n+1:=⟨m-1,by lia⟩
   refine⟨fun σ H9=>∃(cV:List xp),σ=[some (V.ref D),some (V.int many),some (V.ref B),some (V.ref P'),some (V.ref R),some (V.int mode),z6,z7,z8,z9,qJ,Lc,Ld,Le,Lf]/\cV.map (·.1)=PG.close vz.aO/\kI K H9 D S sc vz.p B bs.1 P' R cV (vz.rows++[(PG.number bs.1.length vz.rows mode,.fin)]) []/\Kept D H H9/\∀x∈cV,H x.2.1=none/\H x.2.2=none,?_,?_⟩
   ·rintro σ H9 ⟨Xx,rfl,ef9,xD,k9,fr9⟩
    obtain⟨_,cl⟩:=PG.m7 ok.aO;refine⟨n,by lia,Xx,⟨vz.p,PG.close vz.aO,vz.rows++[(PG.number bs.1.length vz.rows mode,.fin)]⟩,rfl,ef9,xD,k9,PG.vS ok _,?_,?_,?_,by lia,Zf,fr9⟩
    ·have:=PG.yi ln (PG.number bs.1.length vz.rows mode);rw[show many+4-n=many+4-(n+1)+1 by lia];exact this
    ·rw[ee]
     conv=>lhs;unfold PG.ends
     rw[if_pos (by lia)]
    ·show (PG.close vz.aO).length<=n+1;lia
   ·obtain⟨pp,aO,rows⟩:=vz;simp only at *;have rl:rows.length<=200:=by have:=ln.2;simp only at this;lia
    match cV,aO,ef,lf with
    |(f',a,b)::(g,a',b')::UN,aO,ef,lf=>
     simp only[zaq] at ef;subst ef;have m4':=ok.most;simp only[zaj,zad] at m4';refine⟨D,S,sc,pp,B,bs.1,P',R,f',g,a,b,a',b',UN,rows,rfl,st,ok.aO.1,by have:=ln.1 g (by simp);lia,by lia,fun nY QS Ko mn=>?_⟩;have DX:∀(cV:List xp),(∀x∈cV,H x.2.1=none/\H x.2.2=none)->∀z o,z≠D->H z=some o->z ∉ gS D P' R cV:=by
      intro cV hf z o nz e hz;simp only[gS,zae,zaR] at hz;rcases hz with hz |rfl |rfl |⟨x,hx,hz⟩
      ·exact nz hz
      ·rw[e3] at e;cases e
      ·rw[e4] at e;cases e
      ·simp only[zaS,or_false] at hz;rcases hz with rfl |rfl
       ·rw[(hf x hx).1] at e;cases e
       ·rw[(hf x hx).2] at e;cases e
     have Fp:Kept D H nY:=⟨fun z o nz e=>Ko z o (DX _ Fo z o nz e) (kp.1 z o nz e),fun z hz=>QS z (kp.2 z hz)⟩
     obtain⟨rv,Ts,fR,lr⟩:=mn.rows;refine⟨.inl ⟨rfl,_,.of Ts⟩,B,R,bs.1,rows,mode,rfl,mn.box.rep,Rep.cg.mpr ⟨R,rv,rfl,.of Ts,fR.IM⟩,bl,by lia,fun Hc Hd q2 Zg=>?_⟩;have AO:=Hd.trans (au.new Zg (.lst [.int (PG.number bs.1.length rows mode),.str (jZ .fin)]));have B7:=mn.same AO;have Tf:=Fp.same AO;have Tt:=AO _ _ Ts;refine⟨R,rv,_,rfl,rfl,Tt,by lia,?_⟩;have nq2:¬O D P' R (({g with body:=g.body++[f'.told]},a',b')::UN) [] q2:=fun z=>z.elim ((mn.same Hd).fresh Zg) (by simp);refine⟨_,trivial,?_,B7.row Tt (k:=PG.number bs.1.length rows mode) (w:=.fin) (q:=q2) ah nq2,Tf.put e4 _,fun x hx=>?_⟩
     ·simp only[zaq];rfl
     ·rcases zae.mp hx with rfl |hx
      ·exact Fo (g,a',b') (by simp)
      ·exact Fo x (by simp[hx])
  ·have en:PG.ends bs.1.length mode m vz=vz:=by
    cases m with
    |zero=>rfl
    |succ m=>unfold PG.ends;rw[if_neg (by lia)]
   rw[en] at ee;rw[ee] at q;refine(GJ _ _).mpr ?_;walk_at "rd";obtain⟨pp,aO,rows⟩:=vz;simp only at *
   match cV,aO,ef,lf,ok,q with
   |[],aO,ef,lf,ok,q=>cases ef;exact ok.aO.elim
   |[(f',a,b)],aO,ef,lf,ok,q=>
    cases ef;obtain⟨hd,fi,xs,fa⟩:=st.frames _ (zak ..);obtain⟨rv,Ts,fR,lr⟩:=st.rows;refine cN (v:=.ref a) (.of st.aO) (ay (j:=0) rfl) (cN (v:=.ref b) (.of fa.fr) (ay (j:=1) rfl) fun t1 MJ=>?_);have s9:=au.new MJ (.tup [V.ref B,V.ref b]);have y9:(upd H8 t1 (.tup [V.ref B,V.ref b])) t1=some (.tup [V.ref B,V.ref b]):=ah;have xD:=st.same s9;have k9:=kp.same s9;intro l2 G8;have qA:=au.new G8 (.lst [V.ref t1,V.ref R]);have Fp:=k9.same qA;have nD:∀z,z∈gS D P' R [(f',a,b)]->z≠D->¬(fun z=>z=D) z:=fun z _ n=>n;have Xy:=st.nd;simp only[gS,zaK,zbx,zaC,zaH,zae,zaS,or_false,not_or] at Xy;have Zh:b≠D:=fun z=>Xy.1.2.2.2 z.symm;have Zi:R≠D:=fun z=>Xy.1.2.1 z.symm;have dD:=xD.a9.a9;have t1D:t1≠D:=fun z=>by rw[z] at MJ;rw[st.a9.a9] at MJ;cases MJ
    have l2D:l2≠D:=fun z=>by rw[z] at G8;rw[dD] at G8;cases G8
    have Qm:∀z,z=D->O D P' R [(f',a,b)] [] z:=fun z e=>.inl (by rw[e];simp[gS]);have fB:=(xD.box.sub Qm).up (aM.of qA:aM (fun z=>z=D) _ _);have fBd:=((fa.ok.sub Qm).up (aM.of s9:aM (fun z=>z=D) _ _)).up (aM.of qA:aM (fun z=>z=D) _ _);have fRw:=((fR.sub Qm).up (aM.of s9:aM (fun z=>z=D) _ _)).up (aM.of qA:aM (fun z=>z=D) _ _);have BnD:B≠D:=fun z=>NL (by rw[<- z];exact hB);exact q l2 t1 B b R _ Fp.1 ⟨_,Zf,xD.a9.same qA⟩ ah (qA _ _ y9) l2D t1D BnD Zh Zi fB (Fix.lst (qA _ _ (s9 _ _ fa.bd)) Zh fBd) (Fix.lst (qA _ _ (s9 _ _ Ts)) Zi fRw)
   |x::y::r,aO,ef,lf,ok,q=>exact absurd (by simp only[zaj];lia) l1
theorem t9:∀s:PG.bX,(V.str (jZ s.wd)=V.str (zab "while"))↔s.wd=.jc:=by
 intro s;cases s<;>simp only[PG.bX.wd]<;>decide +kernel
theorem Ag:∀s:PG.bX,(V.str (jZ s.wd)=V.str (zab "if"))↔s.wd=.ifs:=by
 intro s;cases s<;>simp only[PG.bX.wd]<;>decide +kernel
theorem Fs:∀s:PG.bX,(V.str (jZ s.wd)=V.str (zab "stop"))↔s.wd=.stop:=by
 intro s;cases s<;>simp only[PG.bX.wd]<;>decide +kernel
theorem Ft{K:zaa}{H:Hp}{d0 d1 d2 d3 d4 d5:Dp}{xs:List V}{ds:List Dp}(h:aI K H (d0::d1::d2::d3::d4::d5::ds) xs):∃v0 v1 v2 v3 v4 v5 r,xs=v0::v1::v2::v3::v4::v5::r/\Rep K H d5 v5/\aI K H ds r:=by
 rw[aI.aF] at h;obtain⟨v0,t0,rfl,_,h⟩:=h;rw[aI.aF] at h;obtain⟨v1,t1,rfl,_,h⟩:=h;rw[aI.aF] at h;obtain⟨v2,t2,rfl,_,h⟩:=h;rw[aI.aF] at h;obtain⟨v3,t3,rfl,_,h⟩:=h;rw[aI.aF] at h;obtain⟨v4,t4,rfl,_,h⟩:=h;rw[aI.aF] at h;obtain⟨v5,t5,rfl,e5,h⟩:=h;exact⟨v0,v1,v2,v3,v4,v5,t5,rfl,e5,h⟩
theorem mq(T:Tx K mg t):bz P w K mg base de 1 t.cX t.cR ["body", "behind"] (oE K):=by
 refine T.dX.F.mB rM (fun vs H Q E h=>?_) (fun dY A outer s H vs Q E hr h=>?_)
 ·obtain⟨_,_,_,rfl,_⟩:=h;rfl
 obtain⟨b,body,x,rfl,rb,lb,q⟩:=h;have nd:=rM.nd;refine⟨_,[some (V.ref b),some (V.int x)],(ag (bh (AZ (pv 0) (fun _=>rfl))
 (aq (aJ (aK aV (aK bJ (pv 0) ao ax) ao ax)))
 aQ)
 (aq (aJ (pv 1)))),rfl,?_⟩
 walk_at "rd";rw[Rep.cg] at rb;obtain⟨_,xs,e,hx,rs⟩:=rb;cases e;have line:zdg=2 ^ 24:=rfl;cases body with
 |nil=>
  rw[zbl,aI.bI] at rs;subst rs;exact⟨false,.inl ⟨_,hx,rfl⟩,q⟩
 |cons st r=>
  rw[zaq,aI.aF] at rs;obtain⟨v,t,rfl,rv,rs⟩:=rs;obtain⟨a,ys,rfl,hs⟩:=iz st rv;refine⟨true,.inl ⟨_,hx,rfl⟩,?_⟩;refine(if_pos rfl).mpr (cN (v:=.ref a) hx (ay (j:=0) rfl) ?_);exact aN hs (v:=.int st.row) (ay (j:=1) rfl) q
theorem xc(T:Tx K mg t):bz P w K mg base de 1 t.eM t.fw ["statement", "after"] (Bt K):=by
 refine T.iS.F.mB nQ (fun vs H Q E h=>?_) (fun dY A outer s H vs Q E hr h=>?_)
 ·obtain⟨_,_,_,rfl,_⟩:=h;rfl
 obtain⟨v,st,x,rfl,rv,q⟩:=h;have nd:=nQ.nd;refine⟨_,[some v,some (V.int x)],(ag (bh (aD cf (aK aV (pv 0) ao ax) aY (aP _))
 (aq (aJ (aK aV (pv 0) ao ax)))
 aQ)
 (aq (aJ (pv 1)))),rfl,?_⟩
 obtain⟨a,ys,rfl,hs⟩:=iz st rv;walk_at "rd";refine aN hs (ay (j:=0) rfl) ⟨rfl,cA (fun e=>?_) (fun e=>?_)⟩
 ·have ew:=(t9 st).mp e;refine aN hs (v:=.int st.row) (ay (j:=1) rfl) ?_;cases st<;>first |exact q |cases ew
 ·have ew:st.wd≠.jc:=fun z=>e ((t9 st).mpr z);cases st<;>first |exact q |exact absurd rfl ew
theorem sG(T:Tx K mg t):bz P w K mg base de 1 t.fC t.fS ["statement"] (v8 K):=by
 refine T.i6.F.mB rN (fun vs H Q E h=>?_) (fun dY A outer s H vs Q E hr h=>?_)
 ·obtain⟨_,_,_,rfl,_⟩:=h;rfl
 obtain⟨v,st,H0,rfl,rv,s0,q⟩:=h;have nd:=rN.nd;refine⟨_,[some v],(ag (bh (aD cf (aK aV (pv 0) ao ax) aY (aP _))
 (aq (aJ (bg (ai (aK aV (pv 0) ao ax) (ai (aK aV (pv 0) ao ax) ae bq) bq))))
 aQ)
 (ag (bh (aD cf (aK aV (pv 0) ao ax) aY (aP _))
 (aq (aJ (bg (ai (aK aV (pv 0) ao ax) ae bq))))
 aQ)
 (aq (aJ (bg ae))))),rfl,?_⟩
 obtain⟨a,ys,rfl,hs⟩:=iz st rv;have hs:=s0.cI hs;walk_at "rd";refine aN hs (ay (j:=0) rfl) ⟨rfl,cA (fun e=>?_) (fun e=>aN hs (ay (j:=0) rfl) ⟨rfl,cA (fun e2=>?_) (fun e2=>?_)⟩)⟩
 ·have ew:=(Ag st).mp e;cases st<;>first |(exfalso;cases ew;done) |skip
  rename_i k sg l r x y;rw[eT,Rep.br] at rv;obtain⟨_,xs,e0,hx,rs⟩:=rv;cases e0;obtain⟨v0,v1,v2,v3,v4,v5,rr,rfl,r5,rs⟩:=Ft rs;rw[aI.aF] at rs;obtain⟨v6,t6,rfl,r6,_⟩:=rs;refine aN (s0.cI hx) (v:=v5) (ay (j:=5) rfl) (aN (s0.cI hx) (v:=v6) (ay (j:=6) rfl) fun p hp=>?_);rw[gi] at r5 r6;exact q p _ _ (au.new hp _) hp ah (.cons r5 (.cons r6 .nil))
 ·have ew:=(t9 st).mp e2;cases st<;>first |(exfalso;cases ew;done) |skip
  rename_i k sg l r x;rw[eT,Rep.br] at rv;obtain⟨_,xs,e0,hx,rs⟩:=rv;cases e0;obtain⟨v0,v1,v2,v3,v4,v5,rr,rfl,r5,rs⟩:=Ft rs;refine aN (s0.cI hx) (v:=v5) (ay (j:=5) rfl) fun p hp=>?_;rw[gi] at r5;exact q p _ _ (au.new hp _) hp ah (.cons r5 .nil)
 ·intro p hp;have e1:st.wd≠.ifs:=fun z=>e ((Ag st).mpr z);have e2':st.wd≠.jc:=fun z=>e2 ((t9 st).mpr z);refine q p [] _ (au.new hp _) hp ah ?_;cases st<;>first |exact .nil |exact absurd rfl e1 |exact absurd rfl e2'
theorem DY(T:Tx K mg t):bz P w K mg base de 2 t.jJ t.jR ["statement", "after"] (IX K):=by
 have cH:bz P w K mg base de 1 t.cX t.cR ["body", "behind"] (oE K):=mq T;refine T.oJ.F.mB wN (fun vs H Q E h=>?_) (fun dY A outer s H vs Q E hr h=>?_)
 ·obtain⟨_,_,_,rfl,_⟩:=h;rfl
 obtain⟨v,st,x,rfl,rv,hl,q⟩:=h;have nd:=wN.nd;obtain⟨Fi,sj,sk⟩:=T.wY;refine⟨_,[some v,some (V.int x),none],(ag (eE 2 nd (aK aV (pv 0) ao ax))
 (ag (bh (aD cf (pv 2) aY (aP _))
 (aq (aJ (a7 (ai (k0 rfl sj sk) ae lE))))
 aQ)
 (ag (bh (aD cf (pv 2) aY (aP _))
 (aq (aJ (a7 (ai (dC cH T.dX hr (ai (aK aV (pv 0) ao ax) (a8 1 ae) bq)) (ai (dC cH T.dX hr (ai (aK aV (pv 0) ao ax) (a8 1 ae) bq)) ae bR) bR))))
 aQ)
 (ag (bh (aD cf (pv 2) aY (aP _))
 (aq (aJ (a7 (ai (dC cH T.dX hr (ai (aK aV (pv 0) ao ax) (ai (aK aV (pv 0) ao ax) ae bq) bq)) (a8 1 ae) bR))))
 aQ)
 (aq (aJ (a7 (a8 1 ae)))))))),rfl,?_⟩
 obtain⟨a,ys,rfl,hs⟩:=iz st rv;refine aw fun U1 fM=>?_;walk_at "rd";refine aN hs (ay (j:=0) rfl) ((fM _ _).mpr ?_);walk_at "rd";have Kz:∀b∈aR st,b.length<=100000:=hl;refine cA (fun e=>?_) (fun e=>cA (fun e1=>?_) (fun e1=>cA (fun e2=>?_) (fun e2=>?_)))
 ·have ew:=(Fs st).mp (by rw[e]);cases st<;>first |(exfalso;cases ew;done) |skip
  intro p hp;exact q _ _ (au.new hp _) (Rep.new hp (.cons (Rep.bF.mpr rfl) .nil))
 ·have ew:=(Ag st).mp (by rw[e1]);cases st<;>first |(exfalso;cases ew;done) |skip
  rename_i k sg l r y z;rw[eT,Rep.br] at rv;obtain⟨_,xs,e0,hx,rs⟩:=rv;cases e0;obtain⟨v0,v1,v2,v3,v4,v5,rr,rfl,r5,rs⟩:=Ft rs;rw[aI.aF] at rs;obtain⟨v6,t6,rfl,r6,_⟩:=rs;rw[gi] at r5 r6;obtain⟨a5,_,rfl,_⟩:=Rep.cg.mp r5;obtain⟨a6,_,rfl,_⟩:=Rep.cg.mp r6;refine aN hx (v:=.ref a5) (ay (j:=5) rfl) ⟨a5,y,x,rfl,r5,Kz y (by simp[aR]),aN hx (v:=.ref a6) (ay (j:=6) rfl) ⟨a6,z,x,rfl,r6,Kz z (by simp[aR]),fun p hp=>?_⟩⟩;exact q _ _ (au.new hp _) (Rep.new hp (.cons (Rep.bF.mpr rfl) (.cons (Rep.bF.mpr rfl) .nil)))
 ·have ew:=(t9 st).mp (by rw[e2]);cases st<;>first |(exfalso;cases ew;done) |skip
  rename_i k sg l r y;rw[eT,Rep.br] at rv;obtain⟨_,xs,e0,hx,rs⟩:=rv;cases e0;obtain⟨v0,v1,v2,v3,v4,v5,rr,rfl,r5,rs⟩:=Ft rs;rw[gi] at r5;obtain⟨a5,_,rfl,_⟩:=Rep.cg.mp r5;refine aN hx (v:=.ref a5) (ay (j:=5) rfl) (aN hs (v:=.int k) (ay (j:=1) rfl) ⟨a5,y,k,rfl,r5,Kz y (by simp[aR]),fun p hp=>?_⟩);exact q _ _ (au.new hp _) (Rep.new hp (.cons (Rep.bF.mpr rfl) (.cons (Rep.bF.mpr rfl) .nil)))
 ·intro p hp;have n1:st.wd≠.stop:=fun z=>e (V.str.inj ((Fs st).mpr z));have n2:st.wd≠.ifs:=fun z=>e1 (V.str.inj ((Ag st).mpr z));have n3:st.wd≠.jc:=fun z=>e2 (V.str.inj ((t9 st).mpr z));have ew:nv st x=[x]:=by
   cases st<;>first |rfl |exact absurd rfl n1 |exact absurd rfl n2 |exact absurd rfl n3
  rw[ew] at q;exact q _ _ (au.new hp _) (Rep.new hp (.cons (Rep.bF.mpr rfl) .nil))
theorem yM{K:zaa}{H:Hp}:∀(n:Nat) {ds:List PG.bX} {vs:List V},aI K H (ds.map eT) vs->aI K H ((ds.drop n).map eT) (vs.drop n)
 |0,_,_,h=>h
 |n+1,[],vs,h=>by
  rw[zbl,aI.bI] at h;subst h;exact .nil
 |n+1,d::ds,vs,h=>by
  rw[zaq,aI.aF] at h;obtain⟨v,t,rfl,_,h⟩:=h;exact yM n h
theorem KA(T:Tx K mg t){n:Nat}(jX:bz P w K mg base de (n+2) t.c8 t.dc ["body", "behind"] (vn K n)) :
 bz P w K mg base de (n+3) t.c8 t.dc ["body", "behind"] (vn K (n+1)):=by
 have cH:bz P w K mg base de 1 t.cX t.cR ["body", "behind"] (oE K):=mq T;have GS:bz P w K mg base de 2 t.jJ t.jR ["statement", "after"] (IX K):=DY T;have og:bz P w K mg base de 1 t.fC t.fS ["statement"] (v8 K):=sG T;have xG:bz P w K mg base de 1 t.eM t.fw ["statement", "after"] (Bt K):=xc T;refine T.fG.F.mB mG (fun vs H Q E h=>?_) (fun dY A outer s H vs Q E hr h=>?_)
 ·obtain⟨_,_,_,rfl,_⟩:=h;rfl
 obtain⟨b,body,x,rfl,rb,hd,hf,q⟩:=h;have nd:=mG.nd;refine⟨_,[some (V.ref b),some (V.int x),none,none,none,none,none],(ag (eE 2 nd (bg ae))
 (ag (eS PassesOwn.never rfl (EG rfl T.ke (a8 0 ae)) (yS rfl (ck (pH 3 nd) (ck (pH 4 nd) lh)))
 (ag (eE 5 nd (dC cH T.dX hr (ai (qT vj (pv 0) (vi (aW dE (pv 3) ao)) vh) (a8 1 ae) bq)))
 (ag (bP (gh zar zau zav bQ (pv 2) (ai (a7 (ai (aK aV (pv 4) ao ax) (ai (aK aV (pv 4) ao ax) (ai (dC GS T.oJ hr (a8 4 (a8 5 ae))) ae bR) bq) bq)) ae ff)))
 (aq (eS PassesOwn.never rfl (dJ (dC og T.i6 hr (a8 4 ae))) (pH 6 nd)
 (aq (bP (gh zar zb1 zb2 tq (pv 2) (ai (dC jX T.fG hr (a8 6 (ai (dC xG T.iS hr (a8 4 (a8 5 ae))) ae bR))) ae bR)))))))))
 (aq (aJ (pv 2))))),rfl,?_⟩
 have line:zdg=2 ^ 24:=rfl;rw[Rep.cg] at rb;obtain⟨_,xs,e,hx,rs⟩:=rb;cases e;have lx:xs.length=body.length:=by rw[rs.length,zad]
 have lb:=kJ body;refine aw fun U1 fM=>?_;walk_at "rd";intro tl B8;have s1:=au.new B8 (.lst []);have y1:(upd H tl (.lst [])) tl=some (.lst []):=ah;generalize upd H tl (.lst [])=H1 at *;refine(fM _ _).mpr (aw fun U2 ig=>?_);clear fM;walk_at "rd";obtain⟨Pv,mN,mO⟩:=J9 fun (i:Nat) (σ:St) (H2:Hp) zq=>∀(z3 z4 z5 z6:Option V) (pre:List PG.dN) (us:List V),σ=[some (V.ref b),some (V.int x),some (V.ref tl),z3,z4,z5,z6]->au H H2->H2 tl=some (.lst us)->dS K (·=tl) H2 (pre.map fh) us->us.length=pre.length->pre++PG.aL (body.drop i) x=PG.aL body x->zq;refine⟨_,rfl,⟨xs,s1.seq hx⟩,Be (K:=K) (a:=b) (xs:=xs) Pv ((mN _ _ _ fun _ zk=>zk none none none none [] [] rfl s1 y1 .nil rfl rfl)) (fun i σ H2 _ hv=>?_) ?_ ?_⟩
 ·refine mO _ _ _ hv _ fun _ _ _ _ _ _ _ s2 _ _ _ _=>?_;exact s2.seq hx
 ·intro i y σ H2 tp hi hv UO;refine mO _ _ _ hv _ fun z3 z4 z5 z6 pre us xA s2 y2 f2 lu ep=>?_;subst xA;clear hv;have done:=fun σ H7=>mN (i+1) σ H7;have li:i<body.length:=by have:=(zam.mp hi).1;lia
  obtain⟨v,hv,rv⟩:=rs.get (i:=i) (d:=eT body[i]) (by rw[zap,zac li];rfl);rw[hi] at hv;cases hv;have ed:body.drop i=body[i]::body.drop (i+1):=zbd li;rw[ed,PG.aL,IV] at ep;have mem:body[i]∈body:=zat li;obtain⟨fm,dm⟩:=tK body _ mem;generalize K1:body[i]=st at *;have s3:=s2.trans (au.new UO (.tup [V.int i,y]));have n3:tl≠tp:=aj y2 UO;have y3:=au.new UO (.tup [V.int i,y]) _ _ y2;have f3:=f2.up (.of (au.new UO (.tup [V.int i,y])));have t3:(upd H2 tp (.tup [V.int i,y])) tp=some (.tup [V.int i,y]):=ah;generalize upd H2 tp (.tup [V.int i,y])=H3 at *;obtain⟨sa,ys,rfl,hs⟩:=iz st rv;refine⟨tp,_,rfl,.of t3,rfl,_,_,rfl,_,_,rfl,rfl,?_⟩;refine aw fun U3 jF=>?_;walk_at "rd";refine⟨_,rfl,b,_,rfl,s3.seq hx,fun p4 xr=>?_⟩;have ec:uQ xs (some ((i:Int)+1)) none=xs.drop (i+1):=by
   unfold uQ;rw[HT.qS,show (i:Int)+1=((i+1:Nat):Int) by lia,HT.vg];rw[show min (i+1) xs.length=i+1 by lia];exact zby (by rw[zbn];lia)
  rw[ec];have s4:=s3.trans (au.new xr (.lst (xs.drop (i+1))));have y4:=au.new xr (.lst (xs.drop (i+1))) _ _ y3;have f4:=f3.up (.of (au.new xr (.lst (xs.drop (i+1)))));have l4:(upd H3 p4 (.lst (xs.drop (i+1)))) p4=some (.lst (xs.drop (i+1))):=ah;generalize upd H3 p4 (.lst (xs.drop (i+1)))=H4 at *;have rd4:Rep K H4 (.lst ((body.drop (i+1)).map eT)) (.ref p4):=Rep.cg.mpr ⟨p4,_,rfl,.of l4,yM (i+1) (rs.mono s4)⟩;refine⟨p4,body.drop (i+1),x,rfl,rd4,by rw[zbn];lia,(jF _ _).mpr (aw fun U4 mQ=>?_)⟩;clear jF;generalize PG.bc (body.drop (i+1)) x=af at *;have Zj:=(show cu K H4 sa _ from s4.cI hs)
  walk_at "rd";refine⟨.inl ⟨rfl,_,.of y4⟩,aN Zj (v:=.int st.row) (ay (j:=1) rfl) (aN Zj (v:=.str (jZ st.wd)) (ay (j:=0) rfl) ?_)⟩;have sh:IW st:=fun bb Ww=>by
   have:=(lK st bb Ww).1;have:=kJ bb;lia
  refine⟨.ref sa,st,af,rfl,rv.mono s4,sh,fun u H5 s5 ru p6 nX=>?_⟩;have y5:=s5 _ _ y4;have f5:=f4.up (.of s5);have fu:Fix K (·=tl) H5 (.tup ((nv st af).map .int)) u:=OV y5 (by rw[G9];exact tI _) ru;have n6:p6≠tl:=(aj y5 nX).symm;have s6:=au.new nX (.tup [V.int st.row,V.str (jZ st.wd),u]);have ft:Fix K (·=tl) (upd H5 p6 (.tup [V.int st.row,V.str (jZ st.wd),u])) (fh (st.row,st.wd,nv st af)) (.ref p6):=Fix.tup ah n6 (.cons .int (.cons .str (.cons (fu.up (.of s6)) .nil)));have f6:=f5.up (.of s6);have y6:=s6 _ _ y5;have s46:=(s4.trans s5).trans s6;generalize upd H5 p6 (.tup [V.int st.row,V.str (jZ st.wd),u])=H6 at *;have PQ:pre.length<=1000:=by
   have h1:=congrArg za9 ep;have h2:=congrArg za9 (PG.cY body x);simp only[zal,zad,zaj] at h1 h2;lia
  refine⟨tl,us,_,rfl,rfl,y6,by lia,?_⟩;have s7:au H (upd H6 tl (.lst (us++[V.ref p6]))):=fun z o e=>by rw[av (aj e B8)];exact s46 z o e
  have f7:=(f6.snoc ft).up (aM.refl.put (O:=(·=tl)) rfl (.lst (us++[V.ref p6])));have y7:(upd H6 tl (.lst (us++[V.ref p6]))) tl=some (.lst (us++[V.ref p6])):=ah;generalize upd H6 tl (.lst (us++[V.ref p6]))=H7 at *;refine(mQ _ _).mpr ?_;clear mQ;refine gR fun U hU=>?_;walk_at "rd";refine⟨.ref sa,st,H,rfl,rv,s7,fun l8 bv H8 s8 Zk y8 r8=>⟨l8,rfl,⟨bv,.of y8⟩,hU _ _ ?_⟩⟩;have PY:bv.length=(aR st).length:=by rw[r8.length,zad]
  have l8t:l8≠tl:=fun z=>by rw[z,y7] at Zk;cases Zk
  obtain⟨Pw,B9,qD⟩:=J9 fun (j:Nat) (σ:St) (H9:Hp) zq=>∀(z6:Option V) (us:List V) (Ca:List PG.dN),σ=[some (V.ref b),some (V.int x),some (V.ref tl),some (V.int i),some (V.ref sa),some (V.int af),z6]->au H H9->(∀z o,z≠tl->H8 z=some o->H9 z=some o)->H9 tl=some (.lst us)->dS K (·=tl) H9 (Ca.map fh) us->us.length=Ca.length->Ca++((aR st).drop j).flatMap (fun bb=>PG.aL bb (gU st af))=pre++(st.row,st.wd,nv st af)::(aR st).flatMap (fun bb=>PG.aL bb (gU st af))->zq;refine gO (K:=K) (a:=l8) (xs:=bv) Pw ((B9 _ _ _ fun _ zk=>zk z6 _ (pre++[(st.row,st.wd,nv st af)]) rfl (s7.trans s8) (fun z o _ e=>e) (s8 _ _ y7) (by rw[zaw];exact f7.up (.of s8)) (by simp[lu]) (by simp))) (fun j σ H9 _ hv=>?_) ?_ ?_
  ·refine qD _ _ _ hv _ fun _ _ _ _ _ k9 _ _ _ _=>?_;exact .of (k9 _ _ l8t y8)
  ·intro j y σ H9 hj hv;refine qD _ _ _ hv _ fun z6' Cz Ca xA s9 k9 y9 f9 Xz e9=>?_;subst xA;clear hv;have lj:j<(aR st).length:=by have:=(zam.mp hj).1;lia
   obtain⟨v,hv,rb⟩:=r8.get (i:=j) (d:=.lst ((aR st)[j].map eT)) (by rw[zap,zac lj];rfl);rw[hj] at hv;cases hv;have mj:(aR st)[j]∈aR st:=zat lj;obtain⟨fb,db⟩:=lK st _ mj;have ej:(aR st).drop j=(aR st)[j]::(aR st).drop (j+1):=zbd lj;rw[ej,zaK] at e9;generalize (aR st)[j]=bb at *;obtain⟨ab,_,rfl,_⟩:=Rep.cg.mp rb;walk_at "rd";refine⟨.inl ⟨rfl,_,.of y9⟩,.ref sa,st,af,rfl,rv.mono s9,?_⟩;refine⟨ab,bb,_,rfl,rb.mono s9,by lia,by lia,fun UE MK nY qA WK QQ QR=>?_⟩;have Tu:=qA _ _ y9;have Tv:=f9.up (.of qA);have g10:dS K (·=tl) nY ((PG.aL bb (gU st af)).map fh) MK:=ES Tu (tJ _) QR;have UE:MK.length=(PG.aL bb (gU st af)).length:=by rw[QR.length,zad]
   have tot:Ca.length+(PG.aL bb (gU st af)).length<=2000:=by
    have h1:=congrArg za9 e9;have h2:=congrArg za9 ep;have h3:=congrArg za9 (PG.cY body x);simp only[zal,zad,zaj] at h1 h2 h3;lia
   refine⟨tl,_,Cz,MK,rfl,rfl,Tu,QQ,by lia,?_⟩;refine(B9 _ _ _ fun _ zk=>zk _ (Cz++MK) (Ca++PG.aL bb (gU st af)) rfl (fun z o e=>?_) (fun z o nz e=>?_) ah ?_ (by simp[Xz,UE]) (by rw[<- e9];simp))
   ·rw[av (aj e B8)];exact qA _ _ (s9 _ _ e)
   ·rw[av nz];exact qA _ _ (k9 z o nz e)
   ·rw[zaw];exact(sE Tv g10).up (aM.refl.put (O:=(·=tl)) rfl _)
  ·intro σ H9 hv;refine qD _ _ _ hv _ fun z6' Cz Ca xB s9 k9 y9 f9 Xz e9=>?_;subst xB;rw[PY,List.drop_length,zbx,zaC] at e9;refine done _ _ (fun _ zk=>zk _ _ _ _ Ca Cz rfl s9 y9 f9 Xz ?_);rw[e9,<- ep];simp
 ·intro σ H2 hv;refine mO _ _ _ hv _ fun z3 z4 z5 z6 pre us xB s2 y2 f2 lu ep=>?_;subst xB;rw[lx,List.drop_length,PG.aL,zaC] at ep;refine(ig _ _).mpr ?_;walk_at "rd";rw[ep] at f2;exact q tl us H2 s2 B8 y2 f2.IM
theorem yN(T:Tx K mg t):∀n,bz P w K mg base de (n+2) t.c8 t.dc ["body", "behind"] (vn K n)
 |0=>by
  have no:∀vs H Q E,¬vn K 0 vs H Q E:=fun vs H Q E h=>by obtain⟨_,_,_,_,_,h,_⟩:=h;lia
  exact⟨fun vs H Q E h=>absurd h (no vs H Q E),fun A outer s H args us vs Q E _ _ _ _ h=>absurd h (no vs H Q E)⟩
 |n+1=>KA T (yN T n)
theorem Fu(T:Tx K mg t):bz P w K mg base de 7 t.nV t.lX ["program"] (zt K):=by
 have jX:=yN (P:=P) (w:=w) (base:=base) T 4;refine T.wV.F.mB Fd (fun vs H Q E h=>?_) (fun dY A outer s H vs Q E hr h=>?_)
 ·obtain⟨_,_,rfl,_⟩:=h;rfl
 obtain⟨v,pr,rfl,rp,hd,hf,q⟩:=h;have nd:=Fd.nd;obtain⟨Fi,sj,sk⟩:=T.wY;refine⟨_,[some v],(aq (aJ (dC jX T.fG hr (ai (aK aV (pv 0) ao ax) (ai (k0 rfl sj sk) ae lE) bq)))),rfl,?_⟩;unfold jh at rp;rw[Rep.br] at rp;obtain⟨a,xs,rfl,hx,rs⟩:=rp;rw[aI.aF] at rs;obtain⟨v1,t1,rfl,r1,rs⟩:=rs;rw[aI.aF] at rs;obtain⟨v2,t2,rfl,r2,rs⟩:=rs;obtain⟨b,_,rfl,_⟩:=Rep.cg.mp r2;walk_at "rd";refine aN hx (v:=.ref b) (ay (j:=1) rfl) ?_;exact⟨b,pr.body,0,rfl,r2,by lia,hf,fun l us H' s' hl y r=>q l us H' s' hl y r⟩
theorem KC(T:Tx K mg t){n:Nat}(cK:bz P w K mg base de (n+2) t.bL t.bV ["body"] (lL K n)) :
 bz P w K mg base de (n+3) t.bL t.bV ["body"] (lL K (n+1)):=by
 have og:bz P w K mg base de 1 t.fC t.fS ["statement"] (v8 K):=sG T;refine T.eG.F.mB kQ (fun vs H Q E h=>?_) (fun dY A outer s H vs Q E hr h=>?_)
 ·obtain⟨_,_,_,rfl,_⟩:=h;rfl
 obtain⟨b,body,H0,rfl,s0,rb,hd,hf,q⟩:=h;have nd:=kQ.nd;refine⟨_,[some (V.ref b),none,none,none],(ag (eE 1 nd (bg ae))
 (ag (eS PassesOwn.never rfl (dJ (pv 0)) (pH 2 nd)
 (ag (bP (gh zar zau zav bQ (pv 1) (a8 2 ae)))
 (aq (eS PassesOwn.never rfl (dJ (dC og T.i6 hr (a8 2 ae))) (pH 3 nd)
 (aq (bP (gh zar zb1 zb2 tq (pv 1) (ai (dC cK T.eG hr (a8 3 ae)) ae bR))))))))
 (aq (aJ (pv 1))))),rfl,?_⟩
 have line:zdg=2 ^ 24:=rfl;rw[Rep.cg] at rb;obtain⟨_,xs,e,hx,rs⟩:=rb;cases e;have lx:xs.length=body.length:=by rw[rs.length,zad]
 have lb:=kJ body;have sl:=wg body;refine aw fun U1 fM=>?_;walk_at "rd";intro d Tq;have s1:=au.new Tq (.lst []);have y1:(upd H d (.lst [])) d=some (.lst []):=ah;generalize upd H d (.lst [])=H1 at *;refine(fM _ _).mpr (aw fun U2 ig=>?_);clear fM;refine gR fun U hU=>?_;walk_at "rd";refine⟨⟨xs,(s0.trans s1).seq hx⟩,hU _ _ ?_⟩;clear hU;obtain⟨Pv,mN,mO⟩:=J9 fun (i:Nat) (σ:St) (H3:Hp) zq=>∀(z2 z3:Option V) (us:List V),σ=[some (V.ref b),some (V.ref d),z2,z3]->au H H3->us.length=(PG.aB (body.take i)).length->H3 d=some (.lst us)->aI K H0 ((PG.aB (body.take i)).map eT) us->zq;refine gO (K:=K) (a:=b) (xs:=xs) Pv ((mN _ _ _ fun _ zk=>zk none none [] rfl s1 rfl y1 .nil)) (fun i σ H3 _ hv=>?_) ?_ ?_
 ·refine mO _ _ _ hv _ fun _ _ _ _ s3 _ _ _=>?_;exact(s0.trans s3).seq hx
 ·intro i y σ H3 hi hv;refine mO _ _ _ hv _ fun z2 z3 us xA s3 lu y3 r3=>?_;subst xA;clear hv;have done:=fun σ H7=>mN (i+1) σ H7;have li:i<body.length:=by have:=(zam.mp hi).1;lia
  obtain⟨v,hv,rv⟩:=rs.get (i:=i) (d:=eT body[i]) (by rw[zap,zac li];rfl);rw[hi] at hv;cases hv;have mem:body[i]∈body:=zat li;obtain⟨fm,dm⟩:=tK body _ mem;have et:PG.aB (body.take (i+1))=PG.aB (body.take i)++body[i]::(aR body[i]).flatMap PG.aB:=by
   rw[za7 li,we,I0,LP]
  rw[et] at done;have eb:PG.aB body=(PG.aB (body.take i)++body[i]::(aR body[i]).flatMap PG.aB)++PG.aB (body.drop (i+1)):=by
   rw[<- et,<- we,zcb]
  rw[eb] at sl;have sl:(PG.aB (body.take i)++body[i]::(aR body[i]).flatMap PG.aB).length<=1000:=by
   rw[zal] at sl;lia
  generalize body[i]=st at *;generalize PG.aB (body.take i)=pre at *;simp only[dI,za6];refine aw fun U3 jF=>?_;walk_at "rd";refine⟨.inl ⟨rfl,_,.of y3⟩,d,us,y,rfl,rfl,y3,by simp only[zal,zaj] at sl;lia,(jF _ _).mpr ?_⟩;clear jF;have y4:(upd H3 d (.lst (us++[y]))) d=some (.lst (us++[y])):=ah;have s4:au H (upd H3 d (.lst (us++[y]))):=fun z o e=>by rw[av (aj e Tq)];exact s3 z o e
  generalize upd H3 d (.lst (us++[y]))=H4 at *;refine gR fun U hU=>?_;walk_at "rd";refine⟨y,st,H0,rfl,rv,s0.trans s4,fun p bv H5 Zl hp h5 rc=>⟨p,rfl,⟨_,.of h5⟩,hU _ _ ?_⟩⟩;clear hU;have s5:=s4.trans Zl;have y5:=Zl _ _ y4;have npd:p≠d:=(aj y4 hp).symm;have PY:bv.length=(aR st).length:=by rw[rc.length,zad]
  obtain⟨Pw,B9,qD⟩:=J9 fun (j:Nat) (σ:St) (H6:Hp) zq=>∀(z3:Option V) (Cz:List V),σ=[some (V.ref b),some (V.ref d),some y,z3]->au H H6->H6 p=some (.lst bv)->Cz.length=(pre++st::((aR st).take j).flatMap PG.aB).length->H6 d=some (.lst Cz)->aI K H0 ((pre++st::((aR st).take j).flatMap PG.aB).map eT) Cz->zq;refine gO (K:=K) (a:=p) (xs:=bv) Pw ((B9 _ _ _ fun _ zk=>zk z3 (us++[y]) rfl s5 h5 (by simp[lu]) y5 ?_)) (fun j σ H6 _ hv=>?_) ?_ ?_
  ·rw[List.take_zero,zbx,zaw];exact r3.append (.cons rv .nil)
  ·refine qD _ _ _ hv _ fun _ _ _ _ h6 _ _ _=>?_;exact .of h6
  ·intro j y' σ H6 hj hv;refine qD _ _ _ hv _ fun z3' Cz xA s6 h6 XA y6 r6=>?_;subst xA;clear hv;have NV:=fun σ H7=>B9 (j+1) σ H7;have lj:j<(aR st).length:=by have:=(zam.mp hj).1;lia
   obtain⟨v,hv,Zm⟩:=rc.get (i:=j) (d:=.lst ((aR st)[j].map eT)) (by rw[zap,zac lj];rfl);rw[hj] at hv;cases hv;have mj:(aR st)[j]∈aR st:=zat lj;obtain⟨fb,db⟩:=lK st _ mj;have ej:((aR st).take (j+1)).flatMap PG.aB=((aR st).take j).flatMap PG.aB++PG.aB (aR st)[j]:=by
    rw[za7 lj,zbH];simp
   have ea:(aR st).flatMap PG.aB=((aR st).take j).flatMap PG.aB++PG.aB (aR st)[j]++((aR st).drop (j+1)).flatMap PG.aB:=by
    rw[<- ej,<- zbH,zcb]
   rw[ej] at NV;rw[ea] at sl;generalize (aR st)[j]=bb at *;generalize ((aR st).take j).flatMap PG.aB=mid at *;generalize ((aR st).drop (j+1)).flatMap PG.aB=rest at *;have G7:(pre++st::mid).length+(PG.aB bb).length<=1000:=by
    simp only[zal,zaj] at sl ⊢;lia
   obtain⟨ab,_,rfl,_⟩:=Rep.cg.mp Zm;simp only[dI,za6];walk_at "rd";refine⟨.inl ⟨rfl,_,.of y6⟩,ab,bb,H0,rfl,s0.trans s6,Zm,by lia,by lia,fun d2 OY H7 s7 hd2 y7 r7=>?_⟩;have l2:OY.length=(PG.aB bb).length:=by rw[r7.length,zad]
   refine⟨d,d2,_,_,rfl,rfl,s7 _ _ y6,y7,by lia,?_⟩;refine NV _ _ (fun _ zk=>zk _ (Cz++OY) rfl (fun z o e=>by rw[av (aj e Tq)];exact s7 _ _ (s6 z o e)) (by rw[av npd];exact s7 _ _ h6) (by simp only[zal,zaj] at *;lia) ah ?_);rw[show pre++st::(mid++PG.aB bb)=(pre++st::mid)++PG.aB bb by simp,zaw];exact r6.append r7
  ·intro σ H6 hv;refine qD _ _ _ hv _ fun z3' Cz xB s6 h6 XA y6 r6=>?_;subst xB;rw[PY,zbp] at XA r6;exact done _ _ (fun _ zk=>zk _ _ Cz rfl s6 XA y6 r6)
 ·intro σ H3 hv;refine mO _ _ _ hv _ fun z2 z3 us xB s3 lu y3 r3=>?_;subst xB;rw[lx,zbp] at lu r3;refine(ig _ _).mpr ?_;walk_at "rd";exact q d us H3 s3 Tq y3 r3
theorem yO(T:Tx K mg t):∀n,bz P w K mg base de (n+2) t.bL t.bV ["body"] (lL K n)
 |0=>by
  have no:∀vs H Q E,¬lL K 0 vs H Q E:=fun vs H Q E h=>by obtain⟨_,_,_,_,_,_,h,_⟩:=h;lia
  exact⟨fun vs H Q E h=>absurd h (no vs H Q E),fun A outer s H args us vs Q E _ _ _ _ h=>absurd h (no vs H Q E)⟩
 |n+1=>KC T (yO T n)
theorem Qn(st:PG.bX):jZ st.wd≠zab "end":=by
 have k:∀w:PG.Wd,w≠.fin->jZ w≠zab "end":=by
  intro w h;cases w<;>first |exact absurd rfl h |decide +kernel
 exact k _ (by cases st<;>(intro z;cases z))
theorem pT(T:Tx K mg t):bz P w K mg base de 5 t.g7 t.iM ["chart", "standing"] (Pa K t.aE):=by
 have iE:=mh (P:=P) (w:=w) (base:=base) T;have vx:=B3 (P:=P) (w:=w) (base:=base) T;refine T.ia.F.mB pJ (fun vs H Q E h=>?_) (fun dY A outer s H vs Q E hr h=>?_)
 ·obtain⟨_,_,_,_,rfl,_⟩:=h;rfl
 obtain⟨ch,sa,pr,⟨row,vals⟩,rfl,co,dr,nZ,si,q⟩:=h;have nd:=pJ.nd;refine⟨_,[some (.ref ch),some (.ref sa),none,none],(ag (eE 2 nd (aK aV (pv 1) ao ax))
 (ag (eE 3 nd (dC iE T.iD hr (a8 0 (a8 2 ae))))
 (ag (bh (aD cf (pv 3) aY (aP _))
 (aq (aJ (bg (ai (a7 (ai aY ae aH)) ae ff))))
 aQ)
 (ag (bh (aD tm (pv 3) (a7 (gH (vs:=[.str "if",.str "while"]) (by kernel_rfl))) rfl)
 (aq (aJ (bg (ai (a7 (ai aY (a8 2 ae) aH)) (ai (a7 (ai aY (a8 2 (ai (dC vx T.oK hr (a8 0 (a8 1 ae))) ae bR)) aH)) ae ff) ff))))
 aQ)
 (ag (bh (PW.pt (pw_and (aD cf (pv 3) aY (aP _)) (pw_and1 (Hh (mS (dC vx T.oK hr (a8 0 (a8 1 ae))))))))
 (aq (aJ (bg (ai (a7 (ai aY (a8 2 ae) aH)) (ai (a7 (ai aY (a8 2 ae) aH)) ae ff) ff))))
 aQ)
 (aq (aJ (bg (ai (a7 (ai aY (a8 2 ae) aH)) ae ff))))))))),rfl,?_⟩
 obtain⟨va,yv,yU⟩:=id nZ;refine aw fun U1 fM=>?_;walk_at "rd";refine aN yv (v:=.int row) (ay (j:=0) rfl) ((fM _ _).mpr (aw fun U2 ig=>?_));clear fM;walk_at "rd";refine⟨ch,pr,row,rfl,co,dr.ok.pw,?_⟩;by_cases h0:row=0
 ·subst h0;refine .inl ⟨rfl,(ig _ _).mpr (aw fun U3 jF=>?_)⟩;walk_at "rd";intro p hp;generalize e1:upd H p _=H1;have s1:=gT e1 hp;have r1:Rep K H1 (ji .fin) (.ref p):=QK e1 hp (.cons rS .nil);intro l hl;generalize e2:upd H1 l _=H2;have s2:=gL e2 hl;refine q l _ _ (s1.trans s2) (s1.free hl) ⟨Ur e2,?_⟩;unfold iZ;rw[if_pos rfl];exact .cons (r1.mono s2) .nil
 ·obtain⟨i,hi,rfl⟩:=si.ok.row.resolve_left h0;refine .inr ⟨h0,i,hi,rfl,(ig _ _).mpr ?_⟩;clear ig;have est:zx pr.body (PG.aB pr.body)[i].row=(PG.aB pr.body)[i]:=lO dr.ok.pw i hi;unfold iZ at q;rw[if_neg h0] at q;simp only[est] at q;obtain⟨po,so⟩:=Dv si.ok.len dr.ok.nb si.ok.small (PG.jx pr.body _ dr.own (zat hi));refine aw fun U3 jF=>?_;walk_at "rd";refine cA (fun z=>absurd z (Qn _)) (fun _=>(jF _ _).mpr (aw fun U4 mQ=>?_));clear jF;walk_at "rd";intro p5 B6;refine⟨p5,_,rfl,.inr (.of ah),rfl,rfl,_,rfl,?_⟩;generalize e5:upd H p5 _=H5;have s5:=gT e5 B6;rw[ET];by_cases hl:(PG.aB pr.body)[i].wd=.ifs\/(PG.aB pr.body)[i].wd=.jc
  ·obtain⟨sg,l,r,cp,tl,tr,_⟩:=cond_of (.inr hl) po;have nm:(PG.aB pr.body)[i].wd≠.cB:=by rcases hl with e |e<;>rw[e]<;>decide
   simp only[cp] at q;rw[if_neg nm] at q;refine(if_pos (decide_eq_true hl)).mpr fun p6 nX=>?_;generalize e6:upd H5 p6 _=H6;have s6:=gT e6 nX;have r6:Rep K H6 (ji (.row (PG.aB pr.body)[i].row)) (.ref p6):=QK e6 nX (.cons rS (.cons Sm .nil));refine⟨ch,sa,pr,vals,i,hi,sg,l,r,rfl,co.mono (s5.trans s6),dr.ok,nZ.mono (s5.trans s6),si.ok.len,cp,tl,tr,fun H7 s7 p8 K9=>?_⟩;generalize e8:upd H7 p8 _=H8;have s8:=gT e8 K9;have r8:Rep K H8 (ji (.side (PG.aB pr.body)[i].row (qm sg (wv pr.aA vals l) (wv pr.aA vals r)))) (.ref p8):=QK e8 K9 (.cons rS (.cons Sm (.cons (Rep.mY.mpr rfl) .nil)));intro l9 NW;generalize e9:upd H8 l9 _=H9;have s9:=gL e9 NW;have Tw:=s5.trans (s6.trans (s7.trans s8));exact q l9 _ _ (Tw.trans s9) (Tw.free NW) ⟨Ur e9,.cons (r6.mono (s7.trans (s8.trans s9))) (.cons (r8.mono s9) .nil)⟩
  ·refine(if_neg (by rw[decide_eq_false hl];exact zaf)).mpr ((mQ _ _).mpr (aw fun U5 AN=>?_));clear mQ;have last:∀H7,au H H7->(∀l us H',au H H'->H l=none->JI K H' l us [.row (PG.aB pr.body)[i].row]->Q (.ref l) H')->U5 [some (.ref ch),some (.ref sa),some (.int (PG.aB pr.body)[i].row),some (.str (jZ (PG.aB pr.body)[i].wd))] H7:=by
    intro H7 s7 q;refine(AN _ _).mpr ?_;clear AN;walk_at "rd";intro p6 nX;generalize e6:upd H7 p6 _=H6;have s6:=gT e6 nX;have r6:Rep K H6 (ji (.row (PG.aB pr.body)[i].row)) (.ref p6):=QK e6 nX (.cons rS (.cons Sm .nil));intro l9 NW;generalize e9:upd H6 l9 _=H9;have s9:=gL e9 NW;exact q l9 _ _ (s7.trans (s6.trans s9)) ((s7.trans s6).free NW) ⟨Ur e9,.cons (r6.mono s9) .nil⟩
   walk_at "rd";refine cA (fun e=>?_) (fun e=>?_)
   ·have ew:=(tL _).mp (congrArg V.str e);obtain⟨sg,l,r,cp,tl,tr,_⟩:=cond_of (.inl ew) po;simp only[cp] at q;rw[if_pos ew] at q;refine⟨ch,sa,pr,vals,i,hi,sg,l,r,rfl,co.mono s5,dr.ok,nZ.mono s5,si.ok.len,cp,tl,tr,fun H7 s7=>?_⟩;cases hc:qm sg (wv pr.aA vals l) (wv pr.aA vals r) with
    |true=>
     simp only[hc,if_true] at q;exact⟨_,rfl,(if_neg (by decide)).mpr (last _ (s5.trans s7) q)⟩
    |false=>
     simp only[hc,zaz,if_false] at q;refine⟨_,rfl,(if_pos (by decide)).mpr fun p6 nX=>?_⟩;generalize e6:upd H7 p6 _=H6;have s6:=gT e6 nX;have r6:Rep K H6 (ji (.row (PG.aB pr.body)[i].row)) (.ref p6):=QK e6 nX (.cons rS (.cons Sm .nil));intro p8 K9;generalize e8:upd H6 p8 _=H8;have s8:=gT e8 K9;have r8:Rep K H8 (ji (.cB (PG.aB pr.body)[i].row)) (.ref p8):=QK e8 K9 (.cons rS (.cons Sm .nil));intro l9 NW;generalize e9:upd H8 l9 _=H9;have s9:=gL e9 NW;have Tw:=s5.trans (s7.trans (s6.trans s8));exact q l9 _ _ (Tw.trans s9) (Tw.free NW) ⟨Ur e9,.cons (r6.mono (s8.trans s9)) (.cons (r8.mono s9) .nil)⟩
   ·have ew:(PG.aB pr.body)[i].wd≠.cB:=fun z=>e (V.str.inj ((tL _).mpr z));have cn:uy (PG.aB pr.body)[i]=none:=by
     generalize (PG.aB pr.body)[i]=st at ew hl;cases st<;>first |rfl |exact absurd rfl ew |exact absurd (.inl rfl) hl |exact absurd (.inr rfl) hl
    simp only[cn] at q;exact last _ s5 q
theorem GU(T:Tx K mg t):bz P w K mg base de 8 t.nW t.oI ["chart", "figures"] (Mh P w K t.aE):=by
 have Cb:=zY (P:=P) (w:=w) (base:=base) T;have Ah:=DR (P:=P) (w:=w) (base:=base) T;have iF:=uM (P:=P) (w:=w) (base:=base) T;have mv:=pT (P:=P) (w:=w) (base:=base) T;refine T.rW.F.mB yG (fun vs H Q E h=>?_) (fun dY A outer s H vs Q E hr h=>?_)
 ·obtain⟨_,_,_,_,rfl,_⟩:=h;rfl
 obtain⟨ch,fl,pr,figs,rfl,co,dr,hf,Fm,Tz,q⟩:=h;have nd:=yG.nd;have hu:=ip hr;refine⟨_,[some (.ref ch),some (.ref fl),none,none,none,none],(ag (eE 2 nd (y0 T.zW Cb (hr.mono (by first|decide|omega)) rfl T.Mz T.BX .nil pj (a8 0 (a8 1 ae))))
 (ag (eE 3 nd (nH (J:=uW)))
 (ag (eE 4 nd (nH (J:=qI)))
 (aq (qN PassesOwn.never (mS o7)
 (ag (eS PassesOwn.never rfl (dJ (dC mv T.ia hr (a8 0 (ai (cC (pv 2) rfl) ae lF)))) (pH 5 nd)
 (aq (wC (J:=uW) (Mf hr) (pv 3) (pv 5) o7 rfl)))
 (ag (bh (PW.pt (pw_or (aD ve (cC (pv 2) rfl) dQ (aP _)) (pw_or1 (aD (DB (J:=qI) (Mf hr)) (cC (pv 2) rfl) (pv 4) rfl))))
 (aq (aJ (pv 3)))
 aQ)
 (ag (bh (mS (mU (pv 2) T.bG T.kY iF (hr.mono (by first|decide|omega)) T.kX .nil pj))
 (aq (eE 4 nd (nH (J:=qI))))
 (aq (wC (J:=qI) (Mf hr) (pv 4) (cC (pv 2) rfl) o7 rfl)))
 (aq (bP (mU (pv 2) T.bG T.zV Ah (hr.mono (by first|decide|omega)) T.zU .nil pj))))))))))),rfl,?_⟩
 have line:zdg=2 ^ 24:=rfl;refine aw fun U1 fM=>?_;walk_at "rd";intro wk dx XB NG ne;have s1:au H (upd (upd H dx (.own wk)) wk (.ins t.bE dx [])):=(au.new NG _).trans (au.new (by rw[av ne.symm];exact XB) _);refine⟨wk,dx,ch,fl,pr,figs,rfl,ah,co.mono s1,s1.seq hf,fun H1 u1 w1=>⟨rfl,(fM _ _).mpr (aw fun U2 ig=>?_)⟩⟩;clear fM;have XC:au H H1:=((aT.of s1).trans u1).same XB;clear s1 u1;walk_at "rd";intro mt Zn ymt;refine(ig _ _).mpr (aw fun U3 jF=>?_);clear ig;have UP:=wB (J:=uW) (P:=P) (w:=w) (K:=K) (H:=H1) ymt;have sA:=au.new Zn (.ext (fq uW P w mt []));generalize upd H1 mt (.ext (fq uW P w mt []))=H2 at *;walk_at "rd";intro QZ Q0 ysn;refine(jF _ _).mpr ?_;clear jF;have UQ:=wB (J:=qI) (P:=P) (w:=w) (K:=K) (H:=H2) ysn;have sB:=au.new Q0 (.ext (fq qI P w QZ []));have TB:mt≠QZ:=by obtain⟨φ,e⟩:=UP.qr;exact aj e Q0
 have UP:=UP.mono sB;have w3:=w1.mono (sA.trans sB);have XD:H mt=none:=XC.free Zn;have XE:H QZ=none:=(XC.trans sA).free Q0;have sH3:=XC.trans (sA.trans sB);generalize upd H2 QZ (.ext (fq qI P w QZ []))=H3 at *;clear sA sB w1;generalize hN:ba pr=N at *;refine Dx fun Bd NK=>?_;walk_at "rd";obtain⟨Iv,MF⟩:∃Iv:Nat->St->Hp->Prop,∀m σ Hx,Iv m σ Hx↔∃(z5:Option V) (n:Nat) (row:Int) (vals:List Int) (e:Option PG.fY) (sn:zc8) (aC:List (List Key×V)) (seen:List PG.bM) (ms:List PG.Tg),σ=[some (.ref ch),some (.ref fl),some (.ref wk),some (.ref mt),some (.ref sn),z5]/\au H Hx/\
  AL K t.aE t.bE Hx wk ch fl pr figs n row vals e/\DS uW P w K Hx mt aC/\DS qI P w K Hx sn (uz seen)/\H sn=none/\mt≠sn/\n<=figs.length/\cZ pr (row,vals)/\seen.Nodup/\(∀x∈seen,cZ pr x)/\(∀g,(b8 aC (iY g)).isSome=true↔g∈ms)/\
  PG.MI (gE pr.body) (cm pr) (iZ pr) ((PG.bc pr.body 0,pr.aA.map (·.first)),figs) ms seen ((row,vals),figs.drop n)/\(e≠none->PG.qH (gE pr.body) (cm pr) ((row,vals),figs.drop n)=none)/\(e=none->row≠0)/\aC.length+2*m<=8000000/\m=muM N (figs.length-n) seen.length e:=⟨_,fun _ _ _=>Iff.rfl⟩
 refine⟨Iv,⟨_,(MF _ _ _).mpr ⟨_,0,_,_,_,QZ,[],[],[],rfl,sH3,w3,UP,UQ,XE,TB,zaU _,cZ.first dr,zbR,fun x hx=>(by cases hx),fun g=>⟨fun z=>(by cases z),fun z=>(by cases z)⟩,PG.MI.start,fun z=>?_,fun z=>?_,?_,rfl⟩⟩,?_⟩
 ·refine PG.rG ?_;unfold PG.endAt at z;split at z
  ·assumption
  ·exact absurd rfl z
 ·unfold PG.endAt at z;split at z
  ·cases z
  ·assumption
 ·have k1:(figs.length+2)*(N+2)=figs.length*(N+1)+figs.length+2*(N+2):=by rw[Nat.add_mul,Nat.mul_succ figs.length (N+1)]
  cases PG.endAt (PG.bc pr.body 0)<;>simp only[muM,za1]<;>lia
 intro m σ Hx hv;obtain⟨z5,n,row,vals,e,sn,aC,seen,ms,rfl,sx,wo,dm,UQ,Q0,TB,hn,si,ns,sin,SF,mi,he,Cr,hk,rfl⟩:=(MF _ _ _).mp hv;clear hv;obtain⟨dx,sa,ev,hw,nZ,Q1⟩:=wo.at_;walk_at "rd";refine⟨fun σ' H'=>∃m',m'<muM N (figs.length-n) seen.length e/\Iv m' σ' H',fun σ' H' h=>h,?_⟩;refine NK _ _ _ (aw fun V1 Cy=>?_);clear NK;refine gR fun U hU=>?_;walk_at "rd";refine⟨wk,_,dx,_,.ref sa,rfl,hw,T.bG,T.bw,rfl,ch,sa,pr,(row,vals),rfl,wo.Sj,dr,nZ,si,fun l4 XF H4 s4 hl4 Q2=>⟨l4,rfl,⟨XF,.of Q2.1⟩,hU _ _ ?_⟩⟩;clear hU;have lt:=E5 pr (row,vals);have sV:XF.length=(iZ pr (row,vals)).length:=by rw[Q2.2.length,zad]
 have XG:=dm.mono s4;obtain⟨φ4,TC⟩:=XG.qr;have n4:l4≠mt:=bN Q2.1 TC (by intro z;cases z);obtain⟨Pv,mN⟩:∃Pv:Nat->St->Hp->Prop,∀i σ H5,Pv i σ H5↔∃(z5:Option V) (GV:List (List Key×V)),σ=[some (.ref ch),some (.ref fl),some (.ref wk),some (.ref mt),some (.ref sn),z5]/\aT mt H4 H5/\DS uW P w K H5 mt GV/\GV.length<=aC.length+i/\(∀g,(b8 GV (iY g)).isSome=true↔g∈ms\/g∈(iZ pr (row,vals)).take i):=⟨_,fun _ _ _=>Iff.rfl⟩
 refine gO (K:=K) (a:=l4) (xs:=XF) Pv ((mN _ _ _).mpr ⟨_,aC,rfl,.refl _ _,XG,zah _,fun g=>by rw[SF];simp⟩) (fun i σ H5 _ hv=>?_) ?_ ?_
 ·obtain⟨_,_,_,u5,_⟩:=(mN _ _ _).mp hv;exact .of (u5 _ _ n4 Q2.1)
 ·intro i y σ H5 hi hv;obtain⟨z5,GV,rfl,u5,d5,l5,i5⟩:=(mN _ _ _).mp hv;clear hv;have li:i<(iZ pr (row,vals)).length:=by have:=(zam.mp hi).1;lia
  obtain⟨y',OE,ry⟩:=Q2.2.get (i:=i) (d:=ji (iZ pr (row,vals))[i]) (by rw[zap,zac li];rfl);rw[hi] at OE;cases OE;obtain⟨a,rfl,oa⟩:=E2 ry;have oa5:=uW.up (fun b ys q=>cu.nI q TC u5) oa;simp only[dI,za6];walk_at "rd";refine⟨mt,a,GV,_,rfl,rfl,d5,oa5,by lia,fun H6 d6 e6=>(mN _ _ _).mpr ⟨_,_,rfl,?_,d6,zaA (fc _ _ _) (by lia),fun g=>?_⟩⟩
  ·obtain⟨φ,rfl⟩:=e6;exact u5.put _
  ·rw[vL,za7 li];by_cases eg:iY g=iY (iZ pr (row,vals))[i]
   ·rw[if_pos eg,yx eg];exact⟨fun _=>.inr (zaB _ (zag.mpr rfl)),fun _=>rfl⟩
   ·have ng:g≠(iZ pr (row,vals))[i]:=fun z=>eg (by rw[z]);rw[if_neg eg,i5,zao,zag];exact⟨fun h=>h.imp_right .inl,fun h=>h.imp_right fun h=>h.resolve_right ng⟩
 intro σ H5 hv;obtain⟨z5',GV,rfl,u5,d5,l5,i5⟩:=(mN _ _ _).mp hv;clear hv mN Pv;have l5:GV.length<=aC.length+2:=by lia
 rw[sV,zbp] at i5;have i5:∀g,(b8 GV (iY g)).isSome=true↔g∈ms++iZ pr (row,vals):=fun g=>by rw[i5,zao]
 have hm:∀g,g∈ms++iZ pr (row,vals)↔g∈ms\/g∈iZ pr (row,vals):=fun g=>zao;have s5:au H H5:=fun z o e=>u5 z o (aj e XD) (s4 _ _ (sx z o e));have QT:=(wo.mono s4).ext TC u5 (co.mono s5) (s5.seq hf);have XH:=(UQ.mono s4).other TC TB.symm u5;clear u5 Q2 hl4 wo dm XG TC UQ nZ hw Q1 sx s4 sV;refine(Cy _ _).mpr (aw fun V2 Fn=>?_);clear Cy;obtain⟨dx,sa,ev,hw,nZ,Q1⟩:=QT.at_;walk_at "rd";refine⟨wk,_,dx,_,ev,rfl,hw,T.bG,T.fL,rfl,?_⟩;cases e with
 |some e0=>
  obtain⟨ea,rfl,hea⟩:=Q1;refine cA (fun z=>by cases z) (fun _=>?_);exact q mt GV H5 s5 d5 fun g=>(i5 g).trans (mi.fin hm (.inl (he (by simp))) g)
 |none=>
  have Q1:ev=.b9:=Q1;subst Q1;refine cA (fun _=>?_) (fun z=>absurd rfl z);refine⟨wk,_,dx,_,.ref sa,rfl,hw,T.bG,T.bw,rfl,sn,sa,_,_,rfl,rfl,XH,E3 (s:=(row,vals)) nZ,?_⟩;rw[BE];by_cases hs:(row,vals)∈seen
  ·refine(if_pos (decide_eq_true hs)).mpr ?_;exact q mt GV H5 s5 d5 fun g=>(i5 g).trans (mi.fin hm (.inr hs) g)
  refine(if_neg (by rw[decide_eq_false hs];exact zaf)).mpr ((Fn _ _).mpr (aw fun V3 GP=>?_));clear Fn;have h0:=Cr rfl;have gn:=PG.Me (ask:=gE pr.body) (step:=cm pr) (fun r v f=>wD r v f) (row:=row) (vals:=vals) (left:=figs.drop n) h0;have Zo:(seen++[(row,vals)]).Nodup:=zbP.mpr ⟨ns,by simp,fun a ha b hb=>by rw[zag.mp hb];exact fun z=>hs (z▸ha)⟩;have TF:∀x∈seen++[(row,vals)],cZ pr x:=fun x hx=>by
   rcases zao.mp hx with hx |hx
   ·exact sin x hx
   ·rw[zag.mp hx];exact si
  have v7:=gW Zo TF;rw[hN,zal,zaG] at v7;have rest:∀(KD:zc8) (sH:List PG.bM) (H6:Hp),au H H6->AL K t.aE t.bE H6 wk ch fl pr figs n row vals none->DS uW P w K H6 mt GV->DS qI P w K H6 KD (uz sH)->H KD=none->mt≠KD->sH.Nodup->(∀x∈sH,cZ pr x)->
   (∀s',PG.qH (gE pr.body) (cm pr) ((row,vals),figs.drop n)=some s'\/PG.qH (gE pr.body) (cm pr) ((row,vals),figs.drop n)=none/\s'=((row,vals),figs.drop n)->PG.MI (gE pr.body) (cm pr) (iZ pr) ((PG.bc pr.body 0,pr.aA.map (·.first)),figs) (ms++iZ pr (row,vals)) sH s')->
   (∀L' e',(gE pr.body row=true->L'<figs.length-n)->(gE pr.body row=false->L'=figs.length-n)->muM N L' sH.length e'<muM N (figs.length-n) seen.length none)->
   V3 [some (.ref ch),some (.ref fl),some (.ref wk),some (.ref mt),some (.ref KD),z5'] H6:=by
   intro KD sH H6 s6 Zp dm6 ds6 Zq UR Zr Zs Zt Zu;refine(GP _ _).mpr ?_;clear GP;obtain⟨dx6,sa6,ev6,XI,S1,acZ⟩:=Zp.at_;walk_at "rd";refine⟨wk,dx6,_,rfl,XI,rfl,wk,ch,fl,pr,figs,n,row,vals,rfl,dr,Zp,h0,si.ok,hn,Fm,fun H8 n' u8 N6 hd XJ ok8=>?_⟩;have s8:au H H8:=fun z o e=>u8 z o (aj e XB) (s6 z o e);have Zv:=dm6.ins XI u8;have Zw:=ds6.ins XI u8;have done:=fun k σ H9=>(MF k σ H9).mpr;have hd2:((wz pr row vals (figs.drop n)).2.1).length=figs.length-n':=by rw[<- hd,zbn]
   have eL:(figs.drop n).length=figs.length-n:=zbn ..
   change (PG.qH _ _ _=some (((wz pr row vals (figs.drop n)).2.2.1,(wz pr row vals (figs.drop n)).2.2.2.1),(wz pr row vals (figs.drop n)).2.1)/\(wz pr row vals (figs.drop n)).2.2.2.2=PG.endAt (wz pr row vals (figs.drop n)).2.2.1/\(_->(wz pr row vals (figs.drop n)).2.1.length<_)/\(_->(wz pr row vals (figs.drop n)).2.1=_))\/(_/\(((wz pr row vals (figs.drop n)).2.2.1,(wz pr row vals (figs.drop n)).2.2.2.1),(wz pr row vals (figs.drop n)).2.1)=_/\∃e,(wz pr row vals (figs.drop n)).2.2.2.2=some e) at gn
   generalize wz pr row vals (figs.drop n)=g at *;obtain⟨g1,g2,g3,g4,g5⟩:=g;simp only at hd XJ ok8 gn hd2;subst hd;rcases gn with ⟨nx,rfl,a1,a2⟩ |⟨nx,es,x,rfl⟩
   ·have b1:gE pr.body row=true->figs.length-n'<figs.length-n:=fun z=>by
     have:=a1 z;rw[hd2,eL] at this;exact this
    have b2:gE pr.body row=false->figs.length-n'=figs.length-n:=fun z=>by
     have:=congrArg za9 (a2 z);rw[hd2,eL] at this;exact this
    refine⟨muM N (figs.length-n') sH.length (PG.endAt g3),Zu _ _ b1 b2,done _ _ _ ⟨_,n',g3,g4,PG.endAt g3,KD,GV,sH,_,rfl,s8,XJ,Zv,Zw,Zq,UR,N6,si.nx dr nx,Zr,Zs,i5,Zt _ (.inl nx),fun z=>?_,fun z=>?_,?_,rfl⟩⟩
    ·refine PG.rG ?_;unfold PG.endAt at z;split at z
     ·assumption
     ·exact absurd rfl z
    ·unfold PG.endAt at z;split at z
     ·cases z
     ·assumption
    ·have:=Zu (figs.length-n') (PG.endAt g3) b1 b2;lia
   ·have es1:(g3,g4)=(row,vals):=congrArg Prod.fst es;cases es1;have UH:figs.drop n'=figs.drop n:=congrArg Prod.snd es;refine⟨0,by simp only[muM];lia,done _ _ _ ⟨_,n',row,vals,some x,KD,GV,sH,_,rfl,s8,XJ,Zv,Zw,Zq,UR,N6,si,Zr,Zs,i5,Zt _ (.inr ⟨nx,es⟩),fun _=>by rw[UH];exact nx,fun z=>(by cases z),?_,rfl⟩⟩;simp only[muM] at hk ⊢;lia
  obtain⟨i,hi,er⟩:=si.ok.row.resolve_left h0;subst er;have ea:gE pr.body (PG.aB pr.body)[i].row=decide ((PG.aB pr.body)[i].wd=.ask):=by unfold gE;rw[lO dr.ok.pw i hi]
  walk_at "rd";refine⟨wk,dx,_,rfl,hw,rfl,wk,ch,fl,pr,figs,n,vals,none,i,hi,rfl,dr.ok,QT,?_⟩;refine⟨_,rfl,cA (fun e=>?_) (fun e=>?_)⟩
  ·rw[<- ea] at e;intro KD Qo XM;have d6:=wB (J:=qI) (P:=P) (w:=w) (K:=K) (H:=H5) XM;have s6:=au.new Qo (.ext (fq qI P w KD []));have UR:mt≠KD:=by obtain⟨φ,z⟩:=d5.qr;exact aj z Qo
   exact rest KD [] _ (s5.trans s6) (QT.mono s6) (d5.mono s6) d6 (s5.free Qo) UR zbR (fun x hx=>by cases hx) (fun s' SA=>mi.asked hm SA) fun L' e' h1 _=>Mg (h1 e) e'
  ·rw[<- ea] at e;have e:gE pr.body (PG.aB pr.body)[i].row=false:=by simpa using e
   obtain⟨φ5,Zx⟩:=XH.qr;refine⟨wk,_,dx,_,.ref sa,rfl,hw,T.bG,T.bw,rfl,sn,sa,_,_,rfl,rfl,XH,E3 (s:=((PG.aB pr.body)[i].row,vals)) nZ,?_,fun H6 d6 e6=>?_⟩
   ·have:=gW ns sin;rw[uz,zad];rw[hN] at this;have k1:N+2<=(figs.length+2)*(N+2):=Nat.le_mul_of_pos_left _ (by lia);lia
   ·rw[Gs hs] at d6;obtain⟨φ,rfl⟩:=e6;have u6:aT sn H5 (upd H5 sn (.ext φ)):=(aT.refl _ _).put _;have s6:au H (upd H5 sn (.ext φ)):=fun z o e=>u6 z o (aj e Q0) (s5 z o e);refine rest sn _ _ s6 (QT.ext Zx u6 (co.mono s6) (s6.seq hf)) (d5.other Zx TB u6) d6 Q0 TB Zo TF (fun s' SA=>mi.go hm SA h0 e) fun L' e' _ h2=>?_;rw[h2 e,zal,zaG];exact O9 v7 e'
theorem KG(T:Tx K mg t)(cH:bz P w K mg base de 1 t.cX t.cR ["body", "behind"] (oE K))(cK:bz P w K mg base de 6 t.bL t.bV ["body"] (lL K 4))(qz:bz P w K mg base de 7 t.nV t.lX ["program"] (zt K)) :
 bz P w K mg base de 10 t.rT t.rV ["program", "figures", "target"] (E6 K):=by
 have mw:=pR (P:=P) (w:=w) (base:=base) T cH cK qz;have KI:=GU (P:=P) (w:=w) (base:=base) T;refine T.oN.F.mB BW (fun vs H Q E h=>?_) (fun dY A outer s H vs Q E hr h=>?_)
 ·obtain⟨_,_,_,_,_,_,rfl,_⟩:=h;rfl
 obtain⟨v,fl,tv,pr,figs,tg,rfl,dr,rp,hf,Fm,Tz,rt,q⟩:=h;have nd:=BW.nd;refine⟨_,[some v,some (.ref fl),some tv],(aq (aJ (vf (DB (J:=uW) (Mf hr)) (pv 2) (dC KI T.rW hr (ai (y0 T.rZ mw (hr.mono (by first|decide|omega)) rfl T.BY T.rY .nil pj (a8 0 ae)) (a8 1 ae) bR)) rfl))),rfl,?_⟩;obtain⟨ta,rfl,ot⟩:=E2 rt;walk_at "rd";intro p dx hp NG ne;have s1:au H (upd (upd H dx (.own p)) p (.ins t.aE dx [])):=(au.new NG _).trans (au.new (by rw[av ne.symm];exact hp) _);refine⟨p,dx,v,pr,rfl,ah,by rw[av ne];exact ah,rp.mono s1,dr.dep,dr.v7,dr.ok.pw,dr.ok.nb,dr.ok.v7,fun H2 u2 co=>⟨rfl,?_⟩⟩;have s2:au H H2:=((aT.of s1).trans u2).same hp;refine⟨p,fl,pr,figs,rfl,co,dr,s2.seq hf,Fm,Tz,fun d aC H3 s3 d3 i3=>?_⟩;refine⟨d,ta,aC,_,rfl,rfl,d3,uW.up (fun b ys q=>(s2.trans s3).cI q) ot,?_⟩;exact q _ H3 (s2.trans s3) (i3 tg)
theorem DZ(T:Tx K mg t):bz P w K mg base de 8 t.kU t.l6 ["program"] (Ga K):=by
 have qz:=Fu (P:=P) (w:=w) (base:=base) T;refine T.oM.F.mB wR (fun vs H Q E h=>?_) (fun dY A outer s H vs Q E hr h=>?_)
 ·obtain⟨_,_,rfl,_⟩:=h;rfl
 obtain⟨v,pr,rfl,rp,hd,hf,q⟩:=h;have nd:=wR.nd;refine⟨_,[some v,none,none,none],(ag (eE 1 nd (bg ae))
 (ag (eS PassesOwn.never rfl (dJ (dC qz T.wV hr (a8 0 ae))) (pH 2 nd)
 (ag (eE 3 nd (aK aV (pv 2) ao ax))
 (ag (bP (gh zar zau zav bQ (pv 1) (ai (a7 (ai aY (a8 3 ae) aH)) ae ff)))
 (aq (bh (aD tm (aK aV (pv 2) ao ax) (a7 (gH (vs:=[.str "if",.str "while"]) (by kernel_rfl))) rfl)
 (ag (bP (gh zar zau zav bQ (pv 1) (ai (a7 (ai aY (a8 3 (ai o7 ae aH)) aH)) ae ff)))
 (aq (bP (gh zar zau zav bQ (pv 1) (ai (a7 (ai aY (a8 3 (ai o7 ae aH)) aH)) ae ff)))))
 (aq (bh (aD cf (aK aV (pv 2) ao ax) aY (aP _))
 (aq (bP (gh zar zau zav bQ (pv 1) (ai (a7 (ai aY (a8 3 ae) aH)) ae ff))))
 aQ)))))))
 (ag (bP (gh zar zau zav bQ (pv 1) (ai (a7 (ai aY ae aH)) ae ff)))
 (aq (aJ (pv 1)))))),rfl,?_⟩
 have line:zdg=2 ^ 24:=rfl;refine aw fun U1 fM=>?_;walk_at "rd";intro tl B8;have s1:=au.new B8 (.lst []);have y1:(upd H tl (.lst [])) tl=some (.lst []):=ah;generalize upd H tl (.lst [])=H1 at *;refine(fM _ _).mpr (aw fun U2 ig=>?_);clear fM;refine gR fun U hU=>?_;walk_at "rd";refine⟨v,pr,rfl,rp.mono s1,hd,hf,fun l2 fv H2 s2 G8 y2 r2=>⟨l2,rfl,⟨fv,.of y2⟩,hU _ _ ?_⟩⟩;clear hU;have n2:l2≠tl:=fun z=>by rw[z,y1] at G8;cases G8
 have g2:dS K (·=tl) H2 ((PG.aL pr.body 0).map fh) fv:=ES (s2 _ _ y1) (tJ _) r2;have WQ:fv.length=(PG.aL pr.body 0).length:=by rw[r2.length,zad]
 have lfl:(PG.aL pr.body 0).length<=1000:=by
  have h2:=congrArg za9 (PG.cY pr.body 0);rw[zad] at h2;lia
 have efl:=PG.LI pr.body 0;have pfl:=PG.Bn pr.body 0;generalize PG.aL pr.body 0=fl at *;have t2:LN K H H2 tl H2 [] []:=⟨s1.trans s2,.refl,s2 _ _ y1,.nil,rfl⟩
 obtain⟨Pv,mN⟩:∃Pv:Nat->St->Hp->Prop,∀i σ H3,Pv i σ H3↔∃(z2 z3:Option V) (us:List V) (pre:List PG.Tg),σ=[some v,some (V.ref tl),z2,z3]/\LN K H H2 tl H3 us pre/\us.length<=3*i/\
  pre=(fl.take i).flatMap PG.IG:=⟨_,fun _ _ _=>Iff.rfl⟩
 refine gO (K:=K) (a:=l2) (xs:=fv) Pv ((mN _ _ _).mpr ⟨none,none,[],[],rfl,t2,zah _,rfl⟩) (fun i σ H3 _ hv=>?_) ?_ ?_
 ·obtain⟨_,_,_,_,_,ti,_⟩:=(mN _ _ _).mp hv;exact .of (ti.u _ _ n2 y2)
 ·intro i y σ H3 hi hv;obtain⟨z2,z3,us,pre,rfl,ti,lu,ep⟩:=(mN _ _ _).mp hv;clear hv;have done:=fun σ H7=>(mN (i+1) σ H7).mpr;have li:i<fl.length:=by have:=(zam.mp hi).1;lia
  obtain⟨a,rfl,hx⟩:=LO g2 hi li;have hw:=pfl fl[i] (zat li);have et:(fl.take (i+1)).flatMap PG.IG=pre++PG.IG fl[i]:=by
   rw[za7 li,zbH,ep];simp
  have lt:=PG.EL (fl[i].1,fl[i].2.1);generalize fl[i]=r at *;obtain⟨k,wd,ws⟩:=r;simp only at hw hx lt;have fin:∀(σ:St) (H7:Hp) (Cz:List V),(∃z2 z3,σ=[some v,some (V.ref tl),z2,z3])->LN K H H2 tl H7 Cz (pre++PG.IG (k,wd,ws))->Pv (i+1) σ H7:=fun σ H7 Cz ⟨z2,z3,e⟩ t7=>done σ H7 ⟨z2,z3,Cz,_,e,t7,by
   have:=t7.l;have:=ti.l;have:(PG.IG (k,wd,ws)).length<=3:=lt;simp only[zal] at *;lia,et.symm⟩
  clear done et;obtain⟨t3,UC⟩:=hx _ ti.u;simp only[dI,za6];refine aw fun U3 jF=>?_;walk_at "rd";refine aN UC (v:=.int k) (ay (j:=0) rfl) ((jF _ _).mpr (aw fun U4 mQ=>?_));clear jF;walk_at "rd";refine⟨.inl ⟨rfl,_,.of ti.y⟩,fun p hp=>⟨tl,us,_,rfl,rfl,au.new hp _ _ _ ti.y,by lia,(mQ _ _).mpr ?_⟩⟩;clear mQ;have Q3:=ti.app B8 hp (g:=.row k) rfl (fun _=>.cons .str (.cons .int .nil));generalize upd (upd H3 p (.tup [V.str (zab "row"),V.int k])) tl (.lst (us++[.ref p]))=H4 at *;obtain⟨t4,hx4⟩:=hx _ Q3.u;walk_at "rd";have luf:us.length<=3000:=by lia
  refine aN hx4 (v:=.str (jZ wd)) (ay (j:=1) rfl) fun p5 B6=>⟨p5,_,rfl,.inr (.of ah),rfl,rfl,_,rfl,?_⟩
  have ML:=Q3.same (au.new B6 (.tup [V.str (zab "if"),V.str (zab "while")]));generalize upd H4 p5 (.tup [V.str (zab "if"),V.str (zab "while")])=H5 at *;rw[ET wd];by_cases hl:wd=.ifs\/wd=.jc
  ·refine(if_pos (decide_eq_true hl)).mpr ⟨.inl ⟨rfl,_,.of ML.y⟩,fun p6 nX=>⟨tl,_,_,rfl,rfl,au.new nX _ _ _ ML.y,by simp only[zal,zaG];lia,?_⟩⟩;have Q4:=ML.app B8 nX (g:=.side k true) rfl (fun _=>.cons .str (.cons .int (.cons .bl .nil)));generalize upd (upd H5 p6 _) tl _=H6 at *;refine⟨.inl ⟨rfl,_,.of Q4.y⟩,fun p7 QX=>⟨tl,_,_,rfl,rfl,au.new QX _ _ _ Q4.y,by simp only[zal,zaG];lia,?_⟩⟩;have Zy:=Q4.app B8 QX (g:=.side k false) rfl (fun _=>.cons .str (.cons .int (.cons .bl .nil)));have e:PG.IG (k,wd,ws)=[.row k,.side k true,.side k false]:=by rcases hl with rfl |rfl<;>rfl
   rw[show pre++[.row k]++[.side k true]++[.side k false]=pre++PG.IG (k,wd,ws) by rw[e];simp] at Zy;exact fin _ _ _ ⟨_,_,rfl⟩ Zy
  ·obtain⟨t5,hx5⟩:=hx _ ML.u;refine(if_neg (by rw[decide_eq_false hl];exact zaf)).mpr (aN hx5 (v:=.str (jZ wd)) (ay (j:=1) rfl) ⟨rfl,cA (fun e=>?_) (fun e=>?_)⟩)
   ·have ew:=(tL wd).mp e;refine⟨.inl ⟨rfl,_,.of ML.y⟩,fun p6 nX=>⟨tl,_,_,rfl,rfl,au.new nX _ _ _ ML.y,by simp only[zal,zaG];lia,?_⟩⟩;have Q4:=ML.app B8 nX (g:=.cB k) rfl (fun _=>.cons .str (.cons .int .nil));rw[show pre++[.row k]++[.cB k]=pre++PG.IG (k,wd,ws) by rw[show PG.IG (k,wd,ws)=[.row k,.cB k] by subst ew;rfl];simp] at Q4;exact fin _ _ _ ⟨_,_,rfl⟩ Q4
   ·have ew:wd≠.cB:=fun z=>e ((tL wd).mpr z);have e:PG.IG (k,wd,ws)=[.row k]:=by
     cases wd<;>first |rfl |exact absurd rfl ew |exact absurd rfl hw.1 |exact absurd rfl hw.2 |exact absurd (.inl rfl) hl |exact absurd (.inr rfl) hl
    rw[<- e] at ML;exact fin _ _ _ ⟨_,_,rfl⟩ ML
 ·intro σ H3 hv;obtain⟨z2,z3,us,pre,rfl,ti,lu,ep⟩:=(mN _ _ _).mp hv;rw[WQ,zbp,efl] at ep;refine(ig _ _).mpr ?_;walk_at "rd";refine⟨.inl ⟨rfl,_,.of ti.y⟩,fun p hp=>⟨tl,us,_,rfl,rfl,au.new hp _ _ _ ti.y,by lia,?_⟩⟩;have Q3:=ti.app B8 hp (g:=.fin) rfl (fun _=>.cons .str .nil);refine q tl _ _ Q3.s B8 Q3.y ?_;unfold PG.ID;rw[<- ep];exact Q3.f.IM
theorem xH(T:Tx K mg t):bz P w K mg base de 10 t.g8 t.iN ["first", "led_from"] (BK P w K t.aE (gJ aG) "first_inputs.<locals>.<lambda>"):=by
 have yP:=DT (P:=P) (w:=w) (base:=base) T;refine T.fU.F.mB pK (fun vs H Q E h=>?_) (fun dY A outer s H vs Q E hr h=>?_)
 ·obtain⟨_,_,_,_,_,_,_,rfl,_⟩:=h;rfl
 obtain⟨sa,fo,cc,ch,kN,pr,s0,rfl,co,dr,nZ,si,lam,su,q⟩:=h;have nd:=pK.nd;have hu:=ip hr;refine⟨_,[some (.ref sa),some (.ref fo),none,none,none,none,none,none,none],(ag (eE 2 nd (nH (J:=qI)))
 (ag (eE 3 nd (dC yP T.kW hr (a8 0 (a8 1 (ai (a7 ae) (a8 2 ae) ff)))))
 (ag (qN PassesOwn.never (AZ (pv 3) (fun _=>rfl))
 (ag (eE 4 nd (bg ae))
 (ag (eS PassesOwn.never rfl (dJ (pv 3)) (yS rfl (ck (pH 5 nd) (ck (pH 6 nd) lh)))
 (aq (eS PassesOwn.never rfl (EG rfl T.ke (a8 6 ae)) (yS rfl (ck (pH 7 nd) (ck (pH 8 nd) lh)))
 (aq (bP (gh zar zb1 zb2 tq (pv 4) (ai (dC yP T.kW hr (a8 8 (a8 1 (ai (aW L5 (pv 5) (a7 (a8 7 ae))) (a8 2 ae) iu)))) ae bR)))))))
 (aq (eE 3 nd (pv 4))))))
 (aq (aJ (pv 2)))))),rfl,?_⟩
 have line:zdg=2 ^ 24:=rfl;have li:∀s,cZ pr s->∀x∈c5 pr s,cZ pr x:=fun s h=>rJ dr h;refine aw fun U1 fM=>?_;walk_at "rd";intro D hD yD;refine(fM _ _).mpr (aw fun U2 ig=>?_);clear fM;have d1:=wB (J:=qI) (P:=P) (w:=w) (K:=K) (H:=H) yD;have s1:=au.new hD (.ext (fq qI P w D []));generalize upd H D (.ext (fq qI P w D []))=H1 at *;walk_at "rd";intro p hp;generalize e2:upd H1 p _=H2;have s2:=gT e2 hp;have yp:H2 p=some (.tup []):=by rw[<- e2];exact ah
 clear e2;have TH:=s1.trans s2;obtain⟨TJ,XN,XO⟩:=nL li (m:=0) (ba pr+1) [] s0 [] .nil si (zah _);refine⟨sa,fo,D,p,cc,ch,kN,pr,s0,[],[],[],rfl,co.mono TH,dr,nZ.mono TH,si,lam.mono (vq TH hD),.of yp,d1.mono s2,.nil,zbR,fun x hx=>(by cases hx),su,fun L us aC H3 u3 hL yL d3 UJ Zz=>(ig _ _).mpr (aw fun U3 jF=>?_)⟩;clear ig;have ZA:au H H3:=((aT.of TH).trans u3).same hD;obtain⟨φ1,ZC⟩:=(d1.mono s2).qr;have Fj:cu K H3 p (([]:List Int).map V.int):=cu.nI (.of yp) ZC u3;have ZD:=dG.of1 (g:=[]) Zz Fj;refine Dx fun Bd NK=>?_;walk_at "rd";obtain⟨Iv,MF,PL⟩:=J9 fun (m:Nat) (σ:St) (Hx:Hp) zq=>∀(z4 z5 z6 z7 z8:Option V) (L:zc8) (us:List V) (as:List (List Int×List PG.bM)) (f:jd) (aC:List (qo×V)) (lv:Nat),σ=[some (.ref sa),some (.ref fo),some (.ref D),some (.ref L),z4,z5,z6,z7,z8]->au H Hx->DS qI P w K Hx D aC->gX K Hx f aC->wH (cZ pr) f->Hx L=some (.lst us)->dG K Hx as us->rL (cZ pr) lv as->cF pr s0=oS (c5 pr) (ba pr+1) (ba pr+2-lv) f as->(as≠[]->lv<f.length)->m=ba pr+1-lv->zq;refine⟨Iv,⟨_,(MF _ _ _ fun _ zk=>zk none none none none none L us _ _ aC 0 rfl ZA d3 UJ TJ yL ZD XN rfl (fun h=>?_) rfl)⟩,?_⟩
 ·have:=zbc.mpr h;rw[za1] at XO;lia
 clear TJ XN XO ZD Fj ZC ZA Zz UJ d3 yL hL u3 TH yp s2 d1 s1 hp;intro m σ Hx hv;refine PL _ _ _ hv _ fun z4 z5 z6 z7 z8 L us as f aC lv xA sx dx fx ok yL XQ NX ef ZE xB=>?_;subst xA;subst xB;clear hv;have sV:as.length=us.length:=Paired.length XQ;have v7:f.length<=ba pr:=by
  have:=gW ok.nd (fun x hx=>by obtain⟨y,hy,rfl⟩:=zaF.mp hx;exact ok.Cv y hy)
  rwa [zad] at this
 walk_at "rd";cases as with
 |nil=>
  have e0:us=[]:=zaV.mp sV.symm;subst e0;refine⟨false,.inl ⟨_,.of yL,rfl⟩,(if_neg (by decide)).mpr ((jF _ _).mpr ?_)⟩;walk_at "rd";rw[JW] at ef;rw[ef] at q;exact q D aC Hx sx hD dx fx
 |cons a0 US=>
 have Cr:(a0::US)≠[]:=by simp
 have ZE:=ZE Cr;obtain⟨u0,XR,rfl⟩:∃u0 XR,us=u0::XR:=by cases us with |nil=>cases sV |cons a b=>exact⟨_,_,rfl⟩
 refine⟨true,.inl ⟨_,.of yL,rfl⟩,(if_pos rfl).mpr ?_⟩;have ef:cF pr s0=oS (c5 pr) (ba pr+1) (ba pr+2-(lv+1)) (cW (c5 pr) (ba pr+1) f (bT (a0::US))).1 (cW (c5 pr) (ba pr+1) f (bT (a0::US))).2:=by
  rw[ef,show ba pr+2-lv=(ba pr+2-(lv+1))+1 by lia,oS,if_neg Cr]
 generalize a0::US=as at *;generalize u0::XR=us at *;refine⟨Iv (ba pr+1-(lv+1)),fun σ' H' h=>⟨_,by lia,h⟩,?_⟩;refine NK _ _ _ (aw fun V1 Cy=>?_);clear NK jF;walk_at "rd";intro b hb;refine(Cy _ _).mpr (aw fun V2 Fn=>?_);clear Cy;have sb:=au.new hb (.lst []);have yb:(upd Hx b (.lst [])) b=some (.lst []):=ah;have ZF:(wo (upd Hx b (.lst [])) b) L=some (.lst us):=by rw[nJ];exact vq (au.refl _) hb _ _ yL
 have as1:dG K (wo (upd Hx b (.lst [])) b) as us:=by rw[nJ];exact XQ.mono (vq (au.refl _) hb)
 have NO:H b=none:=sx.free hb;have dx1:=dx.mono sb;have fx1:=fx.imp fun a xs h=>sb.cI h;have sx1:=sx.trans sb;have S9:D≠b:=by obtain⟨φ,e⟩:=dx.qr;exact aj e hb
 generalize upd Hx b (.lst [])=H1 at *;clear dx fx sx XQ yL sb hb;refine gR fun U hU=>?_;walk_at "rd";refine⟨⟨us,.of (uG _ _ ZF)⟩,hU _ _ ?_⟩;clear hU;have gok:∀i,wH (cZ pr) (cW (c5 pr) (ba pr+1) f (bT (as.take i))).1/\rL (cZ pr) (lv+1) (cW (c5 pr) (ba pr+1) f (bT (as.take i))).2/\f.length+(cW (c5 pr) (ba pr+1) f (bT (as.take i))).2.length<=(cW (c5 pr) (ba pr+1) f (bT (as.take i))).1.length:=fun i=>kP li _ _ ok (iC (m:=lv) ⟨fun a ha=>NX.Cv a (zbr ha),fun a ha=>NX.len a (zbr ha)⟩);obtain⟨Pv,mN,mO⟩:=J9 fun (i:Nat) (σ:St) (H5:Hp) zq=>∀(z5 z6 z7 z8:Option V) (Cc:List V) (bs:List (List Int×List PG.bM)) (f5:jd) (GW:List (qo×V)),σ=[some (.ref sa),some (.ref fo),some (.ref D),some (.ref L),some (.ref b),z5,z6,z7,z8]->au H H5->DS qI P w K H5 D GW->gX K H5 f5 GW->(wo H5 b) L=some (.lst us)->dG K (wo H5 b) as us->H5 b=some (.lst Cc)->dG K (wo H5 b) bs Cc->cW (c5 pr) (ba pr+1) f (bT (as.take i))=(f5,bs)->zq;refine gO (K:=K) (a:=L) (xs:=us) Pv ((mN _ _ _ fun _ zk=>zk _ _ _ _ [] [] f aC rfl sx1 dx1 fx1 ZF as1 yb .nil rfl)) (fun i σ H5 _ hv=>?_) ?_ ?_
 ·refine mO _ _ _ hv _ fun _ _ _ _ _ _ _ _ _ _ _ _ TK _ _ _ _=>?_;exact .of (uG _ _ TK)
 ·intro i y σ H5 hi hv;refine mO _ _ _ hv _ fun z5 z6 z7 z8 Cc bs f5 GW xA s5 d5 UT TK UU UW UX e5=>?_;subst xA;clear hv;obtain⟨a,ha,ta,ga,la,KJ,rfl,q1,q2,q3,q4⟩:=jI UU hi;have UY:a∈as:=za5 ha;have hll:a.2.length=KJ.length:=Paired.length q4;refine⟨ta,_,rfl,uG.cI q1,rfl,_,_,rfl,_,_,rfl,rfl,?_⟩;simp only[za6];refine JJ fun U hU=>?_;walk_at "rd";refine⟨la,rfl,⟨KJ,.of (uG _ _ q3)⟩,hU _ _ ?_⟩;clear hU;obtain⟨Pw,B9,qD⟩:=J9 fun (j:Nat) (σ:St) (H6:Hp) zq=>∀(z7 z8:Option V) (Cc:List V) (bs:List (List Int×List PG.bM)) (f6:jd) (GX:List (qo×V)),σ=[some (.ref sa),some (.ref fo),some (.ref D),some (.ref L),some (.ref b),some (.ref ga),some (.ref la),z7,z8]->au H H6->DS qI P w K H6 D GX->gX K H6 f6 GX->(wo H6 b) L=some (.lst us)->dG K (wo H6 b) as us->H6 b=some (.lst Cc)->dG K (wo H6 b) bs Cc->cu K (wo H6 b) ga (a.1.map V.int)->(wo H6 b) la=some (.lst KJ)->jq K (wo H6 b) a.2 KJ->cW (c5 pr) (ba pr+1) f (bT (as.take i)++j5 a j)=(f6,bs)->zq;refine Be (K:=K) (a:=la) (xs:=KJ) Pw ((B9 _ _ _ fun _ zk=>zk _ _ Cc bs f5 GW rfl s5 d5 UT TK UU UW UX q2 q3 q4 (by rw[show j5 a 0=[] from rfl,zaC];exact e5))) ?_ ?_ ?_
  ·intro j σ H6 _ hv;refine qD _ _ _ hv _ fun _ _ _ _ _ _ _ _ _ _ _ _ _ _ _ yl _ _=>?_;exact .of (uG _ _ yl)
  ·intro j x σ H6 pp hx hv DO;clear q1 q2 q3 q4 e5 UX UW UU TK UT d5 s5;refine qD _ _ _ hv _ fun z7 z8 Cc bs f6 GX xA s6 d6 XS UZ XT U0 U8 q2 q3 q4 e6=>?_;subst xA;clear hv;have lj:j<a.2.length:=by have:=(zam.mp hx).1;lia
   obtain⟨t1,MJ,xa,rfl,yv⟩:=jI q4 hx;have TL:=kP li (n:=ba pr+1) (m:=lv+1) (bT (as.take i)++j5 a j) f ok fun x hx=>by
    rcases zao.mp hx with hx |hx
    ·exact iC (m:=lv) ⟨fun a ha=>NX.Cv a (zbr ha),fun a ha=>NX.len a (zbr ha)⟩ x hx
    ·exact DG (m:=lv) (NX.Cv a UY) (NX.len a UY) (by lia) x hx
   rw[e6] at TL;obtain⟨Qp,_,ZG⟩:=TL;have Qp:wH (cZ pr) f6:=Qp;have ZG:f.length+bs.length<=f6.length:=ZG;have ade:f6.length<=ba pr:=by
    have:=gW Qp.nd (fun x hx=>by obtain⟨y,hy,rfl⟩:=zaF.mp hx;exact Qp.Cv y hy)
    rwa [zad] at this
   have s7:=au.new DO (.tup [.int j,.ref xa]);have U9:(upd H6 pp (.tup [.int j,.ref xa])) pp=_:=ah;generalize upd H6 pp (.tup [.int j,.ref xa])=H7 at *;refine⟨pp,_,rfl,.of U9,rfl,?_⟩;refine⟨_,_,rfl,_,_,rfl,rfl,?_⟩;simp only[za6];walk_at "rd";refine⟨.inl ⟨rfl,_,.of (s7 _ _ U0)⟩,fun p hp=>?_⟩;have s8:=au.new hp (.tup [.int j]);have yp:(upd H7 p (.tup [.int j])) p=_:=ah;generalize upd H7 p (.tup [.int j])=H8 at *;have la1:=NX.len a UY;refine⟨ga,p,_,_,rfl,rfl,(s7.trans s8).cI (uG.cI q2),.of yp,by rw[zad,zaG];lia,fun gp H9 s9 Va=>?_⟩;have Q5:=s7.trans (s8.trans s9);have XU:=s6.trans Q5;have Va:cu K H9 gp ((a.1++[((j:Nat):Int)]).map V.int):=by rw[zaw];exact Va
   clear s7 s8 s9 yp hp U9 DO;have ZH:cZ pr t1:=NX.Cv a UY t1 (za5 MJ);have d9:=d6.mono Q5;have f9a:=XS.imp (H':=H9) fun a xs h=>Q5.cI h;have ZI:=Q5 _ _ U0;refine⟨xa,fo,D,gp,cc,ch,kN,pr,t1,f6,a.1++[((j:Nat):Int)],GX,rfl,co.mono XU,dr,(yv.mono uG).mono Q5,ZH,lam.mono (vq XU hD),Va,d9,f9a,Qp.nd,Qp.Cv,su,fun L9 XW XX HA uA hL9 XY dA fA akA=>?_⟩;obtain⟨φ9,ZJ⟩:=d9.qr;have Vb:HA b=some (.lst Cc):=uA _ _ S9.symm ZI;have s0A:au H HA:=((aT.of XU).trans uA).same hD;obtain⟨TJ,XN,XO⟩:=nL li (m:=lv+1) (ba pr+1) f6 t1 (a.1++[((j:Nat):Int)]) Qp ZH (by rw[zal,zaG];lia);have adi:(mE (c5 pr) (ba pr+1) f6 t1 (a.1++[((j:Nat):Int)])).1.length<=ba pr:=by
    have:=gW TJ.nd (fun x hx=>by obtain⟨y,hy,rfl⟩:=zaF.mp hx;exact TJ.Cv y hy)
    rwa [zad] at this
   have ZK:=dG.of akA (Va.nI ZJ uA) (by rw[ZI];simp) Vb;have lb:bs.length=Cc.length:=Paired.length U8;have l9:=Paired.length ZK;refine⟨b,L9,Cc,XW,rfl,rfl,Vb,XY,by lia,?_⟩;have uB:aT b HA (upd HA b (.lst (Cc++XW))):=(aT.refl _ _).put _;have Q6:(wo H9 b) D=some (.ext φ9):=by rw[dW S9];exact ZJ
   have sw:au (wo H6 b) (wo H9 b):=Mo Q5;have uw:aT D (wo H9 b) (wo HA b):=Pj uA;refine(B9 _ _ _ fun _ zk=>zk _ _ (Cc++XW) (bs++pG (a.1++[((j:Nat):Int)]) (mE (c5 pr) (ba pr+1) f6 t1 (a.1++[((j:Nat):Int)])).2) _ XX rfl (fun z o e=>uB z o (aj e NO) (s0A z o e)) (dA.Sr (fun o h=>uB _ _ S9 h) (fun c ys h=>h.BB Vb uB)) (fA.imp (fun a xs h=>h.BB Vb uB)) ?_ ?_ ah ?_ ?_ ?_ ?_ ?_)
   ·rw[nJ];exact uw _ _ (bN (sw _ _ UZ) Q6 (by intro z;cases z)) (sw _ _ UZ)
   ·rw[nJ];exact(XT.mono sw).ext Q6 uw
   ·rw[nJ];exact wI ((U8.mono sw).ext Q6 uw) ZK
   ·rw[nJ];exact(sw.cI q2).nI Q6 uw
   ·rw[nJ];exact uw _ _ (bN (sw _ _ q3) Q6 (by intro z;cases z)) (sw _ _ q3)
   ·rw[nJ];exact rK (q4.mono sw) fun a row vals h=>h.ext Q6 uw
   ·rw[zH,<- zaZ,yz,e6];have:a.2.getD j (0,[])=t1:=by rw[zan,MJ];rfl
    simp only[this,Gz]
  ·intro σ H6 hv;refine qD _ _ _ hv _ fun z7 z8 Cc bs f6 GX xB s6 d6 XS UZ XT U0 U8 q2 q3 q4 e6=>?_;subst xB;refine(mN _ _ _ fun _ zk=>zk _ _ _ _ Cc bs f6 GX rfl s6 d6 XS UZ XT U0 U8 ?_);rw[List.take_add_one,ha,Option.toList_some,BL,hll];exact e6
 ·intro σ H5 hv;refine mO _ _ _ hv _ fun z5 z6 z7 z8 Cc bs f5 GW xB s5 d5 UT TK UU UW UX e5=>?_;subst xB;refine(Fn _ _).mpr ?_;walk_at "rd";have g5:=gok us.length;rw[<- sV,zbp] at e5 g5;rw[e5] at g5 ef;obtain⟨ok5,ao5,ZL⟩:=g5;have ZL:f.length+bs.length<=f5.length:=ZL;refine(MF _ _ _ fun _ zk=>zk _ _ _ _ _ b Cc bs f5 GW (lv+1) rfl s5 d5 UT ok5 UW (UX.mono uG) ao5 ef (fun h=>?_) rfl);have:=zbc.mpr h;lia
theorem uY(T:Tx K mg t){c Pt:zc8}(B:iK K mg base c Pt)(hc:tR K t.bD c) :
 bz P w K mg base de 11 t.bD t.gB ["chart"] (Gy P w K t.aE "first_inputs.<locals>.<lambda>" Pt (qt (gJ aG))):=by
 have Ai:=xH (P:=P) (w:=w) (base:=base) T;refine T.ib.F.okC mH hc (fun vs H Q E h=>?_) (fun A outer s H vs Q E hr h=>?_)
 ·obtain⟨_,_,_,rfl,_⟩:=h;rfl
 obtain⟨ch,pr,ps,rfl,co,dr,su,zG,tok,q⟩:=h;have nd:=mH.nd;have Lv:∀pins σ (H':Hp) (s':zdi) e FJ a o,Inv (lA de P w K mg base ["chart"] "first_inputs" (az aG) t.bD (.ref c) A outer s H E).CI pins σ H' s'->H' a=none->s'.heap.get? a=some o->de (lA de P w K mg base ["chart"] "first_inputs" (az aG) t.bD (.ref c) A outer s H E).CI.stack (upd H' a (fQ a o)) s' E0 e FJ->(lA de P w K mg base ["chart"] "first_inputs" (az aG) t.bD (.ref c) A outer s H E).CI.xe e FJ:=fun _ _ _ _ _ _ _ _ _ _ _ h=>h.elim;refine⟨_,[some (.ref ch)],(aq (aJ (JP (i:=0) (y:="chart") Ai (hr.mono (by first|decide|omega)) rfl T.fU.m T.fU.F.kp T.fU.b Lv (ai (cC (pv 0) rfl) (ai (Pd (y:="chart") B rfl rfl ⟨_,rfl,rfl⟩ rfl) ae rfl) lF) rfl rfl rfl))),rfl,?_⟩;walk_at "rd";simp only[JO];walk_at "rd";obtain⟨dx,nl,sd,fa,va,stt,wy,us,ws,h1,h2,h3,h4,h5,h6,h7,h8,h9,Gj,Hb,K7⟩:=co.at_;have nZ:cx K H fa (PG.bc pr.body 0) (pr.aA.map (·.first)):=⟨va,.of h5,.of (by rw[zbE];exact h6)⟩
 refine⟨ch,_,dx,_,.ref fa,rfl,h1,T.cG,T.fK,rfl,?_⟩;refine⟨ps,zG,tok,fun fo cc c' pm uC oc vs Cu tk H1 ecc Ss kp only yfo yc' QA htk Vc XZ=>⟨_,rfl,fun cc2 kN uc X0 xm X1 ruc=>?_⟩⟩;cases ecc.symm.trans X0;have u1:aT Pt H H1:=fun b o n e=>kp b o n e;have k1:Kp H H1:=Kp.of u1 zG;have sc:=au.new xm (fQ cc kN);have Vd:(upd H1 cc (fQ cc kN)) cc=some (fQ cc kN):=ah;have MM:=sc _ _ Vc;have X2:H cc=none:=by
  cases y:H cc with
  |none=>rfl
  |some o=>
   by_cases z:cc=Pt
   ·rw[z,Vc] at xm;cases xm
   ·rw[kp cc o z y] at xm;cases xm
 have lam:Gx "chart" "first_inputs.<locals>.<lambda>" (gJ aG) (upd H1 cc (fQ cc kN)) fo cc kN (.ref ch):=⟨c',pm,uC,uc,oc,vs,tk,sc _ _ yfo,sc _ _ yc',QA,htk,Vd,X1,ruc⟩
 refine⟨fa,fo,cc,ch,kN,pr,(PG.bc pr.body 0,pr.aA.map (·.first)),rfl,(co.kp k1).mono sc,dr,(nZ.kp k1).mono sc,cZ.first dr,lam,su,fun D aC H3 s3 hD d3 f3=>⟨s3 _ _ Vd,?_⟩⟩;have nD:D≠cc:=fun z=>by rw[z,Vd] at hD;cases hD
 have TM:=s3 _ _ Vd;have uw:aT cc H3 (wo H3 cc):=vt;have PU:H D=none:=by
  rw[av nD] at hD;cases y:H D with
  |none=>rfl
  |some o=>
   by_cases z:D=Pt
   ·rw[z,Vc] at hD;cases hD
   ·rw[kp D o z y] at hD;cases hD
 refine q D aC (wo H3 cc) Cu (fun b o n e=>?_) PU (d3.other TM nD uw) (f3.imp fun a xs h=>h.nI TM uw) ?_ ?_
 ·rw[dW (aj e X2)];exact s3 _ _ (sc _ _ (kp b o n e))
 ·rw[dW (aj Vc xm)];exact s3 _ _ MM
 ·refine XZ.kp fun b o e _=>?_;rw[dW (aj e xm)];exact s3 _ _ (sc _ _ e)
theorem qE(T:Tx K mg t){c Pt:zc8}(B:iK K mg base c Pt)(hc:tR K t.bD c) :
 bz P w K mg base de 12 t.dq t.eB ["chart"] (Pl P w K t.aE "first_inputs.<locals>.<lambda>" Pt (qt (gJ aG))):=by
 have xf:=uY (P:=P) (w:=w) (base:=base) T B hc;have mv:=pT (P:=P) (w:=w) (base:=base) T;refine T.eU.F.mB jQ (fun vs H Q E h=>?_) (fun dY A outer s H vs Q E hr h=>?_)
 ·obtain⟨_,_,_,rfl,_⟩:=h;rfl
 obtain⟨ch,pr,tps,rfl,co,dr,su,zG,tok,q⟩:=h;have nd:=jQ.nd;have hu:=ip hr;refine⟨_,[some (.ref ch),none,none,none,none],(ag (eE 1 nd (nH (J:=uW)))
 (ag (eS PassesOwn.never rfl (GC (J:=qI) (J7 (J:=qI) (dC xf T.ib hr (a8 0 ae)))) (yS rfl (ck (pH 2 nd) (ck (pH 3 nd) lh)))
 (aq (eS PassesOwn.never rfl (dJ (dC mv T.ia hr (a8 0 (a8 2 ae)))) (pH 4 nd)
 (aq (bP (GD (J:=uW) (Mf hr) (pv 1) (a8 4 (a8 3 ae))))))))
 (aq (aJ (pv 1))))),rfl,?_⟩
 have line:zdg=2 ^ 24:=rfl;refine aw fun U1 fM=>?_;walk_at "rd";intro D hD yD;refine(fM _ _).mpr (aw fun U2 ig=>?_);clear fM;have d1:=wB (J:=uW) (P:=P) (w:=w) (K:=K) (H:=H) yD;have s1:=au.new hD (.ext (fq uW P w D []));generalize upd H D (.ext (fq uW P w D []))=H1 at *;refine J8 fun U hU=>?_;simp only[J0,JZ];walk_at "rd";have X3:=JX dr;refine⟨ch,pr,tps,rfl,co.mono s1,dr,su,s1 _ _ zG,tok.kp (.same s1),fun F ZM H2 TN u2 hF dF fF MM X4=>⟨F,ZM,rfl,dF,fun p hp=>?_⟩⟩;have ZN:aT Pt H H2:=(aT.of s1).trans u2;have ZO:D≠Pt:=fun z=>by rw[z,zG] at hD;cases hD
 obtain⟨φ1,e1⟩:=d1.qr;have d2:DS uW P w K H2 D []:=d1.Sr (fun o h=>u2 _ _ ZO h) fun b ys h=>h.kp (Kp.of u2 (s1 _ _ zG));have X5:D≠F:=aj e1 hF;have WX:H p=none:=by
  cases y:H p with
  |none=>rfl
  |some o=>rw[ZN p o (fun z=>by rw[z,MM] at hp;cases hp) y] at hp;cases hp
 have hF0:H F=none:=s1.free hF;have sp:=au.new hp (.ext (j6 p F));have yp:(upd H2 p (.ext (j6 p F))) p=some (.ext (j6 p F)):=ah;have X6:=dF.mono sp;have ZP:=fF.imp (H':=upd H2 p (.ext (j6 p F))) fun a xs h=>sp.cI h;have d3:=d2.mono sp;have Q7:=ZN.trans (.of sp);have GY:=sp _ _ MM;have MN:=X4.kp (.same sp);generalize upd H2 p (.ext (j6 p F))=H3 at *;refine⟨p,F,ZM,rfl,yp,X6,fun o ps fz po=>hU _ _ ?_⟩;clear hU;obtain⟨φF,TQ⟩:=X6.qr;have uF:aT F H3 (upd H3 F (fQ F o)):=(aT.refl _ _).put _;have ZQ:∀a xs,cu K H3 a xs->cu K (upd H3 F (fQ F o)) a xs:=fun a xs h=>h.nI TQ uF;have ZR:aT Pt H (upd H3 F (fQ F o)):=fun b ob n e=>uF b ob (aj e hF0) (Q7 b ob n e);have d4:=d3.other TQ X5 uF;have TR:=uF _ _ (fun z=>by rw[z,TQ] at GY;cases GY) GY;have nFP:F≠Pt:=fun z=>by rw[z,GY] at TQ;cases TQ
 have adt:=X5;have TU:=MN.ds X6 uF;have ZS:(upd H3 F (fQ F o)) F=some (fQ F o):=ah;have lps:ps.length=(cF pr (gN pr)).length:=by rw[<- ZP.len];exact(Paired.length po).symm
 have Ve:F≠D:=X5.symm;have adv:(cF pr (gN pr)).length<=ba pr:=by
  have:=gW X3.nd (fun x hx=>by obtain⟨y,hy,rfl⟩:=zaF.mp hx;exact X3.Cv y hy)
  rwa [zad] at this
 generalize upd H3 F (fQ F o)=H4 at *;obtain⟨Pv,mN,mO⟩:=J9 fun (i:Nat) (σ:St) (H5:Hp) zq=>∀(z2 z3 z4:Option V) (aC:List (List Key×V)),σ=[some (.ref ch),some (.ref D),z2,z3,z4]->aT Pt H H5->H5 F=some (fQ F o)->DS uW P w K H5 D aC->aC.length<=2*i->mF K H5 (ik pr ((cF pr (gN pr)).take i)) aC->(∀a xs,cu K H3 a xs->cu K H5 a xs)->H5 Pt=some (.oZ TN)->TabOk "first_inputs.<locals>.<lambda>" (qt (gJ aG)) H5 TN->zq;refine Ms (d:=F) (o:=o) (ps:=ps) Pv ((mN _ _ _ fun _ zk=>zk _ _ _ [] rfl ZR ZS d4 (zah _) (fun t=>rfl) ZQ TR TU)) (fun i σ H5 _ hv=>?_) ?_ ?_
 ·refine mO _ _ _ hv _ fun _ _ _ _ _ _ y _ _ _ _ _ _=>?_;exact y
 ·intro i b v σ H5 pp hi hv DO;clear ZR ZS d4 ZQ TR TU;refine mO _ _ _ hv _ fun z2 z3 z4 aC xA u5 NY d5 lk5 m5 TV Qq Qr=>?_;subst xA;clear hv;obtain⟨kv,hkv,on,rfl⟩:=jI po hi;obtain⟨x,hx,ek,a,ea,qa⟩:=jI ZP hkv;rw[ek] at on;have stx:=O8 on;have six:cZ pr x.1:=X3.Cv x (za5 hx);have il:i<(cF pr (gN pr)).length:=(zam.mp hx).1;obtain⟨va,yv,yU⟩:=stx;have X7:cx K H5 b x.1.1 x.1.2:=⟨va,TV _ _ yv,TV _ _ yU⟩
  have qa5:=TV _ _ qa;rw[ea];have s6:=au.new DO (.tup [.ref b,.ref a]);have U9:(upd H5 pp (.tup [.ref b,.ref a])) pp=_:=ah;generalize upd H5 pp (.tup [.ref b,.ref a])=H6 at *;refine⟨pp,_,rfl,.of U9,rfl,_,_,rfl,_,_,rfl,rfl,?_⟩;simp only[za6];have u6:=u5.trans (.of s6);have k6:Kp H H6:=Kp.of u6 zG;refine gR fun U hU=>?_;walk_at "rd";refine⟨ch,b,pr,x.1,rfl,co.kp k6,dr,X7.mono s6,six,fun tl sX H7 s7 B8 Qs=>⟨tl,rfl,⟨sX,.of Qs.1⟩,hU _ _ ?_⟩⟩;clear hU;have NZ:=s6.trans s7;have lt:=E5 pr x.1;have ZT:(iZ pr x.1).length=sX.length:=by rw[Qs.2.length,zad]
  obtain⟨φD,eD5⟩:=d5.qr;have He:tl≠D:=(aj (s6 _ _ eD5) B8).symm;obtain⟨Pw,B9,qD⟩:=J9 fun (j:Nat) (σ:St) (H8:Hp) zq=>∀(z4:Option V) (aC:List (List Key×V)),σ=[some (.ref ch),some (.ref D),some (.ref b),some (.ref a),z4]->aT Pt H H8->H8 F=some (fQ F o)->DS uW P w K H8 D aC->aC.length<=2*i+j->mF K H8 (fun u=>(ik pr ((cF pr (gN pr)).take i) u).or (if u∈(iZ pr x.1).take j then some x.2 else none)) aC->(∀a xs,cu K H7 a xs->cu K H8 a xs)->H8 Pt=some (.oZ TN)->TabOk "first_inputs.<locals>.<lambda>" (qt (gJ aG)) H8 TN->JI K H8 tl sX (iZ pr x.1)->zq;refine gO (K:=K) (a:=tl) (xs:=sX) Pw ((B9 _ _ _ fun _ zk=>zk _ aC rfl (u5.trans (.of NZ)) (NZ _ _ NY) (d5.mono NZ) (by lia) ((m5.imp fun a xs h=>NZ.cI h).congr fun u=>by simp) (fun a xs h=>h) (NZ _ _ Qq) (Qr.kp (.same NZ)) Qs)) (fun j σ H8 _ hv=>?_) ?_ ?_
  ·refine qD _ _ _ hv _ fun _ _ _ _ _ _ _ _ _ _ _ tg=>?_;exact .of tg.1
  ·intro j y σ H8 hj hv;refine qD _ _ _ hv _ fun z4 aC xA u8 Vf d8 lk8 m8 TX MO Aj TY=>?_;subst xA;clear hv;have jl:j<(iZ pr x.1).length:=by have:=(zam.mp hj).1;lia
   obtain⟨y',OE,rt⟩:=TY.2.get (i:=j) (d:=ji (iZ pr x.1)[j]) (by rw[zap,zac jl];rfl);rw[hj] at OE;cases OE;obtain⟨ta,rfl,ot⟩:=E2 rt;have qa8:=TX _ _ (NZ.cI qa5);have MP:∀u,u∈(iZ pr x.1).take (j+1)↔u∈(iZ pr x.1).take j\/u=(iZ pr x.1)[j]:=fun u=>by rw[za7 jl,zao,zag]
   simp only[dI,za6,NB];walk_at "rd";refine⟨D,rfl,⟨_,d8⟩,ta,aC,iY (iZ pr x.1)[j],.ref a,rfl,d8,ot,by lia,fun u hu=>?_,fun hn H9 d9 e9=>?_⟩
   ·have em:∃g,(ik pr ((cF pr (gN pr)).take i) (iZ pr x.1)[j]).or (if (iZ pr x.1)[j]∈(iZ pr x.1).take j then some x.2 else none)=some g:=by
     have:=m8 (iZ pr x.1)[j];cases e:(ik pr ((cF pr (gN pr)).take i) (iZ pr x.1)[j]).or (if (iZ pr x.1)[j]∈(iZ pr x.1).take j then some x.2 else none) with
     |none=>simp only[e] at this;rw[show b8 aC (iY (iZ pr x.1)[j])=none from this] at hu;cases hu
     |some g=>exact⟨g,rfl⟩
    obtain⟨g,em⟩:=em;refine(B9 _ _ _ fun _ zk=>zk _ aC rfl u8 Vf d8 (by lia) (m8.congr fun u=>?_) TX MO Aj TY);by_cases eu:u=(iZ pr x.1)[j]
    ·subst eu;cases e1:ik pr ((cF pr (gN pr)).take i) (iZ pr x.1)[j] with
     |some g1=>rfl
     |none=>
      rw[e1,Option.none_or] at em;simp only[Option.none_or];split at em
      ·rename_i hm;rw[if_pos hm,if_pos ((MP _).mpr (.inl hm))]
      ·cases em
    ·simp only[MP,eu,or_false]
   ·obtain⟨φ9,rfl⟩:=e9;obtain⟨φ8,ZU⟩:=d8.qr;have u9:aT D H8 (upd H8 D (.ext φ9)):=(aT.refl _ _).put _;have em:(ik pr ((cF pr (gN pr)).take i) (iZ pr x.1)[j]).or (if (iZ pr x.1)[j]∈(iZ pr x.1).take j then some x.2 else none)=none:=by
     have:=m8 (iZ pr x.1)[j];cases e:(ik pr ((cF pr (gN pr)).take i) (iZ pr x.1)[j]).or (if (iZ pr x.1)[j]∈(iZ pr x.1).take j then some x.2 else none) with
     |none=>rfl
     |some g=>simp only[e] at this;obtain⟨b,h1,_⟩:=this;rw[hn] at h1;cases h1
    have X8:∀a xs,cu K H8 a xs->cu K (upd H8 D (.ext φ9)) a xs:=fun a xs h=>h.nI ZU u9;refine(B9 _ _ _ fun _ zk=>zk _ _ rfl (fun z ob n e=>u9 z ob (aj e hD) (u8 z ob n e)) (u9 _ _ Ve Vf) d9 (zaA (fc _ _ _) (by lia)) (((m8.imp X8).put em (X8 _ _ qa8)).congr fun u=>?_) (fun a xs h=>X8 _ _ (TX _ _ h)) (u9 _ _ ZO.symm MO) (Aj.ds d8 u9) ⟨u9 _ _ He TY.1,nK ZU u9 _ _ TY.2⟩);by_cases eu:u=(iZ pr x.1)[j]
    ·subst eu;rw[em];rw[Option.or_eq_none_iff] at em;rw[em.1,if_pos rfl,if_pos ((MP _).mpr (.inr rfl))]
    ·simp only[MP,eu,or_false,if_false,Option.or_none]
  ·intro σ H8 hv;refine qD _ _ _ hv _ fun z4 aC xB u8 Vf d8 lk8 m8 TX MO Aj TY=>?_;subst xB;refine(mN _ _ _ fun _ zk=>zk _ _ _ aC rfl u8 Vf d8 (by lia) (m8.congr fun u=>?_) (fun a xs h=>TX _ _ (NZ.cI (TV _ _ h))) MO Aj);rw[<- ZT,zbp,List.take_add_one,hx,Option.toList_some,BP];rfl
 ·intro σ H5 hv;refine mO _ _ _ hv _ fun z2 z3 z4 aC xB u5 NY d5 lk5 m5 TV Qq Qr=>?_;subst xB;rw[lps,zbp] at m5;refine(ig _ _).mpr ?_;walk_at "rd";exact q D aC H5 TN u5 hD d5 m5 Qq Qr
theorem Cd(T:Tx K mg t){c Pt:zc8}(B:iK K mg base c Pt)(hc:tR K t.bD c)(cH:bz P w K mg base de 1 t.cX t.cR ["body", "behind"] (oE K))(cK:bz P w K mg base de 6 t.bL t.bV ["body"] (lL K 4))(qz:bz P w K mg base de 7 t.nV t.lX ["program"] (zt K)) :
 bz P w K mg base de 13 t.jU t.ka ["program", "target"] (Mu K "first_inputs.<locals>.<lambda>" Pt (qt (gJ aG))):=by
 have mw:=pR (P:=P) (w:=w) (base:=base) T cH cK qz;have sI:=qE (P:=P) (w:=w) (base:=base) T B hc;refine T.mf.F.mB uJ (fun vs H Q E h=>?_) (fun dY A outer s H vs Q E hr h=>?_)
 ·obtain⟨_,_,_,_,_,rfl,_⟩:=h;rfl
 obtain⟨v,tv,pr,tg,ps,rfl,rp,rt,dr,su,zG,tok,q⟩:=h;have nd:=uJ.nd;refine⟨_,[some v,some tv,none],(ag (eE 2 nd (dC sI T.eU hr (ai (y0 T.rZ mw (hr.mono (by first|decide|omega)) rfl T.BY T.rY .nil pj (a8 0 ae)) ae bR)))
 (ag (bh (aD (DB (J:=uW) (Mf hr)) (pv 1) (pv 2) rfl)
 (aq (aJ (jH zg rfl T.DM PyProof.Rows.Boot.«list» (ai (JB (J:=uW) (Mf hr) (pv 2) (pv 1) zi) ae bq))))
 aQ)
 (aq (aJ dQ)))),rfl,?_⟩
 obtain⟨ta,rfl,ot⟩:=E2 rt;refine aw fun U1 fM=>?_;walk_at "rd";intro p dx hp NG ne;have s1:au H (upd (upd H dx (.own p)) p (.ins t.aE dx [])):=(au.new NG _).trans (au.new (by rw[av ne.symm];exact hp) _);refine⟨p,dx,v,pr,rfl,ah,by rw[av ne];exact ah,rp.mono s1,dr.dep,dr.v7,dr.ok.pw,dr.ok.nb,dr.ok.v7,fun H2 u2 co=>⟨rfl,?_⟩⟩;have s2:au H H2:=((aT.of s1).trans u2).same hp;refine⟨p,pr,ps,rfl,co,dr,su,s2 _ _ zG,tok.kp (.same s2),fun D aC H3 ZV u3 hD d3 m3 y3 MN=>(fM _ _).mpr ?_⟩;clear fM;have Q7:aT Pt H H3:=(aT.of s2).trans u3;have k03:Kp H H3:=Kp.of Q7 zG;have ZW:=uW.up (fun b ys q=>cu.kp q k03) ot;have m:=m3 tg;refine aw fun U2 ig=>?_;walk_at "rd";refine⟨D,ta,aC,iY tg,rfl,rfl,d3,ZW,?_⟩;cases e:ik pr (cF pr (gN pr)) tg with
 |none=>
  rw[e] at m;rw[show b8 aC (iY tg)=none from m];refine(if_neg (by decide)).mpr ((ig _ _).mpr ?_);walk_at "rd";exact(q H3 ZV Q7 y3 MN).1 e
 |some g=>
  rw[e] at m;obtain⟨a,e1,qa⟩:=m;rw[e1];refine(if_pos rfl).mpr ?_;refine⟨D,ta,aC,iY tg,.ref a,rfl,rfl,d3,ZW,e1,a,_,rfl,.inr qa,fun l hl=>?_⟩;have sl:=au.new hl (.lst (g.map V.int));have W8:H l=none:=by
   cases y:H l with
   |none=>rfl
   |some o=>rw[Q7 l o (aj y3 hl).symm y] at hl;cases hl
  exact(q _ ZV (Q7.trans (.of sl)) (sl _ _ y3) (MN.kp (.same sl))).2 g l e W8 ah
theorem xg(T:Tx K mg t):bz P w K mg base de 1 t.gu t.hV ["many"] Ke:=by
 refine T.iT.F.mB nU (fun vs H Q E h=>?_) (fun dY A outer s H vs Q E hr h=>?_)
 ·obtain⟨_,rfl,_⟩:=h;rfl
 obtain⟨m,rfl,hm,q⟩:=h;have nd:=nU.nd;refine⟨_,[some (V.int m)],(ag (bh (aD cf (pv 0) ao (aP _))
 (aq (aJ (bg (ai (bg ae) ae iw))))
 aQ)
 (ag (bh (aD cf (pv 0) ao (aP _))
 (aq (aJ (iI (own:=["one"]) (ix:=[]) rfl (by rfl) (by rfl) (eJ rfl T.gD (ai ao ae aH)) (fun _ _ _ _=>(gA (i:=0) (by show List.Nodup (["one"]:List Str);decide +kernel) rfl (zbz rfl))) (fun _ _ _ _=>iH) (fun _ _ _ _=>(bg (a8 0 ae))))))
 aQ)
 (aq (aJ (iI (own:=["number"]) (ix:=[]) rfl (by rfl) (by rfl) (eJ rfl T.gD (ai ao ae aH)) (fun _ _ _ _=>(gA (i:=0) (by show List.Nodup (["number"]:List Str);decide +kernel) rfl (zbz rfl))) (fun _ _ _ _=>iH) (fun _ _ _ _=>(bg (ai (aW vd (pv 0) ao) (ai (aW bK (pv 0) ao) ae iu) iu)))))))),rfl,?_⟩
 refine aw fun U1 fM=>?_;walk_at "rd";refine cA (fun z=>?_) (fun z=>(fM _ _).mpr ?_)
 ·intro p hp l hl;have s1:=au.new hp (.lst []);have s2:=au.new hl (.lst [V.ref p]);have z:m=0:=by lia
  exact q l _ _ (s1.trans s2) ah (i0.snoc (figs:=[]) .nil trivial (s2 _ _ ah) (fun d h=>by cases h) z.symm)
 ·clear fM;refine aw fun U2 ig=>?_;walk_at "rd";refine cA (fun z=>?_) (fun z2=>(ig _ _).mpr ?_)
  ·simp only[j0];walk_at "rd";have z:m=1:=by lia
   refine⟨10,rfl,by decide,by decide,fun D hD=>yF (n:=10) (fun g=>g.length=m) (by decide) hD (fun i H2 hi R hR=>?_) (fun us H2 s2 h2 f2=>q D us H2 s2 h2 f2)⟩;walk_at "rd";intro p hp;exact hR p [(i:Int)] hp (fun d h=>by rw[zag.mp h];lia) z.symm
  ·clear ig;walk_at "rd";simp only[j0];walk_at "rd";have z:m=2:=by lia
   refine⟨100,rfl,by decide,by decide,fun D hD=>yF (n:=100) (fun g=>g.length=m) (by decide) hD (fun i H2 hi R hR=>?_) (fun us H2 s2 h2 f2=>q D us H2 s2 h2 f2)⟩;walk_at "rd";intro p hp;exact hR p [(i:Int)/10,(i:Int)%10] hp (fun d h=>by
    rcases zae.mp h with rfl |h
    ·lia
    ·rw[zag.mp h];lia) z.symm
theorem xI(T:Tx K mg t):bz P w K mg base de 2 t.hX t.iR ["deck", "told"] (Mx K):=by
 have aS:=oP (P:=P) (w:=w) (base:=base) T;refine T.jC.F.mB pO (fun vs H Q E h=>?_) (fun dY A outer s H vs Q E hr h=>?_)
 ·obtain⟨_,_,_,_,_,_,rfl,_⟩:=h;rfl
 obtain⟨D,S,sc,p,tv,go,rfl,dk,hp,ta,q⟩:=h;have nd:=pO.nd;have hu:=ip hr;refine⟨_,[some (V.ref D),some tv,none,none,none,none,none],(ag (eE 2 nd (bg ae))
 (ag (eS PassesOwn.never rfl (eJ rfl T.gD (ai ao ae aH)) (pH 3 nd)
 (ag (eE 4 nd (aW dE ao (aW bK (dC aS T.aU hr (a8 0 ae)) ao)))
 (ag (bh (aD ve (pv 1) dQ (aP _))
 (aq (eE 4 nd (aW bK (dC aS T.aU hr (a8 0 ae)) (aW dE (bB aZ rfl T.eV PyProof.Rows.Boot.«len» (a8 1 ae)) ao))))
 aQ)
 (ag (Lw (i:=5) nd rfl (zbz rfl) (own:=["j"]) (ix:=[0]) rfl (by rfl) (by rfl) (eJ rfl T.gD (a8 4 ae)) (fun _ _ _ _=>(gA (i:=0) (by show List.Nodup (["j", "deck"]:List Str);decide +kernel) rfl (zbz rfl))) (fun _ _ _ _=>iH) (fun _ _ _ _=>(aW bK (dC aS T.aU hr (a8 1 ae)) ao)))
 (ag (bh (PW.pt (pw_and (aD ve (pv 1) dQ (aP _)) (pw_and (aD Eo (pv 4) ao (aP _)) (pw_and1 (aD cf (aW bK (dC aS T.aU hr (a8 0 ae)) ao) ao (aP _))))))
 (ag (eE 6 nd (aW bK (dC aS T.aU hr (a8 0 ae)) (pv 4)))
 (aq (eE 5 nd (aW HV (aW HV (qT vj (pv 1) vh (vi (pv 6))) (bg (ai (aW bK (dC aS T.aU hr (a8 0 ae)) (aW dE (aK bJ (pv 1) (pv 6) zi) ao)) ae iu))) (qT vj (pv 5) (vi (aW dE (pv 6) ao)) vh)))))
 aQ)
 (aq (bh (PW.pt (pw_or (aD yW (pv 1) dQ (aP _)) (pw_or (aD o9 (bB aZ rfl T.eV PyProof.Rows.Boot.«len» (a8 5 ae)) (bB aZ rfl T.eV PyProof.Rows.Boot.«len» (a8 1 ae)) (aP _)) (pw_or1 (aD (Kc (ip hr)) (pv 5) (pv 1) (aP _))))))
 (aq (bP (gh zar zau zav bQ (pv 2) (a8 5 ae))))
 aQ)))))))
 (aq (aJ (pv 2))))),rfl,?_⟩
 have line:zdg=2 ^ 24:=rfl;refine aw fun U1 fM=>?_;walk_at "rd";intro F hF;refine(fM _ _).mpr (aw fun U2 ig=>?_);clear fM;have s1:=au.new hF (.lst []);have B4:=dk.same s1;have yF1:(upd H F (.lst [])) F=some (.lst []):=ah;have Ve:F≠D:=(aj dk.a9 hF).symm;have ntF:∀lt g,go=some g->tv=.ref lt->lt≠F:=fun lt g e e2=>by
  subst e;obtain⟨_,_,lt',e3,_,y⟩:=ta;rw[e2] at e3;cases e3;exact aj y hF
 refine kF fun U hU=>?_;walk_at "rd";refine⟨40,rfl,by decide,by decide,hU _ _ ?_⟩;clear hU;rw[show (40:Int).toNat=40 from rfl];obtain⟨Pv,mN⟩:∃Pv:Nat->St->Hp->Prop,∀i σ Hx,Pv i σ Hx↔∃(z3 z4 z5 z6:Option V) (px:Nat) (us:List V),σ=[some (V.ref D),some tv,some (V.ref F),z3,z4,z5,z6]/\(∀b o,H b=some o->b≠D->Hx b=some o)/\px<=p+2100*i/\eY K Hx D S sc px/\Hx F=some (.lst us)/\us.length<=i/\i0 (fun a=>a≠D/\a≠F) Hx (Mw go) us:=⟨_,fun _ _ _=>Iff.rfl⟩
 refine jG (lo:=0) (n:=40) Pv ((mN _ _ _).mpr ⟨_,_,_,_,p,[],rfl,fun b o e _=>s1 b o e,by lia,B4,yF1,zah _,.nil⟩) (fun i σ Hx hi hv=>?_) (fun σ Hx hv=>?_)
 ·obtain⟨z3,z4,z5,z6,px,us,rfl,kx,QN,N0,Vg,sV,fx⟩:=(mN _ _ _).mp hv;clear hv;have done:=fun σ yJ=>(mN (i+1) σ yJ).mpr;simp only[dI,za6];refine aw fun V1 Cy=>?_;walk_at "rd";refine⟨D,S,sc,px,rfl,N0,by lia,fun H2 u2 vy=>⟨_,10,rfl,rfl,(by decide:(0:Int)<10),_,_,rfl,rfl,(Cy _ _).mpr (aw fun V2 Fn=>?_)⟩⟩;clear Cy;obtain⟨Kx,N1⟩:∃Kx:Hp->Prop,∀H3,Kx H3↔(∀b o,H b=some o->b≠D->H3 b=some o)/\H3 F=some (.lst us)/\i0 (fun a=>a≠D/\a≠F) H3 (Mw go) us:=⟨_,fun _=>Iff.rfl⟩
  have kp:∀ {H3 H4:Hp},Kx H3->aT D H3 H4->Kx H4:=fun {H3 H4} k u=>by
   obtain⟨k1,k2,k3⟩:=(N1 _).mp k;exact(N1 _).mpr ⟨fun b o e n=>u _ _ n (k1 b o e n),u _ _ Ve k2,k3.keep fun a xs n y=>⟨n,u _ _ n.1 y⟩⟩
  have k2:Kx H2:=kp ((N1 _).mpr ⟨kx,Vg,fx⟩) u2;clear N0 fx Vg kx;have rest:∀(H3:Hp) (p3 n:Nat),Kx H3->p3<=px+2->eY K H3 D S sc p3->(go=none->n<=12)->(∀g,go=some g->n<=g.length)->V2 [some (V.ref D),some tv,some (V.ref F),some (V.int (0+i)),some (V.int n),z5,z6] H3:=by
   intro H3 p3 n k3 Fj mJ ZX HC;have hn:n<=2002:=by
    cases go with
    |none=>have:=ZX rfl;lia
    |some g=>have:=HC g rfl;have:=ta.2.1;lia
   refine(Fn _ _).mpr (aw fun V3 GP=>?_);walk_at "rd";simp only[j0];walk_at "rd";refine⟨_,rfl,by lia,by lia,fun FL X9=>?_⟩;rw[zbh];refine Dy (K:=K) (r:=[some (V.ref D)]) (fun m=>0<=m/\m<=9) (by lia) X9 mJ (fun j x H4 hj u4 d4 R hR=>?_) (fun figs H4 lf Vh u4 sD y4=>(GP _ _).mpr (aw fun V4 QV=>?_))
   ·walk_at "rd";exact⟨D,S,sc,p3+j,rfl,d4,by lia,fun H5 u5 d5=>⟨_,10,rfl,rfl,(by decide:(0:Int)<10),hR _ _ ⟨by lia,by lia⟩ u5 d5⟩⟩
   clear GP;have k4:=kp k3 u4;have Q8:FL≠D:=(aj mJ.a9 X9).symm;have Ya:FL≠F:=(aj ((N1 _).mp k3).2.1 X9).symm;have fin:∀(H5:Hp) (p5:Nat) (lo:zc8) (fg:List Int) (z6:Option V),Kx H5->p5<=px+2100->eY K H5 D S sc p5->lo≠D->lo≠F->H5 lo=some (.lst (fg.map V.int))->Dg fg->fg.length=n->V4 [some (V.ref D),some tv,some (V.ref F),some (V.int (0+i)),some (V.int n),some (V.ref lo),z6] H5:=by
    intro H5 p5 lo fg z6 k5 B6 xC n1 n2 y5 d5 l5;obtain⟨kk,NY,f5⟩:=(N1 _).mp k5;have vm:Mw go fg->Pv (i+1) [some (V.ref D),some tv,some (V.ref F),some (V.int (0+i)),some (V.int n),some (V.ref lo),z6] (upd H5 F (.lst (us++[V.ref lo]))):=fun bf=>by
     have uF:aT F H5 (upd H5 F (.lst (us++[V.ref lo]))):=(aT.refl _ _).put _;refine done _ _ ⟨_,_,_,_,p5,us++[V.ref lo],rfl,fun b o e n=>uF _ _ (fun z=>?_) (kk b o e n),by lia,⟨uF _ _ Ve.symm xC.a9,uF _ _ (aj dk.da hF) xC.da,xC.ne,xC.len⟩,ah,by simp;lia,i0.snoc (f5.keep fun a xs n y=>⟨n,uF _ _ n.2 y⟩) ⟨n1,n2⟩ (uF _ _ n2 y5) d5 bf⟩;rw[z,hF] at e;cases e
    refine(QV _ _).mpr ?_;cases go with
    |none=>
     cases (show tv=.b9 from ta);walk_at "rd";exact(if_pos trivial).mpr ((if_pos trivial).mpr ⟨.inl ⟨rfl,_,.of NY⟩,F,us,.ref lo,rfl,rfl,NY,by lia,vm (by have:=ZX rfl;show fg.length<=12;lia)⟩)
    |some g=>
     obtain⟨dg,lg,lt,rfl,He,yt⟩:=ta;have ZY:=kk _ _ yt He;have le:=HC g rfl;walk_at "rd";refine(if_neg (by intro z;cases z)).mpr ⟨lo,_,rfl,.inl (.of y5),lt,_,rfl,.inl (.of ZY),?_⟩;simp only[zad];have ap:Mw (some g) fg->RI K "list" (V.ref F) H5/\zh (V.ref F) [V.ref lo] H5 fun _ H1=>Pv (i+1) [some (V.ref D),some (V.ref lt),some (V.ref F),some (V.int (0+i)),some (V.int n),some (V.ref lo),z6] H1:=fun bf=>⟨.inl ⟨rfl,_,.of NY⟩,F,us,.ref lo,rfl,rfl,NY,by lia,vm bf⟩
     refine cA (fun z=>(if_pos trivial).mpr (ap (zP dg lg d5 (by lia) (.inl (by lia))))) (fun z=>⟨lo,lt,fg,g,rfl,rfl,.of y5,.of ZY,?_⟩);cases e:DI fg g with
     |true=>exact(if_pos rfl).mpr (ap (zP dg lg d5 (by lia) (.inr e)))
     |false=>exact(if_neg zaf).mpr (done _ _ ⟨_,_,_,_,p5,us,rfl,kk,by lia,xC,NY,by lia,f5⟩)
   cases go with
   |none=>
    cases (show tv=.b9 from ta);walk_at "rd";exact(if_pos trivial).mpr ((if_neg zaf).mpr (fin H4 _ FL figs _ k4 (by lia) sD Q8 Ya y4 Vh lf))
   |some g=>
    obtain⟨dg,lg,lt,rfl,He,yt⟩:=ta;have le:=HC g rfl;walk_at "rd";refine(if_neg (by intro z;cases z)).mpr (cA (fun z=>?_) (fun z=>(if_neg zaf).mpr (fin H4 _ FL figs _ k4 (by lia) sD Q8 Ya y4 Vh lf)));refine⟨D,S,sc,_,rfl,sD,by lia,fun H5 u5 xC=>⟨_,2,rfl,rfl,(by decide:(0:Int)<2),?_⟩⟩;have k5:=kp k4 u5;have y5:=u5 _ _ Q8 y4;refine⟨rfl,cA (fun z2=>?_) (fun z2=>fin H5 _ FL figs _ k5 (by lia) xC Q8 Ya y5 Vh lf)⟩;have m1:=zaI (PG.next sc (p3+n+1)) (b:=(n:Int)) (by lia);have m2:=zaE (PG.next sc (p3+n+1)) (b:=(n:Int)) (by lia);obtain⟨a,ea⟩:∃a:Nat,PG.next sc (p3+n+1)%(n:Int)=(a:Int):=⟨_,(zbW m1).symm⟩
    rw[ea] at m2;have ZZ:a<g.length:=by lia
    refine⟨D,S,sc,_,rfl,xC,by lia,fun H6 u6 Kr=>⟨_,_,rfl,rfl,(by lia:(0:Int)<n),?_⟩⟩;simp only[ea];have k6:=kp k5 u6;have y6:=u6 _ _ Q8 y5;have Z0:=((N1 _).mp k6).1 _ _ yt He;refine⟨_,rfl,lt,_,rfl,.of Z0,fun A1 Z1=>?_⟩;rw[SJ,<- List.map_take];have s7:=au.new Z1 (.lst ((g.take a).map V.int));have yA7:(upd H6 A1 (.lst ((g.take a).map V.int))) A1=_:=ah;have nAD:A1≠D:=(aj Kr.a9 Z1).symm;generalize upd H6 A1 (.lst ((g.take a).map V.int))=H7 at *;refine⟨D,S,sc,_,rfl,Kr.same s7,by lia,fun H8 u8 NN=>?_⟩;have k8:=kp (kp k6 (.of s7)) u8;have y8:=u8 _ _ Q8 (s7 _ _ y6);have yA8:=u8 _ _ nAD yA7;have yt8:=u8 _ _ He (s7 _ _ Z0);have hg:=dg g[a] (zat ZZ);refine cN (.of yt8) (v:=.int g[a]) (ay (by rw[zap,zac ZZ];rfl)) ⟨_,_,rfl,rfl,_,_,rfl,rfl,(by lia:(0:Int)<g[a]+1),fun p9 SK=>?_⟩;have w1:=zaI (PG.next sc (p3+n+1+1)) (b:=g[a]+1) (by lia);have w2:=zaE (PG.next sc (p3+n+1+1)) (b:=g[a]+1) (by lia);show RK (V.ref A1) (V.ref p9) (upd H8 p9 (HO.lst [V.int (PG.next sc (p3+n+1+1)%(g[a]+1))])) _;generalize PG.next sc (p3+n+1+1)%(g[a]+1)=z at *;have s9:=au.new SK (.lst [V.int z]);have y9:(upd H8 p9 (.lst [V.int z])) p9=_:=ah;have k9:=kp k8 (.of s9);have NP:=NN.same s9;have yA9:=s9 _ _ yA8;have XY:=s9 _ _ y8;generalize upd H8 p9 (.lst [V.int z])=H9 at *;refine⟨A1,p9,_,_,rfl,rfl,yA9,y9,by simp;lia,fun c hc=>⟨_,_,rfl,rfl,_,rfl,FL,figs.map V.int,rfl,?_⟩⟩;have qA:=au.new hc (.lst ((g.take a).map V.int++[V.int z]));have QQ:(upd H9 c (.lst ((g.take a).map V.int++[V.int z]))) c=_:=ah;generalize upd H9 c (.lst ((g.take a).map V.int++[V.int z]))=nY at *;refine⟨.of (qA _ _ XY),fun B1 hB1=>?_⟩;rw[show ((a:Int)+1)=((a+1:Nat):Int) by lia,Mv,<- List.map_drop];have Hd:=au.new hB1 (.lst ((figs.drop (a+1)).map V.int));have y11:(upd nY B1 (.lst ((figs.drop (a+1)).map V.int))) B1=_:=ah;generalize upd nY B1 (.lst ((figs.drop (a+1)).map V.int))=Hc at *;refine⟨c,B1,_,_,rfl,rfl,Hd _ _ QQ,y11,by simp;lia,fun e he=>?_⟩;have AO:=au.new he (.lst ((g.take a).map V.int++[V.int z]++(figs.drop (a+1)).map V.int));have TZ:=qA.trans (Hd.trans AO);have em:(g.take a).map V.int++[V.int z]++(figs.drop (a+1)).map V.int=(g.take a++[z]++figs.drop (a+1)).map V.int:=by simp
    have yF9:=((N1 _).mp k9).2.1;refine fin _ _ e (g.take a++[z]++figs.drop (a+1)) _ (kp k9 (.of TZ)) ?_ (NP.same TZ) (aj ((qA.trans Hd) _ _ NP.a9) he).symm (aj ((qA.trans Hd) _ _ yF9) he).symm (by rw[<- em];exact ah) (Po dg Vh ⟨by lia,by lia⟩) (by simp;lia);lia
  cases go with
  |none=>
   cases (show tv=.b9 from ta);walk_at "rd";obtain⟨n,en⟩:∃n:Nat,3+PG.next sc px%10=(n:Int):=⟨(3+PG.next sc px%10).toNat,by lia⟩
   rw[en];exact(if_pos trivial).mpr (rest H2 _ n k2 (by lia) vy (fun _=>by lia) fun g e=>by cases e)
  |some g=>
   have ta':=ta;obtain⟨dg,lg,lt,rfl,He,yt⟩:=ta';walk_at "rd";refine(if_neg (by intro z;cases z)).mpr ⟨D,S,sc,_,rfl,vy,by lia,fun H3 u3 mJ=>⟨lt,_,rfl,.inl (.of (((N1 _).mp (kp k2 u3)).1 _ _ yt He)),_,_,rfl,rfl,?_⟩⟩;rw[zad];refine⟨by lia,?_⟩;obtain⟨n,en⟩:∃n:Nat,PG.next sc (px+1)%((g.length:Int)+1)=(n:Int):=⟨(PG.next sc (px+1)%((g.length:Int)+1)).toNat,(zbW (zaI _ (by lia))).symm⟩
   have:=zaE (PG.next sc (px+1)) (b:=(g.length:Int)+1) (by lia);show V2 [some (V.ref D),some (V.ref lt),some (V.ref F),some (V.int (0+i)),some (V.int (PG.next sc (px+1)%((g.length:Int)+1))),z5,z6] H3;rw[en];exact rest H3 _ n (kp k2 u3) (by lia) mJ (fun e=>by cases e) fun g e=>by cases e;lia
 ·obtain⟨z3,z4,z5,z6,px,us,rfl,kx,QN,N0,Vg,sV,fx⟩:=(mN _ _ _).mp hv;refine(ig _ _).mpr ?_;walk_at "rd";exact q F us Hx px (fun b o n e=>kx b o e n) hF (by lia) N0 Vg (fx.keep fun a xs n y=>⟨n.1,y⟩)
theorem Qt(T:Tx K mg t){c Pt:zc8}(B:iK K mg base c Pt)(hc:tR K t.bD c):bz P w K mg base de 30 t.Fe t.tY ["script"] (zJ K Pt):=by
 have aS:=oP (P:=P) (w:=w) (base:=base) T;have xh:=DW (P:=P) (w:=w) (base:=base) T;have g1:=mq (P:=P) (w:=w) (base:=base) T;have g2:=yO (P:=P) (w:=w) (base:=base) T 4;have g3:=Fu (P:=P) (w:=w) (base:=base) T;have D0:=Cd (P:=P) (w:=w) (base:=base) T B hc g1 g2 g3;have GZ:=DZ (P:=P) (w:=w) (base:=base) T;have Ak:=KG (P:=P) (w:=w) (base:=base) T g1 g2 g3;have xJ:=xg (P:=P) (w:=w) (base:=base) T;have Al:=xI (P:=P) (w:=w) (base:=base) T;refine T.Ff.F.mB Kg (fun vs H Q E h=>?_) (fun dY A outer s H vs Q E hr h=>?_)
 ·obtain⟨_,_,rfl,_⟩:=h;rfl
 obtain⟨a,ns,rfl,hS,Z2,zG,q⟩:=h;have nd:=Kg.nd;have hu:=ip hr;refine⟨_,[some (V.ref a),none,none,none,none,none,none,none,none,none,none],(ag (eE 1 nd (bg (ai (qT vj (pv 0) vh (vi ao)) (ai ao ae aH) bq)))
 (ag (yT (dC xh T.ie hr (a8 1 (ai (aW bK (dC aS T.aU hr (a8 1 ae)) ao) ae iu))) (C3 rfl (ck (pH 2 nd) (ck (pH 3 nd) lh))))
 (ag (eE 4 nd (dC GZ T.oM hr (a8 2 ae)))
 (ag (eS PassesOwn.never rfl (eJ rfl T.gD (ai ao ae aH)) (pH 5 nd)
 (ag (eE 6 nd (aK bJ (pv 4) (aW bK (dC aS T.aU hr (a8 1 ae)) (bB aZ rfl T.eV PyProof.Rows.Boot.«len» (a8 4 ae))) ko))
 (ag (eE 7 nd (dC D0 T.mf hr (a8 2 (a8 6 ae))))
 (ag (eE 8 nd ao)
 (ag (bh (aD ve (pv 7) dQ (aP _))
 (ag (eE 8 nd (bB (xZ rfl) rfl T.Fg PyProof.Rows.Boot.«min» (ai ao (ai (bB aZ rfl T.eV PyProof.Rows.Boot.«len» (a8 7 ae)) ae bR) aH)))
 (aq (bh (Hh (mS (dC Ak T.oN hr (a8 2 (a8 7 (a8 6 ae))))))
 (aq (aJ o7))
 aQ)))
 aQ)
 (ag (eS PassesOwn.never rfl (eJ rfl T.gD (ai (aW dE (pv 8) ao) ae iu)) (pH 9 nd)
 (aq (eS PassesOwn.never rfl (dJ (dC xJ T.iT hr (a8 9 ae))) (pH 10 nd)
 (aq (bh (PW.pt (pw_or (aD yW (pv 7) dQ (aP _)) (pw_or (aD o9 (pv 9) (bB aZ rfl T.eV PyProof.Rows.Boot.«len» (a8 7 ae)) (aP _)) (pw_or1 (aD (Kc (ip hr)) (pv 10) (pv 7) (aP _))))))
 (aq (bh (mS (dC Ak T.oN hr (a8 2 (a8 10 (a8 6 ae)))))
 (aq (aJ o7))
 aQ))
 aQ)))))
 (aq (eS PassesOwn.never rfl (dJ (dC Al T.jC hr (a8 1 (a8 7 ae)))) (pH 10 nd)
 (aq (bh (mS (dC Ak T.oN hr (a8 2 (a8 10 (a8 6 ae)))))
 (aq (aJ o7))
 aQ))))))))))
 (aq (aJ o7)))))),rfl,?_⟩
 have line:zdg=2 ^ 24:=rfl;refine aw fun U1 fM=>?_;walk_at "rd";refine⟨_,rfl,a,_,rfl,hS,fun S Z3 D hD=>(fM _ _).mpr ?_⟩;clear fM;rw[RX ns Z2] at hD ⊢;have sA:=(au.new Z3 (.lst (ns.map V.int))).trans (au.new hD (.lst [V.ref S,V.int 0]));have Z4:S≠D:=aj ah hD;have PU:H D=none:=Gq (au.new Z3 (.lst (ns.map V.int))) hD;have dk:eY K (upd (upd H S (.lst (ns.map V.int))) D (.lst [V.ref S,V.int 0])) D S ns 0:=⟨ah,by rw[av Z4];exact ah,Z4,Z2⟩
 generalize upd (upd H S (.lst (ns.map V.int))) D (.lst [V.ref S,V.int 0])=H1 at *;refine aw fun U3 jF=>?_;walk_at "rd";refine⟨D,S,ns,0,rfl,dk,by lia,fun H2 u2 vy=>⟨_,15,rfl,rfl,(by decide:(0:Int)<15),?_⟩⟩;have sB:au H H2:=fun z o e=>u2 z o (aj e PU) (sA z o e);have nxb:=PG.jg ns 0;obtain⟨many,em⟩:∃many:Nat,PG.next ns 0%15=(many:Int):=⟨(PG.next ns 0%15).toNat,by lia⟩
 have lm:many<=14:=by lia
 simp only[em];refine⟨D,S,ns,1,many,rfl,vy,by decide,by lia,fun l3 pa B bb R H3 u3 mJ h3 PR nl np nB nbb nR fB fb fR=>?_⟩;have sC:au H H3:=fun z o e=>u3 z o (aj e PU) (sB z o e);have rl:=PG.IH ns many 1;have tx:=PG.F2 ns many 1;have dB:=PG.Bk ns many 1;have fl:=PG.yg ns many 1;have dp:=LM ns many 1;have Yb:=PG.IK ns many 1;have pw:=PG.IJ (PG.yo ns many 1).1;have pos:=(PG.yo ns many 1).2;have Yc:=PG.zo ns 1;have AU:=PG.xv ns 1;have Vi:=PG.F5 ns 1;have Vj:=PG.zK ns 1;rw[<- PG.C8 ns many 1] at Yb Yc AU Vi Vj;generalize Uh:PG.bS ns many 1=pr at *;obtain⟨pr,rows⟩:=pr;simp only at rl tx dB fl Yb pw pos Yc AU Vi Vj fB fb fR;obtain⟨nbx,v7⟩:=Yc;have Z5:(PG.bH pr.body).length<=18:=by
  rw[fl];exact zaA (zcQ _ _) (by lia)
 have dr:iA pr:=⟨⟨pw,nbx,by lia,fun s hs=>by
  have:=pos (s.row,s.wd) (by rw[<- PG.eK];exact zaF.mpr ⟨s,hs,rfl⟩);exact this⟩,dB,by lia,Yb,AU⟩
 have rp:∀ {H'},aM (·=D) H3 H'->Rep K H' (jh pr) (.ref pa):=fun {H'} u=>by
  unfold jh;exact Rep.br.mpr ⟨pa,_,rfl,.of (u _ _ np PR),.cons (fB _ u) (.cons (fb _ u) .nil)⟩
 have mny:ba pr<2000:=za4 (BN Z5 Vj Vi) (by decide);refine⟨l3,_,rfl,.of h3,rfl,_,_,rfl,_,_,rfl,rfl,(jF _ _).mpr (aw fun U4 mQ=>?_)⟩;clear jF;simp only[za6];obtain⟨p3,Fj,mJ⟩:=mJ;walk_at "rd";refine⟨.ref pa,pr,rfl,rp (.of (au.refl _)),dB,by lia,fun tl sX H6 s6 B8 y6 r6=>(mQ _ _).mpr (aw fun U5 AN=>?_)⟩;clear mQ;have Kr:=mJ.same s6;have Z6:tl≠D:=(aj mJ.a9 B8).symm;have ZT:0<sX.length/\sX.length<=1000:=by
  rw[r6.length,zad];unfold PG.ID;rw[zal,zaG];have k:∀l:List PG.Row,(l.flatMap PG.QF).length<=3*l.length:=fun l=>by
   induction l with
   |nil=>simp
   |cons a r ih=>rw[zaK,zal,zaj];have:=PG.EL a;lia
  have:=k (PG.bH pr.body);lia
 have S8:Pt≠D:=aj zG PU;have Qu:=s6 _ _ (sC _ _ zG);have GY:=sC _ _ zG;have rX:∀ {H'},aM (fun b=>b=D\/b=Pt) H6 H'->Rep K H' (jh pr) (.ref pa):=fun {H'} u=>by
  obtain⟨Hm,u1,k1⟩:=Fb Qu u;exact zI k1 _ _ (rp ((aM.of s6).trans (aM.one u1 rfl)))
 have tX:∀ {H'},aM (fun b=>b=D\/b=Pt) H6 H'->∀y∈sX,∃g,Rep K H' (ji g) y:=fun {H'} u y hy=>by
  obtain⟨Hm,u1,k1⟩:=Fb Qu u;obtain⟨i,hi,rfl⟩:=zcf.mp hy;have li:i<(PG.ID (PG.bH pr.body)).length:=by have:=r6.length;rw[zad] at this;lia
  obtain⟨v',FF,r⟩:=(BF Kr.a9 u1 (zF _) r6).get (i:=i) (d:=ji (PG.ID (PG.bH pr.body))[i]) (by rw[zap,zac li];rfl);rw[zac hi] at FF;cases FF;exact⟨_,zI k1 _ _ r⟩
 have nPt:tl≠Pt:=(aj GY B8).symm;have adQ:ba pr<=1216:=BN Z5 Vj Vi;refine kF fun U hU=>?_;walk_at "rd";refine⟨4,rfl,by decide,by decide,hU _ _ ?_⟩;clear hU;rw[show (4:Int).toNat=4 from rfl];obtain⟨Pv,mN⟩:∃Pv:Nat->St->Hp->Prop,∀i σ Hx,Pv i σ Hx↔∃(z5 z6 z7 z8 z9 qJ:Option V) (px:Nat) (ps:Array zc9),σ=[some (V.ref a),some (V.ref D),some (V.ref pa),some (V.ref R),some (V.ref tl),z5,z6,z7,z8,z9,qJ]/\aM (fun b=>b=D\/b=Pt) H6 Hx/\px<=90000+90001*i/\eY K Hx D S ns px/\Hx Pt=some (.oZ ps)/\TabOk "first_inputs.<locals>.<lambda>" (qt (gJ aG)) Hx ps:=⟨_,fun _ _ _=>Iff.rfl⟩
 refine jG (lo:=0) (n:=4) Pv ((mN _ _ _).mpr ⟨_,_,_,_,_,_,p3, #[],rfl,.refl,by lia,Kr,Qu,.inl rfl⟩) (fun i σ Hx hi hv=>?_) (fun σ Hx hv=>?_)
 ·obtain⟨z5,z6,z7,z8,z9,qJ,px,ps,rfl,ux,QN,N0,Z7,T1⟩:=(mN _ _ _).mp hv;clear hv;simp only[dI,za6];refine aw fun V1 Cy=>?_;walk_at "rd";refine⟨D,S,ns,px,rfl,N0,by lia,fun H7 u7 NM=>?_⟩;have y7:=u7 _ _ Z6 (ux _ _ (fun z=>z.elim Z6 nPt) y6);refine⟨tl,sX,rfl,.inl (.of y7),_,_,rfl,rfl,(by lia:(0:Int)<sX.length),?_⟩;have nb:=zaI (PG.next ns px) (b:=(sX.length:Int)) (by lia);have nl:=zaE (PG.next ns px) (b:=(sX.length:Int)) (by lia);obtain⟨k,ek⟩:∃k:Nat,PG.next ns px%(sX.length:Int)=(k:Int):=⟨_,(zbW nb).symm⟩
  have lk:k<sX.length:=by lia
  simp only[ek];refine cN (.of y7) (v:=sX[k]) (ay (zac lk)) ((Cy _ _).mpr (aw fun V2 Fn=>?_));clear Cy;have Yd:aM (fun b=>b=D\/b=Pt) H6 H7:=ux.trans (aM.one u7 (.inl rfl));obtain⟨tg,rg⟩:=tX Yd _ (zat lk);have Ye:=u7 _ _ S8 Z7;have Yf:=T1.up (H':=H7) fun b φ e=>u7 _ _ (bN e N0.a9 (by intro z;cases z)) e;have rest:∀(tv:V) (go:Option (List Int)) (H8:Hp) (Qv:Array zc9),ik pr (cF pr (gN pr)) tg=go->DK D H8 tv go->aM (fun b=>b=D\/b=Pt) H6 H8->Rep K H8 (ji tg) sX[k]->eY K H8 D S ns (px+1)->H8 Pt=some (.oZ Qv)->TabOk "first_inputs.<locals>.<lambda>" (qt (gJ aG)) H8 Qv->V2 [some (V.ref a),some (V.ref D),some (V.ref pa),some (V.ref R),some (V.ref tl),some (V.int (0+i)),some sX[k],some tv,z8,z9,qJ] H8:=by
   intro tv go H8 Qv eg ta T2 T3 NN Vk Aj;refine(Fn _ _).mpr (aw fun V3 GP=>?_);walk_at "rd";refine(GP _ _).mpr (aw fun V4 QV=>?_);clear GP Fn;have big:∀ {n:Nat},n<=2002->(n+2)*(ba pr+2)<=4000000:=fun {n} h=>zaA (zcl (show n+2<=2004 by lia) (show ba pr+2<=1218 by lia)) (by decide);have after:∀(m:Nat) (H9:Hp),au H8 H9->m<=2->(∀g,go=some g->m<=g.length)->V4 [some (V.ref a),some (V.ref D),some (V.ref pa),some (V.ref R),some (V.ref tl),some (V.int (0+i)),some sX[k],some tv,some (V.int m),z9,qJ] H9:=by
    intro m H9 s9 hm OF;have Z8:=T2.trans (aM.of s9);have Z9:=T3.mono s9;refine(QV _ _).mpr (aw fun V5 hV5=>?_);clear QV;refine kF fun U hU=>?_;walk_at "rd";refine⟨_,rfl,by lia,by lia,hU _ _ ?_⟩;clear hU;rw[show ((m:Int)+1).toNat=m+1 by lia];obtain⟨Pw,B9⟩:∃Pw:Nat->St->Hp->Prop,∀j σ Hy,Pw j σ Hy↔∃(z9 qJ:Option V),σ=[some (V.ref a),some (V.ref D),some (V.ref pa),some (V.ref R),some (V.ref tl),some (V.int (0+i)),some sX[k],some tv,some (V.int m),z9,qJ]/\au H9 Hy:=⟨_,fun _ _ _=>Iff.rfl⟩
    refine jG (lo:=0) (n:=m+1) Pw ((B9 _ _ _).mpr ⟨_,_,rfl,.refl _⟩) (fun j σ Hy hj hw=>?_) (fun σ Hy hw=>?_)
    ·obtain⟨z9,qJ,rfl,sy⟩:=(B9 _ _ _).mp hw;clear hw;simp only[dI,za6];refine gR fun U hU=>?_;walk_at "rd";refine⟨j,by rw[zcg],by lia,fun L us nY qA yL Tv=>⟨L,rfl,⟨us,.of yL⟩,hU _ _ ?_⟩⟩;clear hU;have T4:=sy.trans qA;obtain⟨Pz,KL⟩:∃Pz:Nat->St->Hp->Prop,∀j2 σ Hz,Pz j2 σ Hz↔∃(qJ:Option V),σ=[some (V.ref a),some (V.ref D),some (V.ref pa),some (V.ref R),some (V.ref tl),some (V.int (0+i)),some sX[k],some tv,some (V.int m),some (V.int (0+j)),qJ]/\au nY Hz:=⟨_,fun _ _ _=>Iff.rfl⟩
     refine gO (K:=K) (a:=L) (xs:=us) Pz ((KL _ _ _).mpr ⟨_,rfl,.refl _⟩) (fun j2 σ Hz _ hz=>?_) (fun j2 y σ Hz Yg hz=>?_) (fun σ Hz hz=>?_)
     ·obtain⟨_,_,sz⟩:=(KL _ _ _).mp hz;exact .of (sz _ _ yL)
     ·obtain⟨qJ,rfl,sz⟩:=(KL _ _ _).mp hz;clear hz;obtain⟨fa,fg,rfl,_,yf,df,lf⟩:=Tv y (za5 Yg);have yfz:=sz _ _ yf;have Yh:=T4.trans sz;have done:=fun qJ Hq (sq:au Hz Hq)=>(KL (j2+1) [some (V.ref a),some (V.ref D),some (V.ref pa),some (V.ref R),some (V.ref tl),some (V.int (0+i)),some sX[k],some tv,some (V.int m),some (V.int (0+j)),qJ] Hq).mpr ⟨_,rfl,sz.trans sq⟩;have meet:Mw go fg\/go=none->∀R:V->Hp->Prop,(∀yJ,au Hz yJ->R (.bl false) yJ)->E6 K [V.ref pa,V.ref fa,sX[k]] Hz R E0:=fun bf R hR=>by
       refine⟨.ref pa,fa,sX[k],pr,fg,tg,rfl,dr,rX (Z8.trans (aM.of Yh)),.of yfz,by lia,big (by lia),Z9.mono Yh,fun b yJ AO hb=>?_⟩;cases b with
       |true=>exact absurd (hb.mp rfl) (Fc dr eg df bf)
       |false=>exact hR yJ AO
      simp only[dI,za6];cases go with
      |none=>
       cases (show tv=.b9 from ta);walk_at "rd";refine(if_pos trivial).mpr ((if_pos trivial).mpr (meet (.inr rfl) _ fun yJ AO=>⟨_,rfl,(if_neg zaf).mpr (done _ _ AO)⟩))
      |some g=>
       obtain⟨dg,lg,lt,rfl,He,yt⟩:=ta;have ytz:=Yh _ _ (s9 _ _ yt);have le:=OF g rfl;walk_at "rd";refine(if_neg (by intro z;cases z)).mpr ⟨lt,_,rfl,.inl (.of ytz),?_⟩;simp only[zad];refine cA (fun z=>(if_pos trivial).mpr (meet (.inl (zP dg lg df (by lia) (.inl (by lia)))) _ fun yJ AO=>⟨_,rfl,(if_neg zaf).mpr (done _ _ AO)⟩)) (fun z=>⟨fa,lt,fg,g,rfl,rfl,.of yfz,.of ytz,?_⟩);cases e:DI fg g with
       |true=>exact(if_pos rfl).mpr (meet (.inl (zP dg lg df (by lia) (.inr e))) _ fun yJ AO=>⟨_,rfl,(if_neg zaf).mpr (done _ _ AO)⟩)
       |false=>exact(if_neg zaf).mpr (done _ _ (.refl _))
     ·obtain⟨qJ,rfl,sz⟩:=(KL _ _ _).mp hz;exact(B9 _ _ _).mpr ⟨_,_,rfl,T4.trans sz⟩
    ·obtain⟨z9,qJ,rfl,sy⟩:=(B9 _ _ _).mp hw;refine(hV5 _ _).mpr ?_;have Vl:=s9.trans sy;have ta9:DK D Hy tv go:=by
      cases go with
      |none=>exact ta
      |some g=>
       obtain⟨dg,lg,lt,e,He,yt⟩:=ta;exact⟨dg,lg,lt,e,He,Vl _ _ yt⟩
     have Yi:=NN.same Vl;refine gR fun U hU=>?_;walk_at "rd";refine⟨D,S,ns,px+1,tv,go,rfl,Yi,by lia,ta9,fun L us nY p10 Qb hL adU Aa yL Tv=>⟨L,rfl,⟨us,.of yL⟩,hU _ _ ?_⟩⟩;clear hU;have T5:aM (fun b=>b=D\/b=Pt) H6 nY:=(Z8.trans (aM.of sy)).trans (aM.one Qb (.inl rfl));have Yj:Rep K nY (ji tg) sX[k]:=by
      obtain⟨_,_,e,r,_⟩:=aI.aF.mp (BF Yi.a9 Qb (zF [tg]) (.cons (Z9.mono sy) .nil));cases e;exact r
     have Yk:=Qb _ _ S8 (Vl _ _ Vk);have T6:=(Aj.kp (.same Vl)).up (H':=nY) fun b φ e=>Qb _ _ (bN e Yi.a9 (by intro z;cases z)) e;obtain⟨Pz,KL⟩:∃Pz:Nat->St->Hp->Prop,∀j2 σ Hz,Pz j2 σ Hz↔∃(qJ:Option V),σ=[some (V.ref a),some (V.ref D),some (V.ref pa),some (V.ref R),some (V.ref tl),some (V.int (0+i)),some sX[k],some tv,some (V.int m),z9,qJ]/\au nY Hz:=⟨_,fun _ _ _=>Iff.rfl⟩
     refine gO (K:=K) (a:=L) (xs:=us) Pz ((KL _ _ _).mpr ⟨_,rfl,.refl _⟩) (fun j2 σ Hz _ hz=>?_) (fun j2 y σ Hz Yg hz=>?_) (fun σ Hz hz=>?_)
     ·obtain⟨_,_,sz⟩:=(KL _ _ _).mp hz;exact .of (sz _ _ yL)
     ·obtain⟨qJ,rfl,sz⟩:=(KL _ _ _).mp hz;clear hz;obtain⟨fa,fg,rfl,_,yf,df,bf⟩:=Tv y (za5 Yg);have lf:=My bf;simp only[dI,za6];walk_at "rd";refine⟨.ref pa,fa,sX[k],pr,fg,tg,rfl,dr,rX (T5.trans (aM.of sz)),.of (sz _ _ yf),by lia,big lf,Yj.mono sz,fun b yJ AO hb=>?_⟩;cases b with
      |true=>exact absurd (hb.mp rfl) (Fc dr eg df (.inl bf))
      |false=>exact⟨_,rfl,(if_neg zaf).mpr ((KL _ _ _).mpr ⟨_,rfl,sz.trans AO⟩)⟩
     ·obtain⟨qJ,rfl,sz⟩:=(KL _ _ _).mp hz;exact(mN _ _ _).mpr ⟨_,_,_,_,_,_,p10,Qv,rfl,T5.trans (aM.of sz),by lia,Aa.same sz,sz _ _ Yk,T6.kp (.same sz)⟩
   cases go with
   |none=>
    cases (show tv=.b9 from ta);walk_at "rd";exact(if_pos trivial).mpr (after 2 H8 (.refl _) (zah _) fun g e=>by cases e)
   |some g=>
    obtain⟨dg,lg,lt,rfl,He,yt⟩:=ta;walk_at "rd";refine(if_neg (by intro z;cases z)).mpr ⟨lt,_,rfl,.inl (.of yt),_,_,rfl,?_⟩;obtain⟨_,mt,_⟩:=qu dr eg;refine⟨.ref pa,lt,sX[k],pr,g,tg,rfl,dr,rX T2,.of yt,by lia,big lg,T3,fun b H9 s9 hb=>?_⟩;cases hb.mpr mt;refine⟨_,rfl,(if_neg (by decide)).mpr ?_⟩;rw[zad];obtain⟨m,em,Wj,Wk⟩:∃m:Nat,(if (g.length:Int)<2 then (g.length:Int) else 2)=(m:Int)/\m<=2/\m<=g.length:=by
     by_cases h:(g.length:Int)<2
     ·exact⟨g.length,if_pos h,by lia,zah _⟩
     ·exact⟨2,if_neg h,zah _,by lia⟩
    rw[em];exact after m H9 s9 Wj fun g' e=>by cases e;exact Wk
  walk_at "rd";refine⟨.ref pa,sX[k],pr,tg,ps,rfl,rX Yd,rg,dr,mny,Ye,Yf,fun H8 Qv u8 Vk Aj=>?_⟩;have T2:=Yd.trans (aM.one u8 (.inr rfl));have NN:eY K H8 D S ns (px+1):=⟨u8 _ _ S8.symm NM.a9,u8 _ _ (bN NM.da Ye (by intro z;cases z)) NM.da,NM.ne,NM.len⟩
  have T3:=zI (Kp.of u8 Ye) _ _ rg;cases eg:ik pr (cF pr (gN pr)) tg with
  |none=>exact⟨fun _=>rest .b9 none H8 Qv eg rfl T2 T3 NN Vk Aj,fun g l e=>by cases e⟩
  |some g0=>
   refine⟨fun e=>(by cases e),fun g l e hl yl=>?_⟩;cases e;refine rest (.ref l) (some g0) H8 Qv eg ⟨(qu dr eg).1,?_,l,rfl,(aj NM.a9 hl).symm,yl⟩ T2 T3 NN Vk Aj;obtain⟨x,hx,rfl⟩:=BR pr _ _ eg;have:=GF dr x hx;lia
 ·obtain⟨z5,z6,z7,z8,z9,qJ,px,ps,rfl,ux,QN,N0,Z7,T1⟩:=(mN _ _ _).mp hv;refine(AN _ _).mpr ?_;walk_at "rd";exact q _
end
end Pp
end
section
set_option maxHeartbeats 4000000
namespace Pp
open PySem L2
section
variable{P:zdk}{w:zda}{K:zaa}{mg:Str->Option zc9}{base:Heap}
theorem all_mk{l:PySem.W.OpenLaw}{h:Heap}{fa:zc8}(X:K.In h)(G:h.Ns zdf mg)(hfa:mg "law"=some (.ref fa))
 {nV c8 cX eM jJ fC bL lY kS jS jT rQ kT c9 gZ kU rT jU g7 nW dq bD g8 eO du jV g9 hC hG gm fD gu hX Fe:zc8}
 {aE:zc8}
 {cS:zc8} {xK pU:Option zc8} {xM:Array (Option zc9)} {xN pV pW pX kD pY:zc9}
 {bE:zc8}
 {dy:zc8} {Am sJ:Option zc8} {An:Array (Option zc9)} {Ao sM sN sO mx sP:zc9}
 {bu:zc8} {oh i7:Option zc8} {om:Array (Option zc9)} {oo i8 i9 ja fN jb:zc9}
 {bW:zc8} {sQ kh:Option zc8} {sR:Array (Option zc9)} {sS ki kj kl ij km:zc9}
 {cT:zc8} {xO pZ:Option zc8} {xP:Array (Option zc9)} {xQ p0 qc qd kE qe:zc9}
 {dH:zc8}
 {eP:zc8}
 {T7:_}
 {xi:_}
 {xR:_}
 (Qw:FH K "flow" DL nV)
 (xj:FH K "flow_of_body" jO c8)
 (Ce:FH K "first_row" nM cX)
 (xS:FH K "behind_body" ky eM)
 (G0:FH K "ways_of" tT jJ)
 (Cf:FH K "bodies_in" nN fC)
 (uZ:FH K "statements_in" jk bL)
 (MQ:FH K "worth" zQ lY)
 (G1:FH K "word_at" tU kS)
 (Ea:FH K "by_names" qv jS)
 (Eb:FH K "in_order" qw jT)
 (MR:FH K "holds" zR rQ)
 (G2:FH K "step_by" tV kT)
 (qF:FH K "behind_condition" gG c9)
 (Ap:FH K "all_led_to" lP gZ)
 (G3:FH K "targets" tW kU)
 (MS:FH K "meets" zS rT)
 (Ec:FH K "shortest" qx jU)
 (Aq:FH K "targets_at" lQ g7)
 (KN:FH K "met_by" wL nW)
 (sT:FH K "shortest_inputs" gY dq)
 (ou:FH K "first_inputs" aG bD)
 (Ar:FH K "found_from" lS g8)
 (G4:FH K "gone_on" gK eO)
 (Cg:FH K "_law_next" nO du)
 (KO:FH K "_law_e" wM jV)
 (As:FH K "_law_boxes" lT g9)
 (Au:FH K "_law_plain" lU hC)
 (Av:FH K "_law_close" lV hG)
 (xT:FH K "_law_number" kz gm)
 (xk:FH K "_law_program" jP fD)
 (xU:FH K "_law_inputs" kA gu)
 (Aw:FH K "_law_drawn" lW hX)
 (N2:FH K "law" Kf Fe)
 (MT:zaL K zdf "Chart"=some (some (.ref aE)))
 (KP:zbF K aE Str.empty=true)
 (KQ:zbQ K aE=true)
 (KR:zb5 K aE=true)
 (KU:zax K (.ref aE) "__setattr__"=some (some (.builtin "object.__setattr__")))
 (Ax:zax K (.ref aE) "__init__"=some (some (.ref cS)))
 (Ay:K.lookup cS=some ⟨xN,xK,.func (zaM "__init__" "Chart.__init__" (dM cO) (cJ cO) (az cO) .none pV pW pX pU kD pY),xM⟩)
 (Az:zbq K kD "Chart.__init__"=true)
 (AA:zaO K (.ref cS)=true)
 (AB:zbG K (.ref cS)=true)
 (rZ:zch K aE=true)
 (KW:zaO K (.ref aE)=true)
 (fI:zax K (.ref aE) "names"=some none)
 (fJ:zax K (.ref aE) "sizes"=some none)
 (fK:zax K (.ref aE) "first"=some none)
 (cb:zax K (.ref aE) "statements"=some none)
 (eQ:zax K (.ref aE) "ways"=some none)
 (Qx:zaL K zdf "Walk"=some (some (.ref bE)))
 (MU:zbF K bE Str.empty=true)
 (MV:zbQ K bE=true)
 (MW:zb5 K bE=true)
 (MX:zax K (.ref bE) "__setattr__"=some (some (.builtin "object.__setattr__")))
 (Ci:zax K (.ref bE) "__init__"=some (some (.ref dy)))
 (Cj:K.lookup dy=some ⟨Ao,Am,.func (zaM "__init__" "Walk.__init__" (dM di) (cJ di) (az di) .none sM sN sO sJ mx sP),An⟩)
 (Ck:zbq K mx "Walk.__init__"=true)
 (Cn:zaO K (.ref dy)=true)
 (Co:zbG K (.ref dy)=true)
 (zW:zch K bE=true)
 (MY:zaO K (.ref bE)=true)
 (oU:zax K (.ref bE) "look_for_end"=some (some (.ref bu)))
 (oV:K.lookup bu=some ⟨oo,oh,.func (zaM "look_for_end" "Walk.look_for_end" (dM bt) (cJ bt) (az bt) .none i8 i9 ja i7 fN jb),om⟩)
 (oW:zbq K fN "Walk.look_for_end"=true)
 (ju:zaO K (.ref bu)=true)
 (oX:zbG K (.ref bu)=true)
 (ua:zax K (.ref bE) "is_at_ask"=some (some (.ref bW)))
 (ub:K.lookup bW=some ⟨sS,sQ,.func (zaM "is_at_ask" "Walk.is_at_ask" (dM bU) (cJ bU) (az bU) .none ki kj kl kh ij km),sR⟩)
 (ud:zbq K ij "Walk.is_at_ask"=true)
 (kZ:zaO K (.ref bW)=true)
 (ue:zbG K (.ref bW)=true)
 (AD:zax K (.ref bE) "go_on"=some (some (.ref cT)))
 (AE:K.lookup cT=some ⟨xQ,xO,.func (zaM "go_on" "Walk.go_on" (dM cQ) (cJ cQ) (az cQ) .none p0 qc qd pZ kE qe),xP⟩)
 (AF:zbq K kE "Walk.go_on"=true)
 (sU:zaO K (.ref cT)=true)
 (AG:zbG K (.ref cT)=true)
 (gx:zax K (.ref bE) "chart"=some none)
 (eI:zax K (.ref bE) "figures"=some none)
 (eR:zax K (.ref bE) "taken"=some none)
 (bw:zax K (.ref bE) "standing"=some none)
 (fL:zax K (.ref bE) "end"=some none)
 (Ed:zaL K zdf "RowError"=some (some (.ref dH)))
 (wW:zc1 K dH [.type "ValueError",.type "Exception",.type "BaseException",.type "object"] "ValueError.__new__"=true)
 (uK:zco K (.ref dH) (.ref dH)=some true)
 (G5:zaL K zdf "TooMany"=some (some (.ref eP)))
 (yI:zc1 K eP [.type "ValueError",.type "Exception",.type "BaseException",.type "object"] "ValueError.__new__"=true)
 (wX:zco K (.ref eP) (.ref eP)=some true)
 (T8:zaL K zdf "END"=some (some (.int 0 T7)))
 (xl:zaL K zdf "FIGURE_COUNT"=some (some (.int 10 xi)))
 (xV:zaL K zdf "MOST_PLACES"=some (some (.int 2000 xR)))
 (eV:zaL K zdf "len"=some none)
 (gD:zaL K zdf "range"=some none)
 (tZ:zaL K zdf "dict"=some none)
 (DM:zaL K zdf "list"=some none)
 (vw:zaL K zdf "tuple"=some none)
 (Kh:zaL K zdf "max"=some none)
 (Fg:zaL K zdf "min"=some none)
 (ke:zaL K zdf "enumerate"=some none)
 (Ki:zaL K zdf "zip"=some none)
 (r9:zaL K zdf "ValueError"=some none)
 {c Pt:zc8} (JR:zb9 K "first_inputs"=some (c,Pt)):∃fd:zdh,(∀(s:zdi) (v:zc9),BindsTo s fd ⟨[v],[]⟩ [("script",v)])/\∀base:Heap,K.In base->base.Ns zdf mg->iK K mg base c Pt->bz l.prog w K mg base de 30 fa fd ["script"] (zJ K Pt):=by
 have e:=hfa.symm.trans (zbv X G N2.1);cases e;obtain⟨lX,wV⟩:=oH X G Qw (ps:=["program"]) fun _ _ _ _ _ _=>E1 fun _=>rfl;obtain⟨dc,fG⟩:=oH X G xj (ps:=["body", "behind"]) fun _ _ _ _ _ _=>AM fun _ _=>rfl;obtain⟨cR,dX⟩:=oH X G Ce (ps:=["body", "behind"]) fun _ _ _ _ _ _=>AM fun _ _=>rfl;obtain⟨fw,iS⟩:=oH X G xS (ps:=["statement", "after"]) fun _ _ _ _ _ _=>AM fun _ _=>rfl;obtain⟨jR,oJ⟩:=oH X G G0 (ps:=["statement", "after"]) fun _ _ _ _ _ _=>AM fun _ _=>rfl;obtain⟨fS,i6⟩:=oH X G Cf (ps:=["statement"]) fun _ _ _ _ _ _=>E1 fun _=>rfl;obtain⟨bV,eG⟩:=oH X G uZ (ps:=["body"]) fun _ _ _ _ _ _=>E1 fun _=>rfl;obtain⟨kR,jz⟩:=oH X G MQ (ps:=["e", "values"]) fun _ _ _ _ _ _=>AM fun _ _=>rfl;obtain⟨lZ,iD⟩:=oH X G G1 (ps:=["chart", "row"]) fun _ _ _ _ _ _=>AM fun _ _=>rfl;obtain⟨j8,jW⟩:=oH X G Ea (ps:=["chart", "parts"]) fun _ _ _ _ _ _=>AM fun _ _=>rfl;obtain⟨j9,md⟩:=oH X G Eb (ps:=["chart", "named"]) fun _ _ _ _ _ _=>AM fun _ _=>rfl;obtain⟨rR,oK⟩:=oH X G MR (ps:=["chart", "standing"]) fun _ _ _ _ _ _=>AM fun _ _=>rfl;obtain⟨l0,jL⟩:=oH X G G2 (ps:=["chart", "standing", "figure"]) fun _ _ _ _ _ _=>QL fun _ _ _=>rfl;obtain⟨dO,eC⟩:=oH X G qF (ps:=["chart", "standing"]) fun _ _ _ _ _ _=>AM fun _ _=>rfl;obtain⟨iL,fT⟩:=oH X G Ap (ps:=["chart", "standing"]) fun _ _ _ _ _ _=>AM fun _ _=>rfl;obtain⟨l6,oM⟩:=oH X G G3 (ps:=["program"]) fun _ _ _ _ _ _=>E1 fun _=>rfl;obtain⟨rV,oN⟩:=oH X G MS (ps:=["program", "figures", "target"]) fun _ _ _ _ _ _=>QL fun _ _ _=>rfl;obtain⟨ka,mf⟩:=oH X G Ec (ps:=["program", "target"]) fun _ _ _ _ _ _=>AM fun _ _=>rfl;obtain⟨iM,ia⟩:=oH X G Aq (ps:=["chart", "standing"]) fun _ _ _ _ _ _=>AM fun _ _=>rfl;obtain⟨oI,rW⟩:=oH X G KN (ps:=["chart", "figures"]) fun _ _ _ _ _ _=>AM fun _ _=>rfl;obtain⟨eB,eU⟩:=oH X G sT (ps:=["chart"]) fun _ _ _ _ _ _=>E1 fun _=>rfl;obtain⟨gB,ib⟩:=oH X G ou (ps:=["chart"]) fun _ _ _ _ _ _=>E1 fun _=>rfl;obtain⟨iN,fU⟩:=oH X G Ar (ps:=["first", "led_from"]) fun _ _ _ _ _ _=>AM fun _ _=>rfl;obtain⟨l7,kW⟩:=oH X G G4 (ps:=["place", "led_from", "figures", "found"]) fun _ _ _ _ _ _=>bn4 fun _ _ _ _=>rfl;obtain⟨dw,aU⟩:=oH X G Cg (ps:=["deck"]) fun _ _ _ _ _ _=>E1 fun _=>rfl;obtain⟨jK,fH⟩:=oH X G KO (ps:=["deck", "boxes", "deep"]) fun _ _ _ _ _ _=>QL fun _ _ _=>rfl;obtain⟨iO,jA⟩:=oH X G As (ps:=["deck"]) fun _ _ _ _ _ _=>E1 fun _=>rfl;obtain⟨iP,jB⟩:=oH X G Au (ps:=["deck", "boxes", "k"]) fun _ _ _ _ _ _=>QL fun _ _ _=>rfl;obtain⟨iQ,ic⟩:=oH X G Av (ps:=["pile"]) fun _ _ _ _ _ _=>E1 fun _=>rfl;obtain⟨hJ,gw⟩:=oH X G xT (ps:=["boxes", "rows", "mode"]) fun _ _ _ _ _ _=>QL fun _ _ _=>rfl;obtain⟨gC,ie⟩:=oH X G xk (ps:=["deck", "many"]) fun _ _ _ _ _ _=>AM fun _ _=>rfl;obtain⟨hV,iT⟩:=oH X G xU (ps:=["many"]) fun _ _ _ _ _ _=>E1 fun _=>rfl;obtain⟨iR,jC⟩:=oH X G Aw (ps:=["deck", "told"]) fun _ _ _ _ _ _=>AM fun _ _=>rfl;obtain⟨tY,Ff⟩:=oH X G N2 (ps:=["script"]) fun _ _ _ _ _ _=>E1 fun _=>rfl;have jD:=tw (st:=cO) Ay Az AA;have AH:=jD.binds (ps:=["self", "program"]) fun _ _ _ _ _ _=>AM fun _ _=>rfl;have kc:=tw (st:=di) Cj Ck Cn;have Cp:=kc.binds (ps:=["self", "chart", "figures"]) fun _ _ _ _ _ _=>QL fun _ _ _=>rfl;have dP:=tw (st:=bt) oV oW ju;have oY:=dP.binds (ps:=["self"]) fun _ _ _ _ _ _=>E1 fun _=>rfl;have fV:=tw (st:=bU) ub ud kZ;have uf:=fV.binds (ps:=["self"]) fun _ _ _ _ _ _=>E1 fun _=>rfl;have jE:=tw (st:=cQ) AE AF sU;have AI:=jE.binds (ps:=["self"]) fun _ _ _ _ _ _=>E1 fun _=>rfl
 let t:Ad:=⟨nV,
  lX,
  c8,
  dc,
  cX,
  cR,
  eM,
  fw,
  jJ,
  jR,
  fC,
  fS,
  bL,
  bV,
  lY,
  kR,
  kS,
  lZ,
  jS,
  j8,
  jT,
  j9,
  rQ,
  rR,
  kT,
  l0,
  c9,
  dO,
  gZ,
  iL,
  kU,
  l6,
  rT,
  rV,
  jU,
  ka,
  g7,
  iM,
  nW,
  oI,
  dq,
  eB,
  bD,
  gB,
  g8,
  iN,
  eO,
  l7,
  du,
  dw,
  jV,
  jK,
  g9,
  iO,
  hC,
  iP,
  hG,
  iQ,
  gm,
  hJ,
  fD,
  gC,
  gu,
  hV,
  hX,
  iR,
  fa,
  tY,
  cS,
  zaM "__init__" "Chart.__init__" (dM cO) (cJ cO) (az cO) .none pV pW pX pU kD pY,
  dy,
  zaM "__init__" "Walk.__init__" (dM di) (cJ di) (az di) .none sM sN sO sJ mx sP,
  bu,
  zaM "look_for_end" "Walk.look_for_end" (dM bt) (cJ bt) (az bt) .none i8 i9 ja i7 fN jb,
  bW,
  zaM "is_at_ask" "Walk.is_at_ask" (dM bU) (cJ bU) (az bU) .none ki kj kl kh ij km,
  cT,
  zaM "go_on" "Walk.go_on" (dM cQ) (cJ cQ) (az cQ) .none p0 qc qd pZ kE qe,
  aE,
  bE,
  dH,
  eP⟩
 have T:Tx K mg t:=⟨wV,
  fG,
  dX,
  iS,
  oJ,
  i6,
  eG,
  jz,
  iD,
  jW,
  md,
  oK,
  jL,
  eC,
  fT,
  oM,
  oN,
  mf,
  ia,
  rW,
  eU,
  ib,
  fU,
  kW,
  aU,
  fH,
  jA,
  jB,
  ic,
  gw,
  ie,
  iT,
  jC,
  Ff,
  jD,
  AH,
  kc,
  Cp,
  dP,
  oY,
  ⟨oU,oX,ju⟩,
  fV,
  uf,
  ⟨ua,ue,kZ⟩,
  jE,
  AI,
  ⟨AD,AG,sU⟩,
  ⟨KP,KQ,KR,KU⟩,
  zbv X G MT,
  ⟨rZ,Ax,AB,KW⟩,
  fI,
  fJ,
  fK,
  cb,
  eQ,
  ⟨MU,MV,MW,MX⟩,
  zbv X G Qx,
  ⟨zW,Ci,Co,MY⟩,
  gx,
  eI,
  eR,
  bw,
  fL,
  ⟨wW⟩,
  uK,
  zbv X G Ed,
  ⟨yI⟩,
  wX,
  zbv X G G5,
  ⟨_,zbv X G T8,_,rfl⟩,
  ⟨_,zbv X G xl,_,rfl⟩,
  ⟨_,zbv X G xV,_,rfl⟩,
  zaY X G eV,
  zaY X G gD,
  zaY X G tZ,
  zaY X G DM,
  zaY X G vw,
  zaY X G Kh,
  zaY X G Fg,
  zaY X G ke,
  zaY X G Ki,
  zaY X G r9⟩
 obtain⟨_,_,_,_,_,_,_,_,_,z,_⟩:=Ff.F.ex;exact⟨t.tY,fun s v=>by rw[show t.tY=_ from z];exact .of_eq rfl,fun base _ _ B=>Qt T B (JS JR ou.1)⟩
theorem walk{l:PySem.W.OpenLaw}{q:zdk}{loose:List Str}{XP:(Str->Option zc9)->Heap->Prop}{YP:zda->Heap->Prop}{d dF:DefRec}{K:Params->zaa}{c Pt:zc8}(hn:l.most=some 63)(RL:d.params.defaults=[])
 (hY:∀(w:zda) (h:Heap),YP w h->(K w.params).In h) (JN:(PyProof.Rows.recsOf q).find? (fun e=>e.name==("first_inputs":Str))=some dF) (JR:∀w:zda,zb9 (K w.params) "first_inputs"=some (c,Pt)) (Sv:∀w:zda,(K w.params).lookup Pt=none)
 (F:∀(w:zda) (mg:Str->Option zc9) (fa:zc8) (h:Heap),(K w.params).In h->h.Ns zdf mg->mg d.name=some (.ref fa)->
  ∃fd:zdh,(∀(s:zdi) (u:zc9),BindsTo s fd ⟨[u],[]⟩ [("script",u)])/\∀base:Heap,(K w.params).In base->base.Ns zdf mg->iK (K w.params) mg base c Pt->bz l.prog w (K w.params) mg base de 30 fa fd ["script"] (zJ (K w.params) Pt)) :
 PySem.W.WalkO q loose XP YP l.row.toRowW d [] (fun f vs=>PySem.call f vs):=
 L2.JQ (n:=63) (k:=30) (x:="script") (CX:=fun _=>de) (sp:=fun w=>zJ (K w.params) Pt) hn (by decide) RL ⟨rfl,by decide,by decide⟩ hY JN JR Sv F (fun _ _ a ns hl hS hP=>⟨a,ns,rfl,hS,hl,hP,fun _=>rfl⟩) fun _ _ _ _ _ z=>z
end
end Pp
end
namespace PySem.W.Fast
theorem tw1710551052487881535:0=0:=rfl
theorem tw15397856261536798288:0=0:=rfl
theorem tw12228179770961764506:0=0:=rfl
theorem tw11050599024145389195:0=0:=rfl
theorem tw14950478904494261379:0=0:=rfl
theorem tw8541420995747420233:0=0:=rfl
theorem tw16259560190652361353:0=0:=rfl
theorem tw4305459161917152860:0=0:=rfl
theorem tw3023987605215821054:0=0:=rfl
theorem tw4103717589513834321:0=0:=rfl
theorem tw4791382785603405360:0=0:=rfl
theorem tw11683354235210316399:0=0:=rfl
theorem tw7843585882795439227:0=0:=rfl
theorem tw6115277774806049618:0=0:=rfl
theorem tw14822019381727540394:0=0:=rfl
theorem tw14569291218171037950:0=0:=rfl
theorem tw1036956308573077245:0=0:=rfl
theorem tw6426155252951834467:0=0:=rfl
theorem tw9158166003685378835:0=0:=rfl
theorem tw4718819310166809259:0=0:=rfl
theorem tw4255633793651069769:0=0:=rfl
theorem tw8823952527742091215:0=0:=rfl
theorem tw15019978376861432663:0=0:=rfl
theorem tw4365467866669717434:0=0:=rfl
theorem tw4426037964402946223:0=0:=rfl
theorem tw6535681734329479039:0=0:=rfl
theorem tw15534994598005007553:0=0:=rfl
theorem tw8374839023190958728:0=0:=rfl
theorem tw4545606220053189969:0=0:=rfl
theorem tw18245992982301739339:0=0:=rfl
theorem tw17536525625004123282:0=0:=rfl
theorem tw3634273345662283236:0=0:=rfl
theorem tw6025684726745206271:0=0:=rfl
theorem tw8608471680966998908:0=0:=rfl
theorem tw5209239613934499236:0=0:=rfl
theorem tw4437475407252931741:0=0:=rfl
theorem tw17717447384264797131:0=0:=rfl
theorem tw11225824663244049328:0=0:=rfl
theorem tw1101195890319233677:0=0:=rfl
theorem tw8633803330888396132:0=0:=rfl
theorem tw16438618966126932030:0=0:=rfl
theorem tw12999436440286312950:0=0:=rfl
theorem tw7626049822609288616:0=0:=rfl
theorem tw4712835855500530587:0=0:=rfl
theorem tw434215190331852475:0=0:=rfl
theorem tw13192198017628562691:0=0:=rfl
theorem tw13388330647954625633:0=0:=rfl
theorem tw14446914754771993440:0=0:=rfl
theorem tw4217308160938021727:0=0:=rfl
theorem tw15583532266803711587:0=0:=rfl
theorem tw13693508379631300321:0=0:=rfl
theorem tw16852552271042849793:0=0:=rfl
theorem tw14213103457674123358:0=0:=rfl
theorem tw16108779386626843282:0=0:=rfl
theorem tw14718969041320698927:0=0:=rfl
theorem tw18021652776685839288:0=0:=rfl
theorem tw14049274962566366523:0=0:=rfl
theorem tw9542320273573802349:0=0:=rfl
theorem tw9357883794414508387:0=0:=rfl
theorem tw16365974113006634513:0=0:=rfl
theorem tw9651051775800473422:0=0:=rfl
theorem tw15154213134323932855:0=0:=rfl
theorem tw7443093919998900460:0=0:=rfl
theorem tw125245853869300729:0=0:=rfl
theorem tw10780557075802674605:0=0:=rfl
theorem tw2682710738567257113:0=0:=rfl
theorem tw503669537334923518:0=0:=rfl
theorem tw10506229720337371946:0=0:=rfl
theorem tw5706041451550238724:0=0:=rfl
theorem tw935727228482063732:0=0:=rfl
theorem tw15451941769522106380:0=0:=rfl
theorem tw7503745071412228463:0=0:=rfl
theorem tw18279175792986930399:0=0:=rfl
theorem tw10939813059804171747:0=0:=rfl
theorem tw9567698643657674466:0=0:=rfl
theorem tw451603014783657297:0=0:=rfl
theorem tw13823032382838523596:0=0:=rfl
theorem tw1372345415085109232:0=0:=rfl
theorem tw14049419234382272084:0=0:=rfl
theorem tw1592804083939333285:0=0:=rfl
theorem tw14129802422231371658:0=0:=rfl
theorem tw3993446463312726813:0=0:=rfl
theorem tw7828030976936954196:0=0:=rfl
theorem tw17089571878634492466:0=0:=rfl
theorem tw54622450740902395:0=0:=rfl
theorem tw13610880667618273782:0=0:=rfl
theorem tw3315456439307130720:0=0:=rfl
theorem tw8607130905353515721:0=0:=rfl
theorem tw15878700738022822955:0=0:=rfl
theorem tw13495804679978551372:0=0:=rfl
theorem tw10868825323625903580:0=0:=rfl
theorem tw4698947881554948510:0=0:=rfl
theorem tw10124187873798923778:0=0:=rfl
theorem tw7952283880437514943:0=0:=rfl
theorem tw10726970168093988588:0=0:=rfl
theorem tw3005262504055330906:0=0:=rfl
theorem tw15062293745788867003:0=0:=rfl
theorem tw16431996120045790114:0=0:=rfl
theorem tw6959781907464878327:0=0:=rfl
theorem tw17311148883249746530:0=0:=rfl
theorem tw9794838415341750954:0=0:=rfl
theorem tw14033170208514766189:0=0:=rfl
theorem tw13848258936310809678:0=0:=rfl
theorem tw3428038393168794925:0=0:=rfl
theorem tw12941237212656783760:0=0:=rfl
theorem tw9732535326202896331:0=0:=rfl
theorem tw13456525065449759661:0=0:=rfl
theorem tw17518017470265822577:0=0:=rfl
theorem tw15037940256216183335:0=0:=rfl
theorem tw3125592882339327252:0=0:=rfl
theorem tw6728334288088328116:0=0:=rfl
theorem tw6439223172286603937:0=0:=rfl
theorem tw10058463139979616930:0=0:=rfl
theorem tw9874557922854233486:0=0:=rfl
theorem tw104709737787474057:0=0:=rfl
theorem tw8883888529479932936:0=0:=rfl
theorem tw12175858001921400107:0=0:=rfl
theorem tw17410233114725882444:0=0:=rfl
theorem tw11231101125842116401:0=0:=rfl
theorem tw860324135825662814:0=0:=rfl
theorem tw16697356940201957722:0=0:=rfl
theorem tw6592100423486014756:0=0:=rfl
theorem tw13626608892091449864:0=0:=rfl
theorem tw14402834736134736267:0=0:=rfl
theorem tw809288657788676309:0=0:=rfl
theorem tw1482442992128770659:0=0:=rfl
theorem tw8712493341509110963:0=0:=rfl
theorem tw5917200711587343600:0=0:=rfl
theorem tw7626987461984206765:0=0:=rfl
theorem tw14410690782022129287:0=0:=rfl
theorem tw9016314956386316905:0=0:=rfl
theorem tw4902533023180153718:0=0:=rfl
theorem tw16167004906815310218:0=0:=rfl
theorem tw8613854679611354152:0=0:=rfl
theorem tw13907632245663966927:0=0:=rfl
theorem tw12183020501583922969:0=0:=rfl
theorem tw14541425674634887931:0=0:=rfl
theorem tw4078759239092640293:0=0:=rfl
theorem tw6629575237481750170:0=0:=rfl
theorem tw9488611128293181381:0=0:=rfl
theorem tw16722449327306241083:0=0:=rfl
theorem tw18133837511480961547:0=0:=rfl
theorem tw9305497560468425843:0=0:=rfl
theorem tw9128126446308827940:0=0:=rfl
theorem tw12938357722386891349:0=0:=rfl
theorem tw1143220722761579100:0=0:=rfl
theorem tw12881145362813740842:0=0:=rfl
theorem tw11188455812474867132:0=0:=rfl
theorem tw8789310821799459243:0=0:=rfl
theorem tw3800168659497772967:0=0:=rfl
theorem tw12484787566120035876:0=0:=rfl
theorem tw12773335636688170503:0=0:=rfl
theorem tw13246016191175203755:0=0:=rfl
theorem tw9352082579991153681:0=0:=rfl
theorem tw5217369568019101091:0=0:=rfl
theorem tw4424992291409049812:0=0:=rfl
theorem tw15965100744572783518:0=0:=rfl
theorem tw5767353080647880914:0=0:=rfl
theorem tw7181579620823633302:0=0:=rfl
theorem tw5756717055010394830:0=0:=rfl
theorem tw5892381410712271283:0=0:=rfl
theorem tw17750086063053852932:0=0:=rfl
theorem tw8550277785001237679:0=0:=rfl
theorem tw12145065828671468202:0=0:=rfl
theorem tw3339966793386504011:0=0:=rfl
theorem tw2475660477859687171:0=0:=rfl
theorem tw14766406778198475928:0=0:=rfl
theorem tw6518834864827026346:0=0:=rfl
theorem tw11944181055739234098:0=0:=rfl
theorem tw15438795443451021464:0=0:=rfl
theorem tw3612565407708971435:0=0:=rfl
theorem tw2331852598036401403:0=0:=rfl
theorem tw17059398268049009360:0=0:=rfl
theorem tw856952943047632603:0=0:=rfl
theorem tw5331598477717178250:0=0:=rfl
theorem tw9465221221176918712:0=0:=rfl
theorem tw4930733674772481610:0=0:=rfl
theorem tw10042009353825941313:0=0:=rfl
theorem tw8290589965459744873:0=0:=rfl
theorem tw17315538343011221289:0=0:=rfl
theorem tw16121030144187529782:0=0:=rfl
theorem tw7540279626976209096:0=0:=rfl
theorem tw132998749236407415:0=0:=rfl
theorem tw3732616488625906842:0=0:=rfl
theorem tw10545077365704461445:0=0:=rfl
theorem tw6707843422464464002:0=0:=rfl
theorem tw10383558058759244787:0=0:=rfl
theorem tw10479067148194021095:0=0:=rfl
theorem tw2128691765242176870:0=0:=rfl
theorem tw15340532423645075700:0=0:=rfl
theorem tw3924139647382872754:0=0:=rfl
theorem tw739265388887456572:0=0:=rfl
theorem tw1389953582289329911:0=0:=rfl
theorem tw6319394874954373542:0=0:=rfl
theorem tw11560773916963710538:0=0:=rfl
theorem tw5040631161697057738:0=0:=rfl
theorem tw8323530205956627103:0=0:=rfl
theorem tw15701069170046796095:0=0:=rfl
theorem tw3612371048730061173:0=0:=rfl
theorem tw2989395697339866602:0=0:=rfl
theorem tw8430786364604965395:0=0:=rfl
theorem tw9141798443736115929:0=0:=rfl
theorem tw10375681420245896374:0=0:=rfl
theorem tw16656461213332240593:0=0:=rfl
theorem tw8517199826526321351:0=0:=rfl
theorem tw12254277179457984382:0=0:=rfl
theorem tw16341185729329749196:0=0:=rfl
theorem tw12164716320882527448:0=0:=rfl
theorem tw4776087053154058153:0=0:=rfl
theorem tw16611003860672947377:0=0:=rfl
theorem tw16245160953868572915:0=0:=rfl
theorem tw9416475737314888957:0=0:=rfl
theorem tw10812640117024260995:0=0:=rfl
theorem tw13892950324556287844:0=0:=rfl
theorem tw3832183216174632539:0=0:=rfl
theorem tw4786832217032081583:0=0:=rfl
theorem tw15788694395312907282:0=0:=rfl
theorem tw13585567765903493011:0=0:=rfl
theorem tw10004090671399720535:0=0:=rfl
theorem tw4590788488560402277:0=0:=rfl
theorem tw10290953411209985011:0=0:=rfl
theorem tw15583486631777666788:0=0:=rfl
theorem tw2073960777980268047:0=0:=rfl
theorem tw8167836832099671396:0=0:=rfl
theorem tw15986863808832174686:0=0:=rfl
theorem tw8487299083514589006:0=0:=rfl
theorem tw15950880879105296393:0=0:=rfl
theorem tw2575459798513800010:0=0:=rfl
theorem tw11809740339885934500:0=0:=rfl
theorem tw12380721611240015657:0=0:=rfl
theorem tw16982747171583032465:0=0:=rfl
theorem tw3983351255102420465:0=0:=rfl
theorem tw7358205228735916760:0=0:=rfl
theorem tw769163329008071989:0=0:=rfl
theorem tw1156114456076658552:0=0:=rfl
theorem tw12165717017046558976:0=0:=rfl
theorem tw1044035502868116459:0=0:=rfl
theorem tw5133216773737084591:0=0:=rfl
theorem tw3544038946336859561:0=0:=rfl
theorem tw14969325195177049123:0=0:=rfl
theorem tw699212820991164895:0=0:=rfl
theorem tw4576534969930014921:0=0:=rfl
theorem tw9793805385088400052:0=0:=rfl
theorem tw17369605666688496679:0=0:=rfl
theorem tw12097006225030031376:0=0:=rfl
theorem tw8018311520267860201:0=0:=rfl
theorem tw16912675520378491576:0=0:=rfl
theorem tw6318256419177909383:0=0:=rfl
theorem tw14626726587566306231:0=0:=rfl
theorem tw13478142323327694452:0=0:=rfl
theorem tw5398289833981545199:0=0:=rfl
theorem tw12267508909246960944:0=0:=rfl
theorem tw13996743845856775221:0=0:=rfl
theorem tw11975536457429092869:0=0:=rfl
theorem tw17107630955802935039:0=0:=rfl
theorem tw10600474958679493176:0=0:=rfl
theorem tw16429775049970170920:0=0:=rfl
theorem tw6692826497034925704:0=0:=rfl
theorem tw13835053427798866494:0=0:=rfl
theorem tw10331822862906732501:0=0:=rfl
theorem tw4435682288877258744:0=0:=rfl
theorem tw9265079088080105512:0=0:=rfl
theorem tw6818349718095648294:0=0:=rfl
theorem tw12982637867126335353:0=0:=rfl
theorem tw8647424216780950628:0=0:=rfl
theorem tw3462652760919086867:0=0:=rfl
theorem tw3885596767276311434:0=0:=rfl
theorem tw9336654828634211209:0=0:=rfl
theorem tw10228048114108269725:0=0:=rfl
theorem tw5320416253329419048:0=0:=rfl
theorem tw2470984252002494602:0=0:=rfl
theorem tw12853744903160537003:0=0:=rfl
theorem tw2019307665470536127:0=0:=rfl
theorem tw8977847097491250852:0=0:=rfl
theorem tw9831537997996983125:0=0:=rfl
theorem tw12647913357532877912:0=0:=rfl
theorem tw5411223091800761858:0=0:=rfl
theorem tw17431567299544626579:0=0:=rfl
theorem tw3849914865792196224:0=0:=rfl
theorem tw387848990982033354:0=0:=rfl
theorem tw15352075679807605356:0=0:=rfl
theorem tw10849364770148220059:0=0:=rfl
theorem tw4378040084510381113:0=0:=rfl
theorem tw13584973620708026665:0=0:=rfl
theorem tw4654351612800352672:0=0:=rfl
theorem tw5268424651524821620:0=0:=rfl
theorem tw5119937664986401262:0=0:=rfl
theorem tw10634544046553395588:0=0:=rfl
theorem tw9055389483954172787:0=0:=rfl
theorem tw5637461788370883471:0=0:=rfl
theorem tw6969487205614708802:0=0:=rfl
theorem tw9805419627866553316:0=0:=rfl
theorem tw11730328072086757971:0=0:=rfl
theorem tw16913842104217932991:0=0:=rfl
theorem tw15186026489281897395:0=0:=rfl
theorem tw10286983102060659600:0=0:=rfl
theorem tw15100639031222887606:0=0:=rfl
theorem tw16433154800630331077:0=0:=rfl
theorem tw9169768436591641788:0=0:=rfl
theorem tw5898456023607484707:0=0:=rfl
end PySem.W.Fast
end
open PySem PySem.W PyProof.Rows
set_option maxRecDepth 100000 in
set_option maxHeartbeats 0 in
theorem PySem.Challenge.cw_everyrow_k30_whole_none_is_shorter_holds : PySem.Challenge.rw_everyrow_k30_whole_none_is_shorter.Holds := by
 w_on; o_law; k_head; (case hw=>w_witness2)
 k_fill
 refine' Pp.walk (l:=PySem.Challenge.rw_everyrow_k30_whole_none_is_shorter) (c:=249) (Pt:=245) rfl rfl (fun w h Y=>PySem.W.km_in_of Y) ?R ?T ?L ?F
 case R=>exact rfl
 case T=>exact fun w=>by kernel_rfl
 case L=>exact fun w=>by kernel_rfl
 case F=>
   intro w mg fa h KX G OF
   refine' Pp.all_mk KX G OF ?_ ?_ ?_ ?_ ?_ ?_ ?_ ?_ ?_ ?_ ?_ ?_ ?_ ?_ ?_ ?_ ?_ ?_ ?_ ?_ ?_ ?_ ?_ ?_ ?_ ?_ ?_ ?_ ?_ ?_ ?_ ?_ ?_ ?_ ?_ ?_ ?_ ?_ ?_ ?_ ?_ ?_ ?_ ?_ ?_ ?_ ?_ ?_ ?_ ?_ ?_ ?_ ?_ ?_ ?_ ?_ ?_ ?_ ?_ ?_ ?_ ?_ ?_ ?_ ?_ ?_ ?_ ?_ ?_ ?_ ?_ ?_ ?_ ?_ ?_ ?_ ?_ ?_ ?_ ?_ ?_ ?_ ?_ ?_ ?_ ?_ ?_ ?_ ?_ ?_ ?_ ?_ ?_ ?_ ?_ ?_ ?_ ?_ ?_ ?_ ?_ ?_ ?tb
   rotate_left 91
   iterate 34 (refine' L2.FH.of ?a ?l ?c ?k; (case a=>k_is); (case l=>k_is); (case c=>k_is); (case k=>k_is))
   iterate 50 (k_is)
   iterate 1 (k_exc)
   iterate 1 (kts_exm)
   iterate 1 (k_is)
   iterate 1 (k_exc)
   iterate 1 (kts_exm)
   iterate 13 (k_is)
   (case tb=>kernel_rfl)
