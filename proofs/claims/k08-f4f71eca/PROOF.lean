import PyProof.Rows.All
import Wide.All
import OpenK.AllK
import Wide.FinOn
import Lean
import PyProof.EqAt
import PyProof.EqKinds
import PyProof.TupleCall
import PyProof.AttrMiss
import PyProof.IsiH_list
import PyProof.ZipIter
import PyProof.P3In
import PyProof.StrBlockH
import PyProof.StrLawsIn
import PyProof.FString
import PyProof.EnumMake
import PyProof.Draws
import PySem.Challenge.RW_everyrow_k08_rows_in_any_order
set_option compiler.extract_closed false
set_option Elab.async false
set_option linter.all false
set_option maxRecDepth 100000
open PySem.Str renaming ofString->zaa
open PySem.W renaming kitOne->zab,Frag->zac,findIn->zaj,exmOne->zam,nsIn->zap,mg_of->zaw,fnOf->zaG,mroIn->zaJ,hasDictIn->zaL,keepIn->zaQ,mg_none_of->zaX,codeIn->za4,emptyDict->za5,excIn->za9,instObj->zbn,isFn->zbo,plainGet->zbC,looks_findIn->zbJ,plainOver->zbT,hideAll->zb5,makesIn->zb6,plainGet_of->zca,lookIn->zcc,of_hideAll->zce,callWith_K->zcg,methodObj->zcl,any_some->zcz,takerIn->zcG,cellsFrom_some->zcJ,hideAll_get->zcY,callWith_K0->zcZ,looks_mroIn->zc0
open Bool renaming false_ne_true->zad,and_eq_true->zaK,false_eq_true->za7,eq_iff_iff->zbb,eq_false_iff->zbF,eq_false_or_eq_true->zcx
open List renaming length_map->zae,length_append->zaf,length_cons->zag,getElem?_eq_getElem->zah,mem_cons->zak,mem_singleton->zal,getElem?_eq_some_iff->zan,size_toArray->zao,mem_cons_of_mem->zaq,map_append->zar,replicate->zat,length_singleton->zau,contains_iff_mem->zax,map_cons->zay,mem_append->zaz,mem_cons_self->zaD,getD_eq_getElem?_getD->zaE,mem_append_right->zaM,getElem?_map->zaN,length_eq_zero_iff->zaO,append_nil->zaP,flatten_cons->zaR,getElem_mem->zaS,mem_map->zaT,length_dropLast->zaU,length_drop->zaV,range->zaW,cons_append->zaY,getLast?_eq_getElem?->zaZ,nil_append->za1,all_eq_true->za2,getElem?_append_right->za3,getLast?_eq_none_iff->za6,lookup_cons->za8,mem_append_left->zba,nodup_cons->zbc,length_nil->zbe,replicate_succ->zbf,getElem?_set_self->zbg,length_take->zbh,take_succ_eq_append_getElem->zbi,getElem?_append_left->zbk,getElem?_set_ne->zbl,length_set->zbm,mem_range->zbp,not_mem_nil->zbr,take_of_length_le->zbs,find?_cons->zbu,drop_eq_getElem_cons->zby,getLast?_eq_some_iff->zbz,lookup->zbA,length->zbB,headD_cons->zbD,append_assoc->zbE,length_replicate->zbG,map_map->zbH,mem_of_getElem?->zbI,map_eq_nil_iff->zbL,foldl_cons->zbM,mem_filterMap->zbN,getElem_append_left->zbP,reverse_cons->zbR,getLast?_map->zbS,any_cons->zbV,take_length->zbX,mem_iff_getElem->zb1,all_map->zb3,dropLast_concat->zb4,drop_append_of_le_length->zb7,filterMap_cons->zb8,getElem_of_mem->zb9,map->zcb,flatMap_cons->zck,getLastD_eq_getLast?->zcm,pairwise_iff_getElem->zcn,mem_or_eq_of_mem_set->zco,getElem_append_right->zcp,map_nil->zcs,flatten_nil->zct,set->zcv,mem_flatMap->zcw,isEmpty_iff->zcy,getElem?_replicate->zcB,getElem?_cons_succ->zcC,of_mem_zip->zcE,forIn_cons->zcF,drop_of_length_le->zcH,getElem?_dropLast->zcI,length_filter_le->zcO,set_append_right->zcP,dropLast_subset->zcR,extract_toArray->zcS,mem_of_mem_drop->zcT,getLast?->zcU,flatten_append->zcV,filter_eq_self->zcW,zipWith->zc2
open Nat renaming le_refl->zai,le_trans->zaA,lt_of_lt_of_le->zaC,ne_of_lt->zaF,zero_le->za0,toDigitsCore->zbq,lt_irrefl->zbw,le_succ_of_le->zbx,lt_of_le_of_lt->zbO,lt_succ_self->zbW,sub_self->zb2,digitChar->zci,le_of_lt->zcq,toDigits->zcu,ne_of_gt->zc1
open Or renaming inl->zas,inr->zcN
open Option renaming some->zav,map_some->zbd,map_eq_some_iff->zbt,isSome_iff_exists->zcr,none->zc3
open PySem.F renaming plainAttrs_list->zaB,slot_list_append->zaH,type_list_append->zaI,plainAttrs_str->zbU,slot_list_pop->zbY,type_list_pop->zbZ,args_tuple_add_2->zcA,entry_tuple_add->zcD,slot_tuple_add->zcK,slot_str_split->zcL,type_str_split->zcM,slot_dict_get->zcQ
open Int renaming emod_lt_of_pos->zbj,emod_nonneg->zbv,fdiv_eq_ediv_of_nonneg->zch,toNat_natCast->zcj,toNat_of_nonneg->zcX
open Array renaming length_toList->zbK,append_assoc->zcd
open PySem.StrLaws renaming found_one->zbQ
open PyProof.Rows renaming slot_tuple_getitem->zb0,callWith_type1->zcf
open PySem renaming Addr->zc4,Value->zc5,World->zc6,wpAny_bind->zc7,wpAny_pure->zc8,wpAny_holding->zc9,starEach->zda,mainGlobals->zdb,sizeLine->zdc,FuncData->zdd,Shared->zde,Around->zdf,Program->zdg
noncomputable section
namespace L2
open PySem PySem.Spec PyProof.Rows
abbrev Key:=Sum Int Str
def vV:Key->zc5->Bool
 |.inl k,v=>Value.isInt k v
 |.inr x,v=>Value.isStrOf x v
def TM (w:zc6):Key->Int
 |.inl k=>hashInt k
 |.inr x=>hashStr w x
theorem dj:∀ {k:Key} {v:zc5},vV k v=true->(∃i t,k=Sum.inl i/\v=Value.int i t)\/(∃x t,k=Sum.inr x/\v=Value.str x t)
 |.inl i,v,h=>by
  obtain⟨t,e⟩:=Value.isInt_shape (k:=i) (v:=v) h;exact .inl ⟨i,t,rfl,e⟩
 |.inr x,v,h=>by
  obtain⟨t,e⟩:=Value.isStrOf_shape (x:=x) (v:=v) h;exact .inr ⟨x,t,rfl,e⟩
theorem Gg(i:Int)(t:Tok):vV (.inl i) (.int i t)=true:=by simp[vV,Value.isInt]
theorem Gh(x:Str)(t:Tok):vV (.inr x) (.str x t)=true:=by simp[vV,Value.isStrOf]
theorem Om(a b:Int):decide ((Sum.inl a:Key)=Sum.inl b)=(a==b):=by
 by_cases e:a=b
 ·subst e;simp
 ·have h:¬(Sum.inl a:Key)=Sum.inl b:=fun q=>e (Sum.inl.inj q);rw[decide_eq_false h];exact(beq_eq_false_iff_ne.mpr e).symm
theorem Oq(a b:Str):decide ((Sum.inr a:Key)=Sum.inr b)=decide (a=b):=by
 by_cases e:a=b
 ·subst e;simp
 ·have h:¬(Sum.inr a:Key)=Sum.inr b:=fun q=>e (Sum.inr.inj q);rw[decide_eq_false h,decide_eq_false e]
theorem Ot(a:Int)(b:Str):decide ((Sum.inl a:Key)=Sum.inr b)=false:=decide_eq_false (fun q=>nomatch q)
theorem Ou(a:Str)(b:Int):decide ((Sum.inr a:Key)=Sum.inl b)=false:=decide_eq_false (fun q=>nomatch q)
def eI (prog:zdg) (w:zc6):PySem.KeyKind prog w Key where
 is:=vV
 hash:=TM w
 inj:=fun v a b ha hb=>by
  rcases dj ha with ⟨i,t,rfl,rfl⟩ |⟨x,t,rfl,rfl⟩
  ·rcases dj hb with ⟨j,u,rfl,e⟩ |⟨y,u,rfl,e⟩
   ·injection e with e1 _;rw[e1]
   ·exact nomatch e
  ·rcases dj hb with ⟨j,u,rfl,e⟩ |⟨y,u,rfl,e⟩
   ·exact nomatch e
   ·injection e with e1 _;rw[e1]
 byValue:=fun k v h=>by
  rcases dj h with ⟨i,t,rfl,rfl⟩ |⟨x,t,rfl,rfl⟩<;>rfl
 pyHash:=fun hv h=>by
  rcases dj hv with ⟨i,t,rfl,rfl⟩ |⟨x,t,rfl,rfl⟩
  ·exact wpAny_pyHash_int h
  ·exact wpAny_pyHash_str h
 eqBool:=fun hu hv h=>by
  rcases dj hu with ⟨i,t,rfl,rfl⟩ |⟨x,t,rfl,rfl⟩
  ·rcases dj hv with ⟨j,u,rfl,rfl⟩ |⟨y,u,rfl,rfl⟩
   ·rw[Om] at h;exact wpAny_eqBool_int h
   ·rw[Ot] at h;exact SeqAt.EqAt.int_str i t y u _ _ _ _ h
  ·rcases dj hv with ⟨j,u,rfl,rfl⟩ |⟨y,u,rfl,rfl⟩
   ·rw[Ou] at h;exact SeqAt.EqAt.str_int x t j u _ _ _ _ h
   ·rw[Oq] at h;exact wpAny_eqBool_str h
 «strs»:=fun k x t v h=>by
  rcases dj h with ⟨i,u,rfl,e⟩ |⟨y,u,rfl,e⟩
  ·exact nomatch e
  ·injection e with e1 _
   subst e1;cases v<;>rfl
theorem Bz(prog:zdg)(w:zc6)(i:Int)(t:Tok):(eI prog w).is (.inl i) (.int i t)=true:=Gg i t
theorem BA(prog:zdg)(w:zc6)(x:Str)(t:Tok):(eI prog w).is (.inr x) (.str x t)=true:=Gh x t
inductive V where
 |da |bl (b:Bool) |int (i:Int) |str (x:Str) |E6 (b:Array UInt8) |SS (b:UInt64) |ref (a:zc4) |ty (n:String)
 deriving DecidableEq
def RelV:V->zc5->Prop
 |.da,u=>u=Value.none
 |.bl b,u=>u=Value.bool b
 |.int i,u=>∃t,u=Value.int i t
 |.str x,u=>∃t,u=Value.str x t
 |.E6 b,u=>∃t,u=Value.bytes b t
 |.SS b,u=>∃t,u=Value.float b t
 |.ref a,u=>u=Value.ref a
 |.ty n,u=>u=Value.type n
abbrev Vals:List V->List zc5->Prop:=Paired RelV
theorem Vals.length{xs:List V}{us:List zc5}(r:Vals xs us):xs.length=us.length:=Paired.length r
theorem Vals.get:∀ {xs:List V} {us:List zc5} {i:Nat} {x:V},Vals xs us->xs[i]?=some x->∃u,us[i]?=some u/\RelV x u
 |_,_,_,_,.nil,e=>by simp at e
 |_,_,0,_,.cons r _,e=>by simp at e;subst e;exact⟨_,rfl,r⟩
 |_,_,i+1,x,.cons _ t,e=>by
  obtain⟨u,h1,h2⟩:=Vals.get (i:=i) (x:=x) t (by simpa using e);exact⟨u,by simpa using h1,h2⟩
theorem Vals.set{x:V}{u:zc5}(r:RelV x u):∀ {xs:List V} {us:List zc5} (i:Nat),Vals xs us->Vals (xs.set i x) (us.set i u)
 |_,_,_,.nil=>.nil
 |_,_,0,.cons _ t=>.cons r t
 |_,_,i+1,.cons q t=>.cons q (Vals.set r i t)
theorem Vals.append:∀ {xs ys:List V} {us ws:List zc5},Vals xs us->Vals ys ws->Vals (xs++ys) (us++ws)
 |_,_,_,_,.nil,s=>s
 |_,_,_,_,.cons r t,s=>.cons r (Vals.append t s)
theorem Vals.take:∀ {xs:List V} {us:List zc5} (n:Nat),Vals xs us->Vals (xs.take n) (us.take n)
 |_,_,0,_=>.nil
 |_,_,_+1,.nil=>.nil
 |_,_,n+1,.cons r t=>.cons r (Vals.take n t)
theorem Vals.drop:∀ {xs:List V} {us:List zc5} (n:Nat),Vals xs us->Vals (xs.drop n) (us.drop n)
 |_,_,0,r=>r
 |_,_,_+1,.nil=>.nil
 |_,_,n+1,.cons _ t=>Vals.drop n t
def oX:Option V->Option zc5->Prop
 |some v,some u=>RelV v u
 |none,none=>True
 |_,_=>False
def KV {κ:Type}:List (κ×V)->List (κ×zc5)->Prop:=Paired fun (p:κ×V) (q:κ×zc5)=>p.1=q.1/\RelV p.2 q.2
def kV:Key->V
 |.inl i=>.int i
 |.inr x=>.str x
inductive HO where
 |lst (xs:List V)
 |tup (xs:List V)
 |dK (bg:List (Key×V)) |dT (bg:List (List Key×V))
 |set (S:Int->Bool) (n:Nat)
 |ins (C dx:zc4) (fs:List (Str×V))
 |own (x:zc4)
 |xd (fs:List (Str×V))
 |met (f x:zc4)
 |SU (lo hi:Int)
 |Iu (o:Obj) (u:HO)
 |L5 (ps:Array zc5)
 |ext (φ:Heap->Prop)
abbrev Hp:=zc4->Option HO
def upd (H:Hp) (a:zc4) (o:HO):Hp:=fun b=>if b=a then some o else H b
theorem ae{H:Hp}{a:zc4}{o:HO}:upd H a o a=some o:=by unfold upd;rw[if_pos rfl]
theorem ao{H:Hp}{a b:zc4}{o:HO}(h:b≠a):upd H a o b=H b:=by unfold upd;rw[if_neg h]
theorem Ak{H:Hp}{a:zc4}{o u:HO}:upd (upd H a o) a u=upd H a u:=by
 funext b;unfold upd;split<;>rfl
theorem dU{H:Hp}{a b:zc4}{o u:HO}(h:H a=some o)(h':H b=some u)(d:o≠u):a≠b:=by
 intro e;subst e;rw[h] at h';exact d (zav.inj h')
theorem aD{H:Hp}{a b:zc4}{o:HO}(h:H a=some o)(h':H b=none):a≠b:=by
 intro e;subst e;rw[h] at h';cases h'
section
variable(P:zdg)(w:zc6)
def dB (H:Hp) (h:Heap) (a:zc4):HO->Prop
 |.lst xs=>xs.length<=zdc/\∃(bj:List zc5) (n:Nat),Vals xs bj/\h.get? a=some {cls:=.type "list",data:=.seq bj.toArray n}
 |.tup xs=>xs.length<=zdc/\∃bj:List zc5,Vals xs bj/\IsTup h a bj.toArray
 |.dK bg=>bg.length<=zdc/\(a==sysModules)=false/\∃vs,KV bg vs/\h.DictOf (eI P w) a vs
 |.dT bg=>bg.length<=zdc/\(a==sysModules)=false/\∃xs:List (List Key×zc4×zc5),
  Paired (fun (p:List Key×V) (q:List Key×zc4×zc5)=>p.1=q.1/\H q.2.1=some (.tup (p.1.map kV))/\RelV p.2 q.2.2) bg xs/\
  ∃o es ep,h.get? a=some o/\o.ExactDict/\o.data=.dict es ep/\es.toList=xs.map (entryOfKey (tupleKind (eI P w)))/\(xs.map (·.1)).Nodup
 |.set S n=>h.SetOf (intKind P w) a S n
 |.ins C dx fs=>H dx=some (.own a)/\fs.length<=1000/\dx≠a/\h.get? a=some (zbn C dx)/\
  ∃mA,h.Ns1 dx mA/\(∀f,oX (fs.lookup f) (mA f))/\PySem.Within mA (fs.map (·.1))
 |.own _=>∃o,h.get? a=some o
 |.xd fs=>∃mA,h.Ns1 a mA/\∀f,oX (fs.lookup f) (mA f)
 |.SU lo hi=>∃t u v,h.get? a=some {cls:=.type "range",data:=.fields #[.int lo t,.int hi u,.int 1 v]}
 |.Iu o u=>h.get? a=some o/\dB H h a u
 |.L5 ps=>h.get? a=some {cls:=.none,data:=.fields ps}
 |.met f x=>h.get? a=some (zcl (.ref f) (.ref x))
 |.ext φ=>φ h/\(∃o,h.get? a=some o)/\∀h1 h2:Heap,φ h1->(∀o,h1.get? a=some o->h2.get? a=some o)->φ h2
def rW (H:Hp) (h:Heap):Prop:=∀a o,H a=some o->dB P w H h a o
end
section
variable{P:zdg}{w:zc6}{H H':Hp}{h h':Heap}{a:zc4}{o:HO}
theorem dB.lt(x:dB P w H h a o):a<h.objs.size:=by
 cases o with
 |lst xs=>obtain⟨_,_,_,_,e⟩:=x;exact Heap.lt_size e
 |tup xs=>obtain⟨_,_,_,p⟩:=x;exact p.lt
 |dK bg=>obtain⟨_,_,_,_,o,_,_,e,_⟩:=x;exact Heap.lt_size e
 |dT bg=>obtain⟨_,_,_,_,o,_,_,e,_⟩:=x;exact Heap.lt_size e
 |set S n=>obtain⟨o,_,_,_,e,_⟩:=x;exact Heap.lt_size e
 |ins C dx fs=>obtain⟨_,_,_,e,_⟩:=x;exact Heap.lt_size e
 |own y=>obtain⟨_,e⟩:=x;exact Heap.lt_size e
 |xd fs=>obtain⟨_,⟨_,_,_,e,_⟩,_⟩:=x;exact Heap.lt_size e
 |SU lo hi=>obtain⟨_,_,_,e⟩:=x;exact Heap.lt_size e
 |Iu ob u=>obtain⟨e,_⟩:=x;exact Heap.lt_size e
 |L5 ps=>exact Heap.lt_size (show h.get? a=some _ from x)
 |met f y=>exact Heap.lt_size (show h.get? a=some _ from x)
 |ext φ=>obtain⟨_,⟨_,e⟩,_⟩:=x;exact Heap.lt_size e
theorem Paired.L6{α β:Type}{F G:α->β->Prop}:∀ {l₁:List α} {l₂:List β},Paired F l₁ l₂->(∀a b,F a b->G a b)->Paired G l₁ l₂
 |_,_,.nil,_=>.nil
 |_,_,.cons r t,f=>.cons (f _ _ r) (Paired.L6 t f)
theorem dB.mY(x:dB P w H h a o)(k:∀b u,(b=a\/H b=some (.own a))->h.get? b=some u->h'.get? b=some u)
 (ho:∀b,H b=some (.own a)->H' b=some (.own a)) (ht:∀b xs,H b=some (.tup xs)->H' b=some (.tup xs)):dB P w H' h' a o:=by
 induction o with
 |lst xs=>obtain⟨z,bj,n,r,e⟩:=x;exact⟨z,bj,n,r,k _ _ (.inl rfl) e⟩
 |tup xs=>obtain⟨z,bj,r,ob,e,c⟩:=x;exact⟨z,bj,r,ob,k _ _ (.inl rfl) e,c⟩
 |dK bg=>obtain⟨z,y,vs,r,ob,es,ep,e,c⟩:=x;exact⟨z,y,vs,r,ob,es,ep,k _ _ (.inl rfl) e,c⟩
 |dT bg=>
  obtain⟨z,y,xs,r,ob,es,ep,e,c⟩:=x;exact⟨z,y,xs,Paired.L6 r fun p q z=>⟨z.1,ht _ _ z.2.1,z.2.2⟩,ob,es,ep,k _ _ (.inl rfl) e,c⟩
 |set S n=>obtain⟨ob,es,ep,t,e,c⟩:=x;exact⟨ob,es,ep,t,k _ _ (.inl rfl) e,c⟩
 |ins C dx fs=>
  obtain⟨d,z,ne,e,mA,⟨od,es,ep,e2,c⟩,r⟩:=x;exact⟨ho _ d,z,ne,k _ _ (.inl rfl) e,mA,⟨od,es,ep,k _ _ (.inr d) e2,c⟩,r⟩
 |own y=>obtain⟨ob,e⟩:=x;exact⟨ob,k _ _ (.inl rfl) e⟩
 |xd fs=>obtain⟨mA,⟨od,es,ep,e,c⟩,r⟩:=x;exact⟨mA,⟨od,es,ep,k _ _ (.inl rfl) e,c⟩,r⟩
 |SU lo hi=>obtain⟨t,u,v,e⟩:=x;exact⟨t,u,v,k _ _ (.inl rfl) e⟩
 |Iu ob u ih=>obtain⟨e,q⟩:=x;exact⟨k _ _ (.inl rfl) e,ih q⟩
 |L5 ps=>
  have e:h.get? a=some {cls:=.none,data:=.fields ps}:=x;show h'.get? a=some {cls:=.none,data:=.fields ps};exact k a _ (.inl rfl) e
 |met f y=>
  have e:h.get? a=some (zcl (.ref f) (.ref y)):=x;show h'.get? a=some (zcl (.ref f) (.ref y));exact k a _ (.inl rfl) e
 |ext φ=>obtain⟨p,⟨o,e⟩,st⟩:=x;exact⟨st _ _ p fun o q=>k _ _ (.inl rfl) q,⟨o,k _ _ (.inl rfl) e⟩,st⟩
theorem rW.lt(x:rW P w H h)(e:H a=some o):a<h.objs.size:=(x a o e).lt
theorem rW.fresh(x:rW P w H h)(e:h.objs.size<=a):H a=none:=by
 cases q:H a with
 |none=>rfl
 |some u=>exact absurd (zaC (x.lt q) e) (zbw _)
theorem rW.kept(x:rW P w H h)(k:∀b u,h.get? b=some u->h'.get? b=some u):rW P w H h':=fun a o e=>
 (x a o e).mY (fun b u _ q=>k b u q) (fun _ q=>q) fun _ _ q=>q
theorem rW.laid(x:rW P w H h)(k:∀b u,h.get? b=some u->h'.get? b=some u)(hp:h.objs.size<=a)(new:dB P w (upd H a o) h' a o):rW P w (upd H a o) h':=fun b u e=>by
 have hn:=x.fresh hp;by_cases hb:b=a
 ·subst hb;rw[ae] at e;cases e;exact new
 ·rw[ao hb] at e;exact(x b u e).mY (fun c v _ q=>k c v q) (fun c q=>by rw[ao (aD q hn)];exact q) fun c xs q=>by rw[ao (aD q hn)];exact q
end
def Rd (H:Hp) (a:zc4) (u:HO):Prop:=H a=some u\/∃o,H a=some (.Iu o u)
theorem Rd.ok{P:zdg}{w:zc6}{H:Hp}{h:Heap}{a:zc4}{u:HO}(r:Rd H a u)(x:rW P w H h):dB P w H h a u:=by
 rcases r with r |⟨o,r⟩
 ·exact x a u r
 ·obtain⟨_,q⟩:=x a _ r;exact q
def QN:Option HO->Prop
 |some (.lst _)=>True
 |some (.dK _)=>True
 |some (.dT _)=>True
 |some (.set _ _)=>True
 |some (.ins _ _ _)=>True
 |some (.ext _)=>True
 |_=>False
section
variable{P:zdg}{w:zc6}{H:Hp}{h h':Heap}{x e:zc4}{o':HO}
theorem rW.write(ok:rW P w H h)(mu:QN (H x))(he:e=x\/H e=some (.own x))(k:∀b u,b≠e->h.get? b=some u->h'.get? b=some u)(Qr:∃u,h'.get? e=some u)
 (new:dB P w (upd H x o') h' x o'):rW P w (upd H x o') h':=fun b u q=>by
 have QO:∀c y,H c=some (.own y)->c≠x:=fun c y r z=>by subst z;rw[r] at mu;exact mu
 have TN:∀c xs,H c=some (.tup xs)->c≠x:=fun c xs r z=>by subst z;rw[r] at mu;exact mu
 by_cases hb:b=x
 ·subst hb;rw[ae] at q;cases q;exact new
 ·rw[ao hb] at q;by_cases Ov:b=e
  ·have q':H b=some (.own x):=by
    rcases he with z |z
    ·exact absurd (Ov.trans z) hb
    ·rw[Ov];exact z
   rw[q] at q';cases q';obtain⟨v,hv⟩:=Qr;exact⟨v,by rw[Ov];exact hv⟩
  ·refine(ok b u q).mY (fun c v hc r=>k c v ?_ r) (fun c r=>by rw[ao (QO c b r)];exact r) fun c xs r=>by rw[ao (TN c xs r)];exact r
   rcases hc with rfl |hc
   ·exact Ov
   ·rintro rfl
    rcases he with z |z
    ·exact QO c b hc z
    ·rw[hc] at z;cases z;exact hb rfl
end
structure Un(fs ex:List zc4)(H H':Hp)(h h':Heap):Prop where
 keep:∀b o,h.get? b=some o->H b=none->b ∉ fs->b ∉ ex->h'.get? b=some o
 slot:∀b o,h.get? b=some o->H b=none->b∈fs->b ∉ ex->∃sl,h'.get? b=some {o with slots:=sl}
 free:∀b o,h.get? b=some o->H b=none->b ∉ ex->H' b=none
 there:∀b o,h.get? b=some o->b ∉ ex->∃o',h'.get? b=some o'
 jM:∀b xs,H b=some (.tup xs)->H' b=some (.tup xs)
 nJ:∀b o u,H b=some (.Iu o u)->H' b=some (.Iu o u)
 oS:∀b ps,H b=some (.L5 ps)->∃more,H' b=some (.L5 (ps++more))
section
variable{fs Ny ex VP:List zc4}{H H1 H2:Hp}{h h1 h2 h':Heap}{a x e:zc4}{o:HO}
theorem Un.any(u:Un fs ex H H1 h h1){b:zc4}{ob:Obj}(q:h.get? b=some ob)(n:H b=none)(hx:b ∉ ex):∃sl,h1.get? b=some {ob with slots:=sl}:=by
 by_cases hb:b∈fs
 ·exact u.slot b ob q n hb hx
 ·exact⟨ob.slots,u.keep b ob q n hb hx⟩
theorem Un.trans(a:Un fs ex H H1 h h1)(b:Un fs ex H1 H2 h1 h2):Un fs ex H H2 h h2 where
 keep:=fun c ob q n hc hx=>b.keep c ob (a.keep c ob q n hc hx) (a.free c ob q n hx) hc hx
 slot:=fun c ob q n hc hx=>by
  obtain⟨sl,e1⟩:=a.slot c ob q n hc hx;obtain⟨Ow,e2⟩:=b.slot c _ e1 (a.free c ob q n hx) hc hx;exact⟨Ow,e2⟩
 free:=fun c ob q n hx=>by
  obtain⟨o',e1⟩:=a.there c ob q hx;exact b.free c o' e1 (a.free c ob q n hx) hx
 there:=fun c ob q hx=>by
  obtain⟨o',e1⟩:=a.there c ob q hx;exact b.there c o' e1 hx
 jM:=fun c xs q=>b.jM c xs (a.jM c xs q)
 nJ:=fun c ob xs q=>b.nJ c ob xs (a.nJ c ob xs q)
 oS:=fun c ps q=>by
  obtain⟨m1,e1⟩:=a.oS c ps q;obtain⟨m2,e2⟩:=b.oS c _ e1;exact⟨m1++m2,by rw[e2,zcd]⟩
theorem Un.kept(k:∀b u,h.get? b=some u->h'.get? b=some u):Un fs ex H H h h':=
 ⟨fun b ob q _ _ _=>k b ob q,fun b ob q _ _ _=>⟨ob.slots,k b ob q⟩,fun _ _ _ n _=>n,fun b ob q _=>⟨ob,k b ob q⟩,fun _ _ q=>q,fun _ _ _ q=>q,fun _ ps q=>⟨#[],by rw[q];simp⟩⟩
theorem Un.refl:Un fs ex H H h h:=Un.kept fun _ _ q=>q
theorem Un.laid(k:∀b u,h.get? b=some u->h'.get? b=some u)(hp:h.objs.size<=a)(hn:H a=none):Un fs ex H (upd H a o) h h' where
 keep:=fun b u q _ _ _=>k b u q
 slot:=fun b u q _ _ _=>⟨u.slots,k b u q⟩
 free:=fun b u q n _=>by rw[ao (zaF (zaC (Heap.lt_size q) hp))];exact n
 there:=fun b u q _=>⟨u,k b u q⟩
 jM:=fun b xs q=>by rw[ao (aD q hn)];exact q
 nJ:=fun b u xs q=>by rw[ao (aD q hn)];exact q
 oS:=fun b ps q=>⟨#[],by rw[ao (aD q hn),q];simp⟩
theorem Un.write(mu:QN (H x))(he:e=x\/H e=some (.own x))(k:∀b u,b≠e->h.get? b=some u->h'.get? b=some u)(Qr:∃u,h'.get? e=some u):Un fs ex H (upd H x o) h h':=by
 have hx:∀b,H b=none->b≠x:=fun b n z=>by subst z;rw[n] at mu;exact mu
 have hb:∀b,H b=none->b≠e:=fun b n z=>by
  subst z;rcases he with r |r
  ·exact hx b n r
  ·rw[n] at r;cases r
 have hm:∀b u,H b=some u->¬QN (some u)->b≠x:=fun b u q nm z=>by subst z;rw[q] at mu;exact nm mu
 refine⟨fun b u q n _ _=>k b u (hb b n) q,fun b u q n _ _=>⟨u.slots,k b u (hb b n) q⟩,fun b u q n _=>by rw[ao (hx b n)];exact n,fun b u q _=>?_,
  fun b xs q=>by rw[ao (hm b _ q fun z=>z)];exact q,fun b u xs q=>by rw[ao (hm b _ q fun z=>z)];exact q,fun b ps q=>⟨#[],by rw[ao (hm b _ q fun z=>z),q];simp⟩⟩
 by_cases Ov:b=e
 ·subst Ov;exact Qr
 ·exact⟨u,k b u Ov q⟩
theorem Un.mono(u:Un fs ex H H1 h h1)(hs:∀b∈fs,b∈Ny)(hx:∀b∈ex,b∈VP):Un Ny VP H H1 h h1:=
 ⟨fun b ob q n hb he=>u.keep b ob q n (fun z=>hb (hs b z)) fun z=>he (hx b z),fun _ _ q n _ he=>u.any q n fun z=>he (hx _ z),fun b ob q n he=>u.free b ob q n fun z=>he (hx b z),fun b ob q he=>u.there b ob q fun z=>he (hx b z),u.jM,u.nJ,u.oS⟩
end
def Iv (h:Heap) (H:Hp):List zc4:=(zaW h.objs.size).filter fun a=>(H a).isSome
def Al (h:Heap) (H:Hp):Heap:=zb5 h (Iv h H)
theorem Gi(h:Heap)(H:Hp):(Al h H).objs.size=h.objs.size:=PySem.W.hideAll_size _ _
theorem Iw{h:Heap}{H:Hp}{b:zc4}{o:Obj}(e:h.get? b=some o)(n:H b=none):(Al h H).get? b=some o:=
 zcY _ e fun hm=>by
  have q:(H b).isSome=true:=(List.mem_filter.mp hm).2;rw[n] at q;simp at q
theorem L7{h:Heap}{H:Hp}{b:zc4}{o:Obj}(e:(Al h H).get? b=some o):h.get? b=some o/\H b=none:=by
 have e':h.get? b=some o:=zce (Iv h H) e;refine⟨e',?_⟩;cases q:H b with
 |none=>rfl
 |some x=>
  have hm:b∈Iv h H:=List.mem_filter.mpr ⟨zbp.mpr (Heap.lt_size e'),by simp[q]⟩;have z:(Al h H).get? b=none:=PySem.W.hideAll_none (Iv h H) hm;rw[z] at e;cases e
def L8 (g h:Heap) (L:zc4):List (zc4×Obj):=(zaW h.objs.size).filterMap fun a=>if a=L\/(g.get? a).isSome=true then none else (h.get? a).map fun o=>(a,o)
def rest (g h:Heap) (L d:zc4):List (zc4×Obj):=(L8 g h L).filter fun p=>decide (p.1≠d)
structure Mod(K:zac)(mg:Str->Option zc5)(base:Heap):Prop where
 Qs:K.In base
 glob:base.Ns zdb mg
 blt:∃mb,base.Ns builtinsNs mb/\∀x:Str,x≠"__name__"->mb x=bootBuiltins x
 nolimit:base.NoLimit
structure Cx where
 prog:zdg
 w:zc6
 K:zac
 mg:Str->Option zc5
 base:Heap
 A:zdf
 N:List Str
 s₀:zde
 H₀:Hp
 env:Env
 outer:List Env
 stack:List Env
 ex:List zc4
 fn:Str->Bool
 calm:Bool
 pn:List (zc4×Obj)
 xe:zc5->zde->Prop
def fB (l:List Env):List zc4:=l.filterMap (·.frame)
abbrev Cx.fs (X:Cx):List zc4:=fB X.outer
def SV (sc:Scope) (x:Str):Prop:=sc.names.lookup x=some .local\/sc.names.lookup x=some .cell\/sc.names.lookup x=some .free
def Loc (sc:Scope) (x:Str):Prop:=sc.names.lookup x=some .local\/sc.names.lookup x=some .cell
def Look (env:Env) (h:Heap) (m:Str->Option zc5) (x:Str) (u:zc5):Prop:=
 (env.kindOf x=some .local/\m x=some u)\/((env.kindOf x=some .cell\/env.kindOf x=some .free)/\∃c,env.cells.lookup x=some c/\h.IsCell c (some u))
structure Cx.Ok(X:Cx):Prop where
 mod:Mod X.K X.mg X.base
 kind:X.env.scope.kind=.function
 glob:X.env.globals=zdb
 blt:X.env.builtins=builtinsNs
 above:X.s₀.heap.objs.size<=X.env.locals
 inj:∀x y c,X.env.cells.lookup x=some c->X.env.cells.lookup y=some c->x=y
 has:∀x,(X.env.kindOf x=some .cell\/X.env.kindOf x=some .free)->∃c,X.env.cells.lookup x=some c
 L9:∀x c,X.fn x=true->X.env.cells.lookup x=some c->X.s₀.heap.objs.size<=c
 hd:X.calm=true->X.A.handled=none
 frames:X.A.frames=some X.stack
 LQ:X.stack=X.outer\/(X.stack=X.env::X.outer/\X.env.frame=some X.env.locals)
 Qt:∀b∈X.ex,b≠X.env.locals/\∀x c,X.env.cells.lookup x=some c->c≠b
 bs:∀b o,X.base.get? b=some o->X.s₀.heap.get? b=some o/\X.H₀ b=none
 DP:X.base.objs.size<=X.s₀.heap.objs.size
 Am:∀b o,X.base.get? b=some o->b ∉ X.ex
 BB:∀b∈X.ex,b ∉ X.fs
 oY:X.s₀.heap.FunFrames X.base X.outer
 Ij:∀b∈X.fs,X.H₀ b=none
structure Inv(X:Cx)(pins:List (zc4×Obj))(σ:List (Option V))(H:Hp)(s:zde):Prop where
 ok:X.Ok
 os:s.os=X.s₀.os
 bare:AllBare s.gens
 base:Un X.fs X.ex X.H₀ H X.s₀.heap s.heap
 loc:∃m,s.heap.Ns X.env.locals m/\∀(i:Nat) (x:Str) (v:V),X.N[i]?=some x->σ[i]?=some (some v)->SV X.env.scope x->∃u,RelV v u/\Look X.env s.heap m x u
 cell:∀x c,X.env.cells.lookup x=some c->∃v,s.heap.IsCell c v
 free:H X.env.locals=none
 js:∀x c,X.env.cells.lookup x=some c->H c=none
 pin:∀p∈X.pn++pins,s.heap.get? p.1=some p.2/\H p.1=none/\p.1≠X.env.locals/\p.1 ∉ X.fs/\∀v,p.2.data≠.cell v
 dq:rW X.prog X.w H s.heap
 len:σ.length=X.N.length
section
variable{X:Cx}{pins:List (zc4×Obj)}{σ:List (Option V)}{H H':Hp}{s:zde}{h':Heap}
theorem Cx.Ok.TQ(ok:X.Ok){b:zc4}{o:Obj}(e:X.base.get? b=some o):b ∉ X.fs:=fun hb=>by
 have:=(ok.oY.mem hb).1;rw[e] at this;cases this
theorem Inv.bs(I:Inv X pins σ H s):∀b o,X.base.get? b=some o->s.heap.get? b=some o/\H b=none:=fun b o e=>
 ⟨I.base.keep b o (I.ok.bs b o e).1 (I.ok.bs b o e).2 (I.ok.TQ e) (I.ok.Am b o e),I.base.free b o (I.ok.bs b o e).1 (I.ok.bs b o e).2 (I.ok.Am b o e)⟩
theorem Inv.bk(I:Inv X pins σ H s):∀b o,X.base.get? b=some o->s.heap.get? b=some o:=fun b o e=>(I.bs b o e).1
theorem Inv.mod(I:Inv X pins σ H s):Mod X.K X.mg X.base:=I.ok.mod
theorem Inv.yz(I:Inv X pins σ H s):X.K.In s.heap:=I.ok.mod.Qs.keeps I.bk
theorem Inv.fr(I:Inv X pins σ H s):∃m,Fr X.base X.env.locals s.heap m:=
 let ⟨m,hn,_⟩:=I.loc
 ⟨m,hn,I.bk,zaA I.ok.DP I.ok.above⟩
theorem Inv.lt(I:Inv X pins σ H s):X.env.locals<s.heap.objs.size:=let ⟨_,hn,_⟩:=I.loc;hn.lt
theorem Inv.sz(I:Inv X pins σ H s):X.s₀.heap.objs.size<=s.heap.objs.size:=zaA I.ok.above (zcq I.lt)
theorem Inv.TR(I:Inv X pins σ H s){a:zc4}(h:s.heap.objs.size<=a):a ∉ X.fs:=fun hb=>by
 obtain⟨_,o,ho,_⟩:=I.ok.oY.mem hb;exact absurd (zaC (Heap.lt_size ho) (zaA I.sz h)) (zbw _)
theorem Inv.Iy(I:Inv X pins σ H s):∀x c,X.env.cells.lookup x=some c->c≠X.env.locals:=fun x c e z=>by
 obtain⟨v,o,ho,hd⟩:=I.cell x c e;obtain⟨m,⟨o',es,ep,qw,TU,_⟩,_⟩:=I.loc;rw[z,qw] at ho;cases ho;rw[TU] at hd;cases hd
theorem Inv.oY(I:Inv X pins σ H s):s.heap.FunFrames X.base X.outer:=by
 have all:∀(l:List Env),(∀b∈fB l,b∈X.fs)->X.s₀.heap.FunFrames X.base l->s.heap.FunFrames X.base l:=by
  intro l
  induction l with
  |nil=>intro _ _;trivial
  |cons env r ih=>
   intro hs hl;obtain⟨hk,⟨L,o,hf,hn,ho,hd⟩,hr⟩:=hl;have hL:L∈X.fs:=hs L (by unfold fB;rw[zb8,hf];exact zaD);obtain⟨sl,e⟩:=I.base.slot L o ho (I.ok.Ij L hL) hL fun z=>I.ok.BB L z hL;exact⟨hk,⟨L,_,hf,hn,e,hd⟩,ih (fun b hb=>hs b (by unfold fB;rw[zb8,hf];exact zaq _ hb)) hr⟩
 exact all X.outer (fun _ hb=>hb) I.ok.oY
theorem Inv.stack(I:Inv X pins σ H s):s.heap.FunFrames X.base X.stack:=by
 rcases I.ok.LQ with e |⟨e,hf⟩
 ·rw[e];exact I.oY
 ·rw[e];obtain⟨m,hn,_⟩:=I.loc;refine .cons (by rw[I.ok.kind];decide) hf hn ?_ I.oY;exact Heap.get?_none_of_le (zaA I.ok.DP I.ok.above)
theorem Inv.tM(I:Inv X pins σ H s):∀b∈fB X.stack,b∈X.env.locals::X.fs:=fun b hb=>by
 rcases I.ok.LQ with e |⟨e,hf⟩
 ·rw[e] at hb;exact zaq _ hb
 ·rw[e] at hb;unfold fB at hb;rw[zb8,hf] at hb;exact hb
theorem Inv.vE(I:Inv X pins σ H s):∀b∈fB X.stack,H b=none:=fun b hb=>by
 rcases zak.mp (I.tM b hb) with e |hb
 ·rw[e];exact I.free
 ·obtain⟨_,o,ho,_⟩:=I.ok.oY.mem hb;exact I.base.free b o ho (I.ok.Ij b hb) fun z=>I.ok.BB b z hb
theorem Inv.step{g':Array GenState}{t':Nat}{d':Drawn}{ch:List zc4}(I:Inv X pins σ H s)
 (LR:∀b∈ch,(b∈X.ex\/X.s₀.heap.objs.size<=b)/\b≠X.env.locals/\(∀x c,X.env.cells.lookup x=some c->c≠b)/\∀p∈X.pn++pins,p.1≠b)
 (keep:∀b o,b≠X.env.locals->b ∉ X.fs->b ∉ ch->s.heap.get? b=some o->H b=none->h'.get? b=some o)
 (slot:∀b o,b≠X.env.locals->b∈X.fs->b ∉ ch->s.heap.get? b=some o->H b=none->∃sl,h'.get? b=some {o with slots:=sl}) (free:∀b o,b ∉ ch->s.heap.get? b=some o->H b=none->H' b=none)
 (there:∀b o,b ∉ ch->s.heap.get? b=some o->∃o',h'.get? b=some o')
 (jM:∀b xs,H b=some (.tup xs)->H' b=some (.tup xs)) (nJ:∀b o u,H b=some (.Iu o u)->H' b=some (.Iu o u)) (oS:∀b ps,H b=some (.L5 ps)->∃more,H' b=some (.L5 (ps++more)))
 (ns:∀m,s.heap.Ns X.env.locals m->h'.Ns X.env.locals m) (dq:rW X.prog X.w H' h') (hg:AllBare g') :
 Inv X pins σ H' {s with heap:=h',gens:=g',drawn:=d',toks:=t' }:=by
 have SW:∀b o,X.s₀.heap.get? b=some o->b≠X.env.locals:=fun b o e=>zaF (zaC (Heap.lt_size e) I.ok.above);have SX:∀b o,X.s₀.heap.get? b=some o->b ∉ X.ex->b ∉ ch:=fun b o e hx hb=>by
  rcases(LR b hb).1 with z |z
  ·exact hx z
  ·exact absurd (zaC (Heap.lt_size e) z) (zbw _)
 have cellK:∀x c,X.env.cells.lookup x=some c->∀v,s.heap.IsCell c v->h'.IsCell c v:=fun x c e v ⟨o,ho,hd⟩=>by
  have QP:c ∉ ch:=fun z=>(LR c z).2.2.1 x c e rfl;by_cases hc:c∈X.fs
  ·obtain⟨sl,q⟩:=slot c o (I.Iy x c e) hc QP ho (I.js x c e);exact⟨_,q,hd⟩
  ·exact⟨o,keep c o (I.Iy x c e) hc QP ho (I.js x c e),hd⟩
 refine⟨I.ok,I.os,hg,⟨fun b o e n hb hx=>?_,fun b o e n hb hx=>?_,fun b o e n hx=>?_,fun b o e hx=>?_,fun b xs e=>jM b xs (I.base.jM b xs e),fun b o xs e=>nJ b o xs (I.base.nJ b o xs e),fun b ps e=>?_⟩,?_,fun x c e=>?_,?_,fun x c e=>?_,fun p hp=>?_,dq,I.len⟩
 ·exact keep b o (SW b o e) hb (SX b o e hx) (I.base.keep b o e n hb hx) (I.base.free b o e n hx)
 ·obtain⟨sl,e1⟩:=I.base.slot b o e n hb hx;obtain⟨Ow,e2⟩:=slot b _ (SW b o e) hb (SX b o e hx) e1 (I.base.free b o e n hx);exact⟨Ow,e2⟩
 ·obtain⟨o',e1⟩:=I.base.there b o e hx;exact free b o' (SX b o e hx) e1 (I.base.free b o e n hx)
 ·obtain⟨o',e1⟩:=I.base.there b o e hx;exact there b o' (SX b o e hx) e1
 ·obtain⟨m1,e1⟩:=I.base.oS b ps e;obtain⟨m2,e2⟩:=oS b _ e1;exact⟨m1++m2,by rw[e2,zcd]⟩
 ·obtain⟨m,hn,hl⟩:=I.loc;refine⟨m,ns m hn,fun i x v e1 e2 e3=>?_⟩;obtain⟨u,r,l⟩:=hl i x v e1 e2 e3;refine⟨u,r,?_⟩;rcases l with l |⟨k,c,e,z⟩
  ·exact .inl l
  ·exact .inr ⟨k,c,e,cellK x c e _ z⟩
 ·obtain⟨v,z⟩:=I.cell x c e;exact⟨v,cellK x c e v z⟩
 ·obtain⟨m,⟨o,_,_,ho,_⟩,_⟩:=I.loc;exact free _ o (fun z=>(LR _ z).2.1 rfl) ho I.free
 ·obtain⟨v,o,ho,hd⟩:=I.cell x c e;exact free c o (fun z=>(LR c z).2.2.1 x c e rfl) ho (I.js x c e)
 ·obtain⟨e,n,ne,nf,d⟩:=I.pin p hp;have QP:p.1 ∉ ch:=fun z=>(LR p.1 z).2.2.2 p hp rfl;exact⟨keep p.1 p.2 ne nf QP e n,free p.1 p.2 QP e n,ne,nf,d⟩
theorem Inv.un{t':Nat}(I:Inv X pins σ H s)(u:Un X.fs [] H H' s.heap h')(dq:rW X.prog X.w H' h'):Inv X pins σ H' {s with heap:=h',toks:=t' }:=by
 obtain⟨m,⟨o,es,ep,ho,r⟩,_⟩:=id I.loc;obtain⟨sl,hL⟩:=u.any ho I.free (by simp);exact I.step (g':=s.gens) (d':=s.drawn) (ch:=[]) (fun _ z=>nomatch z) (fun b o _ hb _ e n=>u.keep b o e n hb (by simp)) (fun b o _ hb _ e n=>u.slot b o e n hb (by simp)) (fun b o _ e n=>u.free b o e n (by simp)) (fun b o _ e=>u.there b o e (by simp)) u.jM u.nJ u.oS (fun m' hm=>by
  obtain⟨o',QQ,TV,qw,r'⟩:=hm;rw[ho] at qw;cases qw;exact⟨_,QQ,TV,hL,r'⟩) dq I.bare
theorem Inv.call{g':Array GenState}{t':Nat}{d':Drawn}{ch:List zc4}(I:Inv X pins σ H s)(u:Un (fB X.stack) ch H H' s.heap h')(dq:rW X.prog X.w H' h')(hg:AllBare g')
 (LR:∀b∈ch,(b∈X.ex\/X.s₀.heap.objs.size<=b)/\b≠X.env.locals/\(∀x c,X.env.cells.lookup x=some c->c≠b)/\∀p∈X.pn++pins,p.1≠b) :
 Inv X pins σ H' {s with heap:=h',gens:=g',drawn:=d',toks:=t' }:=by
 obtain⟨m,⟨o,es,ep,ho,r⟩,_⟩:=id I.loc;obtain⟨sl,hL⟩:=u.any ho I.free fun z=>(LR _ z).2.1 rfl;exact I.step (ch:=ch) LR (fun b o hL hb hc e n=>u.keep b o e n (fun z=>(zak.mp (I.tM b z)).elim hL hb) hc) (fun b o _ _ hc e n=>u.any e n hc) (fun b o hc e n=>u.free b o e n hc) (fun b o hc e=>u.there b o e hc) u.jM u.nJ u.oS (fun m' hm=>by
  obtain⟨o',QQ,TV,qw,r'⟩:=hm;rw[ho] at qw;cases qw;exact⟨_,QQ,TV,hL,r'⟩) dq hg
theorem Inv.turned{t':Nat}{it:zc4}(I:Inv X pins σ H s)(k:∀b o,b≠it->s.heap.get? b=some o->h'.get? b=some o)(hn:H it=none)(hL:it≠X.env.locals)
 (h1:it∈X.ex\/X.s₀.heap.objs.size<=it) (h2:∀x c,X.env.cells.lookup x=some c->c≠it) (h3:∀p∈X.pn++pins,p.1≠it):Inv X pins σ H {s with heap:=h',toks:=t' }:=by
 have QR:∀b u,H b=some u->b≠it:=fun b u e z=>by rw[z,hn] at e;cases e
 refine I.step (g':=s.gens) (d':=s.drawn) (ch:=[it]) (fun b hb=>?_) (fun b o _ _ hc e _=>k b o (fun z=>hc (by simp[z])) e) (fun b o _ _ hc e _=>⟨o.slots,k b o (fun z=>hc (by simp[z])) e⟩) (fun _ _ _ _ n=>n)
  (fun b o hc e=>⟨o,k b o (fun z=>hc (by simp[z])) e⟩) (fun _ _ e=>e) (fun _ _ _ e=>e) (fun b ps e=>⟨#[],by rw[e];simp⟩) (fun m hm=>?_) (fun b u e=>?_) I.bare
 ·have e:b=it:=by simpa using hb
  subst e;exact⟨h1,hL,h2,h3⟩
 ·obtain⟨o,es,ep,ho,r⟩:=hm;exact⟨o,es,ep,k _ o (Ne.symm hL) ho,r⟩
 ·refine(I.dq b u e).mY (fun c v hc q=>k c v ?_ q) (fun _ q=>q) fun _ _ q=>q;rcases hc with z |z
  ·rw[z];exact QR b u e
  ·exact QR c _ z
theorem Inv.tok(I:Inv X pins σ H s)(t:Nat):Inv X pins σ H {s with toks:=t}:=I.un (h':=s.heap) (t':=t) Un.refl I.dq
theorem Inv.kept{t':Nat}(I:Inv X pins σ H s)(k:∀b u,s.heap.get? b=some u->h'.get? b=some u):Inv X pins σ H {s with heap:=h',toks:=t' }:=I.un (Un.kept k) (I.dq.kept k)
theorem Inv.laid{a:zc4}{o:HO}{t':Nat}(I:Inv X pins σ H s)(k:∀b u,s.heap.get? b=some u->h'.get? b=some u)(hp:s.heap.objs.size<=a)(new:dB X.prog X.w (upd H a o) h' a o) :
 Inv X pins σ (upd H a o) {s with heap:=h',toks:=t' }:=I.un (Un.laid k hp (I.dq.fresh hp)) (I.dq.laid k hp new)
theorem Inv.write{x e:zc4}{o:HO}{t':Nat}(I:Inv X pins σ H s)(mu:QN (H x))(he:e=x\/H e=some (.own x))(k:∀b u,b≠e->s.heap.get? b=some u->h'.get? b=some u)(Qr:∃u,h'.get? e=some u)
 (new:dB X.prog X.w (upd H x o) h' x o):Inv X pins σ (upd H x o) {s with heap:=h',toks:=t' }:=I.un (Un.write mu he k Qr) (I.dq.write mu he k Qr new)
theorem Inv.E7{uD:List (zc4×Obj)}(I:Inv X pins σ H s)(h:∀p∈uD,s.heap.get? p.1=some p.2/\H p.1=none/\p.1≠X.env.locals/\p.1 ∉ X.fs/\∀v,p.2.data≠.cell v):Inv X uD σ H s:=
 ⟨I.ok,I.os,I.bare,I.base,I.loc,I.cell,I.free,I.js,fun p hp=>(zaz.mp hp).elim (fun z=>I.pin p (zba _ z)) (h p),I.dq,I.len⟩
theorem vW{N:List Str}(hN:N.Nodup){i j:Nat}{x:Str}(a:N[i]?=some x)(b:N[j]?=some x):i=j:=by
 obtain⟨h1,e1⟩:=zan.mp a;obtain⟨h2,e2⟩:=zan.mp b;exact(List.getElem_inj hN).mp (e1.trans e2.symm)
theorem Gj{M:Model}{A:zdf}{E:zc5->zde->Prop}{i:Nat}{x:Str}{v:V}{u:zc5}{Q:Unit->zde->Prop}(I:Inv X pins σ H s)(hN:X.N.Nodup)(hi:X.N[i]?=some x)(hx:Loc X.env.scope x)(r:RelV v u)
 (h:∀s',Inv X pins (σ.set i (some v)) H s'->(∃a,Heap.SameBut a s.heap s'.heap/\(a=X.env.locals\/X.env.cells.lookup x=some a))->Q () s') (hf:X.fn x=true\/X.env.scope.names.lookup x=some .local:=by first |exact .inl rfl |exact .inr rfl |assumption):wpAny M A (storeName X.env x u) Q E s:=by
 obtain⟨m,hn,hl⟩:=id I.loc;have TX:(X.env.scope.kind==.class ||(X.env.scope.kind==.module&&X.env.locals != X.env.globals))=false:=by rw[I.ok.kind];rfl
 have QS:i<σ.length:=by rw[I.len];exact(zan.mp hi).1
 have Iy:=I.Iy;have tracked:∀ {a:zc4} {h':Heap},(∃o,s.heap.get? a=some o/\H a=none)->Heap.SameBut a s.heap h'->rW X.prog X.w H h':=fun {a h'} ha hs b ob e=>by
  obtain⟨_,_,r9⟩:=ha;refine(I.dq b ob e).mY (fun c w' hc q=>(hs.2 c ?_).trans q) (fun _ q=>q) fun _ _ q=>q
  rintro rfl
  rcases hc with rfl |hc
  ·rw[r9] at e;cases e
  ·rw[r9] at hc;cases hc
 rcases hx with hk |hk
 ·refine wpAny_storeName_local hk hn (fun h' TY hs=>?_) TX;obtain⟨oL,_,_,SY,_⟩:=id hn;refine h _ ⟨I.ok,I.os,I.bare,⟨fun b o e n hb hx=>?_,fun b o e n hb hx=>?_,I.base.free,fun b o e hx=>?_,I.base.jM,I.base.nJ,I.base.oS⟩,⟨_,TY,fun j y v' e1 e2 e3=>?_⟩,fun y c e=>?_,I.free,I.js,fun p hp=>?_,tracked ⟨oL,SY,I.free⟩ hs,by simpa using I.len⟩ ⟨_,hs,.inl rfl⟩
  ·exact(hs.2 b (zaF (zaC (Heap.lt_size e) I.ok.above))).trans (I.base.keep b o e n hb hx)
  ·obtain⟨sl,e1⟩:=I.base.slot b o e n hb hx;exact⟨sl,(hs.2 b (zaF (zaC (Heap.lt_size e) I.ok.above))).trans e1⟩
  ·obtain⟨o',e1⟩:=I.base.there b o e hx;exact⟨o',(hs.2 b (zaF (zaC (Heap.lt_size e) I.ok.above))).trans e1⟩
  ·by_cases hj:j=i
   ·subst hj;rw[hi] at e1;cases e1;rw[zbg QS] at e2;cases e2;exact⟨u,r,.inl ⟨hk,by simp⟩⟩
   ·rw[zbl (Ne.symm hj)] at e2;obtain⟨u',r',q⟩:=hl j y v' e1 e2 e3;refine⟨u',r',?_⟩;rcases q with ⟨k,e⟩ |⟨k,c,e,z⟩
    ·refine .inl ⟨k,?_⟩;have:y≠x:=fun e=>hj (vW hN e1 (e▸hi));simp[this,e]
    ·exact .inr ⟨k,c,e,z.sameBut hs (Iy y c e)⟩
  ·obtain⟨w',z⟩:=I.cell y c e;exact⟨w',z.sameBut hs (Iy y c e)⟩
  ·obtain⟨e,n,ne,nf,d⟩:=I.pin p hp;exact⟨(hs.2 p.1 ne).trans e,n,ne,nf,d⟩
 ·have TZ:X.fn x=true:=by
   rcases hf with z |z
   ·exact z
   ·rw[z] at hk;cases hk
  obtain⟨c,hc⟩:=I.ok.has x (.inl hk);obtain⟨w',z⟩:=I.cell x c hc;refine wpAny_storeName_cell I.ok.kind hk hc z (fun h' Qu hs=>?_);obtain⟨oc,VQ,T1⟩:=id z;refine h {s with heap:=h' } ⟨I.ok,I.os,I.bare,⟨fun b o e n hb hx=>?_,fun b o e n hb hx=>?_,I.base.free,fun b o e hx=>?_,I.base.jM,I.base.nJ,I.base.oS⟩,⟨m,hn.sameBut hs (Ne.symm (Iy x c hc)),fun j y v' e1 e2 e3=>?_⟩,fun y c' e=>?_,I.free,I.js,fun p hp=>?_,tracked ⟨oc,VQ,I.js x c hc⟩ hs,by simpa using I.len⟩ ⟨c,hs,.inr hc⟩
  ·exact(hs.2 b (zaF (zaC (Heap.lt_size e) (I.ok.L9 x c TZ hc)))).trans (I.base.keep b o e n hb hx)
  ·obtain⟨sl,e1⟩:=I.base.slot b o e n hb hx;exact⟨sl,(hs.2 b (zaF (zaC (Heap.lt_size e) (I.ok.L9 x c TZ hc)))).trans e1⟩
  ·obtain⟨o',e1⟩:=I.base.there b o e hx;exact⟨o',(hs.2 b (zaF (zaC (Heap.lt_size e) (I.ok.L9 x c TZ hc)))).trans e1⟩
  ·by_cases hj:j=i
   ·subst hj;rw[hi] at e1;cases e1;rw[zbg QS] at e2;cases e2;exact⟨u,r,.inr ⟨.inl hk,c,hc,Qu⟩⟩
   ·rw[zbl (Ne.symm hj)] at e2;obtain⟨u',r',q⟩:=hl j y v' e1 e2 e3;refine⟨u',r',?_⟩;rcases q with q |⟨k,c',e,z'⟩
    ·exact .inl q
    ·refine .inr ⟨k,c',e,z'.sameBut hs ?_⟩
     rintro rfl
     exact hj (vW hN e1 (I.ok.inj _ _ _ e hc▸hi))
  ·by_cases VR:c'=c
   ·subst VR;exact⟨_,Qu⟩
   ·obtain⟨w2,z2⟩:=I.cell y c' e;exact⟨w2,z2.sameBut hs VR⟩
  ·obtain⟨e,n,ne,nf,d⟩:=I.pin p hp;refine⟨(hs.2 p.1 ?_).trans e,n,ne,nf,d⟩;intro q;rw[q,VQ] at e;have q':oc=p.2:=zav.inj e;exact d w' (by rw[<- q'];exact T1)
theorem vX{M:Model}{A:zdf}{E:zc5->zde->Prop}{i:Nat}{x:Str}{v:V}{u:zc5}{Q:Unit->zde->Prop}(I:Inv X pins σ H s)(hN:X.N.Nodup)(hi:X.N[i]?=some x)(hx:Loc X.env.scope x)(r:RelV v u)
 (h:∀s',Inv X pins (σ.set i (some v)) H s'->Q () s') (hf:X.fn x=true\/X.env.scope.names.lookup x=some .local:=by first |exact .inl rfl |exact .inr rfl |assumption):wpAny M A (storeName X.env x u) Q E s:=
 Gj I hN hi hx r (fun s' I' _=>h s' I') hf
theorem Inv.Nz{s':zde}{ch:List zc4}(I:Inv X pins σ H s)(ho:s'.os=s.os)(u:Un (fB X.stack) ch H H' s.heap s'.heap)(dq:rW X.prog X.w H' s'.heap)(hg:AllBare s'.gens)
 (LR:∀b∈ch,(b∈X.ex\/X.s₀.heap.objs.size<=b)/\b≠X.env.locals/\(∀x c,X.env.cells.lookup x=some c->c≠b)/\∀p∈X.pn++pins,p.1≠b):Inv X pins σ H' s':=by
 obtain⟨h',g',d',t',o'⟩:=s';have e:o'=s.os:=ho;subst e;exact I.call (g':=g') (t':=t') (d':=d') u dq hg LR
end
abbrev XK:=zc5->Option zc4->Hp->Prop
abbrev St:=List (Option V)
abbrev VK:=V->Hp->Prop
abbrev TE:=St->Hp->VK->Prop
abbrev TT:=St->Hp->(Bool->Hp->Prop)->Prop
abbrev TA:=St->Hp->(List V->Hp->Prop)->Prop
structure Ends where
 nx:St->Hp->Prop
 rt:VK
 bk:St->Hp->Prop:=fun _ _=>False
 ct:St->Hp->Prop:=fun _ _=>False
abbrev TS:=Ends->St->Hp->Prop
def EP (X:Cx) (pins:List (zc4×Obj)) (σ:St) (Q:VK) (u:zc5) (s':zde):Prop:=∃v H',Inv X pins σ H' s'/\RelV v u/\Q v H'
def TP (X:Cx) (pins:List (zc4×Obj)) (σ:St) (Q:Bool->Hp->Prop) (b:Bool) (s':zde):Prop:=∃H',Inv X pins σ H' s'/\Q b H'
def AP (X:Cx) (pins:List (zc4×Obj)) (σ:St) (Q:List V->Hp->Prop) (us:List zc5) (s':zde):Prop:=∃vs H',Inv X pins σ H' s'/\Vals vs us/\Q vs H'
def SP (X:Cx) (pins:List (zc4×Obj)) (D:Ends) (f:Flow) (s':zde):Prop:=
 match f with
 |.next=>∃σ' H',Inv X pins σ' H' s'/\D.nx σ' H'
 |.brk=>∃σ' H',Inv X pins σ' H' s'/\D.bk σ' H'
 |.cont=>∃σ' H',Inv X pins σ' H' s'/\D.ct σ' H'
 |.ret u=>∃v σ' H',Inv X pins σ' H' s'/\RelV v u/\D.rt v H'
def PE (X:Cx) (e:Expr) (t:TE):Prop:=
 ∀(pins:List (zc4×Obj)) (s:zde) (σ:St) (H:Hp) (Q:VK),Inv X pins σ H s->t σ H Q->wpAny (model X.prog X.w) X.A (eval e X.env) (EP X pins σ Q) X.xe s
def PT (X:Cx) (e:Expr) (t:TT):Prop:=
 ∀(pins:List (zc4×Obj)) (s:zde) (σ:St) (H:Hp) (Q:Bool->Hp->Prop),Inv X pins σ H s->t σ H Q->wpAny (model X.prog X.w) X.A (isTrue e X.env (eval e X.env)) (TP X pins σ Q) X.xe s
def PW (X:Cx) (e:Expr) (t:TT):Prop:=
 ∀(whole:Sem zc5) (pins:List (zc4×Obj)) (s:zde) (σ:St) (H:Hp) (Q:Bool->Hp->Prop),Inv X pins σ H s->t σ H Q->wpAny (model X.prog X.w) X.A (isTrue e X.env whole) (TP X pins σ Q) X.xe s
theorem PW.pt{X:Cx}{e:Expr}{t:TT}(h:PW X e t):PT X e t:=h _
def PA (X:Cx) (es:List Expr) (t:TA):Prop:=
 ∀(pos:Pos) (pins:List (zc4×Obj)) (s:zde) (σ:St) (H:Hp) (Q:List V->Hp->Prop),Inv X pins σ H s->t σ H Q->wpAny (model X.prog X.w) X.A (spliced (backTo pos (zda es X.env))) (AP X pins σ Q) X.xe s
def PS (X:Cx) (st:Stmt) (t:TS):Prop:=
 ∀(pins:List (zc4×Obj)) (s:zde) (σ:St) (H:Hp) (D:Ends),Inv X pins σ H s->t D σ H->wpAny (model X.prog X.w) X.A (exec st X.env) (SP X pins D) X.xe s
def DL (X:Cx) (st:List Stmt) (t:TS):Prop:=
 ∀(pins:List (zc4×Obj)) (s:zde) (σ:St) (H:Hp) (D:Ends),Inv X pins σ H s->t D σ H->wpAny (model X.prog X.w) X.A (execs st X.env) (SP X pins D) X.xe s
theorem d7{α:Type}{t:Sem α}{Q Q':α->zde->Prop}{M:Model}{A:zdf}{E:zc5->zde->Prop}{s:zde}(h:wpAny M A t Q E s)(hQ:∀a s,Q a s->Q' a s):wpAny M A t Q' E s:=wpAny_mono h hQ fun _ _ x=>x
section
variable{X:Cx}
theorem bin{a b:Expr}{ta tb:TE}(ha:PE X a ta)(hb:PE X b tb){pins:List (zc4×Obj)}{s:zde}{σ:St}{H:Hp}{R:V->V->Hp->Prop}(I:Inv X pins σ H s)(h:ta σ H fun x H1=>tb σ H1 fun y H2=>R x y H2)
 {α:Type} {Q:α->zde->Prop} {f:zc5->zc5->Sem α}
 (hf:∀v u s2 x y H2,Inv X pins σ H2 s2->RelV x v->RelV y u->R x y H2->wpAny (model X.prog X.w) X.A (f v u) Q X.xe s2) :
 wpAny (model X.prog X.w) X.A (eval a X.env) (fun v s₁=>wpAny (model X.prog X.w) X.A (eval b X.env) (fun u s₂=>wpAny (model X.prog X.w) X.A (f v u) Q X.xe s₂) X.xe s₁) X.xe s:=by
 refine d7 (ha pins s σ H _ I h) fun v s1 zqz=>?_;obtain⟨x,H1,I1,r1,q1⟩:=zqz;refine d7 (hb pins s1 σ H1 _ I1 q1) fun u s2 zqz=>?_;obtain⟨y,H2,I2,r2,q2⟩:=zqz;exact hf v u s2 x y H2 I2 r1 r2 q2
def VS (Q:V->Prop):Option (Option V)->Prop
 |some (some v)=>Q v
 |_=>False
theorem Ox{Q:V->Prop}:∀ {o:Option (Option V)},VS Q o->∃v,o=some (some v)/\Q v
 |some (some v),h=>⟨v,rfl,h⟩
 |some none,h=>h.elim
 |none,h=>h.elim
def eP (i:Nat):TE:=fun σ H Q=>VS (fun v=>Q v H) σ[i]?
def tC (v:V):TE:=fun _ H Q=>Q v H
theorem Oy{i:Nat}{x:Str}{pos:Pos}(hN:X.N[i]?=some x)(hv:SV X.env.scope x)(hd:(x==("__debug__":Str))=false:=by decide)(Gk:(x==("__classdict__":Str))=false:=by decide):PE X (.Name x pos) (eP i):=by
 intro pins s σ H Q I h;obtain⟨v,e,h⟩:=Ox h;obtain⟨m,hn,hl⟩:=I.loc;obtain⟨u,r,l⟩:=hl i x v hN e hv;have fin:EP X pins σ Q u s:=⟨v,H,I,r,h⟩
 rcases l with ⟨hk,hm⟩ |⟨hk,c,hc,E8⟩
 ·exact wpAny_Name (wpAny_loadName_local I.ok.kind hk hn hm fin) hd
 ·rcases hk with hk |hk
  ·exact wpAny_Name (wpAny_loadName_cell I.ok.kind hk hc E8 fin) hd
  ·exact wpAny_Name (wpAny_loadName_free I.ok.kind hk hc E8 fin Gk) hd
theorem ai{i j pos}:PE X (.Constant (.int i) j pos) (tC (.int i)):=fun _ _ _ H _ I h=>wpAny_Constant_int ⟨.int i,H,I.tok _,⟨_,rfl⟩,h⟩
theorem zB{b j pos}:PE X (.Constant (.bool b) j pos) (tC (.bl b)):=fun _ _ _ H _ I h=>Constant_bool ⟨.bl b,H,I,rfl,h⟩
theorem vY{j pos}:PE X (.Constant .none j pos) (tC .da):=fun _ _ _ H _ I h=>Constant_none ⟨.da,H,I,rfl,h⟩
theorem ax{x j pos}:PE X (.Constant (.str x) j pos) (tC (.str x)):=fun _ _ _ H _ I h=>Calls.Constant_str ⟨.str x,H,I.tok _,⟨_,rfl⟩,h⟩
def Gl (X:Cx) (x:Str):Prop:=X.env.kindOf x=some .globalImplicit
theorem nK{E:zc5->zde->Prop}{pins:List (zc4×Obj)}{s:zde}{σ:St}{H:Hp}{x:Str}{u:zc5}{pos:Pos}{Q:zc5->zde->Prop}(I:Inv X pins σ H s)(hg:Gl X x)(hm:X.mg x=some u)(h:Q u s)
 (hd:(x==("__debug__":Str))=false:=by decide):wpAny (model X.prog X.w) X.A (eval (.Name x pos) X.env) Q E s:=
 Calls.Name_function_global I.ok.kind hg (Calls.loadGlobal_global (by rw[I.ok.glob];exact I.mod.glob.keeps I.bk) hm h) hd
theorem vZ{E:zc5->zde->Prop}{pins:List (zc4×Obj)}{s:zde}{σ:St}{H:Hp}{x:Str}{u:zc5}{pos:Pos}{Q:zc5->zde->Prop}(I:Inv X pins σ H s)(hg:Gl X x)(hm:X.mg x=none)(hv:bootBuiltins x=some u)(h:Q u s)
 (hn:x≠"__name__":=by decide) (hd:(x==("__debug__":Str))=false:=by decide):wpAny (model X.prog X.w) X.A (eval (.Name x pos) X.env) Q E s:=by
 obtain⟨mb,h1,h2⟩:=I.mod.blt;exact Calls.Name_function_global I.ok.kind hg (Calls.loadGlobal_builtin (by rw[I.ok.glob];exact I.mod.glob.keeps I.bk) hm (by rw[I.ok.blt];exact h1.keeps I.bk) ((h2 x hn).trans hv) h) hd
theorem bO{x:Str}{v:V}{u:zc5}{pos:Pos}(hg:Gl X x)(hm:X.mg x=some u)(r:RelV v u)(hd:(x==("__debug__":Str))=false:=by decide):PE X (.Name x pos) (tC v):=
 fun _ _ _ H _ I h=>nK I hg hm ⟨v,H,I,r,h⟩ hd
theorem Ma{x:Str}{v:V}{u:zc5}{pos:Pos}(hg:Gl X x)(hm:X.mg x=none)(hv:bootBuiltins x=some u)(r:RelV v u)(hn:x≠"__name__":=by decide)(hd:(x==("__debug__":Str))=false:=by decide):PE X (.Name x pos) (tC v):=
 fun _ _ _ H _ I h=>vZ I hg hm hv ⟨v,H,I,r,h⟩ hn hd
variable{a b:Expr}{ta tb:TE}{pos:Pos}
def tB (t:TE):TT:=fun σ H Q=>t σ H fun x H1=>∃c,x=.bl c/\Q c H1
theorem oZ{e:Expr}{t:TE}(h:PE X e t)(he:∀whole,isTrue e X.env whole=(do let v <- whole;standAt e.pos;holding [v] (truthy v)):=by intro _;rfl):PT X e (tB t):=by
 intro pins s σ H Q I hw;refine isTrue_plain (d7 (h pins s σ H _ I hw) fun v s1 zqz=>?_) (he _);obtain⟨x,H1,I1,r1,q1⟩:=zqz;obtain⟨d,rfl,q⟩:=q1;cases r1;exact wpAny_truthy_bool ⟨H1,I1,q⟩
variable{tA S0:TT}{rest:List Expr}
def Oz (t u:TT):TT:=fun σ H Q=>t σ H fun c H1=>if c=true then u σ H1 Q else Q false H1
def T2 (t u:TT):TT:=fun σ H Q=>t σ H fun c H1=>if c=true then Q true H1 else u σ H1 Q
def QT (t:TT):TT:=fun σ H Q=>t σ H fun c H1=>Q (!c) H1
theorem pw_and1(ha:PT X a tA):PW X (.BoolOp .And [a] pos) tA:=by
 intro wh pins s σ H Q I h;refine isTrue_and (d7 (ha pins s σ H Q I h) fun c s1 e=>?_);cases c with
 |true=>exact isTrue_and_nil e
 |false=>exact e
theorem pw_or1(ha:PT X a tA):PW X (.BoolOp .Or [a] pos) tA:=by
 intro wh pins s σ H Q I h;refine isTrue_or (d7 (ha pins s σ H Q I h) fun c s1 e=>?_);cases c with
 |false=>exact isTrue_or_nil e
 |true=>exact e
theorem pw_and(ha:PT X a tA)(hb:PW X (.BoolOp .And (b::rest) pos) S0):PW X (.BoolOp .And (a::b::rest) pos) (Oz tA S0):=by
 intro wh pins s σ H Q I h;refine isTrue_and (d7 (ha pins s σ H _ I h) fun c s1 zqz=>?_);obtain⟨H1,I1,q1⟩:=zqz;cases c with
 |true=>exact hb wh pins s1 σ H1 Q I1 q1
 |false=>exact⟨H1,I1,q1⟩
theorem pw_or(ha:PT X a tA)(hb:PW X (.BoolOp .Or (b::rest) pos) S0):PW X (.BoolOp .Or (a::b::rest) pos) (T2 tA S0):=by
 intro wh pins s σ H Q I h;refine isTrue_or (d7 (ha pins s σ H _ I h) fun c s1 zqz=>?_);obtain⟨H1,I1,q1⟩:=zqz;cases c with
 |true=>exact⟨H1,I1,q1⟩
 |false=>exact hb wh pins s1 σ H1 Q I1 q1
theorem tN(ha:PT X a tA):PT X (.UnaryOp .Not a pos) (QT tA):=by
 intro pins s σ H Q I h;exact isTrue_not (ha pins s σ H (fun c H1=>Q (!c) H1) I h)
def Iz (ta tb:TE):TE:=fun σ H Q=>ta σ H fun x H1=>∃c,x=.bl c/\if c=true then tb σ H1 Q else Q (.bl false) H1
def OA (ta tb:TE):TE:=fun σ H Q=>ta σ H fun x H1=>∃c,x=.bl c/\if c=true then Q (.bl true) H1 else tb σ H1 Q
def IA (ta:TE):TE:=fun σ H Q=>ta σ H fun x H1=>∃c,x=.bl c/\Q (.bl (!c)) H1
theorem v5{op}{t:TE}(h:PE X a t):PE X (.BoolOp op [a] pos) t:=fun pins s σ H Q I hw=>BoolOp_one (h pins s σ H Q I hw)
theorem tO(ha:PE X a ta)(hb:PE X (.BoolOp .And (b::rest) pos) tb):PE X (.BoolOp .And (a::b::rest) pos) (Iz ta tb):=by
 intro pins s σ H Q I h;refine BoolOp_and (d7 (ha pins s σ H _ I h) fun v s1 zqz=>?_);obtain⟨x,H1,I1,r1,q1⟩:=zqz;obtain⟨c,rfl,q1⟩:=q1;cases r1;refine wpAny_truthy_bool ?_;cases c with
 |true=>exact hb pins s1 σ H1 Q I1 q1
 |false=>exact⟨.bl false,H1,I1,rfl,q1⟩
theorem QU(ha:PE X a ta)(hb:PE X (.BoolOp .Or (b::rest) pos) tb):PE X (.BoolOp .Or (a::b::rest) pos) (OA ta tb):=by
 intro pins s σ H Q I h;refine BoolOp_or (d7 (ha pins s σ H _ I h) fun v s1 zqz=>?_);obtain⟨x,H1,I1,r1,q1⟩:=zqz;obtain⟨c,rfl,q1⟩:=q1;cases r1;refine wpAny_truthy_bool ?_;cases c with
 |false=>exact hb pins s1 σ H1 Q I1 q1
 |true=>exact⟨.bl true,H1,I1,rfl,q1⟩
theorem OB(ha:PE X a ta):PE X (.UnaryOp .Not a pos) (IA ta):=by
 intro pins s σ H Q I h;refine UnaryOp_ (d7 (ha pins s σ H _ I h) fun v s1 zqz=>?_);obtain⟨x,H1,I1,r1,q1⟩:=zqz;obtain⟨c,rfl,q1⟩:=q1;cases r1;exact not_of (wpAny_truthy_bool ⟨.bl (!c),H1,I1,rfl,q1⟩)
def VT (t:TT) (ta tb:TE):TE:=fun σ H Q=>t σ H fun c H1=>if c=true then ta σ H1 Q else tb σ H1 Q
end
def gW (K:zac) (H:Hp) (a:zc4) (xs:List V):Prop:=
 Rd H a (.lst xs)\/
  ∃(o:Obj) (bj:Array zc5) (n:Nat),K.lookup a=some o/\o.cls=.type "list"/\o.dict=none/\o.data=.seq bj n/\bj.size<=zdc/\Vals xs bj.toList
def eQ (K:zac) (H:Hp) (a:zc4) (xs:List V):Prop:=
 Rd H a (.tup xs)\/
  ∃(o:Obj) (bj:Array zc5) (n:Nat),K.lookup a=some o/\o.cls=.type "tuple"/\o.data=.seq bj n/\bj.size<=zdc/\Vals xs bj.toList
def T3:zc5->Option V
 |.none=>some .da
 |.bool b=>some (.bl b)
 |.int i _=>some (.int i)
 |.str x _=>some (.str x)
 |.bytes b _=>some (.E6 b)
 |.float b _=>some (.SS b)
 |.ref a=>some (.ref a)
 |.type n=>some (.ty n)
 |_=>none
theorem RelV.abs{x:V}{u:zc5}(r:RelV x u):T3 u=some x:=by
 cases x with
 |da=>cases r;rfl
 |bl _=>cases r;rfl
 |int _=>obtain⟨t,rfl⟩:=r;rfl
 |str _=>obtain⟨t,rfl⟩:=r;rfl
 |E6 _=>obtain⟨t,rfl⟩:=r;rfl
 |SS _=>obtain⟨t,rfl⟩:=r;rfl
 |ref _=>cases r;rfl
 |ty _=>cases r;rfl
theorem RelV.inj{x y:V}{u:zc5}(r:RelV x u)(q:RelV y u):x=y:=zav.inj (r.abs.symm.trans q.abs)
theorem Vals.inj:∀ {xs ys:List V} {us:List zc5},Vals xs us->Vals ys us->xs=ys
 |_,_,_,.nil,.nil=>rfl
 |_,_,_,.cons r t,.cons r' t'=>by rw[r.inj r',Vals.inj t t']
section
variable{X:Cx}{pins:List (zc4×Obj)}{σ:St}{H:Hp}{s:zde}{a:zc4}{xs ys:List V}
theorem gW.of{K:zac}(h:H a=some (.lst xs)):gW K H a xs:=.inl (.inl h)
theorem eQ.of{K:zac}(h:H a=some (.tup xs)):eQ K H a xs:=.inl (.inl h)
theorem Inv.list(I:Inv X pins σ H s)(h:gW X.K H a xs):∃bj:List zc5,Vals xs bj/\PlainL s.heap a bj.toArray/\xs.length<=zdc:=by
 rcases h with h |⟨o,bj,n,hk,hc,hd,hs,hz,r⟩
 ·obtain⟨z,bj,n,r,e⟩:=h.ok I.dq;exact⟨bj,r,⟨_,n,e,rfl,rfl,rfl⟩,z⟩
 ·refine⟨bj.toList,r,⟨o,n,I.yz a o hk,hc,hd,by simpa using hs⟩,?_⟩;have e:=r.length;simp only[zbK] at e;lia
theorem Inv.tuple(I:Inv X pins σ H s)(h:eQ X.K H a xs):∃bj:List zc5,Vals xs bj/\IsTup s.heap a bj.toArray/\xs.length<=zdc:=by
 rcases h with h |⟨o,bj,n,hk,hc,hs,hz,r⟩
 ·obtain⟨z,bj,r,p⟩:=h.ok I.dq;exact⟨bj,r,p,z⟩
 ·refine⟨bj.toList,r,⟨o,I.yz a o hk,hc,n,by simpa using hs⟩,?_⟩;have e:=r.length;simp only[zbK] at e;lia
theorem Inv.BC(I:Inv X pins σ H s)(h:gW X.K H a xs)(h':gW X.K H a ys):xs=ys:=by
 obtain⟨bj,r,⟨o,n,e,_,_,d⟩,_⟩:=I.list h;obtain⟨its',r',⟨o',n',e',_,_,d'⟩,_⟩:=I.list h';rw[e] at e';cases e';rw[d] at d'
 injection d' with d1 _
 have:bj=its':=by simpa using congrArg Array.toList d1
 subst this;exact r.inj r'
end
abbrev Cx.yA (X:Cx) (E:zc5->zde->Prop):Cx:={X with xe:=E}
abbrev Cx.QV (X:Cx):Cx:=X.yA fun _ _=>False
theorem Cx.Ok.yA{X:Cx}(ok:X.Ok)(E:zc5->zde->Prop):(X.yA E).Ok:=
 ⟨ok.mod,ok.kind,ok.glob,ok.blt,ok.above,ok.inj,ok.has,ok.L9,ok.hd,ok.frames,ok.LQ,ok.Qt,ok.bs,ok.DP,ok.Am,ok.BB,ok.oY,ok.Ij⟩
theorem Cx.Ok.o5{X:Cx}{E:zc5->zde->Prop}(ok:(X.yA E).Ok):X.Ok:=
 ⟨ok.mod,ok.kind,ok.glob,ok.blt,ok.above,ok.inj,ok.has,ok.L9,ok.hd,ok.frames,ok.LQ,ok.Qt,ok.bs,ok.DP,ok.Am,ok.BB,ok.oY,ok.Ij⟩
section
variable{X:Cx}{pins:List (zc4×Obj)}{σ:St}{H:Hp}{s:zde}{E:zc5->zde->Prop}
theorem Inv.yA(I:Inv X pins σ H s)(E:zc5->zde->Prop):Inv (X.yA E) pins σ H s:=⟨I.ok.yA E,I.os,I.bare,I.base,I.loc,I.cell,I.free,I.js,I.pin,I.dq,I.len⟩
theorem Inv.o5(I:Inv (X.yA E) pins σ H s):Inv X pins σ H s:=⟨I.ok.o5,I.os,I.bare,I.base,I.loc,I.cell,I.free,I.js,I.pin,I.dq,I.len⟩
theorem SP.o5{D:Ends}{f:Flow}{s':zde}(h:SP (X.yA E) pins D f s'):SP X pins D f s':=by
 cases f with
 |next=>obtain⟨σ',H',I,q⟩:=h;exact⟨σ',H',I.o5,q⟩
 |brk=>obtain⟨σ',H',I,q⟩:=h;exact⟨σ',H',I.o5,q⟩
 |cont=>obtain⟨σ',H',I,q⟩:=h;exact⟨σ',H',I.o5,q⟩
 |ret u=>obtain⟨v,σ',H',I,r,q⟩:=h;exact⟨v,σ',H',I.o5,r,q⟩
theorem DL.QV{st:List Stmt}{t:TS}(h:DL X.QV st t):DL X st t:=fun pins s σ H D I hw=>
 wpAny_mono (h pins s σ H D (I.yA _) hw) (fun _ _ q=>q.o5) fun _ _ z=>False.elim z
end
section
variable{X:Cx}{st:Stmt}{rest:List Stmt}{t u:TS}{e:Expr}{te:TE}{pos:Pos}
def IB:TS:=fun D σ H=>D.nx σ H
def IC (t u:TS):TS:=fun D σ H=>t {D with nx:=u D} σ H
theorem aI:DL X [] IB:=fun _ _ σ H _ I h=>wpAny_execs_nil ⟨σ,H,I,h⟩
theorem ag(h1:PS X st t)(h2:DL X rest u):DL X (st::rest) (IC t u):=by
 intro pins s σ H D I h;refine wpAny_execs_cons (d7 (h1 pins s σ H {D with nx:=u D} I h) fun f s1 q=>?_);cases f with
 |next=>
  obtain⟨σ',H',I',q⟩:=q;exact h2 pins s1 σ' H' D I' q
 |ret v=>exact q
 |brk=>exact q
 |cont=>exact q
theorem ak(h1:PS X st t):DL X [st] t:=by
 intro pins s σ H D I h;refine wpAny_execs_cons (d7 (h1 pins s σ H D I h) fun f s1 q=>?_);cases f with
 |next=>exact wpAny_execs_nil q
 |ret v=>exact q
 |brk=>exact q
 |cont=>exact q
def ID:TS:=fun D σ H=>D.bk σ H
def NA:TS:=fun D σ H=>D.ct σ H
theorem Inv.quiet{pins:List (zc4×Obj)}{σ:St}{H:Hp}{s:zde}(I:Inv X pins σ H s):interactive X.env=false:=by simp[interactive,I.ok.kind]
def IE (te:TE):TS:=fun D σ H=>te σ H fun _ H1=>D.nx σ H1
theorem cB(he:PE X e te)(hs:swapsWith e none pos.line X.env=pure false:=by rfl):PS X (.Expr e pos) (IE te):=by
 intro pins s σ H D I h;exact wpAny_Expr_any (d7 (he pins s σ H _ I h) fun v s1 ⟨x,H1,I1,r1,q1⟩=>⟨σ,H1,I1,q1⟩) I.quiet hs
def OC (te:TE):TS:=fun D σ H=>te σ H D.rt
theorem aW(he:PE X e te):PS X (.Return (some e) pos) (OC te):=by
 intro pins s σ H D I h;exact wpAny_Return_some (d7 (he pins s σ H _ I h) fun v s1 ⟨x,H1,I1,r1,q1⟩=>⟨x,σ,H1,I1,r1,q1⟩)
def NB:TS:=fun D _ H=>D.rt .da H
def Mb (c:TT) (t u:TS):TS:=fun D σ H=>c σ H fun b H1=>if b=true then t D σ H1 else u D σ H1
theorem ba{c:Expr}{a b:List Stmt}{tc:TT}(hc:PT X c tc)(ha:DL X a t)(hb:DL X b u):PS X (.If c a b pos) (Mb tc t u):=by
 intro pins s σ H D I h;refine wpAny_If (d7 (hc pins s σ H _ I h) fun d s1 zqz=>?_);obtain⟨H1,I1,q1⟩:=zqz;cases d with
 |true=>exact ha pins s1 σ H1 D I1 q1
 |false=>exact hb pins s1 σ H1 D I1 q1
end
abbrev TG:=V->St->Hp->(St->Hp->Prop)->Prop
abbrev Mc:=List V->St->Hp->(St->Hp->Prop)->Prop
def PG (X:Cx) (target:Expr) (t:TG):Prop:=
 ∀(pins:List (zc4×Obj)) (s:zde) (σ:St) (H:Hp) (v:V) (u:zc5) (Q:St->Hp->Prop),Inv X pins σ H s->RelV v u->t v σ H Q->
  wpAny (model X.prog X.w) X.A (assign target X.env u) (fun _ s'=>∃σ' H',Inv X pins σ' H' s'/\Q σ' H') X.xe s
def QW (X:Cx) (ts:List Expr) (t:Mc):Prop:=
 ∀(pins:List (zc4×Obj)) (s:zde) (σ:St) (H:Hp) (vs:List V) (us:List zc5) (Q:St->Hp->Prop),Inv X pins σ H s->Vals vs us->t vs σ H Q->
  wpAny (model X.prog X.w) X.A (assignInOrder ((assignEach ts X.env).map (·.2)) us) (fun _ s'=>∃σ' H',Inv X pins σ' H' s'/\Q σ' H') X.xe s
abbrev OD:=V->V->V->Hp->(Hp->Prop)->Prop
def QX (X:Cx) (t:OD):Prop:=
 ∀(pins:List (zc4×Obj)) (s:zde) (σ:St) (H:Hp) (o i v:V) (ov iv u:zc5) (Q:Hp->Prop),Inv X pins σ H s->RelV o ov->RelV i iv->RelV v u->t o i v H Q->
  wpAny (model X.prog X.w) X.A (setItem ov iv u) (fun _ s'=>∃H',Inv X pins σ H' s'/\Q H') X.xe s
abbrev Xh:=V->V->Hp->VK->Prop
section
variable{X:Cx}{pos:Pos}
def mZ (i:Nat):TG:=fun v σ H Q=>Q (σ.set i (some v)) H
theorem cP{i:Nat}{x:Str}(hN:X.N.Nodup)(hi:X.N[i]?=some x)(hx:Loc X.env.scope x)(hf:X.fn x=true\/X.env.scope.names.lookup x=some .local:=by first |exact .inl rfl |exact .inr rfl |assumption):PG X (.Name x pos) (mZ i):=by
 intro pins s σ H v u Q I r h;exact wpAny_assign_Name (vX I hN hi hx r (fun s' I'=>⟨_,H,I',h⟩) hf)
def OE:Mc:=fun vs σ H Q=>vs=[]/\Q σ H
def IF (t:TG) (u:Mc):Mc:=fun vs σ H Q=>∃v r,vs=v::r/\t v σ H fun σ' H'=>u r σ' H' Q
theorem se:QW X [] OE:=by
 intro pins s σ H vs us Q I r h;obtain⟨e,h⟩:=h;subst e;cases r;exact assignInOrder_nil ⟨σ,H,I,h⟩
theorem d9{e:Expr}{es:List Expr}{t:TG}{u:Mc}(h1:PG X e t)(h2:QW X es u)
 (hs:(assignEach (e::es) X.env).map (·.2)=assign e X.env::(assignEach es X.env).map (·.2):=by rfl):QW X (e::es) (IF t u):=by
 intro pins s σ H vs us Q I r h;obtain⟨v,vr,e1,h⟩:=h;subst e1;cases r with
 |cons r rr=>
  rw[hs];refine assignInOrder_cons (d7 (h1 pins s σ H _ _ _ I r h) fun _ s1 zqz=>?_);obtain⟨σ1,H1,I1,q1⟩:=zqz;exact h2 pins s1 σ1 H1 _ _ Q I1 rr q1
def OF (K:zac) (n:Nat) (t:Mc):TG:=fun v σ H Q=>∃a xs,v=.ref a/\eQ K H a xs/\xs.length=n/\t xs σ H Q
theorem OG{es:List Expr}{k:Nat}{t:Mc}{n:Nat}(hc:X.calm=true)(h:QW X es t)
 (hn:(assignEach es X.env).length=n:=by rfl) (IG:(assignEach es X.env).findIdx? (·.1)=none:=by rfl):PG X (.Tuple es k pos) (OF X.K n t):=by
 intro pins s σ H v u Q I r hw;obtain⟨a,xs,e1,hq,hl,hw⟩:=hw;subst e1;cases r;obtain⟨bj,rv,ht,hz⟩:=I.tuple hq;refine assign_Tuple_tuple (I.ok.hd hc) ht (by simp[hn,<- hl,rv.length]) IG fun h' hx=>?_;have I1:Inv X pins σ H {s with heap:=h' }:=I.kept (t':=s.toks) fun b o e=>hx b o (zaF (Heap.lt_size e)) e;exact h pins _ σ H xs _ Q I1 (by simpa using rv) hw
def OH (to ti:TE) (t:OD):TG:=fun v σ H Q=>to σ H fun o H1=>ti σ H1 fun i H2=>t o i v H2 fun H3=>Q σ H3
theorem IH{o i:Expr}{to ti:TE}{t:OD}(ho:PE X o to)(hi:PE X i ti)(hs:QX X t)
 (ha:∀v,assign (.Subscript o i pos) X.env v=(do
  let ov <- holding [v] (eval o X.env)
  let iv <- holding [v,ov] (eval i X.env)
  standAt pos
  holding [v,ov,iv] (setItem ov iv v)
  release [v,ov,iv] []):=by intro _;rfl):PG X (.Subscript o i pos) (OH to ti t):=by
 intro pins s σ H v u Q I r h;rw[ha];refine zc7 (zc9 (d7 (ho pins s σ H _ I h) fun ov s1 zqz=>?_));obtain⟨x,H1,I1,r1,q1⟩:=zqz;refine zc7 (zc9 (d7 (hi pins s1 σ H1 _ I1 q1) fun iv s2 zqz=>?_));obtain⟨y,H2,I2,r2,q2⟩:=zqz;refine zc7 (wpAny_standAt (zc7 (zc9 (d7 (hs pins s2 σ H2 x y v ov iv u _ I2 r1 r2 r q2) fun _ s3 zqz=>?_))));obtain⟨H3,I3,q3⟩:=zqz;exact wpAny_release ⟨σ,H3,I3,q3⟩
def Md (te:TE) (g:TG):TS:=fun D σ H=>te σ H fun x H1=>g x σ H1 D.nx
theorem tP{tg e:Expr}{te:TE}{g:TG}(he:PE X e te)(hg:PG X tg g)(hs:swapsWithSole [tg] e pos.line X.env=pure false:=by rfl)(hw:swappedStores [tg] e X.env=pure none:=by rfl)
 (h1:(assignEach [tg] X.env).map (·.2)=[assign tg X.env]:=by rfl):PS X (.Assign [tg] e pos) (Md te g):=by
 intro pins s σ H D I h;refine wpAny_Assign_stores (d7 (he pins s σ H _ I h) fun v s1 zqz=>?_) hs hw;obtain⟨x,H1,I1,r1,q1⟩:=zqz;rw[h1];exact d7 (hg pins s1 σ H1 x v _ I1 r1 q1) fun _ s2 q=>q
theorem aY{i:Nat}{x:Str}{e:Expr}{te:TE}{pos':Pos}(hN:X.N.Nodup)(hi:X.N[i]?=some x)(hx:Loc X.env.scope x)(he:PE X e te)(hs:swapsWith e (some (.Name x pos')) pos.line X.env=pure false:=by rfl)(hf:X.fn x=true\/X.env.scope.names.lookup x=some .local:=by first |exact .inl rfl |exact .inr rfl |assumption) :
 PS X (.Assign [.Name x pos'] e pos) (Md te (mZ i)):=by
 intro pins s σ H D I h;refine wpAny_Assign_Name (d7 (he pins s σ H _ I h) fun v s1 zqz=>?_) hs;obtain⟨y,H1,I1,r1,q1⟩:=zqz;exact vX I1 hN hi hx r1 (fun s2 I2=>⟨_,H1,I2,q1⟩) hf
def QY (i:Nat) (te:TE) (ti:Xh):TS:=fun D σ H=>∃x,σ[i]?=some (some x)/\te σ H fun y H1=>ti x y H1 fun z H2=>D.nx (σ.set i (some z)) H2
end
section
variable{X:Cx}{pos:Pos}
def OI (c:TT) (tb:TS):TS:=fun D σ H=>∃W:Nat->St->Hp->Prop,(∃m,W m σ H)/\∀m σ H,W m σ H->
 c σ H fun b H1=>if b=true then ∃N:St->Hp->Prop,(∀σ' H',N σ' H'->∃m',m'<m/\W m' σ' H')/\tb {D with nx:=N,ct:=N,bk:=D.nx} σ H1 else D.nx σ H1
theorem BD{c:Expr}{body:List Stmt}{tc:TT}{tb:TS}(hp:PassesOwn (model X.prog X.w) X.A X.env X.xe)(hc:PT X c tc)(hb:DL X body tb):PS X (.While c body [] pos) (OI tc tb):=by
 intro pins s σ H D I h;obtain⟨W,⟨m0,w0⟩,turn⟩:=h;refine wpAny_While (codeAny_whileLoop (fun n s'=>∃σ' H',Inv X pins σ' H' s'/\W n σ' H') ?_ m0 ⟨σ,H,I,w0⟩)
 rintro n s1 ⟨σ1,H1,I1,w1⟩
 refine wpAny_passesOwn hp (d7 (hc pins s1 σ1 H1 _ I1 (turn n σ1 H1 w1)) fun b s2 zqz=>?_);obtain⟨H2,I2,q2⟩:=zqz;cases b with
 |true=>
  obtain⟨N,hN,q2⟩:=q2;rw[if_pos rfl];refine wpAny_passesOwn hp (d7 (hb pins s2 σ1 H2 _ I2 q2) fun f s3 q3=>?_);cases f with
  |next=>
   obtain⟨σ3,H3,I3,n3⟩:=q3;obtain⟨m',hm,w3⟩:=hN σ3 H3 n3;exact⟨m',hm,σ3,H3,I3,w3⟩
  |cont=>
   obtain⟨σ3,H3,I3,n3⟩:=q3;obtain⟨m',hm,w3⟩:=hN σ3 H3 n3;exact⟨m',hm,σ3,H3,I3,w3⟩
  |brk=>exact q3
  |ret v=>exact q3
 |false=>
  rw[if_neg zad];exact wpAny_execs_nil ⟨σ1,H2,I2,q2⟩
end
structure It where
 go:Nat->Hp->Prop
 Gm:Nat->Hp->V->Hp->Prop
 stop:Nat->Hp->Prop
def qU (X:Cx) (pins:List (zc4×Obj)) (H:Hp) (b:zc4):Prop:=
 H b=none/\b≠X.env.locals/\b ∉ X.fs/\(b∈X.ex\/X.s₀.heap.objs.size<=b)/\(∀x c,X.env.cells.lookup x=some c->c≠b)/\∀p∈X.pn++pins,p.1≠b
theorem Inv.II{X:Cx}{pins:List (zc4×Obj)}{σ:St}{H H':Hp}{s:zde}{b:zc4}(I:Inv X pins σ H s)(hb:s.heap.objs.size<=b)(hn:H' b=none):qU X pins H' b:=by
 refine⟨hn,zc1 (zaC I.lt hb),I.TR hb,.inr (zaA I.sz hb),fun x c e z=>?_,fun p hp z=>?_⟩
 ·obtain⟨v,q⟩:=I.cell x c e;exact absurd (zaC q.lt (by rw[z];exact hb)) (zbw _)
 ·exact absurd (zaC (Heap.lt_size (I.pin p hp).1) (by rw[z];exact hb)) (zbw _)
structure Turn(P:zdg)(w:zc6)(K:zac)(tg:Expr)(J:It)(fp:List zc4)(it:zc4)(tn:Nat->Heap->Prop):Prop where
 mem:it∈fp
 obj:∀i h,tn i h->∀b∈fp,∃o,h.get? b=some o/\∀v,o.data≠.cell v
 keep:∀i h h',tn i h->(∀b∈fp,∀o,h.get? b=some o->h'.get? b=some o)->tn i h'
 item:∀(X:Cx),X.prog=P->X.w=w->X.K=K->X.calm=true->∀(i:Nat) (pins:List (zc4×Obj)) (s:zde) (σ:St) (H:Hp) (E:zc5->zde->Prop),Inv X pins σ H s->(∀b∈fp,qU X pins H b)->tn i s.heap->J.go i H->
  wpAny (model P w) X.A (pyNext (.ref it)) (fun r s1=>∃u,r=some u/\
   wpAny (model P w) X.A (letOwnedTupleGo tg (.ref it) u) (fun _ s2=>∃x H',Inv X pins σ H' s2/\RelV x u/\J.Gm i H x H'/\tn (i+1) s2.heap/\∀b∈fp,H' b=none) E s1) E s
 done:∀(X:Cx),X.prog=P->X.w=w->X.K=K->X.calm=true->∀(i:Nat) (pins:List (zc4×Obj)) (s:zde) (σ:St) (H:Hp) (E:zc5->zde->Prop),Inv X pins σ H s->(∀b∈fp,qU X pins H b)->tn i s.heap->J.stop i H->
  wpAny (model P w) X.A (pyNext (.ref it)) (fun r s1=>r=none/\Inv X pins σ H s1) E s
 self:∀(A:zdf) (i:Nat) (s:zde) (Q:zc5->zde->Prop) (E:zc5->zde->Prop),tn i s.heap->Q (.ref it) s->wpAny (model P w) A (pyIter (.ref it)) Q E s
abbrev TI:=St->Hp->(It->Hp->Prop)->Prop
def VU (X:Cx) (pins:List (zc4×Obj)) (σ:St) (tg:Expr) (R:It->Hp->Prop) (T4:zc5) (s2:zde):Prop:=
 ∃(it:zc4) (fp:List zc4) (tn:Nat->Heap->Prop) (J:It) (H':Hp),T4=.ref it/\Inv X pins σ H' s2/\Turn X.prog X.w X.K tg J fp it tn/\tn 0 s2.heap/\(∀b∈fp,qU X pins H' b)/\R J H'
def PI (X:Cx) (tg iter:Expr) (wi:TI):Prop:=
 ∀(pins:List (zc4×Obj)) (s:zde) (σ:St) (H:Hp) (R:It->Hp->Prop),Inv X pins σ H s->wi σ H R->
  wpAny (model X.prog X.w) X.A (eval iter X.env) (fun v s1=>wpAny (model X.prog X.w) X.A (pyIter v) (VU X pins σ tg R) X.xe s1) X.xe s
theorem E9{M:Model}{A:zdf}{E:zc5->zde->Prop}{s:zde}{tg:Expr}{it:zc4}{u:zc5}{o:Obj}{n:String}{vs:Array zc5}{Q:Unit->zde->Prop}(ho:s.heap.get? it=some o)(hc:o.cls=.type n)(hd:o.data=.fields vs)
 (hn:["enumerate", "zip", "dict_itemiterator", "dict_reverseitemiterator", "odict_iterator", "itertools.zip_longest", "itertools.pairwise"].contains n=false) (hQ:Q () s):wpAny M A (letOwnedTupleGo tg (.ref it) u) Q E s:=by
 unfold letOwnedTupleGo;cases tg<;>first
  |exact zc8 hQ
  |(cases u<;>first
     |exact zc8 hQ
     |(refine zc7 (wpAny_load ho ?_)
       rw[hc,hd];show wpAny M A (if (["enumerate", "zip", "dict_itemiterator", "dict_reverseitemiterator", "odict_iterator", "itertools.zip_longest", "itertools.pairwise"].contains n&&vs[0]?==some (rawInt _))=true then _ else _) Q E s;rw[if_neg (by intro h;rw[hn,Bool.false_and] at h;cases h)];exact zc8 hQ))
def LS (K:zac) (a:zc4):It:=
 ⟨fun i H=>∃xs x,gW K H a xs/\xs[i]?=some x,fun i H x H'=>H'=H/\∀xs,gW K H a xs->xs[i]?=some x,fun i H=>∃xs,gW K H a xs/\xs.length<=i⟩
def QZ (lo:Int) (n:Nat):It:=⟨fun i _=>i<n,fun i H x H'=>H'=H/\x=.int (lo+i),fun i _=>n<=i⟩
theorem Gn{P:zdg}{w:zc6}{K:zac}{tg:Expr}(a it:zc4):Turn P w K tg (LS K a) [it] it (fun i h=>h.IsListIter it a i) where
 mem:=by simp
 obj:=fun i h st b hb=>by
  have e:b=it:=by simpa using hb
  subst e;obtain⟨o,e,c,d⟩:=st;exact⟨o,e,fun v z=>by rw[d] at z;cases z⟩
 keep:=fun i h h' st k=>st.at fun o e=>k it (by simp) o e
 item:=by
  intro X hP hw hK hc i pins s σ H E I hf st hg;subst hP hw hK;obtain⟨xs,x,hq,hx⟩:=hg;obtain⟨bj,rv,p,hz⟩:=I.list hq;obtain⟨u,hu,ru⟩:=rv.get hx;obtain⟨f0,f1,f2,f3,f4,f5⟩:=hf it (by simp);refine wpAny_pyNext_list_item st p.isList (x:=u) (by simpa using hu) fun h' BE sb=>?_;have I1:Inv X pins σ H {s with heap:=h' }:=I.turned (t':=s.toks) (fun b o hb e=>(sb.2 b hb).trans e) f0 f1 f3 f4 f5;obtain⟨o,e,c,d⟩:=id BE;exact⟨u,rfl,E9 (s:={s with heap:=h' }) e c d (by decide) ⟨x,H,I1,ru,⟨rfl,fun ys hy=>by rw[I.BC hy hq];exact hx⟩,BE,fun b hb=>(hf b hb).1⟩⟩
 done:=by
  intro X hP hw hK hc i pins s σ H E I hf st hg;subst hP hw hK;obtain⟨xs,hq,hx⟩:=hg;obtain⟨bj,rv,p,hz⟩:=I.list hq;obtain⟨f0,f1,f2,f3,f4,f5⟩:=hf it (by simp);have hl:=rv.length;exact wpAny_pyNext_list_end (I.ok.hd hc) st p.isList (by simp;lia) fun h' eb=>⟨rfl,I.turned (t':=s.toks) (fun b o hb e=>eb b o hb e) f0 f1 f3 f4 f5⟩
 self:=fun _ _ _ _ _ st h=>wpAny_pyIter_listiter st h
theorem DQ{P:zdg}{w:zc6}{K:zac}{tg:Expr}(it:zc4)(lo:Int)(n:Nat):Turn P w K tg (QZ lo n) [it] it (fun i h=>IsRangeIter h it (lo+(i:Nat)*1) ((n:Int)-(i:Nat)) 1) where
 mem:=by simp
 obj:=fun i h st b hb=>by
  have e:b=it:=by simpa using hb
  subst e;exact⟨_,st,fun v z=>by
   have z':Data.fields _=Data.cell v:=z;cases z'⟩
 keep:=fun i h h' st k=>k it (by simp) _ st
 item:=by
  intro X hP hw hK hc i pins s σ H E I hf st hg;subst hP hw hK;obtain⟨f0,f1,f2,f3,f4,f5⟩:=hf it (by simp);have W:=Walks.range (prog:=X.prog) (w:=X.w) (I.ok.hd hc) it lo 1 n;refine W.item i s _ _ hg st fun v h' tk hv BE kk=>?_;obtain⟨t,rfl⟩:=hv;have I1:Inv X pins σ H {s with heap:=h',toks:=tk}:=I.turned (fun b o hb e=>kk b o (by simpa using hb) e) f0 f1 f3 f4 f5;refine⟨_,rfl,E9 (s:={s with heap:=h',toks:=tk}) (n:="range_iterator") BE rfl rfl (by decide) ⟨.int (lo+i),H,I1,⟨t,?_⟩,⟨rfl,rfl⟩,BE,fun b hb=>(hf b hb).1⟩⟩;rw[Int.mul_one]
 done:=by
  intro X hP hw hK hc i pins s σ H E I hf st hg;subst hP hw hK;obtain⟨f0,f1,f2,f3,f4,f5⟩:=hf it (by simp);exact wpAny_pyNext_range_end (I.ok.hd hc) st (by have:n<=i:=hg;lia) fun h' eb=>⟨rfl,I.turned (t':=s.toks) (fun b o hb e=>eb b o hb e) f0 f1 f3 f4 f5⟩
 self:=fun _ _ _ _ _ st h=>wpAny_pyIter_rangeiter st h
section
variable{X:Cx}{tg:Expr}
def Fb (K:zac) (tl:TE):TI:=fun σ H R=>tl σ H fun x H1=>∃a,x=.ref a/\(∃xs,gW K H1 a xs)/\R (LS K a) H1
theorem vF{l:Expr}{tl:TE}(hl:PE X l tl):PI X tg l (Fb X.K tl):=by
 intro pins s σ H R I h;refine d7 (hl pins s σ H _ I h) fun v s1 zqz=>?_;obtain⟨x,H1,I1,r1,q1⟩:=zqz;obtain⟨a,e,⟨xs,hq⟩,q⟩:=q1;subst e;cases r1;obtain⟨bj,rv,p,hz⟩:=I1.list hq;refine wpAny_pyIter_list p.isList ?_;refine⟨s1.heap.objs.size,[s1.heap.objs.size],_,_,H1,rfl,I1.kept (t':=s1.toks) fun b o e=>Heap.get?_push_of_some _ e,Gn a _,⟨_,Heap.get?_push_size _ rfl,rfl,rfl⟩,fun b hb=>?_,q⟩;have e:b=s1.heap.objs.size:=by simpa using hb
 subst e;exact I1.II (zai _) (I1.dq.fresh (zai _))
theorem IJ{pins:List (zc4×Obj)}{σ:St}{H:Hp}{s:zde}{R:It->Hp->Prop}{E:zc5->zde->Prop}{lo hi:Int}{t u v:Tok}{tk:Nat}(I:Inv X pins σ H s)(h1 : -(2 ^ 62)<=lo)(h2:lo<2 ^ 62)(h3 : -(2 ^ 62)<=hi)(h4:hi<2 ^ 62)
 (q:R (QZ lo (hi-lo).toNat) H):wpAny (model X.prog X.w) X.A (pyIter (.ref s.heap.objs.size)) (VU X pins σ tg R) E {s with heap:=s.heap.push {cls:=.type "range",data:=.fields #[.int lo t,.int hi u,.int 1 v]},toks:=tk}:=by
 refine wpAny_pyIter_range (IsRange.new ..) (small_one h1 h2 h3 h4) ?_;have I1:Inv X pins σ H {s with heap:=s.heap.push {cls:=.type "range",data:=.fields #[.int lo t,.int hi u,.int 1 v]},toks:=tk}:=I.kept fun b o e=>Heap.get?_push_of_some _ e;refine⟨(s.heap.push {cls:=.type "range",data:=.fields #[.int lo t,.int hi u,.int 1 v]}).objs.size,[(s.heap.push {cls:=.type "range",data:=.fields #[.int lo t,.int hi u,.int 1 v]}).objs.size],_,_,H,rfl,
  I1.kept (t':=tk) fun b o e=>Heap.get?_push_of_some _ e,DQ _ lo (hi-lo).toNat,?_,fun b hb=>?_,q⟩
 ·have e1:lo+((0:Nat):Int)*1=lo:=by simp
  have e2:(((hi-lo).toNat:Nat):Int)-((0:Nat):Int)=Builtin.Range.rangeSize lo hi 1:=by rw[rangeSize_one];split<;>lia
  show IsRangeIter _ _ (lo+((0:Nat):Int)*1) ((((hi-lo).toNat:Nat):Int)-((0:Nat):Int)) 1;rw[e1,e2];exact Heap.get?_push_size _ rfl
 ·have e:b=(s.heap.push {cls:=.type "range",data:=.fields #[.int lo t,.int hi u,.int 1 v]}).objs.size:=by simpa using hb
  subst e;exact I1.II (zai _) (I1.dq.fresh (zai _))
def IK (ta:TA):TI:=fun σ H R=>ta σ H fun vs H1=>∃j:Int,vs=[.int j]/\-(2 ^ 62)<=j/\j<2 ^ 62/\R (QZ 0 j.toNat) H1
def NC (ta:TA):TI:=fun σ H R=>ta σ H fun vs H1=>∃i j:Int,vs=[.int i,.int j]/\(-(2 ^ 62)<=i/\i<2 ^ 62/\-(2 ^ 62)<=j/\j<2 ^ 62)/\R (QZ i (j-i).toNat) H1
theorem Gp{a:Expr}{ta:TA}{p pos:Pos}(hg:Gl X "range")(hm:X.mg "range"=none)(ha:PA X [a] ta)(hs:zda [a] X.env=[(false,eval a X.env)]:=by rfl):PI X tg (.Call (.Name "range" p) [a] [] pos) (IK ta):=by
 intro pins s σ H R I h;refine Call_ (vZ I hg hm boot_range (zcf (d7 (ha pos pins s σ H _ I h) fun us s1 zqz=>?_) hs rfl));obtain⟨vs,H1,I1,r1,q1⟩:=zqz;obtain⟨j,e,q1,q2,q⟩:=q1;subst e;cases r1 with
 |cons r rr=>
  cases rr;obtain⟨t,rfl⟩:=r;exact call_range_1 (IJ I1 (by lia) (by lia) q1 q2 (by simpa using q))
def Q0 (wi:TI) (g:TG) (tb:TS):TS:=fun D σ H=>wi σ H fun J H1=>∃W:Nat->Nat->St->Hp->Prop,(∃m,W 0 m σ H1)/\∀i m σ H,W i m σ H->
 (J.stop i H/\D.nx σ H)\/(J.go i H/\∃N:St->Hp->Prop,(∀σ' H',N σ' H'->∃m',m'<m/\W (i+1) m' σ' H')/\∀x H',J.Gm i H x H'->g x σ H' fun σ2 H2=>tb {D with nx:=N,ct:=N,bk:=D.nx} σ2 H2)
def v7 (fp:List zc4) (h:Heap):List (zc4×Obj):=fp.filterMap fun b=>(h.get? b).map fun o=>(b,o)
theorem nM{fp:List zc4}{h:Heap}{b:zc4}{o:Obj}(hb:b∈fp)(e:h.get? b=some o):(b,o)∈v7 fp h:=zbN.mpr ⟨b,hb,by rw[e];rfl⟩
theorem Gq{fp:List zc4}{h:Heap}{p:zc4×Obj}(hp:p∈v7 fp h):p.1∈fp/\h.get? p.1=some p.2:=by
 obtain⟨b,hb,e⟩:=zbN.mp hp;cases q:h.get? b with
 |none=>rw[q] at e;cases e
 |some o=>
  rw[q] at e;have e':(b,o)=p:=zav.inj e;subst e';exact⟨hb,q⟩
theorem Inv.pinned{pins:List (zc4×Obj)}{σ:St}{H:Hp}{s:zde}{fp:List zc4}(I:Inv X pins σ H s)(hf:∀b∈fp,qU X pins H b)(ho:∀b∈fp,∃o,s.heap.get? b=some o/\∀v,o.data≠.cell v):Inv X (pins++v7 fp s.heap) σ H s:=
 I.E7 fun p hp=>(zaz.mp hp).elim (fun z=>I.pin p (zaM _ z)) fun z=>by
  obtain⟨hb,e⟩:=Gq z;obtain⟨f0,f1,f2,_⟩:=hf p.1 hb;obtain⟨o,e',d⟩:=ho p.1 hb;rw[e] at e';cases e';exact⟨e,f0,f1,f2,d⟩
theorem Inv.m6{pins pl:List (zc4×Obj)}{σ:St}{H:Hp}{s:zde}(I:Inv X (pins++pl) σ H s):Inv X pins σ H s:=I.E7 fun p hp=>I.pin p (zaM _ (zba _ hp))
theorem An{iter:Expr}{body:List Stmt}{wi:TI}{g:TG}{tb:TS}{pos:Pos}(hp:PassesOwn (model X.prog X.w) X.A X.env X.xe)(hc:X.calm=true)(hi:PI X tg iter wi)(hg:PG X tg g)(hb:DL X body tb)
 (hs:∀x,foldedSetIterable iter X.env x=pure x:=by intro _;rfl):PS X (.For tg iter body [] pos) (Q0 wi g tb):=by
 intro pins s σ H D I h;refine wpAny_For (d7 (hi pins s σ H _ I h) fun v s1 h1=>d7 h1 fun T4 s2 h2=>?_) hs;obtain⟨it,fp,tn,J,H2,e,I2,T,S1,f2,W,⟨m0,w0⟩,turn⟩:=h2;subst e;have stat:∀ {H':Hp},(∀b∈fp,H' b=none)->∀b∈fp,qU X pins H' b:=fun hn b hb=>⟨hn b hb,(f2 b hb).2⟩
 refine codeAny_forLoop_any (fun n s'=>∃i σ' H',Inv X pins σ' H' s'/\tn i s'.heap/\(∀b∈fp,H' b=none)/\W i n σ' H') ?_ m0 ⟨0,σ,H2,I2,S1,fun b hb=>(f2 b hb).1,w0⟩
 rintro n s3 ⟨i,σ3,H3,I3,ND,Q1,w3⟩
 rcases turn i n σ3 H3 w3 with ⟨stop,qn⟩ |⟨go,N,hN,step⟩
 ·refine wpAny_passesOwn hp (d7 (T.done X rfl rfl rfl hc i pins s3 σ3 H3 X.xe I3 (stat Q1) ND stop) fun r s4 zqz=>?_);obtain⟨hr,I4⟩:=zqz;subst hr;exact wpAny_execs_nil ⟨σ3,H3,I4,qn⟩
 ·refine wpAny_passesOwn hp (d7 (T.item X rfl rfl rfl hc i pins s3 σ3 H3 X.xe I3 (stat Q1) ND go) fun r s4 zqz=>?_);obtain⟨u,hr,h4⟩:=zqz;subst hr;refine wpAny_passesOwn hp (d7 h4 fun _ s5 zqz=>?_);obtain⟨x,H5,I5,r5,y5,OJ,T5⟩:=zqz;have T6:=I5.pinned (stat T5) (T.obj _ _ OJ);refine wpAny_passesOwn hp (d7 (hg _ s5 σ3 H5 x u _ T6 r5 (step x H5 y5)) fun _ s6 zqz=>?_);obtain⟨σ6,H6,I6,q6⟩:=zqz;refine wpAny_passesOwn hp (d7 (hb _ s6 σ6 H6 _ I6 q6) fun f s7 q7=>?_);have again:∀ {σ7:St} {H7:Hp},Inv X (pins++v7 fp s5.heap) σ7 H7 s7->N σ7 H7->∃m,m<n/\∃i σ' H',Inv X pins σ' H' s7/\tn i s7.heap/\(∀b∈fp,H' b=none)/\W i m σ' H':=fun {σ7 H7} I7 n7=>by
   obtain⟨m',hm,w7⟩:=hN σ7 H7 n7;refine⟨m',hm,i+1,σ7,H7,I7.m6,T.keep _ _ _ OJ fun b hb o e=>(I7.pin (b,o) (zaM _ (zaM _ (nM hb e)))).1,fun b hb=>?_,w7⟩;obtain⟨o,e,d⟩:=T.obj _ _ OJ b hb;exact(I7.pin (b,o) (zaM _ (zaM _ (nM hb e)))).2.1
  cases f with
  |next=>obtain⟨σ7,H7,I7,n7⟩:=q7;exact again I7 n7
  |cont=>obtain⟨σ7,H7,I7,n7⟩:=q7;exact again I7 n7
  |brk=>obtain⟨σ7,H7,I7,q7⟩:=q7;exact⟨σ7,H7,I7.m6,q7⟩
  |ret v=>obtain⟨x7,σ7,H7,I7,r7,q7⟩:=q7;exact⟨x7,σ7,H7,I7.m6,r7,q7⟩
end
theorem BF{K:zac}{a:zc4}{xs:List V}{g:TG}{tb:TS}{D:Ends}{σ:St}{H:Hp}(Pv:Nat->St->Hp->Prop)(h0:Pv 0 σ H)(hl:∀i σ H,i<=xs.length->Pv i σ H->gW K H a xs)
 (hs:∀i x σ H,xs[i]?=some x->Pv i σ H->g x σ H fun σ2 H2=>tb {D with nx:=Pv (i+1),ct:=Pv (i+1),bk:=D.nx} σ2 H2) (hd:∀σ H,Pv xs.length σ H->D.nx σ H) :
 ∃W:Nat->Nat->St->Hp->Prop,(∃m,W 0 m σ H)/\∀i m σ H,W i m σ H->
  ((LS K a).stop i H/\D.nx σ H)\/((LS K a).go i H/\∃N:St->Hp->Prop,(∀σ' H',N σ' H'->∃m',m'<m/\W (i+1) m' σ' H')/\∀x H',(LS K a).Gm i H x H'->g x σ H' fun σ2 H2=>tb {D with nx:=N,ct:=N,bk:=D.nx} σ2 H2):=by
 refine⟨fun i m σ H=>m=xs.length-i/\i<=xs.length/\Pv i σ H,⟨xs.length,by simp,za0 _,h0⟩,?_⟩
 rintro i m σ H ⟨rfl,hi,p⟩
 have q:=hl i σ H hi p;by_cases oW:i<xs.length
 ·refine .inr ⟨⟨xs,xs[i],q,by simp[oW]⟩,Pv (i+1),fun σ' H' p'=>⟨xs.length-(i+1),by lia,rfl,oW,p'⟩,fun x H' y=>?_⟩;obtain⟨e,y⟩:=y;subst e;exact hs i x σ _ (y xs q) p
 ·have e:i=xs.length:=by lia
  subst e;exact .inl ⟨⟨xs,q,zai _⟩,hd σ H p⟩
abbrev R2:=V->V->Hp->VK->Prop
def qm (X:Cx) (f:zc5->zc5->Sem zc5) (r:R2):Prop:=
 ∀(pins:List (zc4×Obj)) (s:zde) (σ:St) (H:Hp) (x y:V) (v u:zc5) (Q:VK),Inv X pins σ H s->RelV x v->RelV y u->r x y H Q->
  wpAny (model X.prog X.w) X.A (f v u) (EP X pins σ Q) X.xe s
def T7 (X:Cx) (f:zc5->Sem zc5) (r:V->Hp->VK->Prop):Prop:=
 ∀(pins:List (zc4×Obj)) (s:zde) (σ:St) (H:Hp) (x:V) (v:zc5) (Q:VK),Inv X pins σ H s->RelV x v->r x H Q->
  wpAny (model X.prog X.w) X.A (f v) (EP X pins σ Q) X.xe s
def m8 (X:Cx) (f:zc5) (r:List V->Hp->VK->Prop):Prop:=
 ∀(pins:List (zc4×Obj)) (s:zde) (σ:St) (H:Hp) (xs:List V) (us:List zc5) (Q:VK),Inv X pins σ H s->Vals xs us->r xs H Q->
  wpAny (model X.prog X.w) X.A (call f us) (EP X pins σ Q) X.xe s
def T8 (X:Cx) (r:V->Hp->(Bool->Hp->Prop)->Prop):Prop:=
 ∀(pins:List (zc4×Obj)) (s:zde) (σ:St) (H:Hp) (x:V) (v:zc5) (Q:Bool->Hp->Prop),Inv X pins σ H s->RelV x v->r x H Q->
  wpAny (model X.prog X.w) X.A (truthy v) (TP X pins σ Q) X.xe s
def Q2 (r:R2) (ta tb:TE):TE:=fun σ H Q=>ta σ H fun x H1=>tb σ H1 fun y H2=>r x y H2 Q
def T9 (r:V->Hp->VK->Prop) (ta:TE):TE:=fun σ H Q=>ta σ H fun x H1=>r x H1 Q
def rI (C:Int->Int->Prop) (g:Int->Int->V):R2:=fun x y H Q=>∃i j,x=.int i/\y=.int j/\C i j/\Q (g i j) H
def Me (g:Int->Int->V):R2:=fun x y H Q=>∃i j,x=.int i/\y=.int j/\Q (g i j) H
def rU (g:Int->V):V->Hp->VK->Prop:=fun x H Q=>∃i,x=.int i/\Q (g i) H
section
variable{X:Cx}{a b c:Expr}{ta tb tc:TE}{pos:Pos}
theorem OK(ha:PE X a ta)(hb:PE X b tb){pins:List (zc4×Obj)}{s:zde}{σ:St}{H:Hp}{R:V->V->Hp->Prop}(I:Inv X pins σ H s)
 (h:ta σ H fun x H1=>tb σ H1 fun y H2=>R x y H2) {Q:zc5->zde->Prop} {f:zc5->zc5->Sem zc5}
 (hf:∀v u s2 x y H2,Inv X pins σ H2 s2->RelV x v->RelV y u->R x y H2->wpAny (model X.prog X.w) X.A (f v u) Q X.xe s2) :
 wpAny (model X.prog X.w) X.A (eval a X.env) (fun v s₁=>wpAny (model X.prog X.w) X.A (eval b X.env) (fun u s₂=>wpAny (model X.prog X.w) X.A (f v u) Q X.xe s₂) X.xe s₁) X.xe s:=by
 refine d7 (ha pins s σ H _ I h) fun v s1 zqz=>?_;obtain⟨x,H1,I1,r1,q1⟩:=zqz;refine d7 (hb pins s1 σ H1 _ I1 q1) fun u s2 zqz=>?_;obtain⟨y,H2,I2,r2,q2⟩:=zqz;exact hf v u s2 x y H2 I2 r1 r2 q2
theorem aU{op:Operator}{r:R2}(ho:qm X (binaryOp op) r)(ha:PE X a ta)(hb:PE X b tb):PE X (.BinOp a op b pos) (Q2 r ta tb):=by
 intro pins s σ H Q I h;exact wpAny_BinOp (OK ha hb I h fun v u s2 x y H2 I2 rx ry q=>ho pins s2 σ H2 x y v u Q I2 rx ry q)
theorem zC{op:UnaryOp}{r:V->Hp->VK->Prop}(ho:T7 X (unaryOp op) r)(ha:PE X a ta):PE X (.UnaryOp op a pos) (T9 r ta):=by
 intro pins s σ H Q I h;exact UnaryOp_ (d7 (ha pins s σ H _ I h) fun v s1 ⟨x,H1,I1,r1,q1⟩=>ho pins s1 σ H1 x v Q I1 r1 q1)
theorem Q3{f:zc5->zc5->Sem zc5}{C:Int->Int->Prop}{g:Int->Int->Int}
 (rule:∀(i j:Int) (t u:Tok) (s:zde) (Q:zc5->zde->Prop) (E:zc5->zde->Prop),C i j->Q (.int (g i j) s.toks) {s with toks:=s.toks+1}->wpAny (model X.prog X.w) X.A (f (.int i t) (.int j u)) Q E s) :
 qm X f (rI C fun i j=>.int (g i j)):=by
 intro pins s σ H x y v u Q I rx ry h;obtain⟨i,j,rfl,rfl,hc,q⟩:=h;obtain⟨t,rfl⟩:=rx;obtain⟨t',rfl⟩:=ry;exact rule i j t t' s _ _ hc ⟨.int (g i j),H,I.tok _,⟨_,rfl⟩,q⟩
theorem Q4{f:zc5->zc5->Sem zc5}{g:Int->Int->Int}
 (rule:∀(i j:Int) (t u:Tok) (s:zde) (Q:zc5->zde->Prop) (E:zc5->zde->Prop),Q (.int (g i j) s.toks) {s with toks:=s.toks+1}->wpAny (model X.prog X.w) X.A (f (.int i t) (.int j u)) Q E s) :
 qm X f (Me fun i j=>.int (g i j)):=by
 intro pins s σ H x y v u Q I rx ry h;obtain⟨i,j,rfl,rfl,q⟩:=h;obtain⟨t,rfl⟩:=rx;obtain⟨t',rfl⟩:=ry;exact rule i j t t' s _ _ ⟨.int (g i j),H,I.tok _,⟨_,rfl⟩,q⟩
theorem Mf{f:zc5->zc5->Sem zc5}{g:Int->Int->Bool}
 (rule:∀(i j:Int) (t u:Tok) (s:zde) (Q:zc5->zde->Prop) (E:zc5->zde->Prop),Q (.bool (g i j)) s->wpAny (model X.prog X.w) X.A (f (.int i t) (.int j u)) Q E s) :
 qm X f (Me fun i j=>.bl (g i j)):=by
 intro pins s σ H x y v u Q I rx ry h;obtain⟨i,j,rfl,rfl,q⟩:=h;obtain⟨t,rfl⟩:=rx;obtain⟨t',rfl⟩:=ry;exact rule i j t t' s _ _ ⟨.bl (g i j),H,I,rfl,q⟩
def Q5 (i j:Int):Prop:=0<j/\j<1073741824
def OL (i j:Int):Prop:=0<=j/\j<=1000000/\i.natAbs<2 ^ 64
def Gr (i j:Int):Prop:=(-(2 ^ 64)<i/\i<2 ^ 64)\/(-(2 ^ 64)<j/\j<2 ^ 64)
theorem Gr.ok{i j:Int}(h:Gr i j):IntMulOk i j:=by
 rcases h with ⟨h1,h2⟩ |⟨h1,h2⟩
 ·exact .of_left (intBits_le_64 h1 h2)
 ·exact .of_right (intBits_le_64 h1 h2)
theorem DR(k:Nat):(0:Int)<=2 ^ k:=by
 rw[two_pow_cast];exact Int.natCast_nonneg _
theorem v8:qm X (binaryOp .Add) (Me fun i j=>.int (i+j)):=Q4 fun _ _ _ _ _ _ _ q=>add_int q
theorem IL:qm X (binaryOp .Sub) (Me fun i j=>.int (i-j)):=Q4 fun _ _ _ _ _ _ _ q=>sub_int q
theorem v9:qm X (binaryOp .Mult) (rI Gr fun i j=>.int (i*j)):=Q3 fun _ _ _ _ _ _ _ hc q=>mul_int q hc.ok
theorem jl:qm X (binaryOp .FloorDiv) (rI Q5 fun i j=>.int (i/j)):=Q3 fun i j _ _ _ _ _ hc q=>by
 have h1:(0:Int)<j:=hc.1;have h2:j<1073741824:=hc.2;exact floordiv_int (by lia) (by rw[zch i (by lia)];exact q) (.inl (PyProof.noPylong_small (by lia)))
theorem eG:qm X (binaryOp .Mod) (rI (fun _ j=>0<j) fun i j=>.int (i%j)):=Q3 fun i j _ _ _ _ _ hc q=>by
 have h1:(0:Int)<j:=hc;exact mod_int' (by lia) (by rw[Int.fmod_eq_emod_of_nonneg i (by lia)];exact q)
theorem DT:qm X (binaryOp .Pow) (rI OL fun i j=>.int (i ^ j.toNat)):=Q3 fun _ _ _ _ _ _ _ hc q=>pow_int_small hc.1 hc.2.1 hc.2.2 q
theorem OM:qm X (binaryOp .RShift) (rI (fun _ j=>0<=j) fun i j=>.int (i/2 ^ j.toNat)):=Q3 fun i j _ _ _ _ _ hc q=>
 rshift_int hc (by rw[zch i (DR _)];exact q)
theorem Xi{f:zc5->Sem zc5}{g:Int->Int}
 (rule:∀(i:Int) (t:Tok) (s:zde) (Q:zc5->zde->Prop) (E:zc5->zde->Prop),Q (.int (g i) s.toks) {s with toks:=s.toks+1}->wpAny (model X.prog X.w) X.A (f (.int i t)) Q E s) :
 T7 X f (rU fun i=>.int (g i)):=by
 intro pins s σ H x v Q I rx h;obtain⟨i,rfl,q⟩:=h;obtain⟨t,rfl⟩:=rx;exact rule i t s _ _ ⟨.int (g i),H,I.tok _,⟨_,rfl⟩,q⟩
theorem tQ:T7 X (unaryOp .USub) (rU fun i=>.int (-i)):=Xi fun _ _ _ _ _ q=>neg_int q
end
def BG:V->V->Bool
 |.da,.da=>true |.da,.int _=>true |.int _,.da=>true |.da,.bl _=>true |.bl _,.da=>true |.da,.str _=>true |.str _,.da=>true
 |.int _,.int _=>true |.bl _,.bl _=>true |.str _,.str _=>true |.E6 _,.E6 _=>true
 |.int _,.str _=>true |.str _,.int _=>true |.bl _,.str _=>true |.str _,.bl _=>true
 |_,_=>false
def VV:R2:=fun x y H Q=>BG x y=true/\Q (.bl (decide (x=y))) H
def VW:R2:=fun x y H Q=>BG x y=true/\Q (.bl (!decide (x=y))) H
theorem Fc{i j:Int}:decide (V.int i=V.int j)=(i==j):=by
 rw[zbb];simp
theorem IM{i j:Bool}:decide (V.bl i=V.bl j)=(i==j):=by
 rw[zbb];simp
theorem Fd{i j:Str}:decide (V.str i=V.str j)=(i==j):=by
 rw[zbb];simp
theorem Fe{i j:Array UInt8}:decide (V.E6 i=V.E6 j)=(i.toList==j.toList):=by
 rw[zbb];cases i;cases j;simp
section
variable{X:Cx}{a b c:Expr}{ta tb tc:TE}{pos:Pos}
theorem b8{pins:List (zc4×Obj)}{σ:St}{H:Hp}{s:zde}{Q:VK}{k k':Bool}(I:Inv X pins σ H s)(q:Q (.bl k) H)(e:k=k'):EP X pins σ Q (.bool k') s:=by
 subst e;exact⟨.bl k,H,I,rfl,q⟩
theorem bY:qm X (compareOp .Eq) VV:=by
 intro pins s σ H x y v u Q I rx ry h;obtain⟨hs,q⟩:=h;cases x with
 |da=>
  cases rx;cases y with
  |da=>cases ry;exact PySem.EqNone.eq_none_none (b8 I q (by simp))
  |bl j=>cases ry;exact PySem.EqNone.eq_none_bool (b8 I q (by simp))
  |int j=>obtain⟨t',rfl⟩:=ry;exact PySem.EqNone.eq_none_int (b8 I q (by simp))
  |str j=>obtain⟨t',rfl⟩:=ry;exact PySem.EqNone.eq_none_str (b8 I q (by simp))
  |_=>exact absurd (show false=true from hs) zad
 |bl i=>
  cases rx;cases y with
  |da=>cases ry;exact PySem.EqNone.eq_bool_none (b8 I q (by simp))
  |bl j=>cases ry;exact eq_bool (b8 I q IM)
  |str j=>obtain⟨t',rfl⟩:=ry;exact PySem.EqMixed.eq_bool_str (b8 I q (by simp))
  |_=>exact absurd (show false=true from hs) zad
 |int i=>
  obtain⟨t,rfl⟩:=rx;cases y with
  |da=>cases ry;exact PySem.EqNone.eq_int_none (b8 I q (by simp))
  |int j=>obtain⟨t',rfl⟩:=ry;exact eq_int (b8 I q Fc)
  |str j=>obtain⟨t',rfl⟩:=ry;exact PySem.EqMixed.eq_int_str (b8 I q (by simp))
  |_=>exact absurd (show false=true from hs) zad
 |str i=>
  obtain⟨t,rfl⟩:=rx;cases y with
  |da=>cases ry;exact PySem.EqNone.eq_str_none (b8 I q (by simp))
  |bl j=>cases ry;exact PySem.EqMixed.eq_str_bool (b8 I q (by simp))
  |int j=>obtain⟨t',rfl⟩:=ry;exact PySem.EqMixed.eq_str_int (b8 I q (by simp))
  |str j=>obtain⟨t',rfl⟩:=ry;exact eq_str (b8 I q Fd)
  |_=>exact absurd (show false=true from hs) zad
 |E6 i=>
  obtain⟨t,rfl⟩:=rx;cases y with
  |E6 j=>obtain⟨t',rfl⟩:=ry;exact PySem.W.eq_bytes (b8 I q Fe)
  |_=>exact absurd (show false=true from hs) zad
 |_=>cases y<;>exact absurd (show false=true from hs) zad
theorem wa:qm X (compareOp .NotEq) VW:=by
 intro pins s σ H x y v u Q I rx ry h;obtain⟨hs,q⟩:=h;cases x with
 |da=>
  cases rx;cases y with
  |da=>cases ry;exact PySem.EqNone.ne_none_none (b8 I q (by simp))
  |bl j=>cases ry;exact PySem.EqNone.ne_none_bool (b8 I q (by simp))
  |int j=>obtain⟨t',rfl⟩:=ry;exact PySem.EqNone.ne_none_int (b8 I q (by simp))
  |str j=>obtain⟨t',rfl⟩:=ry;exact PySem.EqNone.ne_none_str (b8 I q (by simp))
  |_=>exact absurd (show false=true from hs) zad
 |bl i=>
  cases rx;cases y with
  |da=>cases ry;exact PySem.EqNone.ne_bool_none (b8 I q (by simp))
  |bl j=>cases ry;exact ne_bool (b8 I q (congrArg not IM))
  |str j=>obtain⟨t',rfl⟩:=ry;exact PySem.EqMixed.ne_bool_str (b8 I q (by simp))
  |_=>exact absurd (show false=true from hs) zad
 |int i=>
  obtain⟨t,rfl⟩:=rx;cases y with
  |da=>cases ry;exact PySem.EqNone.ne_int_none (b8 I q (by simp))
  |int j=>obtain⟨t',rfl⟩:=ry;exact ne_int (b8 I q (congrArg not Fc))
  |str j=>obtain⟨t',rfl⟩:=ry;exact PySem.EqMixed.ne_int_str (b8 I q (by simp))
  |_=>exact absurd (show false=true from hs) zad
 |str i=>
  obtain⟨t,rfl⟩:=rx;cases y with
  |da=>cases ry;exact PySem.EqNone.ne_str_none (b8 I q (by simp))
  |bl j=>cases ry;exact PySem.EqMixed.ne_str_bool (b8 I q (by simp))
  |int j=>obtain⟨t',rfl⟩:=ry;exact PySem.EqMixed.ne_str_int (b8 I q (by simp))
  |str j=>obtain⟨t',rfl⟩:=ry;exact ne_str (b8 I q (congrArg not Fd))
  |_=>exact absurd (show false=true from hs) zad
 |E6 i=>
  obtain⟨t,rfl⟩:=rx;cases y with
  |E6 j=>obtain⟨t',rfl⟩:=ry;exact PySem.W.ne_bytes (b8 I q (congrArg not Fe))
  |_=>exact absurd (show false=true from hs) zad
 |_=>cases y<;>exact absurd (show false=true from hs) zad
theorem zD:qm X (compareOp .Lt) (Me fun i j=>.bl (decide (i<j))):=Mf fun _ _ _ _ _ _ _ q=>lt_int q
theorem uE:qm X (compareOp .LtE) (Me fun i j=>.bl (decide (i<=j))):=Mf fun _ _ _ _ _ _ _ q=>le_int q
theorem BH:qm X (compareOp .Gt) (Me fun i j=>.bl (decide (j<i))):=Mf fun _ _ _ _ _ _ _ q=>gt_int q
theorem Q6:qm X (compareOp .GtE) (Me fun i j=>.bl (decide (j<=i))):=Mf fun _ _ _ _ _ _ _ q=>ge_int q
theorem tR:qm X (compareOp .In) (fun x y H Q=>∃i j,x=.str i/\y=.str j/\Q (.bl (!(Builtin.Str.occurrences j i 0 j.length 1).isEmpty)) H):=by
 intro pins s σ H x y v u Q I rx ry h;obtain⟨i,j,rfl,rfl,q⟩:=h;obtain⟨t,rfl⟩:=rx;obtain⟨t',rfl⟩:=ry;exact in_str (b8 I q rfl)
theorem ON:qm X (compareOp .Is) (fun x y H Q=>y=.da/\Q (.bl (decide (x=.da))) H):=by
 intro pins s σ H x y v u Q I rx ry h;obtain⟨rfl,q⟩:=h;cases ry;refine is_none_gen (b8 I q ?_);cases x<;>first
  |(cases rx;rfl)
  |(obtain⟨t,rfl⟩:=rx;rfl)
theorem aP(b:Expr){op:CmpOp}(h:op≠.In:=by decide)(h2:op≠.NotIn:=by decide):behindInMarks op b=false:=by
 have e1:(op==CmpOp.In)=false:=by cases op<;>first |rfl |exact absurd rfl h
 have e2:(op==CmpOp.NotIn)=false:=by cases op<;>first |rfl |exact absurd rfl h2
 cases b<;>simp[behindInMarks,e1,e2]
theorem fC{op:CmpOp}{r:R2}(ho:qm X (compareOp op) r)(ha:PE X a ta)(hb:PE X b tb)(hm:behindInMarks op b=false):PE X (.Compare a [op] [b] pos) (Q2 r ta tb):=by
 intro pins s σ H Q I h;exact wpAny_Compare1 (OK ha hb I h fun v u s2 x y H2 I2 rx ry q=>ho pins s2 σ H2 x y v u Q I2 rx ry q) hm
def Ff (t:TE):TT:=fun σ H Q=>t σ H fun x H'=>∃k,x=.bl k/\Q k H'
theorem aC{op:CmpOp}{r:R2}(ho:qm X (compareOp op) r)(ha:PE X a ta)(hb:PE X b tb)(hm:behindInMarks op b=false):PT X (.Compare a [op] [b] pos) (Ff (Q2 r ta tb)):=by
 intro pins s σ H Q I h;refine wpAny_isTrue_Compare1 (d7 (ha pins s σ H _ I h) fun v s1 zqz=>?_) hm;obtain⟨x,H1,I1,r1,q1⟩:=zqz;refine d7 (hb pins s1 σ H1 _ I1 q1) fun u s2 zqz=>?_;obtain⟨y,H2,I2,r2,q2⟩:=zqz;refine d7 (ho pins s2 σ H2 x y v u _ I2 r1 r2 q2) fun c s3 zqz=>?_;obtain⟨z,H3,I3,r3,k,e,q3⟩:=zqz;subst e;cases r3;exact wpAny_truthy_bool ⟨H3,I3,q3⟩
def DU (r r':R2) (ta tb tc:TE):TE:=fun σ H Q=>ta σ H fun x H1=>tb σ H1 fun y H2=>r x y H2 fun z H3=>∃k,z=.bl k/\
 (if k=true then tc σ H3 fun w' H4=>r' y w' H4 Q else Q (.bl false) H3)
theorem sf{op BI:CmpOp}{r r':R2}(ho:qm X (compareOp op) r)(qw:qm X (compareOp BI) r')(ha:PE X a ta)(hb:PE X b tb)(hc:PE X c tc)
 (hm:lastMarks [op,BI] [b,c]=false:=by with_unfolding_all rfl):PE X (.Compare a [op,BI] [b,c] pos) (DU r r' ta tb tc):=by
 intro pins s σ H Q I h;refine Compare_chain (d7 (ha pins s σ H _ I h) fun v s1 ⟨x,H1,I1,r1,q1⟩=>chain_link (d7 (hb pins s1 σ H1 _ I1 q1) fun u s2 zqz=>?_)) hm;obtain⟨y,H2,I2,r2,q2⟩:=zqz;refine d7 (ho pins s2 σ H2 x y v u _ I2 r1 r2 q2) fun d s3 zqz=>?_;obtain⟨z,H3,I3,r3,k,e,q3⟩:=zqz;subst e;cases r3;refine wpAny_truthy_bool ?_;cases k with
 |false=>exact ite_ff ⟨.bl false,H3,I3,rfl,q3⟩
 |true=>exact ite_tt (chain_last (d7 (hc pins s3 σ H3 _ I3 q3) fun w' s4 ⟨z',H4,I4,r4,q4⟩=>qw pins s4 σ H4 y z' u w' Q I4 r2 r4 q4))
def Q7 (K:zac) (x:V) (H:Hp) (k:Bool):Prop:=
 match x with
 |.da=>k=false
 |.bl b=>k=b
 |.int i=>k=(i != 0)
 |.str y=>y.length<=zdc/\k=((y.length:Int) != 0)
 |.E6 y=>y.size<=zdc/\k=((y.size:Int) != 0)
 |.ref p=>(∃xs,gW K H p xs/\k = !xs.isEmpty)\/(∃xs,eQ K H p xs/\k = !xs.isEmpty)\/∃bg,H p=some (.dK bg)/\k = !bg.isEmpty
 |_=>False
theorem DV{κ:Type}{bg:List (κ×V)}{vs:List (κ×zc5)}(r:KV bg vs):(!vs.isEmpty) = !bg.isEmpty:=by
 cases r<;>rfl
theorem wb{xs:List V}{bj:List zc5}(r:Vals xs bj):(!bj.toArray.isEmpty) = !xs.isEmpty:=by
 cases r<;>simp
theorem qV:(zdc:Nat)<2 ^ 63:=by rw[sizeLine_eq];decide
theorem OO:T8 X (fun x H Q=>∃k,Q7 X.K x H k/\Q k H):=by
 intro pins s σ H x v Q I rx h;obtain⟨k,e,q⟩:=h;have hl:=qV;have hs:zdc=16777216:=sizeLine_eq;cases x with
 |da=>
  cases rx;have e':k=false:=e;subst e';exact truthy_none ⟨H,I,q⟩
 |bl b=>
  cases rx;have e':k=b:=e;subst e';exact wpAny_truthy_bool ⟨H,I,q⟩
 |int i=>
  obtain⟨t,rfl⟩:=rx;have e':k=(i != 0):=e;subst e';exact PySem.P.truthy_int ⟨H,I,q⟩
 |str y=>
  obtain⟨t,rfl⟩:=rx;obtain⟨hy,e'⟩:y.length<=zdc/\k=((y.length:Int) != 0):=e;subst e';exact PySem.P.truthy_str (by lia) ⟨H,I.tok _,q⟩
 |E6 y=>
  obtain⟨t,rfl⟩:=rx;obtain⟨hy,e'⟩:y.size<=zdc/\k=((y.size:Int) != 0):=e;subst e';exact PySem.W.truthy_bytes (by lia) ⟨H,I.tok _,q⟩
 |ref p=>
  cases rx;have e':(∃xs,gW X.K H p xs/\k = !xs.isEmpty)\/(∃xs,eQ X.K H p xs/\k = !xs.isEmpty)\/∃bg,H p=some (.dK bg)/\k = !bg.isEmpty:=e;rcases e' with ⟨xs,hx,e'⟩ |⟨xs,hx,e'⟩ |⟨bg,hx,e'⟩
  ·subst e';obtain⟨bj,r,pl,hz⟩:=I.list hx;have hlen:=r.length;exact wpAny_truthy_list pl.isList (by simp only[zao];lia) ⟨H,I.tok _,by rw[wb r];exact q⟩
  ·subst e';obtain⟨bj,r,pl,hz⟩:=I.tuple hx;have hlen:=r.length;exact truthy_tuple pl (by simp only[zao];lia) ⟨H,I.tok _,by rw[wb r];exact q⟩
  ·subst e';obtain⟨hz,hS,vs,r,m⟩:bg.length<=zdc/\(p==sysModules)=false/\∃vs,KV bg vs/\s.heap.DictOf (eI X.prog X.w) p vs:=I.dq p _ hx;have hlen:bg.length=vs.length:=Paired.length r;exact wpAny_truthy_dict hS m (by lia) ⟨H,I.tok _,by rw[DV r];exact q⟩
 |_=>exact(show False from e).elim
theorem o7(ha:PE X a ta)(he:∀whole,isTrue a X.env whole=(do let v <- whole;standAt a.pos;holding [v] (truthy v))) :
 PT X a (fun σ H Q=>ta σ H fun x H'=>∃k,Q7 X.K x H' k/\Q k H'):=by
 intro pins s σ H Q I h;exact isTrue_plain (d7 (ha pins s σ H _ I h) fun v s1 ⟨x,H1,I1,r1,q1⟩=>OO pins s1 σ H1 x v Q I1 r1 q1) (he _)
theorem aS:qm X (binaryOp .Add) (fun x y H Q=>∃i j,x=.str i/\y=.str j/\i.length+j.length<=zdc/\Q (.str (i++j)) H):=by
 intro pins s σ H x y v u Q I rx ry h;obtain⟨i,j,rfl,rfl,hz,q⟩:=h;obtain⟨t,rfl⟩:=rx;obtain⟨t',rfl⟩:=ry;exact add_str (fun t' tk=>⟨.str (i++j),H,I.tok _,⟨_,rfl⟩,q⟩) hz
theorem vals1{x:V}{us:List zc5}(r:Vals [x] us):∃u,us=[u]/\RelV x u:=by
 cases r with
 |cons r1 r2=>cases r2;exact⟨_,rfl,r1⟩
theorem vals2{x y:V}{us:List zc5}(r:Vals [x,y] us):∃u w',us=[u,w']/\RelV x u/\RelV y w':=by
 cases r with
 |cons r1 r2=>
  cases r2 with
  |cons r3 r4=>cases r4;exact⟨_,_,rfl,r1,r3⟩
theorem zE(hc:X.calm=true):m8 X (.builtin "max") (fun xs H Q=>∃i j,xs=[.int i,.int j]/\Q (.int (if j>i then j else i)) H):=by
 intro pins s σ H xs us Q I r h;obtain⟨i,j,rfl,q⟩:=h;obtain⟨u,w',rfl,⟨t,rfl⟩,⟨t',rfl⟩⟩:=vals2 r;refine max_two_ints (I.ok.hd hc) fun h' tk k=>⟨_,H,I.kept k,?_,q⟩
 by_cases hj:j>i
 ·rw[if_pos hj,if_pos hj];exact⟨_,rfl⟩
 ·rw[if_neg hj,if_neg hj];exact⟨_,rfl⟩
theorem Ao:m8 X (.type "str") (fun xs H Q=>∃i,xs=[.int i]/\i.natAbs.log2<1920/\Q (.str (toString i)) H):=by
 intro pins s σ H xs us Q I r h;obtain⟨i,rfl,hz,q⟩:=h;obtain⟨u,rfl,t,rfl⟩:=vals1 r;exact PySem.P.str_of_int hz ⟨.str _,H,I.tok _,⟨_,rfl⟩,q⟩
end
structure DW(h:Heap)(x dx C:zc4)(mA:Str->Option zc5):Prop where
 obj:h.get? x=some (zbn C dx)
 ns:h.Ns1 dx mA
 ne:dx≠x
theorem Gs{h:Heap}{dx:zc4}{mA:Str->Option zc5}(n:h.Ns1 dx mA):∃od,h.get? dx=some od/\∀name,zcc name od=some (mA name):=by
 obtain⟨o,es,ep,ho,hd,hk,_,hm⟩:=n;refine⟨o,ho,fun name=>?_⟩;have e:=hm name;unfold nsFind findBy at e;rw[<- Array.find?_toList] at e;unfold zcc;rw[hd];dsimp only;split
 ·rename_i y q;rw[q] at e;exact congrArg some e
 ·rename_i q;rw[q] at e;have a:es.toList.any (·.refKey)=false:=by
   rw[List.any_eq_false];intro y hy;obtain⟨z,t,Ub⟩:=hk y (Array.mem_toList_iff.mp hy);simp[DictEntry.refKey,Ub]
  have a':¬es.toList.any (·.refKey)=true:=by rw[a];exact zad
  rw[if_neg a'];exact congrArg some e
theorem DW.look{h:Heap}{x dx C:zc4}{mA:Str->Option zc5}(I:DW h x dx C mA):∃od,PySem.W.InstAt h x (zbn C dx) C (some od)/\∀name,zcc name od=some (mA name):=
 let ⟨od,ho,hl⟩:=Gs I.ns
 ⟨od,⟨I.obj,rfl,rfl,ho⟩,hl⟩
section
variable{prog:zdg}{w:zc6}{A:zdf}{E:zc5->zde->Prop}{s:zde}{K:zac}{x dx C f:zc4}{mA:Str->Option zc5}{name:Str}{v:zc5}
theorem get_map{expr:Bool}{Q:zc5->zde->Prop}(X:K.In s.heap)(I:DW s.heap x dx C mA)(hg:zbC K C name=true)(hh:zaL K C=true)
 (ha:zaj K (.ref C) name=some none) (hv:mA name=some v) (S2:PySem.W.handedIn v=true) (h:Q v {s with toks:=s.toks+1}) :
 wpAny (model prog w) A (getAttr (.ref x) name expr) Q E s:=by
 obtain⟨od,J,hl⟩:=I.look;exact PySem.W.get_value X J (zca hg).1 (PySem.W.findObj_own hh ha rfl (by rw[hl,hv])) S2 h
theorem IP{pl:Sem Bool}{Q:zc5×List zc5->zde->Prop}(X:K.In s.heap)(I:DW s.heap x dx C mA)(hg:zbC K C name=true)
 (hf:zaj K (.ref C) name=some (some (.ref f))) (ht:zbo K (.ref f)=true) (hv:mA name=none) (h:Q (.ref f,[.ref x]) s) :
 wpAny (model prog w) A (getMethod (.ref x) name pl) Q E s:=by
 obtain⟨od,J,hl⟩:=I.look;exact PySem.W.method_fn X J (zca hg).1 (zca hg).2 hf (beq_iff_eq.mp ht) (by show (zcc name od).map (·.isSome)=some false;rw[hl,hv];rfl) h
theorem Mg{ns:List Str}{Q:Unit->zde->Prop}(X:K.In s.heap)(I:DW s.heap x dx C mA)
 (hs:zaj K (.ref C) "__setattr__"=some (some (.builtin "object.__setattr__"))) (hp:zbT K C=true) (ht:zcG K C name=some none) (hh:zaL K C=true)
 (hw:PySem.Within mA ns) (IQ:ns.length<=zdc)
 (h:∀h',DW h' x dx C (fun y=>if y=name then some v else mA y)->Heap.SameBut dx s.heap h'->Q () {s with heap:=h',toks:=s.toks+2}) :
 wpAny (model prog w) A (setAttr (.ref x) name v) Q E s:=by
 obtain⟨od,J,hl⟩:=I.look;refine PySem.W.set_plain X J hs (PySem.W.osa_open (s:={s with toks:=s.toks+1}) (r:=none) X J hp ht fun b=>?_);obtain⟨cd,hc,TU⟩:=zcz hh;have hx:s.heap.get? x=some ⟨.ref C,some dx,.plain, #[]⟩:=I.obj;refine zc7 (zc8 (zc7 (zc7 (wpAny_loadPart hx (zc7 (PySem.W.Looks.here (s:={s with toks:=s.toks+1}) (PySem.W.looks_clsIn X hc) ?_))))));rw[TU];refine zc8 (a:=some dx) (zc7 (zc8 (zc7 ?_)));refine wpAny_nsSet1 (s:={s with toks:=s.toks+1}) I.ns fun h' S3 VX=>?_;obtain⟨oD,ZM,ZN,Xj,Xk,Xl⟩:=S3.count (PySem.Within.cons name v hw);refine zc7 (wpAny_lookBehind Xj (by rw[Xk];exact pastItsLine_dict (zaA Xl (by rw[zag];lia))) ?_);exact zc8 (h _ ⟨(VX.2 _ (Ne.symm I.ne)).trans I.obj,S3,I.ne⟩ VX)
theorem IS{R:Result->zde->Prop}{vs:List zc5}{kw:List (Str×zc5)}(X:K.In s.heap)(hm:zb6 K C=true)
 (hi:zaj K (.ref C) "__init__"=some (some (.ref f))) (hf:PySem.W.typeIn K (.ref f)=some (.type "function"))
 (h:codeAny (model prog w) (A.under (.builtin "type.__call__" ⟨.ref C::vs,kw⟩)) (.call (.ref f) ⟨.ref (s.heap.objs.size+1)::vs,kw⟩) (PySem.W.InitBack (s.heap.objs.size+1) R)
  {s with heap:=(s.heap.push za5).push (zbn C s.heap.objs.size)}) :
 codeAny (model prog w) A (.call (.ref C) ⟨vs,kw⟩) R s:=by
 obtain⟨hh,g,d,t,os⟩:=s;exact PySem.W.make_core (PySem.W.makes_of X hm) (zbJ X hi) (fun self=>PySem.W.bind_fn X self hf) (.inl rfl) h
end
def nc (f:Str) (v:V):List (Str×V)->List (Str×V)
 |[]=>[(f,v)]
 |(g,x)::r=>if g=f then (g,v)::r else (g,x)::nc f v r
theorem uF(f g:Str)(v:V):∀fs:List (Str×V),(nc f v fs).lookup g=if g=f then some v else fs.lookup g
 |[]=>by
  show zbA g [(f,v)]=_;by_cases h:g=f
  ·have hb:(g==f)=true:=beq_iff_eq.mpr h;simp only[zbA,hb,if_pos h]
  ·have hb:(g==f)=false:=beq_eq_false_iff_ne.mpr h;simp only[zbA,hb,if_neg h]
 |(k,x)::r=>by
  have ih:=uF f g v r;rw[show nc f v ((k,x)::r)=(if k=f then (k,v)::r else (k,x)::nc f v r) from rfl];by_cases hk:k=f
  ·rw[if_pos hk];by_cases h:g=k
   ·have hb:(g==k)=true:=beq_iff_eq.mpr h;simp only[zbA,hb,if_pos (h.trans hk)]
   ·have hb:(g==k)=false:=beq_eq_false_iff_ne.mpr h;simp only[zbA,hb,if_neg (fun e:g=f=>h (e.trans hk.symm))]
  ·rw[if_neg hk];by_cases h:g=k
   ·have hb:(g==k)=true:=beq_iff_eq.mpr h;simp only[zbA,hb,if_neg (fun e:g=f=>hk (h.symm.trans e))]
   ·have hb:(g==k)=false:=beq_eq_false_iff_ne.mpr h;simp only[zbA,hb];exact ih
theorem tS(f:Str)(v:V):∀fs:List (Str×V),f∈(nc f v fs).map (·.1)/\∀g,g∈fs.map (·.1)->g∈(nc f v fs).map (·.1)
 |[]=>⟨by simp[nc],fun g h=>by simp at h⟩
 |(k,x)::r=>by
  obtain⟨i1,i2⟩:=tS f v r;rw[show nc f v ((k,x)::r)=(if k=f then (k,v)::r else (k,x)::nc f v r) from rfl];by_cases hk:k=f
  ·rw[if_pos hk];subst hk;exact⟨by simp,fun g h=>by simpa using h⟩
  ·rw[if_neg hk];refine⟨?_,fun g h=>?_⟩
   ·rw[zay];exact zaq _ i1
   ·rw[zay] at h ⊢;rcases zak.mp h with e |e
    ·exact zak.mpr (.inl e)
    ·exact zaq _ (i2 g e)
theorem uG(f:Str)(v:V):∀fs:List (Str×V),(nc f v fs).length<=fs.length+1
 |[]=>by simp[nc]
 |(k,x)::r=>by
  have ih:=uG f v r;rw[show nc f v ((k,x)::r)=(if k=f then (k,v)::r else (k,x)::nc f v r) from rfl];by_cases hk:k=f
  ·rw[if_pos hk,zag,zag];lia
  ·rw[if_neg hk,zag,zag];lia
theorem oX.some_of{v:V}{o:Option zc5}(r:oX (some v) o):∃u,o=some u/\RelV v u:=by
 cases o with
 |none=>exact(show False from r).elim
 |some u=>exact⟨u,rfl,r⟩
theorem oX.none_of{o:Option zc5}(r:oX none o):o=none:=by
 cases o with
 |none=>rfl
 |some u=>exact(show False from r).elim
theorem Gu{v:V}{u:zc5}(r:RelV v u):PySem.W.handedIn u=true:=by
 cases v with
 |da=>cases (show u=Value.none from r);rfl
 |bl b=>cases (show u=Value.bool b from r);rfl
 |int i=>obtain⟨t,e⟩:=(show ∃t,u=Value.int i t from r);cases e;rfl
 |str x=>obtain⟨t,e⟩:=(show ∃t,u=Value.str x t from r);cases e;rfl
 |E6 b=>obtain⟨t,e⟩:=(show ∃t,u=Value.bytes b t from r);cases e;rfl
 |SS b=>obtain⟨t,e⟩:=(show ∃t,u=Value.float b t from r);cases e;rfl
 |ref a=>cases (show u=Value.ref a from r);rfl
 |ty n=>cases (show u=Value.type n from r);rfl
section
variable{P:zdg}{w:zc6}{H H':Hp}{h h':Heap}{a C dx:zc4}{fs Ny:List (Str×V)}
theorem Ap(dq:rW P w H h)(e:H a=some (.ins C dx fs)):∃mA,DW h a dx C mA/\(∀f,oX (fs.lookup f) (mA f))/\PySem.Within mA (fs.map (·.1))/\fs.length<=1000/\H dx=some (.own a):=by
 obtain⟨d,z,ne,ob,mA,n,r,q⟩:=(show dB P w H h a (.ins C dx fs) from dq a _ e)
 exact⟨mA,⟨ob,n,ne⟩,r,q,z,d⟩
end
structure IT(K:zac)(C:zc4):Prop where
 pg:zbC K C Str.empty=true
 hd:zaL K C=true
 po:zbT K C=true
 sa:zaj K (.ref C) "__setattr__"=some (some (.builtin "object.__setattr__"))
theorem IT.get{K:zac}{C:zc4}(c:IT K C)(f:Str):zbC K C f=true:=c.pg
def jN (K:zac) (C:zc4) (f:Str):Prop:=zaj K (.ref C) f=some none
theorem jN.Q8{K:zac}{C:zc4}{f:Str}(n:jN K C f):zcG K C f=some none:=by
 unfold zcG;rw[show zaj K (.ref C) f=some none from n];rfl
structure Meth(K:zac)(C:zc4)(m:Str)(f:zc4):Prop where
 at_:zaj K (.ref C) m=some (some (.ref f))
 fn:zbo K (.ref f)=true
 kp:zaQ K (.ref f)=true
section
variable{X:Cx}{pins:List (zc4×Obj)}{σ:St}{H:Hp}{s:zde}{a C dx:zc4}{fs:List (Str×V)}{f:Str}{v:V}{A:zdf}{E:zc5->zde->Prop}
theorem wc{b:Bool}{Q:zc5->zde->Prop}(I:Inv X pins σ H s)(e:H a=some (.ins C dx fs))(c:IT X.K C)(n:jN X.K C f)(l:fs.lookup f=some v)
 (h:∀u s',Inv X pins σ H s'->RelV v u->Q u s'):wpAny (model X.prog X.w) A (getAttr (.ref a) f b) Q E s:=by
 obtain⟨mA,O,r,_,_,_⟩:=Ap I.dq e;obtain⟨u,hu,ru⟩:=oX.some_of (v:=v) (o:=mA f) (by rw[<- l];exact r f);exact get_map I.yz O (c.get f) c.hd n hu (Gu ru) (h u _ (I.tok _) ru)
theorem DX{m:Str}{g:zc4}{pl:Sem Bool}{Q:zc5×List zc5->zde->Prop}(I:Inv X pins σ H s)(e:H a=some (.ins C dx fs))(c:IT X.K C)(k:Meth X.K C m g)(l:fs.lookup m=none)
 (h:Q (.ref g,[.ref a]) s):wpAny (model X.prog X.w) A (getMethod (.ref a) m pl) Q E s:=by
 obtain⟨mA,O,r,_,_,_⟩:=Ap I.dq e;have hn:mA m=none:=oX.none_of (by rw[<- l];exact r m);exact IP I.yz O (c.get m) k.at_ k.fn hn h
theorem we{y:V}{u:zc5}{Q:Unit->zde->Prop}(I:Inv X pins σ H s)(e:H a=some (.ins C dx fs))(c:IT X.K C)(n:jN X.K C f)(hl:fs.length<1000)(ry:RelV y u)
 (h:∀s',Inv X pins σ (upd H a (.ins C dx (nc f y fs))) s'->Q () s'):wpAny (model X.prog X.w) A (setAttr (.ref a) f u) Q E s:=by
 obtain⟨mA,O,r,wi,_,ho⟩:=Ap I.dq e;have hz:(fs.map (·.1)).length<=zdc:=by rw[zae,sizeLine_eq];lia
 refine Mg I.yz O c.sa c.po n.Q8 c.hd wi hz fun h' O' sb=>h _ ?_;have hd:∃o,h'.get? dx=some o:=let ⟨o,_,_,e',_⟩:=O'.ns;⟨o,e'⟩;refine I.write (x:=a) (e:=dx) (by rw[e];exact True.intro) (.inr ho) (fun b q hb z=>(sb.2 b hb).trans z) hd ?_;refine⟨by rw[ao O.ne];exact ho,?_,O.ne,O'.obj,_,O'.ns,fun g=>?_,fun g hg=>?_⟩
 ·have:=uG f y fs;lia
 ·show oX ((nc f y fs).lookup g) (if g=f then some u else mA g);rw[uF];by_cases q:g=f
  ·rw[if_pos q,if_pos q];exact ry
  ·rw[if_neg q,if_neg q];exact r g
 ·by_cases q:g=f
  ·rw[q];exact(tS f y fs).1
  ·refine(tS f y fs).2 g (wi g fun z=>hg ?_);show (if g=f then some u else mA g)=none;rw[if_neg q];exact z
theorem Inv.made(I:Inv X pins σ H s):Inv X pins σ (upd (upd H s.heap.objs.size (.own (s.heap.objs.size+1))) (s.heap.objs.size+1) (.ins C s.heap.objs.size []))
 {s with heap:=(s.heap.push za5).push (zbn C s.heap.objs.size)}:=by
 have e1:(s.heap.push za5).get? s.heap.objs.size=some za5:=Heap.get?_push_size s.heap rfl;have e2:((s.heap.push za5).push (zbn C s.heap.objs.size)).get? (s.heap.objs.size+1)=some (zbn C s.heap.objs.size):=by
  have:=Heap.get?_push_size (s.heap.push za5) (o:=zbn C s.heap.objs.size) rfl
  rwa [Heap.size_push] at this
 have e3:(s.heap.push za5).Ns s.heap.objs.size (fun _=>none):=⟨za5, #[],_,e1,rfl,(fun e he=>absurd he (by simp)),fun _=>rfl⟩
 have I1:=I.laid (a:=s.heap.objs.size) (o:=.own (s.heap.objs.size+1)) (h':=s.heap.push za5) (t':=s.toks) (fun b u q=>Heap.get?_push_of_some _ q) (zai _) ⟨_,e1⟩;refine I1.laid (a:=s.heap.objs.size+1) (o:=.ins C s.heap.objs.size []) (t':=s.toks) (fun b u q=>Heap.get?_push_of_some _ q) (Nat.le_of_eq (Heap.size_push _ _)) ?_;have ne:s.heap.objs.size≠s.heap.objs.size+1:=zaF (zbW _);refine⟨by rw[ao ne,ae],za0 _,ne,e2,fun _=>none,(Heap.Ns1.of_empty e3).at fun o q=>Heap.get?_push_of_some _ q,fun _=>True.intro,fun y hy=>absurd rfl hy⟩
theorem Mh{prog:zdg}{w:zc6}{env:Env}{e:Expr}{f:Str}{pos:Pos}{s:zde}{Q:zc5->zde->Prop}(hb:attributeBase e f env (eval e env)=eval e env)
 (h:wpAny (model prog w) A (eval e env) (fun o s₁=>wpAny (model prog w) A (getAttr o f true) Q E s₁) E s):wpAny (model prog w) A (eval (.Attribute e f pos) env) Q E s:=
 Attribute_any_ h (by rw[arm_eval_Attribute,hb])
end
def OP (K:zac) (ta:TE) (f:Str):TE:=fun σ H Q=>ta σ H fun x H1=>∃a C dx fs v,x=.ref a/\H1 a=some (.ins C dx fs)/\IT K C/\jN K C f/\fs.lookup f=some v/\Q v H1
def OQ (K:zac) (ta tv:TE) (f:Str):TS:=fun D σ H=>tv σ H fun y H1=>ta σ H1 fun x H2=>∃a C dx fs,x=.ref a/\H2 a=some (.ins C dx fs)/\IT K C/\jN K C f/\fs.length<1000/\
 D.nx σ (upd H2 a (.ins C dx (nc f y fs)))
def Q9 (X:Cx) (op:Operator) (rd:V->V->Hp->VK->Prop):Prop:=
 ∀(pins:List (zc4×Obj)) (s:zde) (σ:St) (H:Hp) (x y:V) (u v:zc5) (Q:VK),Inv X pins σ H s->RelV x u->RelV y v->rd x y H Q->wpAny (model X.prog X.w) X.A (inplaceOp op u v) (EP X pins σ Q) X.xe s
def Aq (K:zac) (ta tv:TE) (rd:V->V->Hp->VK->Prop) (f:Str):TS:=fun D σ H=>ta σ H fun x H1=>∃a C dx fs v,x=.ref a/\H1 a=some (.ins C dx fs)/\IT K C/\jN K C f/\fs.lookup f=some v/\
 tv σ H1 fun y H2=>rd v y H2 fun z H3=>∃OR Ny,H3 a=some (.ins C OR Ny)/\Ny.length<1000/\D.nx σ (upd H3 a (.ins C OR (nc f z Ny)))
section
variable{X:Cx}{o e value:Expr}{f:Str}{pos pos' OS:Pos}{ta tv:TE}
theorem cY(he:PE X e ta)(hb:attributeBase e f X.env (eval e X.env)=eval e X.env):PE X (.Attribute e f pos) (OP X.K ta f):=by
 intro pins s σ H Q I h;refine Mh hb (d7 (he pins s σ H _ I h) fun u s1 zqz=>?_);obtain⟨x,H1,I1,rx,a,C,dx,fs,v,ex,ea,c,n,l,q⟩:=zqz;subst ex;obtain rfl:u=Value.ref a:=rx;exact wc I1 ea c n l fun u' s2 I2 ru=>⟨v,H1,I2,ru,q⟩
theorem wg(ha:PE X o ta)(hv:PE X value tv)(hs:swapsWith value (some (.Attribute o f pos')) pos.line X.env=pure false):PS X (.Assign [.Attribute o f pos'] value pos) (OQ X.K ta tv f):=by
 intro pins s σ H D I h;refine plainObj_wpAny_Assign_Attribute (d7 (hv pins s σ H _ I h) fun u s1 zqz=>?_) hs;obtain⟨y,H1,I1,ry,q⟩:=zqz;refine d7 (ha pins s1 σ H1 _ I1 q) fun ov s2 zqz=>?_;obtain⟨x,H2,I2,rx,a,C,dx,fs,ex,ea,c,n,l,q2⟩:=zqz;subst ex;obtain rfl:ov=Value.ref a:=rx;exact we I2 ea c n l ry fun s3 I3=>⟨σ,_,I3,q2⟩
theorem Gv{op:Operator}{rd:V->V->Hp->VK->Prop}(ha:PE X o ta)(hv:PE X value tv)(OT:Q9 X op rd):PS X (.AugAssign (.Attribute o f OS) op value pos) (Aq X.K ta tv rd f):=by
 intro pins s σ H D I h;refine wpAny_AugAssign_AttributeAny (d7 (ha pins s σ H _ I h) fun ov s1 zqz=>?_);obtain⟨x,H1,I1,rx,a,C,dx,fs,v,ex,ea,c,n,l,q⟩:=zqz;subst ex;obtain rfl:ov=Value.ref a:=rx;refine wc I1 ea c n l fun u s2 I2 ru=>d7 (hv pins s2 σ H1 _ I2 q) fun w3 s3 zqz=>?_;obtain⟨y,H2,I3,ry,q3⟩:=zqz;refine d7 (OT pins s3 σ H2 v y u w3 _ I3 ru ry q3) fun w4 s4 zqz=>?_;obtain⟨z,H3,I4,rz,OR,Ny,Xm,l',q4⟩:=zqz;exact we I4 Xm c n l' rz fun s5 I5=>⟨σ,_,I5,q4⟩
def Uc:V->V->Hp->VK->Prop:=fun x y H Q=>∃i j,x=.int i/\y=.int j/\Q (.int (i+j)) H
theorem OU:Q9 X .Add Uc:=by
 rintro pins s σ H x y u v Q I rx ry ⟨i,j,rfl,rfl,q⟩
 obtain⟨t,rfl⟩:=(show ∃t,u=Value.int i t from rx)
 obtain⟨t',rfl⟩:=(show ∃t',v=Value.int j t' from ry)
 exact PyProof.Rows.iadd_int ⟨.int (i+j),H,I.tok _,⟨_,rfl⟩,q⟩
end
structure fQ(k:Nat)(A:zdf):Prop where
 hd:A.handled=none
 dp:A.depth+3*k+5<recursionLimit
 un:A.units+16*k+200<cLine
theorem fQ.mono{j k:Nat}{A:zdf}(r:fQ k A)(h:j<=k):fQ j A:=⟨r.hd,by have:=r.dp;lia,by have:=r.un;lia⟩
theorem fQ.deeper{k:Nat}{A:zdf}(r:fQ (k+1) A)(env:Env):fQ k (A.deeper env):=
 ⟨r.hd,by have:=r.dp;show A.depth+1+3*k+5<_;lia,by have:=r.un;show A.units+3+16*k+200<_;lia⟩
theorem fQ.in1{k:Nat}{A:zdf}(r:fQ (k+1) A):fQ k A.in1:=
 ⟨r.hd,by have:=r.dp;show A.depth+3*k+5<_;lia,by have:=r.un;show A.units+1+16*k+200<_;lia⟩
theorem DY{A:zdf}{C:zc4}{us:List zc5}{kw:List (Str×zc5)}:(A.under (.builtin "type.__call__" ⟨.ref C::us,kw⟩)).depth=A.depth+1:=by
 first |rfl |simp[Around.under,Code.weight,Code.isCreation,Code.isGuard,Code.isCaller,Code.frames,Code.isFrame,guardIds]
theorem DZ{A:zdf}{C:zc4}{us:List zc5}{kw:List (Str×zc5)}:(A.under (.builtin "type.__call__" ⟨.ref C::us,kw⟩)).units=A.units+1:=by
 first |rfl |simp[Around.under,Code.cUnits,Code.frames,Code.isFrame]
theorem fQ.make{k:Nat}{A:zdf}(r:fQ (k+1) A)(C:zc4)(us:List zc5)(kw:List (Str×zc5)):fQ k (A.under (.builtin "type.__call__" ⟨.ref C::us,kw⟩)):=
 ⟨r.hd,by have:=r.dp;rw[DY];lia,by have:=r.un;rw[DZ];lia⟩
theorem fQ.depth{k:Nat}{A:zdf}(r:fQ k A):A.depth<recursionLimit:=by have:=r.dp;lia
theorem fQ.units{k:Nat}{A:zdf}(r:fQ k A):A.units+64<cLine:=by have:=r.un;lia
def Gw:TA:=fun _ H Q=>Q [] H
def Fg (ta:TE) (tr:TA):TA:=fun σ H Q=>ta σ H fun x H1=>tr σ H1 fun xs H2=>Q (x::xs) H2
section
variable{X:Cx}{e:Expr}{es:List Expr}{te:TE}{t:TA}{pos:Pos}
theorem af:PA X [] Gw:=fun _ _ _ _ H Q I h=>Calls.spliced_nil ⟨[],H,I,.nil,h⟩
theorem aa(ha:PE X e te)(hr:PA X es t)(hs:zda (e::es) X.env=(false,eval e X.env)::zda es X.env:=by rfl):PA X (e::es) (Fg te t):=by
 intro pos pins s σ H Q I h;rw[hs];show wpAny _ _ (spliced ((false,eval e X.env)::backTo pos (zda es X.env))) _ _ s;refine Calls.spliced_cons (d7 (ha pins s σ H _ I h) fun u s1 zqz=>?_);obtain⟨x,H1,I1,r1,q1⟩:=zqz;exact d7 (hr pos pins s1 σ H1 _ I1 q1) fun us s2 ⟨xs,H2,I2,r2,q2⟩=>⟨x::xs,H2,I2,.cons r1 r2,q2⟩
def Ra (t:TA):TE:=fun σ H Q=>t σ H fun xs H1=>xs.length<=zdc/\∀p,H1 p=none->Q (.ref p) (upd H1 p (.tup xs))
def Rc (t:TA):TE:=fun σ H Q=>t σ H fun xs H1=>xs.length<=zdc/\∀p,H1 p=none->Q (.ref p) (upd H1 p (.lst xs))
theorem dZ{x1}(h:PA X es t):PE X (.Tuple es x1 pos) (Ra t):=by
 intro pins s σ H Q I hq;refine wpAny_Tuple_spliced (d7 (h pos pins s σ H _ I hq) fun us s1 ⟨xs,H1,I1,r,z,q⟩=>⟨by rw[<- r.length];exact z,?_⟩);have hf:H1 s1.heap.objs.size=none:=I1.dq.fresh (zai _);refine⟨.ref s1.heap.objs.size,upd H1 s1.heap.objs.size (.tup xs),I1.laid (t':=s1.toks) (fun b u e=>Heap.get?_push_of_some _ e) (zai _) ?_,rfl,q _ hf⟩;exact⟨z,us,r,⟨_,Heap.get?_push_size _ rfl,rfl,_,rfl⟩⟩
theorem aL(h:PA X es t):PE X (.List es pos) (Rc t):=by
 intro pins s σ H Q I hq;refine wpAny_List_spliced (d7 (h pos pins s σ H _ I hq) fun us s1 ⟨xs,H1,I1,r,z,q⟩=>⟨by rw[<- r.length];exact z,?_⟩);have hf:H1 s1.heap.objs.size=none:=I1.dq.fresh (zai _);refine⟨.ref s1.heap.objs.size,upd H1 s1.heap.objs.size (.lst xs),I1.laid (t':=s1.toks) (fun b u e=>Heap.get?_push_of_some _ e) (zai _) ?_,rfl,q _ hf⟩;exact⟨z,us,0,r,Heap.get?_push_size _ rfl⟩
end
abbrev Sp:=List V->Hp->VK->XK->Prop
abbrev D0:=List Env->Hp->zde->XK->zc5->zde->Prop
structure yB(P:zdg)(w:zc6)(K:zac)(mg:Str->Option zc5)(base:Heap)(A:zdf)(outer:List Env)(s:zde)(H:Hp):Prop where
 frames:A.frames=some outer
 mod:Mod K mg base
 bs:∀b o,base.get? b=some o->s.heap.get? b=some o/\H b=none
 DP:base.objs.size<=s.heap.objs.size
 oY:s.heap.FunFrames base outer
 Ij:∀b∈fB outer,H b=none
 dq:rW P w H s.heap
 bare:AllBare s.gens
def CE (outer:List Env) (P:zdg) (w:zc6) (H:Hp) (s:zde) (Q:VK) (u:zc5) (s':zde):Prop:=
 ∃v H',s'.os=s.os/\AllBare s'.gens/\Un (fB outer) [] H H' s.heap s'.heap/\rW P w H' s'.heap/\RelV v u/\Q v H'
def CR (CX:D0) (outer:List Env) (P:zdg) (w:zc6) (H:Hp) (s:zde) (Q:VK) (E:XK) (r:Result) (s':zde):Prop:=
 match r with
 |.ok (.ret u)=>CE outer P w H s Q u s'
 |.ok _=>False
 |.error e=>CX outer H s E e s'
structure bC(P:zdg)(w:zc6)(K:zac)(mg:Str->Option zc5)(base:Heap)(CX:D0)(k:Nat)(f:zc4)(fd:zdd)(ps:List Str)(sp:Sp):Prop where
 len:∀vs H Q E,sp vs H Q E->vs.length=ps.length
 run:∀(A:zdf) (outer:List Env) (s:zde) (H:Hp) (args:Args) (us:List zc5) (vs:List V) (Q:VK) (E:XK),fQ k A->yB P w K mg base A outer s H->BindsTo s fd args (ps.zip us)->Vals vs us->sp vs H Q E->
  codeAny (model P w) A (.call (.ref f) args) (CR CX outer P w H s Q E) s
theorem bC.mono{P:zdg}{w:zc6}{K:zac}{mg:Str->Option zc5}{base:Heap}{CX:D0}{j k:Nat}{f:zc4}{fd:zdd}{ps:List Str}{sp:Sp}(F:bC P w K mg base CX j f fd ps sp)(h:j<=k) :
 bC P w K mg base CX k f fd ps sp:=⟨F.len,fun A outer s H args us vs Q E hr=>F.run A outer s H args us vs Q E (hr.mono h)⟩
theorem yB.make{P:zdg}{w:zc6}{K:zac}{mg:Str->Option zc5}{base:Heap}{A:zdf}{outer:List Env}{s:zde}{H:Hp}(e:yB P w K mg base A outer s H)(C:zc4)(us:List zc5)(kw:List (Str×zc5)) :
 yB P w K mg base (A.under (.builtin "type.__call__" ⟨.ref C::us,kw⟩)) outer s H:=⟨by first |exact e.frames |(simpa[Around.under,Code.envs,Code.isFrame,pushEnvs] using e.frames),e.mod,e.bs,e.DP,e.oY,e.Ij,e.dq,e.bare⟩
theorem yB.in1{P:zdg}{w:zc6}{K:zac}{mg:Str->Option zc5}{base:Heap}{A:zdf}{outer:List Env}{s:zde}{H:Hp}(e:yB P w K mg base A outer s H) :
 yB P w K mg base A.in1 outer s H:=⟨e.frames,e.mod,e.bs,e.DP,e.oY,e.Ij,e.dq,e.bare⟩
section
variable{X:Cx}{pins:List (zc4×Obj)}{σ:St}{H:Hp}{s s':zde}
theorem Inv.OV(I:Inv X pins σ H s):yB X.prog X.w X.K X.mg X.base X.A X.stack s H:=
 ⟨I.ok.frames,I.ok.mod,I.bs,zaA I.ok.DP I.sz,I.stack,I.vE,I.dq,I.bare⟩
theorem Inv.after{Q:VK}{u:zc5}(I:Inv X pins σ H s)(h:CE X.stack X.prog X.w H s Q u s'):EP X pins σ Q u s':=by
 obtain⟨v,H',os,bare,un,dq,r,q⟩:=h;obtain⟨hh,g,d,t,Xn⟩:=s';obtain rfl:Xn=s.os:=os;exact⟨v,H',I.call (h':=hh) (g':=g) (d':=d) (t':=t) (ch:=[]) un dq bare (fun b z=>absurd z (by simp)),r,q⟩
end
def NF (sp:Sp) (vG:List V) (E:XK) (t:TA):TE:=fun σ H Q=>t σ H fun vs H1=>sp (vs++vG) H1 Q E
def IU (C:zc4) (m:Str) (sp:Sp) (vG:List V) (E:XK) (ta:TE) (t:TA):TE:=fun σ H Q=>ta σ H fun x H1=>∃a dx fs,x=.ref a/\H1 a=some (.ins C dx fs)/\fs.lookup m=none/\
 t σ H1 fun vs H2=>sp (x::(vs++vG)) H2 Q E
def Fh (C:zc4) (sp:Sp) (vG:List V) (E:XK) (t:TA):TE:=fun σ H Q=>t σ H fun vs H1=>∀x dx,H1 x=none->H1 dx=none->dx≠x->
 sp (.ref x::(vs++vG)) (upd (upd H1 dx (.own x)) x (.ins C dx [])) (fun v H2=>v=.da/\Q (.ref x) H2) E
def Binds (K:zac) (fd:zdd) (ps:List Str) (ds:List zc5):Prop:=
 ∀(s:zde) (us:List zc5),K.In s.heap->(us++ds).length=ps.length->BindsTo s fd ⟨us,[]⟩ (ps.zip (us++ds))
theorem Binds.all{K:zac}{fd:zdd}{ps:List Str}(h:∀us:List zc5,us.length=ps.length->bindArgs fd ⟨us,[]⟩=pure (ps.zip us)):Binds K fd ps []:=fun s us _ hl=>by
 rw[zaP] at hl ⊢;exact .of_eq (h us hl)
def Passes (CX:D0) (X:Cx) (E:XK):Prop:=∀(pins:List (zc4×Obj)) (σ:St) (H:Hp) (s:zde) (e:zc5) (s':zde),Inv X pins σ H s->CX X.stack H s E e s'->X.xe e s'
section
variable{X:Cx}{CX:D0}{k:Nat}{f C:zc4}{fd:zdd}{ps:List Str}{sp:Sp}{vG:List V}{ds:List zc5}{E:XK}{x m:Str}{p pos apos:Pos}{e o:Expr}{es:List Expr}{ta:TE}{t:TA}
theorem IV{pins:List (zc4×Obj)}{σ:St}{H:Hp}{s:zde}{Q:VK}{us:List zc5}{vs:List V}(F:bC X.prog X.w X.K X.mg X.base CX k f fd ps sp)(hr:fQ k X.A)(hb:Binds X.K fd ps ds)(hd:Vals vG ds)(hx:Passes CX X E)
 (I:Inv X pins σ H s) (r:Vals vs us) (h:sp (vs++vG) H Q E):wpAny (model X.prog X.w) X.A (call (.ref f) us) (EP X pins σ Q) X.xe s:=by
 have r2:Vals (vs++vG) (us++ds):=r.append hd;have hl:(us++ds).length=ps.length:=by rw[<- r2.length];exact F.len _ _ _ _ h
 refine wpAny_call (codeAny_mono (F.run X.A X.stack s H ⟨us,[]⟩ (us++ds) (vs++vG) Q E hr I.OV (hb s us I.yz hl) r2 h) fun r s' hq=>?_);cases r with
 |error e=>exact hx pins σ H s e s' I hq
 |ok fl=>
  cases fl with
  |ret u=>exact I.after hq
  |next=>exact False.elim hq
  |brk=>exact False.elim hq
  |cont=>exact False.elim hq
theorem aV(F:bC X.prog X.w X.K X.mg X.base CX k f fd ps sp)(hr:fQ k X.A)(hg:Gl X x)(hm:X.mg x=some (.ref f))(hk:zaQ X.K (.ref f)=true)(hb:Binds X.K fd ps ds)(hd:Vals vG ds)(hx:Passes CX X E)
 (ha:PA X (e::es) t) (Gx:(x==("__debug__":Str))=false:=by decide) (he:zda (e::es) X.env=(false,eval e X.env)::zda es X.env:=by rfl) (Bu:(backTo pos (zda es X.env)).any (·.1)=false:=by rfl) :
 PE X (.Call (.Name x p) (e::es) [] pos) (NF sp vG E t):=by
 intro pins s σ H Q I h;refine wpAny_Call_Name_kw (nK I hg hm ?_ Gx);refine zcg (h₀:=X.base) I.ok.mod.Qs hk (d7 (ha pos pins s σ H _ I h) fun us s1 ⟨vs,H1,I1,r,q⟩=>⟨I1.yz,?_⟩) he Bu;exact IV F hr hb hd hx I1 r q
theorem dC{pl:Sem Bool}(he:PE X o ta)(c:IT X.K C)(hm:Meth X.K C m f)(F:bC X.prog X.w X.K X.mg X.base CX k f fd ps sp)(hr:fQ k X.A)(hb:Binds X.K fd ps ds)(hd:Vals vG ds)(hx:Passes CX X E)
 (ht:eval (.Call (.Attribute o m apos) [] [] pos) X.env=(do
  let ov <- eval o X.env
  standAt apos.atName
  let (f,first) <- holding [ov] (getMethod ov m pl)
  callWith pos f first (backTo pos (zda [] X.env)) (backToKw pos (keywordEach [] X.env))):=by rfl) :
 PE X (.Call (.Attribute o m apos) [] [] pos) (IU C m sp vG E ta Gw):=by
 intro pins s σ H Q I h;refine PySem.W.methodCall_KW (pl:=pl) (d7 (he pins s σ H _ I h) fun u s1 zqz=>?_) ht;obtain⟨x,H1,I1,rx,a,dx,fs,ex,ea,l,q⟩:=zqz;subst ex;obtain rfl:u=Value.ref a:=rx;refine DX I1 ea c hm l ?_;exact zcZ (first:=[.ref a]) I1.yz hm.kp (IV (us:=[.ref a]) (vs:=[.ref a]) F hr hb hd hx I1 (.cons rfl .nil) q)
structure Mk(K:zac)(C f:zc4):Prop where
 makes:zb6 K C=true
 init:zaj K (.ref C) "__init__"=some (some (.ref f))
 fn:zbo K (.ref f)=true
 kp:zaQ K (.ref C)=true
theorem BJ{pins:List (zc4×Obj)}{σ:St}{H:Hp}{s:zde}{Q:VK}{us:List zc5}{vs:List V}(M:Mk X.K C f)(F:bC X.prog X.w X.K X.mg X.base CX k f fd ps sp)(hr:fQ (k+1) X.A)(hb:Binds X.K fd ps ds)(hd:Vals vG ds)
 (hx:Passes CX X E) (I:Inv X pins σ H s) (r:Vals vs us)
 (h:∀x dx,H x=none->H dx=none->dx≠x->sp (.ref x::(vs++vG)) (upd (upd H dx (.own x)) x (.ins C dx [])) (fun v H2=>v=.da/\Q (.ref x) H2) E) :
 wpAny (model X.prog X.w) X.A (call (.ref C) us) (EP X pins σ Q) X.xe s:=by
 have hq:=h (s.heap.objs.size+1) s.heap.objs.size (I.dq.fresh (Nat.le_succ _)) (I.dq.fresh (zai _)) (zaF (zbW _));have I2:=Inv.made (C:=C) I;have r2:Vals (V.ref (s.heap.objs.size+1)::(vs++vG)) (Value.ref (s.heap.objs.size+1)::(us++ds)):=.cons rfl (r.append hd);have hl:(Value.ref (s.heap.objs.size+1)::us++ds).length=ps.length:=by
  have e:=r2.length;rw[F.len _ _ _ _ hq] at e;exact e.symm
 refine wpAny_call (IS (f:=f) I.yz M.makes M.init (beq_iff_eq.mp M.fn) (codeAny_mono (F.run _ X.stack _ _ ⟨Value.ref (s.heap.objs.size+1)::us,[]⟩ (Value.ref (s.heap.objs.size+1)::(us++ds)) _ _ E (hr.make C us [])
  (I2.OV.make C us []) (hb _ (Value.ref (s.heap.objs.size+1)::us) I2.yz hl) r2 hq) fun r s' LU=>?_))
 cases r with
 |error e=>exact hx pins σ _ _ e s' I2 LU
 |ok fl=>
  cases fl with
  |ret u=>
   obtain⟨v,H',I3,rv,ev,q3⟩:=I2.after LU;subst ev;exact⟨rv,⟨V.ref (s.heap.objs.size+1),H',I3,rfl,q3⟩⟩
  |next=>exact False.elim LU
  |brk=>exact False.elim LU
  |cont=>exact False.elim LU
theorem Mi(M:Mk X.K C f)(F:bC X.prog X.w X.K X.mg X.base CX k f fd ps sp)(hr:fQ (k+1) X.A)(hg:Gl X x)(hm:X.mg x=some (.ref C))(hb:Binds X.K fd ps ds)(hd:Vals vG ds)(hx:Passes CX X E)
 (ha:PA X (e::es) t) (Gx:(x==("__debug__":Str))=false:=by decide) (he:zda (e::es) X.env=(false,eval e X.env)::zda es X.env:=by rfl) (Bu:(backTo pos (zda es X.env)).any (·.1)=false:=by rfl) :
 PE X (.Call (.Name x p) (e::es) [] pos) (Fh C sp vG E t):=by
 intro pins s σ H Q I h;refine wpAny_Call_Name_kw (nK I hg hm ?_ Gx);refine zcg (h₀:=X.base) I.ok.mod.Qs M.kp (d7 (ha pos pins s σ H _ I h) fun us s1 ⟨vs,H1,I1,r,q⟩=>⟨I1.yz,?_⟩) he Bu;exact BJ M F hr hb hd hx I1 r q
theorem IW(M:Mk X.K C f)(F:bC X.prog X.w X.K X.mg X.base CX k f fd ps sp)(hr:fQ (k+1) X.A)(hg:Gl X x)(hm:X.mg x=some (.ref C))(hb:Binds X.K fd ps ds)(hd:Vals vG ds)(hx:Passes CX X E)
 (Gx:(x==("__debug__":Str))=false:=by decide):PE X (.Call (.Name x p) [] [] pos) (Fh C sp vG E Gw):=by
 intro pins s σ H Q I h;refine wpAny_Call_Name_kw (nK I hg hm ?_ Gx);exact zcZ I.yz M.kp (BJ (us:=[]) M F hr hb hd hx I .nil h)
end
structure a8(N P:List Str)(sc:Scope):Prop where
 kind:sc.kind=.function
 co:sc.isCoroutine=false
 gen:sc.isGenerator=false
 nd:N.Nodup
 pre:N.take P.length=P
 par:∀x∈P,sc.names.lookup x=some .local\/sc.names.lookup x=some .cell
 OW:∀y∈sc.names,y.2≠.free
theorem zF{kindOf:Str->Option NameKind}{x:Str}:∀ {binds:List (Str×zc5)} {m:Str->Option zc5},(∀v,(x,v) ∉ binds)->bindL kindOf binds m x=m x
 |[],_,_=>rfl
 |(n,v)::r,m,h=>by
  unfold bindL;rw[zF fun w hw=>h w (zaq _ hw)];split
  ·have:x≠n:=by rintro rfl;exact h v zaD
   simp[this]
  ·rfl
theorem zG{kindOf:Str->Option NameKind}{x:Str}:∀ {binds:List (Str×zc5)} {m:Str->Option zc5},(∀v,(x,v) ∉ binds)->bindC kindOf binds m x=m x
 |[],_,_=>rfl
 |(n,v)::r,m,h=>by
  unfold bindC;rw[zG fun w hw=>h w (zaq _ hw)];split
  ·rfl
  ·have:x≠n:=by rintro rfl;exact h v zaD
   simp[this]
theorem zH{kindOf:Str->Option NameKind}{x:Str}{v:zc5}:∀ {P:List Str} {vs:List zc5} {i:Nat} {m:Str->Option zc5},P.Nodup->P[i]?=some x->vs[i]?=some v->kindOf x=some .local->
 bindL kindOf (P.zip vs) m x=some v
 |[],_,_,_,_,h,_,_=>by simp at h
 |_::_,[],_,_,_,_,h,_=>by simp at h
 |p::P,w::vs,0,m,nd,h1,h2,hk=>by
  simp at h1 h2;subst h1;subst h2;show bindL kindOf ((p,w)::P.zip vs) m p=_;unfold bindL;rw[zF fun v hv=>(zbc.mp nd).1 (zcE hv).1,if_pos hk];simp
 |p::P,w::vs,i+1,m,nd,h1,h2,hk=>by
  show bindL kindOf ((p,w)::P.zip vs) m x=_;unfold bindL;exact zH (i:=i) (zbc.mp nd).2 (by simpa using h1) (by simpa using h2) hk
theorem zI{kindOf:Str->Option NameKind}{x:Str}{v:zc5}:∀ {P:List Str} {vs:List zc5} {i:Nat} {m:Str->Option zc5},P.Nodup->P[i]?=some x->vs[i]?=some v->kindOf x≠some .local->
 bindC kindOf (P.zip vs) m x=some v
 |[],_,_,_,_,h,_,_=>by simp at h
 |_::_,[],_,_,_,_,h,_=>by simp at h
 |p::P,w::vs,0,m,nd,h1,h2,hk=>by
  simp at h1 h2;subst h1;subst h2;show bindC kindOf ((p,w)::P.zip vs) m p=_;unfold bindC;rw[zG fun v hv=>(zbc.mp nd).1 (zcE hv).1,if_neg hk];simp
 |p::P,w::vs,i+1,m,nd,h1,h2,hk=>by
  show bindC kindOf ((p,w)::P.zip vs) m x=_;unfold bindC;exact zI (i:=i) (zbc.mp nd).2 (by simpa using h1) (by simpa using h2) hk
def start (N:List Str) (vs:List V):St:=vs.map some++zat (N.length-vs.length) none
def jO (CX:D0) (P:zdg) (w:zc6) (K:zac) (mg:Str->Option zc5) (base:Heap) (N:List Str) (qual:Str) (scope:Scope) (f:zc4) (cd:zc5) (A:zdf) (outer:List Env) (s:zde) (H:Hp) (E:XK):Cx where
 prog:=P
 w:=w
 K:=K
 mg:=mg
 base:=base
 A:=A.deeper (envOfC qual scope s.heap.objs.size f cd)
 N:=N
 s₀:=s
 H₀:=H
 env:=envOfC qual scope s.heap.objs.size f cd
 outer:=outer
 stack:=envOfC qual scope s.heap.objs.size f cd::outer
 ex:=[]
 calm:=true
 fn:=fun _=>true
 pn:=[]
 xe:=fun e s'=>wpAny (model P w) (A.deeper (envOfC qual scope s.heap.objs.size f cd)) (leaving (envOfC qual scope s.heap.objs.size f cd) e) (fun _ Ud=>CX outer H s E e Ud) (fun e' Ud=>CX outer H s E e' Ud) s'
theorem BK{sc:Scope}{n:Nat}{x:Str}(h:sc.names.lookup x=some .cell):∃c,(cellsFrom n sc.names []).lookup x=some c:=by
 have q:=zcJ sc.names n [] (.inl h);exact zcr.mp q
theorem Gy{CX:D0}{P:zdg}{w:zc6}{K:zac}{mg:Str->Option zc5}{base:Heap}{N ps:List Str}{qual:Str}{scope:Scope}{f:zc4}{cd:zc5}{A:zdf}{outer:List Env}{s s1:zde}{H:Hp}{E:XK}{us:List zc5}{vs:List V}
 (S:a8 N ps scope) (hd:A.handled=none) (e0:yB P w K mg base A outer s H) (hl:vs.length=ps.length) (r:Vals vs us)
 (x:InCallC s s.heap.objs.size (bindL (envOfC qual scope s.heap.objs.size f cd).kindOf (ps.zip us) fun _=>none) (cellsFrom (s.heap.objs.size+1) scope.names []) (bindC (envOfC qual scope s.heap.objs.size f cd).kindOf (ps.zip us) fun _=>none) s1) :
 Inv (jO CX P w K mg base N qual scope f cd A outer s H E) [] (start N vs) H s1:=by
 have Bu:ps.length<=N.length:=by have:=congrArg zbB S.pre;rw[zbh] at this;lia
 obtain⟨h1,tk,rfl,hk⟩:=x.done;have Rf:∀b:zc4,b ∉ (jO CX P w K mg base N qual scope f cd A outer s H E).ex:=fun b z=>absurd (show b∈([]:List zc4) from z) (by simp);refine⟨⟨e0.mod,S.kind,rfl,rfl,zai _,fun y z c h1 h2=>?_,fun y hy=>?_,fun y c _ h=>?_,fun _=>hd,Around.frames_deeper e0.frames,.inr ⟨rfl,rfl⟩,fun b z=>absurd z (Rf b),e0.bs,e0.DP,fun b _ _=>Rf b,fun b z=>absurd z (Rf b),e0.oY,e0.Ij⟩,
  rfl,e0.bare,Un.kept hk,⟨_,x.toInCall.ns,fun i y v h1 h2 h3=>?_⟩,fun y c h=>⟨_,x.cell y c h⟩,e0.dq.fresh (zai _),fun y c h=>?_,fun p hp=>absurd (show p∈([]:List (zc4×Obj)) from hp) (by simp),e0.dq.kept hk,?_⟩
 ·exact name_of_addr x.apart (PySem.mem_of_lookup h1) (PySem.mem_of_lookup h2)
 ·have hy:scope.names.lookup y=some .cell\/scope.names.lookup y=some .free:=hy;rcases hy with hy |hy
  ·exact BK hy
  ·exact absurd rfl (S.OW _ (PySem.mem_of_lookup hy))
 ·exact zcq (x.above y c (PySem.mem_of_lookup h))
 ·have hi:i<vs.length:=by
   unfold start at h2;by_cases hi:i<vs.length
   ·exact hi
   ·rw[za3 (by simpa using hi)] at h2;rw[zcB] at h2;split at h2<;>cases h2
  have ha:vs[i]?=some v:=by
   unfold start at h2;rw[zbk (by simpa using hi),zaN] at h2;cases e:vs[i]? with
   |none=>rw[e] at h2;cases h2
   |some a=>rw[e] at h2;cases h2;rfl
  obtain⟨u,hu,rv⟩:=r.get ha;have hp:ps[i]?=some y:=by
   rw[<- S.pre,List.getElem?_take_of_lt (by lia)];exact h1
  have VY:ps.Nodup:=by rw[<- S.pre];exact S.nd.sublist (List.take_sublist _ _)
  refine⟨u,rv,?_⟩;rcases S.par y (zbI hp) with k |k
  ·exact .inl ⟨k,zH VY hp hu k⟩
  ·obtain⟨c,e⟩:=BK (n:=s.heap.objs.size+1) k;refine .inr ⟨.inl k,c,e,?_⟩;have q:=x.cell y c e;rw[zI VY hp hu (by show scope.names.lookup y≠_;rw[k];decide)] at q;exact q
 ·exact e0.dq.fresh (zcq (x.above y c (PySem.mem_of_lookup h)))
 ·unfold start;show _=N.length;rw[zaf,zae,zbG];lia
theorem NG{CX:D0}{P:zdg}{w:zc6}{K:zac}{mg:Str->Option zc5}{base:Heap}{k:Nat}{f:zc4}{name qual:Str}{params:Arguments}{body:List Stmt}{scope:Scope}{dV kV doc pm dW ct oc:zc5}{an od:Option zc4}
 {IX:Array (Option zc5)} {N ps:List Str} {sp:Sp} (lk:K.lookup f=some ⟨oc,od,.func (zaG name qual params body scope dV kV doc pm an dW ct),IX⟩) (Gk:za4 K dW qual=true) (S:a8 N ps scope)
 (len:∀vs H Q E,sp vs H Q E->vs.length=ps.length)
 (wj:∀(A:zdf) (outer:List Env) (s:zde) (H:Hp) (vs:List V) (Q:VK) (E:XK),fQ k (A.deeper (envOfC qual scope s.heap.objs.size f dW))->sp vs H Q E->
  ∃t,DL (jO CX P w K mg base N qual scope f dW A outer s H E) body t/\t {nx:=fun _ H'=>Q .da H',rt:=Q} (start N vs) H) :
 bC P w K mg base CX (k+1) f (zaG name qual params body scope dV kV doc pm an dW ct) ps sp:=by
 refine⟨len,fun A outer s H args us vs Q E hr e0 hb r Gz=>?_⟩;have hl:=len _ _ _ _ Gz;have KX:K.In s.heap:=e0.mod.Qs.keeps fun b o e=>(e0.bs b o e).1;have lim:s.heap.NoLimit:=e0.mod.nolimit.keeps fun b o e=>(e0.bs b o e).1;have Rh:∀y∈ps.zip us,scope.names.lookup y.1=some .local\/(scope.names.lookup y.1=some .cell/\((cellsFrom (s.heap.objs.size+1) scope.names []).lookup y.1).isSome=true):=fun ⟨n,v⟩ hy=>by
  rcases S.par n (zcE hy).1 with q |q
  ·exact .inl q
  ·exact .inr ⟨q,zcJ _ _ _ (.inl q)⟩
 refine codeAny_call_function hr.depth (KX _ _ lk) rfl S.co S.gen rfl (PySem.W.codeRec_of KX Gk) (hb _ _ _ _ ?_);refine wpAny_newFunctionEnv_cells S.kind Rh fun env he s1 x=>?_;subst he;refine⟨lim.keeps x.toInCall.keep,codeAny_func ?_⟩;obtain⟨t,ht,hq⟩:=wj A outer s H vs Q E (hr.deeper _) Gz;have I:Inv (jO CX P w K mg base N qual scope f dW A outer s H E) [] (start N vs) H s1:=Gy S hr.hd e0 hl r x;refine wpAny_mono (ht [] s1 (start N vs) H _ I hq) (fun fl s' hs=>?_) fun e s' hs=>hs;have fin:∀ {σ':St} {H':Hp} {v:V} {u:zc5},Inv (jO CX P w K mg base N qual scope f dW A outer s H E) [] σ' H' s'->RelV v u->Q v H'->CE outer P w H s Q u s':=
  fun {σ' H' v u} J rv q=>⟨v,H',J.os,J.bare,J.base,J.dq,rv,q⟩
 cases fl with
 |ret u=>
  obtain⟨v,σ',H',J,rv,q⟩:=hs;exact fin J rv q
 |next=>
  obtain⟨σ',H',J,q⟩:=hs;exact fin (v:=V.da) (u:=Value.none) J rfl q
 |brk=>
  obtain⟨_,_,_,q⟩:=hs;exact False.elim q
 |cont=>
  obtain⟨_,_,_,q⟩:=hs;exact False.elim q
section
variable{X:Cx}{x:Str}{p pos:Pos}{e:Expr}{es:List Expr}{t:TA}{id T:String}{r:List V->Hp->VK->Prop}
def Ue (r:List V->Hp->VK->Prop) (t:TA):TE:=fun σ H Q=>t σ H fun vs H1=>r vs H1 Q
theorem br(hc:m8 X (.builtin id) r)(hg:Gl X x)(hm:X.mg x=none)(hv:bootBuiltins x=some (.builtin id))(ha:PA X (e::es) t)(hn:x≠"__name__":=by decide)(Gx:(x==("__debug__":Str))=false:=by decide)
 (he:zda (e::es) X.env=(false,eval e X.env)::zda es X.env:=by rfl) (Bu:(backTo pos (zda es X.env)).any (·.1)=false:=by rfl):PE X (.Call (.Name x p) (e::es) [] pos) (Ue r t):=by
 intro pins s σ H Q I h;refine wpAny_Call_Name_kw (vZ I hg hm hv ?_ hn Gx);exact PyProof.Rows.callWith_builtin1 (d7 (ha pos pins s σ H _ I h) fun us s1 ⟨vs,H1,I1,r1,q1⟩=>hc pins s1 σ H1 vs us Q I1 r1 q1) he Bu
theorem gN(hc:m8 X (.type T) r)(hg:Gl X x)(hm:X.mg x=none)(hv:bootBuiltins x=some (.type T))(ha:PA X (e::es) t)(hn:x≠"__name__":=by decide)(Gx:(x==("__debug__":Str))=false:=by decide)
 (he:zda (e::es) X.env=(false,eval e X.env)::zda es X.env:=by rfl) (Bu:(backTo pos (zda es X.env)).any (·.1)=false:=by rfl):PE X (.Call (.Name x p) (e::es) [] pos) (Ue r t):=by
 intro pins s σ H Q I h;refine wpAny_Call_Name_kw (vZ I hg hm hv ?_ hn Gx);exact zcf (d7 (ha pos pins s σ H _ I h) fun us s1 ⟨vs,H1,I1,r1,q1⟩=>hc pins s1 σ H1 vs us Q I1 r1 q1) he Bu
end
end L2
namespace HT
open PySem PyProof.Rows
section
variable{prog:zdg}{w:zc6}{A:zdf}{E:zc5->zde->Prop}{s:zde}
theorem Mj{t b:zc4}{vs ws:List zc5}{Q:zc5->zde->Prop}(ht:IsTup s.heap t vs.toArray)(hb:IsTup s.heap b ws.toArray)(hv:vs≠[])
 (h1:ws=[]->Q (.ref t) s) (h2:ws≠[]->Q (.ref s.heap.objs.size) {s with heap:=s.heap.push {cls:=.type "tuple",data:=.seq (vs++ws).toArray} })
 (IQ:vs.length+ws.length<=zdc):wpAny (model prog w) A (binaryOp .Add (.ref t) (.ref b)) Q E s:=by
 obtain⟨⟨cls,dd,data,sl⟩,ho,hc,n,hd⟩:=id ht;obtain⟨⟨Xo,S4,data2,VZ⟩,S5,V0,n2,hd2⟩:=id hb;simp only at hc hd V0 hd2;subst hc hd V0 hd2;have e:vs.toArray++ws.toArray=(vs++ws).toArray:=by simp
 by_cases hw:ws=[]
 ·exact concat_meets ⟨_,ho,rfl⟩ ⟨_,S5,rfl⟩ noFill_tuple_add seq_tuple_add zcK zcD (zcA _ _)
   (tuple_addW1 t b vs.toArray ws.toArray n n2 dd S4 sl VZ (by simpa using hv) (by simp[hw])) ⟨ho,S5,h1 hw⟩
 ·refine concat_meets ⟨_,ho,rfl⟩ ⟨_,S5,rfl⟩ noFill_tuple_add seq_tuple_add zcK zcD (zcA _ _)
   (tuple_addW2 t b vs.toArray ws.toArray n n2 dd S4 sl VZ (by simpa using hv) (by simpa using hw) (by rw[zao,zao];exact IQ)) ⟨ho,S5,?_⟩
  rw[e];exact h2 hw
def iB (n d:Nat):Option Int->Nat
 |none=>d
 |some v=>if v<0 then (v+(n:Int)).toNat else min v.toNat n
theorem BL(n d:Nat):iB n d none=d:=rfl
theorem Ml(n d k:Nat):iB n d (some (k:Int))=min k n:=by
 show (if (k:Int)<0 then ((k:Int)+(n:Int)).toNat else min (k:Int).toNat n)=min k n;rw[if_neg (by lia),zcj]
theorem OX(n d:Nat)(hd:d<=n)(o:Option Int):iB n d o<=n:=by
 cases o with
 |none=>exact hd
 |some v=>
  show (if v<0 then (v+(n:Int)).toNat else min v.toNat n)<=n;by_cases hv:v<0
  ·rw[if_pos hv];lia
  ·rw[if_neg hv];exact Nat.min_le_right _ _
theorem Fi(v:Int)(n d:Nat):(if v<0 then max (v+(n:Int)) 0 else min v (n:Int))=((iB n d (some v):Nat):Int):=by
 show (if v<0 then max (v+(n:Int)) 0 else min v (n:Int))=(((if v<0 then (v+(n:Int)).toNat else min v.toNat n):Nat):Int);by_cases hv:v<0
 ·simp only[if_pos hv];lia
 ·simp only[if_neg hv];lia
theorem D1(lo hi:Option Int)(n:Nat):Builtin.Slice.sliceAdjust lo hi 1 (n:Int)=(((iB n 0 lo:Nat):Int),((iB n n hi:Nat):Int)):=by
 have h1:¬((1:Int)<0):=by lia
 unfold Builtin.Slice.sliceAdjust;simp only[h1,if_false];refine Prod.ext ?_ ?_
 ·cases lo with
  |none=>rfl
  |some v=>exact Fi v n 0
 ·cases hi with
  |none=>rfl
  |some v=>exact Fi v n n
theorem D2(i j:Nat):Builtin.Slice.slicePlaces (i:Int) (j:Int) 1=j-i:=by
 unfold Builtin.Slice.slicePlaces;have h1:(1:Int)>0:=by lia
 simp only[h1,if_true,Int.ediv_one];split<;>lia
theorem wm{v:zc5}{o:Option Int}{Q:Option Int->zde->Prop}(p:IsPart v o)(h:Q o s):wpAny (model prog w) A (Builtin.Slice.slicePartIndex v) Q E s:=by
 cases p with
 |none=>exact slicePart_none h
 |int i t=>exact slicePart_int h
theorem tT{sl:zc4}{vl vu:zc5}{lo hi:Option Int}{n:Nat}{Q:Int×Int×Nat->zde->Prop}(hs:s.heap.IsSliceOf sl vl vu .none)(pl:IsPart vl lo)(pu:IsPart vu hi)
 (h:Q (((iB n 0 lo:Nat):Int),1,iB n n hi-iB n 0 lo) s):wpAny (model prog w) A (Builtin.Slice.sliceApplied (.ref sl) (pure (n:Int))) Q E s:=by
 obtain⟨os,Ri,V4,S6⟩:=id hs;unfold Builtin.Slice.sliceApplied Builtin.Slice.sliceFields;refine zc7 (zc7 (wpAny_field Ri S6 (x:=vl) rfl (zc7 (wpAny_field Ri S6 (x:=vu) rfl (zc7 (wpAny_field Ri S6 (x:=.none) rfl (zc8 ?_)))))));refine zc7 (slicePart_none ?_);show wpAny _ _ (if ((1:Int)==0)=true then _ else _) _ _ s;rw[if_neg (by decide)];refine zc7 (wm pl (zc7 (wm pu (zc7 (zc8 ?_)))));show wpAny _ _ (match Builtin.Slice.sliceAdjust lo hi 1 (n:Int) with |(lo,hi)=>pure (lo,(1:Int),Builtin.Slice.slicePlaces lo hi 1)) _ _ s;rw[D1 lo hi n];show wpAny _ _ (pure (((iB n 0 lo:Nat):Int),(1:Int),Builtin.Slice.slicePlaces ((iB n 0 lo:Nat):Int) ((iB n n hi:Nat):Int) 1)) _ _ s;rw[D2];exact zc8 h
theorem IY(xs:Array zc5)(i k:Nat):((zaW k).filterMap fun (m:Nat)=>xs[((i:Int)+(m:Int)*1).toNat]?).toArray=((xs.toList.drop i).take k).toArray:=by
 have e:(fun (m:Nat)=>xs[((i:Int)+(m:Int)*1).toNat]?)=fun m=>xs[i+m]?:=by
  funext m
  have:((i:Int)+(m:Int)*1).toNat=i+m:=by lia
  rw[this]
 rw[e];have:=pick_run xs i k;rw[List.filterMap_map] at this;have e2:((fun x=>xs[x]?) ∘ fun x=>i+x)=fun m=>xs[i+m]?:=rfl;rw[e2] at this;rw[this]
theorem si{t sl:zc4}{items:Array zc5}{vl vu:zc5}{lo hi:Option Int}{Q:zc5->zde->Prop}(ht:IsTup s.heap t items)(hs:s.heap.IsSliceOf sl vl vu .none)(pl:IsPart vl lo)(pu:IsPart vu hi)
 (hw:¬(iB items.size 0 lo=0/\iB items.size items.size hi=items.size))
 (h:Q (.ref s.heap.objs.size) {s with heap:=s.heap.push {cls:=.type "tuple",data:=.seq ((items.toList.drop (iB items.size 0 lo)).take (iB items.size items.size hi-iB items.size 0 lo)).toArray} })
 (IQ:items.size<=zdc):wpAny (model prog w) A (getItem (.ref t) (.ref sl)) Q E s:=by
 have Fj:sizeOk (.seq ((items.toList.drop (iB items.size 0 lo)).take (iB items.size items.size hi-iB items.size 0 lo)).toArray):=by
  show ((items.toList.drop (iB items.size 0 lo)).take (iB items.size items.size hi-iB items.size 0 lo)).toArray.size<=zdc;rw[zao,zbh,zaV,zbK];lia
 have hj:iB items.size items.size hi<=items.size:=OX _ _ (zai _) hi;obtain⟨os,Ri,V4,S6⟩:=id hs;have Xp:s.TypeIs (.ref sl) "slice":=⟨os,Ri,V4⟩
 unfold getItem
 try with_reducible refine zc9 ?_
 first |refine zc7 (zc8 ?_) |skip
 refine zc7 (wpAny_sequenceKey ht.typeIs (by decide) ?_);refine zc7 (wpAny_callSpecial?_slot (name:=zaa "__getitem__") ht.typeIs zb0
  (wpAny_call_entry zb0 ht.typeIs entry_tuple_getitem ?_ (args_tuple_getitem _ _)))
 show wpAny _ _ (Builtin.Tuple.tupleItemsOf (.ref t) >>= _) _ _ s;refine zc7 (tupleItemsOf_ ht ?_);refine zc7 (wpAny_typeOf Xp ?_);rw[if_pos (by decide)];refine zc7 (tT hs pl pu ?_);have Xq:¬((((iB items.size 0 lo:Nat):Int)==0&&(1:Int)==1&&(iB items.size items.size hi-iB items.size 0 lo)==items.size)=true):=by
  intro q;rw[zaK,zaK] at q;have q1:((iB items.size 0 lo:Nat):Int)=0:=eq_of_beq q.1.1;have q2:iB items.size items.size hi-iB items.size 0 lo=items.size:=eq_of_beq q.2;exact hw ⟨by lia,by lia⟩
 show wpAny _ _ (if (((iB items.size 0 lo:Nat):Int)==0&&(1:Int)==1&&(iB items.size items.size hi-iB items.size 0 lo)==items.size)=true then _ else _) _ _ s;rw[if_neg Xq,IY]
 first
  |exact zc7 (m:=Builtin.Tuple.tupleExact _) (wpAny_newObj_type (zc8 ⟨_,rfl,zc8 h⟩) Fj)
  |exact zc7 (m:=Builtin.Tuple.tupleExact _) (wpAny_newObj_type (zc7 (zc8 (zc8 ⟨_,rfl,zc8 h⟩))) Fj)
  |exact zc7 (zc7 (m:=Builtin.Tuple.tupleExact _) (wpAny_newObj_type (zc8 (zc8 ⟨_,rfl,zc8 h⟩)) Fj))
  |exact zc7 (zc7 (m:=Builtin.Tuple.tupleExact _) (wpAny_newObj_type (zc8 ⟨_,rfl,zc8 h⟩) Fj))
end
end HT
namespace L2
open PySem PySem.Spec PyProof.Rows
abbrev TO:=St->Hp->(Option Int->Hp->Prop)->Prop
def PO (X:Cx) (e:Option Expr) (t:TO):Prop:=
 ∀(pins:List (zc4×Obj)) (s:zde) (σ:St) (H:Hp) (Q:Option Int->Hp->Prop),Inv X pins σ H s->t σ H Q->
  wpAny (model X.prog X.w) X.A (evalPart e X.env) (fun u s'=>∃o H',Inv X pins σ H' s'/\IsPart u o/\Q o H') X.xe s
def Ar:TO:=fun _ H Q=>Q none H
def IZ (t:TE):TO:=fun σ H Q=>t σ H fun x H1=>∃i,x=.int i/\Q (some i) H1
section
variable{X:Cx}{e:Expr}{te:TE}{lo hi:Option Expr}{tl th:TO}{pos p2:Pos}
theorem vH:PO X none Ar:=by
 intro pins s σ H Q I h;rw[evalPart_none];exact zc8 ⟨none,H,I,.none,h⟩
theorem vI(h:PE X e te):PO X (some e) (IZ te):=by
 intro pins s σ H Q I hw;rw[evalPart_some];refine d7 (h pins s σ H _ I hw) fun u s1 zqz=>?_;obtain⟨x,H1,I1,r1,q1⟩:=zqz;obtain⟨i,rfl,q⟩:=q1;obtain⟨t,rfl⟩:=r1;exact⟨some i,H1,I1,.int i t,q⟩
def Ug (X:Cx) (r:V->Option Int->Option Int->Hp->VK->Prop):Prop:=
 ∀(pins:List (zc4×Obj)) (s:zde) (σ:St) (H:Hp) (x:V) (v vl vu:zc5) (lo hi:Option Int) (sl:zc4) (Q:VK),Inv X pins σ H s->RelV x v->s.heap.IsSliceOf sl vl vu .none->IsPart vl lo->IsPart vu hi->r x lo hi H Q->
  ∃T id,typeLookup (.type T) "__getitem__"=pure (some (.builtin id))/\s.TypeIs v T/\wpAny (model X.prog X.w) X.A (getItem v (.ref sl)) (EP X pins σ Q) X.xe s
def Uh (r:V->Option Int->Option Int->Hp->VK->Prop) (te:TE) (tl th:TO):TE:=fun σ H Q=>te σ H fun x H1=>tl σ H1 fun l H2=>th σ H2 fun u H3=>r x l u H3 Q
theorem sj{r:V->Option Int->Option Int->Hp->VK->Prop}(hr:Ug X r)(he:PE X e te)(hl:PO X lo tl)(hu:PO X hi th):PE X (.Subscript e (.Slice lo hi none p2) pos) (Uh r te tl th):=by
 intro pins s σ H Q I h;refine Subscript_ (d7 (he pins s σ H _ I h) fun v s1 zqz=>?_);obtain⟨x,H1,I1,r1,q1⟩:=zqz;refine wpAny_Slice (d7 (hl pins s1 σ H1 _ I1 q1) fun vl s2 zqz=>?_);obtain⟨l,H2,I2,pl,q2⟩:=zqz;refine d7 (hu pins s2 σ H2 _ I2 q2) fun vu s3 zqz=>?_;obtain⟨u,H3,I3,pu,q3⟩:=zqz;rw[evalPart_none];refine zc8 ?_;have I4:Inv X pins σ H3 {s3 with heap:=s3.heap.push {cls:=.type "slice",data:=.fields #[vl,vu,.none]} }:=I3.kept (t':=s3.toks) fun b ob q=>Heap.get?_push_of_some _ q;obtain⟨T,id,hT,ht,hg⟩:=hr pins {s3 with heap:=s3.heap.push {cls:=.type "slice",data:=.fields #[vl,vu,.none]} } σ H3 x v vl vu l u s3.heap.objs.size Q I4 r1 (Heap.IsSliceOf.new ..) pl pu q3;show wpAny (model X.prog X.w) X.A (subscriptTail e (.Slice lo hi none p2) v (.ref s3.heap.objs.size)) (EP X pins σ Q) X.xe {s3 with heap:=s3.heap.push {cls:=.type "slice",data:=.fields #[vl,vu,.none]} };exact tail_any (ops:=[.ref s3.heap.objs.size,v]) ht hT hg (by with_unfolding_all rfl)
def vc (xs:List V) (lo hi:Option Int):List V:=(xs.drop (HT.iB xs.length 0 lo)).take (HT.iB xs.length xs.length hi-HT.iB xs.length 0 lo)
theorem uH(xs:List V)(lo hi:Option Int):(vc xs lo hi).length<=xs.length:=by
 unfold vc;rw[zbh,zaV];lia
def Rj (K:zac):V->Option Int->Option Int->Hp->VK->Prop:=fun x lo hi H Q=>∃a xs,x=.ref a/\eQ K H a xs/\
 ¬(HT.iB xs.length 0 lo=0/\HT.iB xs.length xs.length hi=xs.length)/\∀p,H p=none->Q (.ref p) (upd H p (.tup (vc xs lo hi)))
theorem Ja:Ug X (Rj X.K):=by
 intro pins s σ H x v vl vu lo hi sl Q I rx hs pl pu h;obtain⟨a,xs,rfl,hx,hw,q⟩:=h;cases rx;obtain⟨bj,r,ht,hz⟩:=I.tuple hx;have hlen:bj.toArray.size=xs.length:=by rw[zao];exact r.length.symm
 refine⟨"tuple",_,zb0.lookup,ht.typeIs,?_⟩;refine HT.si ht hs pl pu (by rw[hlen];exact hw) ?_ (by rw[hlen];exact hz);rw[hlen];refine⟨.ref s.heap.objs.size,_,I.laid (t':=s.toks) (o:=.tup (vc xs lo hi)) (fun b ob q=>Heap.get?_push_of_some _ q) (zai _) ?_,rfl,q _ (I.dq.fresh (zai _))⟩;exact⟨zaA (uH xs lo hi) hz,_,(r.drop (HT.iB xs.length 0 lo)).take (HT.iB xs.length xs.length hi-HT.iB xs.length 0 lo),IsTup.new _ _⟩
def NH (K:zac):R2:=fun x y H Q=>∃a b xs ys,x=.ref a/\y=.ref b/\eQ K H a xs/\eQ K H b ys/\xs≠[]/\xs.length+ys.length<=zdc/\
 (ys=[]->Q (.ref a) H)/\(ys≠[]->∀p,H p=none->Q (.ref p) (upd H p (.tup (xs++ys))))
theorem Vals.bX{xs:List V}{us:List zc5}(r:Vals xs us):us=[]↔xs=[]:=by
 cases r with
 |nil=>simp
 |cons _ _=>simp
theorem Fl:qm X (binaryOp .Add) (NH X.K):=by
 intro pins s σ H x y v u Q I rx ry h;obtain⟨a,b,xs,ys,rfl,rfl,ha,hb,hx,hz,q1,q2⟩:=h;cases rx;cases ry;obtain⟨bj,r1,p1,_⟩:=I.tuple ha;obtain⟨OY,r2,p2,_⟩:=I.tuple hb;refine HT.Mj p1 p2 (fun z=>hx (r1.bX.mp z)) (fun z=>⟨.ref a,H,I,rfl,q1 (r2.bX.mp z)⟩) (fun z=>?_) (by rw[<- r1.length,<- r2.length];exact hz);refine⟨.ref s.heap.objs.size,_,I.laid (t':=s.toks) (o:=.tup (xs++ys)) (fun b ob q=>Heap.get?_push_of_some _ q) (zai _) ?_,rfl,q2 (fun w=>z (r2.bX.mpr w)) _ (I.dq.fresh (zai _))⟩;exact⟨by rw[zaf];exact hz,_,r1.append r2,IsTup.new _ _⟩
end
def Ik (n:Nat) (i:Int):Option Nat:=if 0<=i then (if i<n then some i.toNat else none) else if -(n:Int)<=i then some (i+n).toNat else none
def Fn {α:Type} (xs:List α) (i:Int):Option α:=(Ik xs.length i).bind fun j=>xs[j]?
theorem Fo{n:Nat}{i:Int}{j:Nat}(h:Ik n i=some j):seqIndex? i n=some j/\j<n/\-(n:Int)<=i/\i<n:=by
 unfold Ik at h;by_cases h0:0<=i
 ·rw[if_pos h0] at h;by_cases h1:i<n
  ·rw[if_pos h1] at h;have e:i.toNat=j:=zav.inj h;exact⟨by rw[seqIndex_of h0 h1,e],by lia,by lia,h1⟩
  ·rw[if_neg h1] at h;cases h
 ·rw[if_neg h0] at h;by_cases h1 : -(n:Int)<=i
  ·rw[if_pos h1] at h;have e:(i+n).toNat=j:=zav.inj h;exact⟨by rw[seqIndex_neg (by lia) h1,e],by lia,h1,by lia⟩
  ·rw[if_neg h1] at h;cases h
theorem As{α:Type}{xs:List α}{i:Int}{v:α}(h:Fn xs i=some v):∃j,seqIndex? i xs.length=some j/\xs[j]?=some v/\j<xs.length/\-(xs.length:Int)<=i/\i<xs.length:=by
 unfold Fn at h;cases e:Ik xs.length i with
 |none=>rw[e] at h;cases h
 |some j=>
  rw[e] at h;obtain⟨h1,h2,h3,h4⟩:=Fo e;exact⟨j,h1,h,h2,h3,h4⟩
theorem aF{α:Type}{xs:List α}{j:Nat}{v:α}(h:xs[j]?=some v):Fn xs (j:Int)=some v:=by
 have hj:j<xs.length:=(zan.mp h).1;have e:Ik xs.length (j:Int)=some j:=by
  unfold Ik;rw[if_pos (by lia),if_pos (by lia)];simp
 unfold Fn;rw[e];exact h
theorem BM{α:Type}(xs:List α)(v:α):Fn (xs++[v]) (-1)=some v:=by
 have hl:(xs++[v]).length=xs.length+1:=by simp
 have e:Ik (xs++[v]).length (-1)=some xs.length:=by
  unfold Ik;rw[hl,if_neg (by decide),if_pos (by lia)]
  congr 1
  lia
 unfold Fn;rw[e];show (xs++[v])[xs.length]?=some v;simp
def nN (b:Expr):Prop:=∀o i,subscripted b false o i=operate [o,i] (getItem o i)
def Rk (X:Cx) (r:R2):Prop:=
 ∀(value slice:Expr) (pins:List (zc4×Obj)) (s:zde) (σ:St) (H:Hp) (x y:V) (v u:zc5) (Q:VK),Inv X pins σ H s->RelV x v->RelV y u->r x y H Q->
  subscripted slice false v u=operate [v,u] (getItem v u)->wpAny (model X.prog X.w) X.A (subscriptTail value slice v u) (EP X pins σ Q) X.xe s
def Qv (X:Cx) (id:String) (r:V->List V->Hp->VK->Prop):Prop:=
 ∀(pins:List (zc4×Obj)) (s:zde) (σ:St) (H:Hp) (x:V) (xs:List V) (v:zc5) (us:List zc5) (Q:VK),Inv X pins σ H s->RelV x v->Vals xs us->r x xs H Q->
  wpAny (model X.prog X.w) X.A (call (.builtin id) (v::us)) (EP X pins σ Q) X.xe s
section
variable{X:Cx}{a b:Expr}{ta tb:TE}{pos:Pos}
theorem aZ{r:R2}(hr:Rk X r)(ha:PE X a ta)(hb:PE X b tb)(hs:nN b):PE X (.Subscript a b pos) (Q2 r ta tb):=by
 intro pins s σ H Q I h;exact Subscript_ (OK ha hb I h fun v u s2 x y H2 I2 rx ry q=>hr a b pins s2 σ H2 x y v u Q I2 rx ry q (hs _ _))
def Mn (K:zac):R2:=fun x y H Q=>∃p xs i v,x=.ref p/\y=.int i/\gW K H p xs/\Fn xs i=some v/\Q v H
def Mo (K:zac):R2:=fun x y H Q=>∃p xs i v,x=.ref p/\y=.int i/\eQ K H p xs/\Fn xs i=some v/\Q v H
def Ui:R2:=fun x y H Q=>∃z i c,x=.str z/\y=.int i/\z.length<=zdc/\Fn z.cps.toList i=some c/\Q (.str ⟨#[c]⟩) H
theorem aT:Rk X (Mn X.K):=by
 intro value slice pins s σ H x y v u Q I rx ry h hs;obtain⟨p,xs,i,z,rfl,rfl,hq,he,q⟩:=h;cases rx;obtain⟨t,rfl⟩:=ry;obtain⟨bj,r,pl,hz⟩:=I.list hq;obtain⟨j,h1,h2,h3,h4,h5⟩:=As he;obtain⟨w,ew,Uj⟩:=r.get h2;have hl:=r.length;have hn:=qV;have fin:EP X pins σ Q w s:=⟨z,H,I,Uj,q⟩
 by_cases h0:0<=i
 ·have hj:i.toNat=j:=by
   rw[seqIndex_of h0 h5] at h1;exact zav.inj h1
  exact item_listR pl.isList h0 (by lia) (by rw[hj];simpa using ew) fin hs
 ·have hj:(i+(bj.toArray.size:Int)).toNat=j:=by
   rw[seqIndex_neg (by lia) h4] at h1;rw[zao,<- hl];exact zav.inj h1
  exact subscriptTail_builtinR (x:=w) pl.isList.typeIs slot_list_getitem.lookup
   (wpAny_getItem_list_neg (Q:=fun r s'=>r=w/\EP X pins σ Q r s') pl.isList (by lia) (by rw[zao]<;>lia) (by lia) (by rw[hj];simpa using ew) ⟨rfl,fin⟩) hs
theorem dD:Rk X (Mo X.K):=by
 intro value slice pins s σ H x y v u Q I rx ry h hs;obtain⟨p,xs,i,z,rfl,rfl,hq,he,q⟩:=h;cases rx;obtain⟨t,rfl⟩:=ry;obtain⟨bj,r,pl,hz⟩:=I.tuple hq;obtain⟨j,h1,h2,h3,h4,h5⟩:=As he;obtain⟨w,ew,Uj⟩:=r.get h2;have hl:=r.length;have hn:=qV;have fin:EP X pins σ Q w s:=⟨z,H,I,Uj,q⟩
 exact subscriptTail_builtinR (x:=w) pl.typeIs slot_tuple_getitem.lookup
  (getItem_tuple (j:=j) (Q:=fun r s'=>r=w/\EP X pins σ Q r s') pl (by lia) (by lia) (by rw[zao,<- hl];exact h1) (by simpa using ew) ⟨rfl,fin⟩) hs
theorem Jb:Rk X Ui:=by
 intro value slice pins s σ H x y v u Q I rx ry h hs;obtain⟨z,i,c,rfl,rfl,hz,he,q⟩:=h;obtain⟨t,rfl⟩:=rx;obtain⟨t',rfl⟩:=ry;obtain⟨j,h1,h2,h3,h4,h5⟩:=As he;have hl:z.cps.toList.length=z.length:=by simp[Str.length]
 rw[hl] at h1 h4 h5;have hn:=qV;exact tail_any (typeIs_str s z t) slot_str_getitem.lookup (getItem_str (c:=c) (by
  have e1:decide (i < -(2 ^ 63:Int))=false:=decide_eq_false (by lia);have e2:decide (i ≥ 2 ^ 63)=false:=decide_eq_false (by lia);rw[e1,e2,Bool.or_false]) (by rw[h1];simpa using h2) ⟨.str ⟨#[c]⟩,H,I.tok _,⟨_,rfl⟩,q⟩) hs
theorem D3(bj:List zc5)(n j:Nat)(u:zc5):Obj.mapSeq (·.setIfInBounds j u) {cls:=.type "list",data:=.seq bj.toArray n}={cls:=.type "list",data:=.seq (bj.set j u).toArray n}:=by
 simp[Obj.mapSeq]
theorem Inv.lst{pins:List (zc4×Obj)}{σ:St}{H:Hp}{s:zde}{p:zc4}{xs:List V}(I:Inv X pins σ H s)(h:H p=some (.lst xs)) :
 ∃(bj:List zc5) (n:Nat),Vals xs bj/\s.heap.get? p=some {cls:=.type "list",data:=.seq bj.toArray n}/\xs.length<=zdc:=by
 obtain⟨z,bj,n,r,e⟩:=I.dq p _ h;exact⟨bj,n,r,e,z⟩
theorem Inv.OZ{pins:List (zc4×Obj)}{σ:St}{H:Hp}{s:zde}{p:zc4}{xs ys:List V}{bj its':List zc5}{n n':Nat}{f:Obj->Obj}(I:Inv X pins σ H s)(h:H p=some (.lst xs))
 (ho:s.heap.get? p=some {cls:=.type "list",data:=.seq bj.toArray n}) (hf:f {cls:=.type "list",data:=.seq bj.toArray n}={cls:=.type "list",data:=.seq its'.toArray n' }) (r:Vals ys its') (hz:ys.length<=zdc) (t:Nat) :
 Inv X pins σ (upd H p (.lst ys)) {s with heap:=s.heap.update p f,toks:=t}:=by
 have e:(s.heap.update p f).get? p=some {cls:=.type "list",data:=.seq its'.toArray n' }:=by
  rw[Heap.get?_update_self f ho (by rw[hf]<;>rfl),hf]
 refine I.write (x:=p) (e:=p) (by rw[h];trivial) (.inl rfl) (fun b u hb q=>(Heap.get?_update_other _ _ (Ne.symm hb)).trans q) ⟨_,e⟩ ?_;exact⟨hz,its',n',r,e⟩
def Rm:V->V->V->Hp->(Hp->Prop)->Prop:=fun o i v H Q=>∃p xs k j,o=.ref p/\i=.int k/\H p=some (.lst xs)/\Ik xs.length k=some j/\Q (upd H p (.lst (xs.set j v)))
theorem set_list:QX X Rm:=by
 intro pins s σ H o i v ov iv u Q I ro ri rv h;obtain⟨p,xs,k,j,rfl,rfl,hp,hj,q⟩:=h;cases ro;obtain⟨t,rfl⟩:=ri;obtain⟨bj,n,r,ho,hz⟩:=I.lst hp;obtain⟨h1,h2,h3,h4⟩:=Fo hj;have hl:=r.length;have hn:=qV;have I':Inv X pins σ (upd H p (.lst (xs.set j v))) {s with heap:=s.heap.update p (Obj.mapSeq (·.setIfInBounds j u))}:=
  I.OZ hp ho (D3 bj n j u) (r.set rv j) (by rw[zbm];exact hz) s.toks
 by_cases h0:0<=k
 ·have hk:k.toNat=j:=by
   rw[seqIndex_of h0 h4] at h1;exact zav.inj h1
  exact PySem.W.ki_setAt ho h0 (by lia) (by rw[zao,<- hl];exact h4) (by rw[hk];exact⟨_,I',q⟩)
 ·have hk:(k+(bj.toArray.size:Int)).toNat=j:=by
   rw[seqIndex_neg (by lia) h3] at h1;rw[zao,<- hl];exact zav.inj h1
  exact PySem.W.ki_setBack ho (by lia) (by rw[zao,<- hl];exact h3) (by lia) (by rw[hk];exact⟨_,I',q⟩)
theorem Au(lo hi:Option Int)(n:Nat):(sliceBounds lo hi none n).1=((HT.iB n 0 lo:Nat):Int)/\(sliceBounds lo hi none n).2.1=((HT.iB n n hi:Nat):Int)/\(sliceBounds lo hi none n).2.2=1:=by
 refine⟨?_,?_,rfl⟩
 ·cases lo with
  |none=>simp[sliceBounds,HT.iB]
  |some i=>
   simp only[sliceBounds,HT.iB,Option.getD_none,show (1:Int)>0 by decide,if_true];by_cases h:i<0
   ·simp only[h,if_true]<;>lia
   ·simp only[h,if_false]<;>lia
 ·cases hi with
  |none=>simp[sliceBounds,HT.iB]
  |some i=>
   simp only[sliceBounds,HT.iB,Option.getD_none,show (1:Int)>0 by decide,if_true];by_cases h:i<0
   ·simp only[h,if_true]<;>lia
   ·simp only[h,if_false]<;>lia
theorem yC(bj:List zc5)(lo hi:Option Int):slicePick bj.toArray lo hi none=((bj.drop (HT.iB bj.length 0 lo)).take (HT.iB bj.length bj.length hi-HT.iB bj.length 0 lo)).toArray:=by
 obtain⟨h1,h2,h3⟩:=Au lo hi bj.toArray.size;unfold slicePick;rw[h1,h2,h3];simp only[sliceRange_one,pick_run,zao]<;>rfl
def Uk (K:zac):V->Option Int->Option Int->Hp->VK->Prop:=fun x lo hi H Q=>∃a xs,x=.ref a/\gW K H a xs/\∀p,H p=none->Q (.ref p) (upd H p (.lst (vc xs lo hi)))
theorem Fp:Ug X (Uk X.K):=by
 intro pins s σ H x v vl vu lo hi sl Q I rx hs pl pu h;obtain⟨a,xs,rfl,hx,q⟩:=h;cases rx;obtain⟨bj,r,ht,hz⟩:=I.list hx;have hlen:=r.length;refine⟨"list",_,slot_list_getitem.lookup,ht.isList.typeIs,?_⟩;refine wpAny_getItem_list_slice ht.isList hs pl pu .none (by simp) ?_ (by rw[zao]<;>lia);rw[yC,<- hlen];refine⟨.ref s.heap.objs.size,_,I.laid (t':=s.toks) (o:=.lst (vc xs lo hi)) (fun b ob q=>Heap.get?_push_of_some _ q) (zai _) ?_,rfl,q _ (I.dq.fresh (zai _))⟩;exact⟨zaA (uH xs lo hi) hz,_,0,(r.drop (HT.iB xs.length 0 lo)).take (HT.iB xs.length xs.length hi-HT.iB xs.length 0 lo),Heap.get?_push_size _ rfl⟩
def uI:V->Bool
 |.da=>true
 |.bl _=>true
 |.int _=>true
 |.str _=>true
 |_=>false
def NI:V->V->Bool
 |.da,.da=>true
 |.bl a,.bl b=>a==b
 |.bl a,.int b=>(if a then 1 else 0)==b
 |.int a,.bl b=>a==(if b then 1 else 0)
 |.int a,.int b=>a==b
 |.str a,.str b=>a==b
 |_,_=>false
theorem O0{A:zdf}{s:zde}{y x:V}{u v:zc5}(ry:RelV y u)(rx:RelV x v)(fy:uI y=true)(fx:uI x=true):SeqAt.EqAt A s u v (NI y x):=by
 cases y with
 |da=>
  cases ry;cases x with
  |da=>cases rx;exact SeqAt.EqAt.same _
  |bl b=>cases rx;exact SeqAt.EqAt.none_bool b
  |int b=>obtain⟨t,rfl⟩:=rx;exact SeqAt.EqAt.none_int b t
  |str b=>obtain⟨t,rfl⟩:=rx;exact SeqAt.EqAt.none_str b t
  |_=>exact absurd (show false=true from fx) zad
 |bl a=>
  cases ry;cases x with
  |da=>cases rx;exact SeqAt.EqAt.bool_none a
  |bl b=>cases rx;exact SeqAt.EqAt.bool_bool a b
  |int b=>obtain⟨t,rfl⟩:=rx;exact SeqAt.EqAt.bool_int a b t
  |str b=>obtain⟨t,rfl⟩:=rx;exact SeqAt.EqAt.bool_str a b t
  |_=>exact absurd (show false=true from fx) zad
 |int a=>
  obtain⟨t',rfl⟩:=ry;cases x with
  |da=>cases rx;exact SeqAt.EqAt.int_none a t'
  |bl b=>cases rx;exact SeqAt.EqAt.int_bool a t' b
  |int b=>obtain⟨t,rfl⟩:=rx;exact SeqAt.EqAt.int_int a t' b t
  |str b=>obtain⟨t,rfl⟩:=rx;exact SeqAt.EqAt.int_str a t' b t
  |_=>exact absurd (show false=true from fx) zad
 |str a=>
  obtain⟨t',rfl⟩:=ry;cases x with
  |da=>cases rx;exact SeqAt.EqAt.str_none a t'
  |bl b=>cases rx;exact SeqAt.EqAt.str_bool a t' b
  |int b=>obtain⟨t,rfl⟩:=rx;exact SeqAt.EqAt.str_int a t' b t
  |str b=>obtain⟨t,rfl⟩:=rx;exact SeqAt.EqAt.str_str a t' b t
  |_=>exact absurd (show false=true from fx) zad
 |_=>exact absurd (show false=true from fy) zad
def D4 (x:V) (u:zc5):Bool:=match u with
 |.none=>NI .da x
 |.bool b=>NI (.bl b) x
 |.int i _=>NI (.int i) x
 |.str z _=>NI (.str z) x
 |_=>false
theorem Jc{x y:V}{u:zc5}(r:RelV y u)(f:uI y=true):D4 x u=NI y x:=by
 cases y with
 |da=>cases r;rfl
 |bl b=>cases r;rfl
 |int i=>obtain⟨t,rfl⟩:=r;rfl
 |str z=>obtain⟨t,rfl⟩:=r;rfl
 |_=>exact absurd (show false=true from f) zad
theorem sk{x:V}:∀ {xs:List V} {us:List zc5},Vals xs us->xs.all uI=true->us.any (D4 x)=xs.any fun y=>NI y x
 |_,_,.nil,_=>rfl
 |y::xs,u::us,.cons r t,f=>by
  rw[List.all_cons,zaK] at f;rw[zbV,zbV,Jc r f.1,sk t f.2]
theorem o8{A:zdf}{s:zde}{x:V}{v:zc5}(rx:RelV x v)(fx:uI x=true):∀ {xs:List V} {us:List zc5},Vals xs us->xs.all uI=true->∀u∈us,SeqAt.EqAt A s u v (D4 x u)
 |_,_,.nil,_=>fun u hu=>by cases hu
 |y::xs,u::us,.cons r t,f=>fun u' hu=>by
  rw[List.all_cons,zaK] at f;rcases zak.mp hu with rfl |hu
  ·rw[Jc r f.1];exact O0 r rx f.1 fx
  ·exact o8 rx fx t f.2 u' hu
def Il (x:V) (xs:List V):Bool:=xs.any fun y=>NI y x
def Ul (K:zac) (neg:Bool):R2:=fun x y H Q=>∃p xs,y=.ref p/\(gW K H p xs\/eQ K H p xs)/\uI x=true/\xs.all uI=true/\Q (.bl (if neg then !Il x xs else Il x xs)) H
theorem gO:qm X (compareOp .In) (Ul X.K false):=by
 intro pins s σ H x y v u Q I rx ry h;obtain⟨p,xs,rfl,hq,fx,fs,q⟩:=h;cases ry;rcases hq with hq |hq
 ·obtain⟨bj,r,pl,hz⟩:=I.list hq;refine SeqAt.in_listAt (D4 x) pl.isList (fun w hw=>o8 rx fx r fs w (by simpa using hw)) ⟨.bl _,H,I,rfl,?_⟩;rw[show bj.toArray.any (D4 x)=bj.any (D4 x) by simp,sk r fs];exact q
 ·obtain⟨bj,r,pl,hz⟩:=I.tuple hq;refine SeqAt.in_tupleAt (D4 x) pl (fun w hw=>o8 rx fx r fs w (by simpa using hw)) ⟨.bl _,H,I,rfl,?_⟩;rw[show bj.toArray.any (D4 x)=bj.any (D4 x) by simp,sk r fs];exact q
theorem km:qm X (compareOp .NotIn) (Ul X.K true):=by
 intro pins s σ H x y v u Q I rx ry h;obtain⟨p,xs,rfl,hq,fx,fs,q⟩:=h;cases ry;rcases hq with hq |hq
 ·obtain⟨bj,r,pl,hz⟩:=I.list hq;refine SeqAt.notIn_listAt (D4 x) pl.isList (fun w hw=>o8 rx fx r fs w (by simpa using hw)) ⟨.bl _,H,I,rfl,?_⟩;rw[show bj.toArray.any (D4 x)=bj.any (D4 x) by simp,sk r fs];exact q
 ·obtain⟨bj,r,pl,hz⟩:=I.tuple hq;refine SeqAt.notIn_tupleAt (D4 x) pl (fun w hw=>o8 rx fx r fs w (by simpa using hw)) ⟨.bl _,H,I,rfl,?_⟩;rw[show bj.toArray.any (D4 x)=bj.any (D4 x) by simp,sk r fs];exact q
theorem cQ:m8 X (.builtin "len") (fun xs H Q=>∃p ys,xs=[.ref p]/\(gW X.K H p ys\/eQ X.K H p ys)/\Q (.int ys.length) H):=by
 intro pins s σ H xs us Q I r h;obtain⟨p,ys,rfl,hq,q⟩:=h;obtain⟨u,rfl,rx⟩:=vals1 r;cases rx;have hn:=qV;rcases hq with hq |hq
 ·obtain⟨bj,r',pl,hz⟩:=I.list hq;have hlen:=r'.length;exact Calls.call_len_list pl.isList (by simp only[zao]<;>lia) ⟨.int ys.length,H,I.tok _,⟨s.toks+1,by rw[zao,hlen]⟩,q⟩
 ·obtain⟨bj,r',pl,hz⟩:=I.tuple hq;have hlen:=r'.length;exact len_tuple pl (by simp only[zao]<;>lia) ⟨.int ys.length,H,I.tok _,⟨s.toks+1,by rw[zao,hlen]⟩,q⟩
theorem nO:m8 X (.builtin "len") (fun xs H Q=>∃z,xs=[.str z]/\z.length<=zdc/\Q (.int z.length) H):=by
 intro pins s σ H xs us Q I r h;obtain⟨z,rfl,hz,q⟩:=h;obtain⟨u,rfl,t,rfl⟩:=vals1 r;have hn:=qV;exact len_str (by lia) ⟨.int z.length,H,I.tok _,⟨_,rfl⟩,q⟩
theorem yE:m8 X (.type "tuple") (fun xs H Q=>∃p ys,xs=[.ref p]/\((gW X.K H p ys/\∀l,H l=none->Q (.ref l) (upd H l (.tup ys)))\/(eQ X.K H p ys/\Q (.ref p) H))):=by
 intro pins s σ H xs us Q I r h;obtain⟨p,ys,rfl,h⟩:=h;obtain⟨u,rfl,rx⟩:=vals1 r;cases rx;rcases h with ⟨hq,q⟩ |⟨hq,q⟩
 ·obtain⟨bj,r',pl,hz⟩:=I.list hq;have hlen:=r'.length;refine call_tuple_list pl.isList (fun h' kp=>?_) (by simp only[zao]<;>lia);have I1:Inv X pins σ H {s with heap:=h' }:=I.kept (t':=s.toks) kp;have I2:Inv X pins σ (upd H h'.objs.size (.tup ys)) {s with heap:=h'.push {cls:=.type "tuple",data:=.seq bj.toArray} }:=
   I1.laid (t':=s.toks) (fun b o e=>Heap.get?_push_of_some _ e) (zai _) (show dB X.prog X.w _ _ _ (.tup ys) from ⟨hz,bj,r',IsTup.new _ _⟩)
  exact⟨.ref h'.objs.size,_,I2,rfl,q _ (I1.dq.fresh (zai _))⟩
 ·obtain⟨bj,r',pl,hz⟩:=I.tuple hq;exact call_tuple_same pl ⟨.ref p,H,I,rfl,q⟩
def Um (K:zac) (T:String) (x:V) (H:Hp):Prop:=match x with
 |.str _=>T = "str"
 |.int _=>T = "int"
 |.ref p=>(T = "list"/\∃xs,gW K H p xs)\/(T = "tuple"/\∃o,K.lookup p=some o/\o.cls=.type "tuple"/\o.dict=none)\/
  (T = "dict"/\((∃bg,H p=some (.dK bg))\/∃bg,H p=some (.dT bg)))\/(T = "set"/\∃S n,H p=some (.set S n))
 |_=>False
theorem Jd{pins:List (zc4×Obj)}{σ:St}{H:Hp}{s:zde}{T:String}{x:V}{v:zc5}(I:Inv X pins σ H s)(r:RelV x v)(ty:Um X.K T x H) :
 s.TypeIs v T/\∀a,v=.ref a->∃ob,s.heap.get? a=some ob/\ob.dict=none:=by
 cases x with
 |str z=>
  obtain⟨t,rfl⟩:=r;cases (show T = "str" from ty);exact⟨typeIs_str s z t,fun _ e=>nomatch e⟩
 |int i=>
  obtain⟨t,rfl⟩:=r;cases (show T = "int" from ty);exact⟨typeIs_int s i t,fun _ e=>nomatch e⟩
 |ref p=>
  cases r;rcases ty with ⟨rfl,xs,hq⟩ |⟨rfl,o,hk,hc,hd⟩ |⟨rfl,hk⟩ |⟨rfl,S,n,hk⟩
  ·obtain⟨bj,_,pl,_⟩:=I.list hq;refine⟨pl.isList.typeIs,fun a e=>?_⟩;cases e;obtain⟨o,n,e,c,hd,_⟩:=pl;exact⟨o,e,hd⟩
  ·refine⟨⟨o,I.yz p o hk,hc⟩,fun a e=>?_⟩;cases e;exact⟨o,I.yz _ o hk,hd⟩
  ·have z:∃o,s.heap.get? p=some o/\o.ExactDict:=by
    rcases hk with ⟨bg,hk⟩ |⟨bg,hk⟩
    ·obtain⟨_,_,_,_,o,_,_,e,ex,_⟩:=I.dq p _ hk;exact⟨o,e,ex⟩
    ·obtain⟨_,_,_,_,o,_,_,e,ex,_⟩:=I.dq p _ hk;exact⟨o,e,ex⟩
   obtain⟨o,e,ex⟩:=z;refine⟨⟨o,e,ex.1⟩,fun a e2=>?_⟩;cases e2;exact⟨o,e,ex.2.1⟩
  ·obtain⟨o,_,_,_,e,ex,_⟩:=I.dq p _ hk;refine⟨⟨o,e,ex.1⟩,fun a e2=>?_⟩;cases e2;exact⟨o,e,ex.2.1⟩
 |_=>exact False.elim ty
def O3 (K:zac) (T:String) (r:V->List V->Hp->VK->Prop) (to:TE):TE:=fun σ H Q=>to σ H fun x H1=>Um K T x H1/\r x [] H1 Q
def S7 (K:zac) (T:String) (r:V->List V->Hp->VK->Prop) (to:TE) (t:TA):TE:=fun σ H Q=>to σ H fun x H1=>Um K T x H1/\t σ H1 fun xs H2=>r x xs H2 Q
variable{o e:Expr}{es:List Expr}{to:TE}{t:TA}{name:Str}{apos iy:Pos}{T id:String}{r:V->List V->Hp->VK->Prop}
theorem Av(pa:PlainAttrs T)(slot:Slot T name id)(Rp:typeOf (.builtin id)=pure (.type "method_descriptor"))(hm:Qv X id r)(ho:PE X o to)
 (BN:attributeBase o name X.env (eval o X.env)=eval o X.env:=by rfl) (BO:(apos.endLine==iy.line)=true:=by rfl):PE X (.Call (.Attribute o name apos) [] [] iy) (O3 X.K T r to):=by
 intro pins s σ H Q I h;refine wpAny_Call_method0_late BN BO (d7 (ho pins s σ H _ I h) fun v s1 zqz=>?_);obtain⟨x,H1,I1,r1,ty,q1⟩:=zqz;obtain⟨h1,h2⟩:=Jd I1 r1 ty;exact⟨T,id,pa,slot,Rp,h1,h2,Calls.callWith_builtin rfl (PySem.evalArgs_none (hm pins s1 σ H1 x [] v [] Q I1 r1 .nil q1))⟩
theorem lU(pa:PlainAttrs T)(slot:Slot T name id)(Rp:typeOf (.builtin id)=pure (.type "method_descriptor"))(hm:Qv X id r)(ho:PE X o to)(ha:PA X (e::es) t)
 (BN:attributeBase o name X.env (eval o X.env)=eval o X.env:=by rfl)
 (O4:((backTo iy (zda (e::es) X.env)).all (fun x=>!x.1)&&(backToKw iy (keywordEach [] X.env)).all (fun x=>x.1.isSome)
  && decide ((e::es).length+([]:List Keyword).length+(if ([]:List Keyword).isEmpty then 0 else 1)<30))=true:=by rfl)
 (BO:(apos.endLine==iy.line)=true:=by rfl) (hs:zda (e::es) X.env=(false,eval e X.env)::zda es X.env:=by rfl) (wo:(backTo iy (zda es X.env)).any (·.1)=false:=by rfl) :
 PE X (.Call (.Attribute o name apos) (e::es) [] iy) (S7 X.K T r to t):=by
 intro pins s σ H Q I h;refine wpAny_Call_method_late BN O4 BO rfl (d7 (ho pins s σ H _ I h) fun v s1 zqz=>?_);obtain⟨x,H1,I1,r1,ty,q1⟩:=zqz;obtain⟨h1,h2⟩:=Jd I1 r1 ty;refine⟨T,id,pa,slot,Rp,h1,h2,?_⟩;have hA:=ha iy pins s1 σ H1 _ I1 q1;rw[hs] at hA ⊢;refine Calls.callWith_builtin (by show (false ||(backTo iy (zda es X.env)).any (·.1))=false;rw[wo]<;>rfl) (Calls.evalArgs_plain ?_);exact d7 hA fun us s2 ⟨vs,H2,I2,r2,q2⟩=>hm pins s2 σ H2 x vs v us Q I2 r1 r2 q2
end
def Uo (X:Cx) (id:String) (r:V->List V->Hp->VK->Prop):Prop:=
 ∀(pins:List (zc4×Obj)) (s:zde) (σ:St) (H:Hp) (x:V) (xs:List V) (v:zc5) (us:List zc5) (Q:VK),Inv X pins σ H s->RelV x v->Vals xs us->r x xs H Q->
  wpAny (model X.prog X.w) X.A (call (.builtin id) (v::us)) (EP X pins σ Q) X.xe s
theorem Vals.one:∀ {x:V} {us:List zc5},Vals [x] us->∃u,us=[u]/\RelV x u
 |_,_,.cons r .nil=>⟨_,rfl,r⟩
theorem Vals.zero:∀ {us:List zc5},Vals [] us->us=[]
 |_,.nil=>rfl
theorem Vals.dropLast{xs:List V}{us:List zc5}(h:Vals xs us):Vals xs.dropLast us.dropLast:=by
 induction h with
 |nil=>exact .nil
 |cons r t ih=>
  cases t with
  |nil=>exact .nil
  |cons q t'=>exact .cons r ih
theorem Vals.reverse{xs:List V}{us:List zc5}(h:Vals xs us):Vals xs.reverse us.reverse:=by
 induction h with
 |nil=>exact .nil
 |cons r t ih=>rw[zbR,zbR];exact Vals.append ih (.cons r .nil)
theorem Vals.rep{xs:List V}{us:List zc5}(h:Vals xs us):∀k:Nat,Vals (zat k xs).flatten (zat k us).flatten
 |0=>.nil
 |k+1=>by
  rw[zbf,zbf,zaR,zaR];exact Vals.append h (Vals.rep h k)
theorem D5{α:Type}(l:List α):l.eraseIdx (l.length-1)=l.dropLast:=by
 induction l with
 |nil=>rfl
 |cons a r ih=>
  cases r with
  |nil=>rfl
  |cons b r=>
   have e:(a::b::r).length-1=((b::r).length-1)+1:=by
    have h1:(a::b::r).length=r.length+2:=rfl;have h2:(b::r).length=r.length+1:=rfl;lia
   rw[e,List.eraseIdx_cons_succ,ih]
   all_goals rfl
theorem foldl_rep(bj:List zc5):∀(k:Nat) (acc:List zc5),
 List.foldl (fun x1 x2=>x1++x2) acc.toArray (zat k bj.toArray)=(acc++(zat k bj).flatten).toArray
 |0,acc=>by simp
 |k+1,acc=>by
  have e:acc.toArray++bj.toArray=(acc++bj).toArray:=by simp
  have e2:(acc++bj)++(zat k bj).flatten=acc++(zat (k+1) bj).flatten:=by
   rw[zbf,zaR,zbE]
  rw[<- e2,<- foldl_rep bj k (acc++bj),<- e,zbf,zbM]
section
variable{X:Cx}{pins:List (zc4×Obj)}{σ:St}{H:Hp}{s:zde}{l b:zc4}{xs ys zs:List V}
theorem Inv.O5{bj its':List zc5}{n:Nat}{f:Array zc5->Array zc5}{t':Nat}(I:Inv X pins σ H s)(hH:H l=some (.lst xs))
 (e:s.heap.get? l=some {cls:=.type "list",data:=.seq bj.toArray n}) (hf:f bj.toArray=its'.toArray) (hv:Vals ys its') (hz:ys.length<=zdc) :
 Inv X pins σ (upd H l (.lst ys)) {s with heap:=s.heap.update l (Obj.mapSeq f),toks:=t' }:=by
 have q:=PySem.IsL.update e f;rw[hf] at q;refine I.write (x:=l) (e:=l) (by rw[hH];exact trivial) (.inl rfl) (fun b' u hb hu=>(Heap.get?_update_other s.heap (Obj.mapSeq f) (Ne.symm hb)).trans hu) ⟨_,q⟩ ?_;exact⟨hz,its',_,hv,q⟩
theorem Inv.Rq{bj:List zc5}{t':Nat}(I:Inv X pins σ H s)(hv:Vals ys bj)(hz:ys.length<=zdc) :
 Inv X pins σ (upd H s.heap.objs.size (.lst ys)) {s with heap:=s.heap.push {cls:=.type "list",data:=.seq bj.toArray},toks:=t' }:=
 I.laid (fun _ _ q=>Heap.get?_push_of_some _ q) (zai _) ⟨hz,bj,0,hv,Heap.get?_push_size _ rfl⟩
theorem Inv.fresh(I:Inv X pins σ H s):H s.heap.objs.size=none:=I.dq.fresh (zai _)
theorem Inv.GA(I:Inv X pins σ H s)(hH:H l=some (.lst xs)):xs.length<=zdc/\∃(bj:List zc5) (n:Nat),Vals xs bj/\xs.length=bj.length/\s.heap.get? l=some {cls:=.type "list",data:=.seq bj.toArray n}:=by
 obtain⟨z,bj,n,r,e⟩:=I.dq l _ hH;exact⟨z,bj,n,r,r.length,e⟩
theorem Je{n:Nat}(h:n<=zdc):Builtin.List.listTooLong n=false:=by
 unfold Builtin.List.listTooLong;exact decide_eq_false (by lia)
end
section
variable{X:Cx}
def Mp:V->List V->Hp->VK->Prop:=fun x vs H Q=>∃l xs y,x=.ref l/\vs=[y]/\H l=some (.lst xs)/\xs.length<zdc/\Q .da (upd H l (.lst (xs++[y])))
theorem de:Uo X "list.append" Mp:=by
 intro pins s σ H x vs v us Q I rx rv h;obtain⟨l,xs,y,rfl,rfl,hH,hz,q⟩:=h;cases rx;obtain⟨u,rfl,ru⟩:=rv.one;obtain⟨z,bj,n,r,hl,e⟩:=I.GA hH;refine call_meets F.slot_list_append ⟨_,e,rfl⟩ F.entry_list_append (F.args_list_append_2 _ _) (PySem.list_append l bj.toArray n u (by rw[zao];lia)) ⟨e,?_⟩;refine⟨.da,_,I.O5 (its':=bj++[u]) hH e (by simp) (r.append (.cons ru .nil)) ?_,rfl,q⟩;rw[zaf,zau];lia
def Up:V->List V->Hp->VK->Prop:=fun x vs H Q=>∃l xs y,x=.ref l/\vs=[]/\H l=some (.lst xs)/\xs[xs.length-1]?=some y/\Q y (upd H l (.lst xs.dropLast))
theorem D6:Uo X "list.pop" Up:=by
 intro pins s σ H x vs v us Q I rx rv h;obtain⟨l,xs,y,rfl,rfl,hH,hy,q⟩:=h;cases rx;have Uq:=rv.zero;subst Uq;obtain⟨z,bj,n,r,hl,e⟩:=I.GA hH;obtain⟨u,hu,ru⟩:=r.get hy;have Xr:bj.toArray[bj.toArray.size-1]?=some u:=by
  show bj.toArray[bj.length-1]?=some u;rw[<- Array.getElem?_toList,<- hl];exact hu
 refine call_meets F.slot_list_pop ⟨_,e,rfl⟩ F.entry_list_pop (F.args_list_pop_1 _) (MeetsSeq.list_pop_last l bj.toArray n u Xr (by rw[zao];lia)) ⟨e,?_⟩;refine⟨y,_,I.O5 (its':=bj.dropLast) hH e ?_ r.dropLast ?_,ru,q⟩
 ·show bj.toArray.eraseIdxIfInBounds (bj.toArray.size-1)=bj.dropLast.toArray;rw[zao,List.eraseIdxIfInBounds_toArray,D5]
 ·rw[zaU];lia
def O6:V->List V->Hp->VK->Prop:=fun x vs H Q=>∃l xs,x=.ref l/\vs=[]/\H l=some (.lst xs)/\Q .da (upd H l (.lst []))
theorem Jf:Uo X "list.clear" O6:=by
 intro pins s σ H x vs v us Q I rx rv h;obtain⟨l,xs,rfl,rfl,hH,q⟩:=h;cases rx;have Uq:=rv.zero;subst Uq;obtain⟨z,bj,n,r,hl,e⟩:=I.GA hH;refine call_meets F.slot_list_clear ⟨_,e,rfl⟩ F.entry_list_clear (F.args_list_clear_1 _) (AutoSeq1.list_clear_list_0 l bj.toArray n (by rw[zao];lia)) ⟨e,?_⟩;exact⟨.da,_,I.O5 (its':=[]) (ys:=[]) hH e rfl .nil (za0 _),rfl,q⟩
def Rr:R2:=fun x y H Q=>∃l b xs zs,x=.ref l/\y=.ref b/\H l=some (.lst xs)/\H b=some (.lst zs)/\xs.length+zs.length<=zdc/\∀p,H p=none->Q (.ref p) (upd H p (.lst (xs++zs)))
theorem nP:qm X (binaryOp .Add) Rr:=by
 intro pins s σ H x y v u Q I rx ry h;obtain⟨l,b,xs,zs,rfl,rfl,hH,hB,hz,q⟩:=h;cases rx;cases ry;obtain⟨z,bj,n,r,hl,e⟩:=I.GA hH;obtain⟨z2,OY,n2,r2,ZO,e2⟩:=I.GA hB;refine PySem.P.add_list e e2 ?_ (by rw[zao,zao];lia);have ea:bj.toArray++OY.toArray=(bj++OY).toArray:=by simp
 rw[ea];exact⟨.ref _,_,I.Rq (t':=s.toks) (r.append r2) (by rw[zaf];lia),rfl,q _ I.fresh⟩
def Ur:R2:=fun x y H Q=>∃l k xs,x=.ref l/\y=.int k/\H l=some (.lst xs)/\-(2 ^ 63)<=k/\k<2 ^ 63/\xs.length*k.toNat<=zdc/\
 ∀p,H p=none->Q (.ref p) (upd H p (.lst (zat k.toNat xs).flatten))
theorem len_rep{α:Type}(xs:List α)(k:Nat):(zat k xs).flatten.length=k*xs.length:=by
 induction k with
 |zero=>simp
 |succ k ih=>rw[zbf,zaR,zaf,ih,Nat.succ_mul,Nat.add_comm]
theorem O7:qm X (binaryOp .Mult) Ur:=by
 intro pins s σ H x y v u Q I rx ry h;obtain⟨l,k,xs,rfl,rfl,hH,h1,h2,hz,q⟩:=h;cases rx;obtain⟨t,rfl⟩:=ry;obtain⟨z,bj,n,r,hl,e⟩:=I.GA hH;have hlen:bj.toArray.size*k.toNat<=zdc:=by rw[zao,<- hl];exact hz
 have Us:¬bj.toArray.size*k.toNat>(2 ^ 63-1)/8:=by
  have:(zdc:Nat)<=(2 ^ 63-1)/8:=by decide
  lia
 have Ut:¬(!Builtin.List.listFitsIndex k)=true:=by
  rw[fitsIndex_both h1 h2];exact zad
 have Rt:¬Builtin.List.listTooLong (bj.toArray.size*k.toNat)=true:=by
  rw[Je hlen];exact zad
 have Uu:List.foldl (fun x1 x2=>x1++x2) #[] (zat (if bj.toArray.isEmpty=true then 0 else k.toNat) bj.toArray)=(zat k.toNat bj).flatten.toArray:=by
  have f0:∀m:Nat,List.foldl (fun x1 x2=>x1++x2) #[] (zat m bj.toArray)=(zat m bj).flatten.toArray:=fun m=>by
   have:=foldl_rep bj m [];rw[za1] at this;exact this
  rw[f0];cases bj with
  |nil=>simp
  |cons a r'=>rw[if_neg (by simp)]
 refine wpAny_binaryOp_repeat_ref (T:="list") (U:="int") (by decide) ⟨_,e,rfl⟩ (fun s'=>typeIs_int s' k t) noFill_list_mul F.fills_int_mul F.slot_int_rmul repeat_list F.slot_int_index.lookup
  (call_meets F.slot_int_rmul (typeIs_int s k t) F.entry_int_rmul (F.args_int_rmul_2 _ _) (int___rmul___int_list k t l bj.toArray n)
   ⟨e,rfl,⟨_,e,rfl⟩,call_meets F.slot_list_mul ⟨_,e,rfl⟩ F.entry_list_mul (F.args_list_mul_2 _ _) (AutoListH.list___mul___list_int_3 l bj.toArray n k t Ut Us Rt) ⟨e,?_⟩⟩)
 rw[Uu];exact⟨.ref _,_,I.Rq (t':=s.toks) (r.rep k.toNat) (by rw[len_rep,Nat.mul_comm];exact hz),rfl,q _ I.fresh⟩
end
end L2
namespace V5
open PySem PySem.W PySem.Calls PyProof.Rows
theorem vd{P:Params}{h:Heap}:∀(ns:List Int) (vs:List zc5),WellAll P h vs (ns.map WData.int)->IntsAre vs ns:=by
 intro ns
 induction ns with
 |nil=>
  intro vs w;rw[zcs] at w;cases w;exact .nil
 |cons n ns ih=>
  intro vs w;rw[zay] at w;cases w with
  |cons a b=>
   cases a;exact .cons _ _ (ih _ b)
theorem GB{l:OpenLaw}{n:Nat}(hn:l.most=some n){P:Params}{h:Heap}{args:List WData}{vals:List zc5}
 (Mq:l.row.toRowW.claim.pre args=true) (Uv:WellAll P h vals args) :
 ∃a vs ns,vals=[Value.ref a]/\args=[WData.list (ns.map WData.int)]/\h.get? a=some {cls:=.type "list",data:=.seq vs.toArray}/\IntsAre vs ns/\ns.length<=n:=by
 have Xs:WShape.hasAll [] args [.list .int]=true:=(pre_splitW Mq).1;have hc:l.pre.holds [] {args:=args}=true:=(pre_splitW Mq).2;obtain⟨d,r,rfl,h1,h2⟩:=hasAllW_cons Xs;obtain rfl:=hasAllW_nil h2;obtain⟨xs,rfl,h3⟩:=hasW_list h1;obtain⟨ns,rfl⟩:=items_int h3;have hlen:ns.length<=n:=by
  unfold OpenLaw.pre at hc;have h4:(WTm.not (.lt (.lit (.int (n:Int))) (.len (.arg 0)))).holds [] {args:=[.list (ns.map .int)]}=true:=by
   have h4:=(holds_andW hc).1;rw[hn] at h4;exact h4
  have h5:=condW_of h4 (w_not (w_lt w_lit (w_len_list (w_arg rfl))));rw[zae] at h5;refine Nat.le_of_not_lt fun q=>?_;have q':(n:Int)<((ns.length:Nat):Int):=by lia
  first
   |(rw[decide_eq_true q'] at h5;exact absurd h5 (by decide))
   |(simp at h5;lia)
 cases Uv with
 |cons w1 w2=>
  cases w2;cases w1 with
  |list ho O8=>exact⟨_,_,ns,rfl,rfl,ho,vd ns _ O8,hlen⟩
theorem GC(l:OpenLaw)(args:List WData):l.row.toRowW.claim.post args (.bool true) args=true:=
 postW_of (r:=l.row.toRowW) (X:=(true==true))
  (show WShape.has [] (.bool true) .bool=true by first |rfl |decide |simp[WShape.has,WShape.arms,WShape.armsAll])
  (show (WTm.eq .res (.lit (.bool true))).value [] {args:=args,res:=some (.bool true),after:=args}=some (.bool (true==true)) from w_eq_bool (w_res rfl) w_lit) rfl
theorem BP{l:OpenLaw}{n:Nat}{q:zdg}{loose:List Str}{XP:(Str->Option zc5)->Heap->Prop}{YP:zc6->Heap->Prop}{d:DefRec}
 (hn:l.most=some n) (Ru:d.params.defaults=[])
 (call:∀(w:zc6) (s₀ s₁:zde) (mg mb:Str->Option zc5) (fa:zc4) (o:Obj) (pm cd doc:zc5) (a:zc4) (vs:List zc5) (ns:List Int),
  Ground q loose [] XP w s₀ mg mb s₁.heap->YP w s₁.heap->
  s₁.heap.get? fa=some o->o.data=.func (docDef d.name d.params d.body d.scope pm cd doc)->s₁.heap.CodeRec cd d.name->mg d.name=some (.ref fa)->
  s₁.heap.get? a=some {cls:=.type "list",data:=.seq vs.toArray}->IntsAre vs ns->ns.length<=n->s₁.gens = #[]->
  codeAny (model l.prog w) callerA (.call (.ref fa) ⟨[.ref a],[]⟩) (fun r s'=>r=.ok (.ret (.bool true))/\OldK s₁.heap s'.heap/\s'.os=s₁.os/\AllBare s'.gens) s₁) :
 WalkO q loose XP YP l.row.toRowW d [] (fun f vs=>PySem.call f vs):=by
 intro w s₀ s₁ mg mb G Y fa o pm cd doc dV kV ho hd Gk hD Rv hg args vals as Mq Xt ZP Uv ZQ;obtain rfl:dV=.none:=Dflts.none hD Ru;obtain rfl:kV=.none:=Dflts.noKw hD;obtain⟨a,vs,ns,rfl,rfl,O9,hints,hlen⟩:=GB hn Mq Uv;refine enter_call (codeAny_mono (call w s₀ s₁ mg mb fa o pm cd doc a vs ns G Y ho (fd_plain hd) Gk Rv O9 hints hlen hg) fun r s' hq=>?_);obtain⟨rfl,h2,h3,h4⟩:=hq;exact⟨.inl ⟨.bool true,.bool true,[],rfl,fun _=>rfl,.bool true,GC l _,fun _=>⟨List.Pairwise.nil,fun _ hm=>(nomatch hm)⟩⟩,h2,h3,h4⟩
end V5
namespace L2
open PySem PySem.Spec PyProof.Rows
theorem zJ:∀ {vs:List zc5} {ns:List Int},IntsAre vs ns->Vals (ns.map V.int) vs
 |_,_,.nil=>.nil
 |_,_,.cons n t h=>.cons ⟨t,rfl⟩ (zJ h)
def Pa (H:Hp):Prop:=∀b,H b=none\/∃o xs,H b=some (.Iu o (.lst xs))
theorem Jg{P:zdg}{w:zc6}{K:zac}{mg mb:Str->Option zc5}{CX:D0}{k:Nat}{fa a:zc4}{fd:zdd}{x:Str}{sp:Sp}{s₁:zde}{vs:List zc5}{ns:List Int}
 (KX:K.In s₁.heap) (S8:s₁.heap.Ns zdb mg) (hb:s₁.heap.Ns builtinsNs mb) (Qw:∀x:Str,x≠"__name__"->mb x=bootBuiltins x) (Uw:s₁.heap.NoLimit) (hg:s₁.gens = #[])
 (ha:s₁.heap.get? a=some {cls:=.type "list",data:=.seq vs.toArray}) (hi:IntsAre vs ns) (hl:ns.length<=zdc) (hr:fQ k callerA)
 (F:∀base:Heap,K.In base->base.Ns zdb mg->bC P w K mg base CX k fa fd [x] sp) (Rw:∀(s:zde) (u:zc5),BindsTo s fd ⟨[u],[]⟩ [(x,u)])
 (Gz:∀H:Hp,Pa H->gW K H a (ns.map V.int)->sp [.ref a] H (fun v _=>v=.bl true) fun _ _ _=>False)
 (Ux:∀H e s',CX [] H s₁ (fun _ _ _=>False) e s'->False) :
 codeAny (model P w) callerA (.call (.ref fa) ⟨[.ref a],[]⟩) (fun r s'=>r=.ok (.ret (.bool true))/\OldK s₁.heap s'.heap/\s'.os=s₁.os/\AllBare s'.gens) s₁:=by
 have rv:=zJ hi;have Uy:=hi.length;have core:∀H:Hp,Pa H->gW K H a (ns.map V.int)->rW P w H s₁.heap->(∀b,H b≠none->b=a)->(H a≠none->K.lookup a=none)->
  codeAny (model P w) callerA (.call (.ref fa) ⟨[.ref a],[]⟩) (fun r s'=>r=.ok (.ret (.bool true))/\OldK s₁.heap s'.heap/\s'.os=s₁.os/\AllBare s'.gens) s₁:=by
  intro H hO hS dq hA hK;have Fq:∀ {b:zc4} {o:Obj},s₁.heap.get? b=some o->H b=none->(Al s₁.heap H).get? b=some o:=fun e n=>Iw e n;have Rf:∀ {b:zc4} {o:Obj} {es:Array DictEntry} {ep:Nat},s₁.heap.get? b=some o->o.data=.dict es ep->H b=none:=fun {b o es ep} e d=>by
   cases q:H b with
   |none=>rfl
   |some u=>
    have e':b=a:=hA b (by rw[q];simp);subst e';rw[ha] at e;cases e;have d':Data.seq vs.toArray _=Data.dict es ep:=d;cases d'
  have S9:∀ {b:zc4} {m:Str->Option zc5},s₁.heap.Ns b m->(Al s₁.heap H).Ns b m:=fun {b m} ⟨o,es,ep,e,d,r⟩=>⟨o,es,ep,Fq e (Rf e d),d,r⟩
  have V6:K.In (Al s₁.heap H):=fun b o e=>Fq (KX b o e) (by
   cases q:H b with
   |none=>rfl
   |some u=>
    have e':b=a:=hA b (by rw[q];simp);subst e';rw[hK (by rw[q];simp)] at e;cases e)
  have hM:Mod K mg (Al s₁.heap H):=⟨V6,S9 S8,⟨mb,S9 hb,Qw⟩,let ⟨mc,h1,h2⟩:=Uw;⟨mc,S9 h1,h2⟩⟩
  have e0:yB P w K mg (Al s₁.heap H) callerA [] s₁ H:=⟨rfl,hM,fun b o e=>L7 e,Nat.le_of_eq (Gi _ _),trivial,fun b hb=>absurd (show b∈([]:List zc4) from hb) (by simp),dq,.of_eq hg⟩
  refine codeAny_mono ((F _ V6 (S9 S8)).run callerA [] s₁ H ⟨[.ref a],[]⟩ [.ref a] [.ref a] _ _ hr e0 (Rw s₁ (.ref a)) (.cons rfl .nil) (Gz H hO hS)) fun r s' h=>?_;cases r with
  |error e=>exact(Ux H e s' h).elim
  |ok fl=>
   cases fl with
   |next=>exact False.elim h
   |brk=>exact False.elim h
   |cont=>exact False.elim h
   |ret u=>
    obtain⟨v,H',os,bare,un,Uz,r',q⟩:=h;have q':v=.bl true:=q;subst q';obtain rfl:u=Value.bool true:=r';refine⟨rfl,OldK.of_keep fun b o e=>?_,os,bare⟩;cases q:H b with
    |none=>exact un.keep b o e q (by intro z;exact absurd (show b∈([]:List zc4) from z) (by simp)) (by simp)
    |some u=>
     rcases hO b with z |⟨ob,xs,z⟩
     ·rw[q] at z;cases z
     ·have z2:=un.nJ b ob _ z;obtain⟨e1,_⟩:=dq b _ z;obtain⟨e2,_⟩:=Uz b _ z2;rw[e] at e1;cases e1;exact e2
 cases hk:K.lookup a with
 |some o=>
  have e:=KX a o hk;rw[ha] at e;cases e;refine core (fun _=>none) (fun _=>.inl rfl) (.inr ⟨_,vs.toArray,_,hk,rfl,rfl,rfl,by rw[zao,Uy];exact hl,by simpa using rv⟩) (fun b u z=>by have z':(none:Option HO)=some u:=z;cases z') (fun b z=>absurd rfl z) fun z=>absurd rfl z
 |none=>
  refine core (fun b=>if b=a then some (.Iu {cls:=.type "list",data:=.seq vs.toArray} (.lst (ns.map V.int))) else none) (fun b=>?_) (.inl (.inr ⟨{cls:=.type "list",data:=.seq vs.toArray},if_pos rfl⟩)) (fun b u z=>?_) (fun b z=>?_) fun _=>hk
  ·by_cases hb:b=a
   ·exact .inr ⟨_,_,if_pos hb⟩
   ·exact .inl (if_neg hb)
  ·by_cases hb:b=a
   ·have z':=(if_pos hb).symm.trans z;cases z';subst hb;exact⟨ha,by rw[zae];exact hl,vs,_,rv,ha⟩
   ·have z':=(if_neg hb).symm.trans z;cases z'
  ·by_cases hb:b=a
   ·exact hb
   ·exact absurd (if_neg hb) z
theorem Mr{l:PySem.W.OpenLaw}{n k:Nat}{q:zdg}{loose:List Str}{XP:(Str->Option zc5)->Heap->Prop}{YP:zc6->Heap->Prop}{d:DefRec}{K:Params->zac}{CX:zc6->D0}{sp:zc6->Sp}{x:Str}
 (hn:l.most=some n) (S3:n<=zdc) (Ru:d.params.defaults=[]) (hr:fQ k callerA)
 (hY:∀(w:zc6) (h:Heap),YP w h->(K w.params).In h)
 (F:∀(w:zc6) (mg:Str->Option zc5) (fa:zc4) (h:Heap),(K w.params).In h->h.Ns zdb mg->mg d.name=some (.ref fa)->
  ∃fd:zdd,(∀(s:zde) (u:zc5),BindsTo s fd ⟨[u],[]⟩ [(x,u)])/\
   ∀base:Heap,(K w.params).In base->base.Ns zdb mg->bC l.prog w (K w.params) mg base (CX w) k fa fd [x] (sp w))
 (Gz:∀(w:zc6) (H:Hp) (a:zc4) (ns:List Int),ns.length<=n->Pa H->gW (K w.params) H a (ns.map V.int)->sp w [.ref a] H (fun v _=>v=.bl true) fun _ _ _=>False)
 (Ux:∀(w:zc6) (H:Hp) (s:zde) (e:zc5) (s':zde),CX w [] H s (fun _ _ _=>False) e s'->False) :
 PySem.W.WalkO q loose XP YP l.row.toRowW d [] (fun f vs=>PySem.call f vs):=by
 refine V5.BP hn Ru fun w s₀ s₁ mg mb fa o pm cd doc a vs ns G Y ho hd Gk Rv O9 hints hlen hg=>?_;have KX:=hY w _ Y;obtain⟨fd,hb,hF⟩:=F w mg fa _ KX G.T.g Rv;exact Jg KX G.T.g G.T.b G.T.builtins G.T.nolimit hg O9 hints (zaA hlen S3) hr hF hb (fun H hO hS=>Gz w H a ns hlen hO hS) fun H e s'=>Ux w H s₁ e s'
def inClass (s:Stmt) (j:Nat):Stmt:=match s with
 |.ClassDef _ _ _ body _ _ _ _ _ _ _=>body.getD j (.Pass ⟨0,0,0,0⟩)
 |_=>.Pass ⟨0,0,0,0⟩
def cJ (s:Stmt):Arguments:=match s with
 |.FunctionDef _ a _ _ _ _ _ _ _ _=>a
 |_=>{posonlyargs:=[],args:=[],vararg:=none,kwonlyargs:=[],kw_defaults:=[],kwarg:=none,defaults:=[]}
def cp (s:Stmt):List Stmt:=match s with
 |.FunctionDef _ _ b _ _ _ _ _ _ _=>b
 |_=>[]
def az (s:Stmt):Scope:=match s with
 |.FunctionDef _ _ _ _ _ _ sc _ _ _=>sc
 |_=>{kind:=.function,names:=[],isGenerator:=false,isCoroutine:=false}
abbrev lS:D0:=fun _ _ _ _ _ _=>False
abbrev E0:XK:=fun _ _ _=>False
theorem cy{X:Cx}:Passes lS X E0:=fun _ _ _ _ _ _ _ h=>h.elim
structure Bv(K:zac)(x qual:Str)(st:Stmt)(f:zc4)(fd:zdd):Prop where
 ex:∃(oc:zc5) (od:Option zc4) (kV doc pm:zc5) (an:Option zc4) (dW ct:zc5) (IX:Array (Option zc5)),
  fd=zaG x qual (cJ st) (cp st) (az st) .none kV doc pm an dW ct/\K.lookup f=some ⟨oc,od,.func fd,IX⟩/\za4 K dW qual=true
 kp:zaQ K (.ref f)=true
section
variable{P:zdg}{w:zc6}{K:zac}{mg:Str->Option zc5}{base:Heap}
theorem Bv.ok{x qual:Str}{st:Stmt}{f:zc4}{fd:zdd}{N ps:List Str}{k:Nat}{sp:Sp}(F:Bv K x qual st f fd)(S:a8 N ps (az st))(len:∀vs H Q E,sp vs H Q E->vs.length=ps.length)
 (wj:∀(dW:zc5) (A:zdf) (outer:List Env) (s:zde) (H:Hp) (vs:List V) (Q:VK) (E:XK),fQ k (A.deeper (envOfC qual (az st) s.heap.objs.size f dW))->sp vs H Q E->
  ∃t,DL (jO lS P w K mg base N qual (az st) f dW A outer s H E).QV (cp st) t/\t {nx:=fun _ H'=>Q .da H',rt:=Q} (start N vs) H):bC P w K mg base lS (k+1) f fd ps sp:=by
 obtain⟨oc,od,kV,doc,pm,an,dW,ct,IX,rfl,lk,Gk⟩:=F.ex;refine NG lk Gk S len fun A outer s H vs Q E hr Gz=>?_;obtain⟨t,h,q⟩:=wj dW A outer s H vs Q E hr Gz;exact⟨t,h.QV,q⟩
theorem Bv.binds{x qual:Str}{st:Stmt}{f:zc4}{fd:zdd}{ps:List Str}(F:Bv K x qual st f fd)
 (h:∀(kV doc pm:zc5) (an:Option zc4) (dW ct:zc5) (us:List zc5),us.length=ps.length->bindArgs (zaG x qual (cJ st) (cp st) (az st) .none kV doc pm an dW ct) ⟨us,[]⟩=pure (ps.zip us)):Binds K fd ps []:=by
 obtain⟨oc,od,kV,doc,pm,an,dW,ct,IX,rfl,lk,Gk⟩:=F.ex;exact .all (h kV doc pm an dW ct)
theorem o9{x qual:Str}{st:Stmt}{f:zc4}{oc:zc5}{od an:Option zc4}{IX:Array (Option zc5)}{kV doc pm dW ct:zc5}(l:K.lookup f=some ⟨oc,od,.func (zaG x qual (cJ st) (cp st) (az st) .none kV doc pm an dW ct),IX⟩)
 (c:za4 K dW qual=true) (k:zaQ K (.ref f)=true):Bv K x qual st f (zaG x qual (cJ st) (cp st) (az st) .none kV doc pm an dW ct):=⟨⟨oc,od,kV,doc,pm,an,dW,ct,IX,rfl,l,c⟩,k⟩
end
theorem zK{A:zdf}{k:Nat}(hr:fQ k A):A.units+1<cLine:=zbO (Nat.add_le_add_left (by decide:1<=64) _) hr.units
theorem zL{n:Nat}(h:n<=1000):n<zdc:=zbO h (by decide)
section
variable{X:Cx}
theorem pv(i:Nat){x:Str}{pos:Pos}(hN:X.N[i]?=some x:=by rfl)(hv:SV X.env.scope x:=by first |exact zas rfl |exact zcN (zas rfl) |exact zcN (zcN rfl))(hd:(x==("__debug__":Str))=false:=by decide)
 (Gk:(x==("__classdict__":Str))=false:=by decide):PE X (.Name x pos) (eP i):=Oy hN hv hd Gk
end
theorem bq{c A B:Prop}[Decidable c](h1:c->A)(h2:¬c->B):if c then A else B:=by
 by_cases h:c
 ·rw[if_pos h];exact h1 h
 ·rw[if_neg h];exact h2 h
def aq (H H':Hp):Prop:=∀b o,H b=some o->H' b=some o
theorem aq.refl(H:Hp):aq H H:=fun _ _ h=>h
theorem aq.trans{H H1 H2:Hp}(a:aq H H1)(b:aq H1 H2):aq H H2:=fun c o h=>b c o (a c o h)
theorem aq.free{H H':Hp}(e:aq H H'){l:zc4}(h:H' l=zc3):H l=zc3:=by
 cases q:H l with
 |none=>rfl
 |some o=>
  rw[e l o q] at h;cases h
theorem aq.seq{K:zac}{H H':Hp}{a:zc4}{xs:List V}(e:aq H H')(h:gW K H a xs):gW K H' a xs:=by
 rcases h with (h |⟨o,h⟩) |h
 ·exact .inl (.inl (e _ _ h))
 ·exact .inl (.inr ⟨o,e _ _ h⟩)
 ·exact .inr h
section
variable{κ:Type}[DecidableEq κ]
def d4 (bg:List (κ×V)) (k:κ):Option V:=(bg.find? fun kv=>decide (kv.1=k)).map (·.2)
def putK (bg:List (κ×V)) (k:κ) (v:V):List (κ×V):=
 if (bg.any fun kv=>decide (kv.1=k))=true then bg.map (fun kv=>if kv.1=k then (kv.1,v) else kv) else bg++[(k,v)]
theorem dE{p:κ×V}{r:List (κ×V)}{k:κ}(e:p.1=k):d4 (p::r) k=some p.2:=by simp[d4,zbu,e]
theorem dF{p:κ×V}{r:List (κ×V)}{k:κ}(e:¬p.1=k):d4 (p::r) k=d4 r k:=by simp[d4,zbu,e]
theorem pd(k:κ):∀bg:List (κ×V),(bg.any fun kv=>decide (kv.1=k))=(d4 bg k).isSome
 |[]=>rfl
 |p::r=>by
  rw[zbV];by_cases e:p.1=k
  ·simp only[dE e,decide_eq_true e,Bool.true_or,Option.isSome_some]
  ·rw[dF e,decide_eq_false e,Bool.false_or];exact pd k r
theorem BQ(k j:κ)(y:V):∀bg:List (κ×V),d4 (bg.map fun kv=>if kv.1=k then (kv.1,y) else kv) j=(d4 bg j).map fun x=>if j=k then y else x
 |[]=>rfl
 |p::r=>by
  have ih:=BQ k j y r;rw[zay];by_cases h:p.1=k
  ·rw[if_pos h];by_cases e:p.1=j
   ·rw[dE (p:=(p.1,y)) e,dE e,zbd,if_pos (e.symm.trans h)]
   ·rw[dF (p:=(p.1,y)) e,dF e,ih]
  ·rw[if_neg h];by_cases e:p.1=j
   ·rw[dE (p:=p) e,dE e,zbd,if_neg (fun z=>h (e.trans z))]
   ·rw[dF (p:=p) e,dF e,ih]
theorem zM(k j:κ)(y:V):∀bg:List (κ×V),d4 bg k=none->d4 (bg++[(k,y)]) j=if j=k then some y else d4 bg j
 |[],_=>by
  by_cases e:k=j
  ·rw[if_pos e.symm];exact dE (p:=(k,y)) e
  ·rw[if_neg (fun z=>e z.symm)];exact dF (p:=(k,y)) e
 |p::r,hn=>by
  rw[zaY];have hk:¬p.1=k:=fun z=>by rw[dE z] at hn;cases hn
  rw[dF hk] at hn;have ih:=zM k j y r hn;by_cases e:p.1=j
  ·rw[dE e,dE e,if_neg (fun z=>hk (e.trans z))]
  ·rw[dF e,dF e,ih]
theorem BR(bg:List (κ×V))(k j:κ)(y:V):d4 (putK bg k y) j=if j=k then some y else d4 bg j:=by
 unfold putK;by_cases a:(bg.any fun kv=>decide (kv.1=k))=true
 ·rw[if_pos a,BQ];rw[pd] at a;by_cases e:j=k
  ·obtain⟨x,hx⟩:=zcr.mp a;rw[if_pos e,e,hx,zbd,if_pos rfl]
  ·rw[if_neg e];cases d4 bg j with
   |none=>rfl
   |some x=>rw[zbd,if_neg e]
 ·rw[if_neg a];refine zM k j y bg ?_;rw[pd] at a;cases q:d4 bg k with
  |none=>rfl
  |some x=>rw[q] at a;exact(a rfl).elim
theorem oX.zN{o:Option V}{u:Option zc5}(r:oX o u):o.isSome=u.isSome:=by
 cases o with
 |none=>cases u with
  |none=>rfl
  |some _=>exact(show False from r).elim
 |some _=>cases u with
  |none=>exact(show False from r).elim
  |some _=>rfl
theorem oX.getD{o:Option V}{u:Option zc5}{d:V}{d':zc5}(r:oX o u)(rd:RelV d d'):RelV (o.getD d) (u.getD d'):=by
 cases o with
 |none=>cases u with
  |none=>exact rd
  |some _=>exact(show False from r).elim
 |some _=>cases u with
  |none=>exact(show False from r).elim
  |some _=>exact r
theorem KV.val{bg:List (κ×V)}{vs:List (κ×zc5)}(r:KV bg vs)(k:κ):oX (d4 bg k) (valueAt vs k):=by
 unfold KV at r
 induction r with
 |nil=>exact True.intro
 |@cons p q ps qs h t ih=>
  obtain⟨h1,h2⟩:=h;by_cases e:p.1=k
  ·have e':q.1=k:=h1.symm.trans e;have b:valueAt (q::qs) k=some q.2:=by simp[valueAt,zbu,e']
   rw[dE e,b];exact h2
  ·have e':¬q.1=k:=fun z=>e (h1.trans z);have b:valueAt (q::qs) k=valueAt qs k:=by simp[valueAt,zbu,e']
   rw[dF e,b];exact ih
theorem KV.any{bg:List (κ×V)}{vs:List (κ×zc5)}(r:KV bg vs)(k:κ):(bg.any fun kv=>decide (kv.1=k))=vs.any fun kv=>decide (kv.1=k):=by
 unfold KV at r
 induction r with
 |nil=>rfl
 |cons h t ih=>rw[zbV,zbV,ih,h.1]
theorem KV.Pb{bg:List (κ×V)}{vs:List (κ×zc5)}(r:KV bg vs)(k:κ){y:V}{u:zc5}(ry:RelV y u) :
 KV (bg.map fun kv=>if kv.1=k then (kv.1,y) else kv) (vs.map fun kv=>if kv.1=k then (kv.1,u) else kv):=by
 unfold KV at r ⊢
 induction r with
 |nil=>exact .nil
 |@cons p q ps qs h t ih=>
  rw[zay,zay];refine .cons ?_ ih;obtain⟨h1,h2⟩:=h;by_cases e:p.1=k
  ·rw[if_pos e,if_pos (h1.symm.trans e)];exact⟨h1,ry⟩
  ·rw[if_neg e,if_neg (fun z=>e (h1.trans z))];exact⟨h1,h2⟩
theorem KV.put{bg:List (κ×V)}{vs:List (κ×zc5)}(r:KV bg vs)(k:κ){y:V}{u:zc5}(ry:RelV y u):KV (putK bg k y) (stored vs k u):=by
 unfold putK stored;rw[r.any k];by_cases e:(vs.any fun kv=>decide (kv.1=k))=true
 ·rw[if_pos e,if_pos e];exact r.Pb k ry
 ·rw[if_neg e,if_neg e];exact Paired.snoc r ⟨rfl,ry⟩
theorem KV.length{bg:List (κ×V)}{vs:List (κ×zc5)}(r:KV bg vs):bg.length=vs.length:=Paired.length r
end
theorem Jh{P:zdg}{w:zc6}{k:Key}{u:zc5}(r:RelV (kV k) u):(eI P w).is k u=true:=by
 cases k with
 |inl i=>obtain⟨t,e⟩:=(show ∃t,u=Value.int i t from r);subst e;exact Bz P w i t
 |inr x=>obtain⟨t,e⟩:=(show ∃t,u=Value.str x t from r);subst e;exact BA P w x t
abbrev KT (H:Hp):List (List Key×V)->List (List Key×zc4×zc5)->Prop:=Paired fun p q=>p.1=q.1/\H q.2.1=some (.tup (p.1.map kV))/\RelV p.2 q.2.2
theorem KT.val{H:Hp}{bg:List (List Key×V)}{xs:List (List Key×zc4×zc5)}(r:KT H bg xs)(k:List Key):oX (d4 bg k) ((atKey xs k).map (·.2)):=by
 induction r with
 |nil=>exact True.intro
 |@cons p q ps qs h t ih=>
  obtain⟨h1,_,h2⟩:=h;by_cases e:p.1=k
  ·have e':q.1=k:=h1.symm.trans e;have b:atKey (q::qs) k=some q.2:=by simp[atKey,zbu,e']
   rw[dE e,b];exact h2
  ·have e':¬q.1=k:=fun z=>e (h1.trans z);have b:atKey (q::qs) k=atKey qs k:=by simp[atKey,zbu,e']
   rw[dF e,b];exact ih
theorem KT.Pb{H:Hp}{bg:List (List Key×V)}{xs:List (List Key×zc4×zc5)}(r:KT H bg xs)(k:List Key){y:V}{u:zc5}(ry:RelV y u) :
 KT H (bg.map fun kv=>if kv.1=k then (kv.1,y) else kv) (xs.map (putAt k u)):=by
 induction r with
 |nil=>exact .nil
 |@cons p q ps qs h t ih=>
  rw[zay,zay];refine .cons ?_ ih;obtain⟨h1,h2,h3⟩:=h;unfold putAt;by_cases e:p.1=k
  ·rw[if_pos e,if_pos (h1.symm.trans e)];exact⟨h1,h2,ry⟩
  ·rw[if_neg e,if_neg (fun z=>e (h1.trans z))];exact⟨h1,h2,h3⟩
theorem KT.put{H:Hp}{bg:List (List Key×V)}{xs:List (List Key×zc4×zc5)}(r:KT H bg xs)(k:List Key){b:zc4}{y:V}{u:zc5}(hb:H b=some (.tup (k.map kV)))(ry:RelV y u) :
 KT H (putK bg k y) (storedH xs k b u):=by
 have e:(bg.any fun kv=>decide (kv.1=k))=(atKey xs k).isSome:=by
  rw[pd,(r.val k).zN,Option.isSome_map]
 unfold putK storedH;rw[e];by_cases q:(atKey xs k).isSome=true
 ·rw[if_pos q,if_pos q];exact r.Pb k ry
 ·rw[if_neg q,if_neg q];exact Paired.snoc r ⟨rfl,hb,ry⟩
def D7 (H:Hp) (a:zc4) (y:V) (r:Option V):Prop:=
 (∃bg k,Rd H a (.dK bg)/\y=kV k/\r=d4 bg k)\/∃bg k b,Rd H a (.dT bg)/\y=.ref b/\H b=some (.tup (k.map kV))/\r=d4 bg k
def Ms (H:Hp) (a:zc4) (y v:V) (H':Hp):Prop:=
 (∃bg k,H a=some (.dK bg)/\y=kV k/\bg.length<zdc/\H'=upd H a (.dK (putK bg k v)))\/
 ∃bg k b,H a=some (.dT bg)/\y=.ref b/\H b=some (.tup (k.map kV))/\bg.length<zdc/\H'=upd H a (.dT (putK bg k v))
theorem D7.k{H:Hp}{a:zc4}{bg:List (Key×V)}{k:Key}(e:H a=some (.dK bg)):D7 H a (kV k) (d4 bg k):=.inl ⟨bg,k,.inl e,rfl,rfl⟩
theorem Ms.k{H:Hp}{a:zc4}{bg:List (Key×V)}{k:Key}{v:V}(e:H a=some (.dK bg))(hl:bg.length<zdc):Ms H a (kV k) v (upd H a (.dK (putK bg k v))):=.inl ⟨bg,k,e,rfl,hl,rfl⟩
section
variable{X:Cx}{pins:List (zc4×Obj)}{σ:St}{H:Hp}{s:zde}{a:zc4}{y v:V}{u r:zc5}{o:Option V}{A:zdf}{E:zc5->zde->Prop}
theorem Fs{h':Heap}{t':Nat}{ob:HO}(I:Inv X pins σ H s)(mu:QN (H a))(hs:Heap.SameBut a s.heap h')(he:∃q,h'.get? a=some q)(new:dB X.prog X.w (upd H a ob) h' a ob) :
 Inv X pins σ (upd H a ob) {s with heap:=h',toks:=t' }:=
 I.write (x:=a) (e:=a) mu (.inl rfl) (fun b q hb z=>(hs.2 b hb).trans z) he new
end
def Rx (td ty:TE):TE:=fun σ H Q=>td σ H fun x H1=>ty σ H1 fun y H2=>∃a v,x=.ref a/\D7 H2 a y (some v)/\Q v H2
def Ry (td ty tv:TE):TS:=fun D σ H=>tv σ H fun v H1=>td σ H1 fun x H2=>ty σ H2 fun y H3=>∃a H4,x=.ref a/\Ms H3 a y v H4/\D.nx σ H4
def Pc:TE:=fun _ H Q=>∀p,H p=none->Q (.ref p) (upd H p (.dK []))
structure M2(X:Cx)(o:Expr)(m:Str)(apos:Pos)(e f:Expr)(iy:Pos):Prop where
 base:attributeBase o m X.env (eval o X.env)=eval o X.env
 LV:((backTo iy (zda [e,f] X.env)).all (fun x=>!x.1)&&(backToKw iy (keywordEach [] X.env)).all (fun x=>x.1.isSome)
  && decide (([e,f]:List Expr).length+([]:List Keyword).length+(if ([]:List Keyword).isEmpty then 0 else 1)<30))=true
 line:(apos.endLine==iy.line)=true
 trees:backTo iy (zda [e,f] X.env)=[(false,eval e X.env),(false,eval f X.env)]
def tU (env:Env):List (Str×NameKind)->List (Str×zc4)->List (Str×zc4)
 |[],cs=>cs
 |(n,k)::r,cs=>tU env r (if k==.free then (n,(env.cells.lookup n).getD 0)::cs else cs)
theorem vf{scope:Scope}{env:Env}(h:∀p∈scope.names,p.2=.free->∃c,env.cells.lookup p.1=some c):closureFor scope env=pure (tU env scope.names []):=by
 have all:∀(l:List (Str×NameKind)) (cs:List (Str×zc4)),(∀p∈l,p.2=.free->∃c,env.cells.lookup p.1=some c)->
  (forIn l cs fun (x:Str×NameKind) (r:List (Str×zc4))=>if (x.2==NameKind.free)=true then do let a <- cellOf env x.1;pure (ForInStep.yield ((x.1,a)::r)) else (pure (ForInStep.yield r):Sem _))=pure (tU env l cs):=by
  intro l
  induction l with
  |nil=>intro cs _;rfl
  |cons p r ih=>
   intro cs hp;obtain⟨n,k⟩:=p;rw[zcF];by_cases hk:k=.free
   ·subst hk;obtain⟨c,e⟩:=hp (n,.free) zaD rfl;have e1:cellOf env n=pure c:=by unfold cellOf;rw[e]
    simp only[beq_self_eq_true,if_true,e1,pure_bind];rw[ih _ fun p Mu=>hp p (zaq _ Mu)];simp[tU,e]
   ·have hb:(k==NameKind.free)=false:=by simpa using hk
    simp only[hb,za7,if_false,pure_bind];rw[ih _ fun p Mu=>hp p (zaq _ Mu)];simp[tU,hb]
 simp only[closureFor];rw[all scope.names [] h];simp
theorem sq{env:Env}{x:Str}{c:zc4}:∀ {l:List (Str×NameKind)} {cs:List (Str×zc4)},(∀p∈l,p.2=.free->∃c,env.cells.lookup p.1=some c)->(∀x c,cs.lookup x=some c->env.cells.lookup x=some c)->
 (tU env l cs).lookup x=some c->env.cells.lookup x=some c
 |[],_,_,h,e=>h x c e
 |(n,k)::r,cs,hp,h,e=>by
  unfold tU at e;refine sq (fun p q=>hp p (zaq _ q)) ?_ e;intro y d q;by_cases hk:k=.free
  ·subst hk;obtain⟨c',e'⟩:=hp (n,.free) zaD rfl;simp only[beq_self_eq_true,if_true] at q;rw[za8] at q;cases hy:y==n with
   |true=>
    rw[hy] at q;have:y=n:=by simpa using hy
    subst this;simp only at e';rw[e'] at q ⊢;exact q
   |false=>rw[hy] at q;exact h y d q
  ·have hb:(k==NameKind.free)=false:=by simpa using hk
   simp only[hb,za7,if_false] at q;exact h y d q
theorem wq{env:Env}{x:Str}:∀ {l:List (Str×NameKind)} {cs:List (Str×zc4)},((∃c,cs.lookup x=some c)\/(x,NameKind.free)∈l)->∃c,(tU env l cs).lookup x=some c
 |[],_,h=>by
  rcases h with h |h
  ·exact h
  ·exact absurd h (by simp)
 |(n,k)::r,cs,h=>by
  unfold tU
  apply wq
  rcases h with ⟨c,h⟩ |h
  ·left
   by_cases hk:k=.free
   ·subst hk;simp only[beq_self_eq_true,if_true];rw[za8];cases hy:x==n with
    |true=>exact⟨_,rfl⟩
    |false=>exact⟨c,h⟩
   ·have hb:(k==NameKind.free)=false:=by simpa using hk
    simp only[hb,za7,if_false];exact⟨c,h⟩
  ·rcases zak.mp h with e |h
   ·injection e with e1 e2
    subst e1;subst e2
    left
    simp only[beq_self_eq_true,if_true];rw[za8];simp
   ·exact .inr h
theorem pe{scope:Scope}{env:Env}{x:Str}:(relabel scope env).names.lookup x=(scope.names.lookup x).map fun k=>if (k==NameKind.free&&env.scope.kind==.function&&env.kindOf x==some .cell)=true then .cell else k:=by
 unfold relabel;show zbA x (scope.names.map _)=_;generalize scope.names=l
 induction l with
 |nil=>rfl
 |cons p r ih=>
  obtain⟨n,k⟩:=p;rw[zay,za8 (as:=r)];show zbA x ((if (k==NameKind.free&&env.scope.kind==.function&&env.kindOf n==some .cell)=true then (n,NameKind.cell) else (n,k))::_)=_;cases hx:x==n with
  |true=>
   have e:x=n:=by simpa using hx
   subst e;by_cases hc:(k==NameKind.free&&env.scope.kind==.function&&env.kindOf x==some .cell)=true
   ·rw[if_pos hc];simp only[za8,beq_self_eq_true,zbd];rw[if_pos hc]
   ·rw[if_neg hc];simp only[za8,beq_self_eq_true,zbd];rw[if_neg hc]
  |false=>
   by_cases hc:(k==NameKind.free&&env.scope.kind==.function&&env.kindOf n==some .cell)=true
   ·rw[if_pos hc];simp only[za8,hx];exact ih
   ·rw[if_neg hc];simp only[za8,hx];exact ih
theorem mem_of_lookup{x:Str}{k:NameKind}:∀ {l:List (Str×NameKind)},l.lookup x=some k->(x,k)∈l
 |[],h=>by simp at h
 |(n,j)::r,h=>by
  rw[za8] at h;cases hx:x==n with
  |true=>
   rw[hx] at h;have e:x=n:=by simpa using hx
   cases h;subst e;exact zaD
  |false=>rw[hx] at h;exact zaq _ (mem_of_lookup h)
def lV (sc out:Scope):Bool:=
 (sc.names.all fun p=>p.2 != .cell&&(p.2 != .free ||out.names.lookup p.1==some .cell ||out.names.lookup p.1==some .free)&&(p.2 != .local ||sc.names.lookup p.1==some .local))&&decide (sc.kind=.function)
def Aw (sc out:Scope) (N:List Str) (ix:List Nat):Bool:=
 ix.all fun i=>sc.names.lookup (N.getD i "")==some .free&&(out.names.lookup (N.getD i "")==some .cell ||out.names.lookup (N.getD i "")==some .free)
def Ji (σ:St) (ix:List Nat):St:=ix.map fun i=>σ.getD i none
abbrev Ft (N:List Str) (ix:List Nat):List Str:=ix.map fun i=>N.getD i ""
def oy (X:Cx) (scope:Scope) (own:List Str) (ix:List Nat) (C:zc4) (s₀:zde) (H₀:Hp) (ex:List zc4):Cx where
 prog:=X.prog
 w:=X.w
 K:=X.K
 mg:=X.mg
 base:=X.base
 A:=X.A
 N:=own++Ft X.N ix
 s₀:=s₀
 H₀:=H₀
 env:=compEnvC scope (tU X.env scope.names []) C X.env
 outer:=X.stack
 stack:=X.stack
 ex:=ex
 fn:=fun _=>false
 calm:=X.calm
 pn:=[]
 xe:=fun _ _=>False
section
variable{X:Cx}{pins:List (zc4×Obj)}{σ:St}{H:Hp}{s:zde}
theorem pf{sc out:Scope}(h:lV sc out=true):∀p∈sc.names,p.2≠.cell/\(p.2=.free->out.names.lookup p.1=some .cell\/out.names.lookup p.1=some .free)/\(p.2=.local->sc.names.lookup p.1=some .local):=by
 intro p hp;unfold lV at h;rw[zaK] at h;have:=za2.mp h.1 p hp;simp only[zaK,Bool.or_eq_true,bne_iff_ne,beq_iff_eq,ne_eq] at this;obtain⟨⟨h1,h2⟩,h3⟩:=this;refine⟨h1,fun e=>?_,fun e=>?_⟩
 ·rcases h2 with (h2 |h2) |h2
  ·exact absurd e h2
  ·exact .inl h2
  ·exact .inr h2
 ·rcases h3 with h3 |h3
  ·exact absurd e h3
  ·exact h3
theorem nQ{sc out:Scope}(h:lV sc out=true):sc.kind=.function:=by
 unfold lV at h;rw[zaK] at h;exact of_decide_eq_true h.2
theorem Mv{scope:Scope}{own:List Str}{ix:List Nat}{ex:List zc4}(I:Inv X pins σ H s)(hf:lV scope X.env.scope=true)(hx:∀b∈ex,qU X pins H b/\b<s.heap.objs.size):(oy X scope own ix s.heap.objs.size s H ex).Ok:=by
 have fits:=(pf hf)
 have r9:∀p∈scope.names,p.2=.free->∃c,X.env.cells.lookup p.1=some c:=fun p hp e=>I.ok.has p.1 ((fits p hp).2.1 e);have sub:∀ {x:Str} {c:zc4},(tU X.env scope.names []).lookup x=some c->X.env.cells.lookup x=some c:=fun {x c} e=>sq r9 (fun x c e=>by simp at e) e;refine⟨I.ok.mod,(show scope.kind=.function from nQ hf),I.ok.glob,I.ok.blt,zai _,fun x y c a b=>I.ok.inj x y c (sub a) (sub b),fun x hk=>?_,fun x c e=>(by cases e),I.ok.hd,I.ok.frames,.inl rfl,fun b hb=>⟨zaF (hx b hb).2,fun x c e=>(hx b hb).1.2.2.2.2.1 x c (sub e)⟩,I.bs,zaA I.ok.DP I.sz,fun b o e hb=>?_,fun b hb hs=>?_,I.stack,I.vE⟩
 ·refine wq (.inr ?_);have Qx:(relabel scope X.env).names.lookup x=some .cell\/(relabel scope X.env).names.lookup x=some .free:=hk;rw[pe] at Qx;cases q:scope.names.lookup x with
  |none=>rw[q] at Qx;rcases Qx with z |z<;>cases z
  |some k=>
   have hm:=mem_of_lookup q;by_cases UA:k=.free
   ·subst UA;exact hm
   ·rw[q] at Qx;have hb:(k==NameKind.free)=false:=by simpa using UA
    simp only[zbd,hb,Bool.false_and,za7,if_false,zav.injEq] at Qx;rcases Qx with z |z
    ·exact absurd z (fits _ hm).1
    ·exact absurd z UA
 ·rcases(hx b hb).1.2.2.2.1 with z |z
  ·exact I.ok.Am b o e z
  ·exact absurd (zaC (Heap.lt_size e) (zaA I.ok.DP z)) (zbw _)
 ·rcases zak.mp (I.tM b hs) with z |z
  ·exact(hx b hb).1.2.1 z
  ·exact(hx b hb).1.2.2.1 z
theorem Jj{scope:Scope}{own:List Str}{ix:List Nat}{ex:List zc4}{h':Heap}{tk:Nat}(I:Inv X pins σ H s)(hf:lV scope X.env.scope=true)(hc:Aw scope X.env.scope X.N ix=true)(hx:∀b∈ex,qU X pins H b/\b<s.heap.objs.size)
 (hn:h'.Ns s.heap.objs.size fun _=>none) (hk:∀b o,s.heap.get? b=some o->h'.get? b=some o):Inv (oy X scope own ix s.heap.objs.size s H ex) [] (zat own.length none++Ji σ ix) H {s with heap:=h',toks:=tk}:=by
 have fits:=(pf hf)
 have r9:∀p∈scope.names,p.2=.free->∃c,X.env.cells.lookup p.1=some c:=fun p hp e=>I.ok.has p.1 ((fits p hp).2.1 e);have sub:∀ {x:Str} {c:zc4},(tU X.env scope.names []).lookup x=some c->X.env.cells.lookup x=some c:=fun {x c} e=>sq r9 (fun x c e=>by simp at e) e;refine⟨Mv I hf hx,rfl,I.bare,Un.kept hk,⟨_,hn,fun i x v e1 e2 e3=>?_⟩,fun x c e=>?_,I.dq.fresh (zai _),fun x c e=>I.js x c (sub e),fun p hp=>absurd (show p∈([]:List (zc4×Obj))++[] from hp) (by simp),I.dq.kept hk,?_⟩
 ·have e1:(own++Ft X.N ix)[i]?=some x:=e1;by_cases hi:i<own.length
  ·rw[zbk (by simpa using hi),zcB,if_pos hi] at e2;cases e2
  ·have NJ:own.length<=i:=Nat.le_of_not_lt hi;rw[za3 (by simpa using NJ),zbG] at e2;rw[za3 NJ] at e1;unfold Ji at e2;unfold Ft at e1;rw[zaN] at e1 e2;cases q:ix[i-own.length]? with
   |none=>rw[q] at e2;cases e2
   |some j=>
    rw[q] at e1 e2;simp only[zbd,zav.injEq] at e1 e2;have hj:j∈ix:=zbI q;have fit:=za2.mp hc j hj;simp only[zaK,Bool.or_eq_true,beq_iff_eq] at fit;rw[e1] at fit;have ej:σ[j]?=some (some v):=by
     rw[zaE] at e2;cases r:σ[j]? with
     |none=>rw[r] at e2;cases e2
     |some z=>rw[r] at e2;simp only[Option.getD_some] at e2;rw[e2]
    have Xu:j<X.N.length:=by rw[<- I.len];exact(zan.mp ej).1
    have en:X.N[j]?=some x:=by
     rw[zaE] at e1;rw[zah Xu] at e1 ⊢;simp only[Option.getD_some] at e1;rw[e1]
    obtain⟨m,hm,hl⟩:=I.loc;have hv:SV X.env.scope x:=by
     rcases fit.2 with z |z
     ·exact .inr (.inl z)
     ·exact .inr (.inr z)
    obtain⟨u,r,l⟩:=hl j x v en ej hv;refine⟨u,r,.inr ⟨?_,?_⟩⟩
    ·show (relabel scope X.env).names.lookup x=some .cell\/(relabel scope X.env).names.lookup x=some .free;rw[pe,fit.1];simp only[zbd];split
     ·exact .inl rfl
     ·exact .inr rfl
    ·rcases l with ⟨k1,_⟩ |⟨_,c,ec,E8⟩
     ·have k1:X.env.scope.names.lookup x=some .local:=k1;rcases fit.2 with z |z<;>(rw[z] at k1;cases k1)
     ·obtain⟨c',e'⟩:∃c,(tU X.env scope.names []).lookup x=some c:=wq (.inr (mem_of_lookup fit.1));have:=sub e';rw[ec] at this;cases this;exact⟨c,e',E8.keeps hk⟩
 ·obtain⟨v,z⟩:=I.cell x c (sub e);exact⟨v,z.keeps hk⟩
 ·show (zat own.length none++Ji σ ix).length=(own++Ft X.N ix).length;simp[Ji]
theorem comp_back{scope:Scope}{own:List Str}{ix:List Nat}{ex:List zc4}{τ:St}{H':Hp}{s':zde}{uD:List (zc4×Obj)}(I:Inv X pins σ H s)(hx:∀b∈ex,qU X pins H b/\b<s.heap.objs.size)
 (I':Inv (oy X scope own ix s.heap.objs.size s H ex) uD τ H' s'):Inv X pins σ H' s'/\H' s.heap.objs.size=none/\s.heap.objs.size≠X.env.locals/\X.s₀.heap.objs.size<=s.heap.objs.size/\(∀x c,X.env.cells.lookup x=some c->c≠s.heap.objs.size)/\∀p∈X.pn++pins,p.1≠s.heap.objs.size:=by
 refine⟨I.Nz (ch:=ex) I'.os I'.base I'.dq I'.bare fun b hb=>?_,I'.free,zc1 I.lt,I.sz,fun x c e z=>?_,fun p hp z=>?_⟩
 ·obtain⟨f0,f1,f2,f3,f4,f5⟩:=(hx b hb).1;exact⟨f3,f1,f4,f5⟩
 ·obtain⟨v,q⟩:=I.cell x c e;exact absurd q.lt (by rw[z];exact zbw _)
 ·exact absurd (Heap.lt_size (I.pin p hp).1) (by rw[z];exact zbw _)
end
def Rz (X:Cx) (ifs:List Expr) (t:TT):Prop:=
 ∀(pins:List (zc4×Obj)) (s:zde) (σ:St) (H:Hp) (Q:Bool->Hp->Prop),Inv X pins σ H s->t σ H Q->
  wpAny (model X.prog X.w) X.A (forIn ifs true fun c r=>if r=true then do let ok <- isTrue c X.env (eval c X.env);pure (ForInStep.yield ok) else pure (ForInStep.yield r)) (TP X pins σ Q) X.xe s
def Jk:TT:=fun _ H Q=>Q true H
theorem Ax{X:Cx}:Rz X [] Jk:=fun _ _ _ H _ I h=>wpAny_tests_nil ⟨H,I,h⟩
theorem Mw{X:Cx}{c:Expr}{t:TT}(h:PT X c t):Rz X [c] t:=fun pins s σ H Q I q=>wpAny_tests_one (h pins s σ H Q I q)
def uJ (J:It) (D:zc4) (g:TG) (tc:TT) (te:TE) (Q:VK) (τ:St) (H:Hp):Prop:=∃W:Nat->Nat->St->Hp->Prop,(∃m,W 0 m τ H)/\∀i m τ H,W i m τ H->
 (J.stop i H/\Q (.ref D) H)\/(J.go i H/\∃N:St->Hp->Prop,(∀τ' H',N τ' H'->∃m',m'<m/\W (i+1) m' τ' H')/\∀x H',J.Gm i H x H'->g x τ H' fun τ2 H2=>tc τ2 H2 fun b H3=>if b=true then
  te τ2 H3 fun y H4=>∃ys,H4 D=some (.lst ys)/\ys.length<zdc/\N τ2 (upd H4 D (.lst (ys++[y]))) else N τ2 H3)
def Jl (wi:TI) (k:Nat) (ix:List Nat) (g:TG) (tc:TT) (te:TE):TE:=fun σ H Q=>wi σ H fun J H1=>∀D,H1 D=none->uJ J D g tc te Q (zat k none++Ji σ ix) (upd H1 D (.lst []))
section
variable{X:Cx}{tg iter elt:Expr}{ifs:List Expr}{scope:Scope}{pos:Pos}{own:List Str}{ix:List Nat}{wi:TI}{g:TG}{tc:TT}{te:TE}
theorem GD{it D:zc4}{fp:List zc4}{tn:Nat->Heap->Prop}{J:It}{Q:VK}{R:Result->zde->Prop}{s:zde}{τ:St}{H:Hp}(uK:X.calm=true)(Xv:X.xe=fun _ _=>False)(ZR:X.pn=[])(T:Turn X.prog X.w X.K tg J fp it tn)
 (he:PE X elt te) (hg:PG X tg g) (ht:Rz X ifs tc) (I:Inv X [] τ H s) (V7:∀b∈fp,qU X [] H b) (h0:tn 0 s.heap) (hW:uJ J D g tc te Q τ H)
 (hR:∀τ' H' s',Inv X [] τ' H' s'->Q (.ref D) H'->R (.ok .next) s') :
 codeAny (model X.prog X.w) X.A (.compLoop (.ListComp elt [⟨tg,iter,ifs,0⟩] scope pos) 0 (.ref it) (.ref D) X.env) R s:=by
 obtain⟨W,⟨m0,w0⟩,turn⟩:=hW;have no:∀ {E:zc5->zde->Prop} (e:zc5) (s':zde),X.xe e s'->E e s':=fun e s' z=>by rw[Xv] at z;exact z.elim
 have stat:∀ {H':Hp},(∀b∈fp,H' b=none)->∀b∈fp,qU X [] H' b:=fun hn b hb=>⟨hn b hb,(V7 b hb).2⟩
 refine codeAny_loop rfl (fun n s'=>∃i τ' H',Inv X [] τ' H' s'/\tn i s'.heap/\(∀b∈fp,H' b=none)/\W i n τ' H') (fun n s3 hI=>?_) m0 ⟨0,τ,H,I,h0,fun b hb=>(V7 b hb).1,w0⟩;obtain⟨i,τ3,H3,I3,ND,Q1,w3⟩:=hI;show wpAny _ X.A ((compTurn (.ListComp elt [⟨tg,iter,ifs,0⟩] scope pos) 0 (.ref it) (.ref D) X.env).onRaise (fun x=>do noteFrame x X.env;theTreesLotGoes x)) _ _ s3;refine wpAny_noted ?_;rw[compTurn_list];refine zc7 (wpAny_standAt (zc7 ?_));rcases turn i n τ3 H3 w3 with ⟨stop,q⟩ |⟨go,N,hN,step⟩
 ·refine wpAny_mono (T.done X rfl rfl rfl uK i [] s3 τ3 H3 X.xe I3 (stat Q1) ND stop) (fun r s4 zqz=>?_) no;obtain⟨hr,I4⟩:=zqz;subst hr;exact zc8 (hR τ3 H3 s4 I4 q)
 ·refine wpAny_mono (T.item X rfl rfl rfl uK i [] s3 τ3 H3 X.xe I3 (stat Q1) ND go) (fun r s4 zqz=>?_) no;obtain⟨u,hr,h4⟩:=zqz;subst hr;refine zc7 (wpAny_mono h4 (fun _ s5 zqz=>?_) no);obtain⟨x,H5,I5,r5,y5,OJ,T5⟩:=zqz;have T6:=I5.pinned (stat T5) (T.obj _ _ OJ);refine zc7 (wpAny_mono (hg _ s5 τ3 H5 x u _ T6 r5 (step x H5 y5)) (fun _ s6 zqz=>?_) no);obtain⟨τ6,H6,I6,q6⟩:=zqz;refine zc7 (wpAny_mono (ht _ s6 τ6 H6 _ I6 q6) (fun b s7 zqz=>?_) no);obtain⟨H7,I7,q7⟩:=zqz;have again:∀ {τ7:St} {H7:Hp} {s7:zde},Inv X ([]++v7 fp s5.heap) τ7 H7 s7->N τ7 H7->∃m,m<n/\∃i σ' H',Inv X [] σ' H' s7/\tn i s7.heap/\(∀b∈fp,H' b=none)/\W i m σ' H':=fun {τ7 H7 s7} I7 n7=>by
   obtain⟨m',hm,w7⟩:=hN τ7 H7 n7;refine⟨m',hm,i+1,τ7,H7,I7.m6,T.keep _ _ _ OJ fun b hb o e=>(I7.pin (b,o) (zaM _ (zaM _ (nM hb e)))).1,fun b hb=>?_,w7⟩;obtain⟨o,e,d⟩:=T.obj _ _ OJ b hb;exact(I7.pin (b,o) (zaM _ (zaM _ (nM hb e)))).2.1
  cases b with
  |false=>exact zc8 ⟨rfl,again I7 q7⟩
  |true=>
   refine zc7 (zc7 (wpAny_mono (he _ s7 τ6 H7 _ I7 q7) (fun v s8 ⟨y,H8,I8,r8,ys,hD,hl,q8⟩=>zc7 ?_) no));refine wpAny_mono (de _ s8 τ6 H8 (.ref D) [y] (.ref D) [v] (fun _ H'=>N τ6 H') I8 rfl (.cons r8 .nil) ⟨D,ys,y,rfl,rfl,hD,hl,q8⟩) (fun _ s9 zqz=>?_) no;obtain⟨_,H9,I9,_,q9⟩:=zqz;exact zc8 (zc8 ⟨rfl,again I9 q9⟩)
theorem Jm{pins:List (zc4×Obj)}{s:zde}{σ:St}{H:Hp}{Q:VK}{use:Option (zc5->Sem Unit)}{Q':zc5->zde->Prop}(uK:X.calm=true)(hf:lV scope X.env.scope=true)(hc:Aw scope X.env.scope X.N ix=true)
 (hi:PI X tg iter wi) (hg:∀C s₀ H₀ ex,PG (oy X scope own ix C s₀ H₀ ex) tg g) (ht:∀C s₀ H₀ ex,Rz (oy X scope own ix C s₀ H₀ ex) ifs tc) (he:∀C s₀ H₀ ex,PE (oy X scope own ix C s₀ H₀ ex) elt te)
 (I:Inv X pins σ H s) (h:Jl wi own.length ix g tc te σ H Q)
 (hU:∀(D C:zc4) (H':Hp) (s':zde) (m:Str->Option zc5),Inv X pins σ H' s'->Q (.ref D) H'->s'.heap.Ns C m->H' C=none->C≠X.env.locals->X.s₀.heap.objs.size<=C->(∀x c,X.env.cells.lookup x=some c->c≠C)->(∀p∈X.pn++pins,p.1≠C)->compPost (model X.prog X.w) X.A X.xe use Q' (.ref D) C (.ok .next) s')
 (hs:∀x,foldedSetIterable iter X.env x=pure x) :
 wpAny (model X.prog X.w) X.A (comprehension (.ListComp elt [⟨tg,iter,ifs,0⟩] scope pos) scope X.env (firstIterPos [⟨tg,iter,ifs,0⟩] pos) (newList []) false (eval iter X.env) use) Q' X.xe s:=by
 have fits:=(pf hf)
 have r9:∀p∈scope.names,p.2=.free->∃c,X.env.cells.lookup p.1=some c:=fun p hp e=>I.ok.has p.1 ((fits p hp).2.1 e);refine wpAny_comprehension_free (use:=use) rfl hs (vf r9) (nQ hf) (fun x hx=>(fits x hx).2.2) ?_;refine d7 (hi pins s σ H _ I h) fun v s1 h1=>d7 h1 fun T4 s2 h2=>?_;obtain⟨it,fp,tn,J,H2,e,I2,T,S1,f2,hW⟩:=h2;subst e;refine wpAny_newObj_type (hd:=by size_fits) ?_;have hD:H2 s2.heap.objs.size=none:=I2.dq.fresh (zai _);have I3:Inv X pins σ (upd H2 s2.heap.objs.size (.lst [])) {s2 with heap:=s2.heap.push {cls:=.type "list",dict:=none,data:=.seq ([]:List zc5).toArray} }:=
  I2.laid (t':=s2.toks) (fun b u e=>Heap.get?_push_of_some _ e) (zai _) ⟨za0 _,[],0,.nil,Heap.get?_push_size _ rfl⟩
 have W3:=hW s2.heap.objs.size hD;have V8:∀b∈fp,b<s2.heap.objs.size:=fun b hb=>let ⟨o,e,_⟩:=T.obj _ _ S1 b hb;Heap.lt_size e;have RA:∀b∈fp,qU X pins (upd H2 s2.heap.objs.size (.lst [])) b/\b<(s2.heap.push {cls:=.type "list",dict:=none,data:=.seq ([]:List zc5).toArray}).objs.size:=fun b hb=>
  ⟨⟨by rw[ao (zaF (V8 b hb))];exact(f2 b hb).1,(f2 b hb).2⟩,by rw[Heap.size_push];exact Nat.lt_succ_of_lt (V8 b hb)⟩
 have ND:tn 0 (s2.heap.push {cls:=.type "list",dict:=none,data:=.seq ([]:List zc5).toArray}):=T.keep _ _ _ S1 fun b _ o e=>Heap.get?_push_of_some _ e;generalize Xw:({s2 with heap:=s2.heap.push {cls:=.type "list",dict:=none,data:=.seq ([]:List zc5).toArray} }:zde)=s3 at I3;generalize ZS:upd H2 s2.heap.objs.size (.lst [])=H3 at I3 W3 RA;have eh:s2.heap.push {cls:=.type "list",dict:=none,data:=.seq ([]:List zc5).toArray}=s3.heap:=by rw[<- Xw]
 rw[eh] at RA ND;refine wpAny_newFunctionEnv (fun x hx=>(fits x hx).1) (by intro y hy;simp at hy) (fun h4 S8 Xx=>?_) (nQ hf);have kept:∀b o,s3.heap.get? b=some o->h4.get? b=some o:=fun b o e=>Xx.extBut b o (zaF (Heap.lt_size e)) (Heap.get?_push_of_some _ e);have I4:=Jj (own:=own) (tk:=s3.toks+([]:List (Str×zc5)).length) I3 hf hc RA S8 kept;have Xy:∀b∈fp,qU (oy X scope own ix s3.heap.objs.size s3 H3 fp) [] H3 b:=fun b hb=>by
  obtain⟨⟨f0,f1,Xz,f3,f4,f5⟩,lt⟩:=RA b hb;refine⟨f0,zaF lt,fun z=>?_,.inl hb,fun x c e=>f4 x c (sq r9 (fun x c e=>by simp at e) e),fun p hp=>absurd (show p∈([]:List (zc4×Obj))++[] from hp) (by simp)⟩;rcases zak.mp (I3.tM b z) with z |z
  ·exact f1 z
  ·exact Xz z
 have V9:tn 0 h4:=T.keep _ _ _ ND fun b _ o e=>kept b o e;have loop:=GD (X:=oy X scope own ix s3.heap.objs.size s3 H3 fp) (iter:=iter) (scope:=scope) (pos:=pos) (R:=compPost (model X.prog X.w) X.A X.xe use Q' (.ref s2.heap.objs.size) s3.heap.objs.size) uK rfl rfl T (he _ _ _ _) (hg _ _ _ _) (ht _ _ _ _) I4 Xy V9 W3
  (fun τ' H' s' I' q=>by
   obtain⟨J1,J2,J3,J4,J5,J6⟩:=comp_back I3 RA I';obtain⟨m,hm,_⟩:=I'.loc;exact hU _ _ H' s' m J1 q hm J2 J3 J4 J5 J6)
 exact codeAny_compStart_list loop (T.self X.A 0 _ _ _ V9 loop)
theorem vJ(uK:X.calm=true)(hf:lV scope X.env.scope=true)(hc:Aw scope X.env.scope X.N ix=true)
 (hi:PI X tg iter wi) (hg:∀C s₀ H₀ ex,PG (oy X scope own ix C s₀ H₀ ex) tg g) (ht:∀C s₀ H₀ ex,Rz (oy X scope own ix C s₀ H₀ ex) ifs tc) (he:∀C s₀ H₀ ex,PE (oy X scope own ix C s₀ H₀ ex) elt te)
 (hs:∀x,foldedSetIterable iter X.env x=pure x:=by intro _;rfl):PE X (.ListComp elt [⟨tg,iter,ifs,0⟩] scope pos) (Jl wi own.length ix g tc te):=by
 intro pins s σ H Q I h;rw[eval_ListComp];refine Jm (use:=none) uK hf hc hi hg ht he I h (fun D C H' s' m I' q hm n1 n2 n3 n4 n5=>?_) hs;refine⟨m,hm,fun h' sb=>⟨.ref D,H',?_,rfl,q⟩⟩;exact I'.turned (t':=s'.toks) (it:=C) (fun b o hb e=>sb.extBut b o hb e) n1 (Ne.symm (Ne.symm n2)) (.inr n3) n4 n5
end
inductive Dp where
 |da |bl (b:Bool) |int (i:Int) |str (x:Str) |tup (l:List Dp) |lst (l:List Dp)
mutual
def Rep (K:zac) (H:Hp):Dp->V->Prop
 |.da,v=>v=.da
 |.bl b,v=>v=.bl b
 |.int i,v=>v=.int i
 |.str x,v=>v=.str x
 |.tup l,v=>∃a xs,v=.ref a/\eQ K H a xs/\bc K H l xs
 |.lst l,v=>∃a xs,v=.ref a/\gW K H a xs/\bc K H l xs
def bc (K:zac) (H:Hp):List Dp->List V->Prop
 |[],vs=>vs=[]
 |d::ds,vs=>∃v r,vs=v::r/\Rep K H d v/\bc K H ds r
end
mutual
def Dp.deep:Dp->Nat
 |.tup l=>Dp.Jn l+1
 |.lst l=>Dp.Jn l+1
 |_=>0
def Dp.Jn:List Dp->Nat
 |[]=>0
 |d::ds=>max d.deep (Dp.Jn ds)
end
theorem aq.kD{K:zac}{H H':Hp}{a:zc4}{xs:List V}(e:aq H H')(h:eQ K H a xs):eQ K H' a xs:=by
 rcases h with (h |⟨o,h⟩) |h
 ·exact .inl (.inl (e _ _ h))
 ·exact .inl (.inr ⟨o,e _ _ h⟩)
 ·exact .inr h
mutual
theorem Rep.mono{K:zac}{H H':Hp}(e:aq H H'):∀ {d:Dp} {v:V},Rep K H d v->Rep K H' d v
 |.da,_,h=>h
 |.bl _,_,h=>h
 |.int _,_,h=>h
 |.str _,_,h=>h
 |.tup l,_,h=>by
  unfold Rep at h ⊢;obtain⟨a,xs,e1,e2,e3⟩:=h;exact⟨a,xs,e1,e.kD e2,bc.mono e e3⟩
 |.lst l,_,h=>by
  unfold Rep at h ⊢;obtain⟨a,xs,e1,e2,e3⟩:=h;exact⟨a,xs,e1,e.seq e2,bc.mono e e3⟩
theorem bc.mono{K:zac}{H H':Hp}(e:aq H H'):∀ {ds:List Dp} {vs:List V},bc K H ds vs->bc K H' ds vs
 |[],_,h=>h
 |d::ds,_,h=>by
  unfold bc at h ⊢;obtain⟨v,r,e1,e2,e3⟩:=h;exact⟨v,r,e1,Rep.mono e e2,bc.mono e e3⟩
end
theorem bc.length{K:zac}{H:Hp}:∀ {ds:List Dp} {vs:List V},bc K H ds vs->vs.length=ds.length
 |[],_,h=>by unfold bc at h;rw[h];rfl
 |d::ds,_,h=>by
  unfold bc at h;obtain⟨v,r,e1,_,e3⟩:=h;rw[e1,zag,zag,bc.length e3]
theorem bc.get{K:zac}{H:Hp}:∀ {ds:List Dp} {vs:List V} {i:Nat} {d:Dp},bc K H ds vs->ds[i]?=some d->∃v,vs[i]?=some v/\Rep K H d v
 |[],_,_,_,_,e=>by simp at e
 |d::ds,_,0,_,h,e=>by
  unfold bc at h;obtain⟨v,r,e1,e2,e3⟩:=h;simp only[List.getElem?_cons_zero,zav.injEq] at e;subst e;exact⟨v,by rw[e1];rfl,e2⟩
 |d::ds,_,i+1,d',h,e=>by
  unfold bc at h;obtain⟨v,r,e1,e2,e3⟩:=h;rw[zcC] at e;obtain⟨v',h1,h2⟩:=bc.get e3 e;exact⟨v',by rw[e1,zcC];exact h1,h2⟩
theorem bc.append{K:zac}{H:Hp}:∀ {ds es:List Dp} {vs us:List V},bc K H ds vs->bc K H es us->bc K H (ds++es) (vs++us)
 |[],_,_,_,h,h'=>by unfold bc at h;rw[h];exact h'
 |d::ds,_,_,_,h,h'=>by
  unfold bc at h;obtain⟨v,r,e1,e2,e3⟩:=h;rw[e1];show bc K H (d::(ds++_)) (v::(r++_));unfold bc;exact⟨v,_,rfl,e2,bc.append e3 h'⟩
theorem bc.nil{K:zac}{H:Hp}:bc K H [] []:=by unfold bc;rfl
theorem bc.cons{K:zac}{H:Hp}{d:Dp}{ds:List Dp}{v:V}{vs:List V}(h:Rep K H d v)(h':bc K H ds vs):bc K H (d::ds) (v::vs):=by unfold bc;exact⟨v,vs,rfl,h,h'⟩
theorem Rep.cj{K:zac}{H:Hp}{l:List Dp}{v:V}:Rep K H (.tup l) v↔∃a xs,v=.ref a/\eQ K H a xs/\bc K H l xs:=by unfold Rep;exact Iff.rfl
theorem Rep.jm{K:zac}{H:Hp}{l:List Dp}{v:V}:Rep K H (.lst l) v↔∃a xs,v=.ref a/\gW K H a xs/\bc K H l xs:=by unfold Rep;exact Iff.rfl
theorem Rep.dy{K:zac}{H:Hp}{i:Int}{v:V}:Rep K H (.int i) v↔v=.int i:=by unfold Rep;exact Iff.rfl
theorem Rep.bf{K:zac}{H:Hp}{x:Str}{v:V}:Rep K H (.str x) v↔v=.str x:=by unfold Rep;exact Iff.rfl
theorem Rep.wt{K:zac}{H:Hp}{b:Bool}{v:V}:Rep K H (.bl b) v↔v=.bl b:=by unfold Rep;exact Iff.rfl
theorem Rep.vK{K:zac}{H:Hp}{v:V}:Rep K H .da v↔v=.da:=by unfold Rep;exact Iff.rfl
theorem bc.bX{K:zac}{H:Hp}{vs:List V}:bc K H [] vs↔vs=[]:=by unfold bc;exact Iff.rfl
theorem bc.bL{K:zac}{H:Hp}{d:Dp}{ds:List Dp}{vs:List V}:bc K H (d::ds) vs↔∃v r,vs=v::r/\Rep K H d v/\bc K H ds r:=by conv=>lhs;unfold bc
theorem aq.new{H:Hp}{p:zc4}(h:H p=none)(o:HO):aq H (upd H p o):=fun b u q=>by rw[ao (aD q h)];exact q
section
variable{X:Cx}
def NK (K:zac) (b:Bool):R2:=fun x y H Q=>∃d,Rep K H d x/\Rep K H d y/\d.deep<=150/\Q (.bl b) H
end
structure cK(K:zac)(mg:Str->Option zc5)(x:Str)(st:Stmt)(ps:List Str)(f:zc4)(fd:zdd):Prop where
 F:Bv K x x st f fd
 b:Binds K fd ps []
 m:mg x=some (.ref f)
end L2
namespace L2
open PySem PySem.Spec PyProof.Rows
theorem RB{g:Int->Int->V}{i j:Int}{H:Hp}{Q:VK}:Me g (.int i) (.int j) H Q↔Q (g i j) H:=⟨fun ⟨_,_,e1,e2,q⟩=>by cases e1;cases e2;exact q,fun q=>⟨_,_,rfl,rfl,q⟩⟩
theorem UB{C:Int->Int->Prop}{g:Int->Int->V}{i j:Int}{H:Hp}{Q:VK}:rI C g (.int i) (.int j) H Q↔C i j/\Q (g i j) H:=⟨fun ⟨_,_,e1,e2,c,q⟩=>by cases e1;cases e2;exact⟨c,q⟩,fun q=>⟨_,_,rfl,rfl,q⟩⟩
theorem Jo{a:V}{r:St}{H:Hp}{Q:VK}:(eP 0 (some a::r) H Q)=(Q a H):=rfl
theorem Jp{a:Option V}{r:St}{H:Hp}{Q:VK}:(eP 1 (a::r) H Q)=(eP 0 r H Q):=rfl
theorem Jq{a:Option V}{r:St}{H:Hp}{Q:VK}:(eP 2 (a::r) H Q)=(eP 1 r H Q):=rfl
theorem Jr{a:Option V}{r:St}{H:Hp}{Q:VK}:(eP 3 (a::r) H Q)=(eP 2 r H Q):=rfl
theorem Js{a:Option V}{r:St}{H:Hp}{Q:VK}:(eP 4 (a::r) H Q)=(eP 3 r H Q):=rfl
theorem Jt{a:Option V}{r:St}{H:Hp}{Q:VK}:(eP 5 (a::r) H Q)=(eP 4 r H Q):=rfl
theorem Ju{a:Option V}{r:St}{H:Hp}{Q:VK}:(eP 6 (a::r) H Q)=(eP 5 r H Q):=rfl
theorem Jv{a:Option V}{r:St}{H:Hp}{Q:VK}:(eP 7 (a::r) H Q)=(eP 6 r H Q):=rfl
theorem Jw{a:Option V}{r:St}{H:Hp}{Q:VK}:(eP 8 (a::r) H Q)=(eP 7 r H Q):=rfl
theorem Jx{a:Option V}{r:St}{H:Hp}{Q:VK}:(eP 9 (a::r) H Q)=(eP 8 r H Q):=rfl
theorem RC{v:V}{σ:St}{H:Hp}{Q:VK}:(tC v σ H Q)=(Q v H):=rfl
theorem NL{r:R2}{ta tb:TE}{σ:St}{H:Hp}{Q:VK}:(Q2 r ta tb σ H Q)=(ta σ H fun x H1=>tb σ H1 fun y H2=>r x y H2 Q):=rfl
theorem RD{b:Bool}{p:Bool->Prop}:(∃k,V.bl b=.bl k/\p k)↔p b:=⟨fun ⟨_,e,q⟩=>by cases e;exact q,fun q=>⟨_,rfl,q⟩⟩
theorem Pd{b:Int}{p:Int->Prop}:(∃k,V.int b=.int k/\p k)↔p b:=⟨fun ⟨_,e,q⟩=>by cases e;exact q,fun q=>⟨_,rfl,q⟩⟩
theorem Pe{b:zc4}{p:zc4->Prop}:(∃k,V.ref b=.ref k/\p k)↔p b:=⟨fun ⟨_,e,q⟩=>by cases e;exact q,fun q=>⟨_,rfl,q⟩⟩
theorem Fu{t:TE}{σ:St}{H:Hp}{Q:Bool->Hp->Prop}:(Ff t σ H Q)=(t σ H fun x H'=>∃k,x=.bl k/\Q k H'):=rfl
theorem NM{x y:V}{H:Hp}{Q:VK}:(VV x y H Q)=(BG x y=true/\Q (.bl (decide (x=y))) H):=rfl
theorem NN{x y:V}{H:Hp}{Q:VK}:(VW x y H Q)=(BG x y=true/\Q (.bl (!decide (x=y))) H):=rfl
theorem Pf{i j:Int}:(V.int i=V.int j)=(i=j):=by simp
theorem Pg{i j:Str}:(V.str i=V.str j)=(i=j):=by simp
theorem Mx{c:Prop}[Decidable c]{A B:Prop}:(if decide c=true then A else B)↔if c then A else B:=by simp
theorem Jy{c:Prop}[Decidable c]{A B:Prop}:(if (!decide c)=true then A else B)↔if c then B else A:=by by_cases h:c<;>simp[h]
theorem cA{K:zac}{p:zc4}{i:Int}{H:Hp}{Q:VK}{xs:List V}{v:V}(h:eQ K H p xs)(hv:Fn xs i=some v)(q:Q v H):Mo K (.ref p) (.int i) H Q:=⟨p,xs,i,v,rfl,rfl,h,hv,q⟩
theorem aO{K:zac}{p:zc4}{i:Int}{H:Hp}{Q:VK}{xs:List V}{v:V}(h:gW K H p xs)(hv:Fn xs i=some v)(q:Q v H):Mn K (.ref p) (.int i) H Q:=⟨p,xs,i,v,rfl,rfl,h,hv,q⟩
section
variable{P:zdg}{w:zc6}{K:zac}{mg:Str->Option zc5}{base:Heap}
theorem Bv.wu{x qual:Str}{st:Stmt}{f:zc4}{fd:zdd}{N ps:List Str}{k:Nat}{sp:Sp}(F:Bv K x qual st f fd)(S:a8 N ps (az st))(len:∀vs H Q E,sp vs H Q E->vs.length=ps.length)
 (wj:∀(dW:zc5) (A:zdf) (outer:List Env) (s:zde) (H:Hp) (vs:List V) (Q:VK) (E:XK),fQ k (A.deeper (envOfC qual (az st) s.heap.objs.size f dW))->sp vs H Q E->
  ∃t σ,DL (jO lS P w K mg base N qual (az st) f dW A outer s H E).QV (cp st) t/\L2.start N vs=σ/\t {nx:=fun _ H'=>Q .da H',rt:=Q} σ H):bC P w K mg base lS (k+1) f fd ps sp:=
 F.ok S len fun dW A outer s H vs Q E hr h=>let ⟨t,_,h1,h2,h3⟩:=wj dW A outer s H vs Q E hr h;⟨t,h1,by rw[h2];exact h3⟩
end
theorem Fv{sp:Sp}{vG:List V}{E:XK}{t:TA}{σ:St}{H:Hp}{Q:VK}:(NF sp vG E t σ H Q)=(t σ H fun vs H1=>sp (vs++vG) H1 Q E):=rfl
theorem Fw{ta:TE}{tr:TA}{σ:St}{H:Hp}{Q:List V->Hp->Prop}:(Fg ta tr σ H Q)=(ta σ H fun x H1=>tr σ H1 fun xs H2=>Q (x::xs) H2):=rfl
theorem Jz{σ:St}{H:Hp}{Q:List V->Hp->Prop}:(Gw σ H Q)=(Q [] H):=rfl
theorem JA{t:TA}{σ:St}{H:Hp}{Q:VK}:(Ra t σ H Q)=(t σ H fun xs H1=>xs.length<=zdc/\∀p,H1 p=none->Q (.ref p) (upd H1 p (.tup xs))):=rfl
theorem JB{t:TA}{σ:St}{H:Hp}{Q:VK}:(Rc t σ H Q)=(t σ H fun xs H1=>xs.length<=zdc/\∀p,H1 p=none->Q (.ref p) (upd H1 p (.lst xs))):=rfl
theorem Fx{n:Nat}(h:n<=1000):n<=zdc:=zcq (zL h)
theorem aq.BS{H H1:Hp}(s:aq H H1){p:zc4}(h:H1 p=none)(o:HO):aq H (upd H1 p o):=s.trans (aq.new h o)
theorem Rep.new{K:zac}{H:Hp}{p:zc4}{vs:List V}{ds:List Dp}(h:H p=none)(r:bc K H ds vs):Rep K (upd H p (.tup vs)) (.tup ds) (.ref p):=Rep.cj.mpr ⟨p,vs,rfl,.of ae,r.mono (aq.new h _)⟩
theorem My{i j:Int}:BG (.int i) (.int j)=true:=rfl
theorem Mz{i j:Str}:BG (.str i) (.str j)=true:=rfl
theorem MA{n:Nat}(h:n<=1000):(n<=zdc)=True:=eq_true (Fx h)
theorem JC{i j:Int}:(Q5 i j)=(0<j/\j<1073741824):=rfl
theorem JD{CX:D0}{P:zdg}{w:zc6}{K:zac}{mg:Str->Option zc5}{base:Heap}{N:List Str}{qual:Str}{scope:Scope}{f:zc4}{cd:zc5}{A:zdf}{outer:List Env}{s:zde}{H:Hp}{E:XK}:(jO CX P w K mg base N qual scope f cd A outer s H E).K=K:=rfl
theorem Fy{X:Cx}{scope:Scope}{own:List Str}{ix:List Nat}{C:zc4}{s₀:zde}{H₀:Hp}{ex:List zc4}:(oy X scope own ix C s₀ H₀ ex).K=X.K:=rfl
theorem mulR{z b:Int}(h1 : -18446744073709551616<b)(h2:b<18446744073709551616):Gr z b:=.inr ⟨h1,h2⟩
theorem mulL{z b:Int}(h1 : -18446744073709551616<z)(h2:z<18446744073709551616):Gr z b:=.inl ⟨h1,h2⟩
theorem ph{a b:Expr}{op:Operator}{pos:Pos}:nN (.BinOp a op b pos):=fun _ _=>rfl
theorem MB{x:Str}{pos:Pos}:nN (.Name x pos):=fun _ _=>rfl
theorem aE{c:Const}{k:Nat}{pos:Pos}:nN (.Constant c k pos):=fun _ _=>rfl
theorem Ay{f:Expr}{as:List Expr}{ks:List Keyword}{pos:Pos}:nN (.Call f as ks pos):=fun _ _=>rfl
theorem JE{a:Expr}{op:UnaryOp}{pos:Pos}:nN (.UnaryOp op a pos):=fun _ _=>rfl
theorem MC{a:Expr}{x:Str}{pos:Pos}:nN (.Attribute a x pos):=fun _ _=>rfl
theorem fJ{a b:Expr}{op:Operator}{pos:Pos}{es:List Expr}{env:Env}:zda (.BinOp a op b pos::es) env=(false,eval (.BinOp a op b pos) env)::zda es env:=rfl
theorem ah{x:Str}{pos:Pos}{es:List Expr}{env:Env}:zda (.Name x pos::es) env=(false,eval (.Name x pos) env)::zda es env:=rfl
theorem aB{c:Const}{k:Nat}{pos:Pos}{es:List Expr}{env:Env}:zda (.Constant c k pos::es) env=(false,eval (.Constant c k pos) env)::zda es env:=rfl
theorem b9{a b:Expr}{pos:Pos}{es:List Expr}{env:Env}:zda (.Subscript a b pos::es) env=(false,eval (.Subscript a b pos) env)::zda es env:=rfl
theorem bP{f:Expr}{as:List Expr}{ks:List Keyword}{pos:Pos}{es:List Expr}{env:Env}:zda (.Call f as ks pos::es) env=(false,eval (.Call f as ks pos) env)::zda es env:=rfl
theorem RE{a:Expr}{op:UnaryOp}{pos:Pos}{es:List Expr}{env:Env}:zda (.UnaryOp op a pos::es) env=(false,eval (.UnaryOp op a pos) env)::zda es env:=rfl
theorem sr{a:Expr}{x:Str}{pos:Pos}{es:List Expr}{env:Env}:zda (.Attribute a x pos::es) env=(false,eval (.Attribute a x pos) env)::zda es env:=rfl
theorem cb{as:List Expr}{pos:Pos}{es:List Expr}{env:Env}:zda (.List as pos::es) env=(false,eval (.List as pos) env)::zda es env:=rfl
theorem D8{as:List Expr}{k}{pos:Pos}{es:List Expr}{env:Env}:zda (.Tuple as k pos::es) env=(false,eval (.Tuple as k pos) env)::zda es env:=rfl
theorem D9{a:Expr}{ops:List CmpOp}{cs:List Expr}{pos:Pos}{es:List Expr}{env:Env}:zda (.Compare a ops cs pos::es) env=(false,eval (.Compare a ops cs pos) env)::zda es env:=rfl
theorem MD{op:BoolOp}{as:List Expr}{pos:Pos}{es:List Expr}{env:Env}:zda (.BoolOp op as pos::es) env=(false,eval (.BoolOp op as pos) env)::zda es env:=rfl
theorem ME{a:Expr}{gs:List Comprehension}{sc:Scope}{pos:Pos}{es:List Expr}{env:Env}:zda (.ListComp a gs sc pos::es) env=(false,eval (.ListComp a gs sc pos) env)::zda es env:=rfl
theorem lW{as:List Expr}{pos:Pos}{es:List Expr}{env:Env}:zda (.JoinedStr as pos::es) env=(false,eval (.JoinedStr as pos) env)::zda es env:=rfl
def JF:Expr->Option V
 |.Constant (.int i) _ _=>some (.int i)
 |.Constant (.str x) _ _=>some (.str x)
 |.Constant (.bool b) _ _=>some (.bl b)
 |.Constant .none _ _=>some .da
 |_=>none
def JG (vs:List V):TA:=fun _ H Q=>Q vs H
theorem cU{X:Cx}:∀ {es:List Expr} {vs:List V},es.map JF=vs.map some->PA X es (JG vs)
 |[],[],_=>af
 |[],_::_,h=>by cases h
 |_::_,[],h=>by cases h
 |e::es,v::vs,h=>by
  rw[zay,zay] at h
  injection h with h1 h2
  have ih:=cU (X:=X) h2;have one:∀ {e:Expr} {v:V},PE X e (tC v)->(zda (e::es) X.env=(false,eval e X.env)::zda es X.env)->PA X (e::es) (JG (v::vs)):=fun he hs pos pins s σ H Q I q=>aa he ih hs pos pins s σ H Q I q;unfold JF at h1;split at h1
  ·cases h1;exact one ai aB
  ·cases h1;exact one ax aB
  ·cases h1;exact one zB aB
  ·cases h1;exact one vY aB
  ·cases h1
theorem Fz{vs:List V}{σ:St}{H:Hp}{Q:List V->Hp->Prop}:(JG vs σ H Q)=(Q vs H):=rfl
theorem FA{td ty:TE}{σ:St}{H:Hp}{Q:VK}:(Rx td ty σ H Q)=(td σ H fun x H1=>ty σ H1 fun y H2=>∃a v,x=.ref a/\D7 H2 a y (some v)/\Q v H2):=rfl
theorem BU{σ:St}{H:Hp}{Q:VK}:(Pc σ H Q)=(∀p,H p=none->Q (.ref p) (upd H p (.dK []))):=rfl
theorem FC{td ty tv:TE}{D:Ends}{σ:St}{H:Hp}:(Ry td ty tv D σ H)=(tv σ H fun v H1=>td σ H1 fun x H2=>ty σ H2 fun y H3=>∃a H4,x=.ref a/\Ms H3 a y v H4/\D.nx σ H4):=rfl
theorem NO{r:List V->Hp->VK->Prop}{t:TA}{σ:St}{H:Hp}{Q:VK}:(Ue r t σ H Q)=(t σ H fun vs H1=>r vs H1 Q):=rfl
theorem RG{t:TE}{σ:St}{H:Hp}{Q:Bool->Hp->Prop}:(tB t σ H Q)=(t σ H fun x H1=>∃c,x=.bl c/\Q c H1):=rfl
theorem JH{t:TT}{σ:St}{H:Hp}{Q:Bool->Hp->Prop}:(QT t σ H Q)=(t σ H fun c H1=>Q (!c) H1):=rfl
theorem D7.s{H:Hp}{a:zc4}{bg:List (Key×V)}{x:Str}{v:V}(e:H a=some (.dK bg))(h:d4 bg (Sum.inr x)=some v):D7 H a (.str x) (some v):=by
 have:=D7.k (k:=Sum.inr x) e;rw[h] at this;exact this
end L2
namespace PM
abbrev W:=List Nat
inductive Tr where
 |num (n:Int) |box (x:W) |bin (o:W) (l r:Tr)
 deriving DecidableEq
def isLetter (c:Nat):Bool:=decide (97<=c)&&decide (c<=122)
def jt (c:Nat):Bool:=decide (48<=c)&&decide (c<=57)
def kind (c:Nat):Nat:=if isLetter c then 0 else if jt c then 1 else 2
def kE (st:List W×Nat) (c:Nat):List W×Nat:=
 if kind c≠2/\kind c=st.2 then (st.1.dropLast++[st.1.getLastD []++[c]],kind c) else (st.1++[[c]],kind c)
def cg (w:W):List W×Nat:=w.foldl kE ([],3)
def pieces (w:W):List W:=(cg w).1
def vL:List W:=[[98,111,120],[97,115,107],[112,117,116],[115,97,121],[105,102],[101,108,115,101],[119,104,105,108,101],[109,117,115,116],[115,116,111,112],[101,110,100]]
def isName (p:W):Bool:=decide (1<=p.length)&&decide (p.length<=8)&&p.all isLetter && !vL.contains p
def isNumber (p:W):Bool:=decide (1<=p.length)&&decide (p.length<=3)&&p.all jt&&(decide (p=[48]) || !decide (p.head?=some 48))
def nR (p:W):Int:=p.foldl (fun (a:Int) (c:Nat)=>a*10+((c:Int)-48)) 0
abbrev P:=List W->Option (Tr×List W)
def uL (sub:P):P
 |[]=>none
 |p::r=>if isNumber p then some (.num (nR p),r) else if isName p then some (.box p,r) else if p=[40] then
  (match sub r with
  |some (e,q::r')=>if q=[41] then some (e,r') else none
  |_=>none) else none
theorem kF(sub:P)(p:W)(r:List W):uL sub (p::r)=if isNumber p then some (.num (nR p),r) else if isName p then some (.box p,r) else if p=[40] then
 (match sub r with
 |some (e,q::r')=>if q=[41] then some (e,r') else none
 |_=>none) else none:=rfl
def ju (ops:List W) (f:P):Nat->Tr->List W->Option (Tr×List W)
 |0,e,ps=>some (e,ps)
 |_+1,e,[]=>some (e,[])
 |k+1,e,p::r=>if p∈ops then (match f r with
  |none=>none
  |some (e2,r')=>ju ops f k (.bin p e e2) r') else some (e,p::r)
def gP (f:P):P:=fun ps=>match f ps with
 |none=>none
 |some (e,r)=>ju [[42]] f r.length e r
def qW (f:P):P:=fun ps=>match gP f ps with
 |none=>none
 |some (e,r)=>ju [[43],[45]] (gP f) r.length e r
def factor:Nat->P
 |0=>uL fun _=>none
 |n+1=>uL (qW (factor n))
def expr (w:W):Option Tr:=if 60<w.length then none else match qW (factor 5) (pieces w) with
 |some (e,[])=>some e
 |_=>none
def Short (f:P):Prop:=∀ps e r,f ps=some (e,r)->r.length<ps.length
theorem Az{ops:List W}{f:P}(h:Short f):∀k e ps e' r,ju ops f k e ps=some (e',r)->r.length<=ps.length
 |0,e,ps,e',r,q=>by simp only[ju,zav.injEq,Prod.mk.injEq] at q;rw[q.2];exact zai _
 |k+1,e,[],e',r,q=>by simp only[ju,zav.injEq,Prod.mk.injEq] at q;rw[<- q.2];exact zai _
 |k+1,e,p::t,e',r,q=>by
  unfold ju at q;split at q
  ·split at q
   ·cases q
   ·rename_i e2 r' hf;have h1:=h _ _ _ hf;have h2:=Az h k _ _ _ _ q;rw[zag];lia
  ·simp only[zav.injEq,Prod.mk.injEq] at q;rw[<- q.2];exact zai _
theorem nT{f:P}(h:Short f):Short (gP f):=fun ps e r q=>by
 unfold gP at q;split at q
 ·cases q
 ·rename_i e0 r0 hf;exact zbO (Az h _ _ _ _ _ q) (h _ _ _ hf)
theorem GF{f:P}(h:Short f):Short (qW f):=fun ps e r q=>by
 unfold qW at q;split at q
 ·cases q
 ·rename_i e0 r0 hf;exact zbO (Az (nT h) _ _ _ _ _ q) (nT h _ _ _ hf)
theorem uM{sub:P}(h:Short sub):Short (uL sub):=fun ps e r q=>by
 cases ps with
 |nil=>cases q
 |cons p t=>
  rw[kF] at q;split at q
  ·simp only[zav.injEq,Prod.mk.injEq] at q;rw[<- q.2];exact zbW _
  ·split at q
   ·simp only[zav.injEq,Prod.mk.injEq] at q;rw[<- q.2];exact zbW _
   ·split at q
    ·split at q
     ·rename_i e1 q1 r1 hs;split at q
      ·simp only[zav.injEq,Prod.mk.injEq] at q;have:=h _ _ _ hs;rw[<- q.2];rw[zag] at this ⊢;lia
      ·cases q
     ·cases q
    ·cases q
theorem gX:∀n,Short (factor n)
 |0=>uM fun _ _ _ q=>by cases q
 |n+1=>uM (GF (gX n))
theorem zO{ops:List W}{f:P}(h:Short f):∀k j e ps,ps.length<=k->ps.length<=j->ju ops f k e ps=ju ops f j e ps
 |0,0,_,_,_,_=>rfl
 |0,j+1,e,[],_,_=>rfl
 |k+1,0,e,[],_,_=>rfl
 |k+1,j+1,e,[],_,_=>rfl
 |k+1,j+1,e,p::t,hk,hj=>by
  rw[zag] at hk hj;unfold ju;split
  ·split
   ·rfl
   ·rename_i e2 r' hf;have:=h _ _ _ hf;exact zO h k j _ _ (by lia) (by lia)
  ·rfl
def loop (ops:List W) (f:P) (e:Tr) (ps:List W):Option (Tr×List W):=ju ops f ps.length e ps
theorem BV(ops:List W)(f:P)(e:Tr):loop ops f e []=some (e,[]):=rfl
theorem tV{ops:List W}{f:P}{e:Tr}{p:W}{r:List W}(h:p ∉ ops):loop ops f e (p::r)=some (e,p::r):=by
 unfold loop;rw[zag];unfold ju;rw[if_neg h]
theorem FD{ops:List W}{f:P}(hf:Short f){e:Tr}{p:W}{r:List W}(h:p∈ops):loop ops f e (p::r)=match f r with
 |none=>none
 |some (e2,r')=>loop ops f (.bin p e e2) r':=by
 unfold loop;rw[zag]
 conv=>lhs;unfold ju
 rw[if_pos h];cases h1:f r with
 |none=>rfl
 |some x=>
  obtain⟨e2,r'⟩:=x;have:=hf _ _ _ h1;exact zO hf _ _ _ _ (by lia) (zai _)
theorem BW(f:P)(ps:List W):gP f ps=match f ps with
 |none=>none
 |some (e,r)=>loop [[42]] f e r:=rfl
theorem FE(f:P)(ps:List W):qW f ps=match gP f ps with
 |none=>none
 |some (e,r)=>loop [[43],[45]] (gP f) e r:=rfl
def XA (p:W):Bool:=isNumber p ||isName p
def Ph:List W:=[[43],[45],[42]]
def step (p:W):Nat×Bool->Option (Nat×Bool)
 |(d,true)=>if p=[40] then (if d+1>5 then none else some (d+1,true)) else if XA p then some (d,false) else none
 |(d,false)=>if p=[41] then (if d=0 then none else some (d-1,false)) else if p∈Ph then some (d,true) else none
def run:List W->Nat×Bool->Option (Nat×Bool)
 |[],s=>some s
 |p::r,s=>match step p s with
  |none=>none
  |some s'=>run r s'
structure Walk(d:Nat)(f:P)(nx:List W->Prop):Prop where
 yes:∀ps e r,f ps=some (e,r)->run ps (d,true)=run r (d,false)/\nx r
 no:∀ps,f ps=none->run ps (d,true)≠some (0,false)
def Bw (_:List W):Prop:=True
def Wa (r:List W):Prop:=r=[]\/∃q t,r=q::t/\q≠[42]
theorem AA(w:W)(c:Nat):cg (w++[c])=kE (cg w) c:=by unfold cg;rw[List.foldl_append];rfl
theorem kind_le(c:Nat):kind c<=2:=by
 unfold kind;split
 ·lia
 ·split<;>lia
theorem BX{p:W->Prop}(h0:p [])(h1:∀w c,p w->p (w++[c])):∀w,p w:=fun w=>by
 have:∀r:W,p r.reverse:=fun r=>by
  induction r with
  |nil=>exact h0
  |cons c r ih=>rw[zbR];exact h1 _ c ih
 have h:=this w.reverse;rw[List.reverse_reverse] at h;exact h
structure RH(st:List W×Nat)(w:W):Prop where
 flat:st.1.flatten=w
 FF:∀p∈st.1,p≠[]
 last:st.2<2->st.1≠[]
 sort:∀p∈st.1,(∀c∈p,kind c=0)\/(∀c∈p,kind c=1)\/∃c,p=[c]/\kind c=2
 mark:st.1≠[]->∃p,st.1.getLast?=some p/\(st.2<2->∀c∈p,kind c=st.2)
theorem wx{α:Type}{l:List α}{p:α}(h:l.getLast?=some p):l=l.dropLast++[p]:=by
 have DM:l≠[]:=by rintro rfl;cases h
 rw[List.getLast?_eq_some_getLast DM] at h;have e:=(List.dropLast_concat_getLast DM).symm;cases h;exact e
theorem MF:∀(w:W),RH (cg w) w:=by
 refine BX (p:=fun w=>RH (cg w) w) ?_ fun w c ih=>?_
 ·exact⟨rfl,fun _ h=>absurd h (by simp[cg]),fun h=>absurd h (by simp[cg]),fun _ h=>absurd h (by simp[cg]),fun h=>absurd rfl h⟩
 ·rw[AA];unfold kE;split
  ·rename_i hc;obtain⟨h2,hb⟩:=hc;have k2:kind c<2:=by have:=kind_le c;lia
   have DM:=ih.last (by rw[<- hb];exact k2);obtain⟨p,hp,hm⟩:=ih.mark DM;have es:=wx hp;have eD:(cg w).1.getLastD []=p:=by rw[zcm,hp];rfl
   have Wb:=hm (by rw[<- hb];exact k2);rw[eD];refine⟨?_,fun q hq=>?_,fun _=>by simp,fun q hq=>?_,fun _=>⟨p++[c],by simp,fun _ x hx=>?_⟩⟩
   ·have f:=ih.flat;rw[es] at f;simp only[zcV,zaR,zct,zaP] at f ⊢;rw[<- zbE,f]
   ·rcases zaz.mp hq with hq |hq
    ·exact ih.FF q (zcR _ hq)
    ·rw[zal.mp hq];simp
   ·rcases zaz.mp hq with hq |hq
    ·exact ih.sort q (zcR _ hq)
    ·rw[zal.mp hq];have all:∀x∈p++[c],kind x=kind c:=fun x hx=>by
      rcases zaz.mp hx with hx |hx
      ·rw[Wb x hx,hb]
      ·rw[zal.mp hx]
     have:kind c=0\/kind c=1:=by lia
     rcases this with z |z
     ·exact .inl fun x hx=>by rw[all x hx,z]
     ·exact .inr (.inl fun x hx=>by rw[all x hx,z])
   ·rcases zaz.mp hx with hx |hx
    ·rw[Wb x hx,hb]
    ·rw[zal.mp hx]
  ·refine⟨?_,fun q hq=>?_,fun _=>by simp,fun q hq=>?_,fun _=>⟨[c],by simp,fun _ x hx=>by rw[zal.mp hx]⟩⟩
   ·simp only[zcV,zaR,zct,zaP];rw[ih.flat]
   ·rcases zaz.mp hq with hq |hq
    ·exact ih.FF q hq
    ·rw[zal.mp hq];simp
   ·rcases zaz.mp hq with hq |hq
    ·exact ih.sort q hq
    ·rw[zal.mp hq];have:kind c=0\/kind c=1\/kind c=2:=by have:=kind_le c;lia
     rcases this with z |z |z
     ·exact .inl fun x hx=>by rw[zal.mp hx,z]
     ·exact .inr (.inl fun x hx=>by rw[zal.mp hx,z])
     ·exact .inr (.inr ⟨c,rfl,z⟩)
theorem uN:∀ {l:List W},(∀p∈l,p≠[])->l.length<=l.flatten.length
 |[],_=>by simp
 |p::r,h=>by
  have h1:p≠[]:=h p (by simp);have h2:=uN (l:=r) fun q hq=>h q (by simp[hq]);have:0<p.length:=List.length_pos_iff.mpr h1;simp only[zag,zaR,zaf];lia
theorem qX(w:W):(pieces w).length<=w.length:=by
 have:=MF w;have h:=uN this.FF;rw[this.flat] at h;exact h
theorem zP{w p:W}(h:p∈pieces w):p.length<=w.length:=by
 have f:=(MF w).flat;rw[<- f];have all:∀ {l:List W},p∈l->p.length<=l.flatten.length:=fun {l} hl=>by
  induction l with
  |nil=>cases hl
  |cons a r ih=>
   rw[zaR,zaf];rcases zak.mp hl with rfl |hl
   ·lia
   ·have:=ih hl;lia
 exact all h
def RF (n:Nat) (t:Tr) (L:List W):Prop:=∀rest,factor n (L++rest)=some (t,rest)
def RP (n:Nat) (t:Tr) (L:List W):Prop:=∀rest,gP (factor n) (L++rest)=loop [[42]] (factor n) t rest
def RS (n:Nat) (t:Tr) (L:List W):Prop:=∀rest,Wa rest->qW (factor n) (L++rest)=loop [[43],[45]] (gP (factor n)) t rest
theorem MG{n:Nat}{t:Tr}{rest:List W}(h:Wa rest):loop [[42]] (factor n) t rest=some (t,rest):=by
 rcases h with rfl |⟨q,r,rfl,hq⟩
 ·rfl
 ·exact tV (by simpa using hq)
theorem RF.p{n:Nat}{t:Tr}{L:List W}(h:RF n t L):RP n t L:=fun rest=>by rw[BW,h rest]
theorem RP.s{n:Nat}{t:Tr}{L:List W}(h:RP n t L):RS n t L:=fun rest hn=>by rw[FE,h rest,MG hn]
theorem BY(n:Nat)(p:W)(r:List W)(h:isNumber p=true\/isName p=true):factor n (p::r)=if isNumber p then some (.num (nR p),r) else some (.box p,r):=by
 have key:∀sub:P,uL sub (p::r)=if isNumber p then some (.num (nR p),r) else some (.box p,r):=fun sub=>by
  rw[kF];by_cases h1:isNumber p=true
  ·rw[if_pos h1,if_pos h1]
  ·rw[if_neg h1,if_neg h1,if_pos (h.resolve_left h1)]
 cases n with
 |zero=>exact key _
 |succ n=>exact key _
theorem RF.box{n:Nat}{p:W}(h:isName p=true)(h':isNumber p=false):RF n (.box p) [p]:=fun rest=>by
 show factor n (p::rest)=_;rw[BY n p rest (.inr h),if_neg (by rw[h'];simp)]
def NP:Tr->Bool
 |.bin o _ _=>decide (o=[43]) ||decide (o=[45])
 |_=>false
def isMul:Tr->Bool
 |.bin o _ _=>decide (o=[42])
 |_=>false
def XB (o:W) (l:Tr) (m:Int):Bool:=(decide (o=[42])&&NP l) ||decide (m%5=1)
def XC (o:W) (r:Tr) (m:Int):Bool:=(NP r ||(decide (o=[42])&&isMul r)) ||decide (m%7=1)
def dig (n:Nat):W:=(zcu 10 n).map Char.toNat
def put (b:Bool) (w:W):W:=if b then [40]++w++[41] else w
def Wc (b:Bool):Nat:=if b then 1 else 0
def dep:Tr->Int->Nat
 |.bin o l r,m=>max (Wc (XB o l m)+dep l (m/2)) (Wc (XC o r m)+dep r (m/3))
 |_,_=>0
theorem JI:∀n:Nat,n<1000->isNumber (dig n)=true/\nR (dig n)=n:=by
 have:∀n:Fin 1000,isNumber (dig n.1)=true/\nR (dig n.1)=n.1:=by decide +kernel
 exact fun n h=>this ⟨n,h⟩
def RI (w:W):Prop:=∀c∈w,c≠43/\c≠45/\c≠42
theorem GG:∀k<10,48<=(zci k).toNat/\(zci k).toNat<=57:=by decide
theorem BZ:∀(fuel n:Nat) (acc:List Char),(∀c∈acc,48<=c.toNat/\c.toNat<=57)->∀c∈zbq 10 fuel n acc,48<=c.toNat/\c.toNat<=57
 |0,n,acc,h=>by unfold zbq;exact h
 |fuel+1,n,acc,h=>by
  have h':∀c∈zci (n%10)::acc,48<=c.toNat/\c.toNat<=57:=fun c hc=>by
   rcases zak.mp hc with rfl |hc
   ·exact GG _ (by lia)
   ·exact h c hc
  unfold zbq;simp only;split
  ·exact h'
  ·exact BZ fuel _ _ h'
theorem B0:∀(k fuel n:Nat) (acc:List Char),n<10 ^ (k+1)->(zbq 10 fuel n acc).length<=acc.length+(k+1)
 |k,0,n,acc,_=>by unfold zbq;lia
 |0,fuel+1,n,acc,h=>by
  unfold zbq;simp only;rw[if_pos (by lia)];simp
 |k+1,fuel+1,n,acc,h=>by
  unfold zbq;simp only;split
  ·simp
  ·have e:(10:Nat) ^ (k+1+1)=10*10 ^ (k+1):=by rw[Nat.pow_succ];lia
   have:=B0 k fuel (n/10) (zci (n%10)::acc) (by rw[e] at h;lia);simp only[zag] at this;lia
theorem JJ(n:Nat)(h:n<10000):RI (dig n)/\(dig n).length<=10:=by
 refine⟨fun c hc=>?_,?_⟩
 ·unfold dig at hc;obtain⟨d,hd,rfl⟩:=zaT.mp hc;have:=BZ _ _ [] (by simp) d hd;lia
 ·unfold dig;rw[zae];have:=B0 3 (n+1) n [] (by lia);simp only[zbe] at this;unfold zcu;lia
end PM
namespace L2
open PySem PySem.Spec PyProof.Rows
structure UC(P:zdg)(w:zc6)(outer:List Env)(H:Hp)(s:zde)(E:XK)(x:zc4)(s':zde)(cls a0:zc5)(B:Heap)(H':Hp):Prop where
 fl:Heap.FlyingW B outer x cls a0 s'.heap
 os:s'.os=s.os
 bare:AllBare s'.gens
 un:Un (fB outer) [] H H' s.heap s'.heap
 dq:rW P w H' s'.heap
 old:∀b o,s.heap.get? b=some o->b ∉ fB outer->∃o',B.get? b=some o'
 Iv:∀b u,H' b=some u->∃o,B.get? b=some o
 want:E cls none H'
def ky (P:zdg) (w:zc6):D0:=fun outer H s E e s'=>∃x cls a0 B H',e=.ref x/\UC P w outer H s E x s' cls a0 B H'
section
variable{P:zdg}{w:zc6}{H H':Hp}{h h' B:Heap}{a:zc4}{o:HO}
theorem dB.there(x:dB P w H h a o):∃ob,h.get? a=some ob:=by
 induction o with
 |lst xs=>obtain⟨_,_,_,_,e⟩:=x;exact⟨_,e⟩
 |tup xs=>obtain⟨_,_,_,_,e,_⟩:=x;exact⟨_,e⟩
 |dK bg=>obtain⟨_,_,_,_,o,_,_,e,_⟩:=x;exact⟨_,e⟩
 |dT bg=>obtain⟨_,_,_,_,o,_,_,e,_⟩:=x;exact⟨_,e⟩
 |set S n=>obtain⟨o,_,_,_,e,_⟩:=x;exact⟨_,e⟩
 |ins C dx fs=>obtain⟨_,_,_,e,_⟩:=x;exact⟨_,e⟩
 |own y=>exact x
 |xd fs=>obtain⟨_,⟨_,_,_,e,_⟩,_⟩:=x;exact⟨_,e⟩
 |SU lo hi=>obtain⟨_,_,_,e⟩:=x;exact⟨_,e⟩
 |Iu ob u=>obtain⟨e,_⟩:=x;exact⟨_,e⟩
 |L5 ps=>exact⟨_,(show h.get? a=some _ from x)⟩
 |met f y=>exact⟨_,(show h.get? a=some _ from x)⟩
 |ext φ=>obtain⟨_,e,_⟩:=x;exact e
theorem rW.part(x:rW P w H h)(st:B.StaysIn h)(BE:B.StaysIn h')(t:∀b u,H b=some u->∃o,B.get? b=some o):rW P w H h':=fun a o e=>by
 refine(x a o e).mY (fun c v hc q=>?_) (fun _ q=>q) fun _ _ q=>q;have tr:∃u,H c=some u:=by
  rcases hc with rfl |hc
  ·exact⟨_,e⟩
  ·exact⟨_,hc⟩
 obtain⟨u,hu⟩:=tr;obtain⟨o',qw⟩:=t c u hu;have:=st c o' qw;rw[q] at this;cases this;exact BE c _ qw
end
section
variable{X:Cx}{pins:List (zc4×Obj)}{σ:St}{H H':Hp}{s s':zde}{h':Heap}{E:XK}{x:zc4}{cls a0:zc5}{B:Heap}
theorem UC.move(F:UC X.prog X.w X.stack H s E x s' cls a0 B H')(I:Inv X pins σ H s)(st:B.StaysIn h')(up:s'.heap.UpToSlots h'):Un (fB X.stack) [] H H' s.heap h'/\rW X.prog X.w H' h':=by
 have fr:∀b∈fB X.stack,∃o,s.heap.get? b=some o/\∀vs,o.data≠.fields vs:=fun b hb=>(I.stack.mem hb).2;have slot:∀b o,s.heap.get? b=some o->H b=none->b∈fB X.stack->∃sl,h'.get? b=some {o with slots:=sl}:=fun b o e n hb=>by
  obtain⟨sl,e1⟩:=F.un.slot b o e n hb (by simp);obtain⟨o',qw,hd⟩:=fr b hb;rw[e] at qw;cases qw;obtain⟨Ow,e2⟩:=up b _ e1 hd;exact⟨Ow,e2⟩
 refine⟨⟨fun b o e n hb _=>?_,fun b o e n hb _=>slot b o e n hb,fun b o e n hx=>F.un.free b o e n hx,fun b o e _=>?_,F.un.jM,F.un.nJ,F.un.oS⟩,F.dq.part F.fl.1 st F.Iv⟩
 ·obtain⟨o',qw⟩:=F.old b o e hb;have e1:=F.un.keep b o e n hb (by simp);have e2:=F.fl.1 b o' qw;rw[e1] at e2;cases e2;exact st b _ qw
 ·by_cases hb:b∈fB X.stack
  ·obtain⟨sl,e1⟩:=slot b o e (I.vE b hb) hb;exact⟨_,e1⟩
  ·obtain⟨o',qw⟩:=F.old b o e hb;exact⟨o',st b o' qw⟩
theorem Inv.NQ(I:Inv X pins σ H s)(hex:X.ex=[])(u:Un (fB X.stack) [] H H' s.heap h'):Un X.fs [] X.H₀ H' X.s₀.heap h':=by
 have nx:∀b,b ∉ X.ex:=fun b=>by rw[hex];simp
 have SW:∀b o,X.s₀.heap.get? b=some o->b≠X.env.locals:=fun b o e=>zaF (zaC (Heap.lt_size e) I.ok.above);refine⟨fun b o q n hb _=>?_,fun b o q n hb _=>?_,fun b o q n _=>?_,fun b o q _=>?_,fun b xs q=>u.jM b xs (I.base.jM b xs q),fun b ob xs q=>u.nJ b ob xs (I.base.nJ b ob xs q),fun b ps q=>?_⟩
 ·exact u.keep b o (I.base.keep b o q n hb (nx b)) (I.base.free b o q n (nx b)) (fun z=>(zak.mp (I.tM b z)).elim (SW b o q) hb) (by simp)
 ·obtain⟨sl,e1⟩:=I.base.slot b o q n hb (nx b);obtain⟨Ow,e2⟩:=u.any e1 (I.base.free b o q n (nx b)) (by simp);exact⟨Ow,e2⟩
 ·obtain⟨o',e1⟩:=I.base.there b o q (nx b);exact u.free b o' e1 (I.base.free b o q n (nx b)) (by simp)
 ·obtain⟨o',e1⟩:=I.base.there b o q (nx b);exact u.there b o' e1 (by simp)
 ·obtain⟨m1,e1⟩:=I.base.oS b ps q;obtain⟨m2,e2⟩:=u.oS b _ e1;exact⟨m1++m2,by rw[e2,zcd]⟩
theorem Inv.JK(I:Inv X pins σ H s)(hex:X.ex=[])(old:∀b o,s.heap.get? b=some o->b ∉ fB X.stack->∃o',B.get? b=some o'):∀b o,X.s₀.heap.get? b=some o->b ∉ X.fs->∃o',B.get? b=some o':=fun b o e hb=>by
 obtain⟨o',e1⟩:=I.base.there b o e (by rw[hex];simp);exact old b o' e1 fun z=>(zak.mp (I.tM b z)).elim (zaF (zaC (Heap.lt_size e) I.ok.above)) hb
end
section
variable{P:zdg}{w:zc6}{K:zac}{mg:Str->Option zc5}{base:Heap}{N:List Str}{qual:Str}{scope:Scope}{f:zc4}{cd:zc5}{A:zdf}{outer:List Env}{s₀:zde}{H₀:Hp}{E:XK}
theorem c8:Passes (ky P w) (jO (ky P w) P w K mg base N qual scope f cd A outer s₀ H₀ E) E:=by
 intro pins σ H s e s' I h;obtain⟨x,cls,a0,B,H',rfl,F⟩:=h;show wpAny _ _ (leaving _ _) _ _ _;refine wpAny_leaves_onW I.ok.frames rfl F.fl fun h' fl up=>?_;obtain⟨u,dq⟩:=F.move I fl.1 up;exact⟨x,cls,a0,B,H',rfl,fl,F.os.trans I.os,F.bare,I.NQ rfl u,dq,I.JK rfl F.old,F.Iv,F.want⟩
def NR (X:Cx) (E:XK):Prop:=∀(pins:List (zc4×Obj)) (σ:St) (H:Hp) (s:zde) (h1:Heap) (x:zc4) (cls:zc5) (vs:List zc5),Inv X pins σ H s->Heap.MadeExcOf s.heap h1 x cls vs->E cls none H->X.xe (.ref x) {s with heap:=h1}
theorem c9:NR (jO (ky P w) P w K mg base N qual scope f cd A outer s₀ H₀ E) E:=by
 intro pins σ H s h1 x cls vs I hx want;have Qy:∀env∈(jO (ky P w) P w K mg base N qual scope f cd A outer s₀ H₀ E).stack,∀a,env.frame=some a->a∈fB (jO (ky P w) P w K mg base N qual scope f cd A outer s₀ H₀ E).stack:=fun env he a hb=>zbN.mpr ⟨env,he,hb⟩;show wpAny _ _ (leaving _ _) _ _ _;refine wpAny_leaves_madeW (base:=zb5 s.heap (fB (jO (ky P w) P w K mg base N qual scope f cd A outer s₀ H₀ E).stack)) I.ok.frames rfl (fun b o q=>zce _ q) (PySem.W.funFrames_hide I.stack Qy) hx fun h' t fl _ _ up=>?_;have Ta:∀b o,s.heap.get? b=some o->b ∉ fB (jO (ky P w) P w K mg base N qual scope f cd A outer s₀ H₀ E).stack->(zb5 s.heap (fB (jO (ky P w) P w K mg base N qual scope f cd A outer s₀ H₀ E).stack)).get? b=some o:=fun b o e hb=>zcY _ e hb;have slot:∀b o,s.heap.get? b=some o->b∈fB (jO (ky P w) P w K mg base N qual scope f cd A outer s₀ H₀ E).stack->∃sl,h'.get? b=some {o with slots:=sl}:=fun b o e hb=>by
  obtain⟨o',qw,hd⟩:=(I.stack.mem hb).2;rw[e] at qw;cases qw;exact up b o (hx.keeps b o e) hd
 have Iv:∀b u,H b=some u->∃o,(zb5 s.heap (fB (jO (ky P w) P w K mg base N qual scope f cd A outer s₀ H₀ E).stack)).get? b=some o:=fun b u e=>by
  obtain⟨o,ho⟩:=(I.dq b u e).there;refine⟨o,Ta b o ho fun z=>?_⟩;rw[I.vE b z] at e;cases e
 have u:Un (fB (jO (ky P w) P w K mg base N qual scope f cd A outer s₀ H₀ E).stack) [] H H s.heap h':=by
  refine⟨fun b o e _ hb _=>fl.1 b o (Ta b o e hb),fun b o e _ hb _=>slot b o e hb,fun _ _ _ n _=>n,fun b o e _=>?_,fun _ _ q=>q,fun _ _ _ q=>q,fun _ ps q=>⟨#[],by rw[q];simp⟩⟩;by_cases hb:b∈fB (jO (ky P w) P w K mg base N qual scope f cd A outer s₀ H₀ E).stack
  ·obtain⟨sl,e1⟩:=slot b o e hb;exact⟨_,e1⟩
  ·exact⟨o,fl.1 b o (Ta b o e hb)⟩
 exact⟨x,cls,_,_,H,rfl,fl,I.os,I.bare,I.NQ rfl u,I.dq.part (fun b o q=>zce _ q) fl.1 Iv,I.JK rfl fun b o e hb=>⟨o,Ta b o e hb⟩,Iv,want⟩
theorem MH:PassesOwn (model P w) (jO (ky P w) P w K mg base N qual scope f cd A outer s₀ H₀ E).A (jO (ky P w) P w K mg base N qual scope f cd A outer s₀ H₀ E).env (jO (ky P w) P w K mg base N qual scope f cd A outer s₀ H₀ E).xe:=PassesOwn.leaving
end
structure vg(K:zac)(C:zc4):Prop where
 q:za9 K C [.type "ValueError",.type "Exception",.type "BaseException",.type "object"] "ValueError.__new__"=true
theorem vg.obj{K:zac}{C:zc4}{h:Heap}(c:vg K C)(X:K.In h):∃bm N nm q bs hdct sn sub ab col dd k0 k1 k2 k3 k5 mN,h.get? C=some (excClassObj nm q C N bs bm hdct sn sub ab col dd k0 k1 k2 k3 k5 "ValueError.__new__")/\h.Ns N mN/\mN "__init__"=none/\
 OwnTail h [.type "ValueError",.type "Exception",.type "BaseException",.type "object"] bm:=by
 have q:=c.q;unfold za9 at q;split at q
 ·rename_i dd cd sl ho;split at q
  ·rename_i C' bm k0 k1 k2 k3 n k5 hm hs;simp only[zaK,beq_iff_eq,Bool.not_eq_true'] at q;obtain⟨⟨⟨⟨⟨rfl,rfl⟩,RJ⟩,ht⟩,dq⟩,Tb⟩:=q;obtain⟨nm,bs,mro,ns,qn,hd,sn,sub,ab,col,del⟩:=cd;dsimp only at hm RJ dq Tb;subst hm RJ;have XD:sl = #[k0,k1,k2,k3,some (.builtin "ValueError.__new__"),k5]:=by
    obtain⟨l⟩:=sl;simp only at hs;rw[hs]
   subst XD;exact⟨bm,ns,nm,qn,bs,hd,sn,sub,ab,col,dd,k0,k1,k2,k3,k5,_,X _ _ ho,.of_isNs (PySem.W.isNs_of_in X dq),PySem.W.nsMap_none_of_in X dq Tb,PySem.W.tail_of_in X ht⟩
  ·cases q
 ·cases q
def Ea (C:zc4) (E:XK) (ta:TA):TS:=fun _ σ H=>ta σ H fun vs H1=>vs.length<=zdc/\E (.ref C) none H1
section
variable{X:Cx}{C:zc4}{E:XK}{x:Str}{np iy pos:Pos}{e:Expr}{es:List Expr}{ta:TA}
theorem bZ(fl:NR X E)(c:vg X.K C)(hg:Gl X x)(hm:X.mg x=some (.ref C))(uK:X.calm=true)(ha:PA X (e::es) ta)(Gx:(x==("__debug__":Str))=false:=by decide)
 (he:zda (e::es) X.env=(false,eval e X.env)::zda es X.env:=by rfl) (Bu:(backTo iy (zda es X.env)).any (·.1)=false:=by rfl) :
 PS X (.Raise (some (.Call (.Name x np) (e::es) [] iy)) none pos) (Ea C E ta):=by
 intro pins s σ H D I h;obtain⟨bm,N,nm,q,bs,hdct,sn,sub,ab,col,dd,k0,k1,k2,k3,k5,mN,hC,hN,Tb,T⟩:=c.obj I.ok.mod.Qs;refine wpAny_Raise_call_subT (C:=C) (nm:=nm) (q:=q) (N:=N) (bs:=bs) (bm:=bm) (hdct:=hdct) (sn:=sn) (sub:=sub) (ab:=ab) (col:=col) (dd:=dd) (k0:=k0) (k1:=k1) (k2:=k2) (k3:=k3) (k5:=k5)
  PySem.F.excBase_ValueError (mN:=mN) (T.hasType PySem.F.excBase_ValueError.hasBase) (I.ok.hd uK) (by rw[he];show (false ||(backTo iy (zda es X.env)).any (·.1))=false;rw[Bu];rfl) Tb (nK I hg hm ⟨rfl,?_⟩ Gx)
 have We:=ha iy pins s σ H _ I h;rw[he] at We ⊢;refine Calls.evalArgs_plain (wpAny_mono We (fun us s1 ⟨vs,H1,I1,r,hl,q⟩=>⟨rfl,by rw[<- r.length];exact hl,I1.bk _ _ hC,hN.keeps I1.bk,T.keeps I1.bk,fun h' y hm=>?_⟩) fun _ _ y=>y);exact fl pins σ H1 s1 h' y (.ref C) us I1 hm q
end
abbrev Cx.fD (X:Cx) (x:zc4):Cx:={X with A:=X.A.mark (some (.ref x)),calm:=false,xe:=fun _ _=>False}
theorem Cx.Ok.fD{X:Cx}(ok:X.Ok)(x:zc4):(X.fD x).Ok:=
 ⟨ok.mod,ok.kind,ok.glob,ok.blt,ok.above,ok.inj,ok.has,ok.L9,(fun z=>absurd z zad),ok.frames,ok.LQ,ok.Qt,ok.bs,ok.DP,ok.Am,ok.BB,ok.oY,ok.Ij⟩
theorem Cx.Ok.jv{X:Cx}{x:zc4}(ok:(X.fD x).Ok)(hd:X.calm=true->X.A.handled=none):X.Ok:=
 ⟨ok.mod,ok.kind,ok.glob,ok.blt,ok.above,ok.inj,ok.has,ok.L9,hd,ok.frames,ok.LQ,ok.Qt,ok.bs,ok.DP,ok.Am,ok.BB,ok.oY,ok.Ij⟩
section
variable{X:Cx}{pins:List (zc4×Obj)}{σ:St}{H:Hp}{s:zde}{x:zc4}
theorem Inv.fD(I:Inv X pins σ H s)(x:zc4):Inv (X.fD x) pins σ H s:=⟨I.ok.fD x,I.os,I.bare,I.base,I.loc,I.cell,I.free,I.js,I.pin,I.dq,I.len⟩
theorem Inv.jv(I:Inv (X.fD x) pins σ H s)(hd:X.calm=true->X.A.handled=none):Inv X pins σ H s:=⟨I.ok.jv hd,I.os,I.bare,I.base,I.loc,I.cell,I.free,I.js,I.pin,I.dq,I.len⟩
theorem SP.jv{D:Ends}{f:Flow}{s':zde}(h:SP (X.fD x) pins D f s')(hd:X.calm=true->X.A.handled=none):SP X pins D f s':=by
 cases f with
 |next=>obtain⟨σ',H',I,q⟩:=h;exact⟨σ',H',I.jv hd,q⟩
 |brk=>obtain⟨σ',H',I,q⟩:=h;exact⟨σ',H',I.jv hd,q⟩
 |cont=>obtain⟨σ',H',I,q⟩:=h;exact⟨σ',H',I.jv hd,q⟩
 |ret u=>obtain⟨v,σ',H',I,r,q⟩:=h;exact⟨v,σ',H',I.jv hd,r,q⟩
theorem Inv.told{o:HO}(I:Inv X pins σ H s)(n:H x=none)(h0:X.s₀.heap.objs.size<=x)(hL:x≠X.env.locals)(hc:∀y c,X.env.cells.lookup y=some c->c≠x)(hp:∀p∈X.pn++pins,p.1≠x)(ok:dB X.prog X.w (upd H x o) s.heap x o):Inv X pins σ (upd H x o) s:=by
 have nx:∀b u,X.s₀.heap.get? b=some u->b≠x:=fun b u e=>zaF (zaC (Heap.lt_size e) h0);refine⟨I.ok,I.os,I.bare,⟨I.base.keep,I.base.slot,fun b u e n' hx=>?_,I.base.there,fun b xs e=>?_,fun b ob u e=>?_,fun b ps e=>?_⟩,I.loc,I.cell,?_,fun y c e=>?_,fun p Mu=>?_,fun b u e=>?_,I.len⟩
 ·rw[ao (nx b u e)];exact I.base.free b u e n' hx
 ·have:=I.base.jM b xs e;rw[ao (aD this n)];exact this
 ·have:=I.base.nJ b ob u e;rw[ao (aD this n)];exact this
 ·obtain⟨m,e1⟩:=I.base.oS b ps e;exact⟨m,by rw[ao (aD e1 n)];exact e1⟩
 ·rw[ao (Ne.symm hL)];exact I.free
 ·rw[ao (hc y c e)];exact I.js y c e
 ·obtain⟨a,b,c⟩:=I.pin p Mu;exact⟨a,by rw[ao (hp p Mu)];exact b,c⟩
 ·by_cases hb:b=x
  ·subst hb;rw[ae] at e;cases e;exact ok
  ·rw[ao hb] at e;exact(I.dq b u e).mY (fun _ _ _ q=>q) (fun c q=>by rw[ao (aD q n)];exact q) fun c xs q=>by rw[ao (aD q n)];exact q
end
abbrev Cx.pinned (X:Cx) (pins:List (zc4×Obj)) (xe:zc5->zde->Prop):Cx:={X with pn:=X.pn++pins,xe:=xe}
theorem Cx.Ok.pinned{X:Cx}(ok:X.Ok)(pins:List (zc4×Obj))(xe:zc5->zde->Prop):(X.pinned pins xe).Ok:=
 ⟨ok.mod,ok.kind,ok.glob,ok.blt,ok.above,ok.inj,ok.has,ok.L9,ok.hd,ok.frames,ok.LQ,ok.Qt,ok.bs,ok.DP,ok.Am,ok.BB,ok.oY,ok.Ij⟩
theorem Cx.Ok.m6{X:Cx}{pins:List (zc4×Obj)}{xe:zc5->zde->Prop}(ok:(X.pinned pins xe).Ok):X.Ok:=
 ⟨ok.mod,ok.kind,ok.glob,ok.blt,ok.above,ok.inj,ok.has,ok.L9,ok.hd,ok.frames,ok.LQ,ok.Qt,ok.bs,ok.DP,ok.Am,ok.BB,ok.oY,ok.Ij⟩
section
variable{X:Cx}{pins uD:List (zc4×Obj)}{σ:St}{H:Hp}{s:zde}{xe:zc5->zde->Prop}
theorem Inv.UD(I:Inv X pins σ H s)(xe:zc5->zde->Prop):Inv (X.pinned pins xe) [] σ H s:=⟨I.ok.pinned pins xe,I.os,I.bare,I.base,I.loc,I.cell,I.free,I.js,fun p hp=>I.pin p (by rw[zaP] at hp;exact hp),I.dq,I.len⟩
theorem Inv.Pj(I:Inv (X.pinned pins xe) uD σ H s):Inv X pins σ H s:=⟨I.ok.m6,I.os,I.bare,I.base,I.loc,I.cell,I.free,I.js,fun p hp=>I.pin p (zba _ hp),I.dq,I.len⟩
end
open Builtin Builtin.Getset_descriptor Builtin.ObjectAttr PySem.Calls
structure AB(K:zac)(C:zc4):Prop where
 cl:zaL K C=true
 ga:zaj K (.ref C) "__getattribute__"=some (some (.builtin "BaseException.__getattribute__"))
 gh:zaj K (.ref C) "__getattr__"=some none
 ca:zaj K (.ref C) "__class__"=some (some (.builtin "object.__class__"))
 ob:zaJ K C (.type "object")=some true
 be:zaJ K C (.type "BaseException")=some true
def oz (x C:zc4) (h:Heap):Prop:=∃o,h.get? x=some o/\o.cls=.ref C
theorem oz.type{x C:zc4}{h:Heap}{M:Model}(p:oz x C h):PySem.W.Looks M h (typeOf (.ref x)) (.ref C):=by
 obtain⟨o,h1,h2⟩:=p;exact h2▸(PySem.W.Looks.ld h1).andThen .now
section
variable{prog:zdg}{w:zc6}{A:zdf}{E:zc5->zde->Prop}{s:zde}{K:zac}{x C:zc4}
theorem JL{R:Result->zde->Prop}{tp:zc5}(c:AB K C)(X:K.In s.heap)(p:oz x C s.heap)(fin:R (.ok (.ret (.ref C))) s) :
 codeAny (model prog w) A (.call (.builtin "getset_descriptor.__get__") ⟨[.builtin "object.__class__",.ref x,tp],[]⟩) R s:=by
 obtain⟨h1,g1,d1,t1,o1⟩:=s;have LA:=p.type (M:=model prog w);have LB:=zc0 (M:=model prog w) X c.ob;refine codeAny_call_builtin PySem.W.KF.slot_gs.plain PySem.W.KF.entry_gs (PySem.W.KF.slot_gs.check _ _ _ _ _ _ _ _ PySem.W.KF.type_class (PySem.W.KF.args_gs _ _ _) ?go)
 case go=>
  unfold Builtin.«getset_descriptor.__get__» descrGet;rw[PySem.W.dga_obj];refine zc7 (zc8 ?go2)
  case go2=>
   unfold descrGetter descrCheckInstance descrNameAndClass isInstance;simp only[PySem.W.KF.owner_class]
   repeat lk
   refine⟨Code.quiet_builtin _ (by decide +kernel),codeAny_builtin PySem.W.KF.entry_class ?XE⟩
   case XE=>
    unfold Builtin.«object.__class__» shownTypeOf
    repeat lk
    exact fin
theorem Eb{tk:Tok}{Q:Fin->zde->Prop}(c:AB K C)(X:K.In s.heap)(p:oz x C s.heap)(fin:Q (.done (.ret (.ref C))) s) :
 wpAny (model prog w) A (Builtin.«object.__getattribute__» ⟨[.ref x,.str "__class__" tk],[]⟩) Q E s:=by
 obtain⟨h1,g1,d1,t1,o1⟩:=s;have LA:=p.type (M:=model prog w);have LB:=zbJ (M:=model prog w) X c.ca;have f1:(⟨h1,g1,d1,t1,o1⟩:zde).TypeIs (.builtin "object.__class__") "getset_descriptor":=F.typeOf_object_class;have f2:=F.typeOf_object_class;have f3:=F.slot_gs_get.lookup;have f4:=F.slot_gs_set.lookup
 repeat (any_goals (first |assumption |with_reducible refine LA.at ?_ |with_reducible refine LB.at ?_ |wp_step))
 refine JL c X p ?_
 repeat (any_goals (first |assumption |wp_step))
theorem Ec{M:Model}{v:zc5}{Q:Unit->zde->Prop}(c:AB K C)(X:K.In s.heap)(p:oz x C s.heap)(fin:Q () s) :
 wpAny M A (checkBuiltinCall "BaseException.__getattribute__" ⟨[.ref x,v],[]⟩) Q E s:=by
 obtain⟨h1,g1,d1,t1,o1⟩:=s;have k1:builtinKind "BaseException.__getattribute__"=some .slot:=by decide +kernel
 have k2:splitId "BaseException.__getattribute__"=some ("BaseException", "__getattribute__"):=by decide +kernel
 have k3:=F.args_bexc_ga (.ref x) v;have LA:=p.type (M:=M);have LB:=zc0 (M:=M) X c.be;simp only[checkBuiltinCall,k1,k2];refine zc7 ?_;unfold isInstance
 repeat (first |with_reducible refine LA.at ?_ |with_reducible refine LB.at ?_ |wp_step)
 exact fin
theorem GH{tk:Tok}{R:Result->zde->Prop}(c:AB K C)(X:K.In s.heap)(p:oz x C s.heap)(fin:R (.ok (.ret (.ref C))) s) :
 codeAny (model prog w) A (.call (.builtin "BaseException.__getattribute__") ⟨[.ref x,.str "__class__" tk],[]⟩) R s:=
 codeAny_call_builtin F.excAttr_ValueError.ga.plain F.entry_bexc_ga (Ec c X p (Eb c X p fin))
theorem MJ{tk:Tok}{Q:zc5->zde->Prop}(c:AB K C)(X:K.In s.heap)(p:oz x C s.heap)(fin:Q (.ref C) s) :
 wpAny (model prog w) A (getAttrBy (.ref x) (.str "__class__" tk) false) Q E s:=by
 obtain⟨h1,g1,d1,t1,o1⟩:=s;have LA:=p.type (M:=model prog w);have LB:=zbJ (M:=model prog w) X c.ga;have LC:=zbJ (M:=model prog w) X c.gh;have b1:=F.excAttr_ValueError.ga.bind (.ref x);have b2:(false&&onTheHeap (Value.builtin "BaseException.__getattribute__"))=false:=rfl;have b3:(Value.builtin "BaseException.__getattribute__"==Value.builtin "object.__getattribute__")=false:=by decide +kernel
 have b4:(onTheHeap (Value.ref C)&&Value.builtin "BaseException.__getattribute__"==Value.builtin "object.__getattribute__")=false:=by rw[b3];exact Bool.and_false _
 repeat (any_goals (first |assumption |with_reducible refine LA.at ?_ |with_reducible refine LB.at ?_ |with_reducible refine LC.at ?_ |wp_step))
 refine GH c X p ?_
 repeat (any_goals (first |assumption |wp_step))
theorem GI{Q:Option zc5->zde->Prop}(c:AB K C)(X:K.In s.heap)(p:oz x C s.heap)(fin:Q (some (.ref C)) {s with toks:=s.toks+1}) :
 wpAny (model prog w) A (getAttr? (.ref x) "__class__") Q E s:=by
 obtain⟨h1,g1,d1,t1,o1⟩:=s;unfold getAttr? getAttrBy?;have X':K.In (⟨h1,g1,d1,t1+1,o1⟩:zde).heap:=X;have p':oz x C (⟨h1,g1,d1,t1+1,o1⟩:zde).heap:=p
 repeat (any_goals (first |assumption |with_reducible apply MJ c X' p' |wp_step))
end
theorem B1{K:zac}{x C:zc4}(c:AB K C):PySem.W.KitX K (.ref x) (.ref C) (oz x C) where
 ty:=fun _ _ _ p=>p.type
 it:=fun _ _ X _=>by
  obtain⟨cd,hc,_⟩:=zcz c.cl;unfold PySem.W.clsIn at hc;split at hc
  ·rename_i ho;intro A' Q' E' s' k q;unfold isType loadHead;exact zc7 (wpAny_loadPart (k _ _ (X _ _ ho)) (zc8 q))
  ·cases hc
 ne:=fun h tp dd bj n sl X XF=>by
  obtain⟨cd,hc,_⟩:=zcz c.cl;refine zbF.mpr fun q=>?_;have e:C=tp:=Value.ref.inj (beq_iff_eq.mp q);subst e;unfold PySem.W.clsIn at hc;split at hc
  ·rename_i ho;have z:=(X _ _ ho).symm.trans XF;cases z
  ·cases hc
 ca:=fun X p k=>GI c X p k
def su (x C:zc4):HO:=.ext (oz x C)
theorem MK{P:zdg}{w:zc6}{H:Hp}{h:Heap}{x C:zc4}(p:oz x C h):dB P w H h x (su x C):=by
 refine⟨p,?_,fun h1 h2 q k=>?_⟩
 ·obtain⟨o,h1,_⟩:=p;exact⟨o,h1⟩
 ·obtain⟨o,e1,e2⟩:=q;exact⟨o,k o e1,e2⟩
theorem dG{X:Cx}{K:zac}(hK:X.K=K):m8 X (.builtin "isinstance") (fun xs H Q=>∃a C D b,xs=[.ref a,.ref D]/\H a=some (su a C)/\AB K C/\zab K (.ref C) (.ref D)=some b/\Q (.bl b) H):=by
 intro pins s σ H xs us Q I r h;subst hK;obtain⟨a,C,D,b,rfl,hE,hc,e,q⟩:=h;cases r with
 |cons r1 r2=>
  cases r2 with
  |cons r3 r4=>
   cases r4;cases (show _=Value.ref a from r1);cases (show _=Value.ref D from r3);have ok:dB X.prog X.w H s.heap a (su a C):=I.dq a _ hE;exact PySem.W.kia_one (B1 hc) I.yz ok.1 e (fun z=>nomatch z) fun tk=>⟨.bl b,H,I.tok tk,rfl,q⟩
theorem GJ{X:Cx}{K:zac}(hK:X.K=K):m8 X (.builtin "isinstance") (fun xs H Q=>∃a C T b,xs=[.ref a,.ty T]/\H a=some (su a C)/\AB K C/\zab K (.ref C) (.type T)=some b/\Q (.bl b) H):=by
 intro pins s σ H xs us Q I r h;subst hK;obtain⟨a,C,T,b,rfl,hE,hc,e,q⟩:=h;cases r with
 |cons r1 r2=>
  cases r2 with
  |cons r3 r4=>
   cases r4;cases (show _=Value.ref a from r1);cases (show _=Value.type T from r3);have ok:dB X.prog X.w H s.heap a (su a C):=I.dq a _ hE;exact PySem.W.kia_one (B1 hc) I.yz ok.1 e (fun z=>nomatch z) fun tk=>⟨.bl b,H,I.tok tk,rfl,q⟩
def Ends.drop (D:Ends) (i:Nat):Ends:={nx:=fun σ H=>D.nx (σ.set i none) H,rt:=D.rt,bk:=fun σ H=>D.bk (σ.set i none) H,ct:=fun σ H=>D.ct (σ.set i none) H}
section
variable{X:Cx}{pins:List (zc4×Obj)}{σ:St}{H:Hp}{s:zde}{x:zc4}
theorem Inv.RK{o:HO}(I:Inv X pins σ H s)(n:H x=none)(h0:X.s₀.heap.get? x=none)(hL:x≠X.env.locals)(hc:∀y c,X.env.cells.lookup y=some c->c≠x)(hp:∀p∈X.pn++pins,p.1≠x)(ok:dB X.prog X.w (upd H x o) s.heap x o):Inv X pins σ (upd H x o) s:=by
 have away:∀b u,X.s₀.heap.get? b=some u->b≠x:=fun b u e z=>by rw[z,h0] at e;cases e
 refine⟨I.ok,I.os,I.bare,⟨I.base.keep,I.base.slot,fun b u e n' hx=>?_,I.base.there,fun b xs e=>?_,fun b ob u e=>?_,fun b ps e=>?_⟩,I.loc,I.cell,?_,fun y c e=>?_,fun p Mu=>?_,fun b u e=>?_,I.len⟩
 ·rw[ao (away b u e)];exact I.base.free b u e n' hx
 ·have z:=I.base.jM b xs e;rw[ao (aD z n)];exact z
 ·have z:=I.base.nJ b ob u e;rw[ao (aD z n)];exact z
 ·obtain⟨m,e1⟩:=I.base.oS b ps e;exact⟨m,by rw[ao (aD e1 n)];exact e1⟩
 ·rw[ao (Ne.symm hL)];exact I.free
 ·rw[ao (hc y c e)];exact I.js y c e
 ·obtain⟨a,b,c⟩:=I.pin p Mu;exact⟨a,by rw[ao (hp p Mu)];exact b,c⟩
 ·by_cases hb:b=x
  ·subst hb;rw[ae] at e;cases e;exact ok
  ·rw[ao hb] at e;exact(I.dq b u e).mY (fun _ _ _ q=>q) (fun c q=>by rw[ao (aD q n)];exact q) fun c xs q=>by rw[ao (aD q n)];exact q
theorem Inv.ML{M:Model}{A:zdf}{E:zc5->zde->Prop}{i:Nat}{n:Str}{pos:Pos}{Q:Unit->zde->Prop}(I:Inv X pins σ H s)(hN:X.N.Nodup)(hi:X.N[i]?=some n)(hk:X.env.scope.names.lookup n=some .local)
 (h:∀s',Inv X pins (σ.set i none) H s'->Q () s'):wpAny M A (do bindName X.env n .none;unbindBehindTheSuite X.env n pos) Q E s:=by
 obtain⟨m,hn,hl⟩:=id I.loc;have UE:(X.env.scope.kind==.class ||(X.env.scope.kind==.module&&X.env.locals != X.env.globals))=false:=by rw[I.ok.kind];rfl
 have oW:i<σ.length:=by rw[I.len];exact(zan.mp hi).1
 have Iy:=I.Iy;obtain⟨oL,_,_,SY,_⟩:=id hn;refine wpAny_nameGoes_keeps hk hn UE fun h' v TY hs=>h _ ?_;have under:∀b o,X.s₀.heap.get? b=some o->h'.get? b=s.heap.get? b:=fun b o e=>hs.2 b (zaF (zaC (Heap.lt_size e) I.ok.above));refine⟨I.ok,I.os,I.bare,⟨fun b o e z hb hx=>(under b o e).trans (I.base.keep b o e z hb hx),fun b o e z hb hx=>?_,I.base.free,fun b o e hx=>?_,I.base.jM,I.base.nJ,I.base.oS⟩,⟨_,TY,fun j y v' e1 e2 e3=>?_⟩,fun y c e=>?_,I.free,I.js,fun p hp=>?_,fun b ob e=>?_,by simpa using I.len⟩
 ·obtain⟨sl,e1⟩:=I.base.slot b o e z hb hx;exact⟨sl,(under b o e).trans e1⟩
 ·obtain⟨o',e1⟩:=I.base.there b o e hx;exact⟨o',(under b o e).trans e1⟩
 ·by_cases hj:j=i
  ·subst hj;rw[zbg oW] at e2;cases e2
  ·rw[zbl (Ne.symm hj)] at e2;obtain⟨u',r',q⟩:=hl j y v' e1 e2 e3;refine⟨u',r',?_⟩;rcases q with ⟨k,e⟩ |⟨k,c,e,z⟩
   ·have ny:y≠n:=fun z=>hj (vW hN e1 (z▸hi));exact .inl ⟨k,by simp[ny,e]⟩
   ·exact .inr ⟨k,c,e,z.sameBut hs (Iy y c e)⟩
 ·obtain⟨w',z⟩:=I.cell y c e;exact⟨w',z.sameBut hs (Iy y c e)⟩
 ·obtain⟨e,z,ne,nf,d⟩:=I.pin p hp;exact⟨(hs.2 p.1 ne).trans e,z,ne,nf,d⟩
 ·refine(I.dq b ob e).mY (fun c w' hc q=>(hs.2 c ?_).trans q) (fun _ q=>q) fun _ _ q=>q
  rintro rfl
  rcases hc with rfl |hc
  ·rw[I.free] at e;cases e
  ·rw[I.free] at hc;cases hc
end
def JM (K:zac) (CH:zc4) (i:Nat) (sp:Sp) (ta:TA) (ts:TS):TS:=fun D σ H=>ta σ H fun vs H1=>sp vs H1 (fun _ H2=>D.nx σ H2) fun cls _ H2=>zam K cls (.ref CH)=some true/\
 ∃C,cls=.ref C/\∀y,H2 y=none->ts (D.drop i) (σ.set i (some (.ref y))) (upd H2 y (su y C))
section
variable{X:Cx}{k i:Nat}{f CH:zc4}{fd:zdd}{ps:List Str}{sp:Sp}{fx cx n:Str}{p pos pos' np UG OS:Pos}{e:Expr}{es:List Expr}{ta:TA}{ts:TS}{b0:Stmt}{NS:List Stmt}
theorem JN(hN:X.N.Nodup)(hi:X.N[i]?=some n)(GK:X.env.scope.names.lookup n=some .local)(hex:X.ex=[])(F:bC X.prog X.w X.K X.mg X.base (ky X.prog X.w) k f fd ps sp)(hr:fQ k X.A)(hg:Gl X fx)(hm:X.mg fx=some (.ref f))(hk:zaQ X.K (.ref f)=true)(hb:Binds X.K fd ps [])
 (ha:∀pn xe,PA {X with pn:=pn,xe:=xe} (e::es) ta) (IG:X.stack=X.env::X.outer) (XG:X.env.frame=some X.env.locals) (XH:Gl X cx) (XI:X.mg cx=some (.ref CH)) (hs:∀x,DL (X.fD x) (b0::NS) ts)
 (Gx:(fx==("__debug__":Str))=false:=by decide) (XJ:(cx==("__debug__":Str))=false:=by decide) (he:zda (e::es) X.env=(false,eval e X.env)::zda es X.env:=by rfl) (Bu:(backTo pos (zda es X.env)).any (·.1)=false:=by rfl)
 (XM:swapsWith (.Call (.Name fx p) (e::es) [] pos) none pos'.line X.env=pure false:=by rfl) :
 PS X (.Try [.Expr (.Call (.Name fx p) (e::es) [] pos) pos'] [.ExceptHandler (some (.Name cx np)) (some n) (b0::NS) UG] [] [] OS) (JM X.K CH i sp ta ts):=by
 intro pins s σ H D I h;have hd:X.calm=true->X.A.handled=none:=I.ok.hd;have call:PE (X.pinned pins fun x s'=>∃H1 s1,Inv X pins σ H1 s1/\ky X.prog X.w X.stack H1 s1 (fun cls _ H2=>zam X.K cls (.ref CH)=some true/\∃C,cls=.ref C/\∀y,H2 y=none->ts (D.drop i) (σ.set i (some (.ref y))) (upd H2 y (su y C))) x s') (.Call (.Name fx p) (e::es) [] pos)
  (fun σ' H' Q=>σ'=σ/\ta σ H' fun vs H1=>sp vs H1 Q fun cls _ H2=>zam X.K cls (.ref CH)=some true/\∃C,cls=.ref C/\∀y,H2 y=none->ts (D.drop i) (σ.set i (some (.ref y))) (upd H2 y (su y C))):=by
  intro uD s' σ' H' Q I' h';obtain⟨rfl,h'⟩:=h';refine wpAny_Call_Name_kw (nK I' hg hm ?_ Gx);refine zcg (h₀:=X.base) I'.ok.mod.Qs hk (d7 (ha _ _ pos uD s' σ' H' _ I' h') fun us s1 ⟨vs,H1,I1,r,q⟩=>⟨I1.yz,?_⟩) he Bu;have hl:us.length=ps.length:=by rw[<- r.length];exact F.len _ _ _ _ q
  have Wf:=hb s1 us I1.yz (by rw[zaP];exact hl);rw[zaP] at Wf;refine wpAny_call (codeAny_mono (F.run X.A X.stack s1 H1 ⟨us,[]⟩ us vs Q _ hr I1.Pj.OV Wf r q) fun r s2 hq=>?_);cases r with
  |error x=>exact⟨H1,s1,I1.Pj,hq⟩
  |ok fl=>
   cases fl with
   |ret u=>exact I1.after hq
   |next=>exact False.elim hq
   |brk=>exact False.elim hq
   |cont=>exact False.elim hq
 have body:=ak (cB (pos:=pos') call XM) [] s σ H {nx:=D.nx,rt:=fun _ _=>False} (I.UD _) ⟨rfl,h⟩;refine wpAny_Try_except (wpAny_mono body (fun fl s1 hf=>?_) fun x s1 hx=>?_)
 ·cases fl with
  |next=>
   obtain⟨σ',H',I',q⟩:=hf;exact wpAny_execs_nil ⟨σ',H',I'.Pj,q⟩
  |ret u=>obtain⟨_,_,_,_,_,q⟩:=hf;exact False.elim q
  |brk=>obtain⟨_,_,_,q⟩:=hf;exact False.elim q
  |cont=>obtain⟨_,_,_,q⟩:=hf;exact False.elim q
 ·obtain⟨H1,s0,I0,y,cls,a0,B,H',rfl,Y⟩:=hx;obtain⟨UH,C,rfl,hq⟩:=Y.want;have fl:=Y.fl;have LQ:X.A.frames=some (X.env::X.outer):=by rw[<- IG];exact I.ok.frames
  rw[IG] at fl;refine wpAny_looks_onW LQ XG fl fun h4 RL XN=>?_;refine wpAny_landsW RL fun h5 JO XO=>?_;have up:=XN.trans XO;have state:∀ {h6:Heap},B.StaysIn h6->s1.heap.UpToSlots h6->Inv X pins σ H' {s1 with heap:=h6}:=fun {h6} st UI=>by
   obtain⟨u,dq⟩:=Y.move I0 st UI;exact I0.Nz (s':={s1 with heap:=h6}) Y.os u dq Y.bare fun b z=>absurd z (by simp)
  have I5:=state JO.1 up;refine wpAny_handleBy_cons (codeAny_handlers_test (nK (X:=X.fD y) (I5.fD y) XH XI ?_ XJ)) (by intro q;cases q);obtain⟨ob,XQ,UJ⟩:=JO.there;have LT:PySem.W.Looks (model X.prog X.w) h5 (typeOf (.ref y)) (.ref C):=by
   rw[<- UJ];exact(PySem.W.Looks.ld XQ).andThen .now
  refine(PySem.W.exm_one (I5.yz) LT UH).here ?_;refine codeAny_handlers_suite_as ?_;refine lands_againW JO fun h6 JP UI=>?_;have I6:=state JP.1 (up.trans UI);obtain⟨o6,UK,UL⟩:=JP.there;have Wg:B.get? y=none:=fl.2.1;have nH:H' y=none:=by
   cases e:H' y with
   |none=>rfl
   |some u=>obtain⟨o,ho⟩:=Y.Iv y u e;rw[Wg] at ho;cases ho
  have UM:∃vs,o6.data=.fields vs:=by
   obtain⟨_,_,_,oe,vs,_,_,_,Wh,_,XR,_⟩:=JP;rw[UK] at Wh;cases Wh;exact⟨vs,XR⟩
  have RM:∀b∈fB X.stack,b≠y:=fun b hb z=>by
   obtain⟨_,o',qw,XS⟩:=(I6.stack.mem hb)
   rw[z,UK] at qw;cases qw;obtain⟨vs,hv⟩:=UM;exact XS vs hv
  have out:∀b o,s0.heap.get? b=some o->b≠y:=fun b o e z=>by
   by_cases hb:b∈fB X.stack
   ·exact RM b hb z
   ·obtain⟨o',qw⟩:=Y.old b o e hb;rw[z,Wg] at qw;cases qw
  have hL:y≠X.env.locals:=by
   obtain⟨m0,⟨oL,_,_,SY,_⟩,_⟩:=I0.loc;exact fun z=>out _ _ SY z.symm
  have hC:∀z c,X.env.cells.lookup z=some c->c≠y:=fun z c e=>by
   obtain⟨_,o',qw,_⟩:=I0.cell z c e;exact out c o' qw
  have hP:∀q∈X.pn++pins,q.1≠y:=fun q LU=>out q.1 _ (I0.pin q LU).1;have h0:X.s₀.heap.get? y=none:=by
   cases e:X.s₀.heap.get? y with
   |none=>rfl
   |some o=>
    obtain⟨o',qw⟩:=I0.base.there y o e (by rw[hex];simp);exact absurd rfl (out y o' qw)
  have I7:=(I6.RK (o:=su y C) nH h0 hL hC hP (MK ⟨o6,UK,UL⟩)).fD y;refine vX (X:=X.fD y) I7 hN hi (.inl GK) (show RelV (.ref y) (.ref y) from rfl) (fun s8 I8=>?_) (.inr GK);refine wpAny_mono (hs y pins s8 (σ.set i (some (.ref y))) (upd H' y (su y C)) (D.drop i) I8 (hq y nH)) (fun fl s9 q9=>?_) fun _ _ z=>False.elim z;have Tc:=q9.jv hd;cases fl with
  |next=>obtain⟨σ',H9,I9,q⟩:=Tc;exact I9.ML hN hi GK fun s' I'=>⟨_,_,I',q⟩
  |brk=>obtain⟨σ',H9,I9,q⟩:=Tc;exact I9.ML hN hi GK fun s' I'=>⟨_,_,I',q⟩
  |cont=>obtain⟨σ',H9,I9,q⟩:=Tc;exact I9.ML hN hi GK fun s' I'=>⟨_,_,I',q⟩
  |ret u=>obtain⟨v,σ',H9,I9,r,q⟩:=Tc;exact I9.ML hN hi GK fun s' I'=>⟨v,_,_,I',r,q⟩
end
def Pk (z:Str):It:=⟨fun i _=>i<z.cps.size,fun i H x H'=>H'=H/\∃c,z.cps[i]?=some c/\x=.str ⟨#[c]⟩,fun i _=>z.cps.size<=i⟩
section
variable{P:zdg}{w:zc6}{K:zac}{tg:Expr}
theorem GL(z:Str)(t:Tok)(it:zc4):Turn P w K tg (Pk z) [it] it (fun i h=>h.IsStrIter it "str_ascii_iterator" z t i) where
 mem:=by simp
 obj:=fun i h st b hb=>by
  have e:b=it:=by simpa using hb
  subst e;obtain⟨o,e,c,d⟩:=st;exact⟨o,e,fun v y=>by rw[d] at y;cases y⟩
 keep:=fun i h h' st k=>let ⟨o,ho,r⟩:=st;⟨o,k it (by simp) o ho,r⟩
 item:=by
  intro X hP hw hK hc i pins s σ H E I hf st hg;subst hP hw hK;obtain⟨f0,f1,f2,f3,f4,f5⟩:=hf it (by simp);have oW:i<z.cps.size:=hg;refine wpAny_pyNext_ascii_item st (c:=z.cps[i]) (by simp[oW]) fun h' BE sb=>?_;have I1:Inv X pins σ H {s with heap:=h',toks:=s.toks+1}:=I.turned (fun b o hb e=>(sb.2 b hb).trans e) f0 f1 f3 f4 f5;obtain⟨o,e,c,d⟩:=id BE;exact⟨_,rfl,E9 (s:={s with heap:=h',toks:=s.toks+1}) e c d (by decide) ⟨.str ⟨#[z.cps[i]]⟩,H,I1,⟨_,rfl⟩,⟨rfl,z.cps[i],by simp[oW],rfl⟩,BE,fun b hb=>(hf b hb).1⟩⟩
 done:=by
  intro X hP hw hK hc i pins s σ H E I hf st hg;subst hP hw hK;obtain⟨f0,f1,f2,f3,f4,f5⟩:=hf it (by simp);have hle:z.cps.size<=i:=hg;exact wpAny_pyNext_ascii_end (I.ok.hd hc) st (by simp[hle]) fun h' eb=>⟨rfl,I.turned (t':=s.toks) (fun b o hb e=>eb b o hb e) f0 f1 f3 f4 f5⟩
 self:=fun _ _ _ _ _ st h=>wpAny_pyIter_striter_ascii st h
theorem GN(z:Str)(t:Tok)(it:zc4):Turn P w K tg (Pk z) [it] it (fun i h=>h.IsStrIter it "str_iterator" z t i) where
 mem:=by simp
 obj:=fun i h st b hb=>by
  have e:b=it:=by simpa using hb
  subst e;obtain⟨o,e,c,d⟩:=st;exact⟨o,e,fun v y=>by rw[d] at y;cases y⟩
 keep:=fun i h h' st k=>let ⟨o,ho,r⟩:=st;⟨o,k it (by simp) o ho,r⟩
 item:=by
  intro X hP hw hK hc i pins s σ H E I hf st hg;subst hP hw hK;obtain⟨f0,f1,f2,f3,f4,f5⟩:=hf it (by simp);have oW:i<z.cps.size:=hg;refine wpAny_pyNext_wide_item st (c:=z.cps[i]) (by simp[oW]) fun h' BE sb=>?_;have I1:Inv X pins σ H {s with heap:=h',toks:=s.toks+1}:=I.turned (fun b o hb e=>(sb.2 b hb).trans e) f0 f1 f3 f4 f5;obtain⟨o,e,c,d⟩:=id BE;exact⟨_,rfl,E9 (s:={s with heap:=h',toks:=s.toks+1}) e c d (by decide) ⟨.str ⟨#[z.cps[i]]⟩,H,I1,⟨_,rfl⟩,⟨rfl,z.cps[i],by simp[oW],rfl⟩,BE,fun b hb=>(hf b hb).1⟩⟩
 done:=by
  intro X hP hw hK hc i pins s σ H E I hf st hg;subst hP hw hK;obtain⟨f0,f1,f2,f3,f4,f5⟩:=hf it (by simp);have hle:z.cps.size<=i:=hg;exact wpAny_pyNext_wide_end (I.ok.hd hc) st (by simp[hle]) fun h' eb=>⟨rfl,I.turned (t':=s.toks) (fun b o hb e=>eb b o hb e) f0 f1 f3 f4 f5⟩
 self:=fun _ _ _ _ _ st h=>wpAny_pyIter_striter_wide st h
end
section
variable{X:Cx}{tg:Expr}
def Pl (tl:TE):TI:=fun σ H R=>tl σ H fun x H1=>∃z,x=.str z/\R (Pk z) H1
theorem JQ{l:Expr}{tl:TE}(hl:PE X l tl):PI X tg l (Pl tl):=by
 intro pins s σ H R I h;refine d7 (hl pins s σ H _ I h) fun v s1 zqz=>?_;obtain⟨x,H1,I1,r1,q1⟩:=zqz;obtain⟨z,e,q⟩:=q1;subst e;obtain⟨t,rfl⟩:=r1;have fp:∀b∈[s1.heap.objs.size],qU X pins H1 b:=fun b hb=>by
  have e:b=s1.heap.objs.size:=by simpa using hb
  subst e;exact I1.II (zai _) (I1.dq.fresh (zai _))
 cases ha:z.cps.all (·<128) with
 |false=>exact wpAny_pyIter_wide ha ⟨s1.heap.objs.size,[s1.heap.objs.size],_,_,H1,rfl,I1.kept (t':=s1.toks) fun b o e=>Heap.get?_push_of_some _ e,GN z t _,⟨_,Heap.get?_push_size _ rfl,rfl,rfl⟩,fp,q⟩
 |true=>exact wpAny_pyIter_ascii ha ⟨s1.heap.objs.size,[s1.heap.objs.size],_,_,H1,rfl,I1.kept (t':=s1.toks) fun b o e=>Heap.get?_push_of_some _ e,GL z t _,⟨_,Heap.get?_push_size _ rfl,rfl,rfl⟩,fp,q⟩
end
theorem MM{z:Str}{g:TG}{tb:TS}{D:Ends}{σ:St}{H:Hp}(Pv:Nat->St->Hp->Prop)(h0:Pv 0 σ H)
 (hs:∀i c σ H,z.cps.toList[i]?=some c->Pv i σ H->g (.str ⟨#[c]⟩) σ H fun σ2 H2=>tb {D with nx:=Pv (i+1),ct:=Pv (i+1),bk:=D.nx} σ2 H2) (hd:∀σ H,Pv z.length σ H->D.nx σ H) :
 ∃W:Nat->Nat->St->Hp->Prop,(∃m,W 0 m σ H)/\∀i m σ H,W i m σ H->
  ((Pk z).stop i H/\D.nx σ H)\/((Pk z).go i H/\∃N:St->Hp->Prop,(∀σ' H',N σ' H'->∃m',m'<m/\W (i+1) m' σ' H')/\∀x H',(Pk z).Gm i H x H'->g x σ H' fun σ2 H2=>tb {D with nx:=N,ct:=N,bk:=D.nx} σ2 H2):=by
 refine⟨fun i m σ H=>m=z.cps.size-i/\i<=z.cps.size/\Pv i σ H,⟨z.cps.size,by simp,za0 _,h0⟩,?_⟩
 rintro i m σ H ⟨rfl,hi,p⟩
 by_cases oW:i<z.cps.size
 ·refine .inr ⟨oW,Pv (i+1),fun σ' H' p'=>⟨z.cps.size-(i+1),by lia,rfl,oW,p'⟩,fun x H' y=>?_⟩;obtain⟨rfl,c,hc,rfl⟩:=y;exact hs i c σ _ (by simpa using hc) p
 ·have e:i=z.cps.size:=by lia
  subst e;exact .inl ⟨zai _,hd σ H p⟩
section
variable{X:Cx}
theorem sA:m8 X (.type "int") (fun xs H Q=>∃z n,xs=[.str z]/\PySem.intText? z=some n/\z.length<=640/\Q (.int n) H):=by
 intro pins s σ H xs us Q I r h;obtain⟨z,n,rfl,hn,hl,q⟩:=h;obtain⟨u,rfl,ru⟩:=vals1 r;obtain⟨t,rfl⟩:=ru;exact PySem.W.KIN.call_text hn hl ⟨.int n,H,I.tok _,⟨_,rfl⟩,q⟩
theorem JR(hc:X.calm=true):m8 X (.builtin "all") (fun xs H Q=>∃(p:zc4) (bs:List Bool),xs=[.ref p]/\gW X.K H p (bs.map V.bl)/\Q (.bl (bs.all id)) H):=by
 intro pins s σ H xs us Q I r h;obtain⟨p,bs,rfl,hl,q⟩:=h;obtain⟨u,rfl,ru⟩:=vals1 r;cases (show u=Value.ref p from ru);obtain⟨bj,rv,pl,_⟩:=I.list hl;have oW:p<s.heap.objs.size:=by
  obtain⟨o,_,e,_⟩:=pl;exact Heap.lt_size e
 refine call_all_walk (wpAny_pyIter_list pl.isList ?_);have ne:p≠s.heap.objs.size:=zaF oW;refine⟨s.heap.objs.size,_,_,_,_,_,fun i=>bs.getD i true,rfl,Walks.list (show X.A.in1.handled=none from I.ok.hd hc) _ p ne bj.toArray,⟨⟨_,Heap.get?_push_size _ rfl,rfl,rfl⟩,pl.isList.push _⟩,fun i v s' Q' E' hv hq=>?_,fun h' tk hk=>?_⟩
 ·have S2:bj[i]?=some v:=by simpa using hv
  have hb:∃b,bs[i]?=some b:=by
   have:i<bs.length:=by
    have l1:=rv.length;rw[zae] at l1;have:=(zan.mp S2).1;lia
   exact⟨bs[i],zah this⟩
  obtain⟨b,hb⟩:=hb;obtain⟨u,hu,ru⟩:=rv.get (i:=i) (x:=.bl b) (by rw[zaN,hb];rfl);rw[S2] at hu;cases hu;cases (show v=Value.bool b from ru);have e:bs.getD i true=b:=by rw[zaE,hb];rfl
  have LU:Q' (bs.getD i true) s':=hq;rw[e] at LU;exact zc8 LU
 ·refine⟨.bl (bs.all id),H,I.kept (h':=h') (t':=tk) (fun b o e=>hk b o ?_ (Heap.get?_push_of_some _ e)),?_,q⟩
  ·have:b≠s.heap.objs.size:=zaF (Heap.lt_size e);simpa using this
  ·have ln:bj.toArray.size=bs.length:=by rw[zao,<- rv.length,zae]
   show Value.bool ((zaW bj.toArray.size).all fun i=>bs.getD i true)=Value.bool (bs.all id);rw[ln]
   congr 1
   have key:∀l:List Bool,((zaW l.length).all fun i=>l.getD i true)=l.all id:=fun l=>by
    rw[zbb,za2,za2]
    constructor
    ·intro h x hx;obtain⟨i,hi,rfl⟩:=zb9 hx;have:=h i (zbp.mpr hi);rw[zaE,zah hi] at this;exact this
    ·intro h i hi;have hi:=zbp.mp hi;rw[zaE,zah hi];exact h _ (zaS hi)
   exact key bs
end
theorem JS{J:It}{D:zc4}{tc:TT}{te:TE}{Q:VK}{r:St}{H:Hp}(xs:List V)(p:V->Bool)(f:V->V)(hl:xs.length<=16000000)
 (go:∀i ys,i<xs.length->J.go i (upd H D (.lst ys))) (Gm:∀i ys x H',J.Gm i (upd H D (.lst ys)) x H'->H'=upd H D (.lst ys)/\xs[i]?=some x) (stop:∀ys,J.stop xs.length (upd H D (.lst ys)))
 (test:∀x∈xs,∀ys (R:Bool->Hp->Prop),R (p x) (upd H D (.lst ys))->tc (some x::r) (upd H D (.lst ys)) R)
 (step:∀x∈xs,p x=true->∀ys (R:VK),R (f x) (upd H D (.lst ys))->te (some x::r) (upd H D (.lst ys)) R)
 (q:Q (.ref D) (upd H D (.lst ((xs.filter p).map f)))):uJ J D (mZ 0) tc te Q (none::r) (upd H D (.lst [])):=by
 refine⟨fun i m τ H2=>m=xs.length-i/\i<=xs.length/\(∃x,τ=x::r)/\H2=upd H D (.lst (((xs.take i).filter p).map f)),⟨xs.length,by simp,za0 _,⟨none,rfl⟩,by simp⟩,?_⟩
 rintro i m τ H2 ⟨rfl,hi,⟨x,rfl⟩,rfl⟩
 by_cases oW:i<xs.length
 ·refine .inr ⟨go i _ oW,fun τ' H'=>(∃x,τ'=x::r)/\H'=upd H D (.lst (((xs.take (i+1)).filter p).map f)),fun τ' H' ⟨h1,h2⟩=>⟨xs.length-(i+1),by lia,rfl,oW,h1,h2⟩,fun y H' hy=>?_⟩;obtain⟨rfl,hz⟩:=Gm i _ y H' hy;clear hy;have hy:=hz;rw[zah oW] at hy;cases hy;have mem:=zaS oW;simp only[mZ,zcv];refine test _ mem _ _ ?_;rw[zbi oW,List.filter_append,zar];cases hp:p xs[i] with
  |false=>
   rw[if_neg zad];refine⟨⟨_,rfl⟩,?_⟩;simp[hp]
  |true=>
   rw[if_pos rfl];refine step _ mem hp _ _ ⟨_,ae,?_,⟨_,rfl⟩,?_⟩
   ·have h1:(((xs.take i).filter p).map f).length<=i:=by
     rw[zae];exact zaA (zcO _ _) (by rw[zbh];lia)
    have:zdc=2 ^ 24:=rfl;lia
   ·rw[Ak];simp[hp]
 ·have e:i=xs.length:=by lia
  subst e;refine .inl ⟨stop _,?_⟩;rw[zbX];exact q
theorem JT{z:Str}{D:zc4}{tc:TT}{te:TE}{Q:VK}{r:St}{H:Hp}(p:Nat->Bool)(f:Nat->V)(hl:z.length<=16000000)
 (test:∀c∈z.cps.toList,∀ys (R:Bool->Hp->Prop),R (p c) (upd H D (.lst ys))->tc (some (.str ⟨#[c]⟩)::r) (upd H D (.lst ys)) R)
 (step:∀c∈z.cps.toList,p c=true->∀ys (R:VK),R (f c) (upd H D (.lst ys))->te (some (.str ⟨#[c]⟩)::r) (upd H D (.lst ys)) R)
 (q:Q (.ref D) (upd H D (.lst ((z.cps.toList.filter p).map f)))):uJ (Pk z) D (mZ 0) tc te Q (none::r) (upd H D (.lst [])):=by
 have code:∀(c:Nat),(match V.str ⟨#[c]⟩ with |.str y=>y.cps.toList.headD 0 |_=>0)=c:=fun c=>rfl;refine JS (z.cps.toList.map fun c=>V.str ⟨#[c]⟩) (fun x=>p (match x with |.str y=>y.cps.toList.headD 0 |_=>0)) (fun x=>f (match x with |.str y=>y.cps.toList.headD 0 |_=>0)) (by rw[zae];simpa[Str.length] using hl)
  (fun i ys hi=>?_) (fun i ys x H' hy=>?_) (fun ys=>?_) (fun x hx ys R hR=>?_) (fun x hx hp ys R hR=>?_) ?_
 ·show i<z.cps.size;simpa using hi
 ·obtain⟨rfl,c,hc,rfl⟩:=hy;refine⟨rfl,?_⟩;rw[zaN];have:z.cps.toList[i]?=some c:=by simpa using hc
  rw[this];rfl
 ·show z.cps.size<=_;simp
 ·obtain⟨c,hc,rfl⟩:=zaT.mp hx;exact test c hc ys R hR
 ·obtain⟨c,hc,rfl⟩:=zaT.mp hx;exact step c hc hp ys R hR
 ·rw[List.filter_map,zbH];exact q
abbrev W:=PM.W
def S (w:W):Str:=⟨w.toArray⟩
def sv (w:W):V:=.str (S w)
theorem Pm(w:W):(S w).cps.toList=w:=rfl
theorem ez(w:W):(S w).length=w.length:=by simp[S,Str.length]
theorem B2{a b:W}:S a=S b↔a=b:=⟨fun h=>by have:=congrArg (fun z:Str=>z.cps.toList) h;simpa[S] using this,fun h=>by rw[h]⟩
theorem zQ(a b:W):S a++S b=S (a++b):=by
 show (⟨a.toArray++b.toArray⟩:Str)=_;simp[S]
theorem iC{a b:W}:sv a=sv b↔a=b:=by unfold sv;rw[V.str.injEq];exact B2
theorem JU(c:Nat):(⟨#[c]⟩:Str)=S [c]:=rfl
def oT:PM.Tr->Dp
 |.num n=>.tup [.str "number",.int n]
 |.box x=>.tup [.str "box",.str (S x)]
 |.bin o l r=>.tup [.str (S o),oT l,oT r]
def kindS:Nat->Str
 |0=>"letter"
 |1=>"figure"
 |2=>"sign"
 |_=>""
def bM (p:zc4) (H H':Hp):Prop:=∀b o,b≠p->H b=some o->H' b=some o
theorem bM.refl(p:zc4)(H:Hp):bM p H H:=fun _ _ _ h=>h
theorem bM.trans{p:zc4}{H H1 H2:Hp}(a:bM p H H1)(b:bM p H1 H2):bM p H H2:=fun c o n h=>b c o n (a c o n h)
theorem bM.of{p:zc4}{H H':Hp}(s:aq H H'):bM p H H':=fun b o _ h=>s b o h
theorem bM.put{p:zc4}{H H1:Hp}(a:bM p H H1)(o:HO):bM p H (upd H1 p o):=fun b u n h=>by rw[ao n];exact a b u n h
theorem bM.new{p q:zc4}{H H1:Hp}(a:bM p H H1)(h:H1 q=none)(o:HO):bM p H (upd H1 q o):=fun b u n e=>by rw[ao (aD (a b u n e) h)];exact a b u n e
theorem bM.same{p:zc4}{H H':Hp}(a:bM p H H')(h:H p=none):aq H H':=fun b o e=>a b o (aD e h) e
structure rX(CP:zc4)(H:Hp)(p l dx:zc4)(ps:List W)(k:Nat):Prop where
 ins:H p=some (.ins CP dx [("pieces",.ref l),("place",.int k)])
 own:H dx=some (.own p)
 lst:H l=some (.lst (ps.map sv))
 le:k<=ps.length
 pos:∀q∈ps,q≠[]
 len:∀q∈ps,q.length<=60
 many:ps.length<=60
theorem rX.nd{CP p l dx:zc4}{H:Hp}{ps:List W}{k:Nat}(o:rX CP H p l dx ps k):dx≠p:=dU o.own o.ins (by intro z;cases z)
theorem rX.nl{CP p l dx:zc4}{H:Hp}{ps:List W}{k:Nat}(o:rX CP H p l dx ps k):l≠p:=dU o.lst o.ins (by intro z;cases z)
theorem rX.at{CP p l dx:zc4}{H H':Hp}{ps:List W}{k j:Nat}(o:rX CP H p l dx ps k)(u:bM p H H')(e:H' p=some (.ins CP dx [("pieces",.ref l),("place",.int j)]))(hj:j<=ps.length):rX CP H' p l dx ps j:=
 ⟨e,u _ _ o.nd o.own,u _ _ o.nl o.lst,hj,o.pos,o.len,o.many⟩
theorem Rep.ng{K:zac}{H H':Hp}{p C dx:zc4}{fs:List (Str×V)}(hp:H p=some (.ins C dx fs))(u:bM p H H'):(∀(d:Dp) (v:V),Rep K H d v->Rep K H' d v)/\∀(ds:List Dp) (vs:List V),bc K H ds vs->bc K H' ds vs:=by
 have st:∀a xs,eQ K H a xs->eQ K H' a xs:=fun a xs h=>by
  rcases h with (h |⟨o,h⟩) |h
  ·exact .inl (.inl (u _ _ (dU h hp (by intro z;cases z)) h))
  ·exact .inl (.inr ⟨o,u _ _ (dU h hp (by intro z;cases z)) h⟩)
  ·exact .inr h
 have sl:∀a xs,gW K H a xs->gW K H' a xs:=fun a xs h=>by
  rcases h with (h |⟨o,h⟩) |h
  ·exact .inl (.inl (u _ _ (dU h hp (by intro z;cases z)) h))
  ·exact .inl (.inr ⟨o,u _ _ (dU h hp (by intro z;cases z)) h⟩)
  ·exact .inr h
 refine⟨fun d=>?_,fun ds=>?_⟩
 ·exact Dp.rec (motive_1:=fun d=>∀v,Rep K H d v->Rep K H' d v) (motive_2:=fun ds=>∀vs,bc K H ds vs->bc K H' ds vs)
   (fun v h=>by rw[Rep.vK] at h ⊢;exact h) (fun b v h=>by rw[Rep.wt] at h ⊢;exact h) (fun i v h=>by rw[Rep.dy] at h ⊢;exact h) (fun x v h=>by rw[Rep.bf] at h ⊢;exact h)
   (fun l ih v h=>by rw[Rep.cj] at h ⊢;obtain⟨a,xs,e,q,r⟩:=h;exact⟨a,xs,e,st a xs q,ih xs r⟩)
   (fun l ih v h=>by rw[Rep.jm] at h ⊢;obtain⟨a,xs,e,q,r⟩:=h;exact⟨a,xs,e,sl a xs q,ih xs r⟩)
   (fun vs h=>by rw[bc.bX] at h ⊢;exact h)
   (fun d ds i1 i2 vs h=>by rw[bc.bL] at h ⊢;obtain⟨v,r,e,x,y⟩:=h;exact⟨v,r,e,i1 v x,i2 r y⟩) d
 ·exact Dp.rec_1 (motive_1:=fun d=>∀v,Rep K H d v->Rep K H' d v) (motive_2:=fun ds=>∀vs,bc K H ds vs->bc K H' ds vs)
   (fun v h=>by rw[Rep.vK] at h ⊢;exact h) (fun b v h=>by rw[Rep.wt] at h ⊢;exact h) (fun i v h=>by rw[Rep.dy] at h ⊢;exact h) (fun x v h=>by rw[Rep.bf] at h ⊢;exact h)
   (fun l ih v h=>by rw[Rep.cj] at h ⊢;obtain⟨a,xs,e,q,r⟩:=h;exact⟨a,xs,e,st a xs q,ih xs r⟩)
   (fun l ih v h=>by rw[Rep.jm] at h ⊢;obtain⟨a,xs,e,q,r⟩:=h;exact⟨a,xs,e,sl a xs q,ih xs r⟩)
   (fun vs h=>by rw[bc.bX] at h ⊢;exact h)
   (fun d ds i1 i2 vs h=>by rw[bc.bL] at h ⊢;obtain⟨v,r,e,x,y⟩:=h;exact⟨v,r,e,i1 v x,i2 r y⟩) ds
section
variable(K:zac)(CP CN:zc4)
def Ed (ok:Nat->Bool) (signs:Str):Sp:=fun vs H Q _=>∃w:W,vs=[sv w,.str signs]/\w.length<=1000/\(∀c,decide (c∈signs.cps.toList)=ok c)/\∀H',aq H H'->Q (.bl (w.all ok)) H'
def wz:Sp:=fun vs H Q _=>∃w:W,vs=[sv w]/\w.length<=16000000/\∀H',aq H H'->Q (.bl (PM.isName w)) H'
def qY:Sp:=fun vs H Q _=>∃w:W,vs=[sv w]/\w.length<=16000000/\∀H',aq H H'->Q (.bl (PM.isNumber w)) H'
def B3:Sp:=fun vs H Q _=>∃c:Nat,vs=[sv [c]]/\Q (.str (kindS (PM.kind c))) H
def wA:Sp:=fun vs H Q _=>∃w:W,vs=[sv w]/\w.length<=60/\∀l H',aq H H'->H l=none->H' l=some (.lst ((PM.pieces w).map sv))->Q (.ref l) H'
def JV:Sp:=fun vs H Q _=>∃(p dx:zc4) (w:W),vs=[.ref p,sv w]/\H p=some (.ins CP dx [])/\H dx=some (.own p)/\w.length<=60/\∀l H',bM p H H'->rX CP H' p l dx (PM.pieces w) 0->Q .da H'
def sC:Sp:=fun vs H Q _=>∃(p l dx:zc4) (ps:List W) (k:Nat),vs=[.ref p]/\rX CP H p l dx ps k/\Q (sv ((ps.drop k).headD [])) H
def tW:Sp:=fun vs H Q E=>∃(p l dx:zc4) (ps:List W) (k:Nat),vs=[.ref p]/\rX CP H p l dx ps k/\
 match ps.drop k with
 |[]=>E (.ref CN) none H
 |q::_=>∀H',bM p H H'->rX CP H' p l dx ps (k+1)->Q (sv q) H'
def pj (f:PM.P) (d:Int):Sp:=fun vs H Q E=>∃(p l dx:zc4) (ps:List W) (k:Nat),vs=[.ref p,.int d]/\rX CP H p l dx ps k/\
 match f (ps.drop k) with
 |none=>∀H',bM p H H'->E (.ref CN) none H'
 |some (t,r)=>∀v H' j,bM p H H'->rX CP H' p l dx ps j->ps.drop j=r->Rep K H' (oT t) v->Q v H'
def Td:Nat->PM.P
 |0=>fun _=>none
 |n+1=>fun ps=>match PM.qW (PM.factor n) ps with
  |some (e,q::r)=>if q=[41] then some (e,r) else none
  |_=>none
def tX (n:Nat) (d:Int):Sp:=pj K CP CN (Td n) d
def Pn:Sp:=fun vs H Q E=>∃w:W,vs=[sv w]/\w.length<=16000000/\
 match PM.expr w with
 |none=>∀H',aq H H'->E (.ref CN) none H'
 |some t=>∀v H',aq H H'->Rep K H' (oT t) v->Q v H'
end
theorem B4(n:Nat)(y:W)(r:List W):PM.factor n (y::r)=if PM.isNumber y then some (.num (PM.nR y),r) else if PM.isName y then some (.box y,r) else if y=[40] then Td n r else none:=by
 cases n with
 |zero=>
  show PM.uL _ _=_;rw[PM.kF];rfl
 |succ n=>
  show PM.uL _ _=_;rw[PM.kF];rfl
theorem B5{y:W}(h:PM.isNumber y=true):PySem.intText? (S y)=some (PM.nR y):=by
 simp only[PM.isNumber,zaK,decide_eq_true_eq] at h;obtain⟨⟨⟨h1,h2⟩,h3⟩,_⟩:=h;have Po:∀c∈y,48<=c/\c<=57:=fun c hc=>by
  have:=za2.mp h3 c hc;simpa[PM.jt] using this
 have ne:y≠[]:=by rintro rfl;simp at h1
 have:=PySem.intText_digits (x:=S y) Po ne (by rw[ez];lia);rw[this]
 congr 1
 have key:∀(l:W),(∀c∈l,48<=c/\c<=57)->∀a:Nat,((l.foldl (fun a c=>a*10+(c-48)) a:Nat):Int)=l.foldl (fun (a:Int) (c:Nat)=>a*10+((c:Int)-48)) (a:Int):=by
  intro l
  induction l with
  |nil=>intro _ a;rfl
  |cons c r ih=>
   intro hc a;rw[zbM,zbM,ih (fun x hx=>hc x (by simp[hx]))]
   congr 1
   have:=(hc c (by simp)).1;lia
 exact key y Po 0
section
variable{P:zdg}{w:zc6}{K:zac}{mg:Str->Option zc5}{base:Heap}
theorem Bv.Bx{x qual:Str}{st:Stmt}{f:zc4}{fd:zdd}{N ps:List Str}{k:Nat}{sp:Sp}(F:Bv K x qual st f fd)(S:a8 N ps (az st))(len:∀vs H Q E,sp vs H Q E->vs.length=ps.length)
 (wj:∀(dW:zc5) (A:zdf) (outer:List Env) (s:zde) (H:Hp) (vs:List V) (Q:VK) (E:XK),fQ k (A.deeper (envOfC qual (az st) s.heap.objs.size f dW))->sp vs H Q E->
  ∃t σ,DL (jO (ky P w) P w K mg base N qual (az st) f dW A outer s H E) (cp st) t/\L2.start N vs=σ/\t {nx:=fun _ H'=>Q .da H',rt:=Q} σ H):bC P w K mg base (ky P w) (k+1) f fd ps sp:=by
 obtain⟨oc,od,kV,doc,pm,an,dW,ct,IX,rfl,lk,Gk⟩:=F.ex;refine NG lk Gk S len fun A outer s H vs Q E hr Gz=>?_;obtain⟨t,σ,h,e,q⟩:=wj dW A outer s H vs Q E hr Gz;exact⟨t,h,by rw[e];exact q⟩
end
mutual
def Dp.py:Dp->PyData
 |.da=>.none
 |.bl b=>.bool b
 |.int i=>.int i
 |.str x=>.str x
 |.tup l=>.tuple (Dp.MN l)
 |.lst l=>.list (Dp.MN l)
def Dp.MN:List Dp->List PyData
 |[]=>[]
 |d::r=>d.py::Dp.MN r
end
section
variable{X:Cx}{pins:List (zc4×Obj)}{σ:St}{H:Hp}{s:zde}
mutual
theorem pq(I:Inv X pins σ H s):∀ {d:Dp} {v:V} {u:zc5},Rep X.K H d v->RelV v u->∃as,Reads s.heap u d.py as
 |.da,v,u,h,r=>by rw[Rep.vK] at h;subst h;cases (show u=Value.none from r);exact⟨_,.none⟩
 |.bl b,v,u,h,r=>by rw[Rep.wt] at h;subst h;cases (show u=Value.bool b from r);exact⟨_,.bool b⟩
 |.int i,v,u,h,r=>by rw[Rep.dy] at h;subst h;obtain⟨t,rfl⟩:=(show ∃t,u=Value.int i t from r);exact⟨_,.int i t⟩
 |.str x,v,u,h,r=>by rw[Rep.bf] at h;subst h;obtain⟨t,rfl⟩:=(show ∃t,u=Value.str x t from r);exact⟨_,.str x t⟩
 |.tup l,v,u,h,r=>by
  rw[Rep.cj] at h;obtain⟨p,xs,rfl,q,w⟩:=h;cases (show u=Value.ref p from r);obtain⟨bj,v1,t1,_⟩:=I.tuple q;obtain⟨as,ra⟩:=tY I w v1;obtain⟨o,h1,h2,n,h3⟩:=t1;unfold Dp.py;exact⟨as,.tuple h1 h2 h3 (by simpa using ra)⟩
 |.lst l,v,u,h,r=>by
  rw[Rep.jm] at h;obtain⟨p,xs,rfl,q,w⟩:=h;cases (show u=Value.ref p from r);obtain⟨bj,v1,t1,_⟩:=I.list q;obtain⟨as,ra⟩:=tY I w v1;obtain⟨o,h1,h2,n,h3⟩:=t1.isList;unfold Dp.py;exact⟨_,.list h1 h2 h3 (by simpa using ra)⟩
theorem tY(I:Inv X pins σ H s):∀ {ds:List Dp} {vs:List V} {us:List zc5},bc X.K H ds vs->Vals vs us->∃as,ReadsAll s.heap us (Dp.MN ds) as
 |[],_,_,h,r=>by rw[bc.bX] at h;subst h;cases r;unfold Dp.MN;exact⟨_,.nil⟩
 |d::ds,_,_,h,r=>by
  rw[bc.bL] at h;obtain⟨v,vs,rfl,x,y⟩:=h;cases r with
  |cons r1 r2=>
   obtain⟨a,ra⟩:=pq I x r1;obtain⟨b,rb⟩:=tY I y r2;unfold Dp.MN;exact⟨_,.cons ra rb⟩
end
end
section
variable{X:Cx}
def RN (K:zac) (neg:Bool):R2:=fun x y H Q=>∃d e,Rep K H d x/\Rep K H e y/\SeqAt.shaped d.py=true/\SeqAt.shaped e.py=true/\Q (.bl (if neg then !PyData.eqv d.py e.py else PyData.eqv d.py e.py)) H
theorem Pp(hu:X.A.units+64<cLine):qm X (compareOp .Eq) (RN X.K false):=by
 intro pins s σ H x y v u Q I rx ry h;obtain⟨d,e,h1,h2,s1,s2,q⟩:=h;obtain⟨as,ra⟩:=pq I h1 rx;obtain⟨bs,rb⟩:=pq I h2 ry;exact eq_dataH ra rb s1 s2 hu ⟨.bl (PyData.eqv d.py e.py),H,I,rfl,q⟩
theorem Pq(hu:X.A.units+64<cLine):qm X (compareOp .NotEq) (RN X.K true):=by
 intro pins s σ H x y v u Q I rx ry h;obtain⟨d,e,h1,h2,s1,s2,q⟩:=h;obtain⟨as,ra⟩:=pq I h1 rx;obtain⟨bs,rb⟩:=pq I h2 ry;exact ne_dataH ra rb s1 s2 hu ⟨.bl (!PyData.eqv d.py e.py),H,I,rfl,q⟩
theorem sD:m8 X (.type "str") (fun xs H Q=>(∃i,xs=[.int i]/\i.natAbs.log2<1920/\Q (.str (toString i)) H)\/∃x,xs=[.str x]/\Q (.str x) H):=by
 intro pins s σ H xs us Q I r h;rcases h with h |⟨x,rfl,q⟩
 ·exact Ao pins s σ H xs us Q I r h
 ·obtain⟨u,rfl,ru⟩:=vals1 r;obtain⟨t,rfl⟩:=ru;exact P.str_of_str ⟨.str x,H,I,⟨t,rfl⟩,q⟩
end
mutual
theorem eqv_refl:∀d:Dp,PyData.eqv d.py d.py=true
 |.da=>rfl
 |.bl b=>by simp[Dp.py,PyData.eqv]
 |.int i=>by simp[Dp.py,PyData.eqv]
 |.str x=>by simp[Dp.py,PyData.eqv]
 |.tup l=>by simp only[Dp.py,PyData.eqv];exact tZ l
 |.lst l=>by simp only[Dp.py,PyData.eqv];exact tZ l
theorem tZ:∀l:List Dp,PyData.eqvAll (Dp.MN l) (Dp.MN l)=true
 |[]=>rfl
 |d::r=>by simp only[Dp.MN,PyData.eqvAll,eqv_refl d,tZ r,Bool.and_true]
end
theorem aM{t u:TS}{D:Ends}{σ:St}{H:Hp}(h:∀U:St->Hp->Prop,(∀σ' H',U σ' H'↔u D σ' H')->t {D with nx:=U} σ H):IC t u D σ H:=h (u D) fun _ _=>Iff.rfl
theorem RO{A:zdf}{k:Nat}(hr:fQ k A):A.units+64<cLine:=hr.units
end L2
namespace L2
open PySem
def stir (cell k:Int):Int:=if 10 ^ 18<=cell then ((cell-10 ^ 18)/2 ^ (28*k).toNat)%2 ^ 28 else
 ((((cell+1013*k+1)*16807%2147483647)*((cell+1013*k+1)*16807%2147483647)%2147483629)*39373%2147483587)/8
theorem wB(cell k:Int):0<=stir cell k/\stir cell k<2 ^ 28:=by
 unfold stir;split
 ·have:=zbv ((cell-10 ^ 18)/2 ^ (28*k).toNat) (show (2 ^ 28:Int)≠0 by decide);have:=zbj ((cell-10 ^ 18)/2 ^ (28*k).toNat) (show (0:Int)<2 ^ 28 by decide);lia
 ·generalize ((((cell+1013*k+1)*16807%2147483647)*((cell+1013*k+1)*16807%2147483647)%2147483629)*39373)=z;lia
def Pr:Sp:=fun vs H Q _=>∃cell k:Int,vs=[.int cell,.int k]/\0<=k/\k<=100000/\Q (.int (stir cell k)) H
def FG (K:zac):Sp:=fun vs H Q _=>∃(a:zc4) (ns:List Int),vs=[.ref a]/\gW K H a (ns.map .int)/\ns.length<=63/\∀H',Q (.bl true) H'
open PyProof.Rows PySem.Spec
section
variable{X:Cx}{pins:List (zc4×Obj)}{σ:St}{H:Hp}{s:zde}{h':Heap}
theorem Inv.zR{t':Nat}{fp:List zc4}(I:Inv X pins σ H s)(k:∀b o,b ∉ fp->s.heap.get? b=some o->h'.get? b=some o)(hf:∀b∈fp,qU X pins H b):Inv X pins σ H {s with heap:=h',toks:=t' }:=by
 have QR:∀b u,H b=some u->b ∉ fp:=fun b u e z=>by rw[(hf b z).1] at e;cases e
 refine I.step (g':=s.gens) (d':=s.drawn) (ch:=fp) (fun b hb=>?_) (fun b o _ _ hc e _=>k b o hc e) (fun b o _ _ hc e _=>⟨o.slots,k b o hc e⟩) (fun _ _ _ _ n=>n)
  (fun b o hc e=>⟨o,k b o hc e⟩) (fun _ _ e=>e) (fun _ _ _ e=>e) (fun b ps e=>⟨#[],by rw[e];simp⟩) (fun m hm=>?_) (fun b u e=>?_) I.bare
 ·obtain⟨_,f1,_,f3,f4,f5⟩:=hf b hb;exact⟨f3,f1,f4,f5⟩
 ·obtain⟨o,es,ep,ho,r⟩:=hm;exact⟨o,es,ep,k _ o (fun z=>(hf _ z).2.1 rfl) ho,r⟩
 ·refine(I.dq b u e).mY (fun c v hc q=>k c v ?_ q) (fun _ q=>q) fun _ _ q=>q;rcases hc with z |z
  ·rw[z];exact QR b u e
  ·exact QR c _ z
end
theorem px{X:Cx}:m8 X (.type "int") (fun xs H Q=>∃b:Bool,xs=[.bl b]/\Q (.int (if b then 1 else 0)) H):=by
 intro pins s σ H xs us Q I r h;obtain⟨b,rfl,q⟩:=h;obtain⟨u,rfl,ru⟩:=vals1 r;cases (show u=Value.bool b from ru);exact PySem.call_int_bool ⟨.int (if b then 1 else 0),H,I.tok _,⟨_,rfl⟩,q⟩
section
variable{prog:zdg}{w:zc6}{A:zdf}{E:zc5->zde->Prop}{s:zde}
theorem B6{it l:zc4}{bj:Array zc5}(DM:l≠it):∀(n i:Nat) (s:zde) (Q:List zc5->zde->Prop),s.heap.IsListIter it l i->s.heap.IsList l bj->i+n<=bj.size->
 (∀h',h'.IsListIter it l (i+n)->Heap.SameBut it s.heap h'->Q ((bj.toList.drop i).take n) {s with heap:=h' })->wpAny (model prog w) A (draw (.ref it) n) Q E s
 |0,i,s,Q,a,_,_,q=>by
  show wpAny _ _ (pure []) Q E s;exact zc8 (by simpa using q s.heap a (Heap.SameBut.refl ..))
 |n+1,i,s,Q,a,b,le,q=>by
  have lt:i<bj.size:=by lia
  show wpAny _ _ (pyNext (.ref it) >>= _) Q E s;refine zc7 (wpAny_pyNext_list_item a b (x:=bj[i]) (by simp[lt]) fun h1 a1 s1=>?_);have b1:h1.IsList l bj:=by
   obtain⟨o,ho,r⟩:=b;exact⟨o,(s1.2 l DM).trans ho,r⟩
  refine zc7 (zc9 (B6 DM n (i+1) _ _ a1 b1 (by lia) fun h2 a2 s2=>zc8 ?_));have e:bj.toList.drop i=bj[i]::bj.toList.drop (i+1):=by simp[zby,lt]
  have z:=q h2 (by rw[show i+(n+1)=i+1+n by lia];exact a2) (s1.trans s2);rw[e,List.take_succ_cons] at z;exact z
theorem Ee{l:zc4}{bj:Array zc5}{ts:List (Bool×(zc5->Sem Unit))}{Q:Unit->zde->Prop}(hh:A.handled=none)(b:s.heap.IsList l bj)(hn:ts.length=bj.size)(IG:ts.findIdx? (·.1)=none)
 (h:∀h',Heap.ExtBut s.heap.objs.size s.heap h'->wpAny (model prog w) A (assignInOrder (ts.map (·.2)) bj.toList) Q E {s with heap:=h' }):wpAny (model prog w) A (unpack (.ref l) ts) Q E s:=by
 have lt:l≠s.heap.objs.size:=by obtain⟨o,ho,_⟩:=b;exact zaF (Heap.lt_size ho)
 unfold unpack;rw[hn,IG];refine zc7 (zc9 ?_);unfold unpackItems;refine zc7 ?_;unfold notIterableAtAll;refine zc7 (wpAny_specialOf b.typeIs slot_list_iter.lookup ?_);refine zc8 ?_;simp only[za7,if_false];refine zc7 (zc9 (wpAny_pyIter_list b ?_));have mY:∀ {h1 h2:Heap},Heap.ExtBut s.heap.objs.size h1 h2->h1.IsList l bj->h2.IsList l bj:=fun {h1 h2} e x=>by
  obtain⟨o,ho,r⟩:=x;exact⟨o,e l o lt ho,r⟩
 have b0:(s.heap.push {cls:=.type "list_iterator",data:=.fields #[.ref l,.int 0 0]}).IsList l bj:=by
  obtain⟨o,ho,r⟩:=b;exact⟨o,Heap.get?_push_of_some _ ho,r⟩
 refine zc7 (zc9 (B6 lt bj.size 0 _ _ ⟨_,Heap.get?_push_size _ rfl,rfl,rfl⟩ b0 (by lia) fun h1 a1 s1=>?_));have all:List.take bj.size (List.drop 0 bj.toList)=bj.toList:=by
  rw[List.drop_zero];exact zbs (by simp)
 rw[all,if_neg (by simp)];have b1:h1.IsList l bj:=mY s1.extBut b0;refine zc7 (zc9 (wpAny_pyNext_list_end hh a1 b1 (by simp) fun h2 e2=>?_));simp only[Option.isSome_none,za7,if_false];exact zc8 (h h2 fun c o hc e=>e2 c o hc (s1.extBut c o hc (Heap.get?_push_of_some _ e)))
end
def Pt (K:zac) (n:Nat) (t:Mc):TG:=fun v σ H Q=>∃a xs,v=.ref a/\gW K H a xs/\xs.length=n/\t xs σ H Q
theorem AD{X:Cx}{es:List Expr}{k}{pos:Pos}{t:Mc}{n:Nat}(hc:X.calm=true)(h:QW X es t)
 (hn:(assignEach es X.env).length=n:=by rfl) (IG:(assignEach es X.env).findIdx? (·.1)=none:=by rfl):PG X (.Tuple es k pos) (Pt X.K n t):=by
 intro pins s σ H v u Q I r hw;obtain⟨a,xs,rfl,hq,hl,hw⟩:=hw;cases r;obtain⟨bj,rv,hp,_⟩:=I.list hq;rw[assign_Tuple];refine zc7 (wpAny_standAt (Ee (I.ok.hd hc) hp.isList (by simp[hn,<- hl,rv.length]) IG fun h' hx=>?_));have I1:Inv X pins σ H {s with heap:=h' }:=I.kept (t':=s.toks) fun b o e=>hx b o (zaF (Heap.lt_size e)) e;exact h pins _ σ H xs _ Q I1 (by simpa using rv) hw
open PySem.SeqAt
theorem zS{X:Cx}(hu:X.A.units+1<cLine):qm X (compareOp .NotEq) (fun x y H Q=>∃a b xs,x=.ref a/\y=.ref b/\gW X.K H a xs/\gW X.K H b []/\Q (.bl (!xs.isEmpty)) H):=by
 intro pins s σ H x y v u Q I rx ry h;obtain⟨a,b,xs,rfl,rfl,h1,h2,q⟩:=h;cases (show v=Value.ref a from rx);cases (show u=Value.ref b from ry);obtain⟨bj,v1,p1,_⟩:=I.list h1;obtain⟨its',v2,p2,_⟩:=I.list h2;cases v2;cases xs with
 |nil=>
  cases v1;exact(RcNeAt.lists (e:=fun _=>true) p1.isList p2.isList rfl (by lia) (fun j h1=>absurd h1 (by simp))) _ _ _ _ ⟨.bl false,H,I,rfl,q⟩
 |cons z zs=>
  cases v1;exact(RcNeAt.lists_lengths p1.isList p2.isList (by simp) (by lia)) _ _ _ _ ⟨.bl true,H,I,rfl,q⟩
def qZ (val:W->Int):PM.Tr->Int
 |.num n=>n
 |.box x=>val x
 |.bin o l r=>if o=[43] then qZ val l+qZ val r else if o=[45] then qZ val l-qZ val r else qZ val l*qZ val r
theorem wC:∀ {L:List W} {us:List zc5},Vals (L.map sv) us->∃l:List (Str×Tok),us=strValues l/\l.map (·.1)=L.map S
 |[],us,h=>by
  cases h;exact⟨[],rfl,rfl⟩
 |w::L,us,h=>by
  cases h with
  |cons r t=>
   obtain⟨tk,rfl⟩:=(show ∃t,_=Value.str (S w) t from r)
   obtain⟨l,rfl,e⟩:=wC t;exact⟨(S w,tk)::l,rfl,by rw[zay,zay,e]⟩
theorem AE(k:Int)(h:0<=k):V.str (zaa (toString k))=sv (PM.dig k.toNat):=by
 unfold sv
 congr 1
 have hk:k=((k.toNat:Nat):Int):=by lia
 rw[Str.ofString_eq_toList]
 conv=>lhs;rw[hk]
 show (⟨((toString ((k.toNat:Nat):Int)).toList.map Char.toNat).toArray⟩:Str)=S ((zcu 10 k.toNat).map Char.toNat);have e2:(toString ((k.toNat:Nat):Int)).toList=zcu 10 k.toNat:=by
  show (Nat.repr k.toNat).toList=_;unfold Nat.repr;exact String.toList_ofList
 rw[e2];rfl
theorem JW{K:zac}{tl:TE}{g:TG}{tb:TS}{D:Ends}{σ:St}{H:Hp} (h:∀U:zc4->Hp->Prop,(∀a H1,(∃W:Nat->Nat->St->Hp->Prop,(∃m,W 0 m σ H1)/\∀i m σ H,W i m σ H->
 ((LS K a).stop i H/\D.nx σ H)\/((LS K a).go i H/\∃N:St->Hp->Prop,(∀σ' H',N σ' H'->∃m',m'<m/\W (i+1) m' σ' H')/\∀x H',(LS K a).Gm i H x H'->g x σ H' fun σ2 H2=>tb {D with nx:=N,ct:=N,bk:=D.nx} σ2 H2))->U a H1)->
 tl σ H fun x H1=>∃a,x=.ref a/\(∃xs,gW K H1 a xs)/\U a H1):Q0 (Fb K tl) g tb D σ H:=h _ fun _ _ x=>x
theorem FI{a:Option V}{r:St}{H:Hp}{Q:VK}:(eP 10 (a::r) H Q)=(eP 9 r H Q):=rfl
theorem FJ{a:Option V}{r:St}{H:Hp}{Q:VK}:(eP 11 (a::r) H Q)=(eP 10 r H Q):=rfl
theorem FK{a:Option V}{r:St}{H:Hp}{Q:VK}:(eP 12 (a::r) H Q)=(eP 11 r H Q):=rfl
theorem zT{J:It}{D:zc4}{tc:TT}{te:TE}{Q:VK}{r:St}{H:Hp}(xs:List V)(p:V->Bool)(f:V->V)(hl:xs.length<=16000000)
 (go:∀i ys,i<xs.length->J.go i (upd H D (.lst ys))) (Gm:∀i ys x H',i<xs.length->J.Gm i (upd H D (.lst ys)) x H'->H'=upd H D (.lst ys)/\xs[i]?=some x) (stop:∀ys,J.stop xs.length (upd H D (.lst ys)))
 (test:∀x∈xs,∀ys (R:Bool->Hp->Prop),R (p x) (upd H D (.lst ys))->tc (some x::r) (upd H D (.lst ys)) R)
 (step:∀x∈xs,p x=true->∀ys (R:VK),R (f x) (upd H D (.lst ys))->te (some x::r) (upd H D (.lst ys)) R)
 (q:Q (.ref D) (upd H D (.lst ((xs.filter p).map f)))):uJ J D (mZ 0) tc te Q (none::r) (upd H D (.lst [])):=by
 refine⟨fun i m τ H2=>m=xs.length-i/\i<=xs.length/\(∃x,τ=x::r)/\H2=upd H D (.lst (((xs.take i).filter p).map f)),⟨xs.length,by simp,za0 _,⟨none,rfl⟩,by simp⟩,?_⟩
 rintro i m τ H2 ⟨rfl,hi,⟨x,rfl⟩,rfl⟩
 by_cases oW:i<xs.length
 ·refine .inr ⟨go i _ oW,fun τ' H'=>(∃x,τ'=x::r)/\H'=upd H D (.lst (((xs.take (i+1)).filter p).map f)),fun τ' H' ⟨h1,h2⟩=>⟨xs.length-(i+1),by lia,rfl,oW,h1,h2⟩,fun y H' hy=>?_⟩;obtain⟨rfl,hz⟩:=Gm i _ y H' oW hy;clear hy;have hy:=hz;rw[zah oW] at hy;cases hy;have mem:=zaS oW;simp only[mZ,zcv];refine test _ mem _ _ ?_;rw[zbi oW,List.filter_append,zar];cases hp:p xs[i] with
  |false=>
   rw[if_neg zad];refine⟨⟨_,rfl⟩,?_⟩;simp[hp]
  |true=>
   rw[if_pos rfl];refine step _ mem hp _ _ ⟨_,ae,?_,⟨_,rfl⟩,?_⟩
   ·have h1:(((xs.take i).filter p).map f).length<=i:=by
     rw[zae];exact zaA (zcO _ _) (by rw[zbh];lia)
    have:zdc=2 ^ 24:=rfl;lia
   ·rw[Ak];simp[hp]
 ·have e:i=xs.length:=by lia
  subst e;refine .inl ⟨stop _,?_⟩;rw[zbX];exact q
theorem JX{n:Nat}{D:zc4}{te:TE}{Q:VK}{r:St}{H:Hp}(f:Nat->V)(hl:n<=16000000)
 (step:∀i,i<n->∀ys (R:VK),R (f i) (upd H D (.lst ys))->te (some (.int (i:Nat))::r) (upd H D (.lst ys)) R)
 (q:Q (.ref D) (upd H D (.lst ((zaW n).map f)))):uJ (QZ 0 n) D (mZ 0) Jk te Q (none::r) (upd H D (.lst [])):=by
 refine zT ((zaW n).map fun i=>V.int (i:Nat)) (fun _=>true) (fun x=>f (match x with |.int i=>i.toNat |_=>0)) (by simpa using hl)
  (fun i ys hi=>?_) (fun i ys x H' hi hy=>?_) (fun ys=>?_) (fun x hx ys R hR=>hR) (fun x hx _ ys R hR=>?_) ?_
 ·show i<n;simpa using hi
 ·obtain⟨rfl,rfl⟩:=hy;refine⟨rfl,?_⟩;have NJ:i<n:=by simpa using hi
  rw[zaN,List.getElem?_range NJ];simp
 ·show n<=_;simp
 ·obtain⟨i,hi,rfl⟩:=zaT.mp hx;exact step i (zbp.mp hi) ys R hR
 ·rw[zcW.mpr (fun _ _=>rfl),zbH];exact q
def UN (z:Str):Prop:=PM.RI z.cps.toList
theorem UN.one{a:Str}(ha:UN a){c:Nat}(hc:c∈a.cps.toList):UN ⟨#[c]⟩:=fun x hx=>by
 have:x=c:=by simpa using hx
 rw[this];exact ha c hc
theorem qp{X:Cx}(hu:X.A.units+1<cLine):qm X (compareOp .Eq) (fun x y H Q=>∃a b xs,x=.ref a/\y=.ref b/\gW X.K H a xs/\gW X.K H b []/\Q (.bl xs.isEmpty) H):=by
 intro pins s σ H x y v u Q I rx ry h;obtain⟨a,b,xs,rfl,rfl,h1,h2,q⟩:=h;cases (show v=Value.ref a from rx);cases (show u=Value.ref b from ry);obtain⟨bj,v1,p1,_⟩:=I.list h1;obtain⟨its',v2,p2,_⟩:=I.list h2;cases v2;cases xs with
 |nil=>
  cases v1;exact(RcAt.lists (e:=fun _=>true) p1.isList p2.isList rfl (by lia) (fun j h1=>absurd h1 (by simp))) _ _ _ _ ⟨.bl true,H,I,rfl,q⟩
 |cons z zs=>
  cases v1;exact(RcAt.lists_lengths p1.isList p2.isList (by simp) (by lia)) _ _ _ _ ⟨.bl false,H,I,rfl,q⟩
end L2
namespace PG
open PM (W Tr)
structure jw where
 name:W
 size:Int
 first:Int
inductive dw where
 |ask (k:Int) (b:W)
 |put (k:Int) (b:W) (e:Tr)
 |say (k:Int) (e:Tr)
 |jx (k:Int) (sg:W) (l r:Tr)
 |stop (k:Int)
 |ifs (k:Int) (sg:W) (l r:Tr) (a b:List dw)
 |nU (k:Int) (sg:W) (l r:Tr) (a:List dw)
def dw.row:dw->Int
 |.ask k _=>k |.put k _ _=>k |.say k _=>k |.jx k _ _ _=>k |.stop k=>k |.ifs k _ _ _ _ _=>k |.nU k _ _ _ _=>k
inductive Wd where
 |ask |put |say |jx |stop |ifs |nU |RQ |fin
 deriving DecidableEq
def dw.wd:dw->Wd
 |.ask _ _=>.ask |.put _ _ _=>.put |.say _ _=>.say |.jx _ _ _ _=>.jx |.stop _=>.stop |.ifs _ _ _ _ _ _=>.ifs |.nU _ _ _ _ _=>.nU
def RR:Nat->Int->Int
 |0,c=>c
 |n+1,c=>RR n (c/1000003)
def next (sc:List Int) (p:Nat):Int:=
 let many:=max 1 sc.length
 let cell:=if sc=[] then 0 else sc.getD (p%many) 0
 if cell ≥ 10 ^ 18 then RR (min 60 (p/many)) cell%1000003 else
  let a:=(cell%2147483629+51437*((p:Int)+1)*((p:Int)+3)+1409)%2147483629
  let b:=a*a%2147483587
  let c:=(b*69621+401*(p:Int)+7)%2147483579
  c*c%2147483563/16
def pick {α:Type} (d:α) (l:List α) (n:Int):α:=l.getD n.toNat d
def yF (sc:List Int) (bs:List jw):Nat->Nat->Tr×Nat
 |0,p=>
  let kind:=next sc p%7
  if bs≠[]/\kind<5 then (.box (pick ⟨[],0,0⟩ bs (next sc (p+1)%bs.length)).name,p+2) else (.num (next sc (p+1)%pick 1 [3,12,1000] (next sc (p+2)%3)),p+3)
 |d+1,p=>
  let kind:=next sc p%7
  if kind<3 then
   let one:=yF sc bs d (p+1)
   let two:=yF sc bs d one.2
   (.bin (pick [] [[43],[45],[42]] kind) one.1 two.1,two.2)
  else if bs≠[]/\kind<5 then (.box (pick ⟨[],0,0⟩ bs (next sc (p+1)%bs.length)).name,p+2) else (.num (next sc (p+1)%pick 1 [3,12,1000] (next sc (p+2)%3)),p+3)
def JY:List W:=[[99],[98,98],[97,97,97],[98,111,120,101,115]]
def wD (sc:List Int) (RT:Int):Nat->Nat->Nat->List jw×Nat
 |0,_,p=>([],p)
 |n+1,k,p=>
  let size:=2+next sc p%3
  let r:=wD sc RT n (k+1) (p+2)
  (⟨pick [] JY (((k:Int)-RT)%4),size,next sc (p+1)%size⟩::r.1,r.2)
def Qz:List W:=[[60],[61]]
def JZ (sc:List Int) (bs:List jw) (k:Int) (p:Nat):dw×Nat:=
 let kind:=next sc p%10
 if bs≠[]/\kind<3 then (.ask k (pick ⟨[],0,0⟩ bs (next sc (p+1)%bs.length)).name,p+2)
 else if bs≠[]/\kind<6 then
  let e:=yF sc bs 2 (p+2)
  (.put k (pick ⟨[],0,0⟩ bs (next sc (p+1)%bs.length)).name e.1,e.2)
 else if kind=6 then
  let l:=yF sc bs 1 (p+2)
  let r:=yF sc bs 1 l.2
  (.jx k (pick [] Qz (next sc (p+1)%2)) l.1 r.1,r.2)
 else if kind=7 then
  if next sc (p+1)%3=0 then (.stop k,p+2) else
   let e:=yF sc bs 2 (p+2)
   (.say k e.1,e.2)
 else
  let e:=yF sc bs 2 (p+1)
  (.say k e.1,e.2)
structure Frame where
 kind:Nat
 body:List dw
 k:Int:=0
 sg:W:=[]
 l:Tr:=.num 0
 r:Tr:=.num 0
 first:List dw:=[]
def Frame.told (f:Frame):dw:=if f.kind=1 then .ifs f.k f.sg f.l f.r f.body [] else if f.kind=2 then .ifs f.k f.sg f.l f.r f.first f.body else .nU f.k f.sg f.l f.r f.body
def close:List Frame->List Frame
 |f::g::r=>{g with body:=g.body++[f.told]}::r
 |fs=>fs
abbrev Row:=Int×Wd
def number (n:Nat) (rows:List Row) (mode:Int):Int:=
 if mode=2 then n+1+20*rows.length else if mode=3 then n+1+(rows.filter fun r=>r.2≠.RQ/\r.2≠.fin).length else n+1+rows.length
structure Walk where
 p:Nat
 jP:List Frame
 rows:List Row
def turn (sc:List Int) (bs:List jw) (mode:Int) (w:Walk):Walk:=
 let k:=number bs.length w.rows mode
 let way:=next sc w.p%12
 if way<2/\w.jP.length>1 then ⟨w.p+1,close w.jP,w.rows++[(k,.fin)]⟩
 else match w.jP with
 |[]=>w
 |f::r=>
  if way=2/\f.kind=1 then ⟨w.p+1,{f with kind:=2,body:=[],first:=f.body}::r,w.rows++[(k,.RQ)]⟩
  else if way<6/\w.jP.length<4 then
   let l:=yF sc bs 1 (w.p+2)
   let e:=yF sc bs 1 l.2
   let kd:=pick 1 [1,1,3] (way%3)
   ⟨e.2,{kind:=kd,body:=[],k:=k,sg:=pick [] Qz (next sc (w.p+1)%2),l:=l.1,r:=e.1}::w.jP,w.rows++[(k,if kd=3 then .nU else .ifs)]⟩
  else
   let s:=JZ sc bs k (w.p+1)
   ⟨s.2,{f with body:=f.body++[s.1]}::r,w.rows++[(k,s.1.wd)]⟩
def turns (sc:List Int) (bs:List jw) (mode:Int):Nat->Walk->Walk
 |0,w=>w
 |n+1,w=>turns sc bs mode n (turn sc bs mode w)
def ends (n:Nat) (mode:Int):Nat->Walk->Walk
 |0,w=>w
 |m+1,w=>if w.jP.length>1 then ends n mode m ⟨w.p,close w.jP,w.rows++[(number n w.rows mode,.fin)]⟩ else w
structure Prog where
 cc:List jw
 body:List dw
def FL (sc:List Int) (many:Nat) (p:Nat):Prog×List Row:=
 let bs:=wD sc (next sc p%4) (next sc (p+1)%4).toNat 0 (p+2)
 let w:=ends bs.1.length (next sc bs.2%4) 4 (turns sc bs.1 (next sc bs.2%4) many ⟨bs.2+1,[{kind:=0,body:=[]}],[]⟩)
 (⟨bs.1,(w.jP.head?.map (·.body)).getD []⟩,w.rows)
end PG
namespace PG
open PM (W Tr)
mutual
def wF:dw->List Row
 |.ifs k _ _ _ a b=>(k,.ifs)::(sE a++sE b)
 |.nU k _ _ _ a=>(k,.nU)::sE a
 |.ask k _=>[(k,.ask)]
 |.put k _ _=>[(k,.put)]
 |.say k _=>[(k,.say)]
 |.jx k _ _ _=>[(k,.jx)]
 |.stop k=>[(k,.stop)]
def sE:List dw->List Row
 |[]=>[]
 |s::r=>wF s++sE r
end
end PG
namespace PG
open PM (W Tr)
abbrev vM:=Int×Wd×List Int
def fS:List dw->Int->Int
 |[],x=>x
 |s::_,_=>s.row
mutual
def gQ:dw->Int->List vM
 |.ifs k _ _ _ a b,x=>(k,.ifs,[fS a x,fS b x])::(cC a x++cC b x)
 |.nU k _ _ _ a,x=>(k,.nU,[fS a k,x])::cC a k
 |.ask k _,x=>[(k,.ask,[x])]
 |.put k _ _,x=>[(k,.put,[x])]
 |.say k _,x=>[(k,.say,[x])]
 |.jx k _ _ _,x=>[(k,.jx,[x])]
 |.stop k,_=>[(k,.stop,[0])]
def cC:List dw->Int->List vM
 |[],_=>[]
 |s::r,x=>gQ s (fS r x)++cC r x
end
mutual
theorem GO:∀(s:dw) (x:Int),(gQ s x).map (fun r=>(r.1,r.2.1))=wF s
 |.ifs k _ _ _ a b,x=>by simp[gQ,wF,nh a x,nh b x]
 |.nU k _ _ _ a,x=>by simp[gQ,wF,nh a k]
 |.ask k _,x=>rfl
 |.put k _ _,x=>rfl
 |.say k _,x=>rfl
 |.jx k _ _ _,x=>rfl
 |.stop k,_=>rfl
theorem nh:∀(b:List dw) (x:Int),(cC b x).map (fun r=>(r.1,r.2.1))=sE b
 |[],_=>rfl
 |s::r,x=>by simp[cC,sE,GO s _,nh r x]
end
inductive Tg where
 |row (k:Int) |side (k:Int) (b:Bool) |jx (k:Int) |fin
 deriving DecidableEq
end PG
namespace PG
open PM (W Tr)
mutual
def NT:dw->List Row->Prop
 |.ifs k _ _ _ a b,rs=>(∃ra n,oA a ra/\b=[]/\rs=(k,.ifs)::(ra++[(n,.fin)]))\/(∃ra rb n m,oA a ra/\oA b rb/\rs=(k,.ifs)::(ra++(n,.RQ)::(rb++[(m,.fin)])))
 |.nU k _ _ _ a,rs=>∃ra n,oA a ra/\rs=(k,.nU)::(ra++[(n,.fin)])
 |.ask k _,rs=>rs=[(k,.ask)]
 |.put k _ _,rs=>rs=[(k,.put)]
 |.say k _,rs=>rs=[(k,.say)]
 |.jx k _ _ _,rs=>rs=[(k,.jx)]
 |.stop k,rs=>rs=[(k,.stop)]
def oA:List dw->List Row->Prop
 |[],rs=>rs=[]
 |s::r,rs=>∃r1 r2,NT s r1/\oA r r2/\rs=r1++r2
end
theorem oA.one{s:dw}{rs:List Row}(h:NT s rs):oA [s] rs:=by
 rw[oA];exact⟨rs,[],h,by rw[oA],by simp⟩
theorem oA.nil:oA [] []:=by rw[oA]
def uO (n:Nat) (w:Walk):Prop:=(∀f∈w.jP,f.body.length<=n)/\w.rows.length<=n
theorem J0(sc:List Int)(bs:List jw)(mode:Int){n:Nat}{w:Walk}(h:uO n w):uO (n+1) (turn sc bs mode w):=by
 obtain⟨p,jP,rows⟩:=w;obtain⟨h1,h2⟩:=h;simp only at h1 h2;have up:∀f∈jP,f.body.length<=n+1:=fun f hf=>zbx (h1 f hf);have cl:∀l:List Frame,(∀f∈l,f.body.length<=n)->∀f∈close l,f.body.length<=n+1:=by
  intro l hl f hf
  match l,hl,hf with
  |[],_,hf=>cases hf
  |[x],hl,hf=>exact zbx (hl f hf)
  |x::y::r,hl,hf=>
   rcases zak.mp hf with rfl |hf
   ·simp;have:=hl y (by simp);lia
   ·exact zbx (hl f (by simp[hf]))
 unfold turn;simp only;split
 ·exact⟨cl jP h1,by simp;lia⟩
 ·cases jP with
  |nil=>exact⟨up,by simp only;lia⟩
  |cons f r=>
   simp only;split
   ·refine⟨fun x hx=>?_,by simp;lia⟩;rcases zak.mp hx with rfl |hx
    ·simp
    ·exact up x (by simp[hx])
   ·split
    ·refine⟨fun x hx=>?_,by simp;lia⟩;rcases zak.mp hx with rfl |hx
     ·simp
     ·exact up x hx
    ·refine⟨fun x hx=>?_,by simp;lia⟩;rcases zak.mp hx with rfl |hx
     ·have:=h1 f (by simp);simp;lia
     ·exact up x (by simp[hx])
theorem GP{n:Nat}{w:Walk}(h:uO n w)(k:Int):uO (n+1) ⟨w.p,close w.jP,w.rows++[(k,.fin)]⟩:=by
 obtain⟨h1,h2⟩:=h;refine⟨?_,by simp;lia⟩;intro f hf;obtain⟨p,jP,rows⟩:=w;simp only at h1 hf
 match jP,h1,hf with
 |[],_,hf=>cases hf
 |[x],hl,hf=>exact zbx (hl f hf)
 |x::y::r,hl,hf=>
  rcases zak.mp hf with rfl |hf
  ·have:=hl y (by simp);simp;lia
  ·exact zbx (hl f (by simp[hf]))
mutual
def MO:dw->Nat
 |.ifs _ _ _ _ a b=>max (Ef a) (Ef b)+1
 |.nU _ _ _ _ a=>Ef a+1
 |_=>0
def Ef:List dw->Nat
 |[]=>0
 |s::r=>max (MO s) (Ef r)
end
end PG
namespace PG
open PM (W Tr)
section
variable(nm:W->Prop)(ex:Tr->Prop)(sg:W->Prop)
mutual
def MP:dw->Prop
 |.ask _ b=>nm b
 |.put _ b e=>nm b/\ex e
 |.say _ e=>ex e
 |.jx _ s l r=>sg s/\ex l/\ex r
 |.stop _=>True
 |.ifs _ s l r a b=>sg s/\ex l/\ex r/\NU a/\NU b
 |.nU _ s l r a=>sg s/\ex l/\ex r/\NU a
def NU:List dw->Prop
 |[]=>True
 |s::r=>MP s/\NU r
end
end
section
variable{nm:W->Prop}{ex:Tr->Prop}{sg:W->Prop}
section
end
end
def AF:Tr->Nat
 |.bin _ l r=>max (AF l) (AF r)+1
 |_=>0
theorem zU(sc:List Int)(bs:List jw)(mode:Int):∀(n m:Nat) {w:Walk},uO m w->uO (m+n) (turns sc bs mode n w)
 |0,m,_,h=>h
 |n+1,m,_,h=>by
  have:=zU sc bs mode n (m+1) (J0 sc bs mode h);rw[show m+(n+1)=m+1+n by lia];exact this
theorem B7(n:Nat)(mode:Int):∀(k m:Nat) {w:Walk},uO m w->(ends n mode k w).rows.length<=m+k
 |0,m,w,h=>h.2
 |k+1,m,w,h=>by
  unfold ends;split
  ·have:=B7 n mode k (m+1) (GP h (number n w.rows mode));lia
  ·have:=h.2;lia
theorem wG(sc:List Int)(many p:Nat):(FL sc many p).2.length<=many+4:=by
 unfold FL;simp only;generalize wD sc (next sc p%4) (next sc (p+1)%4).toNat 0 (p+2)=bs;have h0:uO 0 ⟨bs.2+1,[{kind:=0,body:=[]}],[]⟩:=⟨fun f hf=>by rw[zal.mp hf];exact zai _,zai _⟩
 have:=B7 bs.1.length (next sc bs.2%4) 4 _ (zU sc bs.1 (next sc bs.2%4) many 0 h0);lia
end PG
namespace PG
open PM (W Tr)
inductive Mt where
 |op (RQ fin:Option Nat)
 |back (i:Nat)
 deriving DecidableEq
abbrev Mm:=Nat->Option Mt
def Mm.set (m:Mm) (i:Nat) (x:Mt):Mm:=fun j=>if j=i then some x else m j
end PG
namespace PG
open PM (W Tr)
def At (R:List Row) (i:Nat) (rs:List Row):Prop:=∀j,j<rs.length->R[i+j]?=rs[j]?
theorem At.head{R:List Row}{i:Nat}{x:Row}{b:List Row}(h:At R i (x::b)):R[i]?=some x:=by
 have:=h 0 (by simp);simpa using this
end PG
namespace PG
open PM (W Tr)
mutual
def mC:dw->List dw
 |.ifs k sg l r a b=>.ifs k sg l r a b::(bN a++bN b)
 |.nU k sg l r a=>.nU k sg l r a::bN a
 |s=>[s]
def bN:List dw->List dw
 |[]=>[]
 |s::r=>mC s++bN r
end
mutual
theorem GQ:∀s:dw,(mC s).map (fun x=>(x.row,x.wd))=wF s
 |.ifs k sg l r a b=>by
  rw[mC,wF,zay,zar,ni a,ni b];rfl
 |.nU k sg l r a=>by
  rw[mC,wF,zay,ni a];rfl
 |.ask k _=>rfl
 |.put k _ _=>rfl
 |.say k _=>rfl
 |.jx k _ _ _=>rfl
 |.stop k=>rfl
theorem ni:∀b:List dw,(bN b).map (fun x=>(x.row,x.wd))=sE b
 |[]=>rfl
 |s::r=>by simp[bN,sE,GQ s,ni r]
end
end PG
namespace PG
open PM (W Tr)
section
variable{nm:W->Prop}{ex:Tr->Prop}{sg:W->Prop}
mutual
theorem MQ:∀(s x:dw),MP nm ex sg s->x∈mC s->MP nm ex sg x
 |.ifs k s l r a b,x,h,m=>by
  rw[mC] at m;rcases zak.mp m with rfl |m
  ·exact h
  ·rw[MP] at h;rcases zaz.mp m with m |m
   ·exact qr a x h.2.2.2.1 m
   ·exact qr b x h.2.2.2.2 m
 |.nU k s l r a,x,h,m=>by
  rw[mC] at m;rcases zak.mp m with rfl |m
  ·exact h
  ·rw[MP] at h;exact qr a x h.2.2.2 m
 |.ask k b,x,h,m=>by simp only[mC,zal] at m;subst m;exact h
 |.put k b e,x,h,m=>by simp only[mC,zal] at m;subst m;exact h
 |.say k e,x,h,m=>by simp only[mC,zal] at m;subst m;exact h
 |.jx k s l r,x,h,m=>by simp only[mC,zal] at m;subst m;exact h
 |.stop k,x,h,m=>by simp only[mC,zal] at m;subst m;exact h
theorem qr:∀(b:List dw) (x:dw),NU nm ex sg b->x∈bN b->MP nm ex sg x
 |[],x,_,m=>by simp[bN] at m
 |s::r,x,h,m=>by
  rw[bN] at m;rw[NU] at h;rcases zaz.mp m with m |m
  ·exact MQ s x h.1 m
  ·exact qr r x h.2 m
end
end
end PG
namespace PG
open PM (W Tr)
def B8 (bs:List jw):Tr->Prop
 |.num n=>0<=n/\n<1000
 |.box x=>x∈bs.map (·.name)
 |.bin o l r=>o∈([[43],[45],[42]]:List W)/\B8 bs l/\B8 bs r
end PG
namespace PG
def nV (r:vM):Prop:=0<r.2.2.length/\(r.2.1=.ifs\/r.2.1=.nU->1<r.2.2.length)
mutual
theorem GR:∀(s:dw) (x:Int),∀r∈gQ s x,nV r
 |.ifs k sg l r a b,x,y,h=>by
  rw[gQ] at h;simp only[zak,zaz] at h;rcases h with rfl |h |h
  ·simp[nV]
  ·exact nj a x y h
  ·exact nj b x y h
 |.nU k sg l r a,x,y,h=>by
  rw[gQ] at h;simp only[zak] at h;rcases h with rfl |h
  ·simp[nV]
  ·exact nj a k y h
 |.ask k _,x,y,h=>by simp[gQ] at h;subst h;simp[nV]
 |.put k _ _,x,y,h=>by simp[gQ] at h;subst h;simp[nV]
 |.say k _,x,y,h=>by simp[gQ] at h;subst h;simp[nV]
 |.jx k _ _ _,x,y,h=>by simp[gQ] at h;subst h;simp[nV]
 |.stop k,x,y,h=>by simp[gQ] at h;subst h;simp[nV]
theorem nj:∀(b:List dw) (x:Int),∀r∈cC b x,nV r
 |[],x,y,h=>by simp[cC] at h
 |s::r,x,y,h=>by
  rw[cC,zaz] at h;rcases h with h |h
  ·exact GR s _ y h
  ·exact nj r x y h
end
end PG
namespace PG
theorem pz:∀(b:List dw) (x:Int),fS b x=x\/∃t∈bN b,t.row=fS b x
 |[],x=>.inl rfl
 |s::r,x=>.inr ⟨s,by rw[bN];exact zba _ (by cases s<;>simp[mC]),rfl⟩
mutual
theorem J7:∀(s:dw) (x:Int),∀r∈gQ s x,∀w∈r.2.2,w=0\/w=x\/∃t∈mC s,t.row=w
 |.ifs k sg l r a b,x,y,h,w,hw=>by
  rw[gQ] at h;simp only[zak,zaz] at h;rw[mC];rcases h with rfl |h |h
  ·simp only[zak,List.mem_nil_iff,or_false] at hw;rcases hw with rfl |rfl
   ·rcases pz a x with e |⟨t,ht,e⟩
    ·exact .inr (.inl e)
    ·exact .inr (.inr ⟨t,by simp[ht],e⟩)
   ·rcases pz b x with e |⟨t,ht,e⟩
    ·exact .inr (.inl e)
    ·exact .inr (.inr ⟨t,by simp[ht],e⟩)
  ·rcases pA a x y h w hw with e |e |⟨t,ht,e⟩
   ·exact .inl e
   ·exact .inr (.inl e)
   ·exact .inr (.inr ⟨t,by simp[ht],e⟩)
  ·rcases pA b x y h w hw with e |e |⟨t,ht,e⟩
   ·exact .inl e
   ·exact .inr (.inl e)
   ·exact .inr (.inr ⟨t,by simp[ht],e⟩)
 |.nU k sg l r a,x,y,h,w,hw=>by
  rw[gQ] at h;simp only[zak] at h;rw[mC];have self:w=k->∃t∈(dw.nU k sg l r a::bN a),t.row=w:=fun e=>⟨_,zaD ..,e.symm⟩
  rcases h with rfl |h
  ·simp only[zak,List.mem_nil_iff,or_false] at hw;rcases hw with rfl |rfl
   ·rcases pz a k with e |⟨t,ht,e⟩
    ·exact .inr (.inr (self e))
    ·exact .inr (.inr ⟨t,by simp[ht],e⟩)
   ·exact .inr (.inl rfl)
  ·rcases pA a k y h w hw with e |e |⟨t,ht,e⟩
   ·exact .inl e
   ·exact .inr (.inr (self e))
   ·exact .inr (.inr ⟨t,by simp[ht],e⟩)
 |.ask k _,x,y,h,w,hw=>by simp[gQ] at h;subst h;simp at hw;exact .inr (.inl hw)
 |.put k _ _,x,y,h,w,hw=>by simp[gQ] at h;subst h;simp at hw;exact .inr (.inl hw)
 |.say k _,x,y,h,w,hw=>by simp[gQ] at h;subst h;simp at hw;exact .inr (.inl hw)
 |.jx k _ _ _,x,y,h,w,hw=>by simp[gQ] at h;subst h;simp at hw;exact .inr (.inl hw)
 |.stop k,x,y,h,w,hw=>by simp[gQ] at h;subst h;simp at hw;exact .inl hw
theorem pA:∀(b:List dw) (x:Int),∀r∈cC b x,∀w∈r.2.2,w=0\/w=x\/∃t∈bN b,t.row=w
 |[],x,y,h,_,_=>by simp[cC] at h
 |s::r,x,y,h,w,hw=>by
  rw[cC,zaz] at h;rw[bN];rcases h with h |h
  ·rcases J7 s _ y h w hw with e |e |⟨t,ht,e⟩
   ·exact .inl e
   ·rcases pz r x with e2 |⟨t,ht,e2⟩
    ·exact .inr (.inl (e.trans e2))
    ·exact .inr (.inr ⟨t,zaM _ ht,e2.trans e.symm⟩)
   ·exact .inr (.inr ⟨t,zba _ ht,e⟩)
  ·rcases pA r x y h w hw with e |e |⟨t,ht,e⟩
   ·exact .inl e
   ·exact .inr (.inl e)
   ·exact .inr (.inr ⟨t,zaM _ ht,e⟩)
end
def MR (b:List dw) (row:Int):Nat:=(bN b).findIdx (fun s=>s.row==row)
theorem FN{b:List dw}(pw:(bN b).Pairwise (fun a b=>a.row<b.row))(i:Nat)(hi:i<(bN b).length):MR b (bN b)[i].row=i:=by
 unfold MR;rw[List.findIdx_eq hi];refine⟨by simp,fun j hj=>?_⟩;have:=zcn.mp pw j i (by lia) hi hj;simp only[beq_eq_false_iff_ne,ne_eq];lia
inductive kG where
 |on |out |jx (row:Int) |fin
deriving DecidableEq
structure Wi where
 rows:List Int
 UP:List Int
 fin:kG
section
variable(ask:Int->Bool)(step:Int->List Int->Int->Option (Int×List Int)×Option Int)
def take1 (a:Bool) (oU:List Int):Option (Int×List Int):=if a then (match oU with |[]=>none |f::r=>some (f,r)) else some (0,oU)
end
end PG
namespace L2
open PySem
def Im:PG.Wd->Str
 |.ask=>"ask" |.put=>"put" |.say=>"say" |.jx=>"must" |.stop=>"stop" |.ifs=>"if" |.nU=>"while" |.RQ=>"else" |.fin=>"end"
mutual
def Eg:PG.dw->Dp
 |.ask k b=>.tup [.str "ask",.int k,.str (S b)]
 |.put k b e=>.tup [.str "put",.int k,.str (S b),oT e]
 |.say k e=>.tup [.str "say",.int k,oT e]
 |.jx k sg l r=>.tup [.str "must",.int k,.str (S sg),oT l,oT r]
 |.stop k=>.tup [.str "stop",.int k]
 |.ifs k sg l r a b=>.tup [.str "if",.int k,.str (S sg),oT l,oT r,.lst (MS a),.lst (MS b)]
 |.nU k sg l r a=>.tup [.str "while",.int k,.str (S sg),oT l,oT r,.lst (MS a)]
def MS:List PG.dw->List Dp
 |[]=>[]
 |s::r=>Eg s::MS r
end
def B9 (b:PG.jw):Dp:=.tup [.str (S b.name),.int b.size,.int b.first]
def RV (r:PG.Row):Dp:=.lst [.int r.1,.str (Im r.2)]
def RW:PG.Tg->Dp
 |.row k=>.tup [.str "row",.int k]
 |.side k b=>.tup [.str "side",.int k,.bl b]
 |.jx k=>.tup [.str "must",.int k]
 |.fin=>.tup [.str "end"]
def bD (O:zc4->Prop) (H H':Hp):Prop:=∀b o,¬O b->H b=some o->H' b=some o
def Fix (K:zac) (O:zc4->Prop) (H:Hp) (d:Dp) (v:V):Prop:=∀H',bD O H H'->Rep K H' d v
def fK (K:zac) (O:zc4->Prop) (H:Hp) (ds:List Dp) (vs:List V):Prop:=∀H',bD O H H'->bc K H' ds vs
section
variable{K:zac}{O O':zc4->Prop}{H H1 H2:Hp}{d:Dp}{ds:List Dp}{v:V}{vs:List V}{p:zc4}{o:HO}
theorem bD.refl:bD O H H:=fun _ _ _ e=>e
theorem bD.trans(a:bD O H H1)(b:bD O H1 H2):bD O H H2:=fun c u n e=>b c u n (a c u n e)
theorem bD.of(s:aq H H1):bD O H H1:=fun b u _ e=>s b u e
theorem bD.mono(a:bD O H H1)(i:∀b,O b->O' b):bD O' H H1:=fun b u n e=>a b u (fun z=>n (i b z)) e
theorem bD.one(a:bM p H H1)(hp:O p):bD O H H1:=fun b u n e=>a b u (fun z=>n (by rw[z];exact hp)) e
theorem bD.put(a:bD O H H1)(hp:O p)(u:HO):bD O H (upd H1 p u):=fun b w n e=>by rw[ao (fun z=>n (by rw[z];exact hp))];exact a b w n e
theorem bD.new(a:bD O H H1)(hp:H1 p=none)(u:HO):bD O H (upd H1 p u):=fun b w n e=>by rw[ao (aD (a b w n e) hp)];exact a b w n e
theorem Fix.up(f:Fix K O H d v)(u:bD O H H1):Fix K O H1 d v:=fun H2 u2=>f H2 (u.trans u2)
theorem fK.up(f:fK K O H ds vs)(u:bD O H H1):fK K O H1 ds vs:=fun H2 u2=>f H2 (u.trans u2)
theorem fK.UQ(f:fK K O H ds vs):bc K H ds vs:=f H .refl
theorem Fix.sub(f:Fix K O H d v)(i:∀b,O' b->O b):Fix K O' H d v:=fun H2 u=>f H2 (u.mono i)
theorem fK.sub(f:fK K O H ds vs)(i:∀b,O' b->O b):fK K O' H ds vs:=fun H2 u=>f H2 (u.mono i)
theorem fK.nil:fK K O H [] []:=fun _ _=>.nil
theorem fK.cons(a:Fix K O H d v)(b:fK K O H ds vs):fK K O H (d::ds) (v::vs):=fun H2 u=>.cons (a H2 u) (b H2 u)
theorem fK.snoc(b:fK K O H ds vs)(a:Fix K O H d v):fK K O H (ds++[d]) (vs++[v]):=fun H2 u=>(b H2 u).append (.cons (a H2 u) .nil)
theorem Fix.int{i:Int}:Fix K O H (.int i) (.int i):=fun _ _=>Rep.dy.mpr rfl
theorem Fix.str{x:Str}:Fix K O H (.str x) (.str x):=fun _ _=>Rep.bf.mpr rfl
theorem Fix.tup(h:H p=some (.tup vs))(n:¬O p)(f:fK K O H ds vs):Fix K O H (.tup ds) (.ref p):=fun H2 u=>Rep.cj.mpr ⟨p,vs,rfl,.of (u p _ n h),f H2 u⟩
theorem Fix.lst(h:H p=some (.lst vs))(n:¬O p)(f:fK K O H ds vs):Fix K O H (.lst ds) (.ref p):=fun H2 u=>Rep.jm.mpr ⟨p,vs,rfl,.of (u p _ n h),f H2 u⟩
end
structure J8(K:zac)(H:Hp)(D S:zc4)(sc:List Int)(p:Nat):Prop where
 q0:H D=some (.lst [.ref S,.int p])
 Eh:H S=some (.lst (sc.map .int))
 ne:S≠D
 len:sc.length<=63
end L2
namespace L2
open PySem
theorem J8.same{K:zac}{H H':Hp}{D S:zc4}{sc:List Int}{p:Nat}(d:J8 K H D S sc p)(s:aq H H'):J8 K H' D S sc p:=⟨s _ _ d.q0,s _ _ d.Eh,d.ne,d.len⟩
theorem gW.ng{K:zac}{H H':Hp}{D a:zc4}{xs:List V}(h:gW K H a xs)(u:bM D H H')(n:a≠D):gW K H' a xs:=by
 rcases h with (h |⟨o,h⟩) |h
 ·exact .inl (.inl (u _ _ n h))
 ·exact .inl (.inr ⟨o,u _ _ n h⟩)
 ·exact .inr h
theorem FO{a:Option V}{r:St}{H:Hp}{Q:VK}:(eP 13 (a::r) H Q)=(eP 12 r H Q):=rfl
theorem FP{a:Option V}{r:St}{H:Hp}{Q:VK}:(eP 14 (a::r) H Q)=(eP 13 r H Q):=rfl
def uP (K:zac) (O:zc4->Prop) (H:Hp) (B:zc4) (bs:List PG.jw):Prop:=Fix K O H (.lst (bs.map B9)) (.ref B)/\bs.length<=10
def Own (K:zac) (H0 H:Hp) (d:Dp) (v:V):Prop:=∀O:zc4->Prop,(∀b,O b->H0 b≠none)->Fix K O H d v
section
variable{K:zac}{O:zc4->Prop}{H0 H H1:Hp}{d:Dp}{v:V}{D B:zc4}{bs:List PG.jw}
theorem Own.up(f:Own K H0 H d v)(u:bM D H H1)(hD:H0 D≠none):Own K H0 H1 d v:=fun O hO=>by
 have:=f (fun b=>O b\/b=D) (fun b hb=>hb.elim (hO b) (fun e=>e▸hD));exact(this.up (bD.one u (.inr rfl))).sub fun b hb=>.inl hb
theorem Own.same(f:Own K H0 H d v)(s:aq H H1):Own K H0 H1 d v:=fun O hO=>(f O hO).up (.of s)
theorem uP.up(f:uP K (·=D) H B bs)(u:bM D H H1):uP K (·=D) H1 B bs:=⟨f.1.up (bD.one u rfl),f.2⟩
theorem uP.same(f:uP K (·=D) H B bs)(s:aq H H1):uP K (·=D) H1 B bs:=⟨f.1.up (.of s),f.2⟩
theorem bM.MT(u:bM D H H1)(hD:H1 D≠none):∀b,H b≠none->H1 b≠none:=fun b hb=>by
 by_cases e:b=D
 ·rw[e];exact hD
 ·cases z:H b with
  |none=>exact absurd z hb
  |some o=>rw[u b o e z];simp
end
def q5 (K:zac) (H0 H:Hp) (ds:List Dp) (vs:List V):Prop:=∀O:zc4->Prop,(∀b,O b->H0 b≠none)->fK K O H ds vs
section
variable{K:zac}{H0 H H1:Hp}{d:Dp}{v:V}{ds:List Dp}{vs:List V}{D p:zc4}
theorem q5.nil:q5 K H0 H [] []:=fun _ _=>fK.nil
theorem q5.cons(a:Own K H0 H d v)(b:q5 K H0 H ds vs):q5 K H0 H (d::ds) (v::vs):=fun O h=>fK.cons (a O h) (b O h)
theorem Own.int{i:Int}:Own K H0 H (.int i) (.int i):=fun _ _=>Fix.int
theorem q5.same(f:q5 K H0 H ds vs)(s:aq H H1):q5 K H0 H1 ds vs:=fun O hO=>(f O hO).up (.of s)
end
theorem q5.up{K:zac}{H0 H H1:Hp}{ds:List Dp}{vs:List V}{D:zc4}(f:q5 K H0 H ds vs)(u:bM D H H1)(hD:H0 D≠none):q5 K H0 H1 ds vs:=fun O hO=>by
 have:=f (fun b=>O b\/b=D) (fun b hb=>hb.elim (hO b) (fun e=>e▸hD));exact(this.up (bD.one u (.inr rfl))).sub fun b hb=>.inl hb
theorem q5.snoc{K:zac}{H0 H:Hp}{d:Dp}{v:V}{ds:List Dp}{vs:List V}(b:q5 K H0 H ds vs)(a:Own K H0 H d v):q5 K H0 H (ds++[d]) (vs++[v]):=fun O h=>fK.snoc (b O h) (a O h)
def XT:Nat->Str
 |0=>"all"
 |1=>"if"
 |2=>"else"
 |_=>"while"
structure lX(K:zac)(Oo:zc4->Prop)(H:Hp)(f:PG.Frame)(a b:zc4)(hd fi:V)(xs:List V):Prop where
 fr:H a=some (.lst [.str (XT f.kind),.ref b,hd,fi])
 bd:H b=some (.lst xs)
 ok:fK K Oo H (f.body.map Eg) xs
 RX:f.kind≠0->∃c ys,hd=.ref c/\H c=some (.tup ys)/\¬Oo c/\fK K Oo H [.str (if f.kind=3 then "while" else "if"),.int f.k,.str (S f.sg),oT f.l,oT f.r] ys
 RY:f.kind=2->Fix K Oo H (.lst (f.first.map Eg)) fi
 len:xs.length=f.body.length
abbrev Te:=PG.Frame×zc4×zc4
def zV (D P R:zc4) (fB:List Te):List zc4:=D::P::R::fB.flatMap fun x=>[x.2.1,x.2.2]
def O (D P R:zc4) (fB:List Te) (E:List zc4):zc4->Prop:=fun b=>b∈zV D P R fB\/b∈E
structure By(K:zac)(H:Hp)(D S:zc4)(sc:List Int)(p:Nat)(B:zc4)(bs:List PG.jw)(P R:zc4)(fB:List Te)(rows:List PG.Row)(E:List zc4):Prop where
 q0:J8 K H D S sc p
 box:Fix K (O D P R fB E) H (.lst (bs.map B9)) (.ref B)
 LV:bs.length<=10
 jP:H P=some (.lst (fB.reverse.map fun x=>.ref x.2.1))
 frames:∀x∈fB,∃hd fi xs,lX K (O D P R fB E) H x.1 x.2.1 x.2.2 hd fi xs
 rows:∃Io,H R=some (.lst Io)/\fK K (O D P R fB E) H (rows.map RV) Io/\Io.length=rows.length
 nd:(zV D P R fB).Nodup
 nS:S ∉ zV D P R fB
section
variable{K:zac}{H H':Hp}{D S B P R:zc4}{sc:List Int}{p p':Nat}{bs:List PG.jw}{fB:List Te}{rows:List PG.Row}{E E':List zc4}
theorem lX.up{Oo:zc4->Prop}{f:PG.Frame}{a b:zc4}{hd fi:V}{xs:List V}(x:lX K Oo H f a b hd fi xs)(u:bD Oo H H')(ha:H' a=H a)(hb:H' b=H b):lX K Oo H' f a b hd fi xs:=
 ⟨ha.trans x.fr,hb.trans x.bd,x.ok.up u,fun z=>let ⟨c,ys,e,h,n,g⟩:=x.RX z;⟨c,ys,e,u _ _ n h,n,g.up u⟩,fun z=>(x.RY z).up u,x.len⟩
theorem lX.sub{O1 O2:zc4->Prop}{f:PG.Frame}{a b:zc4}{hd fi:V}{xs:List V}(x:lX K O1 H f a b hd fi xs)(i:∀c,O2 c->O1 c):lX K O2 H f a b hd fi xs:=
 ⟨x.fr,x.bd,x.ok.sub i,fun z=>let ⟨c,ys,e,h,n,g⟩:=x.RX z;⟨c,ys,e,h,fun w=>n (i c w),g.sub i⟩,fun z=>(x.RY z).sub i,x.len⟩
theorem By.ne(s:By K H D S sc p B bs P R fB rows E):D≠P/\D≠R/\P≠R/\∀x∈fB,x.2.1≠D/\x.2.2≠D/\x.2.1≠P/\x.2.2≠P/\x.2.1≠R/\x.2.2≠R:=by
 have nd:=s.nd;unfold zV at nd;rw[zbc,zbc,zbc] at nd;obtain⟨h1,h2,h3,h4⟩:=nd;simp only[zak,not_or] at h1 h2;refine⟨h1.1,h1.2.1,h2.1,fun x hx=>?_⟩;have m1:x.2.1∈fB.flatMap fun x=>[x.2.1,x.2.2]:=zcw.mpr ⟨x,hx,by simp⟩;have m2:x.2.2∈fB.flatMap fun x=>[x.2.1,x.2.2]:=zcw.mpr ⟨x,hx,by simp⟩;exact⟨fun e=>h1.2.2 (e▸m1),fun e=>h1.2.2 (e▸m2),fun e=>h2.2 (e▸m1),fun e=>h2.2 (e▸m2),fun e=>h3 (e▸m1),fun e=>h3 (e▸m2)⟩
theorem By.MT(s:By K H D S sc p B bs P R fB rows E):∀b,b∈zV D P R fB->H b≠none:=fun b hb=>by
 unfold zV at hb;simp only[zak,zcw] at hb;rcases hb with rfl |rfl |rfl |⟨x,hx,hb⟩
 ·rw[s.q0.q0];simp
 ·rw[s.jP];simp
 ·obtain⟨Io,h,_⟩:=s.rows;rw[h];simp
 ·obtain⟨hd,fi,xs,fa⟩:=s.frames x hx;simp only[zbr,or_false] at hb;rcases hb with rfl |rfl
  ·rw[fa.fr];simp
  ·rw[fa.bd];simp
theorem By.draw(s:By K H D S sc p B bs P R fB rows E)(u:bM D H H')(dk:J8 K H' D S sc p'):By K H' D S sc p' B bs P R fB rows E:=by
 obtain⟨n1,n2,n3,n4⟩:=s.ne;have uS:bD (O D P R fB E) H H':=bD.one u (.inl (by simp[zV]));refine⟨dk,s.box.up uS,s.LV,u _ _ n1.symm s.jP,fun x hx=>?_,?_,s.nd,s.nS⟩
 ·obtain⟨hd,fi,xs,fa⟩:=s.frames x hx;obtain⟨m1,m2,_⟩:=n4 x hx;exact⟨hd,fi,xs,fa.up uS ((u _ _ m1 fa.fr).trans fa.fr.symm) ((u _ _ m2 fa.bd).trans fa.bd.symm)⟩
 ·obtain⟨Io,h,f,l⟩:=s.rows;exact⟨Io,u _ _ n2.symm h,f.up uS,l⟩
theorem By.same(s:By K H D S sc p B bs P R fB rows E)(e:aq H H'):By K H' D S sc p B bs P R fB rows E:=s.draw (.of e) (s.q0.same e)
theorem By.cc(s:By K H D S sc p B bs P R fB rows E):uP K (·=D) H B bs:=⟨s.box.sub fun b hb=>.inl (by rw[show b=D from hb];simp[zV]),s.LV⟩
theorem By.row(s:By K H D S sc p B bs P R fB rows E){Io:List V}(hR:H R=some (.lst Io)){k:Int}{w:PG.Wd}{q:zc4}(hq:H q=some (.lst [.int k,.str (Im w)]))(nq:¬O D P R fB E q):By K (upd H R (.lst (Io++[.ref q]))) D S sc p B bs P R fB (rows++[(k,w)]) E:=by
 obtain⟨n1,n2,n3,n4⟩:=s.ne;have mR:R∈zV D P R fB:=by simp[zV]
 have uS:bD (O D P R fB E) H (upd H R (.lst (Io++[.ref q]))):=bD.refl.put (.inl mR) _;have XU:S≠R:=fun e=>s.nS (by rw[e];exact mR);refine⟨⟨by rw[ao n2];exact s.q0.q0,by rw[ao XU];exact s.q0.Eh,s.q0.ne,s.q0.len⟩,s.box.up uS,s.LV,by rw[ao n3];exact s.jP,fun x hx=>?_,?_,s.nd,s.nS⟩
 ·obtain⟨hd,fi,xs,fa⟩:=s.frames x hx;obtain⟨_,_,_,_,m1,m2⟩:=n4 x hx;exact⟨hd,fi,xs,fa.up uS (ao m1) (ao m2)⟩
 ·obtain⟨XW,h,f,l⟩:=s.rows;rw[hR] at h;cases h;refine⟨_,ae,?_,by simp[l]⟩;rw[zar];exact(f.up uS).snoc (Fix.lst (by rw[ao (fun e=>nq (.inl (by rw[e];exact mR)))];exact hq) nq (.cons .int (.cons .str .nil)))
theorem By.push(s:By K H D S sc p B bs P R fB rows E){f:PG.Frame}{a b:zc4}{hd fi:V}{xs:List V}(fa:lX K (O D P R fB E) H f a b hd fi xs)(ha:a ∉ zV D P R fB)(hb:b ∉ zV D P R fB)(XX:a≠b)(XY:S≠a)(XZ:S≠b)(ea:a∈E)(eb:b∈E) :
 By K (upd H P (.lst ((fB.reverse.map fun x=>.ref x.2.1)++[.ref a]))) D S sc p B bs P R ((f,a,b)::fB) rows E:=by
 obtain⟨n1,n2,n3,n4⟩:=s.ne;have mP:P∈zV D P R fB:=by simp[zV]
 have uS:bD (O D P R fB E) H (upd H P (.lst ((fB.reverse.map fun x=>.ref x.2.1)++[.ref a]))):=bD.refl.put (.inl mP) _;have j:∀c,O D P R ((f,a,b)::fB) E c->O D P R fB E c:=fun c hc=>by
  simp only[O,zV,zak,zck,zaY,za1] at hc ⊢;rcases hc with (h |h |h |h |h |h) |h
  ·exact .inl (.inl h)
  ·exact .inl (.inr (.inl h))
  ·exact .inl (.inr (.inr (.inl h)))
  ·exact .inr (by rw[h];exact ea)
  ·exact .inr (by rw[h];exact eb)
  ·exact .inl (.inr (.inr (.inr h)))
  ·exact .inr h
 have X0:S≠P:=fun e=>s.nS (by rw[e];exact mP);unfold zV at ha hb;simp only[zak,not_or] at ha hb;have nd:=s.nd;unfold zV at nd;simp only[zbc,zak,not_or] at nd;obtain⟨⟨d1,d2,d5⟩,⟨p1,p4⟩,r3,fl⟩:=nd;have nS:=s.nS;unfold zV at nS;simp only[zak,not_or] at nS;refine⟨⟨by rw[ao n1];exact s.q0.q0,by rw[ao X0];exact s.q0.Eh,s.q0.ne,s.q0.len⟩,(s.box.up uS).sub j,s.LV,by rw[ae,zbR,zar];rfl,fun x hx=>?_,?_,?_,?_⟩
 ·rcases zak.mp hx with rfl |hx
  ·exact⟨hd,fi,xs,(fa.up uS (ao ha.2.1) (ao hb.2.1)).sub j⟩
  ·obtain⟨hd,fi,X3,fa⟩:=s.frames x hx;obtain⟨_,_,k3,k4,_,_⟩:=n4 x hx;exact⟨hd,fi,X3,(fa.up uS (ao k3) (ao k4)).sub j⟩
 ·obtain⟨Io,h,g,l⟩:=s.rows;exact⟨Io,by rw[ao n3.symm];exact h,(g.up uS).sub j,l⟩
 ·unfold zV;rw[zck];simp only[zaY,za1,zbc,zak,not_or];exact⟨⟨d1,d2,fun e=>ha.1 e.symm,fun e=>hb.1 e.symm,d5⟩,⟨p1,fun e=>ha.2.1 e.symm,fun e=>hb.2.1 e.symm,p4⟩,⟨fun e=>ha.2.2.1 e.symm,fun e=>hb.2.2.1 e.symm,r3⟩,⟨XX,ha.2.2.2⟩,hb.2.2.2,fl⟩
 ·unfold zV;rw[zck];simp only[zaY,za1,zak,not_or];exact⟨nS.1,nS.2.1,nS.2.2.1,XY,XZ,nS.2.2.2⟩
end
theorem MU{X:Cx}{K:zac}(h:X.K=K):Rk X (Mo K):=h▸dD
theorem GS{X:Cx}{K:zac}(h:X.K=K):qm X (compareOp .NotIn) (Ul K true):=h▸km
def Kept (D:zc4) (H H':Hp):Prop:=bM D H H'/\∀b,H b≠none->H' b≠none
theorem Kept.up{D:zc4}{H H1 H2:Hp}(k:Kept D H H1)(u:bM D H1 H2)(hD:H2 D≠none):Kept D H H2:=⟨k.1.trans u,fun b hb=>u.MT hD b (k.2 b hb)⟩
theorem Kept.same{D:zc4}{H H1 H2:Hp}(k:Kept D H H1)(s:aq H1 H2):Kept D H H2:=⟨k.1.trans (.of s),fun b hb=>by
 have:=k.2 b hb;cases z:H1 b with
 |none=>exact absurd z this
 |some o=>rw[s _ _ z];simp⟩
theorem Kept.put{D q:zc4}{H H1:Hp}(k:Kept D H H1)(hq:H q=none)(o:HO):Kept D H (upd H1 q o):=⟨fun b u n e=>by rw[ao (aD e hq)];exact k.1 b u n e,fun b hb=>by
 by_cases z:b=q
 ·rw[z,ae];simp
 ·rw[ao z];exact k.2 b hb⟩
def Pu (r:PG.vM):Dp:=.tup [.int r.1,.str (Im r.2.1),.tup (r.2.2.map .int)]
theorem GU{K:zac}{H:Hp}:∀(s:PG.dw) {v:V},Rep K H (Eg s) v->∃a ys,v=.ref a/\eQ K H a (.str (Im s.wd) :: .int s.row::ys):=by
 intro s v h;have key:∃ds,Eg s=.tup (.str (Im s.wd) :: .int s.row::ds):=by
  cases s<;>exact⟨_,by rw[Eg];rfl⟩
 obtain⟨ds,e⟩:=key;rw[e,Rep.cj] at h;obtain⟨a,xs,rfl,q,r⟩:=h;rw[bc.bL] at r;obtain⟨v1,t1,rfl,e1,r⟩:=r;rw[bc.bL] at r;obtain⟨v2,t2,rfl,e2,_⟩:=r;rw[Rep.bf] at e1;rw[Rep.dy] at e2;subst e1 e2;exact⟨a,t2,rfl,q⟩
structure UR(K:zac)(H H2:Hp)(tl:zc4)(H3:Hp)(us:List V)(pre:List PG.Tg):Prop where
 s:aq H H3
 u:bD (·=tl) H2 H3
 y:H3 tl=some (.lst us)
 f:fK K (·=tl) H3 (pre.map RW) us
 l:us.length=pre.length
section
variable{K:zac}{H H2 H3 H4:Hp}{tl p:zc4}{us vs:List V}{pre:List PG.Tg}{ds:List Dp}{g:PG.Tg}
theorem UR.same(a:UR K H H2 tl H3 us pre)(s:aq H3 H4):UR K H H2 tl H4 us pre:=⟨a.s.trans s,a.u.trans (.of s),s _ _ a.y,a.f.up (.of s),a.l⟩
end
def RZ:Option Nat->V
 |none=>.da
 |some e=>.int e
def X4 (A:Nat->zc4) (p:Nat):Option PG.Mt->Option V
 |none=>none
 |some (.back q)=>some (.int q)
 |some (.op _ _)=>some (.ref (A p))
structure NV(H:Hp)(d:zc4)(m:PG.Mm)(A:Nat->zc4)(Hx:Hp)(bg:List (Key×V)):Prop where
 s:aq H Hx
 dn:H d=none
 dd:Hx d=some (.dK bg)
 at_:∀p:Nat,d4 bg (.inl (p:Int))=X4 A p (m p)
 ls:∀p e f,m p=some (.op e f)->Hx (A p)=some (.lst [RZ e,RZ f])/\H (A p)=none
 inj:∀p q e f e' f',m p=some (.op e f)->m q=some (.op e' f')->A p=A q->p=q
section
variable{H Hx H':Hp}{d b:zc4}{m:PG.Mm}{A:Nat->zc4}{bg:List (Key×V)}{o:HO}
theorem NV.ne(t:NV H d m A Hx bg){p:Nat}{e f:Option Nat}(h:m p=some (.op e f)):A p≠d:=dU (t.ls p e f h).1 t.dd (by intro z;cases z)
theorem NV.same(t:NV H d m A Hx bg)(s:aq Hx H'):NV H d m A H' bg:=⟨t.s.trans s,t.dn,s _ _ t.dd,t.at_,fun p e f h=>⟨s _ _ (t.ls p e f h).1,(t.ls p e f h).2⟩,t.inj⟩
theorem NV.put(t:NV H d m A Hx bg)(hb:H b=none)(nd:b≠d)(nl:∀p e f,m p=some (.op e f)->A p≠b)(o:HO):NV H d m A (upd Hx b o) bg:=
 ⟨fun z u e=>by rw[ao (aD e hb)];exact t.s z u e,t.dn,by rw[ao nd.symm];exact t.dd,t.at_,fun p e f h=>⟨by rw[ao (nl p e f h)];exact(t.ls p e f h).1,(t.ls p e f h).2⟩,t.inj⟩
end
structure wH(K:zac)(H:Hp)(tl:zc4)(H3:Hp)(us:List V)(ds:List Dp):Prop where
 s:aq H H3
 y:H3 tl=some (.lst us)
 f:fK K (·=tl) H3 ds us
 l:us.length=ds.length
section
variable{K:zac}{H H3 H4:Hp}{tl p p1 p2:zc4}{us vs:List V}{ds es:List Dp}{d:Dp}{v:V}
theorem wH.new(h:H tl=none):wH K H tl (upd H tl (.lst [])) [] []:=⟨aq.new h _,ae,.nil,rfl⟩
theorem wH.same(a:wH K H tl H3 us ds)(s:aq H3 H4):wH K H tl H4 us ds:=⟨a.s.trans s,s _ _ a.y,a.f.up (.of s),a.l⟩
theorem wH.push(a:wH K H tl H3 us ds)(ht:H tl=none)(fv:Fix K (·=tl) H3 d v):wH K H tl (upd H3 tl (.lst (us++[v]))) (us++[v]) (ds++[d]):=by
 have uu:bD (·=tl) H3 (upd H3 tl (.lst (us++[v]))):=bD.refl.put (O:=(·=tl)) rfl _;exact⟨fun z o e=>by rw[ao (aD e ht)];exact a.s z o e,ae,(a.f.snoc fv).up uu,by simp[a.l]⟩
theorem wH.row(a:wH K H tl H3 us ds)(ht:H tl=none){k:Int}{w:PG.Wd}{ws:List Int}(h1:H3 p1=none)(h2:(upd H3 p1 (.tup (ws.map V.int))) p2=none) :
 (upd (upd H3 p1 (.tup (ws.map V.int))) p2 (.tup [.int k,.str (Im w),.ref p1])) tl=some (.lst us)/\
 wH K H tl (upd (upd (upd H3 p1 (.tup (ws.map V.int))) p2 (.tup [.int k,.str (Im w),.ref p1])) tl (.lst (us++[.ref p2]))) (us++[.ref p2]) (ds++[Pu (k,w,ws)]):=by
 have s1:=aq.new h1 (.tup (ws.map V.int));have a1:=a.same s1;have t1:(upd H3 p1 (.tup (ws.map V.int))) p1=some (.tup (ws.map V.int)):=ae;have n1:p1≠tl:=(aD a.y h1).symm;generalize upd H3 p1 (.tup (ws.map V.int))=H5 at *;have s2:=aq.new h2 (.tup [.int k,.str (Im w),.ref p1]);have a2:=a1.same s2;have t2:(upd H5 p2 (.tup [.int k,.str (Im w),.ref p1])) p2=some (.tup [.int k,.str (Im w),.ref p1]):=ae;have n2:p2≠tl:=(aD a1.y h2).symm;have t1:=s2 _ _ t1;generalize upd H5 p2 (.tup [.int k,.str (Im w),.ref p1])=H6 at *;refine⟨a2.y,a2.push ht (Fix.tup t2 n2 (.cons .int (.cons .str (.cons (Fix.tup t1 n1 ?_) .nil))))⟩;have allI:∀l:List Int,fK K (·=tl) H6 (l.map Dp.int) (l.map V.int):=fun l=>by
  induction l with
  |nil=>exact .nil
  |cons i r ih=>exact .cons .int ih
 exact allI ws
end
def wI (ss:List PG.dw) (vs:List V):List (Key×V):=zc2 (fun s v=>(Sum.inl s.row,v)) ss vs
theorem Ca:∀(ss:List PG.dw) (vs:List V),vs.length=ss.length->ss.Pairwise (fun a b=>a.row<b.row)->∀i (hi:i<ss.length) v,vs[i]?=some v->d4 (wI ss vs) (.inl ss[i].row)=some v
 |[],_,_,_,i,hi,_,_=>by simp at hi
 |_::_,[],h,_,_,_,_,_=>by simp at h
 |s::ss,v::vs,h,hp,0,hi,u,hu=>by
  simp at hu;subst hu;show d4 ((_,v)::wI ss vs) _=_;exact dE rfl
 |s::ss,v::vs,h,hp,i+1,hi,u,hu=>by
  rw[List.pairwise_cons] at hp;have lt:=hp.1 (ss[i]'(by simpa using hi)) (zaS _);show d4 ((.inl s.row,v)::wI ss vs) (.inl (ss[i]'(by simpa using hi)).row)=_;rw[dF (fun e=>by have e:=Sum.inl.inj e;lia)];exact Ca ss vs (by simpa using h) hp.2 i (by simpa using hi) u (by simpa using hu)
def nr {α β γ:Type} (R:α->β->γ->Prop):List α->List β->List γ->Prop
 |[],[],[]=>True
 |a::as,b::bs,c::cs=>R a b c/\nr R as bs cs
 |_,_,_=>False
section
variable{α β γ:Type}{R S:α->β->γ->Prop}
theorem nr.bX{bs:List β}{cs:List γ}:nr R [] bs cs↔bs=[]/\cs=[]:=by
 cases bs<;>cases cs<;>simp[nr]
theorem nr.bL{a:α}{as:List α}{bs:List β}{cs:List γ}:nr R (a::as) bs cs↔∃b R0 c R1,bs=b::R0/\cs=c::R1/\R a b c/\nr R as R0 R1:=by
 constructor
 ·intro h;cases bs with
  |nil=>simp[nr] at h
  |cons b bs=>
   cases cs with
   |nil=>simp[nr] at h
   |cons c cs=>exact⟨b,bs,c,cs,rfl,rfl,h.1,h.2⟩
 ·rintro ⟨b,R0,c,R1,rfl,rfl,h1,h2⟩
  exact⟨h1,h2⟩
theorem nr.length:∀ {as:List α} {bs:List β} {cs:List γ},nr R as bs cs->bs.length=as.length/\cs.length=as.length
 |[],_,_,h=>by obtain⟨rfl,rfl⟩:=nr.bX.mp h;exact⟨rfl,rfl⟩
 |a::as,_,_,h=>by
  obtain⟨b,R0,c,R1,rfl,rfl,_,h2⟩:=nr.bL.mp h;have:=nr.length h2;simp[this]
theorem nr.snoc:∀ {as:List α} {bs:List β} {cs:List γ} {a:α} {b:β} {c:γ},nr R as bs cs->R a b c->nr R (as++[a]) (bs++[b]) (cs++[c])
 |[],_,_,a,b,c,h,r=>by obtain⟨rfl,rfl⟩:=nr.bX.mp h;exact⟨r,trivial⟩
 |x::as,_,_,a,b,c,h,r=>by
  obtain⟨b',R0,c',R1,rfl,rfl,h1,h2⟩:=nr.bL.mp h;exact⟨h1,nr.snoc h2 r⟩
end
theorem Ei{K:zac}{a D:zc4}{xs:List V}{te:TE}{Q:VK}{r:St}{H:Hp}(Pv:Nat->List V->Hp->Prop)(hS:gW K H a xs)(hl:xs.length<=16000000)(hD:H D=none)(h0:Pv 0 [] (upd H D (.lst [])))
 (step:∀i x ys H2,xs[i]?=some x->aq H H2->H2 D=some (.lst ys)->ys.length=i->Pv i ys H2->∀R:VK,(∀v H3,aq H2 H3->Pv (i+1) (ys++[v]) (upd H3 D (.lst (ys++[v])))->R v H3)->te (some x::r) H2 R)
 (q:∀ys H2,aq H H2->H2 D=some (.lst ys)->Pv xs.length ys H2->Q (.ref D) H2):uJ (LS K a) D (mZ 0) Jk te Q (none::r) (upd H D (.lst [])):=by
 refine⟨fun i m τ H2=>m=xs.length-i/\i<=xs.length/\(∃x,τ=x::r)/\aq H H2/\∃ys,H2 D=some (.lst ys)/\ys.length=i/\Pv i ys H2,⟨xs.length,by simp,za0 _,⟨none,rfl⟩,aq.new hD _,[],ae,rfl,h0⟩,?_⟩
 rintro i m τ H2 ⟨rfl,hi,⟨x,rfl⟩,s2,ys,h2,ly,p2⟩
 by_cases oW:i<xs.length
 ·refine .inr ⟨⟨xs,xs[i],s2.seq hS,by simp[oW]⟩,fun τ' H'=>(∃x,τ'=x::r)/\aq H H'/\∃ys,H' D=some (.lst ys)/\ys.length=i+1/\Pv (i+1) ys H',fun τ' H' ⟨h1,h3,h4⟩=>⟨xs.length-(i+1),by lia,rfl,oW,h1,h3,h4⟩,fun y H' hy=>?_⟩;obtain⟨rfl,hy⟩:=hy;have ey:=hy _ (s2.seq hS);simp only[mZ,zcv,Jk];rw[if_pos trivial];refine step i y ys _ ey s2 h2 ly p2 _ fun v H3 s3 p3=>⟨ys,s3 _ _ h2,?_,⟨_,rfl⟩,?_,ys++[v],ae,by simp[ly],p3⟩
  ·have:zdc=2 ^ 24:=rfl;lia
  ·intro b o e;rw[ao (aD e hD)];exact s3 _ _ (s2 _ _ e)
 ·have e:i=xs.length:=by lia
  subst e;exact .inl ⟨⟨xs,s2.seq hS,zai _⟩,q ys H2 s2 h2 p2⟩
section
variable{K:zac}{H H':Hp}{p C dx:zc4}{fs:List (Str×V)}
mutual
theorem MV(h:H p=some (.ins C dx fs))(u:bD (·=p) H H'):∀(d:Dp) (v:V),Rep K H d v->Rep K H' d v
 |.da,v,r=>by rw[Rep.vK] at r ⊢;exact r
 |.bl b,v,r=>by rw[Rep.wt] at r ⊢;exact r
 |.int b,v,r=>by rw[Rep.dy] at r ⊢;exact r
 |.str b,v,r=>by rw[Rep.bf] at r ⊢;exact r
 |.lst l,v,r=>by
  rw[Rep.jm] at r ⊢;obtain⟨a,ys,rfl,q,rs⟩:=r;refine⟨a,ys,rfl,?_,sF h u l ys rs⟩;rcases q with (q |⟨o,q⟩) |q
  ·exact .inl (.inl (u _ _ (dU q h (by intro z;cases z)) q))
  ·exact .inl (.inr ⟨o,u _ _ (dU q h (by intro z;cases z)) q⟩)
  ·exact .inr q
 |.tup l,v,r=>by
  rw[Rep.cj] at r ⊢;obtain⟨a,ys,rfl,q,rs⟩:=r;refine⟨a,ys,rfl,?_,sF h u l ys rs⟩;rcases q with (q |⟨o,q⟩) |q
  ·exact .inl (.inl (u _ _ (dU q h (by intro z;cases z)) q))
  ·exact .inl (.inr ⟨o,u _ _ (dU q h (by intro z;cases z)) q⟩)
  ·exact .inr q
theorem sF(h:H p=some (.ins C dx fs))(u:bD (·=p) H H'):∀(ds:List Dp) (vs:List V),bc K H ds vs->bc K H' ds vs
 |[],vs,r=>by rw[bc.bX] at r ⊢;exact r
 |d::ds,vs,r=>by
  rw[bc.bL] at r ⊢;obtain⟨v,t,rfl,r1,r2⟩:=r;exact⟨v,t,rfl,MV h u d v r1,sF h u ds t r2⟩
end
end
theorem GV{K:zac}{a D:zc4}{xs:List V}{te:TE}{Q:VK}{r:St}{H:Hp}(f:Nat->V)(hS:gW K H a xs)(hl:xs.length<=16000000)(hD:H D=none)
 (step:∀i x H2,xs[i]?=some x->aq H H2->∀R:VK,R (f i) H2->te (some x::r) H2 R)
 (q:∀H2,aq H H2->H2 D=some (.lst ((zaW xs.length).map f))->Q (.ref D) H2):uJ (LS K a) D (mZ 0) Jk te Q (none::r) (upd H D (.lst [])):=by
 refine Ei (K:=K) (fun i ys H2=>ys=(zaW i).map f) hS hl hD rfl ?_ ?_
 ·rintro i x ys H2 hx s2 Wj ly rfl R hR
  exact step i x H2 hx s2 R (hR _ _ (aq.refl _) (by rw[List.range_succ,zar];rfl))
 ·rintro ys H2 s2 Wj rfl
  exact q H2 s2 Wj
structure MW(K:zac)(C:zc4)(H:Hp)(p:zc4)(pr:PG.Prog):Prop where
 at_:∃(dx nl sd fa va st wy:zc4) (us ws:List V),H p=some (.ins C dx [("names",.ref nl),("sizes",.ref sd),("first",.ref fa),("statements",.ref st),("ways",.ref wy)])/\H dx=some (.own p)/\
  H nl=some (.lst (pr.cc.map fun b=>.str (S b.name)))/\H sd=some (.dK (pr.cc.map fun b=>(.inr (S b.name),.int b.size)))/\
  H fa=some (.tup [.int (PG.fS pr.body 0),.ref va])/\H va=some (.tup (pr.cc.map fun b=>.int b.first))/\
  us.length=(PG.bN pr.body).length/\H st=some (.dK (wI (PG.bN pr.body) us))/\bc K H ((PG.bN pr.body).map Eg) us/\
  ws.length=(PG.cC pr.body 0).length/\H wy=some (.dK (zc2 (fun r v=>(Sum.inl r.1,v)) (PG.cC pr.body 0) ws))/\∀i (hi:i<(PG.cC pr.body 0).length),∃q,ws[i]?=some (.ref q)/\eQ K H q ((PG.cC pr.body 0)[i].2.2.map V.int)
end L2
namespace L2
open PySem
def X5 (bg:List (Key×V)) (x:W):Int:=match d4 bg (.inr (S x)) with
 |some (.int i)=>i
 |_=>0
theorem MW.mono{K:zac}{C p:zc4}{H H':Hp}{pr:PG.Prog}(c:MW K C H p pr)(s:aq H H'):MW K C H' p pr:=by
 obtain⟨dx,nl,sd,fa,va,st,wy,us,ws,h1,h2,h3,h4,h5,h6,h7,h8,h9,NW,US,UT⟩:=c.at_;exact⟨⟨dx,nl,sd,fa,va,st,wy,us,ws,s _ _ h1,s _ _ h2,s _ _ h3,s _ _ h4,s _ _ h5,s _ _ h6,h7,s _ _ h8,h9.mono s,NW,s _ _ US,fun i hi=>let ⟨q,e,r⟩:=UT i hi;⟨q,e,s.kD r⟩⟩⟩
def Pw (bs:List PG.jw) (vs:List V):List (Key×V):=zc2 (fun b v=>(Sum.inr (S b.name),v)) bs vs
def R3:PG.dw->Option (W×PM.Tr×PM.Tr)
 |.jx _ sg l r=>some (sg,l,r)
 |.ifs _ sg l r _ _=>some (sg,l,r)
 |.nU _ sg l r _=>some (sg,l,r)
 |_=>none
def Px (sg:W) (a b:Int):Bool:=if sg=[60] then decide (a<b) else decide (a=b)
def wv (bs:List PG.jw) (vals:List Int) (e:PM.Tr):Int:=qZ (X5 (Pw bs (vals.map V.int))) e
def jy (K:zac) (H:Hp) (sa:zc4) (row:Int) (vals:List Int):Prop:=∃va,eQ K H sa [.int row,.ref va]/\eQ K H va (vals.map V.int)
theorem jy.mono{K:zac}{H H':Hp}{sa:zc4}{row:Int}{vals:List Int}(h:jy K H sa row vals)(s:aq H H'):jy K H' sa row vals:=by obtain⟨va,h1,h2⟩:=h;exact⟨va,s.kD h1,s.kD h2⟩
structure Py(pr:PG.Prog):Prop where
 pw:(PG.bN pr.body).Pairwise (fun a b=>a.row<b.row)
 nb:(pr.cc.map (·.name)).Nodup
 LV:pr.cc.length<=10
 pos:∀s∈PG.bN pr.body,0<s.row
theorem wJ(b:List PG.dw)(i:Nat)(hi:i<(PG.bN b).length):∃hf:i<(PG.cC b 0).length,(PG.cC b 0)[i].1=(PG.bN b)[i].row/\(PG.cC b 0)[i].2.1=(PG.bN b)[i].wd:=by
 have e:((PG.cC b 0).map fun r=>(r.1,r.2.1))=(PG.bN b).map fun x=>(x.row,x.wd):=by rw[PG.nh,PG.ni]
 have l:=congrArg zbB e;rw[zae,zae] at l;have hf:i<(PG.cC b 0).length:=by lia
 refine⟨hf,?_⟩;have h1:((PG.cC b 0).map fun r=>(r.1,r.2.1))[i]?=((PG.bN b).map fun x=>(x.row,x.wd))[i]?:=by rw[e]
 rw[zaN,zaN,zah hf,zah hi] at h1;have h1:=zav.inj h1;exact⟨congrArg Prod.fst h1,congrArg Prod.snd h1⟩
def J9 (K:zac) (H:Hp):Option (Int×List Int)->V->Prop
 |none,v=>v=.da
 |some x,v=>∃a,v=.ref a/\jy K H a x.1 x.2
def pB (bs:List PG.jw) (st:PG.dw) (ws:List Int) (vals:List Int):Option (Int×List Int):=match R3 st with
 |none=>none
 |some (sg,l,r)=>if Px sg (wv bs vals l) (wv bs vals r) then some (ws.getD 0 0,vals) else if st.wd=.jx then none else some (ws.getD 1 0,vals)
open PyProof.Rows
def zW (bs:List PG.jw) (x:W):Nat:=(bs.map (·.name)).idxOf x
def AG (bs:List PG.jw) (vals:List Int) (x:W) (v:Int):List Int:=vals.set (zW bs x) v
def oB (bs:List PG.jw) (x:W):Int:=((bs[zW bs x]?).map (·.size)).getD 1
def kE (bs:List PG.jw) (st:PG.dw) (ws vals:List Int) (Po:Int):Option (Int×List Int)×Option Int:=match st with
 |.ask _ b=>(some (ws.getD 0 0,AG bs vals b (Po%oB bs b)),none)
 |.put _ b e=>(some (ws.getD 0 0,AG bs vals b (wv bs vals e%oB bs b)),none)
 |.say _ e=>(some (ws.getD 0 0,vals),some (wv bs vals e))
 |.stop _=>(some (ws.getD 0 0,vals),none)
 |st=>(pB bs st ws vals,none)
theorem Cb{bs:List PG.jw}{x:W}(h:x∈bs.map (·.name)):∃hi:zW bs x<bs.length,bs[zW bs x].name=x:=by
 have l:zW bs x<(bs.map (·.name)).length:=List.idxOf_lt_length_iff.mpr h;have e:(bs.map (·.name))[zW bs x]=x:=List.getElem_idxOf l;rw[zae] at l;rw[List.getElem_map] at e;exact⟨l,e⟩
theorem df{H H':Hp}{b:zc4}(s:aq H H')(h:H' b=none):H b=none:=by
 cases z:H b with
 |none=>rfl
 |some o=>rw[s _ _ z] at h;cases h
theorem eQ.ng{K:zac}{H H':Hp}{D a:zc4}{xs ys:List V}(h:eQ K H a xs)(hD:H D=some (.lst ys))(u:bM D H H'):eQ K H' a xs:=by
 rcases h with (q |⟨o,q⟩) |q
 ·exact .inl (.inl (u _ _ (dU q hD (by intro z;cases z)) q))
 ·exact .inl (.inr ⟨o,u _ _ (dU q hD (by intro z;cases z)) q⟩)
 ·exact .inr q
theorem J9.keep{K:zac}{H H':Hp}{o:Option (Int×List Int)}{v:V}(h:J9 K H o v)(s:aq H H'):J9 K H' o v:=by
 cases o with
 |none=>exact h
 |some x=>obtain⟨a,e,sa⟩:=h;exact⟨a,e,sa.mono s⟩
section
variable{K:zac}{H H':Hp}{p C dx a:zc4}{fs:List (Str×V)}{xs:List V}
theorem eQ.ins(h:eQ K H a xs)(hp:H p=some (.ins C dx fs))(u:bM p H H'):eQ K H' a xs:=by
 rcases h with (q |⟨o,q⟩) |q
 ·exact .inl (.inl (u _ _ (dU q hp (by intro z;cases z)) q))
 ·exact .inl (.inr ⟨o,u _ _ (dU q hp (by intro z;cases z)) q⟩)
 ·exact .inr q
theorem gW.ins(h:gW K H a xs)(hp:H p=some (.ins C dx fs))(u:bM p H H'):gW K H' a xs:=by
 rcases h with (q |⟨o,q⟩) |q
 ·exact .inl (.inl (u _ _ (dU q hp (by intro z;cases z)) q))
 ·exact .inl (.inr ⟨o,u _ _ (dU q hp (by intro z;cases z)) q⟩)
 ·exact .inr q
theorem jy.ins{row:Int}{vals:List Int}(h:jy K H a row vals)(hp:H p=some (.ins C dx fs))(u:bM p H H'):jy K H' a row vals:=by obtain⟨va,h1,h2⟩:=h;exact⟨va,h1.ins hp u,h2.ins hp u⟩
theorem MW.ins{CC ch:zc4}{pr:PG.Prog}(c:MW K CC H ch pr)(hp:H p=some (.ins C dx fs))(n:ch≠p)(u:bM p H H'):MW K CC H' ch pr:=by
 obtain⟨dx,nl,sd,fa,va,st,wy,us,ws,h1,h2,h3,h4,h5,h6,h7,h8,h9,NW,US,UT⟩:=c.at_;have k:∀ {b:zc4} {o:HO},H b=some o->(∀C dx fs,o≠.ins C dx fs)->H' b=some o:=fun e no=>u _ _ (dU e hp (no _ _ _)) e;exact⟨⟨dx,nl,sd,fa,va,st,wy,us,ws,u _ _ n h1,k h2 (by intro _ _ _ z;cases z),k h3 (by intro _ _ _ z;cases z),k h4 (by intro _ _ _ z;cases z),k h5 (by intro _ _ _ z;cases z),k h6 (by intro _ _ _ z;cases z),h7,k h8 (by intro _ _ _ z;cases z),sF hp (bD.one u rfl) _ _ h9,NW,k US (by intro _ _ _ z;cases z),fun i hi=>let ⟨q,e,r⟩:=UT i hi;⟨q,e,r.ins hp u⟩⟩⟩
end
def R4:PG.kG->List V
 |.on=>[.str "on"]
 |.out=>[.str "out"]
 |.jx r=>[.str "must",.int r]
 |.fin=>[.str "end"]
def wK (K:zac) (H:Hp):Option PG.kG->V->Prop
 |none,v=>v=.da
 |some e,v=>∃a,v=.ref a/\eQ K H a (R4 e)
theorem wK.mono{K:zac}{H H':Hp}{e:Option PG.kG}{v:V}(h:wK K H e v)(s:aq H H'):wK K H' e v:=by
 cases e with
 |none=>exact h
 |some x=>obtain⟨a,e,q⟩:=h;exact⟨a,e,s.kD q⟩
theorem wK.ins{K:zac}{H H':Hp}{p C dx:zc4}{fs:List (Str×V)}{e:Option PG.kG}{v:V}(h:wK K H e v)(hp:H p=some (.ins C dx fs))(u:bM p H H'):wK K H' e v:=by
 cases e with
 |none=>exact h
 |some x=>obtain⟨a,e,q⟩:=h;exact⟨a,e,q.ins hp u⟩
def Tf (ch fl:zc4) (n:Nat) (sa:zc4) (ev:V):List (Str×V):=[("chart",.ref ch),("figures",.ref fl),("taken",.int n),("standing",.ref sa),("end",ev)]
structure Ip(K:zac)(CC CW:zc4)(H:Hp)(wk ch fl:zc4)(pr:PG.Prog)(oU:List Int)(n:Nat)(row:Int)(vals:List Int)(e:Option PG.kG):Prop where
 at_:∃(dx sa:zc4) (ev:V),H wk=some (.ins CW dx (Tf ch fl n sa ev))/\jy K H sa row vals/\wK K H e ev
 Wk:MW K CC H ch pr
 Wl:gW K H fl (oU.map V.int)
 R5:ch≠wk
theorem Ip.mono{K:zac}{CC CW:zc4}{H H':Hp}{wk ch fl:zc4}{pr:PG.Prog}{oU:List Int}{n:Nat}{row:Int}{vals:List Int}{e:Option PG.kG}(h:Ip K CC CW H wk ch fl pr oU n row vals e)(s:aq H H'):Ip K CC CW H' wk ch fl pr oU n row vals e:=
 let ⟨dx,sa,ev,h1,h2,h3⟩:=h.at_
 ⟨⟨dx,sa,ev,s _ _ h1,h2.mono s,h3.mono s⟩,h.Wk.mono s,s.seq h.Wl,h.R5⟩
theorem Ip.put{K:zac}{CC CW:zc4}{H:Hp}{wk ch fl dx sa Th:zc4}{pr:PG.Prog}{oU:List Int}{n n':Nat}{row R6:Int}{vals NX:List Int}{e e':Option PG.kG}{ev Ti:V}(h:Ip K CC CW H wk ch fl pr oU n row vals e)(hw:H wk=some (.ins CW dx (Tf ch fl n sa ev)))
 (hs:jy K H Th R6 NX) (he:wK K H e' Ti):Ip K CC CW (upd H wk (.ins CW dx (Tf ch fl n' Th Ti))) wk ch fl pr oU n' R6 NX e':=by
 have u:bM wk H (upd H wk (.ins CW dx (Tf ch fl n' Th Ti))):=(bM.refl _ _).put _;exact⟨⟨dx,Th,Ti,ae,hs.ins hw u,he.ins hw u⟩,h.Wk.ins hw h.R5 u,h.Wl.ins hw u,h.R5⟩
theorem Ip.lst{K:zac}{CC CW:zc4}{H H':Hp}{wk ch fl rl:zc4}{pr:PG.Prog}{oU:List Int}{n:Nat}{row:Int}{vals:List Int}{e:Option PG.kG}{xs:List V}(h:Ip K CC CW H wk ch fl pr oU n row vals e)(hr:H rl=some (.lst xs))(u:bM rl H H')(c:MW K CC H' ch pr)(f:gW K H' fl (oU.map V.int)):Ip K CC CW H' wk ch fl pr oU n row vals e:=by
 obtain⟨dx,sa,ev,h1,⟨va,h2,h3⟩,h4⟩:=h.at_;refine⟨⟨dx,sa,ev,u _ _ (dU h1 hr (by intro z;cases z)) h1,⟨va,h2.ng hr u,h3.ng hr u⟩,?_⟩,c,f,h.R5⟩;cases e with
 |none=>exact h4
 |some x=>obtain⟨a,e,q⟩:=h4;exact⟨a,e,q.ng hr u⟩
def lT (b:List PG.dw) (row:Int):PG.dw:=((PG.bN b)[PG.MR b row]?).getD (.stop 0)
def Pz (b:List PG.dw) (row:Int):List Int:=(((PG.cC b 0)[PG.MR b row]?).map (·.2.2)).getD []
def UU (b:List PG.dw) (row:Int):Bool:=decide ((lT b row).wd=.ask)
def FQ (pr:PG.Prog) (row:Int) (vals:List Int) (f:Int):Option (Int×List Int)×Option Int:=kE pr.cc (lT pr.body row) (Pz pr.body row) vals f
theorem MX{b:List PG.dw}(pw:(PG.bN b).Pairwise (fun a b=>a.row<b.row))(i:Nat)(hi:i<(PG.bN b).length):lT b (PG.bN b)[i].row=(PG.bN b)[i]:=by
 unfold lT;rw[PG.FN pw i hi,zah hi];rfl
theorem MY{b:List PG.dw}(pw:(PG.bN b).Pairwise (fun a b=>a.row<b.row))(i:Nat)(hi:i<(PG.bN b).length)(hf:i<(PG.cC b 0).length):Pz b (PG.bN b)[i].row=(PG.cC b 0)[i].2.2:=by
 unfold Pz;rw[PG.FN pw i hi,zah hf];rfl
structure Cc(pr:PG.Prog)(row:Int)(vals:List Int):Prop where
 row:row=0\/∃i,∃hi:i<(PG.bN pr.body).length,(PG.bN pr.body)[i].row=row
 len:vals.length=pr.cc.length
 small:∀v∈vals,v.natAbs<=2 ^ 12
structure AH(pr:PG.Prog):Prop where
 ok:Py pr
 dep:PG.Ef pr.body<=3
 LV:(PG.sE pr.body).length<=1000
 own:PG.NU (·∈pr.cc.map (·.name)) (fun e=>PG.B8 pr.cc e/\PG.AF e<=2) (·∈PG.Qz) pr.body
 size:∀b∈pr.cc,2<=b.size/\b.size<=10/\0<=b.first/\b.first<b.size
theorem FR{pr:PG.Prog}{w:Int}(h:w=0\/w=0\/∃t∈PG.bN pr.body,t.row=w):w=0\/∃i,∃hi:i<(PG.bN pr.body).length,(PG.bN pr.body)[i].row=w:=by
 rcases h with h |h |⟨t,ht,e⟩
 ·exact .inl h
 ·exact .inl h
 ·obtain⟨i,hi,e2⟩:=zb1.mp ht;exact .inr ⟨i,hi,by rw[e2];exact e⟩
theorem AH.first{pr:PG.Prog}(d:AH pr):Cc pr (PG.fS pr.body 0) (pr.cc.map (·.first)):=by
 refine⟨FR (.inr ?_),by simp,fun v hv=>?_⟩
 ·rcases PG.pz pr.body 0 with e |e
  ·exact .inl e
  ·exact .inr e
 ·obtain⟨b,hb,rfl⟩:=zaT.mp hv;have:=d.size b hb;lia
theorem Ce{pr:PG.Prog}(d:AH pr){x:W}(h:x∈pr.cc.map (·.name)):2<=oB pr.cc x/\oB pr.cc x<=10:=by
 obtain⟨hx,_⟩:=Cb h;unfold oB;rw[zah hx];have:=d.size _ (zaS hx);exact⟨this.1,this.2.1⟩
theorem Cc.step{pr:PG.Prog}(d:AH pr){i:Nat}(hi:i<(PG.bN pr.body).length)(hf:i<(PG.cC pr.body 0).length){vals:List Int}{f:Int}(lv:vals.length=pr.cc.length)(sm:∀v∈vals,v.natAbs<=2 ^ 12){x:Int×List Int}{s:Option Int}
 (h:kE pr.cc (PG.bN pr.body)[i] (PG.cC pr.body 0)[i].2.2 vals f=(some x,s)):Cc pr x.1 x.2:=by
 have Ka:=PG.qr pr.body _ d.own (zaS hi);obtain⟨w0,w1⟩:=PG.nj pr.body 0 _ (zaS hf);have X6:=PG.pA pr.body 0 _ (zaS hf);obtain⟨_,_,ew⟩:=wJ pr.body i hi;rw[ew] at w1;generalize (PG.cC pr.body 0)[i].2.2=ws at *;generalize (PG.bN pr.body)[i]=st at *;have r0:∀j,j<ws.length->ws.getD j 0=0\/∃i,∃hi:i<(PG.bN pr.body).length,(PG.bN pr.body)[i].row=ws.getD j 0:=fun j hj=>by
  rw[zaE,zah hj];exact FR (X6 _ (zaS hj))
 have set:∀(b:W) (z:Int),b∈pr.cc.map (·.name)->(AG pr.cc vals b (z%oB pr.cc b)).length=pr.cc.length/\∀v∈AG pr.cc vals b (z%oB pr.cc b),v.natAbs<=2 ^ 12:=fun b z hb=>by
  unfold AG;refine⟨by rw[zbm];exact lv,fun v hv=>?_⟩;rcases zco hv with hv |rfl
  ·exact sm v hv
  ·have:=Ce d hb;have m1:=zbv z (b:=oB pr.cc b) (by lia);have m2:=zbj z (b:=oB pr.cc b) (by lia);lia
 have cs:pB pr.cc st ws vals=some x->(st.wd=.jx\/st.wd=.ifs\/st.wd=.nU)->Cc pr x.1 x.2:=by
  intro e hw;unfold pB at e;split at e
  ·cases e
  ·split at e
   ·cases e;exact⟨r0 0 w0,lv,sm⟩
   ·split at e
    ·cases e
    ·rename_i nm;cases e;exact⟨r0 1 (w1 (hw.resolve_left nm)),lv,sm⟩
 have R7:∀(y:Int×List Int) (s':Option Int),(some y,s')=(some x,s)->Cc pr y.1 y.2->Cc pr x.1 x.2:=fun y s' e h=>by cases e;exact h
 cases st<;>rw[PG.MP] at Ka
 ·exact R7 _ _ h ⟨r0 0 w0,(set _ _ Ka).1,(set _ _ Ka).2⟩
 ·exact R7 _ _ h ⟨r0 0 w0,(set _ _ Ka.1).1,(set _ _ Ka.1).2⟩
 ·exact R7 _ _ h ⟨r0 0 w0,lv,sm⟩
 ·exact cs (congrArg Prod.fst h) (.inl rfl)
 ·exact R7 _ _ h ⟨r0 0 w0,lv,sm⟩
 ·exact cs (congrArg Prod.fst h) (.inr (.inl rfl))
 ·exact cs (congrArg Prod.fst h) (.inr (.inr rfl))
section
variable(K:zac)(CC CW:zc4)
def Kb (H:Hp) (q:zc4) (o:PG.Wi):Prop:=∃(r s e:zc4),eQ K H q [.ref r,.ref s,.ref e]/\H r=some (.lst (o.rows.map V.int))/\H s=some (.lst (o.UP.map V.int))/\r≠s/\eQ K H e (R4 o.fin)
end
theorem jy.ng{K:zac}{H H':Hp}{D a:zc4}{ys:List V}{row:Int}{vals:List Int}(h:jy K H a row vals)(hD:H D=some (.lst ys))(u:bM D H H'):jy K H' a row vals:=by obtain⟨va,h1,h2⟩:=h;exact⟨va,h1.ng hD u,h2.ng hD u⟩
theorem Kb.mono{K:zac}{H H':Hp}{q:zc4}{o:PG.Wi}(h:Kb K H q o)(s:aq H H'):Kb K H' q o:=by obtain⟨r,t,e,h1,h2,h3,h4,h5⟩:=h;exact⟨r,t,e,s.kD h1,s _ _ h2,s _ _ h3,h4,s.kD h5⟩
section
variable{sa sb sc:Int}{a b c g:Int}{l:List Int}
def dH (sa:Nat):List Int:=[6,7]++(zat sa [8,9]).flatten++[8,11]
end
section
variable{prog:zdg}{w:zc6}
def PB (prog:zdg) (w:zc6) (h:Heap) (x:Key×List Key) (a:zc4):Prop:=∃(o:Obj) (n:Nat) (u:zc5) (b:zc4),h.get? a=some o/\o.cls=.type "tuple"/\o.data=.seq #[u,.ref b] n/\vV x.1 u=true/\IsTupleKey (eI prog w) h x.2 b
theorem PB.one{h:Heap}{a:zc4}{x y:Key×List Key}(hx:PB prog w h x a)(hy:PB prog w h y a):x=y:=by
 obtain⟨o,n,u,b,e,_,d,i,t⟩:=hx;obtain⟨o',n',u',b',e',_,d',i',t'⟩:=hy;rw[e] at e';cases e';rw[d] at d'
 injection d' with d1 _
 have d1:=congrArg Array.toList d1;simp only[List.cons.injEq,Value.ref.injEq,and_true] at d1;obtain⟨rfl,rfl⟩:=d1;exact Prod.ext ((eI prog w).inj _ _ _ i i') (t.inj t')
variable{A:zdf}{E:zc5->zde->Prop}{s:zde}
end
structure KH(κ:Type)[DecidableEq κ] where
 knd:∀(P:zdg) (w:zc6),HeapKind P w κ
 on:zac->Hp->κ->zc4->Prop
 up:∀ {K:zac} {H H':Hp} {x:κ} {a:zc4},(∀b ys,eQ K H b ys->eQ K H' b ys)->on K H x a->on K H' x a
 of:∀ {X:Cx} {pins:List (zc4×Obj)} {σ:St} {H:Hp} {s:zde} {x:κ} {a:zc4},Inv X pins σ H s->on X.K H x a->(knd X.prog X.w).is s.heap x a
 room:∀ {P:zdg} {w:zc6} {A:zdf},A.units+16<cLine->(knd P w).room A.in1
section
variable{κ:Type}[DecidableEq κ](J:KH κ)
def NY (P:zdg) (w:zc6) (a:zc4) (xs:List (κ×zc4×zc5)):Heap->Prop:=fun h=>∃o es ep,h.get? a=some o/\o.ExactDict/\o.data=.dict es ep/\es.toList=xs.map (entryOfKey (J.knd P w))
abbrev KS (K:zac) (H:Hp):List (κ×V)->List (κ×zc4×zc5)->Prop:=Paired fun p q=>p.1=q.1/\J.on K H p.1 q.2.1/\RelV p.2 q.2.2
structure DS(P:zdg)(w:zc6)(K:zac)(H:Hp)(a:zc4)(bg:List (κ×V)):Prop where
 len:bg.length<=zdc
 sys:(a==sysModules)=false
 at_:∃xs,H a=some (.ext (NY J P w a xs))/\KS J K H bg xs/\(xs.map (·.1)).Nodup
variable{J}
section
variable{K:zac}{H H':Hp}{bg:List (κ×V)}{xs:List (κ×zc4×zc5)}
theorem KS.val(r:KS J K H bg xs)(k:κ):oX (d4 bg k) ((atKey xs k).map (·.2)):=by
 induction r with
 |nil=>exact True.intro
 |@cons p q ps qs h t ih=>
  by_cases e:p.1=k
  ·rw[dE e,show atKey (q::qs) k=some q.2 by simp[atKey,h.1.symm.trans e]];exact h.2.2
  ·have e':¬q.1=k:=fun z=>e (h.1.trans z);rw[dF e,show atKey (q::qs) k=atKey qs k by simp[atKey,e']];exact ih
theorem KS.put(r:KS J K H bg xs)(k:κ){b:zc4}{y:V}{u:zc5}(hb:J.on K H k b)(ry:RelV y u):KS J K H (putK bg k y) (storedH xs k b u):=by
 have e:(bg.any fun kv=>decide (kv.1=k))=(atKey xs k).isSome:=by rw[pd,(r.val k).zN,Option.isSome_map]
 unfold putK storedH;rw[e];by_cases q:(atKey xs k).isSome=true
 ·rw[if_pos q,if_pos q];clear e q
  induction r with
  |nil=>exact .nil
  |@cons p q ps qs h t ih=>
   refine .cons ?_ ih;dsimp only;unfold putAt;by_cases e:p.1=k
   ·rw[if_pos e];rw[if_pos (h.1.symm.trans e)];exact⟨h.1,h.2.1,ry⟩
   ·rw[if_neg e];rw[if_neg fun z=>e (h.1.trans z)];exact h
 ·rw[if_neg q,if_neg q];exact Paired.snoc r ⟨rfl,hb,ry⟩
theorem KS.up(r:KS J K H bg xs)(t:∀b ys,eQ K H b ys->eQ K H' b ys):KS J K H' bg xs:=Paired.L6 r fun _ _ z=>⟨z.1,J.up t z.2.1,z.2.2⟩
end
section
variable{X:Cx}{pins:List (zc4×Obj)}{σ:St}{H:Hp}{s:zde}{a b:zc4}{v:V}{u r:zc5}{A:zdf}{E:zc5->zde->Prop}{bg:List (κ×V)}{k:κ}
theorem eQ.ext{K:zac}{H:Hp}{a c:zc4}{φ:Heap->Prop}{o:HO}{ys:List V}(h:eQ K H c ys)(e:H a=some (.ext φ)):eQ K (upd H a o) c ys:=by
 rcases h with (q |⟨o',q⟩) |q
 ·exact .inl (.inl (by rw[ao (dU q e (by intro z;cases z))];exact q))
 ·exact .inl (.inr ⟨o',by rw[ao (dU q e (by intro z;cases z))];exact q⟩)
 ·exact .inr q
end
theorem DS.UW{P:zdg}{w:zc6}{K:zac}{H H':Hp}{a:zc4}{bg:List (κ×V)}(d:DS J P w K H a bg)(e:∀o,H a=some o->H' a=some o)(t:∀b ys,eQ K H b ys->eQ K H' b ys):DS J P w K H' a bg:=⟨d.len,d.sys,let ⟨xs,h,r,nd⟩:=d.at_;⟨xs,e _ h,r.up t,nd⟩⟩
theorem DS.mono{P:zdg}{w:zc6}{K:zac}{H H':Hp}{a:zc4}{bg:List (κ×V)}(d:DS J P w K H a bg)(s:aq H H'):DS J P w K H' a bg:=d.UW (fun o h=>s _ _ h) fun b ys q=>s.kD q
section
variable{X:Cx}{o i value:Expr}{pos pos':Pos}{td ty tv:TE}
def Kc (J:KH κ) (P:zdg) (w:zc6):TE:=fun _ H Q=>∀p,H p=none->(p==sysModules)=false->Q (.ref p) (upd H p (.ext (NY J P w p [])))
def Kd (J:KH κ) (P:zdg) (w:zc6) (K:zac) (td ty tv:TE):TS:=fun D σ H=>tv σ H fun v H1=>td σ H1 fun x H2=>ty σ H2 fun y H3=>∃(a b:zc4) (bg:List (κ×V)) (k:κ),x=.ref a/\y=.ref b/\DS J P w K H3 a bg/\J.on K H3 k b/\bg.length<zdc/\
 ∀H4,DS J P w K H4 a (putK bg k v)->(∃φ,H4=upd H3 a (.ext φ))->D.nx σ H4
def Ke (J:KH κ) (P:zdg) (w:zc6) (K:zac) (td ty:TE):TE:=fun σ H Q=>td σ H fun x H1=>ty σ H1 fun y H2=>∃(a b:zc4) (bg:List (κ×V)) (k:κ) (v:V),x=.ref a/\y=.ref b/\DS J P w K H2 a bg/\J.on K H2 k b/\d4 bg k=some v/\Q v H2
end
end
def Kf (h:Heap) (d:zc4) (es:Array DictEntry) (ep:Nat):Prop:=∃o,h.get? d=some o/\o.ExactDict/\o.data=.dict es ep
section
variable{prog:zdg}{w:zc6}{A:zdf}{E:zc5->zde->Prop}{s:zde}{d it:zc4}{es:Array DictEntry}{ep i:Nat}
theorem Kf.UW{h h':Heap}(x:Kf h d es ep)(e:∀o,h.get? d=some o->h'.get? d=some o):Kf h' d es ep:=by obtain⟨o,g,r⟩:=x;exact⟨o,e _ g,r⟩
end
end L2
namespace PG
section
variable{β:Type}(ask:Int->Bool)(step:Int->List Int->Int->Option (Int×List Int)×Option Int)(tg:Int×List Int->List β)
abbrev qt:=Int×List Int
def Bw (x:qt×List Int):Option (qt×List Int):=if x.1.1=0 then none else match take1 (ask x.1.1) x.2 with
 |none=>none
 |some (f,r)=>(step x.1.1 x.1.2 f).1.map fun y=>(y,r)
inductive Met:qt×List Int->β->Prop
 |here {s t}:t∈tg s.1->Met s t
 |on {s s' t}:Bw ask step s=some s'->Met s' t->Met s t
variable{ask step tg}
theorem t4{s:qt}{l:List Int}(h0:s.1≠0)(ha:ask s.1=false):Bw ask step (s,l)=(step s.1 s.2 0).1.map fun y=>(y,l):=by
 unfold Bw;rw[if_neg h0];simp only[take1,ha,za7,if_false]
theorem MZ{s:qt}{f:Int}{l:List Int}(h0:s.1≠0)(ha:ask s.1=true):Bw ask step (s,f::l)=(step s.1 s.2 f).1.map fun y=>(y,l):=by
 unfold Bw;rw[if_neg h0];simp only[take1,ha,if_true]
theorem Kg{s:qt}{l:List Int}(h0:s.1=0):Bw ask step (s,l)=none:=by
 unfold Bw;rw[if_pos h0]
structure MI(ask:Int->Bool)(step:Int->List Int->Int->Option (Int×List Int)×Option Int)(tg:Int×List Int->List β)(s0:qt×List Int)(ms:List β)(seen:List qt)(s:qt×List Int):Prop where
 a:∀t,Met ask step tg s0 t->t∈ms\/Met ask step tg s t
 b:∀t∈ms,Met ask step tg s0 t
 c:∀t,Met ask step tg s t->Met ask step tg s0 t
 d:∀x∈seen,(∀t∈tg x,t∈ms)/\x.1≠0/\ask x.1=false/\∀y,(step x.1 x.2 0).1=some y->y∈seen\/y=s.1
variable{s0 s s':qt×List Int}{ms PC:List β}{seen:List qt}
theorem M0(h:Bw ask step s=none){t:β}(m:Met ask step tg s t):t∈tg s.1:=by
 cases m with
 |here m=>exact m
 |on e _=>rw[h] at e;cases e
theorem MI.fin(h:MI ask step tg s0 ms seen s)(hm:∀t,t∈PC↔t∈ms\/t∈tg s.1)(he:Bw ask step s=none\/s.1∈seen)(t:β):t∈PC↔Met ask step tg s0 t:=by
 rw[hm];refine⟨fun z=>z.elim (h.b t) fun z=>h.c t (.here z),fun z=>?_⟩;rcases h.a t z with z |z
 ·exact .inl z
 rcases he with he |he
 ·exact .inr (M0 he z)
 ·have key:∀s' t,Met ask step tg s' t->s'.1∈seen->t∈ms:=by
   intro s' t m
   induction m with
   |here m=>exact fun q=>(h.d _ q).1 _ m
   |@on a b t e _ ih=>
    intro q;obtain⟨_,h0,ha,hs⟩:=h.d _ q;obtain⟨a1,a2⟩:=a;rw[t4 h0 ha] at e;obtain⟨y,hy,rfl⟩:=zbt.mp e;rcases hs y hy with q2 |rfl
    ·exact ih q2
    ·exact ih he
  exact .inl (key _ _ z he)
theorem MI.next(h:MI ask step tg s0 ms seen s)(hm:∀t,t∈PC↔t∈ms\/t∈tg s.1)(hn:Bw ask step s=some s'\/Bw ask step s=none/\s'=s) :
 (∀t,Met ask step tg s0 t->t∈PC\/Met ask step tg s' t)/\(∀t∈PC,Met ask step tg s0 t)/\∀t,Met ask step tg s' t->Met ask step tg s0 t:=by
 refine⟨fun t m=>?_,fun t m=>?_,fun t m=>?_⟩
 ·rw[hm];rcases h.a t m with z |z
  ·exact .inl (.inl z)
  ·rcases hn with hn |⟨hn,rfl⟩
   ·cases z with
    |here z=>exact .inl (.inr z)
    |on e z=>rw[hn] at e;cases e;exact .inr z
   ·exact .inr z
 ·rcases(hm t).mp m with z |z
  ·exact h.b t z
  ·exact h.c t (.here z)
 ·rcases hn with hn |⟨hn,rfl⟩
  ·exact h.c t (.on hn m)
  ·exact h.c t m
structure Seg(ask:Int->Bool)(step:Int->List Int->Int->Option (Int×List Int)×Option Int)(s:qt)(g:List qt):Prop where
 head:g[0]?=some s
 mid:∀i (h:i+1<g.length),g[i].1≠0/\ask g[i].1=false/\(step g[i].1 g[i].2 0).1=some g[i+1]
 last:∀x,g.getLast?=some x->x.1=0\/ask x.1=true\/(step x.1 x.2 0).1=none\/∃y∈g,(step x.1 x.2 0).1=some y
section
variable{s:qt}{g:List qt}{l:List Int}
theorem Seg.nx(h:Seg ask step s g)(i:Nat)(hi:i+1<g.length):Bw ask step (g[i],l)=some (g[i+1],l):=by
 obtain⟨h0,ha,e⟩:=h.mid i hi;rw[t4 h0 ha,e];rfl
theorem Seg.up(h:Seg ask step s g):∀(i:Nat) (hi:i<g.length) (t:β),Met ask step tg (g[i],l) t->Met ask step tg (s,l) t
 |0,hi,t,m=>by
  have:=h.head;rw[zah hi] at this;cases this;exact m
 |i+1,hi,t,m=>h.up i (by lia) t (.on (h.nx i hi) m)
theorem Seg.met(h:Seg ask step s g){x:qt}(hx:x∈g){t:β}(ht:t∈tg x):Met ask step tg (s,l) t:=by
 obtain⟨i,hi,rfl⟩:=zb1.mp hx;exact h.up i hi t (.here ht)
theorem Seg.vN{x:qt}(hx:g.getLast?=some x):∃hi:g.length-1<g.length,g[g.length-1]=x:=by
 rw[zaZ] at hx;exact zan.mp hx
theorem Seg.all(h:Seg ask step s g){t:β}(m:Met ask step tg (s,l) t):(∃x∈g,t∈tg x)\/∃x s',g.getLast?=some x/\x.1≠0/\ask x.1=true/\Bw ask step (x,l)=some s'/\Met ask step tg s' t:=by
 have key:∀s' t,Met ask step tg s' t->s'.2=l->s'.1∈g->(∃x∈g,t∈tg x)\/∃x s',g.getLast?=some x/\x.1≠0/\ask x.1=true/\Bw ask step (x,l)=some s'/\Met ask step tg s' t:=by
  intro s' t m
  induction m with
  |here m=>exact fun _ q=>.inl ⟨_,q,m⟩
  |@on a b t e mm ih=>
   intro el q;obtain⟨a1,a2⟩:=a;simp only at el q;subst el;obtain⟨i,hi,rfl⟩:=zb1.mp q;by_cases hl:i+1<g.length
   ·rw[h.nx i hl] at e;cases e;exact ih rfl (zaS hl)
   ·have ei:g.length-1=i:=by lia
    have hx:g.getLast?=some g[i]:=by rw[zaZ,ei,zah hi]
    by_cases h0:g[i].1=0
    ·rw[Kg h0] at e;cases e
    cases ha:ask g[i].1 with
    |true=>exact .inr ⟨_,_,hx,h0,ha,e,mm⟩
    |false=>
     rw[t4 h0 ha] at e;rcases h.last _ hx with z |z |z |⟨y,hy,z⟩
     ·exact absurd z h0
     ·rw[ha] at z;cases z
     ·rw[z] at e;cases e
     ·rw[z] at e;cases e;exact ih rfl hy
 refine key _ _ m rfl ?_;exact List.mem_iff_getElem?.mpr ⟨0,h.head⟩
end
structure LI(ask:Int->Bool)(step:Int->List Int->Int->Option (Int×List Int)×Option Int)(tg:Int×List Int->List β)(s0:qt×List Int)(ms:List β)(o:Option qt)(l:List Int):Prop where
 a:∀t,Met ask step tg s0 t->t∈ms\/∃s,o=some s/\Met ask step tg (s,l) t
 b:∀t∈ms,Met ask step tg s0 t
 c:∀s t,o=some s->Met ask step tg (s,l) t->Met ask step tg s0 t
theorem LI.fin{l:List Int}(h:LI ask step tg s0 ms none l)(t:β):t∈ms↔Met ask step tg s0 t:=⟨h.b t,fun z=>(h.a t z).elim (fun z=>z) fun ⟨_,e,_⟩=>by cases e⟩
section
variable{s x y:qt}{g:List qt}{l r:List Int}{f:Int}
theorem LI.on(h:LI ask step tg s0 ms (some s) l)(q:Seg ask step s g)(hm:∀t,t∈PC↔t∈ms\/∃x∈g,t∈tg x)(hx:g.getLast?=some x)(h0:x.1≠0)(ha:ask x.1=true)(hl:l=f::r)(hy:(step x.1 x.2 f).1=some y):LI ask step tg s0 PC (some y) r:=by
 subst hl;have e:Bw ask step (x,f::r)=some (y,r):=by rw[MZ h0 ha,hy];rfl
 refine⟨fun t m=>?_,fun t m=>?_,fun s' t e' m=>?_⟩
 ·rw[hm];rcases h.a t m with z |⟨_,z,m⟩
  ·exact .inl (.inl z)
  ·cases z;rcases q.all m with z |⟨x',s',Wm,_,_,e',m'⟩
   ·exact .inl (.inr z)
   ·rw[hx] at Wm;cases Wm;rw[e] at e';cases e';exact .inr ⟨y,rfl,m'⟩
 ·rcases(hm t).mp m with z |⟨x,hx,ht⟩
  ·exact h.b t z
  ·exact h.c _ t rfl (q.met hx ht)
 ·cases e';obtain⟨hi,e1⟩:=Seg.vN hx;exact h.c _ t rfl (q.up _ hi t (by rw[e1];exact .on e m))
end
structure TI(ask:Int->Bool)(step:Int->List Int->Int->Option (Int×List Int)×Option Int)(s:qt)(g:List qt)(o:Option qt):Prop where
 nil:g=[]->o=some s
 head:g≠[]->g[0]?=some s
 mid:∀i (h:i+1<g.length),g[i].1≠0/\ask g[i].1=false/\(step g[i].1 g[i].2 0).1=some g[i+1]
 last:∀x,g.getLast?=some x->x.1≠0/\ask x.1=false/\(step x.1 x.2 0).1=o
section
variable{s x:qt}{g:List qt}{o:Option qt}
theorem TI.R8(h:TI ask step s g (some x)):(g++[x])[0]?=some s/\∀i (hi:i+1<(g++[x]).length),(g++[x])[i].1≠0/\ask (g++[x])[i].1=false/\(step (g++[x])[i].1 (g++[x])[i].2 0).1=some (g++[x])[i+1]:=by
 refine⟨?_,fun i hi=>?_⟩
 ·cases g with
  |nil=>exact h.nil rfl
  |cons a r=>exact h.head (by simp)
 ·simp only[zaf,zau] at hi;have l1:i<g.length:=by lia
  rw[zbP l1];by_cases hl:i+1<g.length
  ·rw[zbP hl];exact h.mid i hl
  ·have ei:g.length-1=i:=by lia
   have hx:g.getLast?=some g[i]:=by rw[zaZ,ei,zah l1]
   obtain⟨a,b,c⟩:=h.last _ hx;refine⟨a,b,?_⟩;rw[c,zcp (by lia)];simp
theorem TI.push(h:TI ask step s g (some x))(h0:x.1≠0)(ha:ask x.1=false):TI ask step s (g++[x]) (step x.1 x.2 0).1:=
 ⟨fun e=>(by simp at e),fun _=>h.R8.1,h.R8.2,fun y hy=>by simp only[List.getLast?_append,List.getLast?_singleton,Option.some_or,zav.injEq] at hy;subst hy;exact⟨h0,ha,rfl⟩⟩
theorem TI.fin(h:TI ask step s g o)(ho:o=zc3\/∃x∈g,o=some x):Seg ask step s g:=by
 have ne:g≠[]:=fun e=>by
  have:=h.nil e;subst e;rcases ho with rfl |⟨x,hx,_⟩
  ·cases this
  ·cases hx
 refine⟨h.head ne,h.mid,fun y hy=>.inr (.inr ?_)⟩;obtain⟨_,_,c⟩:=h.last y hy;rcases ho with rfl |⟨x,hx,rfl⟩
 ·exact .inl c
 ·exact .inr ⟨x,hx,c⟩
end
end
def rf:List Int->List Int->Prop
 |[],[]=>True
 |s::r,v::t=>(0<=v/\v<s)/\rf r t
 |[],_::_=>False
 |_::_,[]=>False
theorem rf.len:∀ {ss vs:List Int},rf ss vs->vs.length=ss.length
 |[],[],_=>rfl
 |s::r,v::t,h=>by
  rw[rf] at h;simp[h.2.len]
 |[],v::t,h=>by rw[rf] at h;exact h.elim
 |s::r,[],h=>by rw[rf] at h;exact h.elim
theorem rf.set:∀ {ss vs:List Int} (i:Nat) (v:Int),rf ss vs->(∀s,ss[i]?=some s->0<=v/\v<s)->rf ss (vs.set i v)
 |[],[],i,v,h,_=>h
 |s::r,u::t,0,v,h,q=>by
  rw[rf] at h;rw[List.set_cons_zero,rf];exact⟨q s rfl,h.2⟩
 |s::r,u::t,i+1,v,h,q=>by
  rw[rf] at h;rw[List.set_cons_succ,rf];exact⟨h.1,h.2.set i v fun z hz=>q z (by simpa using hz)⟩
 |[],u::t,i,v,h,q=>by rw[rf] at h;exact h.elim
 |s::r,[],i,v,h,q=>by rw[rf] at h;exact h.elim
end PG
namespace L2
open PySem
def FH (K:zac) (x:Str) (st:Stmt) (f:zc4):Prop:=zap K zdb x=some (some (.ref f))/\∃fd,Bv K x x st f fd
theorem FH.of{K:zac}{x:Str}{st:Stmt}{f:zc4}{oc:zc5}{od an:Option zc4}{IX:Array (Option zc5)}{kV doc pm dW ct:zc5}(a:zap K zdb x=some (some (.ref f)))(l:K.lookup f=some ⟨oc,od,.func (zaG x x (cJ st) (cp st) (az st) .none kV doc pm an dW ct),IX⟩)
 (c:za4 K dW x=true) (k:zaQ K (.ref f)=true):FH K x st f:=⟨a,_,o9 l c k⟩
theorem vO{α:Type}{P:List α->Prop}(h:∀a,P [a])(us:List α)(e:us.length=1):P us:=match us,e with |[a],_=>h a
theorem GW{α:Type}{P:List α->Prop}(h:∀a b,P [a,b])(us:List α)(e:us.length=2):P us:=match us,e with |[a,b],_=>h a b
theorem UX{α:Type}{P:List α->Prop}(h:∀a b c,P [a,b,c])(us:List α)(e:us.length=3):P us:=match us,e with |[a,b,c],_=>h a b c
theorem qx{K:zac}{mg:Str->Option zc5}{h:Heap}{x:Str}{st:Stmt}{f:zc4}{ps:List Str}(X:K.In h)(G:h.Ns zdb mg)(q:FH K x st f)
 (b:∀(kV doc pm:zc5) (an:Option zc4) (dW ct:zc5) (us:List zc5),us.length=ps.length->bindArgs (zaG x x (cJ st) (cp st) (az st) .none kV doc pm an dW ct) ⟨us,[]⟩=pure (ps.zip us)):∃fd,cK K mg x st ps f fd:=
 let ⟨a,fd,F⟩:=q
 ⟨fd,F,F.binds b,zaw X G a⟩
theorem Kh{CX:D0}{P:zdg}{w:zc6}{K:zac}{mg:Str->Option zc5}{base:Heap}{N:List Str}{qual:Str}{scope:Scope}{f:zc4}{cd:zc5}{A:zdf}{outer:List Env}{s:zde}{H:Hp}{E:XK}:(jO CX P w K mg base N qual scope f cd A outer s H E).prog=P:=rfl
theorem Ki{CX:D0}{P:zdg}{w:zc6}{K:zac}{mg:Str->Option zc5}{base:Heap}{N:List Str}{qual:Str}{scope:Scope}{f:zc4}{cd:zc5}{A:zdf}{outer:List Env}{s:zde}{H:Hp}{E:XK}:(jO CX P w K mg base N qual scope f cd A outer s H E).w=w:=rfl
section
variable{κ:Type}[DecidableEq κ]{J:KH κ}{P:zdg}{w:zc6}{K:zac}{H H':Hp}{a b p C dx:zc4}{bg:List (κ×V)}{φ:Heap->Prop}{fs:List (Str×V)}{xs:List V}
theorem DS.UY(d:DS J P w K H a bg):∃φ,H a=some (.ext φ):=by obtain⟨xs,h,_⟩:=d.at_;exact⟨_,h⟩
theorem DS.ins(d:DS J P w K H a bg)(hp:H p=some (.ins C dx fs))(u:bM p H H'):DS J P w K H' a bg:=by
 obtain⟨φ,e⟩:=d.UY;exact d.UW (fun o h=>u _ _ (dU e hp (by intro z;cases z)) h) fun b ys q=>q.ins hp u
theorem eQ.PD(h:eQ K H a xs)(hb:H b=some (.ext φ))(u:bM b H H'):eQ K H' a xs:=by
 rcases h with (q |⟨o',q⟩) |q
 ·exact .inl (.inl (u _ _ (dU q hb (by intro z;cases z)) q))
 ·exact .inl (.inr ⟨o',u _ _ (dU q hb (by intro z;cases z)) q⟩)
 ·exact .inr q
theorem jy.ext{row:Int}{vals:List Int}(h:jy K H a row vals)(hb:H b=some (.ext φ))(u:bM b H H'):jy K H' a row vals:=by obtain⟨va,h1,h2⟩:=h;exact⟨va,h1.PD hb u,h2.PD hb u⟩
theorem wK.ext{e:Option PG.kG}{v:V}(h:wK K H e v)(hb:H b=some (.ext φ))(u:bM b H H'):wK K H' e v:=by
 cases e with
 |none=>exact h
 |some x=>obtain⟨a,e,q⟩:=h;exact⟨a,e,q.PD hb u⟩
theorem Ip.ext{CC CW wk ch fl:zc4}{pr:PG.Prog}{oU:List Int}{n:Nat}{row:Int}{vals:List Int}{e:Option PG.kG}(h:Ip K CC CW H wk ch fl pr oU n row vals e)(hb:H b=some (.ext φ))(u:bM b H H')(c:MW K CC H' ch pr)(f:gW K H' fl (oU.map V.int)):Ip K CC CW H' wk ch fl pr oU n row vals e:=by
 obtain⟨dx,sa,ev,h1,h2,h3⟩:=h.at_;exact⟨⟨dx,sa,ev,u _ _ (dU h1 hb (by intro z;cases z)) h1,h2.ext hb u,h3.ext hb u⟩,c,f,h.R5⟩
end
def rg (pr:PG.Prog):List Int:=pr.cc.map (·.size)
structure Cf(pr:PG.Prog)(s:PG.qt):Prop where
 ok:Cc pr s.1 s.2
 inv:PG.rf (rg pr) s.2
theorem rf.first:∀ {bs:List PG.jw},(∀b∈bs,2<=b.size/\b.size<=10/\0<=b.first/\b.first<b.size)->PG.rf (bs.map (·.size)) (bs.map (·.first))
 |[],_=>trivial
 |b::r,h=>by
  simp only[zay,PG.rf];have:=h b (zaD ..);exact⟨⟨by lia,by lia⟩,rf.first fun x hx=>h x (zaq _ hx)⟩
theorem Cf.first{pr:PG.Prog}(d:AH pr):Cf pr (PG.fS pr.body 0,pr.cc.map (·.first)):=⟨d.first,rf.first d.size⟩
theorem rf.AG{pr:PG.Prog}(d:AH pr){vals:List Int}(h:PG.rf (rg pr) vals){b:W}(hb:b∈pr.cc.map (·.name))(z:Int):PG.rf (rg pr) (AG pr.cc vals b (z%oB pr.cc b)):=by
 refine h.set _ _ fun s hs=>?_;obtain⟨hx,_⟩:=Cb hb;have e:oB pr.cc b=s:=by
  unfold oB;rw[rg,zaN,zah hx] at hs;rw[zah hx];exact zav.inj hs
 have:=Ce d hb;rw[e] at this ⊢;exact⟨zbv z (by lia),zbj z (by lia)⟩
theorem rf.step{pr:PG.Prog}(d:AH pr){st:PG.dw}(ok:PG.MP (·∈pr.cc.map (·.name)) (fun e=>PG.B8 pr.cc e/\PG.AF e<=2) (·∈PG.Qz) st){ws vals:List Int}{f:Int}(h:PG.rf (rg pr) vals){x:PG.qt}(e:(kE pr.cc st ws vals f).1=some x):PG.rf (rg pr) x.2:=by
 have cs:pB pr.cc st ws vals=some x->PG.rf (rg pr) x.2:=by
  intro e;unfold pB at e;split at e
  ·cases e
  ·split at e
   ·cases e;exact h
   ·split at e
    ·cases e
    ·cases e;exact h
 cases st<;>rw[PG.MP] at ok
 ·cases e;exact rf.AG d h ok _
 ·cases e;exact rf.AG d h ok.1 _
 ·cases e;exact h
 ·exact cs e
 ·cases e;exact h
 ·exact cs e
 ·exact cs e
theorem Kj{pr:PG.Prog}(ok:Py pr){i:Nat}(hi:i<(PG.bN pr.body).length)(hf:i<(PG.cC pr.body 0).length)(vals:List Int)(f:Int):FQ pr (PG.bN pr.body)[i].row vals f=kE pr.cc (PG.bN pr.body)[i] (PG.cC pr.body 0)[i].2.2 vals f:=by
 unfold FQ;rw[MX ok.pw i hi,MY ok.pw i hi hf]
theorem Cf.next{pr:PG.Prog}(d:AH pr){s x:PG.qt}(h:Cf pr s)(h0:s.1≠0){f:Int}(e:(FQ pr s.1 s.2 f).1=some x):Cf pr x:=by
 obtain⟨row,vals⟩:=s;obtain⟨i,hi,rfl⟩:=h.ok.row.resolve_left h0;obtain⟨hf,_,_⟩:=wJ pr.body i hi;rw[Kj d.ok hi hf] at e;refine⟨?_,rf.step d (PG.qr pr.body _ d.own (zaS hi)) h.inv e⟩;rcases hs:kE pr.cc (PG.bN pr.body)[i] (PG.cC pr.body 0)[i].2.2 vals f with ⟨o,sd⟩
 rw[hs] at e;exact Cc.step d hi hf h.ok.len h.ok.small (by rw[hs];exact congrArg (·,sd) e)
theorem Cf.nx{pr:PG.Prog}(d:AH pr){s s':PG.qt×List Int}(h:Cf pr s.1)(e:PG.Bw (UU pr.body) (FQ pr) s=some s'):Cf pr s'.1:=by
 unfold PG.Bw at e;split at e
 ·cases e
 ·rename_i h0;split at e
  ·cases e
  ·obtain⟨y,hy,rfl⟩:=zbt.mp e;exact h.next d h0 hy
structure wL(K:zac)(H:Hp)(md:zc4)(pr:PG.Prog):Prop where
 at_:∃(B d8 wy fa:zc4) (us:List V) (bg:List (Key×V)),gW K H md [.ref B,.ref d8,.ref wy,.ref fa]/\Rep K H (.lst (pr.cc.map B9)) (.ref B)/\H d8=some (.dK (wI (PG.bN pr.body) us))/\us.length=(PG.bN pr.body).length/\bc K H ((PG.bN pr.body).map Eg) us/\
  H wy=some (.dK bg)/\(∀i (hi:i<(PG.cC pr.body 0).length),∃y,d4 bg (.inl (PG.cC pr.body 0)[i].1)=some (.ref y)/\eQ K H y ((PG.cC pr.body 0)[i].2.2.map V.int))/\jy K H fa (PG.fS pr.body 0) (pr.cc.map (·.first))
theorem wL.mono{K:zac}{H H':Hp}{md:zc4}{pr:PG.Prog}(m:wL K H md pr)(s:aq H H'):wL K H' md pr:=by
 obtain⟨B,d8,wy,fa,us,bg,h1,h2,h3,h4,h5,h6,h7,h8⟩:=m.at_;exact⟨⟨B,d8,wy,fa,us,bg,s.seq h1,h2.mono s,s _ _ h3,h4,h5.mono s,s _ _ h6,fun i hi=>let ⟨y,e,k⟩:=h7 i hi;⟨y,e,s.kD k⟩,h8.mono s⟩⟩
theorem wL.row{K:zac}{H:Hp}{md:zc4}{pr:PG.Prog}(m:wL K H md pr)(ok:Py pr){i:Nat}(hi:i<(PG.bN pr.body).length)(hf:i<(PG.cC pr.body 0).length) :
 ∃(B d8 wy fa ta y:zc4) (us ys:List V) (bg:List (Key×V)),gW K H md [.ref B,.ref d8,.ref wy,.ref fa]/\Rep K H (.lst (pr.cc.map B9)) (.ref B)/\H d8=some (.dK (wI (PG.bN pr.body) us))/\d4 (wI (PG.bN pr.body) us) (.inl (PG.bN pr.body)[i].row)=some (.ref ta)/\Rep K H (Eg (PG.bN pr.body)[i]) (.ref ta)/\eQ K H ta (.str (Im (PG.bN pr.body)[i].wd)::ys)/\
  H wy=some (.dK bg)/\d4 bg (.inl (PG.bN pr.body)[i].row)=some (.ref y)/\eQ K H y ((PG.cC pr.body 0)[i].2.2.map V.int):=by
 obtain⟨B,d8,wy,fa,us,bg,h1,h2,h3,h4,h5,h6,h7,h8⟩:=m.at_;obtain⟨v,hv,rv⟩:=h5.get (i:=i) (d:=Eg (PG.bN pr.body)[i]) (by rw[zaN,zah hi];rfl);have g:=Ca _ _ h4 ok.pw i hi v hv;obtain⟨ta,ys,rfl,X7⟩:=GU _ rv;obtain⟨y,e,k⟩:=h7 i hf;obtain⟨_,e1,_⟩:=wJ pr.body i hi;rw[e1] at e;exact⟨B,d8,wy,fa,ta,y,us,_,bg,h1,h2,h3,g,rv,X7,h6,e,k⟩
section
variable(P:zdg)(w:zc6)(K:zac)(CC:zc4)
def Kk (H:Hp) (l:zc4) (us:List V) (ts:List PG.Tg):Prop:=H l=some (.lst us)/\bc K H (ts.map RW) us
def Kl (H:Hp) (g:List PG.qt) (us:List V):Prop:=Paired (fun (s:PG.qt) v=>∃a,v=.ref a/\jy K H a s.1 s.2) g us
end
theorem Kl.mono{K:zac}{H H':Hp}{g:List PG.qt}{us:List V}(h:Kl K H g us)(s:aq H H'):Kl K H' g us:=Paired.L6 h fun _ _ ⟨a,e,q⟩=>⟨a,e,q.mono s⟩
theorem Kk.mono{K:zac}{H H':Hp}{l:zc4}{us:List V}{ts:List PG.Tg}(h:Kk K H l us ts)(s:aq H H'):Kk K H' l us ts:=⟨s _ _ h.1,h.2.mono s⟩
open PyProof.Rows PySem.Spec
def GX (a:zc4) (o:Obj):HO:=.ext fun h=>h.get? a=some o
section
variable{P:zdg}{w:zc6}{H:Hp}{h:Heap}{a:zc4}{o:Obj}
theorem GX.get(x:rW P w H h)(e:H a=some (GX a o)):h.get? a=some o:=(x a _ e).1
theorem GX.ok{H':Hp}(e:h.get? a=some o):dB P w H' h a (GX a o):=⟨e,⟨o,e⟩,fun _ _ p k=>k _ p⟩
end
def PF (H:Hp) (P:zc4) (ps:Array zc5) (c':zc4) (oc:Obj) (fo:zc4) (ob:Obj):Hp:=upd (upd (upd H P (.L5 ps)) c' (GX c' oc)) fo (GX fo ob)
section
variable{H:Hp}{P:zc4}{ps:Array zc5}{c':zc4}{oc:Obj}{fo:zc4}{ob:Obj}
theorem PF.keep(hF:H fo=none)(hc:H c'=some (GX c' oc)\/H c'=none){b:zc4}{o:HO}(n:b≠P)(e:H b=some o):PF H P ps c' oc fo ob b=some o:=by
 unfold PF;rw[ao (aD e hF)];by_cases z:b=c'
 ·subst z;rcases hc with q |q
  ·rw[ae,<- q,e]
  ·rw[q] at e;cases e
 ·rw[ao z,ao n,e]
end
def R9 (te:TE):TE:=fun σ H Q=>∃c xs,H c=some (.lst xs)/\∀o,te σ (upd H c (GX c o)) fun v H'=>H' c=some (GX c o)/\Q v (upd H' c (.lst xs))
theorem PH{X:Cx}{e:Expr}{te:TE}(he:PE X e te):PE X e (R9 te):=by
 intro pins s σ H Q I h;obtain⟨c,xs,hc,q⟩:=h;obtain⟨hl,bj,n,hv,hg⟩:=(show dB X.prog X.w H s.heap c (.lst xs) from I.dq c _ hc)
 have I2:Inv X pins σ (upd H c (GX c {cls:=.type "list",data:=.seq bj.toArray n})) s:=Fs (h':=s.heap) (t':=s.toks) I (by rw[hc];exact True.intro) ⟨rfl,fun _ _=>rfl⟩ ⟨_,hg⟩ (GX.ok hg);refine d7 (he pins s σ _ _ I2 (q _)) fun v s1 zqz=>?_;obtain⟨x,H1,I1,r1,hx,q1⟩:=zqz;obtain⟨Wn, -⟩:=(show dB X.prog X.w H1 s1.heap c (GX c {cls:=.type "list",data:=.seq bj.toArray n}) from I1.dq c _ hx)
 exact⟨x,_,Fs (h':=s1.heap) (t':=s1.toks) I1 (by rw[hx];exact True.intro) ⟨rfl,fun _ _=>rfl⟩ ⟨_,Wn⟩ (show dB X.prog X.w _ _ _ (.lst xs) from ⟨hl,bj,n,hv,Wn⟩),r1,q1⟩
end L2
namespace PG
open PM (W Tr)
abbrev Rg:=Int×Int
end PG
namespace L2
open PySem
def rh (K:zac) (H:Hp) (v:V) (r:PG.Rg):Prop:=∃a,v=.ref a/\eQ K H a [.int r.1,.int r.2]
theorem rh.mono{K:zac}{H H':Hp}{v:V}{r:PG.Rg}(h:rh K H v r)(s:aq H H'):rh K H' v r:=by obtain⟨a,e,q⟩:=h;exact⟨a,e,s.kD q⟩
theorem rh.new{K:zac}{H H':Hp}{p:zc4}{r:PG.Rg}(e:upd H p (.tup [.int r.1,.int r.2])=H'):rh K H' (.ref p) r:=⟨p,rfl,.of (e▸ae)⟩
def UZ (k:Nat) (r:PG.Rg):Prop:=r.1.natAbs<=k/\r.2.natAbs<=k
def Km (K:zac) (H:Hp) (bg:List (Key×V)) (f:W->PG.Rg):PM.Tr->Prop
 |.num n=>n.natAbs<=2 ^ 12
 |.box x=>(∃v,d4 bg (.inr (S x))=some v/\rh K H v (f x))/\UZ (2 ^ 12) (f x)
 |.bin o l r=>(o=[43]\/o=[45]\/o=[42])/\Km K H bg f l/\Km K H bg f r
theorem Km.mono{K:zac}{H H':Hp}{bg:List (Key×V)}{f:W->PG.Rg}(s:aq H H'):∀ {t:PM.Tr},Km K H bg f t->Km K H' bg f t
 |.num n,h=>h
 |.box x,h=>let ⟨⟨v,e,r⟩,b⟩:=h;⟨⟨v,e,r.mono s⟩,b⟩
 |.bin o l r,h=>⟨h.1,Km.mono s h.2.1,Km.mono s h.2.2⟩
def Tj (f:W->PG.Rg):PM.Tr->Prop
 |.num n=>n.natAbs<=2 ^ 12
 |.box x=>UZ (2 ^ 12) (f x)
 |.bin _ l r=>Tj f l/\Tj f r
theorem Km.u{K:zac}{H:Hp}{bg:List (Key×V)}{f:W->PG.Rg}:∀ {t:PM.Tr},Km K H bg f t->Tj f t
 |.num n,h=>h
 |.box x,h=>h.2
 |.bin o l r,h=>⟨Km.u h.2.1,Km.u h.2.2⟩
end L2
namespace L3
open PySem PyProof.Rows
abbrev tA (h:Heap) (l:zc4):Heap:=h.push {cls:=.type "tuple_iterator",data:=.fields #[.ref l,.int 0 0]}
abbrev tB (h:Heap) (l tp:zc4):Heap:=(tA h l).push {cls:=.type "tuple_iterator",data:=.fields #[.ref tp,.int 0 0]}
abbrev tC (h:Heap) (l tp:zc4):Heap:=(tB h l tp).push {cls:=.type "tuple",data:=.seq #[.ref h.objs.size,.ref (tA h l).objs.size]}
end L3
namespace PG
open PM (W Tr)
def yG (bs:List jw) (x:W):Nat:=bs.findIdx fun b=>decide (b.name=x)
def yH (bs:List jw) (rs:List Rg) (x:W):Rg:=rs.getD (yG bs x) (0,0)
def wM (bs:List jw) (rs:List Rg) (x:W) (r:Rg):List Rg:=rs.set (yG bs x) r
theorem wN{bs:List jw}(nb:(bs.map (·.name)).Nodup){i:Nat}(hi:i<bs.length):yG bs bs[i].name=i:=by
 unfold yG;rw[List.findIdx_eq (by simpa using hi)];refine⟨by simp,fun j hj=>?_⟩;have h:=zcn.mp nb j i (by simp;lia) (by simp;lia) hj;exact decide_eq_false (by simpa using h)
end PG
namespace L2
open PySem
def NZ (K:zac) (H:Hp) (bs:List PG.jw) (bg:List (Key×V)) (rs:List PG.Rg):Prop:=rs.length=bs.length/\∀i (hi:i<bs.length),∃v,d4 bg (.inr (S bs[i].name))=some v/\∃r,rs[i]?=some r/\rh K H v r
theorem NZ.mono{K:zac}{H H':Hp}{bs:List PG.jw}{bg:List (Key×V)}{rs:List PG.Rg}(h:NZ K H bs bg rs)(s:aq H H'):NZ K H' bs bg rs:=
 ⟨h.1,fun i hi=>let ⟨v,e,r,er,q⟩:=h.2 i hi;⟨v,e,r,er,q.mono s⟩⟩
def QA (bs:List PG.jw) (rs:List PG.Rg):PM.Tr->Prop
 |.num n=>n.natAbs<=2 ^ 12
 |.box x=>x∈bs.map (·.name)/\UZ (2 ^ 12) (PG.yH bs rs x)
 |.bin o l r=>(o=[43]\/o=[45]\/o=[42])/\QA bs rs l/\QA bs rs r
theorem NZ.at_{K:zac}{H:Hp}{bs:List PG.jw}{bg:List (Key×V)}{rs:List PG.Rg}(h:NZ K H bs bg rs)(nb:(bs.map (·.name)).Nodup){x:W}(hx:x∈bs.map (·.name)):∃v,d4 bg (.inr (S x))=some v/\rh K H v (PG.yH bs rs x):=by
 obtain⟨b,hb,rfl⟩:=zaT.mp hx;obtain⟨i,hi,rfl⟩:=zb9 hb;obtain⟨v,e,r,er,q⟩:=h.2 i hi;refine⟨v,e,?_⟩;unfold PG.yH;rw[PG.wN nb hi,zaE,er];exact q
theorem NZ.put{K:zac}{H:Hp}{bs:List PG.jw}{bg:List (Key×V)}{rs:List PG.Rg}(h:NZ K H bs bg rs)(nb:(bs.map (·.name)).Nodup){x:W}(hx:x∈bs.map (·.name)){v:V}{r:PG.Rg}(hv:rh K H v r):NZ K H bs (putK bg (.inr (S x)) v) (PG.wM bs rs x r):=by
 obtain⟨b,hb,rfl⟩:=zaT.mp hx;obtain⟨j,hj,rfl⟩:=zb9 hb;unfold PG.wM;rw[PG.wN nb hj];refine⟨by rw[zbm];exact h.1,fun i hi=>?_⟩;by_cases e:i=j
 ·subst e;exact⟨v,by rw[BR,if_pos rfl],r,by rw[zbg (by rw[h.1];exact hi)],hv⟩
 ·obtain⟨u,e1,r1,er,q⟩:=h.2 i hi;refine⟨u,?_,r1,by rw[zbl (Ne.symm e)];exact er,q⟩;rw[BR,if_neg fun z=>e ?_]
  ·exact e1
  ·have z:=B2.mp (Sum.inr.inj z);have l:i<(bs.map (·.name)).length:=by simpa using hi
   have:=PG.wN nb hi;rw[<- PG.wN nb hi,<- PG.wN nb hj,z]
def Ej (K:zac) (H:Hp) (us:List V) (rs:List PG.Rg):Prop:=us.length=rs.length/\∀i (hi:i<us.length),∃r,rs[i]?=some r/\rh K H us[i] r
theorem Ej.mono{K:zac}{H H':Hp}{us:List V}{rs:List PG.Rg}(h:Ej K H us rs)(s:aq H H'):Ej K H' us rs:=⟨h.1,fun i hi=>let ⟨r,e,q⟩:=h.2 i hi;⟨r,e,q.mono s⟩⟩
def wO (K:zac) (H:Hp) (v:V) (rs:List PG.Rg):Prop:=∃a us,v=.ref a/\eQ K H a us/\Ej K H us rs
theorem wO.mono{K:zac}{H H':Hp}{v:V}{rs:List PG.Rg}(h:wO K H v rs)(s:aq H H'):wO K H' v rs:=by obtain⟨a,us,e,q,r⟩:=h;exact⟨a,us,e,s.kD q,r.mono s⟩
def Kn (K:zac) (H:Hp) (v:V):Option (List PG.Rg)->Prop
 |none=>v=.da
 |some rs=>wO K H v rs
theorem Kn.mono{K:zac}{H H':Hp}{v:V}:∀ {o:Option (List PG.Rg)},Kn K H v o->aq H H'->Kn K H' v o
 |none,h,_=>h
 |some _,h,s=>wO.mono h s
theorem rh.ng{K:zac}{H H':Hp}{D:zc4}{v:V}{r:PG.Rg}{ys:List V}(h:rh K H v r)(hD:H D=some (.lst ys))(u:bM D H H'):rh K H' v r:=by obtain⟨a,e,q⟩:=h;exact⟨a,e,q.ng hD u⟩
theorem wO.ng{K:zac}{H H':Hp}{D:zc4}{v:V}{rs:List PG.Rg}{ys:List V}(h:wO K H v rs)(hD:H D=some (.lst ys))(u:bM D H H'):wO K H' v rs:=
 let ⟨a,us,e,q,l,r⟩:=h;⟨a,us,e,q.ng hD u,l,fun i hi=>let ⟨r1,e1,q1⟩:=r i hi;⟨r1,e1,q1.ng hD u⟩⟩
def yI (K:zac) (H:Hp) (v:V) (w:Int×List PG.Rg):Prop:=∃a u,v=.ref a/\eQ K H a [.int w.1,u]/\wO K H u w.2
theorem yI.mono{K:zac}{H H':Hp}{v:V}{w:Int×List PG.Rg}(h:yI K H v w)(s:aq H H'):yI K H' v w:=by obtain⟨a,u,e,q,r⟩:=h;exact⟨a,u,e,s.kD q,r.mono s⟩
theorem yI.ng{K:zac}{H H':Hp}{D:zc4}{v:V}{w:Int×List PG.Rg}{ys:List V}(h:yI K H v w)(hD:H D=some (.lst ys))(u:bM D H H'):yI K H' v w:=by obtain⟨a,x,e,q,r⟩:=h;exact⟨a,x,e,q.ng hD u,r.ng hD u⟩
inductive wQ(K:zac)(H:Hp):List V->List (Int×List PG.Rg)->Prop
 |nil:wQ K H [] []
 |cons {v w us ws}:yI K H v w->wQ K H us ws->wQ K H (v::us) (w::ws)
theorem wQ.map{K:zac}{H H':Hp}{us:List V}{ws:List (Int×List PG.Rg)}(h:wQ K H us ws)(f:∀v w,yI K H v w->yI K H' v w):wQ K H' us ws:=by
 induction h with
 |nil=>exact .nil
 |cons a _ ih=>exact .cons (f _ _ a) ih
theorem wQ.snoc{K:zac}{H:Hp}{us:List V}{ws:List (Int×List PG.Rg)}{v:V}{w:Int×List PG.Rg}(h:wQ K H us ws)(q:yI K H v w):wQ K H (us++[v]) (ws++[w]):=by
 induction h with
 |nil=>exact .cons q .nil
 |cons a _ ih=>exact .cons a ih
theorem wQ.len{K:zac}{H:Hp}{us:List V}{ws:List (Int×List PG.Rg)}(h:wQ K H us ws):us.length=ws.length:=by
 induction h with
 |nil=>rfl
 |cons a _ ih=>simp[ih]
def N0 (H:Hp) (s:zc4):Prop:=∃n m:Int,H s=some (.lst [.int n,.int m])
theorem N0.same{H H':Hp}{s:zc4}(h:N0 H s)(e:aq H H'):N0 H' s:=by obtain⟨n,m,q⟩:=h;exact⟨n,m,e _ _ q⟩
def PJ (bs:List PG.jw):PM.Tr->Prop
 |.num n=>0<=n/\n<1000
 |.box x=>x∈bs.map (·.name)
 |.bin o l r=>(o=[43]\/o=[45]\/o=[42])/\PJ bs l/\PJ bs r
def Sa (K:zac) (s:zc4) (H:Hp) (B:zc4) (bs:List PG.jw):Prop:=B≠s/\bs.length<=10/\∃xs,H B=some (.lst xs)/\fK K (·=s) H (bs.map B9) xs
theorem Sa.cc{K:zac}{s B:zc4}{H:Hp}{bs:List PG.jw}(h:Sa K s H B bs):uP K (·=s) H B bs:=by obtain⟨n,l,xs,e,f⟩:=h;exact⟨Fix.lst e n f,l⟩
theorem Sa.up{K:zac}{s B:zc4}{H H1:Hp}{bs:List PG.jw}(h:Sa K s H B bs)(u:bM s H H1):Sa K s H1 B bs:=by obtain⟨n,l,xs,e,f⟩:=h;exact⟨n,l,xs,u _ _ n e,f.up (bD.one u rfl)⟩
section
variable(K:zac)(C:zc4)
def GY:PM.Tr->List PM.Tr
 |.bin o l r=>.bin o l r::(GY l++GY r)
 |t=>[t]
end
open PyProof.Rows
theorem N0.ne{H:Hp}{s p:zc4}(h:N0 H s)(hp:H p=none):p≠s:=by
 obtain⟨n,m,e⟩:=h;exact(aD e hp).symm
theorem N0.new{H:Hp}{s p:zc4}(h:N0 H s)(hp:H p=none)(o:HO):N0 (upd H p o) s:=h.same (aq.new hp o)
theorem QA.u{bs:List PG.jw}{rs:List PG.Rg}:∀ {t:PM.Tr},QA bs rs t->Tj (PG.yH bs rs) t
 |.num n,h=>h
 |.box x,h=>h.2
 |.bin o l r,h=>⟨QA.u h.2.1,QA.u h.2.2⟩
theorem wO.get{K:zac}{H:Hp}{bs:List PG.jw}{rs:List PG.Rg}{rv:V}(h:wO K H rv rs)(ll:rs.length=bs.length){x:W}(hx:x∈bs.map (·.name)){Q:VK}(q:∀u,rh K H u (PG.yH bs rs x)->Q u H):Mo K rv (.int (PG.yG bs x)) H Q:=by
 obtain⟨a,us,rfl,hS,l,g⟩:=h;have lt:PG.yG bs x<bs.length:=by
  unfold PG.yG;rw[List.findIdx_lt_length];obtain⟨b,hb,e⟩:=zaT.mp hx;exact⟨b,hb,by simp[e]⟩
 obtain⟨r,er,hr⟩:=g (PG.yG bs x) (by lia);refine cA hS (v:=us[PG.yG bs x]) (aF (zah (by lia))) (q _ ?_);unfold PG.yH;rw[zaE,er];exact hr
theorem Ko(xs:List V)(j:Nat):vc xs (some (j:Int)) none=xs.drop j:=by
 unfold vc;rw[HT.BL,HT.Ml];by_cases h:j<=xs.length
 ·rw[Nat.min_eq_left h,zbs (by rw[zaV];lia)]
 ·rw[Nat.min_eq_right (by lia),zcH (by lia),zcH (by lia),List.take_nil]
structure wR(H:Hp)(ps:List zc4)(rs:List PG.Rg):Prop where
 l:ps.length=rs.length
 nd:ps.Nodup
 at_:∀j (hj:j<ps.length),∃r,rs[j]?=some r/\H ps[j]=some (.lst [.int r.1,.int r.2])
theorem wR.up{H H':Hp}{ps:List zc4}{rs:List PG.Rg}(h:wR H ps rs)(u:∀p o,p∈ps->H p=some o->H' p=some o):wR H' ps rs:=
 ⟨h.l,h.nd,fun j hj=>let ⟨r,e,q⟩:=h.at_ j hj;⟨r,e,u _ _ (zaS hj) q⟩⟩
theorem wR.put{H H':Hp}{ps:List zc4}{rs:List PG.Rg}(h:wR H ps rs){j:Nat}(hj:j<ps.length){r:PG.Rg}(u:bM ps[j] H H')(e:H' ps[j]=some (.lst [.int r.1,.int r.2])):wR H' ps (rs.set j r):=by
 refine⟨by rw[zbm];exact h.l,h.nd,fun i hi=>?_⟩;have lj:j<rs.length:=by rw[<- h.l];exact hj
 by_cases z:i=j
 ·subst z;exact⟨r,by rw[zbg lj],e⟩
 ·obtain⟨r1,e1,q1⟩:=h.at_ i hi;refine⟨r1,by rw[zbl (Ne.symm z)];exact e1,u _ _ (fun y=>z ?_) q1⟩;exact(List.getElem_inj h.nd).mp y
theorem wR.snoc{H:Hp}{ps:List zc4}{rs:List PG.Rg}(h:wR H ps rs){p:zc4}{r:PG.Rg}(np:p ∉ ps)(e:H p=some (.lst [.int r.1,.int r.2])):wR H (ps++[p]) (rs++[r]):=by
 refine⟨by simp[h.l],List.nodup_append.mpr ⟨h.nd,by simp,fun a ha b hb=>?_⟩,fun i hi=>?_⟩
 ·rw[zal.mp hb];exact fun z=>np (z▸ha)
 ·by_cases z:i<ps.length
  ·obtain⟨r1,e1,q1⟩:=h.at_ i z;exact⟨r1,by rw[zbk (by rw[<- h.l];exact z)];exact e1,by rw[zbP z];exact q1⟩
  ·have:i=ps.length:=by simp at hi;lia
   subst this;exact⟨r,by rw[za3 (by rw[h.l];exact zai _),h.l];simp,by rw[zcp (zai _)];simp only[zb2,List.getElem_singleton];exact e⟩
theorem Ej.put{K:zac}{H:Hp}{us:List V}{rs:List PG.Rg}(h:Ej K H us rs){j:Nat}{v:V}{r:PG.Rg}(g:rh K H v r):Ej K H (us.set j v) (rs.set j r):=by
 refine⟨by rw[zbm,zbm];exact h.1,fun i hi=>?_⟩;rw[zbm] at hi;by_cases z:j=i
 ·subst z;exact⟨r,by rw[zbg (by rw[<- h.1];exact hi)],by rw[List.getElem_set_self];exact g⟩
 ·obtain⟨r1,e1,q1⟩:=h.2 i hi;exact⟨r1,by rw[zbl z];exact e1,by rw[List.getElem_set_ne z];exact q1⟩
theorem wR.nil{H:Hp}:wR H [] []:=⟨rfl,List.nodup_nil,fun j hj=>by simp at hj⟩
theorem PJ.sub{bs:List PG.jw}:∀ {t:PM.Tr},PJ bs t->∀x∈GY t,PJ bs x/\PG.AF x<=PG.AF t/\∀o l r,x=.bin o l r->S o≠"box"/\S o≠"number"
 |.num n,h,x,hx=>by
  rw[GY,zal] at hx
  ·subst hx;exact⟨h,zai _,fun o l r e=>by cases e⟩
  ·intro o l r z;cases z
 |.box n,h,x,hx=>by
  rw[GY,zal] at hx
  ·subst hx;exact⟨h,zai _,fun o l r e=>by cases e⟩
  ·intro o l r z;cases z
 |.bin o l r,h,x,hx=>by
  rw[GY,zak,zaz] at hx;rcases hx with rfl |hx |hx
  ·refine⟨h,zai _,fun o' l' r' e=>?_⟩;cases e;rcases h.1 with rfl |rfl |rfl<;>exact⟨by decide +kernel,by decide +kernel⟩
  ·obtain⟨a,b,c⟩:=PJ.sub h.2.1 x hx;exact⟨a,by rw[PG.AF];lia,c⟩
  ·obtain⟨a,b,c⟩:=PJ.sub h.2.2 x hx;exact⟨a,by rw[PG.AF];lia,c⟩
end L2
namespace PG
open PM (W Tr)
inductive vh where
 |nU (k:Int) (sg:W) (l r:Tr)
 |if1 (k:Int) (sg:W) (l r:Tr)
 |if2 (k:Int) (sg:W) (l r:Tr) (a:List dw)
def vh.fill:vh->List dw->dw
 |.nU k sg l r,b=>.nU k sg l r b
 |.if1 k sg l r,b=>.ifs k sg l r b []
 |.if2 k sg l r a,b=>.ifs k sg l r a b
def mD:List (List dw×vh)->List dw->List dw
 |[],b=>b
 |(s,h)::o,b=>mD o (s++[h.fill b])
def dH (b:List dw):List Int:=(bN b).map (·.row)
theorem wU:∀a b:List dw,bN (a++b)=bN a++bN b
 |[],b=>by simp[bN]
 |s::r,b=>by
  show bN (s::(r++b))=_;rw[bN,bN,wU r b,zbE]
theorem nt(a b:List dw):dH (a++b)=dH a++dH b:=by unfold dH;rw[wU,zar]
theorem GZ(h:vh)(a b:List dw):dH [h.fill (a++b)]=dH [h.fill a]++dH b:=by
 cases h<;>simp[vh.fill,dH,bN,mC,wU,dw.row]
theorem Ek:∀(o:List (List dw×vh)) (a b:List dw),dH (mD o (a++b))=dH (mD o a)++dH b
 |[],a,b=>nt a b
 |(s,h)::o,a,b=>by
  rw[mD,mD];have gen:∀(o:List (List dw×vh)) (x y:List dw) (c:List Int),dH x=dH y++c->dH (mD o x)=dH (mD o y)++c:=by
   intro o
   induction o with
   |nil=>exact fun x y c h=>h
   |cons q o ih=>
    intro x y c e;obtain⟨s,h⟩:=q;rw[mD,mD];refine ih _ _ _ ?_;rw[nt,nt,zbE]
    congr 1
    cases h<;>simp only[vh.fill,dH,bN,mC,zaP,zay,zar]<;>(unfold dH at e;rw[e];simp[dw.row])
  refine gen o _ _ _ ?_;rw[nt,nt,zbE,GZ]
theorem Cg:∀ {l:List Int} {a b:Int},l.Pairwise (· < ·)->(∀x∈l,a<x/\x<=b)->(l.length:Int)<=max 0 (b-a)
 |[],a,b,_,_=>by simp;lia
 |x::r,a,b,p,h=>by
  rw[List.pairwise_cons] at p;have h1:=h x (zaD ..);have:=Cg (a:=x) (b:=b) p.2 fun y hy=>⟨p.1 y hy,(h y (zaq _ hy)).2⟩
  rw[zag];lia
structure Tn(nm:W->Prop)(ex:Tr->Prop)(sg:W->Prop)(r0 row:Int)(body:List dw):Prop where
 ok:NU nm ex sg body
 rise:(dH body).Pairwise (· < ·)
 rows:∀x∈dH body,r0<x/\x<=row
 dep:Ef body<=4
 le:r0<=row
theorem Tn.nil{nm:W->Prop}{ex:Tr->Prop}{sg:W->Prop}{r0:Int}:Tn nm ex sg r0 r0 []:=⟨trivial,by simp[dH,bN],by simp[dH,bN],by simp[Ef],Int.le_refl _⟩
theorem El{st:dw}(h:∀k s l r a b,st≠.ifs k s l r a b)(h2:∀k s l r a,st≠.nU k s l r a):dH [st]=[st.row]/\MO st=0:=by
 cases st with
 |ifs k s l r a b=>exact absurd rfl (h _ _ _ _ _ _)
 |nU k s l r a=>exact absurd rfl (h2 _ _ _ _ _)
 |_=>exact⟨by simp[dH,bN,mC],by simp[MO]⟩
end PG
namespace L2
open PySem PySem.Spec PyProof.Rows
def QB (P:zdg) (w:zc6) (K:zac) (a:zc4) (bg:List (Key×V)):Prop:=∀h:Heap,K.In h->bg.length<=zdc/\(a==sysModules)=false/\∃vs,KV bg vs/\h.DictOf (eI P w) a vs
def Sb (P:zdg) (w:zc6) (K:zac) (x y:V) (o:Option V):Prop:=∃a bg k,x=.ref a/\QB P w K a bg/\y=kV k/\o=d4 bg k
def Kp (P:zdg) (w:zc6) (K:zac) (td ty:TE):TE:=fun σ H Q=>td σ H fun x H1=>ty σ H1 fun y H2=>∃v,Sb P w K x y (some v)/\Q v H2
def AI (P:zdg) (w:zc6) (K:zac) (td ty tx:TE):TE:=fun σ H Q=>td σ H fun x H1=>∃a bg,x=.ref a/\QB P w K a bg/\ty σ H1 fun y H2=>tx σ H2 fun z H3=>∃k,y=kV k/\Q ((d4 bg k).getD z) H3
section
variable{X:Cx}{o i e f:Expr}{pos apos iy:Pos}{td ty tx:TE}
theorem G0(ho:PE X o td)(he:PE X e ty)(hf:PE X f tx)(m:M2 X o "get" apos e f iy):PE X (.Call (.Attribute o "get" apos) [e,f] [] iy) (AI X.prog X.w X.K td ty tx):=by
 intro pins s σ H Q I h;refine wpAny_Call_method m.base m.LV m.line PySem.F.plainAttrs_dict zcQ PySem.F.type_dict_get (d7 (ho pins s σ H _ I h) fun u s1 zqz=>?_);obtain⟨x,H1,I1,rx,a,bg,ex,dc,q1⟩:=zqz;subst ex;obtain rfl:u=Value.ref a:=rx;obtain⟨_,_,vs,_,dd⟩:=dc _ I1.yz;have S4:=dd;obtain⟨ob,es,ep,g1,g2,_⟩:=S4;refine⟨dd.typeIs,fun b q=>by cases q;exact⟨ob,g1,g2.2.1⟩,?_⟩;rw[m.trees];refine Calls.callWith_builtin rfl (Calls.evalArgs_plain (Calls.spliced_cons (d7 (he pins s1 σ H1 _ I1 q1) fun iv s2 ⟨y,H2,I2,ry,q2⟩=>Calls.spliced_cons (d7 (hf pins s2 σ H2 _ I2 q2) fun fv s3 ⟨z,H3,I3,rz,k,ey,q3⟩=>Calls.spliced_nil ?_))));subst ey;obtain⟨_,hd,vs,rel,dd⟩:=dc _ I3.yz;refine call_meetsIn zcQ dd.typeIs PySem.F.entry_dict_get (PySem.F.args_dict_get_3 _ _ _) (meets_dict_get_default (eI X.prog X.w) a (Jh ry) hd fv) ⟨_,dd.mapOf,_,H3,I3.tok _,?_,q3⟩;exact(rel.val k).getD rz
end
inductive PK(P:zdg)(w:zc6):List (Key×V)->List DictEntry->Prop
 |nil:PK P w [] []
 |cons {k v e bg es}:e.hash=(eI P w).hash k->RelV (kV k) e.key->RelV v e.val->PK P w bg es->PK P w ((k,v)::bg) (e::es)
theorem PK.of{P:zdg}{w:zc6}{bg:List (Key×V)}{es:List DictEntry}(h:PK P w bg es):∃vs,KV bg vs/\Pairs (eI P w) es vs/\∀e∈es,∃k,(eI P w).is k e.key=true/\e.hash=(eI P w).hash k:=by
 induction h with
 |nil=>exact⟨[],.nil,.nil,fun e he=>by cases he⟩
 |@cons k v e bg es a b c _ ih=>
  obtain⟨vs,h1,h2,h3⟩:=ih;refine⟨(k,e.val)::vs,.cons ⟨rfl,c⟩ h1,(.cons (Jh b) rfl h2),fun x hx=>?_⟩;rcases zak.mp hx with rfl |hx
  ·exact⟨k,Jh b,a⟩
  ·exact h3 x hx
theorem QB.mk{P:zdg}{w:zc6}{K:zac}{a:zc4}{bg:List (Key×V)}{es:Array DictEntry}{ep:Nat}(l:K.lookup a=some ⟨.type "dict",none,.dict es ep, #[]⟩)(ha:(a==sysModules)=false)(hd:PK P w bg es.toList)(nd:(bg.map (·.1)).Nodup)(len:bg.length<=zdc):QB P w K a bg:=fun h hK=>by
 obtain⟨vs,h1,h2,h3⟩:=hd.of;refine⟨len,ha,vs,h1,_,es,ep,hK _ _ l,⟨rfl,rfl,rfl⟩,rfl,fun e he=>h3 e (by simpa using he),h2,?_⟩;have ek:∀ {l:List (Key×V)} {m:List (Key×zc5)},KV l m->l.map (·.1)=m.map (·.1):=by
  intro l m r;unfold KV at r
  induction r with
  |nil=>rfl
  |cons a _ ih=>rw[zay,zay,ih,a.1]
 rw[<- ek h1];exact nd
open PG
open PM (W Tr)
def In (r:Rg) (v:Int):Prop:=r.1<=v/\v<=r.2
def Sd (rs:List Rg) (vals:List Int):Prop:=vals.length=rs.length/\∀(i:Nat) (v:Int) (r:Rg),vals[i]?=some v->rs[i]?=some r->In r v
theorem zX{bs:List jw}{x:W}(h:x∈bs.map (·.name)):yG bs x<bs.length:=by
 unfold yG;obtain⟨b,hb,rfl⟩:=zaT.mp h;exact List.findIdx_lt_length_of_exists ⟨b,hb,by simp⟩
theorem Sd.at_{bs:List jw}{rs:List Rg}{vals:List Int}{x:W}(h:Sd rs vals)(l:vals.length=bs.length)(hx:x∈bs.map (·.name)):In (yH bs rs x) (vals.getD (yG bs x) 0):=by
 have hi:=zX hx;have l2:=h.1;unfold yH;rw[zaE,zaE,zah (show yG bs x<vals.length by lia),zah (show yG bs x<rs.length by lia)];exact h.2 _ _ _ (zah (by lia)) (zah (by lia))
end L2
namespace L2
open PySem PG
open PM (W Tr)
def one (vals:List Int):List Rg:=vals.map fun v=>(v,v)
end L2
namespace L2
open PySem PG
open PM (W Tr)
def To (b:jw) (r:Rg):Prop:=0<=r.1/\r.2<=b.size-1
def QC (bs:List jw) (rs:List Rg):Prop:=rs.length=bs.length/\∀(i:Nat) (r:Rg) (b:jw),rs[i]?=some r->bs[i]?=some b->To b r
structure PL(bs:List jw)(rs:List Rg):Prop where
 bd:QC bs rs
 le:∀r∈rs,r.1<=r.2
theorem QC.at_{bs:List jw}{rs:List Rg}(h:QC bs rs){x:W}(hx:x∈bs.map (·.name)):To (bs[yG bs x]'(zX hx)) (yH bs rs x):=by
 have hi:=zX hx;have l:=h.1;refine h.2 (yG bs x) _ _ ?_ (zah hi);unfold yH;rw[zaE,zah (show yG bs x<rs.length by lia)];rfl
theorem QC.put{bs:List jw}{rs:List Rg}(h:QC bs rs){x:W}(hx:x∈bs.map (·.name)){r:Rg}(hr:To (bs[yG bs x]'(zX hx)) r):QC bs (wM bs rs x r):=by
 refine⟨by unfold wM;rw[zbm];exact h.1,fun i q b e1 e2=>?_⟩;unfold wM at e1;rw[List.getElem?_set] at e1;by_cases c:yG bs x=i
 ·rw[if_pos c] at e1;subst c;by_cases d:yG bs x<rs.length
  ·rw[if_pos d] at e1;cases e1;rw[zah (zX hx)] at e2;cases e2;exact hr
  ·rw[if_neg d] at e1;cases e1
 ·rw[if_neg c] at e1;exact h.2 i q b e1 e2
theorem PL.put{bs:List jw}{rs:List Rg}(h:PL bs rs){x:W}(hx:x∈bs.map (·.name)){r:Rg}(hr:To (bs[yG bs x]'(zX hx)) r)(hl:r.1<=r.2):PL bs (wM bs rs x r):=⟨h.bd.put hx hr,fun q hq=>by
 unfold wM at hq;rcases zco hq with hq |rfl
 ·exact h.le q hq
 ·exact hl⟩
end L2
namespace L2
open PySem PyProof.Rows
section
variable{K:zac}{D D' O:zc4->Prop}{H0 H H1:Hp}{d:Dp}{v:V}{s p:zc4}
theorem Own.tup{ds:List Dp}{vs:List V}(h:q5 K H0 H ds vs)(dm:∀b,H0 b≠none->H b≠none)(hp:H p=none):Own K H0 (upd H p (.tup vs)) (.tup ds) (.ref p):=fun O hO=>Fix.tup ae (fun z=>dm p (hO p z) hp) ((h O hO).up (.of (aq.new hp _)))
theorem aq.MT(h:aq H H1):∀b,H b≠none->H1 b≠none:=fun b hb=>by
 cases z:H b with
 |none=>exact absurd z hb
 |some o=>rw[h b o z];simp
end
abbrev U0 (bs:List PG.jw) (e:PM.Tr):Prop:=PG.B8 bs e/\PG.AF e<=2
def Plain:PG.dw->Prop
 |.ifs ..=>False
 |.nU ..=>False
 |_=>True
theorem Plain.rows{st:PG.dw}(h:Plain st):PG.dH [st]=[st.row]/\PG.MO st=0:=PG.El (fun _ _ _ _ _ _ z=>by rw[z] at h;exact h) (fun _ _ _ _ _ z=>by rw[z] at h;exact h)
abbrev X8 (bs:List PG.jw):Int->Int->List PG.dw->Prop:=PG.Tn (·∈bs.map (·.name)) (U0 bs) (·∈PG.Qz)
section
variable(K:zac)(D:zc4->Prop)(H:Hp)
inductive oV:List (List PG.dw×PG.vh)->zc4->List zc4->List V->Prop
 |root {p:zc4}:oV [] p [] [.da]
 |nU {o N1 k sg l r p q c ps ss vs vl vr}:H q=some (.lst (vs++[.ref c]))->fK K D H (N1.map Eg) vs->¬D c->H c=some (.tup [.str "while",.int k,.str (S sg),vl,vr,.ref p])->Fix K D H (oT l) vl->Fix K D H (oT r) vr->oV o q ps ss->oV ((N1,.nU k sg l r)::o) p (q::ps) (.da::ss)
 |if1 {o N1 k sg l r p q c b ps ss vs vl vr}:H q=some (.lst (vs++[.ref c]))->fK K D H (N1.map Eg) vs->¬D c->H c=some (.tup [.str "if",.int k,.str (S sg),vl,vr,.ref p,.ref b])->Fix K D H (oT l) vl->Fix K D H (oT r) vr->H b=some (.lst [])->oV o q ps ss->oV ((N1,.if1 k sg l r)::o) p (q::ps) (.ref b::ss)
 |if2 {o N1 k sg l r a p q c va ps ss vs vl vr}:H q=some (.lst (vs++[.ref c]))->fK K D H (N1.map Eg) vs->¬D c->H c=some (.tup [.str "if",.int k,.str (S sg),vl,vr,va,.ref p])->Fix K D H (oT l) vl->Fix K D H (oT r) vr->Fix K D H (.lst (a.map Eg)) va->oV o q ps ss->oV ((N1,.if2 k sg l r a)::o) p (q::ps) (.da::ss)
end
section
variable{K:zac}{D D':zc4->Prop}{H H1:Hp}{o:List (List PG.dw×PG.vh)}{p:zc4}{ps:List zc4}{ss:List V}
theorem oV.len(h:oV K D H o p ps ss):ps.length=o.length/\ss.length=o.length+1:=by
 induction h with
 |root=>exact⟨rfl,rfl⟩
 |nU _ _ _ _ _ _ _ ih=>exact⟨by rw[zag,zag,ih.1],by rw[zag,zag,ih.2]⟩
 |if1 _ _ _ _ _ _ _ _ ih=>exact⟨by rw[zag,zag,ih.1],by rw[zag,zag,ih.2]⟩
 |if2 _ _ _ _ _ _ _ _ ih=>exact⟨by rw[zag,zag,ih.1],by rw[zag,zag,ih.2]⟩
theorem oV.up(h:oV K D H o p ps ss)(u:bD D H H1)(h1:∀q∈ps,H1 q=H q)(h2:∀b,V.ref b∈ss->H1 b=H b):oV K D H1 o p ps ss:=by
 induction h with
 |root=>exact .root
 |nU a b c d e f g ih=>exact .nU (by rw[h1 _ (zaD ..)];exact a) (b.up u) c (u _ _ c d) (e.up u) (f.up u) (ih (fun q hq=>h1 q (zaq _ hq)) fun b hb=>h2 b (zaq _ hb))
 |if1 a b c d e f x g ih=>exact .if1 (by rw[h1 _ (zaD ..)];exact a) (b.up u) c (u _ _ c d) (e.up u) (f.up u) (by rw[h2 _ (zaD ..)];exact x) (ih (fun q hq=>h1 q (zaq _ hq)) fun b hb=>h2 b (zaq _ hb))
 |if2 a b c d e f x g ih=>exact .if2 (by rw[h1 _ (zaD ..)];exact a) (b.up u) c (u _ _ c d) (e.up u) (f.up u) (x.up u) (ih (fun q hq=>h1 q (zaq _ hq)) fun b hb=>h2 b (zaq _ hb))
theorem oV.MT(h:oV K D H o p ps ss):(∀q∈ps,H q≠none)/\∀b,V.ref b∈ss->H b≠none:=by
 have nn:∀ {q:zc4} {u:HO},H q=some u->H q≠none:=fun e z=>by rw[e] at z;cases z
 induction h with
 |root=>exact⟨fun q hq=>(by cases hq),fun b hb=>(by simp at hb)⟩
 |nU a _ _ _ _ _ _ ih=>exact⟨fun q hq=>(zak.mp hq).elim (fun e=>e▸nn a) (ih.1 q),fun b hb=>(zak.mp hb).elim (fun e=>by cases e) (ih.2 b)⟩
 |if1 a _ _ _ _ _ x _ ih=>exact⟨fun q hq=>(zak.mp hq).elim (fun e=>e▸nn a) (ih.1 q),fun b hb=>(zak.mp hb).elim (fun e=>by cases e;exact nn x) (ih.2 b)⟩
 |if2 a _ _ _ _ _ _ _ ih=>exact⟨fun q hq=>(zak.mp hq).elim (fun e=>e▸nn a) (ih.1 q),fun b hb=>(zak.mp hb).elim (fun e=>by cases e) (ih.2 b)⟩
theorem oV.same(h:oV K D H o p ps ss)(s:aq H H1):oV K D H1 o p ps ss:=by
 have e:∀ {q:zc4},H q≠none->H1 q=H q:=fun {q} n=>by
  cases z:H q with
  |none=>exact absurd z n
  |some u=>exact s _ _ z
 exact h.up (.of s) (fun q hq=>e (h.MT.1 q hq)) fun b hb=>e (h.MT.2 b hb)
def rootOf (p:zc4):List zc4->zc4
 |[]=>p
 |q::ps=>rootOf q ps
end
def Tp (ss:List V):List zc4:=ss.filterMap fun v=>match v with |.ref b=>some b |_=>none
theorem M6{ss:List V}{b:zc4}:b∈Tp ss↔V.ref b∈ss:=by
 unfold Tp;rw[zbN]
 constructor
 ·rintro ⟨v,hv,e⟩
  cases v with
  |ref c=>cases e;exact hv
  |_=>cases e
 ·exact fun h=>⟨_,h,rfl⟩
def N2 (pl sc p:zc4) (ps:List zc4) (ss:List V):List zc4:=pl::sc::p::(ps++Tp ss)
theorem FT{pl sc p a:zc4}{ps:List zc4}{ss:List V}:a∈N2 pl sc p ps ss↔a=pl\/a=sc\/a=p\/a∈ps\/V.ref a∈ss:=by
 unfold N2;simp only[zak,zaz,M6]
structure PZ(K:zac)(bs:List PG.jw)(r0 row:Int)(R pl sc:zc4)(H0 H:Hp)(o:List (List PG.dw×PG.vh))(cur:List PG.dw)(p:zc4)(ps:List zc4)(ss vs:List V):Prop where
 Bu:H pl=some (.lst ((p::ps).reverse.map V.ref))
 Tq:H sc=some (.lst ss.reverse)
 hp:H p=some (.lst vs)
 nd:(N2 pl sc p ps ss).Nodup
 fx:fK K (·∈N2 pl sc p ps ss) H (cur.map Eg) vs
 pa:oV K (·∈N2 pl sc p ps ss) H o p ps ss
 rt:rootOf p ps=R
 zk:X8 bs r0 row (PG.mD o cur)
 len:o.length<=4
 sm:aq H0 H
 fr:∀a∈N2 pl sc p ps ss,H0 a=none
section
variable{K:zac}{bs:List PG.jw}{r0 row:Int}{R pl sc:zc4}{H0 H H1:Hp}{o:List (List PG.dw×PG.vh)}{cur:List PG.dw}{p:zc4}{ps:List zc4}{ss vs:List V}
theorem PZ.MT(h:PZ K bs r0 row R pl sc H0 H o cur p ps ss vs):∀a∈N2 pl sc p ps ss,H a≠none:=fun a ha=>by
 rcases FT.mp ha with rfl |rfl |rfl |ha |ha
 ·rw[h.Bu];simp
 ·rw[h.Tq];simp
 ·rw[h.hp];simp
 ·exact h.pa.MT.1 a ha
 ·exact h.pa.MT.2 a ha
theorem PZ.same(h:PZ K bs r0 row R pl sc H0 H o cur p ps ss vs)(s:aq H H1):PZ K bs r0 row R pl sc H0 H1 o cur p ps ss vs:=
 ⟨s _ _ h.Bu,s _ _ h.Tq,s _ _ h.hp,h.nd,h.fx.up (.of s),h.pa.same s,h.rt,h.zk,h.len,h.sm.trans s,h.fr⟩
theorem wG:∀b:List PG.dw,b.length<=(PG.dH b).length
 |[]=>za0 _
 |s::r=>by
  have ih:=wG r;unfold PG.dH at ih ⊢;rw[zae] at ih ⊢;rw[PG.bN,zaf,zag];have:0<(PG.mC s).length:=by cases s<;>simp[PG.mC]
  lia
theorem PZ.LV(h:PZ K bs r0 row R pl sc H0 H o cur p ps ss vs):(vs.length:Int)<=max 0 (row-r0):=by
 have h1:=PG.Cg h.zk.rise h.zk.rows;have h2:=PG.Ek o [] cur;rw[za1] at h2;have h3:=congrArg zbB h2;rw[zaf] at h3;have h4:=wG cur;have h5:=h.fx.UQ.length;rw[zae] at h5;lia
theorem PZ.one(hR:H0 R=none)(Bu:H0 pl=none)(Tq:H0 sc=none)(n1:pl≠sc)(n2:pl≠R)(n3:sc≠R)(s:aq H0 H)(e1:H R=some (.lst []))(e2:H pl=some (.lst [.ref R]))(e3:H sc=some (.lst [.da])):PZ K bs r0 r0 R pl sc H0 H [] [] R [] [.da] []:=
 ⟨e2,e3,e1,by unfold N2;simp[Tp,n1,n2,n3],.nil,.root,rfl,PG.Tn.nil,by simp,s,fun a ha=>by
  rcases FT.mp ha with rfl |rfl |rfl |h |h
  ·exact Bu
  ·exact Tq
  ·exact hR
  ·cases h
  ·simp at h⟩
end
theorem Kq{tt:TT}{a b:TS}{D:Ends}{σ:St}{H:Hp}(h:∀U1 U2:St->Hp->Prop,(∀σ' H',U1 σ' H'↔a D σ' H')->(∀σ' H',U2 σ' H'↔b D σ' H')->tt σ H fun c H1=>if c=true then U1 σ H1 else U2 σ H1):Mb tt a b D σ H:=h (a D) (b D) (fun _ _=>Iff.rfl) fun _ _=>Iff.rfl
open Builtin Builtin.Str PySem.Spec PySem.StrLaws
def a9 (c:Nat):W->List W
 |[]=>[[]]
 |x::r=>if x=c then []::a9 c r else match a9 c r with
  |[]=>[[x]]
  |h::t=>(x::h)::t
def rj (c:Nat):Nat->W->List Nat
 |_,[]=>[]
 |k,x::r=>if x=c then k::rj c (k+1) r else rj c (k+1) r
theorem iD(c:Nat):∀w,a9 c w≠[]
 |[]=>by simp[a9]
 |x::r=>by
  unfold a9;split
  ·simp
  ·split<;>simp
theorem PN(c:Nat)(w:W):∀(r pre:W) (acc:Array Nat) (fr:Nat),w=pre++r->acc.size<=pre.length->fr<=pre.length->
 (forIn (List.range' pre.length (r.length+1)) (acc,fr) (occBody (S w) (S [c]) w.length (w.length+1))).run.fst.toList=acc.toList++rj c pre.length r:=by
 intro r
 induction r with
 |nil=>
  intro pre acc fr e ha hf;subst e;rw[zbe,Nat.zero_add,List.range'_one,zcF];unfold occBody;rw[if_neg (fun z=>by have q:pre.length+1<=(pre++[]).length:=z.1.2;rw[zaP] at q;lia)];simp[rj]
 |cons x r ih=>
  intro pre acc fr e ha hf;have hw:w.length=pre.length+(r.length+1):=by rw[e,zaf,zag]
  rw[zag,List.range'_succ,zcF];have e2:w=(pre++[x])++r:=by rw[e];simp
  have M7:=ih (pre++[x]);rw[zaf,zau] at M7;have M8:subAt (S w) (S [c]) pre.length=decide (x=c):=by
   unfold subAt;show (w.toArray.extract pre.length (pre.length+1) == #[c])=_;rw[zcS,e];simp[List.extract];by_cases hx:x=c<;>simp[hx]
  unfold rj;by_cases hx:x=c
  ·unfold occBody;rw[if_pos ⟨⟨⟨by show acc.size<w.length+1;lia,hf⟩,by show pre.length+1<=w.length;lia⟩,by rw[M8,hx];simp⟩,if_pos hx];show (forIn _ (acc.push pre.length,pre.length+1) (occBody (S w) (S [c]) w.length (w.length+1))).run.fst.toList=_;rw[M7 _ _ e2 (by rw[Array.size_push];lia) (zai _)];simp
  ·unfold occBody;rw[if_neg (fun z=>hx (by have:=z.2;rw[M8] at this;simpa using this)),if_neg hx];exact M7 _ _ e2 (by lia) (by lia)
theorem G6(c:Nat)(w:W):occurrences (S w) (S [c]) 0 (S w).length ((S w).length+1)=rj c 0 w:=by
 rw[occ_eq];have h:=PN c w w [] #[] 0 rfl (zai _) (zai _);rw[ez];simpa using h
theorem Kr(c:Nat):∀(r pre:W) (k0:Nat),k0<=pre.length->
 ((k0::(rj c pre.length r).map (·+1)).zip (rj c pre.length r++[(pre++r).length])).map (fun p=>((pre++r).drop p.1).take (p.2-p.1))=((pre.drop k0)++(a9 c r).headD [])::(a9 c r).tail:=by
 intro r
 induction r with
 |nil=>
  intro pre k0 h;simp only[rj,a9,zcs,za1,zaP,List.zip_cons_cons,List.zip_nil_right,zay,zbD,List.tail_cons];rw[zbs (by rw[zaV];exact zai _)]
 |cons x r ih=>
  intro pre k0 h;have e2:pre++x::r=(pre++[x])++r:=by simp
  by_cases hx:x=c
  ·have M7:=ih (pre++[x]) (pre.length+1) (by simp);unfold rj a9;rw[if_pos hx,if_pos hx];rw[zaf,zau] at M7;rw[zay,zaY,List.zip_cons_cons,zay,e2,M7];simp only[zbD,zaP,List.tail_cons]
   congr 1
   ·rw[<- e2,zb7 h,List.take_append_of_le_length (by rw[zaV];exact zai _)];exact zbs (by rw[zaV];exact zai _)
   ·have hn:=iD c r;cases hs:a9 c r with
    |nil=>exact absurd hs hn
    |cons a b=>simp
  ·have M7:=ih (pre++[x]) k0 (by rw[zaf];lia);unfold rj a9;rw[if_neg hx,if_neg hx];rw[zaf,zau] at M7;rw[e2,M7];have hn:=iD c r;cases hs:a9 c r with
   |nil=>exact absurd hs hn
   |cons a b=>
    simp[zb7 h]
theorem Ci(c:Nat)(w:W)(h1:c<256):Txt.split (S w) (S [c])=(a9 c w).map S:=by
 have key:(if (occurrences (S w) (S [c]) 0 (S w).length ((S w).length+1)).isEmpty=true then [S w] else partsBetween (S w) (occurrences (S w) (S [c]) 0 (S w).length ((S w).length+1)) (S [c]).length)=(a9 c w).map S:=by
  rw[G6];have pg:=Kr c w [] 0 (zai _);have hb:partsBetween (S w) (rj c 0 w) (S [c]).length=(a9 c w).map S:=by
   have hn:=iD c w;have e3:(a9 c w).headD []::(a9 c w).tail=a9 c w:=by
    cases hs:a9 c w with
    |nil=>exact absurd hs hn
    |cons a b=>rfl
   rw[List.drop_nil,za1,za1,e3] at pg;rw[<- pg];unfold partsBetween;rw[zbH];show zcb _ (List.zip (0::zcb (fun x=>x+1) (rj c 0 w)) (rj c 0 w++[w.length]))=_;refine List.map_congr_left fun p hp=>?_;obtain⟨i,j⟩:=p;show strSub (S w) i j=S _;unfold strSub S;rw[zcS]
  split
  ·rename_i hi;have NJ:rj c 0 w=[]:=by simpa using hi
   rw[<- hb,NJ];show [S w]=[strSub (S w) 0 (S w).length];unfold strSub
   congr 1
   unfold S Str.length;simp
  ·exact hb
 unfold Txt.split;rw[key];split
 ·rename_i hk;have hz:w.length<1\/Builtin.Str.strKind (S w)<Builtin.Str.strKind (S [c]):=by
   rcases Bool.or_eq_true_iff.mp hk with z |z
   ·exact .inl (of_decide_eq_true z)
   ·exact .inr (of_decide_eq_true z)
  rcases hz with hz |hz
  ·have:w=[]:=zaO.mp (by lia);subst this;rfl
  ·exfalso
   have e1:Builtin.Str.strKind (S [c])=1:=by unfold Builtin.Str.strKind;rw[if_pos (by simp[S,h1])]
   have e2:1<=Builtin.Str.strKind (S w):=by unfold Builtin.Str.strKind;split<;>(try split)<;>lia
   lia
 ·rfl
theorem zY:∀(L:List W) (k:Nat),Vals (L.map sv) (strsFrom k (L.map S))
 |[],_=>.nil
 |w::L,k=>.cons ⟨k,rfl⟩ (zY L (k+1))
theorem wV(c:Nat):∀w:W,(a9 c w).length<=w.length+1
 |[]=>by simp[a9]
 |x::r=>by
  have ih:=wV c r;unfold a9;split
  ·rw[zag,zag];lia
  ·split
   ·simp
   ·rename_i h t e;rw[e] at ih;rw[zag] at ih ⊢;rw[zag];lia
theorem Cj{X:Cx}:Qv X "str.split" (fun x vs H Q=>∃(w:W) (c:Nat),x=sv w/\vs=[sv [c]]/\c<256/\w.length<=4000000/\∀a,H a=none->Q (.ref a) (upd H a (.lst ((a9 c w).map sv)))):=by
 intro pins s σ H x vs v us Q I rx rv h;obtain⟨w,c,rfl,rfl,hc,hl,q⟩:=h;obtain⟨t,rfl⟩:=(show ∃t,v=Value.str (S w) t from rx)
 obtain⟨u,rfl,ru⟩:=vals1 rv;obtain⟨tu,rfl⟩:=(show ∃t,u=Value.str (S [c]) t from ru)
 have line:zdc=2 ^ 24:=rfl;have Gz:=Ci c w hc;have ZT:=wV c w;have hw:(S w).length<=zdc:=by rw[ez];lia
 have hy:((S [c]).length==0)=false:=rfl;have fin:∀(bj:List zc5) (k:Nat),Vals ((a9 c w).map sv) bj->EP X pins σ Q (.ref s.heap.objs.size) {s with heap:=s.heap.push {cls:=.type "list",data:=.seq bj.toArray},toks:=k}:=fun bj k r=>
  ⟨.ref s.heap.objs.size,_,I.laid (t':=k) (fun b o e=>Heap.get?_push_of_some _ e) (zai _) (show dB X.prog X.w _ _ _ (.lst ((a9 c w).map sv)) from ⟨by rw[zae];lia,bj,0,r,Heap.get?_push_size _ rfl⟩),rfl,q _ (I.dq.fresh (zai _))⟩
 have self:Txt.split (S w) (S [c])=[S w]->Vals ((a9 c w).map sv) [Value.str (S w) t]:=fun e=>by
  have e1:(a9 c w).map S=[S w]:=Gz.symm.trans e;have e2:a9 c w=[w]:=by
   cases hs:a9 c w with
   |nil=>exact absurd hs (iD c w)
   |cons a b=>
    rw[hs,zay] at e1;have z1:=B2.mp (List.head_eq_of_cons_eq e1);have z2:=zbL.mp (List.tail_eq_of_cons_eq e1);rw[z1,z2]
  rw[e2];exact .cons ⟨t,rfl⟩ .nil
 rcases zcx (decide ((S w).length<(S [c]).length) ||decide (Builtin.Str.strKind (S w)<Builtin.Str.strKind (S [c]))) with h1 |h1
 ·refine call_meets F.slot_str_split (typeIs_str _ _ _) F.entry_str_split (F.args_str_split_2 _ _) (meets_str_split_cannot_occur (S w) (S [c]) t tu h1) ?_;exact fin _ s.toks (self (if_pos h1))
 ·rcases zcx (occurrences (S w) (S [c]) 0 (S w).length ((S w).length+1)).isEmpty with hf |hf
  ·refine call_meets F.slot_str_split (typeIs_str _ _ _) F.entry_str_split (F.args_str_split_2 _ _) (meets_str_split_not_found (S w) (S [c]) t tu h1 hy hf) ?_;exact fin _ s.toks (self ((if_neg (ne_true_of_eq_false h1)).trans (if_pos hf)))
  ·have e1:partsBetween (S w) (occurrences (S w) (S [c]) 0 (S w).length ((S w).length+1)) (S [c]).length=(a9 c w).map S:=
    ((if_neg (ne_true_of_eq_false h1)).trans (if_neg (ne_true_of_eq_false hf))).symm.trans Gz
   refine call_meets F.slot_str_split (typeIs_str _ _ _) F.entry_str_split (F.args_str_split_2 _ _) (meets_str_split_sep (S w) (S [c]) t tu h1 hy hf hw (by rw[e1,zae];lia)) ?_;rw[e1];exact fin _ _ (zY _ _)
def dX (c:Nat):List W->W
 |[]=>[]
 |w::L=>w++(L.map fun x=>c::x).flatten
theorem Ck(c:Nat):∀L:List W,(dX c L).length<=L.flatten.length+L.length
 |[]=>zai _
 |w::L=>by
  have:∀L:List W,((L.map fun x=>c::x).flatten).length=L.flatten.length+L.length:=fun L=>by
   induction L with
   |nil=>rfl
   |cons a b ih=>simp only[zay,zaR,zaf,zag,ih];lia
  unfold dX;rw[zaf,this,zaR,zaf,zag];lia
theorem wW{c:Nat}:∀ {L:List W},L≠[]->(∀w∈L,c ∉ w)->a9 c (dX c L)=L:=by
 have one:∀(w r:W),c ∉ w->a9 c (w++c::r)=w::a9 c r:=fun w r h=>by
  induction w with
  |nil=>simp[a9]
  |cons x w ih=>
   have hx:x≠c:=fun z=>h (z▸zaD);rw[zaY]
   conv=>lhs;unfold a9
   rw[if_neg hx,ih fun z=>h (zaq _ z)]
 have last:∀w:W,c ∉ w->a9 c w=[w]:=fun w h=>by
  induction w with
  |nil=>rfl
  |cons x w ih=>
   have hx:x≠c:=fun z=>h (z▸zaD);unfold a9;rw[if_neg hx,ih fun z=>h (zaq _ z)]
 have all:∀(L:List W) (w:W),c ∉ w->(∀w∈L,c ∉ w)->a9 c (w++(L.map fun x=>c::x).flatten)=w::L:=fun L=>by
  induction L with
  |nil=>intro w h _;rw[zcs,zct,zaP];exact last w h
  |cons a b ih=>
   intro w h hL;rw[zay,zaR,zaY,one _ _ h,ih a (hL a zaD) fun z hz=>hL z (zaq _ hz)]
 intro L h0 h
 match L,h0 with
 |w::L,_=>exact all L w (h w zaD) fun z hz=>h z (zaq _ hz)
theorem Em(c:Nat):∀L:List W,Builtin.Str.glued (S [c]) (L.map S)=S (dX c L)
 |[]=>rfl
 |w::L=>by
  have key:∀(L:List W) (acc:W),((L.map S).foldl (fun acc p=>acc++(S [c]).cps++p.cps) acc.toArray)=(acc++(L.map fun x=>c::x).flatten).toArray:=by
   intro L
   induction L with
   |nil=>intro acc;simp
   |cons x r ih=>
    intro acc;rw[zay,zbM];have e:acc.toArray++(S [c]).cps++(S x).cps=(acc++c::x).toArray:=by
     show acc.toArray ++ #[c]++x.toArray=_;simp
    rw[e,ih];simp
  show (⟨(L.map S).foldl (fun acc p=>acc++(S [c]).cps++p.cps) (S w).cps⟩:Str)=_;rw[show (S w).cps=w.toArray from rfl,key L w];rfl
theorem Ks{X:Cx}:Qv X "str.join" (fun x vs H Q=>∃(a:zc4) (L:List W) (c:Nat),x=sv [c]/\vs=[.ref a]/\gW X.K H a (L.map sv)/\L.flatten.length+L.length<=4000000/\Q (sv (dX c L)) H):=by
 intro pins s σ H x vs v us Q I rx rv h;obtain⟨a,L,c,rfl,rfl,hS,hl,q⟩:=h;obtain⟨t,rfl⟩:=(show ∃t,v=Value.str (S [c]) t from rx)
 obtain⟨u,rfl,ru⟩:=vals1 rv;cases (show u=Value.ref a from ru);obtain⟨bj,r,p,_⟩:=I.list hS;obtain⟨l,rfl,el⟩:=wC r;have line:zdc=2 ^ 24:=rfl;have fold:∀(xs:List Str) (n:Nat),xs.foldl (fun a x=>a+x.length+(S [c]).length) n=n+((xs.map (·.length)).sum+xs.length):=by
  intro xs
  induction xs with
  |nil=>intro n;simp
  |cons y ys ih=>intro n;rw[zbM,ih,zay,List.sum_cons,zag,show (S [c]).length=1 from rfl];lia
 have X9:((L.map S).map (·.length)).sum=L.flatten.length:=by
  rw[zbH,List.length_flatten]
  congr 1
 have hlen:Builtin.Str.tooLong ((l.map (·.1)).toArray.foldl (· + ·.length+(S [c]).length) 0)=false:=by
  rw[List.foldl_toArray,el,fold,X9,zae];unfold Builtin.Str.tooLong;rw[decide_eq_false_iff_not];lia
 have fit:(S (dX c L)).length<=zdc:=by
  rw[ez];have:=Ck c L;lia
 refine call_meets F.slot_str_join (typeIs_str s _ _) F.entry_str_join (F.args_str_join_2 _ _) (meets_str_join_list (S [c]) t a l hlen) ⟨p.isList,?_⟩;have IG:∀tk,EP X pins σ Q (.str (S (dX c L)) tk) {s with toks:=s.toks+1}:=fun tk=>⟨sv (dX c L),H,I.tok _,⟨_,rfl⟩,q⟩
 have Va:∀tk,EP X pins σ Q (.str (S (dX c L)) tk) s:=fun tk=>⟨sv (dX c L),H,I,⟨_,rfl⟩,q⟩
 have eg:Builtin.Str.glued (S [c]) (l.map (·.1))=S (dX c L):=by rw[el,Em]
 match l,el,eg with
 |[],el,eg=>
  refine⟨?_,?_⟩
  ·show (Builtin.Str.glued (S [c]) []).length<=zdc;have N3:Builtin.Str.glued (S [c]) []=S (dX c L):=eg;rw[N3];exact fit
  ·have N3:Builtin.Str.glued (S [c]) []=S (dX c L):=eg;show wants _ _ (.ok (.ret (.str (Builtin.Str.glued (S [c]) []) _))) _;rw[N3];exact IG _
 |[x],el,eg=>
  have N3:Builtin.Str.glued (S [c]) [x.1]=S (dX c L):=eg;have e1:Builtin.Str.glued (S [c]) [x.1]=x.1:=rfl;have e2:x.1=S (dX c L):=e1.symm.trans N3;simp only[joinMade,Made.post];have:=Va x.2;rw[<- e2] at this;exact this
 |x::y::r,el,eg=>
  have N3:Builtin.Str.glued (S [c]) ((x::y::r).map (·.1))=S (dX c L):=eg;refine⟨?_,?_⟩
  ·show (Builtin.Str.glued (S [c]) ((x::y::r).map (·.1))).length<=zdc;rw[N3];exact fit
  ·show wants _ _ (.ok (.ret (.str (Builtin.Str.glued (S [c]) ((x::y::r).map (·.1))) _))) _;rw[N3];exact IG _
def N4 (te:TE):TE:=fun σ H Q=>te σ H fun x H1=>(∃i:Int,x=.int i/\i.natAbs<2 ^ 64/\Q (.str (zaa (toString i))) H1)\/∃z,x=.str z/\z.length<=zdc/\Q (.str z) H1
def Se:List TE->St->Str->Hp->(Str->Hp->Prop)->Prop
 |[],_,acc,H,R=>R acc H
 |t::ts,σ,acc,H,R=>t σ H fun x H1=>∃y,x=.str y/\(acc++y).length<=zdc/\Se ts σ (acc++y) H1 R
def Vb (ts:List TE):TE:=fun σ H Q=>Se ts σ Str.empty H fun z H1=>Q (.str z) H1
inductive Sf(X:Cx):List Expr->List TE->Prop
 |nil:Sf X [] []
 |cons {e es t ts}:PE X e t->Sf X es ts->Sf X (e::es) (t::ts)
section
variable{X:Cx}{e e2:Expr}{es:List Expr}{te:TE}{ts:List TE}{pos:Pos}
theorem sG(he:PE X e te):PE X (.FormattedValue e (-1) none pos) (N4 te):=by
 intro pins s σ H Q I h;refine wpAny_FormattedValue_plain (d7 (he pins s σ H _ I h) fun v s1 zq=>?_);obtain⟨x,H1,I1,r,q⟩:=zq;rcases q with ⟨i,rfl,hi,q⟩ |⟨z,rfl,hz,q⟩
 ·obtain⟨t,rfl⟩:=(show ∃t,v=Value.int i t from r)
  have hl:i.natAbs.log2<1920:=by
   by_cases h0:i.natAbs=0
   ·rw[h0];decide
   ·exact Nat.lt_trans ((Nat.log2_lt h0).mpr hi) (by decide)
  exact wpAny_formatField_int hl ⟨.str (zaa (toString i)),H1,(I1.tok _).tok _,⟨_,rfl⟩,q⟩
 ·obtain⟨t,rfl⟩:=(show ∃t,v=Value.str z t from r)
  exact wpAny_formatField_str ⟨.str z,H1,I1,⟨_,rfl⟩,q⟩ ⟨.str z,H1,I1.tok _,⟨_,rfl⟩,q⟩ hz
theorem Kt(h:Sf X es ts):∀(pins:List (zc4×Obj)) (s:zde) (σ:St) (H:Hp) (acc:Str) (R:Str->Hp->Prop),Inv X pins σ H s->acc.length<=zdc->Se ts σ acc H R->
 Joins (model X.prog X.w) X.A X.xe (evalEach es X.env) acc (fun out s1=>out.length<=zdc/\∃H1,Inv X pins σ H1 s1/\R out H1) s:=by
 induction h with
 |nil=>intro pins s σ H acc R I ha h;exact⟨ha,H,I,h⟩
 |cons h1 _ ih=>
  intro pins s σ H acc R I ha h;refine d7 (h1 pins s σ H _ I h) fun v s1 zq=>?_;obtain⟨x,H1,I1,r,y,rfl,hy,q⟩:=zq;obtain⟨t,rfl⟩:=(show ∃t,v=Value.str y t from r)
  exact⟨y,t,rfl,hy,ih pins s1 σ H1 _ R I1 hy q⟩
theorem wX{M:Model}{A:zdf}{E:zc5->zde->Prop}{Q Q':Str->zde->Prop}(h:∀z s,Q z s->Q' z s):∀(l:List (Sem zc5)) (acc:Str) (s:zde),Joins M A E l acc Q s->Joins M A E l acc Q' s
 |[],_,_,q=>h _ _ q
 |x::l,acc,s,q=>wpAny_mono q (fun v s1 ⟨y,t,e,hy,z⟩=>⟨y,t,e,hy,wX h l _ s1 z⟩) fun _ _ z=>z
theorem lY{ts:List TE}(h:Sf X (e::e2::es) ts):PE X (.JoinedStr (e::e2::es) pos) (Vb ts):=by
 intro pins s σ H Q I hq;refine wpAny_JoinedStr (wX (fun z s1 zq=>?_) _ _ _ (Kt h pins s σ H Str.empty _ I (by decide) hq));obtain⟨hz,H1,I1,q⟩:=zq;exact⟨hz,.str z,H1,I1.tok _,⟨_,rfl⟩,q⟩
end
open AutoSeq1 (wpAny_loadPart')
set_option maxHeartbeats 1000000 in
theorem G7(l:zc4)(items:Array zc5)(n:Nat)(Vc:Option zc4)(sl:Array (Option zc5))(t:PySem.Tok) :
 Meets (Builtin.«enumerate.__new__» ⟨[.type "enumerate",.ref l],[("start",.int 1 t)]⟩) (fun _ R s=>s.heap.get? l=some {cls:=.type "list",dict:=Vc,data:=.seq items n,slots:=sl}/\
  R (.ok (.ret (.ref (s.heap.push {cls:=.type "list_iterator",data:=.fields #[.ref l,.int 0 0]}).objs.size)))
   {s with heap:=(s.heap.push {cls:=.type "list_iterator",data:=.fields #[.ref l,.int 0 0]}).push {cls:=.type "enumerate",data:=.fields #[.none,.bool false,.ref s.heap.objs.size,rawInt 1,.none,.none]} }):=by
 refine .of_wp fun prog w A R s h=>?_;obtain⟨hp,g,d,tk,os⟩:=s;obtain⟨hl,h⟩:=h;have M8:=sub_enumerate;have hL:Heap.IsList (Shared.heap ⟨hp,g,d,tk,os⟩) l items:=⟨_,hl,rfl,n,rfl⟩
 wp_walk using wpAny_loadPart' hl
 refine wpAny_stack_any fun st=>zc8 ?_;split
 ·rename_i c _ _ _ _ _;cases (c==Value.type "enumerate")
  ·wp_walk using wpAny_loadPart' hl,wpAny_pyIter_list hL
   exact⟨_,rfl,h⟩
  ·wp_walk using wpAny_loadPart' hl,wpAny_pyIter_list hL
   exact⟨_,rfl,h⟩
 ·wp_walk using wpAny_loadPart' hl,wpAny_pyIter_list hL
  exact⟨_,rfl,h⟩
theorem G8{self a:zc5}{kw:List (Str×zc5)}(hl:typeLookup (.type "enumerate") "__init__"=pure (some (.builtin "object.__init__")))(hm:Bind.madeBy (.type "enumerate")=pure (some "enumerate.__new__")) :
 Meets (Builtin.«object.__init__» ⟨[self,a],kw⟩) (fun _ R s=>s.TypeIs self "enumerate"/\R (.ok (.ret .none)) s):=by
 refine Meets.of_wp fun prog w A R s hs=>?_;obtain⟨hT,hq⟩:=hs;have DM:(some "enumerate.__new__" != some "object.__new__")=true:=by decide
 repeat (any_goals (first |assumption |wp_step))
 exact⟨_,rfl,hq⟩
theorem Ku(a v:zc5):checkTypeCall "enumerate" ⟨[a],[("start",v)]⟩=pure ():=by kernel_rfl
theorem Kv(a v:zc5):checkBuiltinCall "enumerate.__new__" ⟨[.type "enumerate",a],[("start",v)]⟩=pure ():=by kernel_rfl
theorem Kw(a b v:zc5):argsOk "object.__init__" ⟨[a,b],[("start",v)]⟩:=by
 unfold argsOk;rw[signature?_of (id:="object.__init__") (n:=['_', '_', 't', 'i', 'n', 'i', '_', '_']) (o:=['t', 'c', 'e', 'j', 'b', 'o']) (by kernel_rfl) F.owner_object]
 kernel_rfl
section
variable{prog:zdg}{w:zc6}{A:zdf}{E:zc5->zde->Prop}{s:zde}
theorem En{l:zc4}{items:Array zc5}{t:PySem.Tok}{Q:zc5->zde->Prop}(hL:s.heap.IsList l items)
 (h:∀h',IsEnum h' (s.heap.objs.size+1) s.heap.objs.size 1 .none->h'.IsListIter s.heap.objs.size l 0->h'.objs.size=s.heap.objs.size+2->
  (∀b o,s.heap.get? b=some o->h'.get? b=some o)->Q (.ref (s.heap.objs.size+1)) {s with heap:=h' }) :
 wpAny (model prog w) A (call (.type "enumerate") [.ref l] [("start",.int 1 t)]) Q E s:=by
 obtain⟨⟨c,Vc,dt,sl⟩,hl,hc,n,hd⟩:=hL;replace hc:c=.type "list":=hc;replace hd:dt=.seq items n:=hd;subst hc hd;have ft:=F.called_enumerate;obtain⟨c,tl,Ya⟩:=ft.mro;have Wo:=ft.made;have M8:=ft.sub;have ZU:=Ku (.ref l) (.int 1 t);refine wpAny_call (codeAny_of_tree ?_);show wpAny _ _ (callAny (.type "enumerate") _) _ _ _;refine zc8 ⟨Code.quiet_builtin _ (by decide +kernel),codeAny_builtin F.entry_type_call ?_⟩;rw[Around.under_plain (weight_type_call_type "enumerate" [.ref l] _) (units_type_call_type "enumerate" [.ref l] _)];have h1:=ft.notType;have h2:=ft.canCreate
 repeat (any_goals (first |assumption |wp_step))
 have hz:(s.heap.push {cls:=.type "list_iterator",data:=.fields #[.ref l,.int 0 0]}).objs.size=s.heap.objs.size+1:=Heap.size_push ..;have he:IsEnum ((s.heap.push {cls:=.type "list_iterator",data:=.fields #[.ref l,.int 0 0]}).push
  {cls:=.type "enumerate",data:=.fields #[.none,.bool false,.ref s.heap.objs.size,rawInt 1,.none,.none]}) (s.heap.objs.size+1) s.heap.objs.size 1 .none:=by
  have:=Heap.get?_push_size (s.heap.push {cls:=.type "list_iterator",data:=.fields #[.ref l,.int 0 0]})
   (o:={cls:=.type "enumerate",data:=.fields #[.none,.bool false,.ref s.heap.objs.size,rawInt 1,.none,.none]}) rfl
  rw[hz] at this;exact this
 have Vd:=h _ he ⟨_,Heap.get?_push_of_some _ (Heap.get?_push_size _ rfl),rfl,rfl⟩ (by rw[Heap.size_push,hz]) fun b o x=>Heap.get?_push_of_some _ (Heap.get?_push_of_some _ x);refine codeAny_mono (codeAny_call_builtin ft.plain F.entry_enumerate_new (wpAny_of_eq (Kv _ _) (G7 l items n Vc sl t prog w A.in1 (wants (fun obj s1=>obj=.ref (s.heap.objs.size+1)/\s1.TypeIs obj "enumerate"/\Q obj s1) E) s ⟨hl,?_⟩))) fun r s1 hr=>?_
 ·rw[hz];exact⟨rfl,⟨_,he,rfl⟩,Vd⟩
 cases r with
 |error e=>exact hr
 |ok fl=>
  cases fl with
  |ret obj=>
   obtain⟨rfl,hT,hq⟩:=hr;have ZV:=ft.init.lookup;have ZW:=ft.init.bind (.ref (s.heap.objs.size+1))
   repeat (any_goals (first |assumption |wp_step))
   refine codeAny_mono (codeAny_call_builtin ft.init.plain F.entry_object_init (ft.init.check _ _ _ _ _ _ _ _ hT (Kw _ _ _) (G8 ft.init.lookup ft.made prog w A.in1 (wants (fun r s2=>r=.none/\Q (.ref (s.heap.objs.size+1)) s2) E) s1 ⟨hT,rfl,hq⟩))) fun r2 s2 Ve=>?_;cases r2 with
   |error e=>exact Ve
   |ok Yb=>
    cases Yb with
    |ret r=>
     obtain⟨rfl,hq⟩:=Ve
     repeat (any_goals (first |assumption |wp_step))
    |_=>exact Ve.elim
  |_=>exact hr.elim
end
theorem FU{prog:zdg}{w:zc6}{A:zdf}{it:zc4}{fp:List zc4}{n:Nat}{P:Nat->zc5->Prop}{St:Nat->Heap->Prop}(D:Draws prog w A it fp n P St) :
 Draws prog w A it fp (n+1) (fun j x=>∃i,j=i+1/\P i x) (fun j h=>∃i,j=i+1/\St i h) where
 live:=fun j h z=>by obtain⟨i,_,s⟩:=z;exact D.live i h s
 frame:=fun j h h' z k=>by obtain⟨i,e,s⟩:=z;exact⟨i,e,D.frame i h h' s k⟩
 item:=fun j s Q E hj z hQ=>by
  obtain⟨i,e,st⟩:=z;subst e;exact D.item i s Q E (by lia) st fun x h' tk p BE sb=>hQ x h' tk ⟨i,rfl,p⟩ ⟨i+1,rfl,BE⟩ sb
 done:=fun s Q E z hE=>by
  obtain⟨i,e,st⟩:=z;cases e;exact D.done s Q E st hE
def Kx (K:zac) (a:zc4):It:=
 ⟨fun i H=>∃xs x,gW K H a xs/\xs[i]?=some x,fun i H x H'=>∃p y,x=.ref p/\H p=none/\H'=upd H p (.tup [.int ((i+1:Nat):Int),y])/\∀xs,gW K H a xs->xs[i]?=some y,fun i H=>∃xs,gW K H a xs/\i=xs.length⟩
theorem Eo{P:zdg}{w:zc6}{K:zac}{elts:List Expr}{x1}{pos:Pos}(a e it:zc4)(DM:e≠it) :
 Turn P w K (.Tuple elts x1 pos) (Kx K a) [e,it] e (fun i h=>(∃old,IsEnum h e it ((i+1:Nat):Int) old)/\h.IsListIter it a i) where
 mem:=by simp
 obj:=fun i h st b hb=>by
  obtain⟨⟨old,he⟩,o,eo,c,d⟩:=st;rcases zak.mp hb with rfl |hb
  ·exact⟨_,he,fun v z=>by cases (show Data.fields _=Data.cell v from z)⟩
  ·have z:b=it:=by simpa using hb
   subst z;exact⟨o,eo,fun v z=>by rw[d] at z;cases z⟩
 keep:=fun i h h' st k=>⟨st.1.elim fun old he=>⟨old,k e (by simp) _ he⟩,st.2.at fun o x=>k it (by simp) o x⟩
 item:=by
  intro X hP hw hK hc i pins s σ H E I hf st hg;subst hP hw hK;obtain⟨xs,x,hq,hx⟩:=hg;obtain⟨⟨old,he⟩,hit⟩:=st;obtain⟨bj,rv,p,hz⟩:=I.list hq;obtain⟨u,hu,ru⟩:=rv.get hx;have ZX:i<bj.length:=(zan.mp hu).1;have Vf:a≠it:=fun z=>by
   subst z;obtain⟨o,h1,h2,_⟩:=p.isList;obtain⟨o',h3,h4,_⟩:=hit;rw[h1] at h3;cases h3;rw[h2] at h4;exact absurd h4 (by decide)
  have Yc:e≠a:=fun z=>by
   subst z;obtain⟨o,h1,h2,_⟩:=p.isList;have h3:=zav.inj (h1.symm.trans he);rw[h3] at h2;exact absurd (show Value.type "enumerate"=Value.type "list" from h2) (by decide)
  have DD:=FU (Draws.list (prog:=X.prog) (w:=X.w) (A:=X.A.in1) (I.ok.hd hc) it a Vf bj.toArray);refine wpAny_pyNext_enum_itemD (i:=i+1) DD he ⟨i,rfl,hit,p.isList⟩ (by simp;lia) DM (by simp[DM,Yc]) fun u' h' tk Yd ho BE hT IQ hk=>?_;obtain⟨i',ei,Ye⟩:=Yd;obtain⟨i2,Yf,Vg,_⟩:=BE;cases ei;cases Yf;have eu:u'=u:=by
   have z:bj.toArray[i]?=some u':=Ye;rw[List.getElem?_toArray,hu] at z;exact(zav.inj z).symm
  subst eu;refine⟨_,rfl,?_⟩;refine wpAny_letOwnedTupleGo_enum ho fun h2 Yg sb=>?_;have Sg:e<s.heap.objs.size:=Heap.lt_size he;have Sh:it<s.heap.objs.size:=by obtain⟨_,x,_⟩:=hit;exact Heap.lt_size x
  have I1:Inv X pins σ H {s with heap:=h2,toks:=tk+1}:=I.zR (t':=tk+1) (fun b o hb q=>(sb.2 b fun z=>hb (by simp[z])).trans (hk b o (fun z=>hb (by simp[z])) (fun z=>hb (by simp[z])) q)) hf;have fr:H s.heap.objs.size=none:=I.dq.fresh (zai _);obtain⟨g0,g1,g2,g3,g4,g5⟩:=I.II (zai _) fr;have Vh:h2.get? s.heap.objs.size=some {cls:=.type "tuple",data:=.seq #[.int ((i+1:Nat):Int) tk,u']}:=(sb.2 _ (zc1 Sg)).trans hT;have I2:=I1.told (o:=.tup [.int ((i+1:Nat):Int),x]) fr I.sz g1 g4 g5 ⟨(show (2:Nat)<=zdc by decide),[.int ((i+1:Nat):Int) tk,u'],.cons ⟨_,rfl⟩ (.cons ru .nil),⟨_,Vh,rfl,_,rfl⟩⟩;refine⟨.ref s.heap.objs.size,_,I2,rfl,⟨_,x,rfl,fr,rfl,fun ys hy=>by rw[I.BC hy hq];exact hx⟩,⟨⟨_,by exact_mod_cast Yg⟩,Vg.at fun o q=>(sb.2 it (Ne.symm DM)).trans q⟩,fun b hb=>?_⟩;rw[ao ?_]
  ·exact(hf b hb).1
  ·rcases zak.mp hb with rfl |hb
   ·exact zaF Sg
   ·have z:b=it:=by simpa using hb
    subst z;exact zaF Sh
 done:=by
  intro X hP hw hK hc i pins s σ H E I hf st hg;subst hP hw hK;obtain⟨xs,hq,hx⟩:=hg;obtain⟨⟨old,he⟩,hit⟩:=st;obtain⟨bj,rv,p,hz⟩:=I.list hq;have hl:=rv.length;have Vf:a≠it:=fun z=>by
   subst z;obtain⟨o,h1,h2,_⟩:=p.isList;obtain⟨o',h3,h4,_⟩:=hit;rw[h1] at h3;cases h3;rw[h2] at h4;exact absurd h4 (by decide)
  have DD:=FU (Draws.list (prog:=X.prog) (w:=X.w) (A:=X.A.in1) (I.ok.hd hc) it a Vf bj.toArray);refine wpAny_pyNext_enum_endD DD he ⟨i,?_,hit,p.isList⟩ fun h' eb=>⟨rfl,I.zR (t':=s.toks) (fun b o hb q=>eb b o (fun z=>hb (by simp[z])) q) hf⟩
  rw[zao,hx,hl]
 self:=fun _ _ _ _ _ st h=>st.1.elim fun _ he=>wpAny_pyIter_enum he h
def Ep (K:zac) (ta:TA):TI:=fun σ H R=>ta σ H fun vs H1=>∃a,vs=[.ref a]/\(∃xs,gW K H1 a xs)/\R (Kx K a) H1
theorem Ky{M:Model}{A:zdf}{E:zc5->zde->Prop}{s:zde}{env:Env}{pos:Pos}{T:String}{e:Expr}{rest:List Expr}{QD:List Keyword}{Q:zc5->zde->Prop}
 (h:wpAny M A (spliced (backTo pos (zda (e::rest) env))) (fun vs s1=>wpAny M A (evalAll ((backToKw pos (keywordEach QD env)).map (·.2)))
  (fun bg s2=>wpAny M A (call (.type T) vs (((backToKw pos (keywordEach QD env)).filterMap (·.1)).zip bg)) Q E s2) E s1) E s)
 (he:backTo pos (zda (e::rest) env)=(false,eval e env)::backTo pos (zda rest env):=by rfl)
 (wo:(backTo pos (zda (e::rest) env)).any (·.1)=false:=by rfl)
 (O8:(backToKw pos (keywordEach QD env)).all (·.1.isSome)=true:=by rfl)
 (Yh:(backToKw pos (keywordEach QD env)).any (·.1.isNone)=false:=by rfl) :
 wpAny M A (callWith pos (.type T) [] (backTo pos (zda (e::rest) env)) (backToKw pos (keywordEach QD env))) Q E s:=by
 have h0:wpAny M A (evalArgs (.type T) true (backTo pos (zda (e::rest) env)) (backToKw pos (keywordEach QD env))) (fun a s1=>wpAny M A (call (.type T) ([]++a.pos) a.kw) Q E s1) E s:=by
  rw[he] at h ⊢;exact evalArgs_kwB O8 h
 unfold callWith;refine zc7 (zc9 (wpAny_mono h0 (fun a s1 h1=>zc7 (wpAny_standAt ?_)) fun _ _ x=>x));simp only[wo,Yh,Bool.or_false];refine zc7 (zc8 ?_);exact zc7 (wpAny_mono h1 (fun r s2 hr=>zc7 (zc9 (wpAny_point (zc8 hr)))) fun _ _ x=>x)
theorem Kz{X:Cx}{elts:List Expr}{x1}{tp:Pos}{a:Expr}{ta:TA}{p pos kp np:Pos}{k}(hg:Gl X "enumerate")(hm:X.mg "enumerate"=none)(ha:PA X [a] ta)(hs:zda [a] X.env=[(false,eval a X.env)]:=by rfl) :
 PI X (.Tuple elts x1 tp) (.Call (.Name "enumerate" p) [a] [⟨some "start",.Constant (.int 1) k np,kp⟩] pos) (Ep X.K ta):=by
 intro pins s σ H R I h;refine wpAny_Call_Name_kw (vZ I hg hm PyProof.Rows.Boot.«enumerate» (Ky (d7 (ha pos pins s σ H _ I h) fun us s1 zq=>?_) (by rw[hs];rfl) (by rw[hs];rfl)));obtain⟨vs,H1,I1,r1,l,e,⟨xs,hq⟩,q⟩:=zq;subst e;cases r1 with
 |cons r rr=>
  cases rr;cases (show _=Value.ref l from r);refine kws_cons (wpAny_Constant_int ?_);refine kws_nil ?_;obtain⟨bj,rv,p,hz⟩:=I1.list hq;refine En p.isList fun h' he hit IQ hk=>?_;refine wpAny_pyIter_enum he ?_;have fr:∀b,s1.heap.objs.size<=b->H1 b=none:=fun b hb=>I1.dq.fresh hb;refine⟨s1.heap.objs.size+1,[s1.heap.objs.size+1,s1.heap.objs.size],_,_,H1,rfl,I1.kept (t':=s1.toks+1) hk,Eo l _ _ (Nat.succ_ne_self _),⟨⟨_,he⟩,hit⟩,fun b hb=>?_,q⟩;have FV:s1.heap.objs.size<=b:=by
   rcases zak.mp hb with rfl |hb
   ·exact Nat.le_succ _
   ·have z:b=s1.heap.objs.size:=by simpa using hb
    rw[z];exact zai _
  exact I1.II FV (fr b FV)
theorem G9{K:zac}{a:zc4}{xs:List V}{g:TG}{tb:TS}{D:Ends}{σ:St}{H:Hp}(Pv:Nat->St->Hp->Prop)(h0:Pv 0 σ H)(hl:∀i σ H,i<=xs.length->Pv i σ H->gW K H a xs)
 (hs:∀i x σ H p,xs[i]?=some x->Pv i σ H->H p=none->g (.ref p) σ (upd H p (.tup [.int ((i+1:Nat):Int),x])) fun σ2 H2=>tb {D with nx:=Pv (i+1),ct:=Pv (i+1),bk:=D.nx} σ2 H2) (hd:∀σ H,Pv xs.length σ H->D.nx σ H) :
 ∃W:Nat->Nat->St->Hp->Prop,(∃m,W 0 m σ H)/\∀i m σ H,W i m σ H->
  ((Kx K a).stop i H/\D.nx σ H)\/((Kx K a).go i H/\∃N:St->Hp->Prop,(∀σ' H',N σ' H'->∃m',m'<m/\W (i+1) m' σ' H')/\∀x H',(Kx K a).Gm i H x H'->g x σ H' fun σ2 H2=>tb {D with nx:=N,ct:=N,bk:=D.nx} σ2 H2):=by
 refine⟨fun i m σ H=>m=xs.length-i/\i<=xs.length/\Pv i σ H,⟨xs.length,by simp,za0 _,h0⟩,?_⟩
 rintro i m σ H ⟨rfl,hi,p⟩
 have q:=hl i σ H hi p;by_cases oW:i<xs.length
 ·refine .inr ⟨⟨xs,xs[i],q,by simp[oW]⟩,Pv (i+1),fun σ' H' p'=>⟨xs.length-(i+1),by lia,rfl,oW,p'⟩,fun x H' y=>?_⟩;obtain⟨pp,v,rfl,hn,rfl,y⟩:=y;exact hs i v σ H pp (y xs q) p hn
 ·have e:i=xs.length:=by lia
  subst e;exact .inl ⟨⟨xs,q,rfl⟩,hd σ H p⟩
end L2
namespace PM
def jz:Tr->List W
 |.num _=>[]
 |.box x=>[x]
 |.bin _ l r=>jz l++jz r
def Iq:Tr->Prop
 |.bin o l r=>(o=[42]\/o=[43]\/o=[45])/\Iq l/\Iq r
 |.box x=>isName x=true
 |.num _=>True
theorem Iq.names:∀ {e:Tr},Iq e->∀x∈jz e,isName x=true
 |.num _,_,x,hx=>by cases hx
 |.box y,h,x,hx=>by cases zal.mp hx;exact h
 |.bin o l r,h,x,hx=>by
  rcases zaz.mp hx with z |z
  ·exact Iq.names h.2.1 x z
  ·exact Iq.names h.2.2 x z
def Cm (f:P):Prop:=∀ps e r,f ps=some (e,r)->PG.AF e+r.length<ps.length/\(jz e).length+r.length<=ps.length/\Iq e
theorem t5{ops:List W}{f:P}(h:Cm f)(ho:∀p∈ops,p=[42]\/p=[43]\/p=[45]):∀k e ps e' r,ju ops f k e ps=some (e',r)->Iq e->PG.AF e'+r.length<=PG.AF e+ps.length/\(jz e').length+r.length<=(jz e).length+ps.length/\Iq e'
 |0,e,ps,e',r,q,hp=>by simp only[ju,zav.injEq,Prod.mk.injEq] at q;rw[<- q.1,<- q.2];exact⟨zai _,zai _,hp⟩
 |k+1,e,[],e',r,q,hp=>by simp only[ju,zav.injEq,Prod.mk.injEq] at q;rw[<- q.2,<- q.1];exact⟨zai _,zai _,hp⟩
 |k+1,e,p::t,e',r,q,hp=>by
  unfold ju at q;split at q
  ·rename_i OT;split at q
   ·cases q
   ·rename_i e2 r' hf;obtain⟨h1,h2,h0⟩:=h _ _ _ hf;obtain⟨h3,h4,h5⟩:=t5 h ho k _ _ _ _ q ⟨ho p OT,hp,h0⟩;have e1:PG.AF (.bin p e e2)=max (PG.AF e) (PG.AF e2)+1:=rfl;have e3:(jz (.bin p e e2)).length=(jz e).length+(jz e2).length:=by show (jz e++jz e2).length=_;rw[zaf]
    rw[e1] at h3;rw[e3] at h4;rw[zag];exact⟨by lia,by lia,h5⟩
  ·simp only[zav.injEq,Prod.mk.injEq] at q;rw[<- q.2,<- q.1];exact⟨zai _,zai _,hp⟩
theorem zZ{f:P}(h:Cm f):Cm (gP f):=fun ps e r q=>by
 unfold gP at q;split at q
 ·cases q
 ·rename_i e1 r1 hf;obtain⟨h1,h2,h0⟩:=h _ _ _ hf;obtain⟨h3,h4,h5⟩:=t5 h (fun p hp=>.inl (zal.mp hp)) _ _ _ _ _ q h0;exact⟨by lia,by lia,h5⟩
theorem Cn{f:P}(h:Cm f):Cm (qW f):=fun ps e r q=>by
 unfold qW at q;split at q
 ·cases q
 ·rename_i e1 r1 hf;obtain⟨h1,h2,h0⟩:=zZ h _ _ _ hf;obtain⟨h3,h4,h5⟩:=t5 (zZ h) (fun p hp=>.inr (by simpa using hp)) _ _ _ _ _ q h0;exact⟨by lia,by lia,h5⟩
theorem Co{sub:P}(h:Cm sub):Cm (uL sub):=fun ps e r q=>by
 cases ps with
 |nil=>cases q
 |cons p t=>
  rw[kF] at q;rw[zag];split at q
  ·simp only[zav.injEq,Prod.mk.injEq] at q;rw[<- q.2,<- q.1];exact⟨by show 0+t.length<_;lia,by show 0+t.length<=_;lia,trivial⟩
  ·split at q
   ·rename_i RU;simp only[zav.injEq,Prod.mk.injEq] at q;rw[<- q.2,<- q.1];exact⟨by show 0+t.length<_;lia,by show 1+t.length<=_;lia,RU⟩
   ·split at q
    ·split at q
     ·rename_i e1 q1 r1 hf;split at q
      ·simp only[zav.injEq,Prod.mk.injEq] at q;rw[<- q.2,<- q.1];obtain⟨h1,h2,h0⟩:=h _ _ _ hf;rw[zag] at h1 h2;exact⟨by lia,by lia,h0⟩
      ·cases q
     ·cases q
    ·cases q
theorem uQ:∀n,Cm (factor n)
 |0=>Co fun _ _ _ q=>by cases q
 |n+1=>Co (Cn (uQ n))
theorem rk{w:W}{t:Tr}(h:expr w=some t):PG.AF t<60/\(jz t).length<=60/\Iq t:=by
 unfold expr at h;split at h
 ·cases h
 ·rename_i hl;split at h
  ·rename_i e q;obtain⟨h1,h2,h0⟩:=Cn (uQ 5) _ _ _ q;cases h;have:=qX w;rw[zbe] at h1 h2;exact⟨by lia,by lia,h0⟩
  ·cases h
inductive Fm where
 |box (n:W) (a b:Int) |ask (n:W) |put (n:W) (e:Tr) |say (e:Tr) |cond (k sg:W) (l r:Tr) |one (k:W)
 deriving DecidableEq
def cO:W:=[98,111,120]
def vi:W:=[97,115,107]
def vj:W:=[112,117,116]
def vk:W:=[115,97,121]
def gR:W:=[109,117,115,116]
def cX:W:=[105,102]
def bV:W:=[101,108,115,101]
def aJ:W:=[119,104,105,108,101]
def cm:W:=[101,110,100]
def fI:W:=[115,116,111,112]
def yJ (k:W):Nat:=if k=cO then 4 else if k=vi then 2 else if k=vj then 3 else if k=vk then 2 else if k=gR then 4 else if k=cX then 4 else if k=bV then 1 else if k=aJ then 4 else if k=cm then 1 else if k=fI then 1 else 0
def wY (w:W):Option W:=if isName w then some w else none
def Hd (w:W):Option Int:=if isNumber w then some (nR w) else none
def He (ws:List W):Option Fm:=(wY (ws.getD 1 [])).bind fun n=>(Hd (ws.getD 2 [])).bind fun a=>(Hd (ws.getD 3 [])).map (.box n a)
def Cp (ws:List W):Option Fm:=if ws.getD 2 []=[60]\/ws.getD 2 []=[61] then (expr (ws.getD 1 [])).bind fun l=>(expr (ws.getD 3 [])).map (.cond (ws.headD []) (ws.getD 2 []) l) else none
def iz (ws:List W):Option Fm:=
 if yJ (ws.headD [])≠ws.length then none
 else if ws.headD []=cO then He ws
 else if ws.headD []=vi then (wY (ws.getD 1 [])).map .ask
 else if ws.headD []=vj then (wY (ws.getD 1 [])).bind fun n=>(expr (ws.getD 2 [])).map (.put n)
 else if ws.headD []=vk then (expr (ws.getD 1 [])).map .say
 else if ws.headD []=gR\/ws.headD []=cX\/ws.headD []=aJ then Cp ws
 else some (.one (ws.headD []))
def Si (e:Tr):Prop:=Iq e/\PG.AF e<60/\(jz e).length<=60
theorem vP{w:W}{t:Tr}(h:expr w=some t):Si t:=⟨(rk h).2.2,(rk h).1,(rk h).2.1⟩
def N5:Fm->Prop
 |.box _ _ _=>False
 |.ask n=>isName n=true
 |.put n e=>isName n=true/\Si e
 |.say e=>Si e
 |.cond k _ l r=>(k=gR\/k=cX\/k=aJ)/\Si l/\Si r
 |.one k=>k=fI
def PQ:Fm->Prop
 |.box _ _ _=>True
 |.one k=>k=bV\/k=cm\/k=fI
 |f=>N5 f
theorem Cq{w n:W}(h:wY w=some n):n=w/\isName n=true:=by
 unfold wY at h;split at h
 ·rename_i z;cases h;exact⟨rfl,z⟩
 ·cases h
theorem FW{ws:List W}{f:Fm}(hw:ws≠[])(h:iz ws=some f):PQ f:=by
 unfold iz at h;split at h
 ·cases h
 rename_i hc;split at h
 ·unfold He at h;cases hx:wY (ws.getD 1 []) with
  |none=>rw[hx] at h;cases h
  |some n=>
   rw[hx] at h;cases hy:Hd (ws.getD 2 []) with
   |none=>rw[hy] at h;cases h
   |some a=>
    rw[hy] at h;cases hz:Hd (ws.getD 3 []) with
    |none=>rw[hz] at h;cases h
    |some b=>rw[hz] at h;cases h;exact trivial
 rename_i nb;split at h
 ·cases hx:wY (ws.getD 1 []) with
  |none=>rw[hx] at h;cases h
  |some n=>rw[hx] at h;cases h;exact(Cq hx).2
 rename_i na;split at h
 ·cases hx:wY (ws.getD 1 []) with
  |none=>rw[hx] at h;cases h
  |some n=>
   rw[hx] at h;cases hy:expr (ws.getD 2 []) with
   |none=>rw[hy] at h;cases h
   |some e=>rw[hy] at h;cases h;exact⟨(Cq hx).2,vP hy⟩
 rename_i np;split at h
 ·cases hy:expr (ws.getD 1 []) with
  |none=>rw[hy] at h;cases h
  |some e=>rw[hy] at h;cases h;exact vP hy
 rename_i ns;split at h
 ·rename_i hk;unfold Cp at h;split at h
  ·cases hx:expr (ws.getD 1 []) with
   |none=>rw[hx] at h;cases h
   |some l=>
    rw[hx] at h;cases hy:expr (ws.getD 3 []) with
    |none=>rw[hy] at h;cases h
    |some r=>rw[hy] at h;cases h;exact⟨hk,vP hx,vP hy⟩
  ·cases h
 rename_i nk;cases h;have hp:yJ (ws.headD [])≠0:=fun z=>hc (by rw[z];intro q;exact hw (zaO.mp q.symm));show ws.headD []=bV\/ws.headD []=cm\/ws.headD []=fI;generalize ws.headD []=k at *;unfold yJ at hp;rw[if_neg nb,if_neg na,if_neg np,if_neg ns,if_neg (fun z=>nk (.inl z)),if_neg (fun z=>nk (.inr (.inl z)))] at hp;by_cases h1:k=bV
 ·exact .inl h1
 rw[if_neg h1,if_neg (fun z=>nk (.inr (.inr z)))] at hp;by_cases h2:k=cm
 ·exact .inr (.inl h2)
 rw[if_neg h2] at hp;by_cases h3:k=fI
 ·exact .inr (.inr h3)
 rw[if_neg h3] at hp;exact absurd rfl hp
inductive Er where
 |sH |qu |sI |vQ |qv |twice |wZ |full |FX
 deriving DecidableEq
structure Df where
 jL:List W
 Cr:Bool
 dY:List Bool
def vm:Fm->List W
 |.ask n=>[n]
 |.put n e=>n::jz e
 |.say e=>jz e
 |.cond _ _ l r=>jz l++jz r
 |_=>[]
def AJ (d:Df) (n:W) (a b:Int):Except Er Df:=
 if d.Cr then .error .qu else if ¬(2<=a/\a<=10/\b<a) then .error .qv else if n∈d.jL then .error .twice else if d.jL.length=4 then .error .full else .ok {d with jL:=d.jL++[n]}
def nu (d:Df):Except Er Df:=if d.dY.getLast?=some true then .ok {d with dY:=d.dY.dropLast++[false]} else .error .qu
def t6 (d:Df):Except Er Df:=if d.dY=[] then .error .qu else .ok {d with dY:=d.dY.dropLast}
def opens:Fm->Option Bool
 |.cond k _ _ _=>if k=cX then some true else if k=aJ then some false else none
 |_=>none
def lT (d:Df) (f:Fm):Except Er Df:=
 if (opens f).isSome/\d.dY.length=5 then .error .vQ else if ∀n∈vm f,n∈d.jL then .ok {d with Cr:=true,dY:=d.dY++(opens f).toList} else .error .FX
def jA (d:Df):Fm->Except Er Df
 |.box n a b=>AJ d n a b
 |.one k=>if k=bV then nu d else if k=cm then t6 d else lT d (.one k)
 |f=>lT d f
def cL:Df->List W->Except Er Df
 |d,[]=>.ok d
 |d,r::rs=>match iz (L2.a9 32 r) with
  |none=>.error .sH
  |some f=>match jA d f with
   |.error e=>.error e
   |.ok d'=>cL d' rs
def oC (rows:List W):Option Er:=if 80<rows.length then some .sI else match cL ⟨[],false,[]⟩ rows with
 |.error e=>some e
 |.ok d=>if d.dY=[] then none else some .wZ
end PM
namespace L2
open PySem PySem.Spec PyProof.Rows
def Cs:PM.Fm->Dp
 |.box n a b=>.tup [.str "box",.str (S n),.int a,.int b]
 |.ask n=>.tup [.str "ask",.str (S n)]
 |.put n e=>.tup [.str "put",.str (S n),oT e]
 |.say e=>.tup [.str "say",oT e]
 |.cond k sg l r=>.tup [.str (S k),.str (S sg),oT l,oT r]
 |.one k=>.tup [.str (S k)]
section
variable(K:zac)(CN:zc4)
def M9:Sp:=fun vs H Q E=>∃w:W,vs=[sv w]/\w.length<=4000000/\match PM.wY w with
 |none=>∀H',aq H H'->E (.ref CN) none H'
 |some _=>∀H',aq H H'->Q (sv w) H'
def PR:Sp:=fun vs H Q E=>∃w:W,vs=[sv w]/\w.length<=4000000/\match PM.Hd w with
 |none=>∀H',aq H H'->E (.ref CN) none H'
 |some n=>∀H',aq H H'->Q (.int n) H'
inductive AK(f:List W->Option PM.Fm)(vs:List V)(H:Hp)(Q:VK)(E:XK):Prop
 |mk (a:zc4) (ws:List W):vs=[.ref a]->H a=some (.lst (ws.map sv))->(∀w∈ws,w.length<=4000000)->ws.length=4->(f ws=none->∀H',aq H H'->E (.ref CN) none H')->(∀fm,f ws=some fm->∀v H',aq H H'->Rep K H' (Cs fm) v->Q v H')->AK f vs H Q E
inductive KA(vs:List V)(H:Hp)(Q:VK)(E:XK):Prop
 |mk (row:W):vs=[sv row]->row.length<=3000000->(PM.iz (a9 32 row)=none->∀H',aq H H'->E (.ref CN) none H')->(∀fm,PM.iz (a9 32 row)=some fm->∀v H',aq H H'->Rep K H' (Cs fm) v->Q v H')->KA vs H Q E
inductive nv(n:Nat)(vs:List V)(H:Hp)(Q:VK)(E:XK):Prop
 |mk (v:V) (e:PM.Tr):vs=[v]->Rep K H (oT e) v->PM.Iq e->PG.AF e<n->(PM.jz e).length<=100->(∀l H',aq H H'->H l=none->H' l=some (.lst ((PM.jz e).map sv))->Q (.ref l) H')->nv n vs H Q E
end
theorem nW(c:Nat):∀w:W,∀x∈a9 c w,x.length<=w.length
 |[],x,h=>by
  cases zal.mp h;exact zai _
 |y::r,x,h=>by
  have ih:=nW c r;unfold a9 at h;rw[zag];split at h
  ·rcases zak.mp h with rfl |h
   ·exact za0 _
   ·have:=ih x h;lia
  ·split at h
   ·cases zal.mp h;exact Nat.succ_le_succ (za0 _)
   ·rename_i a b e;rcases zak.mp h with rfl |h
    ·have:=ih a (by rw[e];exact zaD);rw[zag];lia
    ·have:=ih x (by rw[e];exact zaq _ h);lia
def FY:List (W×Nat)->W->Nat
 |[],_=>0
 |p::l,k=>if k=p.1 then p.2 else FY l k
theorem Ct(k:W):∀l:List (W×Nat),((d4 (κ:=Key) (l.map fun p=>((.inr (S p.1):Key),V.int p.2)) (.inr (S k))).getD (.int 0))=V.int (FY l k)
 |[]=>rfl
 |p::l=>by
  have ih:=Ct k l;unfold d4 at ih ⊢;rw[zay,zbu];unfold FY;by_cases h:k=p.1
  ·rw[if_pos h];have:decide ((Sum.inr (S p.1):Key)=Sum.inr (S k))=true:=decide_eq_true (by rw[h]);simp only[this];rfl
  ·rw[if_neg h];have:decide ((Sum.inr (S p.1):Key)=Sum.inr (S k))=false:=decide_eq_false fun z=>h (B2.mp (Sum.inr.inj z)).symm;simp only[this];exact ih
theorem bt{k:W}{x:Str}{u:W}(e:x=S u):(sv k=V.str x)↔k=u:=by
 rw[e];exact iC
def Vi:List (W×Nat):=[(PM.cO,4),(PM.vi,2),(PM.vj,3),(PM.vk,2),(PM.gR,4),(PM.cX,4),(PM.bV,1),(PM.aJ,4),(PM.cm,1),(PM.fI,1)]
theorem KC(k:W):FY Vi k=PM.yJ k:=rfl
theorem jQ:zaa "box"=S PM.cO:=by decide +kernel
theorem KD:zaa "ask"=S PM.vi:=by decide +kernel
theorem KG:zaa "put"=S PM.vj:=by decide +kernel
theorem KI:zaa "say"=S PM.vk:=by decide +kernel
theorem N6:zaa "must"=S PM.gR:=by decide +kernel
theorem yK:zaa "if"=S PM.cX:=by decide +kernel
theorem kH:zaa "else"=S PM.bV:=by decide +kernel
theorem dv:zaa "while"=S PM.aJ:=by decide +kernel
theorem t7:zaa "end"=S PM.cm:=by decide +kernel
theorem FZ:zaa "stop"=S PM.fI:=by decide +kernel
def AL {α:Type} (F:α->V->Prop) (l:List α) (us:List V):Prop:=us.length=l.length/\∀(i:Nat) x u,l[i]?=some x->us[i]?=some u->F x u
section
variable{α:Type}{F G:α->V->Prop}{l:List α}{us:List V}
theorem AL.nil:AL F [] []:=⟨rfl,fun i x u h=>by cases h⟩
theorem AL.imp(h:AL F l us)(f:∀x u,F x u->G x u):AL G l us:=⟨h.1,fun i x u h1 h2=>f x u (h.2 i x u h1 h2)⟩
theorem AL.snoc{x:α}{u:V}(h:AL F l us)(f:F x u):AL F (l++[x]) (us++[u]):=by
 refine⟨by rw[zaf,zaf,h.1];rfl,fun i y v h1 h2=>?_⟩;by_cases hi:i<l.length
 ·rw[zbk hi] at h1;rw[zbk (by rw[h.1];exact hi)] at h2;exact h.2 i y v h1 h2
 ·have h3:i<(l++[x]).length:=(zan.mp h1).1;rw[zaf,zau] at h3;have e:i=l.length:=by lia
  subst e;rw[za3 (zai _),zb2] at h1;rw[za3 (by rw[h.1];exact zai _),h.1,zb2] at h2;cases h1;cases h2;exact f
theorem AL.drop(h:AL F l us):AL F l.dropLast us.dropLast:=by
 refine⟨by rw[zaU,zaU,h.1],fun i x u h1 h2=>?_⟩;have k1:i<l.dropLast.length:=(zan.mp h1).1;have k2:i<us.dropLast.length:=(zan.mp h2).1;rw[zaU] at k1 k2;rw[zcI,if_pos k1] at h1;rw[zcI,if_pos k2] at h2;exact h.2 i x u h1 h2
theorem AL.last{x:α}(h:AL F l us)(hx:l.getLast?=some x):∃u,us.getLast?=some u/\F x u:=by
 rw[zaZ] at hx;have k:l.length-1<l.length:=(zan.mp hx).1;have k2:us.length-1<us.length:=by rw[h.1];exact k
 refine⟨us[us.length-1],by rw[zaZ];exact zah k2,?_⟩;exact h.2 (l.length-1) x _ hx (by rw[<- h.1];exact zah k2)
end
def QE (O:zc4->Prop) (bx ns L:zc4):Prop:=O L/\L≠bx/\L≠ns
def Es (K:zac) (H:Hp) (O:zc4->Prop) (bx ns:zc4) (k:Bool) (u:V):Prop:=∃a L x,u=.ref a/\eQ K H a [.ref L,x]/\QE O bx ns L/\if k=true then ∃L2,x=.ref L2/\QE O bx ns L2 else x=.da
def KJ (K:zac) (H:Hp) (n:W) (u:V):Prop:=∃a r,u=.ref a/\eQ K H a (sv n::r)
structure tL(K:zac)(CD:zc4)(O:zc4->Prop)(H:Hp)(p bx bd ns:zc4)(d:PM.Df)(m:Nat):Prop where
 own:∀b,O b->∃zs,H b=some (.lst zs)/\zs.length<=m
 DN:O bx
 LW:O bd
 Aa:O ns
 d1:bx≠bd
 d2:bx≠ns
 d3:bd≠ns
 ins:∃dx,H p=some (.ins CD dx [("boxes",.ref bx),("body",.ref bd),("nest",.ref ns)])
 box:∃us,H bx=some (.lst us)/\AL (KJ K H) d.jL us
 LX:∃ys,H bd=some (.lst ys)/\(ys=[]↔d.Cr=false)
 DO:∃us,H ns=some (.lst us)/\AL (Es K H O bx ns) d.dY us
 nb:d.dY≠[]->d.Cr=true
section
variable{K:zac}{CD:zc4}{O:zc4->Prop}{H H':Hp}{p bx bd ns:zc4}{d:PM.Df}{m:Nat}
theorem Es.imp{O':zc4->Prop}{k:Bool}{u:V}(h:Es K H O bx ns k u)(t:∀a xs,eQ K H a xs->eQ K H' a xs)(i:∀b,O b->O' b):Es K H' O' bx ns k u:=by
 obtain⟨a,L,x,e,h1,h2,h3⟩:=h;refine⟨a,L,x,e,t _ _ h1,⟨i _ h2.1,h2.2⟩,?_⟩;cases k with
 |false=>exact h3
 |true=>
  obtain⟨L2,e2,h4⟩:=h3;exact⟨L2,e2,i _ h4.1,h4.2⟩
theorem KJ.imp{n:W}{u:V}(h:KJ K H n u)(t:∀a xs,eQ K H a xs->eQ K H' a xs):KJ K H' n u:=by
 obtain⟨a,r,e,h1⟩:=h;exact⟨a,r,e,t _ _ h1⟩
theorem tL.mono(h:tL K CD O H p bx bd ns d m)(s:aq H H'):tL K CD O H' p bx bd ns d m where
 own:=fun b hb=>by obtain⟨zs,e,l⟩:=h.own b hb;exact⟨zs,s _ _ e,l⟩
 DN:=h.DN
 LW:=h.LW
 Aa:=h.Aa
 d1:=h.d1
 d2:=h.d2
 d3:=h.d3
 ins:=by obtain⟨dx,e⟩:=h.ins;exact⟨dx,s _ _ e⟩
 box:=by obtain⟨us,e,i⟩:=h.box;exact⟨us,s _ _ e,i.imp fun _ _ z=>z.imp fun _ _=>s.kD⟩
 LX:=by obtain⟨us,e,i⟩:=h.LX;exact⟨us,s _ _ e,i⟩
 DO:=by obtain⟨us,e,i⟩:=h.DO;exact⟨us,s _ _ e,i.imp fun _ _ z=>z.imp (fun _ _=>s.kD) fun _ z=>z⟩
 nb:=h.nb
theorem tL.more{k:Nat}(h:tL K CD O H p bx bd ns d m)(l:m<=k):tL K CD O H p bx bd ns d k:=
 {h with own:=fun b hb=>by obtain⟨zs,e,z⟩:=h.own b hb;exact⟨zs,e,zaA z l⟩}
theorem tL.jM(h:tL K CD O H p bx bd ns d m){L:zc4}(hL:O L){zs:List V}{a:zc4}{xs:List V}(q:eQ K H a xs):eQ K (upd H L (.lst zs)) a xs:=by
 obtain⟨ys,e,_⟩:=h.own L hL;exact q.ng e ((bM.refl _ _).put _)
theorem tL.Sj(h:tL K CD O H p bx bd ns d m){L:zc4}(hL:O L):p≠L:=fun z=>by
 obtain⟨zs,e,_⟩:=h.own L hL;obtain⟨dx,e2⟩:=h.ins;rw[z,e] at e2;cases e2
theorem tL.AM(h:tL K CD O H p bx bd ns d m){L:zc4}(hL:QE O bx ns L)(hd:d.dY=[]->L=bd){zs:List V}{x:V}(e:H L=some (.lst zs)):tL K CD O (upd H L (.lst (zs++[x]))) p bx bd ns {d with Cr:=true} (m+1) where
 own:=fun b hb=>by
  by_cases z:b=L
  ·subst z;obtain⟨ys,e2,l⟩:=h.own b hb;rw[e] at e2;cases e2;exact⟨_,ae,by rw[zaf,zau];lia⟩
  ·obtain⟨ys,e2,l⟩:=h.own b hb;exact⟨ys,by rw[ao z];exact e2,by lia⟩
 DN:=h.DN
 LW:=h.LW
 Aa:=h.Aa
 d1:=h.d1
 d2:=h.d2
 d3:=h.d3
 ins:=by obtain⟨dx,e2⟩:=h.ins;exact⟨dx,by rw[ao (h.Sj hL.1)];exact e2⟩
 box:=by obtain⟨us,e2,i⟩:=h.box;exact⟨us,by rw[ao (Ne.symm hL.2.1)];exact e2,i.imp fun _ _ z=>z.imp fun _ _=>h.jM hL.1⟩
 LX:=by
  obtain⟨us,e2,i⟩:=h.LX;by_cases z:bd=L
  ·subst z;exact⟨_,ae,by simp⟩
  ·refine⟨us,by rw[ao z];exact e2,?_⟩;have:d.Cr=true:=h.nb fun q=>z (hd q).symm;rw[this] at i;exact i
 DO:=by obtain⟨us,e2,i⟩:=h.DO;exact⟨us,by rw[ao (Ne.symm hL.2.2)];exact e2,i.imp fun _ _ z=>z.imp (fun _ _=>h.jM hL.1) fun _ z=>z⟩
 nb:=fun _=>rfl
theorem tL.boxed(h:tL K CD O H p bx bd ns d m){us:List V}{n:W}{x:V}(e:H bx=some (.lst us))(hx:KJ K H n x):tL K CD O (upd H bx (.lst (us++[x]))) p bx bd ns {d with jL:=d.jL++[n]} (m+1) where
 own:=fun b hb=>by
  by_cases z:b=bx
  ·subst z;obtain⟨ys,e2,l⟩:=h.own b hb;rw[e] at e2;cases e2;exact⟨_,ae,by rw[zaf,zau];lia⟩
  ·obtain⟨ys,e2,l⟩:=h.own b hb;exact⟨ys,by rw[ao z];exact e2,by lia⟩
 DN:=h.DN
 LW:=h.LW
 Aa:=h.Aa
 d1:=h.d1
 d2:=h.d2
 d3:=h.d3
 ins:=by obtain⟨dx,e2⟩:=h.ins;exact⟨dx,by rw[ao (h.Sj h.DN)];exact e2⟩
 box:=by
  obtain⟨vs,e2,i⟩:=h.box;rw[e] at e2;cases e2;exact⟨_,ae,(i.snoc hx).imp fun _ _ z=>z.imp fun _ _=>h.jM h.DN⟩
 LX:=by obtain⟨us,e2,i⟩:=h.LX;exact⟨us,by rw[ao (Ne.symm h.d1)];exact e2,i⟩
 DO:=by obtain⟨us,e2,i⟩:=h.DO;exact⟨us,by rw[ao (Ne.symm h.d2)];exact e2,i.imp fun _ _ z=>z.imp (fun _ _=>h.jM h.DN) fun _ z=>z⟩
 nb:=h.nb
theorem tL.jP{O':zc4->Prop}(h:tL K CD O H p bx bd ns d m)(io:∀b,O b->O' b)(no:∀b,O' b->O b\/H b=some (.lst [])){us:List V}{ks:List Bool}(l:us.length<=m+1)(i:AL (Es K H O' bx ns) ks us)(nb:ks≠[]->d.Cr=true):tL K CD O' (upd H ns (.lst us)) p bx bd ns {d with dY:=ks} (m+1) where
 own:=fun b hb=>by
  by_cases z:b=ns
  ·subst z;exact⟨_,ae,l⟩
  ·rcases no b hb with q |q
   ·obtain⟨ys,e2,l⟩:=h.own b q;exact⟨ys,by rw[ao z];exact e2,by lia⟩
   ·exact⟨[],by rw[ao z];exact q,za0 _⟩
 DN:=io _ h.DN
 LW:=io _ h.LW
 Aa:=io _ h.Aa
 d1:=h.d1
 d2:=h.d2
 d3:=h.d3
 ins:=by obtain⟨dx,e2⟩:=h.ins;exact⟨dx,by rw[ao (h.Sj h.Aa)];exact e2⟩
 box:=by obtain⟨us,e2,i⟩:=h.box;exact⟨us,by rw[ao h.d2];exact e2,i.imp fun _ _ z=>z.imp fun _ _=>h.jM h.Aa⟩
 LX:=by obtain⟨us,e2,i⟩:=h.LX;exact⟨us,by rw[ao h.d3];exact e2,i⟩
 DO:=⟨us,ae,i.imp fun _ _ z=>z.imp (fun _ _=>h.jM h.Aa) fun _ z=>z⟩
 nb:=nb
end
def PU (K:zac) (CD:zc4) (ce:PM.Er->zc4) (O:zc4->Prop) (H:Hp) (p bx bd ns:zc4) (m:Nat) (Q:VK) (E:XK):Except PM.Er PM.Df->Prop
 |.error e=>∀H',bD O H H'->E (.ref (ce e)) none H'
 |.ok d'=>∀O' H',(∀b,O' b->O b\/H b=none)->bD O H H'->tL K CD O' H' p bx bd ns d' (m+2)->Q .da H'
section
variable(K:zac)(CD:zc4)(ce:PM.Er->zc4)
inductive F0(vs:List V)(H:Hp)(Q:VK)(E:XK):Prop
 |mk (O:zc4->Prop) (p bx bd ns:zc4) (d:PM.Df) (m:Nat):vs=[.ref p]->tL K CD O H p bx bd ns d m->(∀L,QE O bx ns L->(d.dY=[]->L=bd)->Q (.ref L) H)->F0 vs H Q E
inductive Cu(vs:List V)(H:Hp)(Q:VK)(E:XK):Prop
 |mk (O:zc4->Prop) (p bx bd ns:zc4) (d:PM.Df) (m:Nat):vs=[.ref p]->tL K CD O H p bx bd ns d m->(d.dY.getLast?=some true->∀L,QE O bx ns L->Q (.ref L) H)->(d.dY.getLast?≠some true->Q .da H)->Cu vs H Q E
inductive w5(vs:List V)(H:Hp)(Q:VK)(E:XK):Prop
 |mk (O:zc4->Prop) (p bx bd ns:zc4) (d:PM.Df) (m:Nat):vs=[.ref p]->tL K CD O H p bx bd ns d m->m<=1000->(∀l H',aq H H'->H l=none->H' l=some (.lst (d.jL.map sv))->Q (.ref l) H')->w5 vs H Q E
inductive Cv(vs:List V)(H:Hp)(Q:VK)(E:XK):Prop
 |mk (p dx:zc4):vs=[.ref p]->H p=some (.ins CD dx [])->H dx=some (.own p)->(∀(O:zc4->Prop) bx bd ns H',(∀b,O b->H b=none)->bM p H H'->tL K CD O H' p bx bd ns ⟨[],false,[]⟩ 0->Q .da H')->Cv vs H Q E
inductive F1(vs:List V)(H:Hp)(Q:VK)(E:XK):Prop
 |mk (O:zc4->Prop) (p bx bd ns:zc4) (d:PM.Df) (m:Nat) (k:Int) (v:V) (n:W) (a b:Int):vs=[.ref p,.int k,v]->tL K CD O H p bx bd ns d m->m<=1000->(0<=k/\k<=1000)->Rep K H (.tup [.str (S n),.int a,.int b]) v->PU K CD ce O H p bx bd ns m Q E (PM.AJ d n a b)->F1 vs H Q E
inductive w6(f:PM.Df->Except PM.Er PM.Df)(vs:List V)(H:Hp)(Q:VK)(E:XK):Prop
 |mk (O:zc4->Prop) (p bx bd ns:zc4) (d:PM.Df) (m:Nat) (k:Int):vs=[.ref p,.int k]->tL K CD O H p bx bd ns d m->m<=1000->(0<=k/\k<=1000)->PU K CD ce O H p bx bd ns m Q E (f d)->w6 f vs H Q E
inductive F2(ok:PM.Fm->Prop)(f:PM.Df->PM.Fm->Except PM.Er PM.Df)(vs:List V)(H:Hp)(Q:VK)(E:XK):Prop
 |mk (O:zc4->Prop) (p bx bd ns:zc4) (d:PM.Df) (m:Nat) (k:Int) (v:V) (fm:PM.Fm):vs=[.ref p,.int k,v]->tL K CD O H p bx bd ns d m->m<=1000->(0<=k/\k<=1000)->Rep K H (Cs fm) v->ok fm->PU K CD ce O H p bx bd ns m Q E (f d fm)->F2 ok f vs H Q E
end
theorem vR{k:Int}(h:0<=k/\k<=1000):(zaa (toString k)).length<=10:=by
 have e:=V.str.inj (AE k h.1);rw[e,ez];exact(PM.JJ k.toNat (by lia)).2
theorem rm{C:zc4}{E:XK}{D:Ends}{x0:Option V}{r:St}{H:Hp}{a b:Str}{k:Int}(hk:0<=k/\k<=1000)(ha:a.length<=1000)(hb:b.length<=1000)(q:E (.ref C) none H) :
 Ea C E (Fg (Vb [tC (.str a),N4 (eP 1),tC (.str b)]) Gw) D (x0::some (.int k)::r) H:=by
 have line:zdc=2 ^ 24:=rfl;have ld:=vR hk;have l0:Str.empty.length=0:=rfl;refine⟨a,rfl,by rw[strLen_append,l0];lia,.inl ⟨k,rfl,by lia,zaa (toString k),rfl,by rw[strLen_append,strLen_append,l0];lia,b,rfl,by rw[strLen_append,strLen_append,strLen_append,l0];lia,(show 1<=zdc by decide),q⟩⟩
theorem PV{C:zc4}{E:XK}{D:Ends}{σ:St}{i:Nat}{H:Hp}{a b c n:Str}{k:Int}(hk:0<=k/\k<=1000)(ha:a.length<=1000)(hb:b.length<=1000)(hc:c.length<=1000)(hn:n.length<=1000)
 (h1:∀H Q,Q (.int k) H->eP 1 σ H Q) (h2:∀H Q,Q (.str n) H->eP i σ H Q) (q:E (.ref C) none H) :
 Ea C E (Fg (Vb [tC (.str a),N4 (eP 1),tC (.str b),N4 (eP i),tC (.str c)]) Gw) D σ H:=by
 have line:zdc=2 ^ 24:=rfl;have ld:=vR hk;have l0:Str.empty.length=0:=rfl;refine⟨a,rfl,by rw[strLen_append,l0];lia,?_⟩;rw[Se,N4];refine h1 _ _ ?_;refine .inl ⟨k,rfl,by lia,zaa (toString k),rfl,by rw[strLen_append,strLen_append,l0];lia,b,rfl,by rw[strLen_append,strLen_append,strLen_append,l0];lia,?_⟩;rw[Se,N4];refine h2 _ _ ?_;exact .inr ⟨n,rfl,by lia,n,rfl,by rw[strLen_append,strLen_append,strLen_append,strLen_append,l0];lia,c,rfl,by rw[strLen_append,strLen_append,strLen_append,strLen_append,strLen_append,l0];lia,(show 1<=zdc by decide),q⟩
section
variable(K:zac)
inductive Cw(vs:List V)(H:Hp)(Q:VK)(E:XK):Prop
 |mk (v:V) (f:PM.Fm):vs=[v]->Rep K H (Cs f) v->PM.N5 f->(∀l H',aq H H'->H l=none->H' l=some (.lst ((PM.vm f).map sv))->Q (.ref l) H')->Cw vs H Q E
def Sk (k:W):Nat:=if k=PM.cX then 2 else if k=PM.aJ then 1 else 0
inductive KL(vs:List V)(H:Hp)(Q:VK)(E:XK):Prop
 |mk (k:W):vs=[sv k]->(∀(bs:List zc4) l H',aq H H'->H l=none->H' l=some (.lst (bs.map V.ref))->bs.length=Sk k->(∀b∈bs,H b=none/\H' b=some (.lst []))->Q (.ref l) H')->KL vs H Q E
end
def w8:PM.Fm->W
 |.box _ _ _=>PM.cO
 |.ask _=>PM.vi
 |.put _ _=>PM.vj
 |.say _=>PM.vk
 |.cond k _ _ _=>k
 |.one k=>k
theorem Ab{K:zac}{H:Hp}{f:PM.Fm}{v:V}(h:Rep K H (Cs f) v):∃a ys,v=.ref a/\eQ K H a (sv (w8 f)::ys)/\ys.length<=3:=by
 cases f with
 |box n i j=>
  unfold Cs at h;simp only[Rep.cj,bc.bL,bc.bX,Rep.bf] at h;obtain⟨a,xs,rfl,hS,_,_,rfl,rfl,_,_,rfl,_,_,_,rfl,_,_,_,rfl,_,rfl⟩:=h;rw[jQ] at hS;exact⟨a,_,rfl,hS,by simp⟩
 |ask n=>
  unfold Cs at h;simp only[Rep.cj,bc.bL,bc.bX,Rep.bf] at h;obtain⟨a,xs,rfl,hS,_,_,rfl,rfl,_,_,rfl,_,rfl⟩:=h;rw[KD] at hS;exact⟨a,_,rfl,hS,by simp⟩
 |put n e=>
  unfold Cs at h;simp only[Rep.cj,bc.bL,bc.bX,Rep.bf] at h;obtain⟨a,xs,rfl,hS,_,_,rfl,rfl,_,_,rfl,_,_,_,rfl,_,rfl⟩:=h;rw[KG] at hS;exact⟨a,_,rfl,hS,by simp⟩
 |say e=>
  unfold Cs at h;simp only[Rep.cj,bc.bL,bc.bX,Rep.bf] at h;obtain⟨a,xs,rfl,hS,_,_,rfl,rfl,_,_,rfl,_,rfl⟩:=h;rw[KI] at hS;exact⟨a,_,rfl,hS,by simp⟩
 |cond k sg x y=>
  unfold Cs at h;simp only[Rep.cj,bc.bL,bc.bX,Rep.bf] at h;obtain⟨a,xs,rfl,hS,_,_,rfl,rfl,_,_,rfl,_,_,_,rfl,_,_,_,rfl,_,rfl⟩:=h;exact⟨a,_,rfl,hS,by simp⟩
 |one k=>
  unfold Cs at h;simp only[Rep.cj,bc.bL,bc.bX,Rep.bf] at h;obtain⟨a,xs,rfl,hS,_,_,rfl,rfl,rfl⟩:=h;exact⟨a,_,rfl,hS,by simp⟩
theorem KN{f:PM.Fm}(h:PM.N5 f):PM.opens f=if w8 f=PM.cX then some true else if w8 f=PM.aJ then some false else none:=by
 cases f with
 |box n i j=>exact h.elim
 |cond k sg x y=>rfl
 |one k=>
  cases (show k=PM.fI from h);decide
 |ask n=>show none=if PM.vi=PM.cX then some true else if PM.vi=PM.aJ then some false else none;decide
 |put n e=>show none=if PM.vj=PM.cX then some true else if PM.vj=PM.aJ then some false else none;decide
 |say e=>show none=if PM.vk=PM.cX then some true else if PM.vk=PM.aJ then some false else none;decide
theorem Et{f:PM.Fm}(h:PM.N5 f):∀n∈PM.vm f,PM.isName n=true:=by
 intro n hn;cases f with
 |box n i j=>exact h.elim
 |one k=>cases hn
 |ask x=>cases zal.mp hn;exact h
 |put x e=>
  rcases zak.mp hn with rfl |hn
  ·exact h.1
  ·exact h.2.1.names n hn
 |say e=>exact h.1.names n hn
 |cond k sg x y=>
  rcases zaz.mp hn with z |z
  ·exact h.2.1.1.names n z
  ·exact h.2.2.1.names n z
theorem w9{f:PM.Fm}(h:PM.N5 f):(PM.vm f).length<=200:=by
 cases f with
 |box n i j=>exact h.elim
 |one k=>show 0<=_;lia
 |ask x=>show 1<=_;lia
 |put x e=>have:=h.2.2.2;show (PM.jz e).length+1<=_;lia
 |say e=>have:=h.2.2;show (PM.jz e).length<=_;lia
 |cond k sg x y=>have a:=h.2.1.2.2;have b:=h.2.2.2.2;show (PM.jz x++PM.jz y).length<=_;rw[zaf];lia
theorem KO{n:W}(h:PM.isName n=true):n.length<=8:=by
 unfold PM.isName at h;simp only[zaK,decide_eq_true_eq] at h;exact h.1.1.2
theorem Cy{K:zac}{H:Hp}{a b:zc4}{xs ys:List V}{Q:VK}(h1:eQ K H a xs)(h2:eQ K H b ys)(ne:xs≠[])(hl:xs.length+ys.length<=zdc)(q:∀c H',aq H H'->eQ K H' c (xs++ys)->Q (.ref c) H'):NH K (.ref a) (.ref b) H Q:=by
 refine⟨a,b,xs,ys,rfl,rfl,h1,h2,ne,hl,fun e=>?_,fun _ p hp=>q p _ (aq.new hp _) (.of ae)⟩;refine q a H (aq.refl _) ?_;rw[e,zaP];exact h1
theorem Cz{K:zac}{H:Hp}{a:zc4}{x:V}{xs:List V}{Q:VK}(h:eQ K H a (x::xs))(q:∀c H',aq H H'->eQ K H' c xs->Q (.ref c) H'):Rj K (.ref a) (some 1) none H Q:=by
 refine⟨a,_,rfl,h,fun z=>?_,fun p hp=>q p _ (aq.new hp _) (.of ?_)⟩
 ·have e:=z.1;unfold HT.iB at e;simp at e
 ·rw[ae,show (1:Int)=((1:Nat):Int) from rfl,Ko];rfl
inductive Sl(ce:PM.Er->zc4)(vs:List V)(H:Hp)(Q:VK)(E:XK):Prop
 |mk (text:W):vs=[sv text]->text.length<=3000000->(∀e,PM.oC (a9 10 text)=some e->∀H',aq H H'->E (.ref (ce e)) none H')->(PM.oC (a9 10 text)=none->∀v H',aq H H'->Q v H')->Sl ce vs H Q E
end L2
namespace PM
def bp:Er->Nat
 |.sH=>0
 |.qu=>1
 |.sI=>2
 |.vQ=>3
 |.qv=>4
 |.twice=>5
 |.wZ=>6
 |.full=>7
 |.FX=>8
def aX:W:=[112,108,97,105,110]
def aA:Fm->W
 |.box _ _ _=>cO
 |.cond k _ _ _=>if k=gR then aX else k
 |.one k=>if k=fI then aX else k
 |_=>aX
def vS:Fm->List W
 |.box n _ _=>[n]
 |f=>vm f
def Na:Fm->Bool
 |.box _ a b=>decide (2<=a/\a<=10/\b<a)
 |_=>true
theorem t8:∀(a b:List W) (d:Df),cL d (a++b)=(cL d a).bind fun d'=>cL d' b
 |[],b,d=>rfl
 |r::a,b,d=>by
  rw[zaY,cL,cL];cases hf:iz (L2.a9 32 r) with
  |none=>rfl
  |some f=>
   cases ht:jA d f with
   |error e=>simp only[ht];rfl
   |ok d'=>simp only[ht];exact t8 a b d'
theorem xa{a b:List W}{d d':Df}(h:cL d a=.ok d'):cL d (a++b)=cL d' b:=by rw[t8,h];rfl
theorem Hg{a b:List W}{d:Df}{e:Er}(h:cL d a=.error e):cL d (a++b)=.error e:=by rw[t8,h];rfl
theorem t9{r:W}{f:Fm}{d:Df}(h:iz (L2.a9 32 r)=some f):cL d [r]=jA d f:=by
 rw[cL,h];cases ht:jA d f<;>simp only[ht]<;>rfl
theorem KP:iz (L2.a9 32 cm)=some (.one cm):=by decide +kernel
theorem Hh:iz (L2.a9 32 fI)=some (.one fI):=by decide +kernel
theorem Ac:∀(n:Nat) (d:Df),d.dY.length=n->cL d (zat n cm)=.ok {d with dY:=[]}
 |0,d,h=>by
  have e:d.dY=[]:=zaO.mp h;obtain⟨a,b,c⟩:=d;cases e;rfl
 |n+1,d,h=>by
  have ne:d.dY≠[]:=fun z=>by rw[z] at h;cases h
  rw[zbf,cL,KP];have et:jA d (.one cm)=.ok {d with dY:=d.dY.dropLast}:=by
   show (if cm=bV then nu d else if cm=cm then t6 d else lT d (.one cm))=_;rw[if_neg (by decide),if_pos rfl];unfold t6;rw[if_neg ne]
  simp only[et];exact Ac n {d with dY:=d.dY.dropLast} (by show d.dY.dropLast.length=n;rw[zaU,h];rfl)
end PM
namespace L2
open PySem PySem.Spec PyProof.Rows
def uR (z:Str) (kd:W) (ns:List W):Bool:=match PM.iz (a9 32 z.cps.toList) with
 |some f=>decide (PM.aA f=kd)&&decide (PM.vS f=ns)&&PM.Na f&&decide (z.cps.toList.length<=60)&&decide (10 ∉ z.cps.toList)
 |none=>false
theorem PX{z:Str}{kd:W}{ns:List W}(h:uR z kd ns=true):∃f,PM.iz (a9 32 z.cps.toList)=some f/\PM.aA f=kd/\PM.vS f=ns/\PM.Na f=true/\z.cps.toList.length<=60/\10 ∉ z.cps.toList:=by
 unfold uR at h;cases hf:PM.iz (a9 32 z.cps.toList) with
 |none=>rw[hf] at h;cases h
 |some f=>
  rw[hf] at h;simp only[zaK,decide_eq_true_eq] at h;exact⟨f,rfl,h.1.1.1.1,h.1.1.1.2,h.1.1.2,h.1.2,h.2⟩
def ua (e:Option PM.Er):List V:=match e with
 |none=>[]
 |some e=>(zaW 14).map fun i=>.bl (decide (i=PM.bp e))
section
variable(K:zac)
inductive KQ(vs:List V)(H:Hp)(Q:VK)(E:XK):Prop
 |mk (a:zc4) (rows:List W):vs=[.ref a]->gW K H a (rows.map sv)->rows≠[]->(∀r∈rows,10 ∉ r)->rows.flatten.length+rows.length<=2900000->(∀l H',aq H H'->H' l=some (.lst (ua (PM.oC rows)))->Q (.ref l) H')->KQ vs H Q E
def Hi (_:zac) (H:Hp) (a:zc4) (w:W) (f:PM.Fm):Prop:=∃n,H a=some (.lst [sv w,sv (PM.aA f),.ref n,.bl (PM.Na f)])/\H n=some (.lst ((PM.vS f).map sv))
def PY (w:W) (f:PM.Fm):Prop:=PM.iz (a9 32 w)=some f/\w.length<=60/\10 ∉ w
def Sm:Sp:=fun vs H Q _=>∃c:Int,vs=[.int c]/\∀l w f H',aq H H'->PY w f->Hi K H' l w f->Q (.ref l) H'
end
theorem KR{X:Cx}{K:zac}(hK:X.K=K):Qv X "str.join" (fun x vs H Q=>∃(a:zc4) (L:List W) (c:Nat),x=sv [c]/\vs=[.ref a]/\gW K H a (L.map sv)/\L.flatten.length+L.length<=4000000/\Q (sv (dX c L)) H):=by
 subst hK;exact Ks
theorem P0{X:Cx}{K:zac}{o e:Expr}{es:List Expr}{to:TE}{t:TA}{name:Str}{apos iy:Pos}{T id:String}{r:V->List V->Hp->VK->Prop}(hK:X.K=K)(pa:PlainAttrs T)(slot:Slot T name id)(Rp:typeOf (.builtin id)=pure (.type "method_descriptor"))(hm:Qv X id r)(ho:PE X o to)(ha:PA X (e::es) t)
 (BN:attributeBase o name X.env (eval o X.env)=eval o X.env:=by rfl)
 (O4:((backTo iy (zda (e::es) X.env)).all (fun x=>!x.1)&&(backToKw iy (keywordEach [] X.env)).all (fun x=>x.1.isSome)&&decide ((e::es).length+([]:List Keyword).length+(if ([]:List Keyword).isEmpty then 0 else 1)<30))=true:=by rfl)
 (BO:(apos.endLine==iy.line)=true:=by rfl) (hs:zda (e::es) X.env=(false,eval e X.env)::zda es X.env:=by rfl) (wo:(backTo iy (zda es X.env)).any (·.1)=false:=by rfl) :
 PE X (.Call (.Attribute o name apos) (e::es) [] iy) (S7 K T r to t):=by
 subst hK;exact lU pa slot Rp hm ho ha BN O4 BO hs wo
structure Nb(H:Hp)(st o n b:zc4)(op:List W)(d:PM.Df)(c:Nat):Prop where
 at_:H st=some (.lst [.ref o,.ref n,.ref b])
 yo:H o=some (.lst (op.map sv))
 yn:H n=some (.lst (d.jL.map sv))
 yb:∃bs:List W,H b=some (.lst (bs.map sv))/\(bs=[]↔d.Cr=false)/\bs.length<=c
 ek:d.dY=op.map fun w=>decide (w=PM.cX)
 on:o≠n
 ob:o≠b
 nb:n≠b
 so:st≠o
 sn:st≠n
 sb:st≠b
 l5:op.length<=5
 ow:∀w∈op,w=PM.cX\/w=PM.aJ\/w=PM.bV
 l4:d.jL.length<=4
theorem Nb.mono{H H':Hp}{st o n b:zc4}{op:List W}{d:PM.Df}{c:Nat}(h:Nb H st o n b op d c)(s:aq H H'):Nb H' st o n b op d c:=
 {h with at_:=s _ _ h.at_,yo:=s _ _ h.yo,yn:=s _ _ h.yn,yb:=by obtain⟨bs,y,z⟩:=h.yb;exact⟨bs,s _ _ y,z⟩}
def qy (d:PM.Df) (f:PM.Fm):Int:=match PM.jA d f with
 |.error e=>PM.bp e
 |.ok _=>0
section
variable(K:zac)
inductive KU(vs:List V)(H:Hp)(Q:VK)(E:XK):Prop
 |mk (st o n b r:zc4) (op:List W) (d:PM.Df) (c:Nat) (w:W) (f:PM.Fm):vs=[.ref st,.ref r]->Nb H st o n b op d c->Hi K H r w f->PM.PQ f->(∀H',aq H H'->Q (.int (qy d f)) H')->KU vs H Q E
end
theorem KW{f:PM.Fm}(pC:PM.PQ f){d:PM.Df}(l5:d.dY.length<=5):qy d f =
 if (PM.aA f=PM.cO/\d.Cr=true)\/(PM.aA f=PM.bV/\d.dY.getLast?≠some true) then 1
 else if PM.aA f=PM.cm/\d.dY=[] then 1
 else if (PM.aA f=PM.cX\/PM.aA f=PM.aJ)/\4<d.dY.length then 3
 else if PM.aA f=PM.cO/\PM.Na f=false then 4
 else if PM.aA f=PM.cO then (if (PM.vS f).headD []∈d.jL then 5 else if d.jL.length=4 then 7 else 0)
 else if ∀n∈PM.vS f,n∈d.jL then 0 else 8:=by
 have AM:∀g:PM.Fm,PM.jA d g=PM.lT d g->PM.vS g=PM.vm g->(PM.opens g).isSome=decide (PM.aA g=PM.cX\/PM.aA g=PM.aJ)->PM.aA g≠PM.cO->PM.aA g≠PM.bV->PM.aA g≠PM.cm->qy d g =
  if (PM.aA g=PM.cO/\d.Cr=true)\/(PM.aA g=PM.bV/\d.dY.getLast?≠some true) then 1
  else if PM.aA g=PM.cm/\d.dY=[] then 1
  else if (PM.aA g=PM.cX\/PM.aA g=PM.aJ)/\4<d.dY.length then 3
  else if PM.aA g=PM.cO/\PM.Na g=false then 4
  else if PM.aA g=PM.cO then (if (PM.vS g).headD []∈d.jL then 5 else if d.jL.length=4 then 7 else 0)
  else if ∀n∈PM.vS g,n∈d.jL then 0 else 8:=by
  intro g h1 h2 h3 nb ne nn;have Yi:(4<d.dY.length)↔d.dY.length=5:=by lia
  have Sn:((PM.opens g).isSome=true)↔(PM.aA g=PM.cX\/PM.aA g=PM.aJ):=by rw[h3,decide_eq_true_eq]
  simp only[Yi,h2];unfold qy;rw[h1];unfold PM.lT;by_cases hk:PM.aA g=PM.cX\/PM.aA g=PM.aJ
  ·by_cases h5:d.dY.length=5
   ·simp[Sn,hk,h5,nb,ne,nn,PM.bp]
   ·by_cases ha:∀n∈PM.vm g,n∈d.jL
    ·simp only[Sn,hk,h5,nb,ne,nn,and_false,false_and,or_self,if_false,if_pos ha]
    ·simp only[Sn,hk,h5,nb,ne,nn,and_false,false_and,or_self,if_false,if_neg ha];rfl
  ·by_cases ha:∀n∈PM.vm g,n∈d.jL
   ·simp only[Sn,hk,nb,ne,nn,and_false,false_and,or_self,if_false,if_pos ha]
   ·simp only[Sn,hk,nb,ne,nn,and_false,false_and,or_self,if_false,if_neg ha];rfl
 have pl:∀u,u=PM.cO\/u=PM.bV\/u=PM.cm\/u=PM.cX\/u=PM.aJ->PM.aX≠u:=fun u h=>by rcases h with rfl |rfl |rfl |rfl |rfl<;>decide
 cases f with
 |ask n=>exact AM _ rfl rfl (by show false=decide (PM.aX=PM.cX\/PM.aX=PM.aJ);decide) (pl _ (by simp)) (pl _ (by simp)) (pl _ (by simp))
 |put n e=>exact AM _ rfl rfl (by show false=decide (PM.aX=PM.cX\/PM.aX=PM.aJ);decide) (pl _ (by simp)) (pl _ (by simp)) (pl _ (by simp))
 |say e=>exact AM _ rfl rfl (by show false=decide (PM.aX=PM.cX\/PM.aX=PM.aJ);decide) (pl _ (by simp)) (pl _ (by simp)) (pl _ (by simp))
 |cond k sg x y=>
  have hk:k=PM.gR\/k=PM.cX\/k=PM.aJ:=pC.1;have ek:PM.aA (.cond k sg x y)=if k=PM.gR then PM.aX else k:=rfl
  have eo:PM.opens (.cond k sg x y)=if k=PM.cX then some true else if k=PM.aJ then some false else none:=rfl
  refine AM _ rfl rfl ?_ ?_ ?_ ?_
  all_goals (first |rw[ek] |skip)
  all_goals (try rw[eo])
  all_goals (rcases hk with h |h |h<;>subst h<;>decide)
 |one k=>
  have hk:k=PM.bV\/k=PM.cm\/k=PM.fI:=pC;have et:PM.jA d (.one k)=if k=PM.bV then PM.nu d else if k=PM.cm then PM.t6 d else PM.lT d (.one k):=rfl
  rcases hk with h |h |h
  ·subst h;unfold qy;rw[et,if_pos rfl];unfold PM.nu;have ek:PM.aA (.one PM.bV)=PM.bV:=by decide
   have el:PM.vS (.one PM.bV)=[]:=rfl;have n1:¬PM.bV=PM.cO:=by decide
   have n2:¬PM.bV=PM.cm:=by decide
   have n3:¬PM.bV=PM.cX:=by decide
   have n4:¬PM.bV=PM.aJ:=by decide
   by_cases hl:d.dY.getLast?=some true
   ·simp[ek,el,n1,n2,n3,n4,hl]
   ·simp[ek,el,n1,n2,n3,n4,hl,PM.bp]
  ·subst h;unfold qy;rw[et,if_neg (by decide),if_pos rfl];unfold PM.t6;have ek:PM.aA (.one PM.cm)=PM.cm:=by decide
   have el:PM.vS (.one PM.cm)=[]:=rfl;have n1:¬PM.cm=PM.cO:=by decide
   have n2:¬PM.cm=PM.bV:=by decide
   have n3:¬PM.cm=PM.cX:=by decide
   have n4:¬PM.cm=PM.aJ:=by decide
   by_cases hl:d.dY=[]
   ·simp[ek,el,n1,n2,n3,n4,hl,PM.bp]
   ·simp[ek,el,n1,n2,n3,n4,hl]
  ·subst h;exact AM _ (by rw[et,if_neg (by decide),if_neg (by decide)]) rfl (by decide) (by decide) (by decide) (by decide)
 |box n a b=>
  unfold qy;rw[show PM.jA d (.box n a b)=PM.AJ d n a b from rfl];unfold PM.AJ;have ek:PM.aA (.box n a b)=PM.cO:=rfl;have eo:PM.Na (.box n a b)=decide (2<=a/\a<=10/\b<a):=rfl;have el:(PM.vS (.box n a b)).headD []=n:=rfl;have n2:¬PM.cO=PM.cm:=by decide
  have n3:¬PM.cO=PM.cX:=by decide
  have n4:¬PM.cO=PM.aJ:=by decide
  have n5:¬PM.cO=PM.bV:=by decide
  rw[ek,eo,el];cases hb:d.Cr with
  |true=>simp[PM.bp]
  |false=>
   by_cases hm:2<=a/\a<=10/\b<a
   ·by_cases h1:n∈d.jL
    ·simp[n2,n3,n4,n5,hm,h1,PM.bp]
    ·by_cases h4:d.jL.length=4
     ·simp[n2,n3,n4,n5,hm,h1,h4,PM.bp]
     ·simp[n2,n3,n4,n5,hm,h1,h4]
   ·rw[decide_eq_false hm];simp only[n2,n3,n4,n5,hm,za7,if_false,not_false_eq_true,if_true,and_false,false_and,or_self,and_self];rfl
section
variable(K:zac)
inductive N7(vs:List V)(H:Hp)(Q:VK)(E:XK):Prop
 |mk (st o n b r:zc4) (op:List W) (d d':PM.Df) (c:Nat) (w:W) (f:PM.Fm):vs=[.ref st,.ref r]->Nb H st o n b op d c->c<=1000->Hi K H r w f->PM.PQ f->PM.jA d f=.ok d'->(∀BI H',(∀x u,x≠o->x≠n->x≠b->H x=some u->H' x=some u)->Nb H' st o n b BI d' (c+1)->Q .da H')->N7 vs H Q E
end
end L2
section
set_option maxHeartbeats 4000000
namespace Qa
open PySem L2
def top (i:Nat):Stmt:=PySem.Challenge.pw_everyrow_k08_rows_in_any_order.main.body.getD i (.Pass ⟨0,0,0,0⟩)
abbrev AN:Stmt:=top 23
abbrev uc:Stmt:=top 24
abbrev pD:Stmt:=top 25
abbrev nX:Stmt:=top 26
abbrev rq:Stmt:=top 27
abbrev pE:Stmt:=top 29
abbrev ud:Stmt:=top 30
abbrev rA:Stmt:=top 31
abbrev kI:Stmt:=top 32
abbrev mE:Stmt:=top 33
abbrev kJ:Stmt:=top 34
abbrev Eu:Stmt:=top 42
abbrev uf:Stmt:=top 44
abbrev rB:Stmt:=top 45
abbrev iE:Stmt:=top 46
abbrev pF:Stmt:=top 47
abbrev mF:Stmt:=top 48
abbrev rC:Stmt:=top 49
abbrev rD:Stmt:=top 50
abbrev mG:Stmt:=top 51
abbrev pG:Stmt:=top 52
abbrev rE:Stmt:=top 53
abbrev iF:Stmt:=top 54
abbrev jR:Stmt:=top 55
abbrev nY:Stmt:=top 56
abbrev kK:Stmt:=top 58
abbrev pH:Stmt:=top 59
abbrev kL:Stmt:=top 60
abbrev kM:Stmt:=top 61
abbrev kN:Stmt:=top 62
abbrev rF:Stmt:=top 63
abbrev ug:Stmt:=top 64
abbrev KY:Stmt:=top 65
abbrev cD:Stmt:=inClass (top 28) 0
abbrev cq:Stmt:=inClass (top 28) 1
abbrev cE:Stmt:=inClass (top 28) 2
abbrev cR:Stmt:=inClass (top 43) 0
abbrev bQ:Stmt:=inClass (top 43) 1
abbrev bE:Stmt:=inClass (top 43) 2
abbrev bR:Stmt:=inClass (top 43) 3
theorem CA:a8 ["word", "signs"] ["word", "signs"] (az AN):=⟨rfl,rfl,rfl,by decide +kernel,rfl,by decide +kernel,by decide +kernel⟩
theorem xb:a8 ["word"] ["word"] (az uc):=⟨rfl,rfl,rfl,by decide +kernel,rfl,by decide +kernel,by decide +kernel⟩
theorem sJ:a8 ["word"] ["word"] (az pD):=⟨rfl,rfl,rfl,by decide +kernel,rfl,by decide +kernel,by decide +kernel⟩
theorem qH:a8 ["word", "pieces", "e"] ["word"] (az nX):=⟨rfl,rfl,rfl,by decide +kernel,rfl,by decide +kernel,by decide +kernel⟩
theorem uT:a8 ["e"] ["e"] (az rq):=⟨rfl,rfl,rfl,by decide +kernel,rfl,by decide +kernel,by decide +kernel⟩
theorem sL:a8 ["word", "pieces", "before", "sign", "kind"] ["word"] (az pE):=⟨rfl,rfl,rfl,by decide +kernel,rfl,by decide +kernel,by decide +kernel⟩
theorem xc:a8 ["sign"] ["sign"] (az ud):=⟨rfl,rfl,rfl,by decide +kernel,rfl,by decide +kernel,by decide +kernel⟩
theorem uU:a8 ["pieces", "depth", "e", "sign"] ["pieces", "depth"] (az rA):=⟨rfl,rfl,rfl,by decide +kernel,rfl,by decide +kernel,by decide +kernel⟩
theorem oE:a8 ["pieces", "depth", "e", "sign"] ["pieces", "depth"] (az kI):=⟨rfl,rfl,rfl,by decide +kernel,rfl,by decide +kernel,by decide +kernel⟩
theorem pI:a8 ["pieces", "depth", "piece"] ["pieces", "depth"] (az mE):=⟨rfl,rfl,rfl,by decide +kernel,rfl,by decide +kernel,by decide +kernel⟩
theorem fX:a8 ["pieces", "depth", "e"] ["pieces", "depth"] (az kJ):=⟨rfl,rfl,rfl,by decide +kernel,rfl,by decide +kernel,by decide +kernel⟩
theorem F3:a8 ["text", "rows", "draft", "number", "row"] ["text"] (az Eu):=⟨rfl,rfl,rfl,by decide +kernel,rfl,by decide +kernel,by decide +kernel⟩
theorem xf:a8 ["row", "words", "word"] ["row"] (az uf):=⟨rfl,rfl,rfl,by decide +kernel,rfl,by decide +kernel,by decide +kernel⟩
theorem uV:a8 ["words"] ["words"] (az rB):=⟨rfl,rfl,rfl,by decide +kernel,rfl,by decide +kernel,by decide +kernel⟩
theorem lZ:a8 ["words"] ["words"] (az iE):=⟨rfl,rfl,rfl,by decide +kernel,rfl,by decide +kernel,by decide +kernel⟩
theorem sM:a8 ["word"] ["word"] (az pF):=⟨rfl,rfl,rfl,by decide +kernel,rfl,by decide +kernel,by decide +kernel⟩
theorem pJ:a8 ["word"] ["word"] (az mF):=⟨rfl,rfl,rfl,by decide +kernel,rfl,by decide +kernel,by decide +kernel⟩
theorem uW:a8 ["draft", "number", "form", "word"] ["draft", "number", "form"] (az rC):=⟨rfl,rfl,rfl,by decide +kernel,rfl,by decide +kernel,by decide +kernel⟩
theorem uX:a8 ["draft", "number", "box"] ["draft", "number", "box"] (az rD):=⟨rfl,rfl,rfl,by decide +kernel,rfl,by decide +kernel,by decide +kernel⟩
theorem pK:a8 ["size", "first"] ["size", "first"] (az mG):=⟨rfl,rfl,rfl,by decide +kernel,rfl,by decide +kernel,by decide +kernel⟩
theorem sN:a8 ["draft", "number", "second"] ["draft", "number"] (az pG):=⟨rfl,rfl,rfl,by decide +kernel,rfl,by decide +kernel,by decide +kernel⟩
theorem uY:a8 ["draft", "number"] ["draft", "number"] (az rE):=⟨rfl,rfl,rfl,by decide +kernel,rfl,by decide +kernel,by decide +kernel⟩
theorem ma:a8 ["draft", "number", "form", "word", "names", "name", "bodies"] ["draft", "number", "form"] (az iF):=⟨rfl,rfl,rfl,by decide +kernel,rfl,by decide +kernel,by decide +kernel⟩
theorem nz:a8 ["form", "word"] ["form"] (az jR):=⟨rfl,rfl,rfl,by decide +kernel,rfl,by decide +kernel,by decide +kernel⟩
theorem qI:a8 ["word"] ["word"] (az nY):=⟨rfl,rfl,rfl,by decide +kernel,rfl,by decide +kernel,by decide +kernel⟩
theorem oF:a8 ["script", "k"] ["script", "k"] (az kK):=⟨rfl,rfl,rfl,by decide +kernel,rfl,by decide +kernel,by decide +kernel⟩
theorem sO:a8 ["cell", "k", "number"] ["cell", "k"] (az pH):=⟨rfl,rfl,rfl,by decide +kernel,rfl,by decide +kernel,by decide +kernel⟩
theorem oG:a8 ["rows", "told", "e"] ["rows"] (az kL):=⟨rfl,rfl,rfl,by decide +kernel,rfl,by decide +kernel,by decide +kernel⟩
theorem oH:a8 ["number", "name", "size", "first"] ["number"] (az kM):=⟨rfl,rfl,rfl,by decide +kernel,rfl,by decide +kernel,by decide +kernel⟩
theorem oI:a8 ["cell", "number", "far", "kind", "one", "other", "some", "row", "names", "sign"] ["cell"] (az kN):=⟨rfl,rfl,rfl,by decide +kernel,rfl,by decide +kernel,by decide +kernel⟩
theorem uZ:a8 ["state", "row", "opened", "names", "begun"] ["state", "row"] (az rF):=⟨rfl,rfl,rfl,by decide +kernel,rfl,by decide +kernel,by decide +kernel⟩
theorem xg:a8 ["state", "row", "opened", "names", "begun"] ["state", "row"] (az ug):=⟨rfl,rfl,rfl,by decide +kernel,rfl,by decide +kernel,by decide +kernel⟩
theorem KZ:a8 ["script", "state", "mended", "rows", "due", "cell", "row", "code"] ["script"] (az KY):=⟨rfl,rfl,rfl,by decide +kernel,rfl,by decide +kernel,by decide +kernel⟩
theorem pL:a8 ["self", "word"] ["self", "word"] (az cD):=⟨rfl,rfl,rfl,by decide +kernel,rfl,by decide +kernel,by decide +kernel⟩
theorem oJ:a8 ["self"] ["self"] (az cq):=⟨rfl,rfl,rfl,by decide +kernel,rfl,by decide +kernel,by decide +kernel⟩
theorem pM:a8 ["self", "piece"] ["self"] (az cE):=⟨rfl,rfl,rfl,by decide +kernel,rfl,by decide +kernel,by decide +kernel⟩
theorem qJ:a8 ["self"] ["self"] (az cR):=⟨rfl,rfl,rfl,by decide +kernel,rfl,by decide +kernel,by decide +kernel⟩
theorem kO:a8 ["self"] ["self"] (az bQ):=⟨rfl,rfl,rfl,by decide +kernel,rfl,by decide +kernel,by decide +kernel⟩
theorem jB:a8 ["self"] ["self"] (az bE):=⟨rfl,rfl,rfl,by decide +kernel,rfl,by decide +kernel,by decide +kernel⟩
theorem kP:a8 ["self"] ["self"] (az bR):=⟨rfl,rfl,rfl,by decide +kernel,rfl,by decide +kernel,by decide +kernel⟩
set_option genInjectivity false in
structure Ad where
 nZ:zc4
 nA:zdd
 iG:zc4
 iH:zdd
 eR:zc4
 fE:zdd
 gY:zc4
 jn:zdd
 gi:zc4
 gS:zdd
 gT:zc4
 gZ:zdd
 kz:zc4
 kQ:zdd
 eS:zc4
 eT:zdd
 dI:zc4
 eA:zdd
 eC:zc4
 eU:zdd
 cZ:zc4
 dg:zdd
 xh:zc4
 vT:zdd
 nB:zc4
 n8:zdd
 kR:zc4
 me:zdd
 dJ:zc4
 eJ:zdd
 jC:zc4
 kn:zdd
 fT:zc4
 g6:zdd
 kS:zc4
 mf:zdd
 kT:zc4
 mh:zdd
 fU:zc4
 g7:zdd
 jD:zc4
 kq:zdd
 kU:zc4
 mi:zdd
 dM:zc4
 eK:zdd
 eB:zc4
 fF:zdd
 g8:zc4
 jo:zdd
 eV:zc4
 fY:zdd
 jE:zc4
 kr:zdd
 eW:zc4
 fZ:zdd
 eX:zc4
 f6:zdd
 eY:zc4
 f7:zdd
 kW:zc4
 mj:zdd
 nC:zc4
 n9:zdd
 F4:zc4
 uh:zdd
 cn:zc4
 g9:zdd
 bH:zc4
 cM:zdd
 bI:zc4
 cI:zdd
 cS:zc4
 mH:zdd
 bS:zc4
 gj:zdd
 bF:zc4
 eZ:zdd
 bT:zc4
 gk:zdd
 aN:zc4
 bb:zc4
 aK:zc4
 ar:zc4
 ay:zc4
 au:zc4
 aw:zc4
 aj:zc4
 aG:zc4
 aQ:zc4
 aH:zc4
 aR:zc4
 bA:zc4
 bU:zc4
 bB:zc4
 bh:zc4
 e8:zc4
 cT:zc4
set_option genInjectivity false in
structure Tx(K:zac)(mg:Str->Option zc5)(t:Ad):Prop where
 ku:cK K mg "is_of" AN ["word", "signs"] t.nZ t.nA
 fG:cK K mg "is_name" uc ["word"] t.iG t.iH
 du:cK K mg "is_number" pD ["word"] t.eR t.fE
 bK:cK K mg "expression" nX ["word"] t.gY t.jn
 bu:cK K mg "names_in" rq ["e"] t.gi t.gS
 gU:cK K mg "pieces_of" pE ["word"] t.gT t.gZ
 kA:cK K mg "kind_of" ud ["sign"] t.kz t.kQ
 cN:cK K mg "sum_from" rA ["pieces", "depth"] t.eS t.eT
 cu:cK K mg "product_from" kI ["pieces", "depth"] t.dI t.eA
 cF:cK K mg "factor_from" mE ["pieces", "depth"] t.eC t.eU
 c5:cK K mg "bracket_from" kJ ["pieces", "depth"] t.cZ t.dg
 ui:cK K mg "read" Eu ["text"] t.xh t.vT
 kB:cK K mg "form_of" uf ["row"] t.nB t.n8
 iI:cK K mg "box_form" rB ["words"] t.kR t.me
 cV:cK K mg "condition_form" iE ["words"] t.dJ t.eJ
 cz:cK K mg "name_from" pF ["word"] t.jC t.kn
 cG:cK K mg "number_from" mF ["word"] t.fT t.g6
 iJ:cK K mg "take_row" rC ["draft", "number", "form"] t.kS t.mf
 iK:cK K mg "take_box" rD ["draft", "number", "box"] t.kT t.mh
 eE:cK K mg "is_measured" mG ["size", "first"] t.fU t.g7
 gV:cK K mg "take_else" pG ["draft", "number"] t.jD t.kq
 iL:cK K mg "take_end" rE ["draft", "number"] t.kU t.mi
 cW:cK K mg "take_statement" iF ["draft", "number", "form"] t.dM t.eK
 dh:cK K mg "names_of_form" jR ["form"] t.eB t.fF
 fH:cK K mg "bodies_for" nY ["word"] t.g8 t.jo
 dN:cK K mg "_law_cell_at" kK ["script", "k"] t.eV t.fY
 bW:cK K mg "_law_stir" pH ["cell", "k"] t.jE t.kr
 cv:cK K mg "_law_refused" kL ["rows"] t.eW t.fZ
 dO:cK K mg "_law_any_box" kM ["number"] t.eX t.f6
 dP:cK K mg "_law_any_row" kN ["cell"] t.eY t.f7
 iM:cK K mg "_law_due" rF ["state", "row"] t.kW t.mj
 kC:cK K mg "_law_do" ug ["state", "row"] t.nC t.n9
 F5:cK K mg "law" KY ["script"] t.F4 t.uh
 jq:Bv K "__init__" "Pieces.__init__" cD t.cn t.g9
 yM:Binds K t.g9 ["self", "word"] []
 hG:Bv K "ahead" "Pieces.ahead" cq t.bH t.cM
 hJ:Binds K t.cM ["self"] []
 hV:Meth K t.aN "ahead" t.bH
 jr:Bv K "take" "Pieces.take" cE t.bI t.cI
 fV:Binds K t.cI ["self"] []
 fW:Meth K t.aN "take" t.bI
 kx:Bv K "__init__" "Draft.__init__" cR t.cS t.mH
 AO:Binds K t.mH ["self"] []
 eL:Bv K "innermost" "Draft.innermost" bQ t.bS t.gj
 sP:Binds K t.gj ["self"] []
 sQ:Meth K t.bb "innermost" t.bS
 dA:Bv K "second_body" "Draft.second_body" bE t.bF t.eZ
 qz:Binds K t.eZ ["self"] []
 qA:Meth K t.bb "second_body" t.bF
 eM:Bv K "box_names" "Draft.box_names" bR t.bT t.gk
 ml:Binds K t.gk ["self"] []
 mn:Meth K t.bb "box_names" t.bT
 cw:IT K t.aN
 Hj:mg "Pieces"=some (.ref t.aN)
 uj:Mk K t.aN t.cn
 dQ:jN K t.aN "pieces"
 di:jN K t.aN "place"
 bJ:IT K t.bb
 K8:mg "Draft"=some (.ref t.bb)
 xj:Mk K t.bb t.cS
 c6:jN K t.bb "boxes"
 eF:jN K t.bb "body"
 bz:jN K t.bb "nest"
 CB:mg "RowError"=some (.ref t.aK)
 uk:vg K t.ar
 xk:zam K (.ref t.ar) (.ref t.ar)=some true
 xl:mg "TooLong"=some (.ref t.ar)
 eO:vg K t.ay
 CG:zam K (.ref t.ay) (.ref t.ay)=some true
 dR:mg "NoRow"=some (.ref t.ay)
 nD:vg K t.au
 xm:zam K (.ref t.au) (.ref t.au)=some true
 oa:mg "NoPlace"=some (.ref t.au)
 um:vg K t.aw
 xn:zam K (.ref t.aw) (.ref t.aw)=some true
 xo:mg "TooDeep"=some (.ref t.aw)
 pN:vg K t.aj
 sS:zam K (.ref t.aj) (.ref t.aj)=some true
 sT:mg "NoMeasure"=some (.ref t.aj)
 AQ:vg K t.aG
 CI:zam K (.ref t.aG) (.ref t.aG)=some true
 CJ:mg "Twice"=some (.ref t.aG)
 Ew:vg K t.aQ
 F6:zam K (.ref t.aQ) (.ref t.aQ)=some true
 F7:mg "Full"=some (.ref t.aQ)
 AR:vg K t.aH
 CK:zam K (.ref t.aH) (.ref t.aH)=some true
 CL:mg "NoBox"=some (.ref t.aH)
 Ex:vg K t.aR
 F8:zam K (.ref t.aR) (.ref t.aR)=some true
 F9:mg "Open"=some (.ref t.aR)
 Ey:mg "TooMany"=some (.ref t.bA)
 Hk:mg "NoForm"=some (.ref t.bU)
 Ez:mg "NoneYet"=some (.ref t.bB)
 CM:mg "NoTarget"=some (.ref t.bh)
 xp:zam K (.ref t.ay) (.ref t.aK)=some true
 K9:AB K t.ay
 xq:zab K (.ref t.ay) (.type "ValueError")=some true
 mq:zab K (.ref t.ay) (.ref t.aK)=some true
 iN:zab K (.ref t.ay) (.ref t.ar)=some false
 kX:zab K (.ref t.ay) (.ref t.ay)=some true
 iO:zab K (.ref t.ay) (.ref t.au)=some false
 iP:zab K (.ref t.ay) (.ref t.aw)=some false
 gm:zab K (.ref t.ay) (.ref t.aj)=some false
 kY:zab K (.ref t.ay) (.ref t.aG)=some false
 mI:zab K (.ref t.ay) (.ref t.aQ)=some false
 kZ:zab K (.ref t.ay) (.ref t.aH)=some false
 mJ:zab K (.ref t.ay) (.ref t.aR)=some false
 iQ:zab K (.ref t.ay) (.ref t.bA)=some false
 jS:zab K (.ref t.ay) (.ref t.bU)=some false
 iR:zab K (.ref t.ay) (.ref t.bB)=some false
 hX:zab K (.ref t.ay) (.ref t.bh)=some false
 rG:zam K (.ref t.au) (.ref t.aK)=some true
 EA:AB K t.au
 rH:zab K (.ref t.au) (.type "ValueError")=some true
 kh:zab K (.ref t.au) (.ref t.aK)=some true
 gn:zab K (.ref t.au) (.ref t.ar)=some false
 iS:zab K (.ref t.au) (.ref t.ay)=some false
 gp:zab K (.ref t.au) (.ref t.au)=some true
 gq:zab K (.ref t.au) (.ref t.aw)=some false
 e9:zab K (.ref t.au) (.ref t.aj)=some false
 iU:zab K (.ref t.au) (.ref t.aG)=some false
 jT:zab K (.ref t.au) (.ref t.aQ)=some false
 iV:zab K (.ref t.au) (.ref t.aH)=some false
 jU:zab K (.ref t.au) (.ref t.aR)=some false
 gr:zab K (.ref t.au) (.ref t.bA)=some false
 hZ:zab K (.ref t.au) (.ref t.bU)=some false
 gu:zab K (.ref t.au) (.ref t.bB)=some false
 fL:zab K (.ref t.au) (.ref t.bh)=some false
 rJ:zam K (.ref t.ar) (.ref t.aK)=some true
 EB:AB K t.ar
 rK:zab K (.ref t.ar) (.type "ValueError")=some true
 ki:zab K (.ref t.ar) (.ref t.aK)=some true
 gv:zab K (.ref t.ar) (.ref t.ar)=some true
 iW:zab K (.ref t.ar) (.ref t.ay)=some false
 gw:zab K (.ref t.ar) (.ref t.au)=some false
 gx:zab K (.ref t.ar) (.ref t.aw)=some false
 fc:zab K (.ref t.ar) (.ref t.aj)=some false
 iX:zab K (.ref t.ar) (.ref t.aG)=some false
 jV:zab K (.ref t.ar) (.ref t.aQ)=some false
 iY:zab K (.ref t.ar) (.ref t.aH)=some false
 jW:zab K (.ref t.ar) (.ref t.aR)=some false
 gy:zab K (.ref t.ar) (.ref t.bA)=some false
 ib:zab K (.ref t.ar) (.ref t.bU)=some false
 gz:zab K (.ref t.ar) (.ref t.bB)=some false
 fM:zab K (.ref t.ar) (.ref t.bh)=some false
 rL:zam K (.ref t.aw) (.ref t.aK)=some true
 EC:AB K t.aw
 rM:zab K (.ref t.aw) (.type "ValueError")=some true
 kj:zab K (.ref t.aw) (.ref t.aK)=some true
 gA:zab K (.ref t.aw) (.ref t.ar)=some false
 iZ:zab K (.ref t.aw) (.ref t.ay)=some false
 gB:zab K (.ref t.aw) (.ref t.au)=some false
 gC:zab K (.ref t.aw) (.ref t.aw)=some true
 ff:zab K (.ref t.aw) (.ref t.aj)=some false
 i3:zab K (.ref t.aw) (.ref t.aG)=some false
 jX:zab K (.ref t.aw) (.ref t.aQ)=some false
 i4:zab K (.ref t.aw) (.ref t.aH)=some false
 jY:zab K (.ref t.aw) (.ref t.aR)=some false
 gD:zab K (.ref t.aw) (.ref t.bA)=some false
 ic:zab K (.ref t.aw) (.ref t.bU)=some false
 gE:zab K (.ref t.aw) (.ref t.bB)=some false
 fN:zab K (.ref t.aw) (.ref t.bh)=some false
 og:zam K (.ref t.aj) (.ref t.aK)=some true
 AS:AB K t.aj
 oh:zab K (.ref t.aj) (.type "ValueError")=some true
 iA:zab K (.ref t.aj) (.ref t.aK)=some true
 fh:zab K (.ref t.aj) (.ref t.ar)=some false
 gF:zab K (.ref t.aj) (.ref t.ay)=some false
 fj:zab K (.ref t.aj) (.ref t.au)=some false
 fk:zab K (.ref t.aj) (.ref t.aw)=some false
 d6:zab K (.ref t.aj) (.ref t.aj)=some true
 gG:zab K (.ref t.aj) (.ref t.aG)=some false
 ie:zab K (.ref t.aj) (.ref t.aQ)=some false
 gH:zab K (.ref t.aj) (.ref t.aH)=some false
 ij:zab K (.ref t.aj) (.ref t.aR)=some false
 fq:zab K (.ref t.aj) (.ref t.bA)=some false
 fO:zab K (.ref t.aj) (.ref t.bU)=some false
 fw:zab K (.ref t.aj) (.ref t.bB)=some false
 eH:zab K (.ref t.aj) (.ref t.bh)=some false
 xt:zam K (.ref t.aG) (.ref t.aK)=some true
 La:AB K t.aG
 xu:zab K (.ref t.aG) (.type "ValueError")=some true
 mr:zab K (.ref t.aG) (.ref t.aK)=some true
 i5:zab K (.ref t.aG) (.ref t.ar)=some false
 lh:zab K (.ref t.aG) (.ref t.ay)=some false
 ja:zab K (.ref t.aG) (.ref t.au)=some false
 jb:zab K (.ref t.aG) (.ref t.aw)=some false
 gI:zab K (.ref t.aG) (.ref t.aj)=some false
 lp:zab K (.ref t.aG) (.ref t.aG)=some true
 mK:zab K (.ref t.aG) (.ref t.aQ)=some false
 lq:zab K (.ref t.aG) (.ref t.aH)=some false
 mL:zab K (.ref t.aG) (.ref t.aR)=some false
 jc:zab K (.ref t.aG) (.ref t.bA)=some false
 jZ:zab K (.ref t.aG) (.ref t.bU)=some false
 jd:zab K (.ref t.aG) (.ref t.bB)=some false
 ik:zab K (.ref t.aG) (.ref t.bh)=some false
 AU:zam K (.ref t.aR) (.ref t.aK)=some true
 Nc:AB K t.aR
 AV:zab K (.ref t.aR) (.type "ValueError")=some true
 nE:zab K (.ref t.aR) (.ref t.aK)=some true
 j1:zab K (.ref t.aR) (.ref t.ar)=some false
 mM:zab K (.ref t.aR) (.ref t.ay)=some false
 j3:zab K (.ref t.aR) (.ref t.au)=some false
 j4:zab K (.ref t.aR) (.ref t.aw)=some false
 il:zab K (.ref t.aR) (.ref t.aj)=some false
 mO:zab K (.ref t.aR) (.ref t.aG)=some false
 oj:zab K (.ref t.aR) (.ref t.aQ)=some false
 mQ:zab K (.ref t.aR) (.ref t.aH)=some false
 om:zab K (.ref t.aR) (.ref t.aR)=some true
 j5:zab K (.ref t.aR) (.ref t.bA)=some false
 lx:zab K (.ref t.aR) (.ref t.bU)=some false
 j6:zab K (.ref t.aR) (.ref t.bB)=some false
 je:zab K (.ref t.aR) (.ref t.bh)=some false
 AW:zam K (.ref t.aQ) (.ref t.aK)=some true
 Nd:AB K t.aQ
 AX:zab K (.ref t.aQ) (.type "ValueError")=some true
 nF:zab K (.ref t.aQ) (.ref t.aK)=some true
 j7:zab K (.ref t.aQ) (.ref t.ar)=some false
 mS:zab K (.ref t.aQ) (.ref t.ay)=some false
 j8:zab K (.ref t.aQ) (.ref t.au)=some false
 j9:zab K (.ref t.aQ) (.ref t.aw)=some false
 ip:zab K (.ref t.aQ) (.ref t.aj)=some false
 mT:zab K (.ref t.aQ) (.ref t.aG)=some false
 oo:zab K (.ref t.aQ) (.ref t.aQ)=some true
 mU:zab K (.ref t.aQ) (.ref t.aH)=some false
 oq:zab K (.ref t.aQ) (.ref t.aR)=some false
 ka:zab K (.ref t.aQ) (.ref t.bA)=some false
 lA:zab K (.ref t.aQ) (.ref t.bU)=some false
 kb:zab K (.ref t.aQ) (.ref t.bB)=some false
 jf:zab K (.ref t.aQ) (.ref t.bh)=some false
 xv:zam K (.ref t.aH) (.ref t.aK)=some true
 Lb:AB K t.aH
 xw:zab K (.ref t.aH) (.type "ValueError")=some true
 mv:zab K (.ref t.aH) (.ref t.aK)=some true
 jg:zab K (.ref t.aH) (.ref t.ar)=some false
 lB:zab K (.ref t.aH) (.ref t.ay)=some false
 jh:zab K (.ref t.aH) (.ref t.au)=some false
 ji:zab K (.ref t.aH) (.ref t.aw)=some false
 gJ:zab K (.ref t.aH) (.ref t.aj)=some false
 lC:zab K (.ref t.aH) (.ref t.aG)=some false
 mV:zab K (.ref t.aH) (.ref t.aQ)=some false
 lD:zab K (.ref t.aH) (.ref t.aH)=some true
 mW:zab K (.ref t.aH) (.ref t.aR)=some false
 jj:zab K (.ref t.aH) (.ref t.bA)=some false
 kc:zab K (.ref t.aH) (.ref t.bU)=some false
 jk:zab K (.ref t.aH) (.ref t.bB)=some false
 iq:zab K (.ref t.aH) (.ref t.bh)=some false
 xx:∃u,mg "LETTERS"=some u/\RelV (.str "abcdefghijklmnopqrstuvwxyz") u
 xy:∃u,mg "FIGURES"=some u/\RelV (.str "0123456789") u
 CO:mg "NO_NAMES"=some (.ref t.e8)
 ot:∀H:Hp,eQ K H t.e8 [.str "box",.str "ask",.str "put",.str "say",.str "if",.str "else",.str "while",.str "must",.str "stop",.str "end"]
 vn:∃u,mg "MOST_LETTERS"=some u/\RelV (.int 8) u
 vo:∃u,mg "MOST_FIGURES"=some u/\RelV (.int 3) u
 yN:∃u,mg "MOST_SIGNS"=some u/\RelV (.int 60) u
 nG:∃u,mg "MOST_BRACKETS"=some u/\RelV (.int 5) u
 AY:∃u,mg "MOST_ROWS"=some u/\RelV (.int 80) u
 yO:∃u,mg "MOST_BOXES"=some u/\RelV (.int 4) u
 AZ:∃u,mg "MOST_DEEP"=some u/\RelV (.int 5) u
 yP:∃u,mg "LEAST_SIZE"=some u/\RelV (.int 2) u
 A0:∃u,mg "MOST_SIZE"=some u/\RelV (.int 10) u
 xA:mg "WORD_COUNTS"=some (.ref t.cT)
 mw:mg "len"=none
 A1:mg "range"=none
 xB:mg "int"=none
 Ga:mg "str"=none
 A2:mg "tuple"=none
 Lc:mg "all"=none
 Gb:mg "max"=none
 bG:mg "isinstance"=none
 pO:mg "enumerate"=none
 ou:mg "ValueError"=none
structure Cd(P:zdg)(w:zc6)(K:zac)(t:Ad):Prop where
 yQ:QB P w K t.cT [(.inr "box",.int 4),(.inr "ask",.int 2),(.inr "put",.int 3),(.inr "say",.int 2),(.inr "must",.int 4),(.inr "if",.int 4),(.inr "else",.int 1),(.inr "while",.int 4),(.inr "end",.int 1),(.inr "stop",.int 1)]
end Qa
end
section
set_option maxHeartbeats 4000000
namespace Qa
open PySem L2
local macro_rules | `(tactic|walk_at "rd")=>`(tactic|((try dsimp only[DU,Fh,Iz,OA,IA,VT,Oz,IE,QY,S7,O3,Uh,IZ,Ar,IU,OP,OQ,Aq,Ff,T9,rU,Pl,Fb,IK,NC,NB,ID,NA,OF,IF,OE,OH,NK,IC,Mb,Fu,NL,Jo,Jp,Jq,Jr,Js,Jt,Ju,Jv,Jw,Jx,FI,FJ,FK,FO,FP,Pt,RC,OC,IB,Md,mZ,NM,NN,zcv,Fv,Fw,Jz,Fz,FA,BU,Kc,Kd,Ke,Kp,AI,N4,Ep,FC,NO,RG,JH,JA,JB,T2,za1,zaY,zag,zbe,JC,JD,Kh,Ki,Fy]);(try simp only[DU,Fh,Iz,OA,IA,VT,Oz,IE,QY,S7,O3,Uh,IZ,Ar,IU,OP,OQ,Aq,Ff,T9,rU,Pl,Fb,IK,NC,NB,ID,NA,Pd,Pe,OF,IF,OE,OH,NK,IC,Mb,Fu,NL,Jo,Jp,Jq,Jr,Js,Jt,Ju,Jv,Jw,Jx,FI,FJ,FK,FO,FP,Pt,RC,OC,IB,Md,mZ,RB,UB,NM,NN,RD,Mx,Jy,Pf,Pg,zcv,Fv,Fw,Jz,Fz,FA,BU,Kc,Kd,Ke,Kp,AI,N4,Ep,FC,NO,RG,JH,JA,JB,T2,zaP,za1,zaY,My,Mz,true_and,and_true,zag,zbe,MA,JC,JD,Kh,Ki,Fy,Int.reduceLT,Int.reduceLE,Nat.reduceLeDiff,Nat.reduceAdd,and_self])))
section
variable{P:zdg}{w:zc6}{K:zac}{mg:Str->Option zc5}{base:Heap}{t:Ad}
theorem CQ(T:Tx K mg t)(ok:Nat->Bool)(signs:Str):bC P w K mg base lS 1 t.nZ t.nA ["word", "signs"] (Ed ok signs):=by
 refine T.ku.F.wu CA (fun vs H Q E h=>?_) (fun dW A outer s H vs Q E hr h=>?_)
 ·obtain⟨_,rfl,_⟩:=h;rfl
 obtain⟨wd,rfl,hl,dq,q⟩:=h;have nd:=CA.nd;refine⟨_,[some (sv wd),some (.str signs)],(ak (aW (br (JR rfl) rfl T.Lc PyProof.Rows.Boot.«all» (aa (vJ (own:=["sign"]) (ix:=[1]) rfl (by rfl) (by rfl) (JQ (pv 0)) (fun _ _ _ _=>(cP (i:=0) (by show List.Nodup (["sign", "signs"]:List Str);decide +kernel) rfl (zas rfl))) (fun _ _ _ _=>Ax) (fun _ _ _ _=>(fC tR (pv 0) (pv 1) rfl))) af ME)))),rfl,?_⟩;walk_at "rd";refine⟨S wd,rfl,fun D hD=>?_⟩;refine JT (r:=[some (.str signs)]) (fun _=>true) (fun c=>V.bl (ok c)) (by rw[ez];lia) (fun c _ ys R hR=>hR) (fun c hc _ ys R hR=>?_) ?_
 ·walk_at "rd";refine⟨_,_,rfl,rfl,?_⟩;rw[zbQ,dq];exact hR
 ·refine⟨D,wd.map ok,rfl,.of ?_,?_⟩
  ·rw[ae,Pm,zcW.mpr (fun _ _=>rfl),zbH];rfl
  ·rw[zb3];exact q _ (aq.new hD _)
theorem xC(c:Nat):decide (c∈(("abcdefghijklmnopqrstuvwxyz":Str)).cps.toList)=PM.isLetter c:=by
 have e:(("abcdefghijklmnopqrstuvwxyz":Str)).cps.toList=(zaW 26).map (97 + ·):=by decide +kernel
 rw[e,zbb,decide_eq_true_eq,zaT];simp only[PM.isLetter,zaK,decide_eq_true_eq]
 constructor
 ·rintro ⟨a,ha,rfl⟩
  have:=zbp.mp ha;lia
 ·rintro ⟨h1,h2⟩
  exact⟨c-97,zbp.mpr (by lia),by lia⟩
theorem xD(c:Nat):decide (c∈(("0123456789":Str)).cps.toList)=PM.jt c:=by
 have e:(("0123456789":Str)).cps.toList=(zaW 10).map (48 + ·):=by decide +kernel
 rw[e,zbb,decide_eq_true_eq,zaT];simp only[PM.jt,zaK,decide_eq_true_eq]
 constructor
 ·rintro ⟨a,ha,rfl⟩
  have:=zbp.mp ha;lia
 ·rintro ⟨h1,h2⟩
  exact⟨c-48,zbp.mpr (by lia),by lia⟩
theorem ED(T:Tx K mg t):bC P w K mg base lS 1 t.kz t.kQ ["sign"] B3:=by
 refine T.kA.F.wu xc (fun vs H Q E h=>?_) (fun dW A outer s H vs Q E hr h=>?_)
 ·obtain⟨_,rfl,_⟩:=h;rfl
 obtain⟨c,rfl,q⟩:=h;have nd:=xc.nd;obtain⟨Hl,uo,uq⟩:=T.xx;obtain⟨Hm,ur,uv⟩:=T.xy;refine⟨_,[some (sv [c])],(ag (ba (aC tR (pv 0) (bO rfl uo uq) rfl)
 (ak (aW ax))
 aI)
 (ag (ba (aC tR (pv 0) (bO rfl ur uv) rfl)
 (ak (aW ax))
 aI)
 (ak (aW ax)))),rfl,?_⟩
 walk_at "rd";refine⟨S [c],_,rfl,rfl,?_⟩;rw[<- JU,zbQ,xC];unfold PM.kind at q;refine bq (fun hc=>?_) (fun hc=>?_)
 ·rw[if_pos hc] at q;exact q
 rw[if_neg hc] at q;refine⟨S [c],_,rfl,rfl,?_⟩;rw[<- JU,zbQ,xD];refine bq (fun hc=>?_) (fun hc=>?_)
 ·rw[if_pos hc] at q;exact q
 ·rw[if_neg hc] at q;exact q
theorem nI{w:W}(h:¬(1<=w.length/\w.length<=8)):PM.isName w=false:=by
 unfold PM.isName;by_cases h1:1<=w.length
 ·by_cases h2:w.length<=8
  ·exact absurd ⟨h1,h2⟩ h
  ·simp[h2]
 ·simp[h1]
theorem in_words(x:W)(l:List W):Il (sv x) (l.map sv)=l.contains x:=by
 unfold Il;rw[List.any_map,zbb,List.any_eq_true,zax]
 constructor
 ·rintro ⟨y,hy,e⟩
  have e':decide (S y=S x)=true:=e;rw[decide_eq_true_eq,B2] at e';rw[<- e'];exact hy
 ·intro h;exact⟨x,h,(show decide (S x=S x)=true from decide_eq_true rfl)⟩
theorem xE(T:Tx K mg t):bC P w K mg base lS 2 t.iG t.iH ["word"] wz:=by
 have A3:bC P w K mg base lS 1 t.nZ t.nA ["word", "signs"] (Ed PM.isLetter "abcdefghijklmnopqrstuvwxyz"):=CQ T _ _;refine T.fG.F.wu xb (fun vs H Q E h=>?_) (fun dW A outer s H vs Q E hr h=>?_)
 ·obtain⟨_,rfl,_⟩:=h;rfl
 obtain⟨wd,rfl,hl,q⟩:=h;have nd:=xb.nd;obtain⟨Hl,uo,uq⟩:=T.xx;obtain⟨Ld,xF,xG⟩:=T.vn;refine⟨_,[some (sv wd)],(ak (aW (tO (sf uE uE ai (br nO rfl T.mw PyProof.Rows.Boot.«len» (aa (pv 0) af ah)) (bO rfl xF xG)) (tO (aV A3 (hr.mono (by first|decide|omega)) rfl T.ku.m T.ku.F.kp T.ku.b .nil cy (aa (pv 0) (aa (bO rfl uo uq) af ah) ah)) (v5 (fC km (pv 0) (bO (v:=.ref t.e8) rfl T.CO rfl) rfl)))))),rfl,?_⟩;walk_at "rd";have line:zdc=2 ^ 24:=rfl;refine⟨S wd,rfl,by rw[ez];lia,?_⟩;rw[ez];refine bq (fun h1=>?_) (fun h1=>?_)
 ·refine bq (fun h2=>?_) (fun h2=>?_)
  ·refine⟨wd,rfl,by lia,xC,fun H1 s1=>⟨_,rfl,?_⟩⟩;cases ha:wd.all PM.isLetter with
   |false=>
    rw[if_neg zad];have e:PM.isName wd=false:=by unfold PM.isName;rw[ha];simp
    rw[<- e];exact q _ s1
   |true=>
    rw[if_pos rfl];refine⟨t.e8,_,rfl,.inr (T.ot H1),rfl,rfl,?_⟩;have e:PM.isName wd = !PM.vL.contains wd:=by
     unfold PM.isName;rw[ha,decide_eq_true (show 1<=wd.length by lia),decide_eq_true (show wd.length<=8 by lia)];rfl
    have m:Il (sv wd) [.str "box",.str "ask",.str "put",.str "say",.str "if",.str "else",.str "while",.str "must",.str "stop",.str "end"]=PM.vL.contains wd:=by
     have l:([.str "box",.str "ask",.str "put",.str "say",.str "if",.str "else",.str "while",.str "must",.str "stop",.str "end"]:List V)=PM.vL.map sv:=by decide +kernel
     rw[l];exact in_words wd _
    have q':=q _ s1;rw[e] at q';rw[m];exact q'
  ·have:=nI (w:=wd) (by lia);have q':=q _ (aq.refl _);rw[this] at q';exact q'
 ·rw[if_neg zad];have:=nI (w:=wd) (by lia);have q':=q _ (aq.refl _);rw[this] at q';exact q'
theorem sU(T:Tx K mg t):bC P w K mg base lS 2 t.eR t.fE ["word"] qY:=by
 have A3:bC P w K mg base lS 1 t.nZ t.nA ["word", "signs"] (Ed PM.jt "0123456789"):=CQ T _ _;refine T.du.F.wu sJ (fun vs H Q E h=>?_) (fun dW A outer s H vs Q E hr h=>?_)
 ·obtain⟨_,rfl,_⟩:=h;rfl
 obtain⟨wd,rfl,hl,q⟩:=h;have nd:=sJ.nd;obtain⟨Hm,ur,uv⟩:=T.xy;obtain⟨Le,xH,xI⟩:=T.vo;refine⟨_,[some (sv wd)],(ak (aW (tO (sf uE uE ai (br nO rfl T.mw PyProof.Rows.Boot.«len» (aa (pv 0) af ah)) (bO rfl xH xI)) (tO (aV A3 (hr.mono (by first|decide|omega)) rfl T.ku.m T.ku.F.kp T.ku.b .nil cy (aa (pv 0) (aa (bO rfl ur uv) af ah) ah)) (v5 (QU (fC bY (pv 0) ax (aP _)) (v5 (fC wa (aZ Jb (pv 0) ai aE) ax (aP _))))))))),rfl,?_⟩;walk_at "rd";have line:zdc=2 ^ 24:=rfl;refine⟨S wd,rfl,by rw[ez];lia,?_⟩;rw[ez];refine bq (fun h1=>?_) (fun h1=>?_)
 ·refine bq (fun h2=>?_) (fun h2=>?_)
  ·refine⟨wd,rfl,by lia,xD,fun H1 s1=>⟨_,rfl,?_⟩⟩;have q':=q _ s1;cases ha:wd.all PM.jt with
   |false=>
    rw[if_neg zad];have e:PM.isNumber wd=false:=by unfold PM.isNumber;rw[ha];simp
    rw[e] at q';exact q'
   |true=>
    rw[if_pos rfl];have e:PM.isNumber wd=(decide (wd=[48]) || !decide (wd.head?=some 48)):=by
     unfold PM.isNumber;rw[ha,decide_eq_true (show 1<=wd.length by lia),decide_eq_true (show wd.length<=3 by lia)];rfl
    rw[e] at q';have z:(V.str (zaa "0"))=sv [48]:=by decide +kernel
    refine⟨rfl,?_⟩;rw[z];refine bq (fun hz=>?_) (fun hz=>?_)
    ·rw[iC.mp hz] at q';exact q'
    ·rw[decide_eq_false (fun e=>hz (iC.mpr e)),Bool.false_or] at q';cases wd with
     |nil=>simp at h1
     |cons c r=>
      refine⟨S (c::r),0,c,rfl,rfl,by rw[ez];lia,aF (j:=0) rfl,rfl,?_⟩;rw[JU];have e2:decide (V.str (S [c])=sv [48])=decide ((c::r).head?=some 48):=by
       rw[decide_eq_decide];show sv [c]=sv [48]↔_;rw[iC];simp
      rw[e2];exact q'
  ·have e:PM.isNumber wd=false:=by unfold PM.isNumber;simp[show ¬wd.length<=3 by lia]
   have q':=q _ (aq.refl _);rw[e] at q';exact q'
 ·rw[if_neg zad];have e:PM.isNumber wd=false:=by unfold PM.isNumber;simp[show ¬1<=wd.length by lia]
  have q':=q _ (aq.refl _);rw[e] at q';exact q'
theorem Ae{a b:Nat}(ha:a<=3)(hb:b<=3):kindS a=kindS b↔a=b:=by
 have all:∀(a b:Fin 4),kindS a.1=kindS b.1↔a.1=b.1:=by decide +kernel
 exact all ⟨a,by lia⟩ ⟨b,by lia⟩
theorem A4(T:Tx K mg t):bC P w K mg base lS 2 t.gT t.gZ ["word"] wA:=by
 have Hn:bC P w K mg base lS 1 t.kz t.kQ ["sign"] B3:=ED T;refine T.gU.F.wu sL (fun vs H Q E h=>?_) (fun dW A outer s H vs Q E hr h=>?_)
 ·obtain⟨_,rfl,_⟩:=h;rfl
 obtain⟨wd,rfl,hl,q⟩:=h;have nd:=sL.nd;refine⟨_,[some (sv wd),none,none,none,none],(ag (aY (i:=1) nd rfl (zas rfl) (aL af))
 (ag (aY (i:=2) nd rfl (zas rfl) ax)
 (ag (An PassesOwn.never rfl (JQ (pv 0)) (cP (i:=3) nd rfl (zas rfl))
 (ag (aY (i:=4) nd rfl (zas rfl) (aV Hn (hr.mono (by first|decide|omega)) rfl T.kA.m T.kA.F.kp T.kA.b .nil cy (aa (pv 3) af ah)))
 (ag (ba (PW.pt (pw_and (aC wa (pv 4) ax (aP _)) (pw_and1 (aC bY (pv 4) (pv 2) (aP _)))))
 (ak (tP (aU aS (aZ aT (pv 1) (zC tQ ai) JE) (pv 3)) (IH (pv 1) (zC tQ ai) set_list)))
 (ak (cB (lU zaB zaH zaI de (pv 1) (aa (pv 3) af ah)))))
 (ak (aY (i:=2) nd rfl (zas rfl) (pv 4))))))
 (ak (aW (pv 1)))))),rfl,?_⟩
 walk_at "rd";intro l Lf;refine⟨S wd,rfl,MM (z:=S wd) (fun i σ H2=>∃a b:Option V,σ=[some (sv wd),some (.ref l),some (.str (kindS (PM.cg (wd.take i)).2)),a,b]/\aq H H2/\H2 l=some (.lst ((PM.cg (wd.take i)).1.map sv)))
  ⟨none,none,rfl,aq.new Lf _,ae⟩ ?_ ?_⟩
 ·rintro i c σ H2 hi ⟨a,b,rfl,s2,h2⟩
  have NJ:wd[i]?=some c:=hi;obtain⟨oW,Yj⟩:=zan.mp NJ;have tk:wd.take (i+1)=wd.take i++[c]:=by rw[zbi oW,Yj]
  have st:PM.cg (wd.take (i+1))=PM.kE (PM.cg (wd.take i)) c:=by rw[tk,PM.AA]
  have ok:=PM.MF (wd.take i);have So:(PM.cg (wd.take i)).1.length<=60:=zaA (PM.qX (wd.take i)) (by rw[zbh];lia);have Vj:∀p∈(PM.cg (wd.take i)).1,p.length<=60:=fun p hp=>zaA (PM.zP (w:=wd.take i) hp) (by rw[zbh];lia);have k3:(PM.cg (wd.take i)).2<=3:=by
   by_cases e:wd.take i=[]
   ·rw[e];decide
   ·have key:∀w:W,(PM.cg w).2<=3:=PM.BX (by decide) fun w c ih=>by
     rw[PM.AA];unfold PM.kE;have:=PM.kind_le c;split<;>(show PM.kind c<=3;lia)
    exact key _
  generalize PM.cg (wd.take i)=Yk at *;generalize PM.cg (wd.take (i+1))=R7 at *;subst st;obtain⟨ps,b0⟩:=Yk;have k2:=PM.kind_le c;have e1:(kindS (PM.kind c)=zaa "sign")↔PM.kind c=2:=by
   have:zaa "sign"=kindS 2:=rfl;rw[this];exact Ae (by lia) (by lia)
  have e2:(kindS (PM.kind c)=kindS b0)↔PM.kind c=b0:=Ae (by lia) k3;have h2:H2 l=some (.lst (ps.map sv)):=h2;have So:ps.length<=60:=So;have mY:∀o,aq H (upd H2 l o):=fun o b u e=>by rw[ao (aD e Lf)];exact s2 b u e
  have app:¬(PM.kind c≠2/\PM.kind c=b0)->PM.kE (ps,b0) c=(ps++[[c]],PM.kind c):=fun h=>by unfold PM.kE;rw[if_neg h]
  have sz:(ps.map sv).length<zdc:=zL (by rw[zae];lia);walk_at "rd";refine⟨c,rfl,rfl,?_⟩;refine bq (fun h=>?_) (fun h=>?_)
  ·have hk:=e1.mp (V.str.inj h);rw[if_neg zad,app (by lia)];refine⟨.inl ⟨rfl,_,.of h2⟩,l,_,_,rfl,rfl,h2,sz,_,_,rfl,mY _,?_⟩;rw[ae,zar];rfl
  have hn:PM.kind c≠2:=fun e=>h (by rw[e1.mpr e]);refine⟨rfl,?_⟩;refine bq (fun h'=>?_) (fun h'=>?_)
  ·have hk:=e2.mp (V.str.inj h');have DM:ps≠[]:=ok.last (by show b0<2;lia);obtain⟨p,hp,_⟩:=ok.mark DM;have es:=PM.wx hp;have Bu:p.length<=60:=Vj p (by show p∈ps;rw[show ps=(ps,b0).1 from rfl,es];simp);have eD:ps.getLastD []=p:=by rw[zcm,hp];rfl
   have Yl:PM.kE (ps,b0) c=(ps.dropLast++[p++[c]],PM.kind c):=by unfold PM.kE;rw[if_pos ⟨hn,hk⟩,eD]
   have QQ:ps=ps.dropLast++[p]:=es;have em:ps.map sv=ps.dropLast.map sv++[sv p]:=(congrArg (zcb sv) QQ).trans (by rw[zar];rfl);rw[Yl];refine⟨1,rfl,l,ps.map sv,_,sv p,rfl,rfl,.of h2,?_,S p,_,rfl,rfl,?_,1,rfl,?_⟩
   ·rw[em];exact BM _ _
   ·rw[ez];exact Fx (by show p.length+1<=1000;lia)
   ·refine⟨l,ps.map sv,_,(ps.dropLast.map sv).length,rfl,rfl,h2,?_,_,_,rfl,mY _,?_⟩
    ·rw[em,zaf];have:(ps.dropLast.map sv).length<=60:=by rw[zae,zaU];lia
     unfold Ik;rw[if_neg (by decide),if_pos (by simp only[zag,zbe];lia)]
     congr 1
     simp only[zag,zbe];lia
    ·rw[ae,em,zar,zcP _ _ (zai _),zb2];simp only[zcv,zay,zcs];rw[show (⟨#[c]⟩:Str)=S [c] from rfl,zQ];rfl
  ·have hk:PM.kind c≠b0:=fun e=>h' (by rw[e2.mpr e]);rw[app (by lia)];refine⟨.inl ⟨rfl,_,.of h2⟩,l,_,_,rfl,rfl,h2,sz,_,_,rfl,mY _,?_⟩;rw[ae,zar];rfl
 ·rintro σ H2 ⟨a,b,rfl,s2,h2⟩
  walk_at "rd";refine q l H2 s2 Lf ?_;rw[h2,ez,zbX];rfl
theorem xJ(T:Tx K mg t):bC P w K mg base lS 3 t.cn t.g9 ["self", "word"] (JV t.aN):=by
 have CS:bC P w K mg base lS 2 t.gT t.gZ ["word"] wA:=A4 T;refine T.jq.wu pL (fun vs H Q E h=>?_) (fun dW A outer s H vs Q E hr h=>?_)
 ·obtain⟨_,_,_,rfl,_⟩:=h;rfl
 obtain⟨p,dx,wd,rfl,hp,Ts,hl,q⟩:=h;have nd:=pL.nd;refine⟨_,[some (.ref p),some (sv wd)],(ag (wg (pv 0) (aV CS (hr.mono (by first|decide|omega)) rfl T.gU.m T.gU.F.kp T.gU.b .nil cy (aa (pv 1) af ah)) rfl)
 (ak (wg (pv 0) ai rfl))),rfl,?_⟩
 walk_at "rd";refine⟨wd,rfl,hl,fun l H1 s1 Lf h1=>?_⟩;have np:p≠l:=aD hp Lf;refine⟨p,_,dx,[],rfl,s1 _ _ hp,T.cw,T.dQ,(by decide),p,_,dx,_,rfl,ae,T.cw,T.di,(by show 1<1000;decide),?_⟩;rw[Ak];have pk:=PM.MF wd;refine q l _ (fun b o n e=>by rw[ao n];exact s1 b o e) ⟨ae,?_,?_,za0 _,pk.FF,fun x hx=>zaA (PM.zP hx) hl,zaA (PM.qX wd) hl⟩
 ·rw[ao (dU Ts hp (by intro z;cases z))];exact s1 _ _ Ts
 ·rw[ao (Ne.symm np)];exact h1
theorem gg(T:Tx K mg t):bC P w K mg base lS 1 t.bH t.cM ["self"] (sC t.aN):=by
 refine T.hG.wu oJ (fun vs H Q E h=>?_) (fun dW A outer s H vs Q E hr h=>?_)
 ·obtain⟨_,_,_,_,_,rfl,_⟩:=h;rfl
 obtain⟨p,l,dx,ps,k,rfl,o,q⟩:=h;have nd:=oJ.nd;refine⟨_,[some (.ref p)],(ag (ba (aC bY (cY (pv 0) rfl) (br cQ rfl T.mw PyProof.Rows.Boot.«len» (aa (cY (pv 0) rfl) af sr)) (aP _))
 (ak (aW ax))
 aI)
 (ak (aW (aZ aT (cY (pv 0) rfl) (cY (pv 0) rfl) MC)))),rfl,?_⟩
 walk_at "rd";refine⟨p,_,dx,_,.int k,rfl,o.ins,T.cw,T.di,rfl,p,_,dx,_,.ref l,rfl,o.ins,T.cw,T.dQ,rfl,l,_,rfl,.inl (.of o.lst),rfl,?_⟩;rw[zae];have le:=o.le;refine bq (fun h=>?_) (fun h=>?_)
 ·have e:k=ps.length:=by have:=V.int.inj h;lia
  rw[e,List.drop_length] at q;exact q
 ·have hk:k<ps.length:=by
   have:¬k=ps.length:=fun e=>h (by rw[e]);lia
  refine⟨p,_,dx,_,.ref l,rfl,o.ins,T.cw,T.dQ,rfl,p,_,dx,_,.int k,rfl,o.ins,T.cw,T.di,rfl,?_⟩;refine aO (.of o.lst) (aF (by rw[zaN,zah hk];rfl)) ?_;rw[zby hk] at q;exact q
theorem fz(T:Tx K mg t):bC P w K mg base (ky P w) 2 t.bI t.cI ["self"] (tW t.aN t.ay):=by
 have c7:bC P w K mg base lS 1 t.bH t.cM ["self"] (sC t.aN):=gg T;refine T.jr.Bx pM (fun vs H Q E h=>?_) (fun dW A outer s H vs Q E hr h=>?_)
 ·obtain⟨_,_,_,_,_,rfl,_⟩:=h;rfl
 obtain⟨p,l,dx,ps,k,rfl,o,q⟩:=h;have nd:=pM.nd;refine⟨_,[some (.ref p),none],(ag (aY (i:=1) nd rfl (zas rfl) (dC (pv 0) T.cw T.hV c7 (hr.mono (by first|decide|omega)) T.hJ .nil cy))
 (ag (ba (aC bY (pv 1) ax (aP _))
 (ak (bZ c9 T.eO rfl T.dR rfl (aa ax af aB)))
 aI)
 (ag (Gv (pv 0) ai OU)
 (ak (aW (pv 1)))))),rfl,?_⟩
 walk_at "rd";refine⟨p,dx,_,rfl,o.ins,rfl,p,l,dx,ps,k,rfl,o,rfl,?_⟩;have le:=o.le;cases hd:ps.drop k with
 |nil=>
  rw[hd] at q;refine(if_pos (show sv ([].headD [])=V.str (zaa "") from rfl)).mpr ?_;exact⟨by decide,q⟩
 |cons y r=>
  rw[hd] at q;have hk:k<ps.length:=by
   have:=congrArg zbB hd;rw[zaV,zag] at this;lia
  have hy:y∈ps:=zcT (i:=k) (by rw[hd];simp);have ne:¬sv y=V.str (zaa ""):=by
   have:V.str (zaa "")=sv []:=rfl;rw[this,iC];exact o.pos y hy
  rw[zbD,if_neg ne];refine⟨p,_,dx,_,.int k,rfl,o.ins,T.cw,T.di,rfl,?_⟩;refine⟨k,1,rfl,rfl,dx,_,o.ins,(by show 2<1000;decide),?_⟩;have e:nc (zaa "place") (V.int ((k:Int)+1)) ([("pieces",V.ref l),("place",V.int k)]:List (Str×V))=([("pieces",V.ref l),("place",V.int ((k+1:Nat):Int))]:List (Str×V)):=by
   have d:¬zaa "pieces"=zaa "place":=by decide +kernel
   unfold nc;rw[if_neg d];unfold nc;rw[if_pos rfl];rfl
  rw[e];exact q _ ((bM.refl _ _).put _) (o.at ((bM.refl _ _).put _) ae (by lia))
theorem rX.pP{CP p l dx:zc4}{H:Hp}{ps:List W}{k:Nat}{y:W}{r:List W}(o:rX CP H p l dx ps k)(hd:ps.drop k=y::r):k<ps.length/\y∈ps/\ps.drop (k+1)=r:=by
 have hk:k<ps.length:=by
  have:=congrArg zbB hd;rw[zaV,zag] at this;lia
 refine⟨hk,zcT (i:=k) (by rw[hd];simp),?_⟩;rw[zby hk] at hd;exact(List.cons.inj hd).2
theorem pQ(T:Tx K mg t){n:Nat}{d:Int}(xK:bC P w K mg base (ky P w) (4*n+4) t.cZ t.dg ["pieces", "depth"] (tX K t.aN t.ay n (d+1))) :
 bC P w K mg base (ky P w) (4*n+5) t.eC t.eU ["pieces", "depth"] (pj K t.aN t.ay (PM.factor n) d):=by
 have cH:bC P w K mg base (ky P w) 2 t.bI t.cI ["self"] (tW t.aN t.ay):=fz T;have pS:bC P w K mg base lS 2 t.eR t.fE ["word"] qY:=sU T;have uw:bC P w K mg base lS 2 t.iG t.iH ["word"] wz:=xE T;refine T.cF.F.Bx pI (fun vs H Q E h=>?_) (fun dW A outer s H vs Q E hr h=>?_)
 ·obtain⟨_,_,_,_,_,rfl,_⟩:=h;rfl
 obtain⟨p,l,dx,ps,k,rfl,o,q⟩:=h;have nd:=pI.nd;refine⟨_,[some (.ref p),some (.int d),none],(ag (aY (i:=2) nd rfl (zas rfl) (dC (pv 0) T.cw T.fW cH (hr.mono (by first|decide|omega)) T.fV .nil c8))
 (ag (ba (oZ (aV pS (hr.mono (by first|decide|omega)) rfl T.du.m T.du.F.kp T.du.b .nil cy (aa (pv 2) af ah)))
 (ak (aW (dZ (aa ax (aa (gN sA rfl T.xB PyProof.Rows.Boot.«int» (aa (pv 2) af ah)) af bP) aB))))
 aI)
 (ag (ba (oZ (aV uw (hr.mono (by first|decide|omega)) rfl T.fG.m T.fG.F.kp T.fG.b .nil cy (aa (pv 2) af ah)))
 (ak (aW (dZ (aa ax (aa (pv 2) af ah) aB))))
 aI)
 (ag (ba (aC wa (pv 2) ax (aP _))
 (ak (bZ c9 T.eO rfl T.dR rfl (aa ax af aB)))
 aI)
 (ak (aW (aV xK (hr.mono (by first|decide|omega)) rfl T.c5.m T.c5.F.kp T.c5.b .nil c8 (aa (pv 0) (aa (aU v8 (pv 1) ai) af fJ) ah)))))))),rfl,?_⟩
 walk_at "rd";refine⟨p,dx,_,rfl,o.ins,rfl,p,l,dx,ps,k,rfl,o,?_⟩;cases hd:ps.drop k with
 |nil=>
  rw[hd] at q;have e:PM.factor n []=none:=by cases n<;>rfl
  rw[e] at q;exact q H (bM.refl _ _)
 |cons y r=>
  rw[hd,B4] at q;obtain⟨hk,hy,CT⟩:=rX.pP o hd;intro H1 u1 o1;have yl:=o.len y hy;refine⟨y,rfl,by lia,fun H2 s2=>⟨_,rfl,?_⟩⟩;have u2:bM p H H2:=u1.trans (.of s2);have o2:rX t.aN H2 p l dx ps (k+1):=o1.at (.of s2) (s2 _ _ o1.ins) o1.le;refine bq (fun c1=>?_) (fun c1=>?_)
  ·rw[if_pos c1] at q;refine⟨S y,_,rfl,B5 c1,by rw[ez];lia,fun a ha=>?_⟩;refine q _ _ (k+1) (u2.new ha _) (o2.at ((bM.refl _ _).new ha _) (by rw[ao (aD o2.ins ha)];exact o2.ins) o2.le) CT ?_;exact Rep.new ha (.cons (Rep.bf.mpr rfl) (.cons (Rep.dy.mpr rfl) .nil))
  rw[if_neg c1] at q;refine⟨y,rfl,by lia,fun H3 s3=>⟨_,rfl,?_⟩⟩;have u3:bM p H H3:=u2.trans (.of s3);have o3:rX t.aN H3 p l dx ps (k+1):=o2.at (.of s3) (s3 _ _ o2.ins) o2.le;refine bq (fun c2=>?_) (fun c2=>?_)
  ·rw[if_pos c2] at q;intro a ha;refine q _ _ (k+1) (u3.new ha _) (o3.at ((bM.refl _ _).new ha _) (by rw[ao (aD o3.ins ha)];exact o3.ins) o3.le) CT ?_;exact Rep.new ha (.cons (Rep.bf.mpr rfl) (.cons (Rep.bf.mpr rfl) .nil))
  rw[if_neg c2] at q;refine⟨rfl,?_⟩;have z:V.str (zaa "(")=sv [40]:=by decide +kernel
  rw[z];refine bq (fun c3=>?_) (fun c3=>?_)
  ·rw[if_pos (iC.mp c3)] at q;refine⟨p,l,dx,ps,k+1,rfl,o3,?_⟩;rw[CT]
   revert q
   cases Td n r with
   |none=>exact fun q H' u=>q H' (u3.trans u)
   |some x=>exact fun q v H' j u=>q v H' j (u3.trans u)
  ·rw[if_neg (fun e=>c3 (iC.mpr e))] at q;exact⟨by decide,q H3 u3⟩
theorem EE{p l dx CP a:zc4}{H:Hp}{ps:List W}{k:Nat}{o':HO}(o:rX CP H p l dx ps k)(ha:H a=none):rX CP (upd H a o') p l dx ps k:=
 o.at ((bM.refl _ _).new ha _) (by rw[ao (aD o.ins ha)];exact o.ins) o.le
theorem oK(T:Tx K mg t){n:Nat}{d:Int}(qK:bC P w K mg base (ky P w) (4*n+5) t.eC t.eU ["pieces", "depth"] (pj K t.aN t.ay (PM.factor n) d)) :
 bC P w K mg base (ky P w) (4*n+6) t.dI t.eA ["pieces", "depth"] (pj K t.aN t.ay (PM.gP (PM.factor n)) d):=by
 have cH:bC P w K mg base (ky P w) 2 t.bI t.cI ["self"] (tW t.aN t.ay):=fz T;have c7:bC P w K mg base lS 1 t.bH t.cM ["self"] (sC t.aN):=gg T;refine T.cu.F.Bx oE (fun vs H Q E h=>?_) (fun dW A outer s H vs Q E hr h=>?_)
 ·obtain⟨_,_,_,_,_,rfl,_⟩:=h;rfl
 obtain⟨p,l,dx,ps,k,rfl,o,q⟩:=h;have nd:=oE.nd;refine⟨_,[some (.ref p),some (.int d),none,none],(ag (aY (i:=2) nd rfl (zas rfl) (aV qK (hr.mono (by first|decide|omega)) rfl T.cF.m T.cF.F.kp T.cF.b .nil c8 (aa (pv 0) (aa (pv 1) af ah) ah)))
 (ag (BD MH (aC bY (dC (pv 0) T.cw T.hV c7 (hr.mono (by first|decide|omega)) T.hJ .nil cy) ax (aP _))
 (ag (aY (i:=3) nd rfl (zas rfl) (dC (pv 0) T.cw T.fW cH (hr.mono (by first|decide|omega)) T.fV .nil c8))
 (ak (aY (i:=2) nd rfl (zas rfl) (dZ (aa (pv 3) (aa (pv 2) (aa (aV qK (hr.mono (by first|decide|omega)) rfl T.cF.m T.cF.F.kp T.cF.b .nil c8 (aa (pv 0) (aa (pv 1) af ah) ah)) af bP) ah) ah))))))
 (ak (aW (pv 2))))),rfl,?_⟩
 walk_at "rd";refine⟨p,l,dx,ps,k,rfl,o,?_⟩;rw[PM.BW] at q;cases hf:PM.factor n (ps.drop k) with
 |none=>
  rw[hf] at q;exact q
 |some x=>
  obtain⟨e0,r0⟩:=x;rw[hf] at q;intro v0 H0 j0 u0 o0 QF rep0;refine⟨fun m σ H2=>∃(ve:V) (j:Nat) (x:Option V) (e:PM.Tr),m=ps.length-j/\σ=[some (.ref p),some (.int d),some ve,x]/\bM p H H2/\rX t.aN H2 p l dx ps j/\Rep K H2 (oT e) ve/\
   PM.loop [[42]] (PM.factor n) e0 r0=PM.loop [[42]] (PM.factor n) e (ps.drop j),⟨_,v0,j0,none,e0,rfl,rfl,u0,o0,rep0,by rw[QF]⟩,?_⟩
  rintro m σ H2 ⟨ve,j,x,e,rfl,rfl,u2,o2,rep2,Nf⟩
  have qq:match PM.loop [[42]] (PM.factor n) e (ps.drop j) with
   |none=>∀H',bM p H H'->E (Value.ref t.ay) none H'
   |some (t',r)=>∀v H' j,bM p H H'->rX t.aN H' p l dx ps j->ps.drop j=r->Rep K H' (oT t') v->Q v H':=by
   rw[<- Nf];exact q
  walk_at "rd";refine⟨p,dx,_,rfl,o2.ins,rfl,p,l,dx,ps,j,rfl,o2,rfl,?_⟩;have z:V.str (zaa "*")=sv [42]:=by decide +kernel
  rw[z];cases hd:ps.drop j with
  |nil=>
   refine(if_neg (fun e=>absurd (iC.mp e) (by decide))).mpr ?_;rw[hd,PM.BV] at qq;exact qq ve H2 j u2 o2 hd rep2
  |cons y r=>
   obtain⟨hk,hy,CT⟩:=rX.pP o2 hd;rw[zbD];refine bq (fun c=>?_) (fun c=>?_)
   ·have OT:y∈([[42]]:List W):=by rw[iC.mp c];simp
    refine⟨fun σ' H'=>∃(ve:V) (j':Nat) (x:Option V) (e:PM.Tr),ps.length-j'<ps.length-j/\σ'=[some (.ref p),some (.int d),some ve,x]/\bM p H H'/\rX t.aN H' p l dx ps j'/\Rep K H' (oT e) ve/\
     PM.loop [[42]] (PM.factor n) e0 r0=PM.loop [[42]] (PM.factor n) e (ps.drop j'),?_,?_⟩
    ·rintro σ' H' ⟨ve,j',x,e,a1,a2,a3,a4,a5,a6⟩
     exact⟨_,a1,ve,j',x,e,rfl,a2,a3,a4,a5,a6⟩
    refine⟨p,dx,_,rfl,o2.ins,rfl,p,l,dx,ps,j,rfl,o2,?_⟩;rw[hd];intro H3 u3 o3;refine⟨p,l,dx,ps,j+1,rfl,o3,?_⟩;rw[CT];rw[hd,PM.FD (PM.gX n) OT] at qq Nf;have uu:bM p H H3:=u2.trans u3;cases Qb:(PM.factor n) r with
    |none=>
     rw[Qb] at qq;exact fun H' u=>qq H' (uu.trans u)
    |some z=>
     obtain⟨e2,r2⟩:=z;rw[Qb] at qq Nf;intro v2 H4 j2 u4 o4 Sq Qc a ha;have rv:Rep K H4 (oT e) ve:=(Rep.ng o2.ins (u3.trans u4)).1 _ _ rep2;have sh:=(PM.gX n) _ _ _ Qb;refine⟨.ref a,j2,_,.bin y e e2,?_,rfl,(uu.trans u4).new ha _,EE o4 ha,?_,?_⟩
     ·have e1:=congrArg zbB Sq;have e2:=congrArg zbB CT;rw[zaV] at e1 e2;have:=o4.le;lia
     ·exact Rep.new ha (.cons (Rep.bf.mpr rfl) (.cons rv (.cons Qc .nil)))
     ·rw[Nf,Sq]
   ·rw[hd,PM.tV (by rw[zal];exact fun e=>c (iC.mpr e))] at qq;exact qq ve H2 j u2 o2 hd rep2
theorem u6(T:Tx K mg t){n:Nat}{d:Int}(pT:bC P w K mg base (ky P w) (4*n+6) t.dI t.eA ["pieces", "depth"] (pj K t.aN t.ay (PM.gP (PM.factor n)) d)) :
 bC P w K mg base (ky P w) (4*n+7) t.eS t.eT ["pieces", "depth"] (pj K t.aN t.ay (PM.qW (PM.factor n)) d):=by
 have cH:bC P w K mg base (ky P w) 2 t.bI t.cI ["self"] (tW t.aN t.ay):=fz T;have c7:bC P w K mg base lS 1 t.bH t.cM ["self"] (sC t.aN):=gg T;refine T.cN.F.Bx uU (fun vs H Q E h=>?_) (fun dW A outer s H vs Q E hr h=>?_)
 ·obtain⟨_,_,_,_,_,rfl,_⟩:=h;rfl
 obtain⟨p,l,dx,ps,k,rfl,o,q⟩:=h;have nd:=uU.nd;refine⟨_,[some (.ref p),some (.int d),none,none],(ag (aY (i:=2) nd rfl (zas rfl) (aV pT (hr.mono (by first|decide|omega)) rfl T.cu.m T.cu.F.kp T.cu.b .nil c8 (aa (pv 0) (aa (pv 1) af ah) ah)))
 (ag (BD MH (aC gO (dC (pv 0) T.cw T.hV c7 (hr.mono (by first|decide|omega)) T.hJ .nil cy) (dZ (cU (vs:=[.str "+",.str "-"]) (by kernel_rfl))) rfl)
 (ag (aY (i:=3) nd rfl (zas rfl) (dC (pv 0) T.cw T.fW cH (hr.mono (by first|decide|omega)) T.fV .nil c8))
 (ak (aY (i:=2) nd rfl (zas rfl) (dZ (aa (pv 3) (aa (pv 2) (aa (aV pT (hr.mono (by first|decide|omega)) rfl T.cu.m T.cu.F.kp T.cu.b .nil c8 (aa (pv 0) (aa (pv 1) af ah) ah)) af bP) ah) ah))))))
 (ak (aW (pv 2))))),rfl,?_⟩
 walk_at "rd";refine⟨p,l,dx,ps,k,rfl,o,?_⟩;rw[PM.FE] at q;cases hf:PM.gP (PM.factor n) (ps.drop k) with
 |none=>
  rw[hf] at q;exact q
 |some x=>
  obtain⟨e0,r0⟩:=x;rw[hf] at q;intro v0 H0 j0 u0 o0 QF rep0;refine⟨fun m σ H2=>∃(ve:V) (j:Nat) (x:Option V) (e:PM.Tr),m=ps.length-j/\σ=[some (.ref p),some (.int d),some ve,x]/\bM p H H2/\rX t.aN H2 p l dx ps j/\Rep K H2 (oT e) ve/\
   PM.loop [[43],[45]] (PM.gP (PM.factor n)) e0 r0=PM.loop [[43],[45]] (PM.gP (PM.factor n)) e (ps.drop j),⟨_,v0,j0,none,e0,rfl,rfl,u0,o0,rep0,by rw[QF]⟩,?_⟩
  rintro m σ H2 ⟨ve,j,x,e,rfl,rfl,u2,o2,rep2,Nf⟩
  have qq:match PM.loop [[43],[45]] (PM.gP (PM.factor n)) e (ps.drop j) with
   |none=>∀H',bM p H H'->E (Value.ref t.ay) none H'
   |some (t',r)=>∀v H' j,bM p H H'->rX t.aN H' p l dx ps j->ps.drop j=r->Rep K H' (oT t') v->Q v H':=by
   rw[<- Nf];exact q
  walk_at "rd";refine⟨p,dx,_,rfl,o2.ins,rfl,p,l,dx,ps,j,rfl,o2,?_⟩;intro a1 Vk;have QG:=EE (o':=.tup [V.str (zaa "+"),V.str (zaa "-")]) o2 Vk;have Tt:=u2.new Vk (.tup [V.str (zaa "+"),V.str (zaa "-")]);have Gd:Rep K (upd H2 a1 (.tup [V.str (zaa "+"),V.str (zaa "-")])) (oT e) ve:=rep2.mono (aq.new Vk _);have z:([V.str (zaa "+"),V.str (zaa "-")]:List V)=([[43],[45]]:List W).map sv:=by decide +kernel
  refine⟨a1,_,rfl,.inr (.of ae),rfl,rfl,_,rfl,?_⟩;rw[z] at QG Tt Gd;rw[if_neg zad,z,in_words];generalize upd H2 a1 (.tup (([[43],[45]]:List W).map sv))=Wq at *;cases hd:ps.drop j with
  |nil=>
   refine(if_neg (by decide)).mpr ?_;rw[hd,PM.BV] at qq;exact qq ve Wq j Tt QG hd Gd
  |cons y r=>
   obtain⟨hk,hy,CT⟩:=rX.pP o2 hd;rw[zbD];refine bq (fun c=>?_) (fun c=>?_)
   ·have OT:y∈([[43],[45]]:List W):=zax.mp c;refine⟨fun σ' H'=>∃(ve:V) (j':Nat) (x:Option V) (e:PM.Tr),ps.length-j'<ps.length-j/\σ'=[some (.ref p),some (.int d),some ve,x]/\bM p H H'/\rX t.aN H' p l dx ps j'/\Rep K H' (oT e) ve/\
     PM.loop [[43],[45]] (PM.gP (PM.factor n)) e0 r0=PM.loop [[43],[45]] (PM.gP (PM.factor n)) e (ps.drop j'),?_,?_⟩
    ·rintro σ' H' ⟨ve,j',x,e,a1,a2,a3,a4,a5,a6⟩
     exact⟨_,a1,ve,j',x,e,rfl,a2,a3,a4,a5,a6⟩
    refine⟨p,dx,_,rfl,QG.ins,rfl,p,l,dx,ps,j,rfl,QG,?_⟩;rw[hd];intro H3 u3 o3;refine⟨p,l,dx,ps,j+1,rfl,o3,?_⟩;rw[CT];rw[hd,PM.FD (PM.nT (PM.gX n)) OT] at qq Nf;have uu:bM p H H3:=Tt.trans u3;cases Qb:(PM.gP (PM.factor n)) r with
    |none=>
     rw[Qb] at qq;exact fun H' u=>qq H' (uu.trans u)
    |some z=>
     obtain⟨e2,r2⟩:=z;rw[Qb] at qq Nf;intro v2 H4 j2 u4 o4 Sq Qc a ha;have rv:Rep K H4 (oT e) ve:=(Rep.ng QG.ins (u3.trans u4)).1 _ _ Gd;have sh:=(PM.nT (PM.gX n)) _ _ _ Qb;refine⟨.ref a,j2,_,.bin y e e2,?_,rfl,(uu.trans u4).new ha _,EE o4 ha,?_,?_⟩
     ·have e1:=congrArg zbB Sq;have e2:=congrArg zbB CT;rw[zaV] at e1 e2;have:=o4.le;lia
     ·exact Rep.new ha (.cons (Rep.bf.mpr rfl) (.cons rv (.cons Qc .nil)))
     ·rw[Nf,Sq]
   ·rw[hd,PM.tV (fun e=>c (zax.mpr e))] at qq;exact qq ve Wq j Tt QG hd Gd
theorem A5(T:Tx K mg t):bC P w K mg base (ky P w) 4 t.cZ t.dg ["pieces", "depth"] (tX K t.aN t.ay 0 6):=by
 have cH:bC P w K mg base (ky P w) 2 t.bI t.cI ["self"] (tW t.aN t.ay):=fz T;have lE:bC P w K mg base (ky P w) 0 t.eS t.eT ["pieces", "depth"] (fun _ _ _ _=>False):=⟨fun vs H Q E h=>h.elim,fun A outer s H args us vs Q E _ _ _ _ h=>h.elim⟩
 refine T.c5.F.Bx fX (fun vs H Q E h=>?_) (fun dW A outer s H vs Q E hr h=>?_)
 ·obtain⟨_,_,_,_,_,rfl,_⟩:=h;rfl
 obtain⟨p,l,dx,ps,k,rfl,o,q⟩:=h;have nd:=fX.nd;obtain⟨vp,ke,kf⟩:=T.nG;refine⟨_,[some (.ref p),some (.int 6),none],(ag (ba (aC BH (pv 1) (bO rfl ke kf) (aP _))
 (ak (bZ c9 T.eO rfl T.dR rfl (aa ax af aB)))
 aI)
 (ag (aY (i:=2) nd rfl (zas rfl) (aV lE (hr.mono (by first|decide|omega)) rfl T.cN.m T.cN.F.kp T.cN.b .nil c8 (aa (pv 0) (aa (pv 1) af ah) ah)))
 (ag (ba (aC wa (dC (pv 0) T.cw T.fW cH (hr.mono (by first|decide|omega)) T.fV .nil c8) ax (aP _))
 (ak (bZ c9 T.eO rfl T.dR rfl (aa ax af aB)))
 aI)
 (ak (aW (pv 2)))))),rfl,?_⟩
 walk_at "rd";exact(if_pos (by decide)).mpr ⟨by decide,q H (bM.refl _ _)⟩
theorem Lg(n:Nat)(ps:List W):Td (n+1) ps=match PM.qW (PM.factor n) ps with
 |some (e,q::r)=>if q=[41] then some (e,r) else none
 |_=>none:=rfl
theorem vq(T:Tx K mg t){n:Nat}{d:Int}(hd:d+n=5)(lE:bC P w K mg base (ky P w) (4*n+7) t.eS t.eT ["pieces", "depth"] (pj K t.aN t.ay (PM.qW (PM.factor n)) d)) :
 bC P w K mg base (ky P w) (4*n+8) t.cZ t.dg ["pieces", "depth"] (tX K t.aN t.ay (n+1) d):=by
 have cH:bC P w K mg base (ky P w) 2 t.bI t.cI ["self"] (tW t.aN t.ay):=fz T;refine T.c5.F.Bx fX (fun vs H Q E h=>?_) (fun dW A outer s H vs Q E hr h=>?_)
 ·obtain⟨_,_,_,_,_,rfl,_⟩:=h;rfl
 obtain⟨p,l,dx,ps,k,rfl,o,q⟩:=h;have nd:=fX.nd;obtain⟨vp,ke,kf⟩:=T.nG;refine⟨_,[some (.ref p),some (.int d),none],(ag (ba (aC BH (pv 1) (bO rfl ke kf) (aP _))
 (ak (bZ c9 T.eO rfl T.dR rfl (aa ax af aB)))
 aI)
 (ag (aY (i:=2) nd rfl (zas rfl) (aV lE (hr.mono (by first|decide|omega)) rfl T.cN.m T.cN.F.kp T.cN.b .nil c8 (aa (pv 0) (aa (pv 1) af ah) ah)))
 (ag (ba (aC wa (dC (pv 0) T.cw T.fW cH (hr.mono (by first|decide|omega)) T.fV .nil c8) ax (aP _))
 (ak (bZ c9 T.eO rfl T.dR rfl (aa ax af aB)))
 aI)
 (ak (aW (pv 2)))))),rfl,?_⟩
 walk_at "rd";rw[if_neg (by lia)];refine⟨p,l,dx,ps,k,rfl,o,?_⟩;rw[Lg] at q;cases hf:PM.qW (PM.factor n) (ps.drop k) with
 |none=>
  rw[hf] at q;exact q
 |some x=>
  obtain⟨e0,r0⟩:=x;rw[hf] at q;intro v0 H0 j0 u0 o0 QF rep0;refine⟨p,dx,_,rfl,o0.ins,rfl,p,l,dx,ps,j0,rfl,o0,?_⟩;rw[QF];cases r0 with
  |nil=>exact q H0 u0
  |cons y r=>
   obtain⟨hk,hy,CT⟩:=rX.pP o0 QF;intro H1 u1 o1;have z:V.str (zaa ")")=sv [41]:=by decide +kernel
   refine⟨rfl,?_⟩;rw[z];refine bq (fun c=>?_) (fun c=>?_)
   ·rw[iC.mp c] at q;exact q v0 H1 (j0+1) (u0.trans u1) o1 CT ((Rep.ng o0.ins u1).1 _ _ rep0)
   ·simp only[if_neg (fun e=>c (iC.mpr e))] at q;exact⟨by decide,q H1 (u0.trans u1)⟩
theorem xM(T:Tx K mg t):∀(n:Nat) (d:Int),d+n=5->bC P w K mg base (ky P w) (4*n+7) t.eS t.eT ["pieces", "depth"] (pj K t.aN t.ay (PM.qW (PM.factor n)) d)
 |0,d,h=>by
  have e:d=5:=by lia
  subst e;exact u6 T (oK T (pQ T (n:=0) (A5 T)))
 |n+1,d,h=>u6 T (oK T (pQ T (vq T (d:=d+1) (by lia) (xM T n (d+1) (by lia)))))
theorem qL(T:Tx K mg t):bC P w K mg base (ky P w) 28 t.gY t.jn ["word"] (Pn K t.ay):=by
 have lE:=xM (P:=P) (w:=w) (base:=base) T 5 0 rfl;have c7:bC P w K mg base lS 1 t.bH t.cM ["self"] (sC t.aN):=gg T;have yS:bC P w K mg base lS 3 t.cn t.g9 ["self", "word"] (JV t.aN):=xJ T;refine T.bK.F.Bx qH (fun vs H Q E h=>?_) (fun dW A outer s H vs Q E hr h=>?_)
 ·obtain⟨_,rfl,_⟩:=h;rfl
 obtain⟨wd,rfl,hl,q⟩:=h;have nd:=qH.nd;obtain⟨Ng,A6,A7⟩:=T.yN;refine⟨_,[some (sv wd),none,none],(ag (ba (aC BH (br nO rfl T.mw PyProof.Rows.Boot.«len» (aa (pv 0) af ah)) (bO rfl A6 A7) (aP _))
 (ak (bZ c9 T.eO rfl T.dR rfl (aa ax af aB)))
 aI)
 (ag (aY (i:=1) nd rfl (zas rfl) (Mi T.uj yS (hr.mono (by first|decide|omega)) rfl T.Hj T.yM .nil cy (aa (pv 0) af ah)))
 (ag (aY (i:=2) nd rfl (zas rfl) (aV lE (hr.mono (by first|decide|omega)) rfl T.cN.m T.cN.F.kp T.cN.b .nil c8 (aa (pv 1) (aa ai af aB) ah)))
 (ag (ba (aC wa (dC (pv 1) T.cw T.hV c7 (hr.mono (by first|decide|omega)) T.hJ .nil cy) ax (aP _))
 (ak (bZ c9 T.eO rfl T.dR rfl (aa ax af aB)))
 aI)
 (ak (aW (pv 2))))))),rfl,?_⟩
 walk_at "rd";have line:zdc=2 ^ 24:=rfl;refine⟨S wd,rfl,by rw[ez];lia,?_⟩;rw[ez];unfold PM.expr at q;refine bq (fun c=>?_) (fun c=>?_)
 ·rw[if_pos (by lia)] at q;exact⟨by decide,q H (aq.refl _)⟩
 rw[if_neg (by lia)] at q;intro x dx hx Ts ne;have ZY:(upd H dx (.own x)) x=none:=by rw[ao (Ne.symm ne)];exact hx
 refine⟨x,dx,wd,rfl,ae,by rw[ao ne];exact ae,by lia,fun l H1 u1 o1=>⟨rfl,?_⟩⟩;have sm:∀ {H':Hp},bM x (upd (upd H dx (.own x)) x (.ins t.aN dx [])) H'->aq H H':=fun u b o' e=>by
  have n1:b≠x:=aD e hx;have n2:b≠dx:=aD e Ts;refine u b o' n1 ?_;rw[ao n1,ao n2];exact e
 refine⟨x,l,dx,PM.pieces wd,0,rfl,o1,?_⟩;rw[List.drop_zero];cases hf:PM.qW (PM.factor 5) (PM.pieces wd) with
 |none=>
  rw[hf] at q;exact fun H' u=>q H' (sm (u1.trans u))
 |some z=>
  obtain⟨e0,r0⟩:=z;rw[hf] at q;intro v H2 j u2 o2 hj rep;refine⟨x,dx,_,rfl,o2.ins,rfl,x,l,dx,_,j,rfl,o2,rfl,?_⟩;rw[hj];have z:V.str (zaa "")=sv []:=rfl;cases r0 with
  |nil=>exact(if_pos rfl).mpr (q v H2 (sm (u1.trans u2)) rep)
  |cons y r=>
   obtain⟨_,hy,_⟩:=rX.pP o2 hj;refine(if_neg (fun e=>o2.pos y hy (iC.mp (e.trans z)))).mpr ?_;exact⟨by decide,q H2 (sm (u1.trans u2))⟩
theorem sV(T:Tx K mg t):bC P w K mg base (ky P w) 3 t.jC t.kn ["word"] (M9 t.ay):=by
 have uw:bC P w K mg base lS 2 t.iG t.iH ["word"] wz:=xE T;refine T.cz.F.Bx sM (fun vs H Q E h=>?_) (fun dW A outer s H vs Q E hr h=>?_)
 ·obtain⟨_,rfl,_⟩:=h;rfl
 obtain⟨wd,rfl,hl,q⟩:=h;have nd:=sM.nd;refine⟨_,[some (sv wd)],(ag (ba (tN (oZ (aV uw (hr.mono (by first|decide|omega)) rfl T.fG.m T.fG.F.kp T.fG.b .nil cy (aa (pv 0) af ah))))
 (ak (bZ c9 T.eO rfl T.dR rfl (aa ax af aB)))
 aI)
 (ak (aW (pv 0)))),rfl,?_⟩
 walk_at "rd";refine⟨wd,rfl,by lia,fun H2 s2=>⟨_,rfl,?_⟩⟩;unfold PM.wY at q;cases hn:PM.isName wd with
 |true=>
  rw[hn] at q;exact q H2 s2
 |false=>
  rw[hn] at q;exact⟨by decide,q H2 s2⟩
theorem xN(T:Tx K mg t):bC P w K mg base (ky P w) 3 t.fT t.g6 ["word"] (PR t.ay):=by
 have pS:bC P w K mg base lS 2 t.eR t.fE ["word"] qY:=sU T;refine T.cG.F.Bx pJ (fun vs H Q E h=>?_) (fun dW A outer s H vs Q E hr h=>?_)
 ·obtain⟨_,rfl,_⟩:=h;rfl
 obtain⟨wd,rfl,hl,q⟩:=h;have nd:=pJ.nd;refine⟨_,[some (sv wd)],(ag (ba (tN (oZ (aV pS (hr.mono (by first|decide|omega)) rfl T.du.m T.du.F.kp T.du.b .nil cy (aa (pv 0) af ah))))
 (ak (bZ c9 T.eO rfl T.dR rfl (aa ax af aB)))
 aI)
 (ak (aW (gN sA rfl T.xB PyProof.Rows.Boot.«int» (aa (pv 0) af ah))))),rfl,?_⟩
 walk_at "rd";refine⟨wd,rfl,by lia,fun H2 s2=>⟨_,rfl,?_⟩⟩;unfold PM.Hd at q;cases hn:PM.isNumber wd with
 |true=>
  rw[hn] at q;have ZZ:wd.length<=3:=by
   unfold PM.isNumber at hn;simp only[zaK,decide_eq_true_eq] at hn;exact hn.1.1.2
  exact⟨S wd,_,rfl,B5 hn,by rw[ez];lia,q H2 s2⟩
 |false=>
  rw[hn] at q;exact⟨by decide,q H2 s2⟩
theorem CU(T:Tx K mg t):bC P w K mg base (ky P w) 4 t.kR t.me ["words"] (AK K t.ay PM.He):=by
 have mx:=sV (P:=P) (w:=w) (base:=base) T;have qM:=xN (P:=P) (w:=w) (base:=base) T;refine T.iI.F.Bx uV (fun vs H Q E h=>?_) (fun dW A outer s H vs Q E hr h=>?_)
 ·obtain⟨_,_,rfl,_⟩:=h;rfl
 obtain⟨a,ws,rfl,ya,lw,l4,qn,qs⟩:=h;have nd:=uV.nd;refine⟨_,[some (.ref a)],(ak (aW (dZ (aa ax (aa (aV mx (hr.mono (by first|decide|omega)) rfl T.cz.m T.cz.F.kp T.cz.b .nil c8 (aa (aZ aT (pv 0) ai aE) af b9)) (aa (aV qM (hr.mono (by first|decide|omega)) rfl T.cG.m T.cG.F.kp T.cG.b .nil c8 (aa (aZ aT (pv 0) ai aE) af b9)) (aa (aV qM (hr.mono (by first|decide|omega)) rfl T.cG.m T.cG.F.kp T.cG.b .nil c8 (aa (aZ aT (pv 0) ai aE) af b9)) af bP) bP) bP) aB)))),rfl,?_⟩
 match ws,l4 with
 |[k,x,y,z],_=>
  have eb:PM.He [k,x,y,z]=(PM.wY x).bind fun n=>(PM.Hd y).bind fun a=>(PM.Hd z).map (.box n a):=rfl;walk_at "rd";refine aO (.of ya) (v:=sv x) (aF (j:=1) rfl) ⟨x,rfl,lw x (by simp),?_⟩;cases hx:PM.wY x with
  |none=>exact qn (by rw[eb,hx];rfl)
  |some n=>
   have en:n=x:=by
    unfold PM.wY at hx;split at hx
    ·exact(zav.inj hx).symm
    ·cases hx
   subst en;intro H1 s1;refine aO (.of (s1 _ _ ya)) (v:=sv y) (aF (j:=2) rfl) ⟨y,rfl,lw y (by simp),?_⟩;cases hy:PM.Hd y with
   |none=>exact fun H2 s2=>qn (by rw[eb,hx,hy];rfl) H2 (s1.trans s2)
   |some i=>
    intro H2 s2;refine aO (.of (s2 _ _ (s1 _ _ ya))) (v:=sv z) (aF (j:=3) rfl) ⟨z,rfl,lw z (by simp),?_⟩;cases hz:PM.Hd z with
    |none=>exact fun H3 s3=>qn (by rw[eb,hx,hy,hz];rfl) H3 (s1.trans (s2.trans s3))
    |some j=>
     intro H3 s3 p hp;refine qs (.box n i j) (by rw[eb,hx,hy,hz];rfl) _ _ ((s1.trans (s2.trans s3)).trans (aq.new hp _)) ?_;exact Rep.new hp (.cons (Rep.bf.mpr rfl) (.cons (Rep.bf.mpr rfl) (.cons (Rep.dy.mpr rfl) (.cons (Rep.dy.mpr rfl) .nil))))
theorem sW(T:Tx K mg t):bC P w K mg base (ky P w) 29 t.dJ t.eJ ["words"] (AK K t.ay PM.Cp):=by
 have iu:=qL (P:=P) (w:=w) (base:=base) T;refine T.cV.F.Bx lZ (fun vs H Q E h=>?_) (fun dW A outer s H vs Q E hr h=>?_)
 ·obtain⟨_,_,rfl,_⟩:=h;rfl
 obtain⟨a,ws,rfl,ya,lw,l4,qn,qs⟩:=h;have nd:=lZ.nd;refine⟨_,[some (.ref a)],(ag (ba (aC km (aZ aT (pv 0) ai aE) (dZ (cU (vs:=[.str "<",.str "="]) (by kernel_rfl))) rfl)
 (ak (bZ c9 T.eO rfl T.dR rfl (aa ax af aB)))
 aI)
 (ak (aW (dZ (aa (aZ aT (pv 0) ai aE) (aa (aZ aT (pv 0) ai aE) (aa (aV iu (hr.mono (by first|decide|omega)) rfl T.bK.m T.bK.F.kp T.bK.b .nil c8 (aa (aZ aT (pv 0) ai aE) af b9)) (aa (aV iu (hr.mono (by first|decide|omega)) rfl T.bK.m T.bK.F.kp T.bK.b .nil c8 (aa (aZ aT (pv 0) ai aE) af b9)) af bP) bP) b9) b9))))),rfl,?_⟩
 match ws,l4 with
 |[k,x,y,z],_=>
  have eb:PM.Cp [k,x,y,z]=if y=[60]\/y=[61] then (PM.expr x).bind fun l=>(PM.expr z).map (.cond k y l) else none:=rfl
  walk_at "rd";refine aO (.of ya) (v:=sv y) (aF (j:=2) rfl) fun p hp=>?_;have sp:=aq.new hp (.tup [V.str (zaa "<"),V.str (zaa "=")]);have hl:([V.str (zaa "<"),V.str (zaa "=")]:List V)=[[60],[61]].map sv:=by decide +kernel
  have iT:eQ K (upd H p (.tup [V.str (zaa "<"),V.str (zaa "=")])) p [V.str (zaa "<"),V.str (zaa "=")]:=.of ae;generalize upd H p (.tup [V.str (zaa "<"),V.str (zaa "=")])=H0 at *;refine⟨p,_,rfl,.inr iT,rfl,rfl,_,rfl,?_⟩;rw[hl,in_words];by_cases hy:y=[60]\/y=[61]
  ·have hc:([[60],[61]]:List W).contains y=true:=by rw[zax];simpa using hy
   rw[hc];rw[if_pos hy] at eb;rw[if_neg (show ¬((if true=true then !true else true)=true) by decide)];refine aO (.of (sp _ _ ya)) (v:=sv k) (aF (j:=0) rfl) (aO (.of (sp _ _ ya)) (v:=sv y) (aF (j:=2) rfl) (aO (.of (sp _ _ ya)) (v:=sv x) (aF (j:=1) rfl) ⟨x,rfl,zaA (lw x (by simp)) (by decide),?_⟩));cases hx:PM.expr x with
   |none=>exact fun H1 s1=>qn (by rw[eb,hx];rfl) H1 (sp.trans s1)
   |some e1=>
    intro v1 H1 s1 r1;refine aO (.of (s1 _ _ (sp _ _ ya))) (v:=sv z) (aF (j:=3) rfl) ⟨z,rfl,zaA (lw z (by simp)) (by decide),?_⟩;cases hz:PM.expr z with
    |none=>exact fun H2 s2=>qn (by rw[eb,hx,hz];rfl) H2 (sp.trans (s1.trans s2))
    |some e2=>
     intro v2 H2 s2 r2 p2 Sr;refine qs (.cond k y e1 e2) (by rw[eb,hx,hz];rfl) _ _ ((sp.trans (s1.trans s2)).trans (aq.new Sr _)) ?_;exact Rep.new Sr (.cons (Rep.bf.mpr rfl) (.cons (Rep.bf.mpr rfl) (.cons (r1.mono s2) (.cons r2 .nil))))
  ·have hc:([[60],[61]]:List W).contains y=false:=by rw[zbF];intro z;exact hy (by rw[zax] at z;simpa using z)
   rw[hc];rw[if_neg hy] at eb;rw[if_pos (show (if true=true then !false else false)=true by decide)];exact⟨by decide,qn eb H0 sp⟩
theorem EF(T:Tx K mg t)(C:Cd P w K t):bC P w K mg base (ky P w) 30 t.nB t.n8 ["row"] (KA K t.ay):=by
 have iu:=qL (P:=P) (w:=w) (base:=base) T;have mx:=sV (P:=P) (w:=w) (base:=base) T;have EG:=CU (P:=P) (w:=w) (base:=base) T;have ux:=sW (P:=P) (w:=w) (base:=base) T;refine T.kB.F.Bx xf (fun vs H Q E h=>?_) (fun dW A outer s H vs Q E hr h=>?_)
 ·obtain⟨_,rfl,_⟩:=h;rfl
 obtain⟨row,rfl,lr,qn,qs⟩:=h;have nd:=xf.nd;refine⟨_,[some (sv row),none,none],(ag (aY (i:=1) nd rfl (zas rfl) (lU zbU zcL zcM Cj (pv 0) (aa ax af aB)))
 (ag (aY (i:=2) nd rfl (zas rfl) (aZ aT (pv 1) ai aE))
 (ag (ba (aC wa (G0 (bO (v:=.ref t.cT) rfl T.xA rfl) (pv 2) ai ⟨rfl,rfl,rfl,rfl⟩) (br cQ rfl T.mw PyProof.Rows.Boot.«len» (aa (pv 1) af ah)) (aP _))
 (ak (bZ c9 T.eO rfl T.dR rfl (aa ax af aB)))
 aI)
 (ag (ba (aC bY (pv 2) ax (aP _))
 (ak (aW (aV EG (hr.mono (by first|decide|omega)) rfl T.iI.m T.iI.F.kp T.iI.b .nil c8 (aa (pv 1) af ah))))
 aI)
 (ag (ba (aC bY (pv 2) ax (aP _))
 (ak (aW (dZ (aa ax (aa (aV mx (hr.mono (by first|decide|omega)) rfl T.cz.m T.cz.F.kp T.cz.b .nil c8 (aa (aZ aT (pv 1) ai aE) af b9)) af bP) aB))))
 aI)
 (ag (ba (aC bY (pv 2) ax (aP _))
 (ak (aW (dZ (aa ax (aa (aV mx (hr.mono (by first|decide|omega)) rfl T.cz.m T.cz.F.kp T.cz.b .nil c8 (aa (aZ aT (pv 1) ai aE) af b9)) (aa (aV iu (hr.mono (by first|decide|omega)) rfl T.bK.m T.bK.F.kp T.bK.b .nil c8 (aa (aZ aT (pv 1) ai aE) af b9)) af bP) bP) aB))))
 aI)
 (ag (ba (aC bY (pv 2) ax (aP _))
 (ak (aW (dZ (aa ax (aa (aV iu (hr.mono (by first|decide|omega)) rfl T.bK.m T.bK.F.kp T.bK.b .nil c8 (aa (aZ aT (pv 1) ai aE) af b9)) af bP) aB))))
 aI)
 (ag (ba (aC gO (pv 2) (dZ (cU (vs:=[.str "must",.str "if",.str "while"]) (by kernel_rfl))) rfl)
 (ak (aW (aV ux (hr.mono (by first|decide|omega)) rfl T.cV.m T.cV.F.kp T.cV.b .nil c8 (aa (pv 1) af ah))))
 aI)
 (ak (aW (dZ (aa (pv 2) af ah)))))))))))),rfl,?_⟩
 walk_at "rd";refine⟨rfl,row,32,rfl,rfl,by decide,by lia,fun a ha=>?_⟩;have DM:=iD 32 row;have Ym:=nW 32 row;generalize a9 32 row=ws at *;have s0:=aq.new ha (.lst (ws.map sv));have ya:(upd H a (.lst (ws.map sv))) a=some (.lst (ws.map sv)):=ae;generalize upd H a (.lst (ws.map sv))=H0 at *
 match ws,DM with
 |k::r,_=>
  have wl:∀x∈k::r,x.length<=4000000:=fun x hx=>zaA (Ym x hx) (by lia);have ev:((d4 (κ:=Key) [(.inr "box",.int 4),(.inr "ask",.int 2),(.inr "put",.int 3),(.inr "say",.int 2),(.inr "must",.int 4),(.inr "if",.int 4),(.inr "else",.int 1),(.inr "while",.int 4),(.inr "end",.int 1),(.inr "stop",.int 1)] (.inr (S k))).getD (.int 0))=V.int (PM.yJ k):=by
   rw[<- KC,<- Ct,jQ,KD,KG,KI,N6,yK,kH,dv,t7,FZ];rfl
  have ef:PM.iz (k::r)=if PM.yJ k≠r.length+1 then none else if k=PM.cO then PM.He (k::r) else if k=PM.vi then (PM.wY (r.getD 0 [])).map .ask else if k=PM.vj then (PM.wY (r.getD 0 [])).bind fun n=>(PM.expr (r.getD 1 [])).map (.put n) else if k=PM.vk then (PM.expr (r.getD 0 [])).map .say else if k=PM.gR\/k=PM.cX\/k=PM.aJ then PM.Cp (k::r) else some (.one k):=rfl
  refine aO (.of ya) (v:=sv k) (aF (j:=0) rfl) ⟨_,_,rfl,C.yQ,.inr (S k),rfl,a,_,rfl,.inl (.of ya),?_⟩;rw[ev,zae,zag];refine⟨rfl,bq (fun hc=>?_) (fun hc=>⟨by decide,qn (by rw[ef,if_pos (fun z=>hc (by rw[z]))]) H0 s0⟩)⟩;have Qu:PM.yJ k=r.length+1:=by have:=V.int.inj hc;lia
  rw[if_neg (fun z=>z Qu)] at ef;refine⟨rfl,bq (fun h1=>?_) (fun h1=>?_)⟩
  ·have e1:=(bt jQ).mp h1;rw[if_pos e1] at ef;have l4:(k::r).length=4:=by rw[zag,<- Qu,e1];rfl
   exact⟨a,k::r,rfl,ya,wl,l4,fun z H1 s1=>qn (ef.trans z) H1 (s0.trans s1),fun fm z v H1 s1 rv=>qs fm (ef.trans z) v H1 (s0.trans s1) rv⟩
  have n1:k≠PM.cO:=fun z=>h1 ((bt jQ).mpr z);rw[if_neg n1] at ef;refine⟨rfl,bq (fun h2=>?_) (fun h2=>?_)⟩
  ·have e2:=(bt KD).mp h2;rw[if_pos e2] at ef;have l2:r.length=1:=by
    have z:PM.yJ k=2:=by rw[e2];rfl
    lia
   match r,l2 with
   |[x],_=>
    refine aO (.of ya) (v:=sv x) (aF (j:=1) rfl) ⟨x,rfl,wl x (by simp),?_⟩;have Nh:PM.iz [k,x]=(PM.wY x).map .ask:=ef;cases hx:PM.wY x with
    |none=>exact fun H1 s1=>qn (by rw[Nh,hx];rfl) H1 (s0.trans s1)
    |some n=>
     intro H1 s1 p hp;refine qs (.ask x) (by rw[Nh,hx];unfold PM.wY at hx;split at hx<;>cases hx;rfl) _ _ ((s0.trans s1).trans (aq.new hp _)) ?_;exact Rep.new hp (.cons (Rep.bf.mpr rfl) (.cons (Rep.bf.mpr rfl) .nil))
  have n2:k≠PM.vi:=fun z=>h2 ((bt KD).mpr z);rw[if_neg n2] at ef;refine⟨rfl,bq (fun h3=>?_) (fun h3=>?_)⟩
  ·have e3:=(bt KG).mp h3;rw[if_pos e3] at ef;have l3:r.length=2:=by
    have z:PM.yJ k=3:=by rw[e3];rfl
    lia
   match r,l3 with
   |[x,y],_=>
    refine aO (.of ya) (v:=sv x) (aF (j:=1) rfl) ⟨x,rfl,wl x (by simp),?_⟩;have Nh:PM.iz [k,x,y]=(PM.wY x).bind fun n=>(PM.expr y).map (.put n):=ef;cases hx:PM.wY x with
    |none=>exact fun H1 s1=>qn (by rw[Nh,hx];rfl) H1 (s0.trans s1)
    |some n=>
     intro H1 s1;refine aO (.of (s1 _ _ ya)) (v:=sv y) (aF (j:=2) rfl) ⟨y,rfl,zaA (wl y (by simp)) (by decide),?_⟩;cases hy:PM.expr y with
     |none=>exact fun H2 s2=>qn (by rw[Nh,hx,hy];rfl) H2 (s0.trans (s1.trans s2))
     |some e=>
      intro v H2 s2 rv p hp;refine qs (.put x e) (by rw[Nh,hx,hy];unfold PM.wY at hx;split at hx<;>cases hx;rfl) _ _ ((s0.trans (s1.trans s2)).trans (aq.new hp _)) ?_;exact Rep.new hp (.cons (Rep.bf.mpr rfl) (.cons (Rep.bf.mpr rfl) (.cons rv .nil)))
  have n3:k≠PM.vj:=fun z=>h3 ((bt KG).mpr z);rw[if_neg n3] at ef;refine⟨rfl,bq (fun h4=>?_) (fun h4=>?_)⟩
  ·have e4:=(bt KI).mp h4;rw[if_pos e4] at ef;have l2:r.length=1:=by
    have z:PM.yJ k=2:=by rw[e4];rfl
    lia
   match r,l2 with
   |[x],_=>
    refine aO (.of ya) (v:=sv x) (aF (j:=1) rfl) ⟨x,rfl,zaA (wl x (by simp)) (by decide),?_⟩;have Nh:PM.iz [k,x]=(PM.expr x).map .say:=ef;cases hx:PM.expr x with
    |none=>exact fun H1 s1=>qn (by rw[Nh,hx];rfl) H1 (s0.trans s1)
    |some e=>
     intro v H1 s1 rv p hp;refine qs (.say e) (by rw[Nh,hx];rfl) _ _ ((s0.trans s1).trans (aq.new hp _)) ?_;exact Rep.new hp (.cons (Rep.bf.mpr rfl) (.cons rv .nil))
  have n4:k≠PM.vk:=fun z=>h4 ((bt KI).mpr z);rw[if_neg n4] at ef;intro p hp;have sp:=aq.new hp (.tup [V.str (zaa "must"),V.str (zaa "if"),V.str (zaa "while")]);have iT:eQ K (upd H0 p (.tup [V.str (zaa "must"),V.str (zaa "if"),V.str (zaa "while")])) p [V.str (zaa "must"),V.str (zaa "if"),V.str (zaa "while")]:=.of ae;have hl:([V.str (zaa "must"),V.str (zaa "if"),V.str (zaa "while")]:List V)=[PM.gR,PM.cX,PM.aJ].map sv:=by rw[N6,yK,dv];rfl
  generalize upd H0 p (.tup [V.str (zaa "must"),V.str (zaa "if"),V.str (zaa "while")])=H1 at *;refine⟨p,_,rfl,.inr iT,rfl,rfl,_,rfl,?_⟩;rw[hl,in_words];by_cases hk:k=PM.gR\/k=PM.cX\/k=PM.aJ
  ·have Vl:([PM.gR,PM.cX,PM.aJ]:List W).contains k=true:=by rw[zax];simpa using hk
   rw[Vl,if_neg zad,if_pos rfl];rw[if_pos hk] at ef;have l4:(k::r).length=4:=by
    rw[zag,<- Qu];rcases hk with z |z |z<;>(rw[z];rfl)
   exact⟨a,k::r,rfl,sp _ _ ya,wl,l4,fun z H2 s2=>qn (ef.trans z) H2 (s0.trans (sp.trans s2)),fun fm z v H2 s2 rv=>qs fm (ef.trans z) v H2 (s0.trans (sp.trans s2)) rv⟩
  ·have Vl:([PM.gR,PM.cX,PM.aJ]:List W).contains k=false:=by rw[zbF];intro z;exact hk (by rw[zax] at z;simpa using z)
   rw[Vl,if_neg zad,if_neg zad];rw[if_neg hk] at ef;intro p2 Sr;exact qs (.one k) ef _ _ ((s0.trans sp).trans (aq.new Sr _)) (Rep.new Sr (.cons (Rep.bf.mpr rfl) .nil))
theorem Lh(T:Tx K mg t){n:Nat}(gK:bC P w K mg base lS n t.gi t.gS ["e"] (nv K n)) :
 bC P w K mg base lS (n+1) t.gi t.gS ["e"] (nv K (n+1)):=by
 refine T.bu.F.wu uT (fun vs H Q E h=>?_) (fun dW A outer s H vs Q E hr h=>?_)
 ·obtain⟨_,_,rfl,_⟩:=h;rfl
 obtain⟨v,tr,rfl,hv,op,ht,hl,q⟩:=h;have nd:=uT.nd;refine⟨_,[some v],(ag (ba (aC bY (aZ dD (pv 0) ai aE) ax (aP _))
 (ak (aW (aL af)))
 aI)
 (ag (ba (aC bY (aZ dD (pv 0) ai aE) ax (aP _))
 (ak (aW (aL (aa (aZ dD (pv 0) ai aE) af b9))))
 aI)
 (ak (aW (aU nP (aV gK (hr.mono (by first|decide|omega)) rfl T.bu.m T.bu.F.kp T.bu.b .nil cy (aa (aZ dD (pv 0) ai aE) af b9)) (aV gK (hr.mono (by first|decide|omega)) rfl T.bu.m T.bu.F.kp T.bu.b .nil cy (aa (aZ dD (pv 0) ai aE) af b9))))))),rfl,?_⟩
 have n1:¬("box":Str) = "number":=by decide +kernel
 cases tr with
 |num m=>
  unfold oT at hv;simp only[Rep.cj,bc.bL,bc.bX,Rep.bf,Rep.dy] at hv;obtain⟨a,xs,rfl,hS,_,_,rfl,rfl,_,_,rfl,rfl,rfl⟩:=hv;walk_at "rd";refine cA hS rfl ?_;walk_at "rd";rw[if_pos trivial];intro l Lf;exact q l _ (aq.new Lf _) Lf ae
 |box x=>
  unfold oT at hv;simp only[Rep.cj,bc.bL,bc.bX,Rep.bf,Rep.dy] at hv;obtain⟨a,xs,rfl,hS,_,_,rfl,rfl,_,_,rfl,rfl,rfl⟩:=hv;walk_at "rd";refine cA hS rfl ?_;walk_at "rd";rw[if_neg n1];refine cA hS rfl ?_;walk_at "rd";rw[if_pos trivial];refine cA hS rfl fun l Lf=>?_;exact q l _ (aq.new Lf _) Lf ae
 |bin o l r=>
  unfold oT at hv;simp only[Rep.cj,bc.bL,bc.bX,Rep.bf,Rep.dy] at hv;obtain⟨a,xs,rfl,hS,_,_,rfl,rfl,vl,_,rfl,Yn,vr,_,rfl,CT,rfl⟩:=hv;obtain⟨ho,ol,or'⟩:=op;have n2:¬S o = "number":=by rcases ho with rfl |rfl |rfl<;>decide +kernel
  have n3:¬S o = "box":=by rcases ho with rfl |rfl |rfl<;>decide +kernel
  have eN:PM.jz (.bin o l r)=PM.jz l++PM.jz r:=rfl;rw[eN] at q hl;rw[zaf] at hl;rw[PG.AF] at ht;walk_at "rd";refine cA hS rfl ?_;walk_at "rd";rw[if_neg n2];refine cA hS rfl ?_;walk_at "rd";rw[if_neg n3];refine cA hS rfl ⟨vl,l,rfl,Yn,ol,by lia,by lia,fun l1 H1 s1 f1 y1=>?_⟩;refine cA (s1.kD hS) rfl ⟨vr,r,rfl,CT.mono s1,or',by lia,by lia,fun l2 H2 s2 f2 y2=>?_⟩;refine⟨l1,l2,_,_,rfl,rfl,s2 _ _ y1,y2,by rw[zae,zae];exact zaA hl (by decide),fun l3 f3=>?_⟩;refine q l3 _ ((s1.trans s2).trans (aq.new f3 _)) (df (s1.trans s2) f3) ?_;rw[ae,zar]
theorem Af(T:Tx K mg t):∀n,bC P w K mg base lS n t.gi t.gS ["e"] (nv K n)
 |0=>by
  have no:∀vs H Q E,¬nv K 0 vs H Q E:=fun vs H Q E h=>by cases h;lia
  exact⟨fun vs H Q E h=>(no vs H Q E h).elim,fun _ _ _ _ _ _ _ _ _ _ _ _ _ h=>(no _ _ _ _ h).elim⟩
 |n+1=>Lh T (Af T n)
theorem yT(T:Tx K mg t):bC P w K mg base lS 1 t.cS t.mH ["self"] (Cv K t.bb):=by
 refine T.kx.wu qJ (fun vs H Q E h=>?_) (fun dW A outer s H vs Q E hr h=>?_)
 ·obtain⟨_,_,rfl,_⟩:=h;rfl
 obtain⟨p,dx,rfl,yp,yd,q⟩:=h;have nd:=qJ.nd;refine⟨_,[some (.ref p)],(ag (wg (pv 0) (aL af) rfl)
 (ag (wg (pv 0) (aL af) rfl)
 (ak (wg (pv 0) (aL af) rfl)))),rfl,?_⟩
 walk_at "rd";intro bx fx;have n1:p≠bx:=aD yp fx;refine⟨p,_,dx,[],rfl,by rw[ao n1];exact yp,T.bJ,T.c6,by decide,fun bd fb=>?_⟩;have n2:bd≠p:=fun z=>by rw[z,ae] at fb;cases fb
 have f2:upd H bx (.lst []) bd=none:=by rw[ao n2] at fb;exact fb
 have n3:bd≠bx:=fun z=>by rw[z,ae] at f2;cases f2
 have f3:H bd=none:=by rw[ao n3] at f2;exact f2
 refine⟨p,_,dx,[("boxes",.ref bx)],rfl,by rw[ao (Ne.symm n2),ae];rfl,T.bJ,T.eF,by show 1<1000;decide,fun ns fn=>?_⟩;have n4:ns≠p:=fun z=>by rw[z,ae] at fn;cases fn
 rw[ao n4] at fn;have n5:ns≠bd:=fun z=>by rw[z,ae] at fn;cases fn
 rw[ao n5,ao n4] at fn;have n6:ns≠bx:=fun z=>by rw[z,ae] at fn;cases fn
 rw[ao n6] at fn;refine⟨p,_,dx,[("boxes",.ref bx),("body",.ref bd)],rfl,by rw[ao (Ne.symm n4),ae];rfl,T.bJ,T.bz,by show 2<1000;decide,?_⟩;generalize hF:upd _ p _=Hf;have up:bM p H Hf:=fun b o nb e=>by rw[<- hF,ao nb,ao (aD e fn),ao nb,ao (aD e f3),ao nb,ao (aD e fx)];exact e
 have y1:Hf bx=some (.lst []):=by rw[<- hF,ao (Ne.symm n1),ao (Ne.symm n6),ao (Ne.symm n1),ao (Ne.symm n3),ao (Ne.symm n1),ae]
 have y2:Hf bd=some (.lst []):=by rw[<- hF,ao n2,ao (Ne.symm n5),ao n2,ae]
 have y3:Hf ns=some (.lst []):=by rw[<- hF,ao n4,ae]
 have y4:Hf p=some (.ins t.bb dx [("boxes",.ref bx),("body",.ref bd),("nest",.ref ns)]):=by rw[<- hF,ae];rfl
 refine q (fun b=>b=bx\/b=bd\/b=ns) bx bd ns _ (fun b hb=>by rcases hb with rfl |rfl |rfl<;>assumption) up ?_;exact {own:=fun b hb=>by rcases hb with rfl |rfl |rfl<;>exact⟨[],by assumption,zai _⟩,DN:=.inl rfl,LW:=.inr (.inl rfl),Aa:=.inr (.inr rfl),d1:=Ne.symm n3,d2:=Ne.symm n6,d3:=Ne.symm n5,ins:=⟨dx,y4⟩,box:=⟨[],y1,AL.nil⟩,LX:=⟨[],y2,by simp⟩,DO:=⟨[],y3,AL.nil⟩,nb:=fun z=>absurd rfl z}
theorem vN{α:Type}{l:List α}{x:α}(h:l.getLast?=some x):Fn l (-1)=some x:=by
 obtain⟨ys,e⟩:=zbz.mp h;rw[e];exact BM _ _
theorem rN(T:Tx K mg t):bC P w K mg base lS 1 t.bS t.gj ["self"] (F0 K t.bb):=by
 refine T.eL.wu kO (fun vs H Q E h=>?_) (fun dW A outer s H vs Q E hr h=>?_)
 ·obtain⟨_,_,_,_,_,_,_,rfl,_⟩:=h;rfl
 obtain⟨O,p,bx,bd,ns,d,m,rfl,dr,q⟩:=h;have nd:=kO.nd;refine⟨_,[some (.ref p)],(ag (ba (o7 (cY (pv 0) rfl) (fun _=>rfl))
 (ak (aW (aZ dD (aZ aT (cY (pv 0) rfl) (zC tQ ai) JE) ai aE)))
 aI)
 (ak (aW (cY (pv 0) rfl)))),rfl,?_⟩
 walk_at "rd";obtain⟨dx,yp⟩:=dr.ins;obtain⟨us,yn,ix⟩:=dr.DO;refine⟨p,_,dx,_,.ref ns,rfl,yp,T.bJ,T.bz,rfl,_,.inl ⟨us,.of yn,rfl⟩,?_⟩;cases hk:d.dY.getLast? with
 |none=>
  have ek:d.dY=[]:=za6.mp hk;have eu:us=[]:=zaO.mp (by rw[ix.1,ek];rfl);subst eu;exact⟨p,_,dx,_,.ref bd,rfl,yp,T.bJ,T.eF,rfl,q bd ⟨dr.LW,Ne.symm dr.d1,dr.d3⟩ fun _=>rfl⟩
 |some k=>
  obtain⟨u,hu,a,L,x,rfl,hS,hL,_⟩:=ix.last hk;have eu:us.isEmpty=false:=by cases us with
   |nil=>cases hu
   |cons=>rfl
  rw[eu];refine⟨p,_,dx,_,.ref ns,rfl,yp,T.bJ,T.bz,rfl,1,rfl,aO (.of yn) (v:=.ref a) (vN hu) (cA hS rfl (q L hL fun z=>?_))⟩;rw[z] at hk;cases hk
theorem vt(T:Tx K mg t):bC P w K mg base lS 1 t.bF t.eZ ["self"] (Cu K t.bb):=by
 refine T.dA.wu jB (fun vs H Q E h=>?_) (fun dW A outer s H vs Q E hr h=>?_)
 ·obtain⟨_,_,_,_,_,_,_,rfl,_⟩:=h;rfl
 obtain⟨O,p,bx,bd,ns,d,m,rfl,dr,q1,q2⟩:=h;have nd:=jB.nd;refine⟨_,[some (.ref p)],(ag (ba (o7 (cY (pv 0) rfl) (fun _=>rfl))
 (ak (aW (aZ dD (aZ aT (cY (pv 0) rfl) (zC tQ ai) JE) ai aE)))
 aI)
 (ak (aW vY))),rfl,?_⟩
 walk_at "rd";obtain⟨dx,yp⟩:=dr.ins;obtain⟨us,yn,ix⟩:=dr.DO;refine⟨p,_,dx,_,.ref ns,rfl,yp,T.bJ,T.bz,rfl,_,.inl ⟨us,.of yn,rfl⟩,?_⟩;cases hk:d.dY.getLast? with
 |none=>
  have ek:d.dY=[]:=za6.mp hk;have eu:us=[]:=zaO.mp (by rw[ix.1,ek];rfl);subst eu;exact q2 (by rw[hk];intro z;cases z)
 |some k=>
  obtain⟨u,hu,a,L,x,rfl,hS,hL,hx⟩:=ix.last hk;have eu:us.isEmpty=false:=by cases us with
   |nil=>cases hu
   |cons=>rfl
  rw[eu];refine⟨p,_,dx,_,.ref ns,rfl,yp,T.bJ,T.bz,rfl,1,rfl,aO (.of yn) (v:=.ref a) (vN hu) (cA hS rfl ?_)⟩;cases k with
  |true=>
   obtain⟨L2,rfl,h2⟩:=hx;exact q1 hk L2 h2
  |false=>
   cases (show x=.da from hx);exact q2 (by rw[hk];intro z;cases z)
theorem pU(T:Tx K mg t):bC P w K mg base lS 1 t.bT t.gk ["self"] (w5 K t.bb):=by
 refine T.eM.wu kP (fun vs H Q E h=>?_) (fun dW A outer s H vs Q E hr h=>?_)
 ·obtain⟨_,_,_,_,_,_,_,rfl,_⟩:=h;rfl
 obtain⟨O,p,bx,bd,ns,d,m,rfl,dr,lm,q⟩:=h;have nd:=kP.nd;refine⟨_,[some (.ref p)],(ak (aW (vJ (own:=["box"]) (ix:=[]) rfl (by rfl) (by rfl) (vF (cY (pv 0) rfl)) (fun _ _ _ _=>(cP (i:=0) (by show List.Nodup (["box"]:List Str);decide +kernel) rfl (zas rfl))) (fun _ _ _ _=>Ax) (fun _ _ _ _=>(aZ (MU (K:=K) rfl) (pv 0) ai aE))))),rfl,?_⟩;walk_at "rd";obtain⟨dx,yp⟩:=dr.ins;obtain⟨us,yb,ix⟩:=dr.box;have lu:us.length<=m:=by
  obtain⟨zs,e,l⟩:=dr.own _ dr.DN;rw[yb] at e;cases e;exact l
 refine⟨p,_,dx,_,.ref bx,rfl,yp,T.bJ,T.c6,rfl,?_⟩;refine⟨bx,rfl,⟨us,.of yb⟩,fun D hD=>?_⟩;refine GV (K:=K) (fun i=>sv (d.jL.getD i [])) (.of yb) (by lia) hD (fun i x H2 hx s2 R hR=>?_) (fun H2 s2 y2=>q D H2 s2 hD ?_)
 ·have li:i<us.length:=(zan.mp hx).1;have Wr:i<d.jL.length:=by rw[<- ix.1];exact li
  obtain⟨a,r,rfl,hS⟩:=ix.2 i d.jL[i] x (zah Wr) hx;walk_at "rd";refine cA (s2.kD hS) (v:=sv d.jL[i]) (aF (j:=0) rfl) ?_;rw[zaE,zah Wr] at hR;exact hR
 ·rw[y2]
  congr 2
  refine List.ext_getElem (by simp[ix.1]) fun i h1 h2=>?_;simp at h1 h2 ⊢;rw[zah h2];rfl
def Li (t:Ad):PM.Er->zc4
 |.sH=>t.ay
 |.qu=>t.au
 |.sI=>t.ar
 |.vQ=>t.aw
 |.qv=>t.aj
 |.twice=>t.aG
 |.wZ=>t.aR
 |.full=>t.aQ
 |.FX=>t.aH
def Qd:Sp:=fun vs H Q _=>∃a b:Int,vs=[.int a,.int b]/\Q (.bl (decide (2<=a/\a<=10/\b<a))) H
theorem xO(T:Tx K mg t):bC P w K mg base lS 1 t.fU t.g7 ["size", "first"] Qd:=by
 refine T.eE.F.wu pK (fun vs H Q E h=>?_) (fun dW A outer s H vs Q E hr h=>?_)
 ·obtain⟨_,_,rfl,_⟩:=h;rfl
 obtain⟨a,b,rfl,q⟩:=h;have nd:=pK.nd;obtain⟨Ni,A8,A9⟩:=T.yP;obtain⟨N8,CV,CY⟩:=T.A0;refine⟨_,[some (.int a),some (.int b)],(ak (aW (tO (sf uE uE (bO rfl A8 A9) (pv 0) (bO rfl CV CY)) (v5 (fC zD (pv 1) (pv 0) (aP _)))))),rfl,?_⟩;walk_at "rd";by_cases h1:2<=a
 ·rw[if_pos h1];by_cases h2:a<=10
  ·rw[if_pos h2];have e:decide (2<=a/\a<=10/\b<a)=decide (b<a):=by simp[h1,h2]
   rw[e] at q;exact q
  ·rw[if_neg h2];rw[decide_eq_false (fun z=>h2 z.2.1)] at q;exact q
 ·rw[if_neg h1,if_neg zad];rw[decide_eq_false (fun z=>h1 z.1)] at q;exact q
theorem CZ(T:Tx K mg t):bC P w K mg base (ky P w) 2 t.kT t.mh ["draft", "number", "box"] (F1 K t.bb (Li t)):=by
 have yU:=xO (P:=P) (w:=w) (base:=base) T;have iw:=pU (P:=P) (w:=w) (base:=base) T;refine T.iK.F.Bx uX (fun vs H Q E h=>?_) (fun dW A outer s H vs Q E hr h=>?_)
 ·obtain⟨_,_,_,_,_,_,_,_,_,_,_,_,rfl,_⟩:=h;rfl
 obtain⟨O,p,bx,bd,ns,d,m,k,v,n,a,b,rfl,dr,lm,lk,rv,q⟩:=h;have nd:=uX.nd;obtain⟨Nj,Ba,Bb⟩:=T.yO;refine⟨_,[some (.ref p),some (.int k),some v],(ag (ba (o7 (cY (pv 0) rfl) (fun _=>rfl))
 (ak (bZ c9 T.nD rfl T.oa rfl (aa (lY (.cons ax (.cons (sG (pv 1)) (.cons ax .nil)))) af lW)))
 aI)
 (ag (ba (tN (oZ (aV yU (hr.mono (by first|decide|omega)) rfl T.eE.m T.eE.F.kp T.eE.b .nil cy (aa (aZ dD (pv 2) ai aE) (aa (aZ dD (pv 2) ai aE) af b9) b9))))
 (ak (bZ c9 T.pN rfl T.sT rfl (aa (lY (.cons ax (.cons (sG (pv 1)) (.cons ax .nil)))) af lW)))
 aI)
 (ag (ba (aC gO (aZ dD (pv 2) ai aE) (dC (pv 0) T.bJ T.mn iw (hr.mono (by first|decide|omega)) T.ml .nil cy) rfl)
 (ak (bZ c9 T.AQ rfl T.CJ rfl (aa (lY (.cons ax (.cons (sG (pv 1)) (.cons ax .nil)))) af lW)))
 aI)
 (ag (ba (aC bY (br cQ rfl T.mw PyProof.Rows.Boot.«len» (aa (cY (pv 0) rfl) af sr)) (bO rfl Ba Bb) (aP _))
 (ak (bZ c9 T.Ew rfl T.F7 rfl (aa (lY (.cons ax (.cons (sG (pv 1)) (.cons ax .nil)))) af lW)))
 aI)
 (ak (cB (lU zaB zaH zaI de (cY (pv 0) rfl) (aa (pv 2) af ah)))))))),rfl,?_⟩
 walk_at "rd";obtain⟨dx,yp⟩:=dr.ins;obtain⟨ys,yb,hb⟩:=dr.LX;simp only[Rep.cj,bc.bL,bc.bX,Rep.bf,Rep.dy] at rv;obtain⟨va,xs,rfl,hS,_,_,rfl,rfl,_,_,rfl,rfl,_,_,rfl,rfl,rfl⟩:=rv;refine⟨p,_,dx,_,.ref bd,rfl,yp,T.bJ,T.eF,rfl,_,.inl ⟨ys,.of yb,rfl⟩,?_⟩;unfold PM.AJ at q;cases yV:d.Cr with
 |true=>
  have e:ys.isEmpty=false:=by
   cases ys with
   |nil=>exact absurd (hb.mp rfl) (by rw[yV];decide)
   |cons=>rfl
  rw[e,if_pos (show (!false)=true from rfl)];rw[yV] at q;exact rm lk (by decide) (by decide) (q H bD.refl)
 |false=>
  cases hb.mpr yV;rw[yV,if_neg zad] at q;rw[if_neg (show ¬(!([]:List V).isEmpty)=true by decide)];refine cA hS (v:=.int a) (aF (j:=1) rfl) (cA hS (v:=.int b) (aF (j:=2) rfl) ⟨a,b,rfl,_,rfl,?_⟩);by_cases hm:2<=a/\a<=10/\b<a
  ·rw[decide_eq_true hm,if_neg (show ¬(!true)=true by decide)];rw[if_neg (fun z=>z hm)] at q;refine cA hS (v:=sv n) (aF (j:=0) rfl) ?_;refine⟨p,dx,_,rfl,yp,rfl,O,p,bx,bd,ns,d,m,rfl,dr,lm,fun l H2 s2 fl yl=>?_⟩;refine⟨l,_,rfl,.inl (.of yl),rfl,by rw[zb3];exact za2.mpr fun _ _=>rfl,_,rfl,?_⟩;rw[if_neg zad,in_words];have u2:bD O H H2:=.of s2;by_cases hn:n∈d.jL
   ·rw[if_pos hn] at q;rw[if_pos (zax.mpr hn)];exact rm lk (by decide) (by decide) (q H2 u2)
   rw[if_neg hn] at q;rw[if_neg (fun z=>hn (zax.mp z))];have QH:=dr.mono s2;obtain⟨us,yx,ix⟩:=QH.box;have lu:us.length<=m:=by
    obtain⟨zs,e,l⟩:=QH.own _ dr.DN;rw[yx] at e;cases e;exact l
   refine⟨p,_,dx,_,.ref bx,rfl,s2 _ _ yp,T.bJ,T.c6,rfl,bx,us,rfl,.inl (.of yx),?_⟩;rw[ix.1];by_cases h4:d.jL.length=4
   ·rw[if_pos h4] at q;rw[if_pos (by rw[h4];rfl)];exact rm lk (by decide) (by decide) (q H2 u2)
   rw[if_neg h4] at q;rw[if_neg (fun z=>h4 (by lia))];have line:zdc=2 ^ 24:=rfl;refine⟨p,_,dx,_,.ref bx,rfl,s2 _ _ yp,T.bJ,T.c6,rfl,.inl ⟨rfl,_,.of yx⟩,bx,us,.ref va,rfl,rfl,yx,by lia,?_⟩;refine q O _ (fun b z=>.inl z) (u2.put dr.DN _) ?_;have z:=(QH.boxed yx (n:=n) (x:=.ref va) ⟨va,_,rfl,s2.kD hS⟩).more (k:=m+2) (by lia);rw[yV] at z;exact z
  ·rw[decide_eq_false hm,if_pos (show (!false)=true from rfl)];rw[if_pos hm] at q;exact rm lk (by decide) (by decide) (q H bD.refl)
theorem C0(T:Tx K mg t):bC P w K mg base (ky P w) 2 t.kU t.mi ["draft", "number"] (w6 K t.bb (Li t) PM.t6):=by
 refine T.iL.F.Bx uY (fun vs H Q E h=>?_) (fun dW A outer s H vs Q E hr h=>?_)
 ·obtain⟨_,_,_,_,_,_,_,_,rfl,_⟩:=h;rfl
 obtain⟨O,p,bx,bd,ns,d,m,k,rfl,dr,lm,lk,q⟩:=h;have nd:=uY.nd;refine⟨_,[some (.ref p),some (.int k)],(ag (ba (tN (o7 (cY (pv 0) rfl) (fun _=>rfl)))
 (ak (bZ c9 T.nD rfl T.oa rfl (aa (lY (.cons ax (.cons (sG (pv 1)) (.cons ax .nil)))) af lW)))
 aI)
 (ak (cB (Av zaB zbY zbZ D6 (cY (pv 0) rfl))))),rfl,?_⟩
 walk_at "rd";obtain⟨dx,yp⟩:=dr.ins;obtain⟨us,yn,ix⟩:=dr.DO;have lu:us.length<=m:=by
  obtain⟨zs,e,l⟩:=dr.own _ dr.Aa;rw[yn] at e;cases e;exact l
 refine⟨p,_,dx,_,.ref ns,rfl,yp,T.bJ,T.bz,rfl,_,.inl ⟨us,.of yn,rfl⟩,?_⟩;unfold PM.t6 at q;cases hk:d.dY.getLast? with
 |none=>
  have ek:d.dY=[]:=za6.mp hk;have eu:us=[]:=zaO.mp (by rw[ix.1,ek];rfl);subst eu;rw[if_pos ek] at q;rw[if_pos (show (!(!([]:List V).isEmpty))=true from rfl)];exact rm lk (by decide) (by decide) (q H bD.refl)
 |some b=>
  obtain⟨u,hu,fu⟩:=ix.last hk;have ek:d.dY≠[]:=fun z=>by rw[z] at hk;cases hk
  rw[if_neg ek] at q;have ee:us.isEmpty=false:=by cases us with
   |nil=>cases hu
   |cons=>rfl
  rw[ee,if_neg (show ¬(!(!false))=true by decide)];refine⟨p,_,dx,_,.ref ns,rfl,yp,T.bJ,T.bz,rfl,.inl ⟨rfl,_,.of yn⟩,ns,us,u,rfl,rfl,yn,by rw[<- zaZ];exact hu,?_⟩;refine q O _ (fun b z=>.inl z) (bD.refl.put dr.Aa _) ?_;exact(dr.jP (fun _ z=>z) (fun _ z=>.inl z) (by rw[zaU];lia) ix.drop (fun _=>dr.nb ek)).more (by lia)
theorem Bc(T:Tx K mg t):bC P w K mg base (ky P w) 2 t.jD t.kq ["draft", "number"] (w6 K t.bb (Li t) PM.nu):=by
 have qB:=vt (P:=P) (w:=w) (base:=base) T;refine T.gV.F.Bx sN (fun vs H Q E h=>?_) (fun dW A outer s H vs Q E hr h=>?_)
 ·obtain⟨_,_,_,_,_,_,_,_,rfl,_⟩:=h;rfl
 obtain⟨O,p,bx,bd,ns,d,m,k,rfl,dr,lm,lk,q⟩:=h;have nd:=sN.nd;refine⟨_,[some (.ref p),some (.int k),none],(ag (aY (i:=2) nd rfl (zas rfl) (dC (pv 0) T.bJ T.qA qB (hr.mono (by first|decide|omega)) T.qz .nil cy))
 (ag (ba (aC ON (pv 2) vY (aP _))
 (ak (bZ c9 T.nD rfl T.oa rfl (aa (lY (.cons ax (.cons (sG (pv 1)) (.cons ax .nil)))) af lW)))
 aI)
 (ag (cB (Av zaB zbY zbZ D6 (cY (pv 0) rfl)))
 (ak (cB (lU zaB zaH zaI de (cY (pv 0) rfl) (aa (dZ (aa (pv 2) (aa vY af aB) ah)) af D8))))))),rfl,?_⟩
 walk_at "rd";obtain⟨dx,yp⟩:=dr.ins;obtain⟨us,yn,ix⟩:=dr.DO;have lu:us.length<=m:=by
  obtain⟨zs,e,l⟩:=dr.own _ dr.Aa;rw[yn] at e;cases e;exact l
 refine⟨p,dx,_,rfl,yp,rfl,O,p,bx,bd,ns,d,m,rfl,dr,fun hk L hL=>?_,fun hk=>?_⟩
 ·unfold PM.nu at q;rw[if_pos hk] at q;obtain⟨u,hu,fu⟩:=ix.last hk;have ek:d.dY≠[]:=fun z=>by rw[z] at hk;cases hk
  have line:zdc=2 ^ 24:=rfl;rw[if_neg (fun z=>by cases z)];refine⟨p,_,dx,_,.ref ns,rfl,yp,T.bJ,T.bz,rfl,.inl ⟨rfl,_,.of yn⟩,ns,us,u,rfl,rfl,yn,by rw[<- zaZ];exact hu,?_⟩;have Yo:=dr.jP (fun _ z=>z) (fun _ z=>.inl z) (us:=us.dropLast) (by rw[zaU];lia) ix.drop (fun _=>dr.nb ek);have u1:bD O H (upd H ns (.lst us.dropLast)):=bD.refl.put dr.Aa _;have Yp:(upd H ns (.lst us.dropLast)) p=some (.ins t.bb dx [("boxes",.ref bx),("body",.ref bd),("nest",.ref ns)]):=by rw[ao (dr.Sj dr.Aa)];exact yp
  have Vm:(upd H ns (.lst us.dropLast)) ns=some (.lst us.dropLast):=ae;generalize upd H ns (.lst us.dropLast)=H1 at *;refine⟨p,_,dx,_,.ref ns,rfl,Yp,T.bJ,T.bz,rfl,.inl ⟨rfl,_,.of Vm⟩,fun g hg=>?_⟩;have sg:=aq.new hg (.tup [V.ref L,V.da]);have ig:eQ K (upd H1 g (.tup [V.ref L,V.da])) g [V.ref L,V.da]:=.of ae;have u2:=u1.new hg (.tup [V.ref L,V.da]);generalize upd H1 g (.tup [V.ref L,V.da])=H2 at *;have QH:=Yo.mono sg;obtain⟨Z0,y2,Yq⟩:=QH.DO;rw[sg _ _ Vm] at y2;cases y2;refine⟨ns,us.dropLast,.ref g,rfl,rfl,sg _ _ Vm,by rw[zaU];lia,?_⟩;refine q O _ (fun b z=>.inl z) (u2.put dr.Aa _) ?_;exact QH.jP (fun _ z=>z) (fun _ z=>.inl z) (by rw[zaf,zaU,zau];lia) (Yq.snoc ⟨g,L,.da,rfl,ig,hL,rfl⟩) (fun _=>dr.nb ek)
 ·unfold PM.nu at q;rw[if_neg hk] at q;rw[if_pos rfl];exact rm lk (by decide) (by decide) (q H bD.refl)
theorem yW(T:Tx K mg t):bC P w K mg base lS 1 t.g8 t.jo ["word"] KL:=by
 refine T.fH.F.wu qI (fun vs H Q E h=>?_) (fun dW A outer s H vs Q E hr h=>?_)
 ·obtain⟨_,rfl,_⟩:=h;rfl
 obtain⟨k,rfl,q⟩:=h;have nd:=qI.nd;refine⟨_,[some (sv k)],(ag (ba (aC bY (pv 0) ax (aP _))
 (ak (aW (aL (aa (aL af) (aa (aL af) af cb) cb))))
 aI)
 (ag (ba (aC bY (pv 0) ax (aP _))
 (ak (aW (aL (aa (aL af) af cb))))
 aI)
 (ak (aW (aL af))))),rfl,?_⟩
 walk_at "rd";refine⟨rfl,bq (fun h1=>?_) (fun h1=>?_)⟩
 ·have e1:=(bt yK).mp h1;intro b f1 c f2 l f3;have s1:=aq.new f1 (.lst []);have s2:=aq.new f2 (.lst []);have s3:=aq.new f3 (.lst [V.ref b,V.ref c]);have y1:(upd H b (.lst [])) b=some (.lst []):=ae;have y2:(upd (upd H b (.lst [])) c (.lst [])) c=some (.lst []):=ae;refine q [b,c] l _ (s1.trans (s2.trans s3)) (df (s1.trans s2) f3) ae (by unfold Sk;rw[if_pos e1];rfl) fun x hx=>?_;rcases zak.mp hx with rfl |hx
  ·exact⟨f1,s3 _ _ (s2 _ _ y1)⟩
  ·cases zal.mp hx;exact⟨df s1 f2,s3 _ _ y2⟩
 have n1:k≠PM.cX:=fun z=>h1 ((bt yK).mpr z);refine⟨rfl,bq (fun h2=>?_) (fun h2=>?_)⟩
 ·have e2:=(bt dv).mp h2;intro b f1 l f3;have s1:=aq.new f1 (.lst []);have s3:=aq.new f3 (.lst [V.ref b]);have y1:(upd H b (.lst [])) b=some (.lst []):=ae;refine q [b] l _ (s1.trans s3) (df s1 f3) ae (by unfold Sk;rw[if_neg n1,if_pos e2];rfl) fun x hx=>?_;cases zal.mp hx;exact⟨f1,s3 _ _ y1⟩
 have n2:k≠PM.aJ:=fun z=>h2 ((bt dv).mpr z);intro l f3;exact q [] l _ (aq.new f3 _) f3 ae (by unfold Sk;rw[if_neg n1,if_neg n2];rfl) fun x hx=>by cases hx
theorem uy(T:Tx K mg t):bC P w K mg base lS 61 t.eB t.fF ["form"] (Cw K):=by
 have gK:=Af (P:=P) (w:=w) (base:=base) T 60;refine T.dh.F.wu nz (fun vs H Q E h=>?_) (fun dW A outer s H vs Q E hr h=>?_)
 ·obtain⟨_,_,rfl,_⟩:=h;rfl
 obtain⟨v,f,rfl,rv,pC,q⟩:=h;have nd:=nz.nd;refine⟨_,[some v,none],(ag (aY (i:=1) nd rfl (zas rfl) (aZ dD (pv 0) ai aE))
 (ag (ba (aC bY (pv 1) ax (aP _))
 (ak (aW (aL (aa (aZ dD (pv 0) ai aE) af b9))))
 aI)
 (ag (ba (aC bY (pv 1) ax (aP _))
 (ak (aW (aU nP (aL (aa (aZ dD (pv 0) ai aE) af b9)) (aV gK (hr.mono (by first|decide|omega)) rfl T.bu.m T.bu.F.kp T.bu.b .nil cy (aa (aZ dD (pv 0) ai aE) af b9)))))
 aI)
 (ag (ba (aC bY (pv 1) ax (aP _))
 (ak (aW (aV gK (hr.mono (by first|decide|omega)) rfl T.bu.m T.bu.F.kp T.bu.b .nil cy (aa (aZ dD (pv 0) ai aE) af b9))))
 aI)
 (ag (ba (aC bY (pv 1) ax (aP _))
 (ak (aW (aL af)))
 aI)
 (ak (aW (aU nP (aV gK (hr.mono (by first|decide|omega)) rfl T.bu.m T.bu.F.kp T.bu.b .nil cy (aa (aZ dD (pv 0) ai aE) af b9)) (aV gK (hr.mono (by first|decide|omega)) rfl T.bu.m T.bu.F.kp T.bu.b .nil cy (aa (aZ dD (pv 0) ai aE) af b9)))))))))),rfl,?_⟩
 have line:zdc=2 ^ 24:=rfl;walk_at "rd";cases f with
 |box n a b=>exact pC.elim
 |ask n=>
  unfold Cs at rv;simp only[Rep.cj,bc.bL,bc.bX,Rep.bf] at rv;obtain⟨a,xs,rfl,hS,_,_,rfl,rfl,_,_,rfl,rfl,rfl⟩:=rv;refine cA hS rfl ⟨rfl,?_⟩;rw[if_pos rfl];exact cA hS rfl fun l fl=>q l _ (aq.new fl _) fl ae
 |put n e=>
  unfold Cs at rv;simp only[Rep.cj,bc.bL,bc.bX,Rep.bf] at rv;obtain⟨a,xs,rfl,hS,_,_,rfl,rfl,_,_,rfl,rfl,ve,_,rfl,re,rfl⟩:=rv;obtain⟨_,o1,o2,o3⟩:=pC;refine cA hS rfl ⟨rfl,?_⟩;rw[if_neg (by decide +kernel)];refine⟨rfl,?_⟩;rw[if_pos rfl];refine cA hS rfl fun l1 f1=>?_;have s1:=aq.new f1 (.lst [V.str (S n)]);have y1:(upd H l1 (.lst [V.str (S n)])) l1=some (.lst [V.str (S n)]):=ae;generalize upd H l1 (.lst [V.str (S n)])=H1 at *;refine cA (s1.kD hS) rfl ⟨ve,e,rfl,re.mono s1,o1,o2,by lia,fun l2 H2 s2 f2 y2=>?_⟩;refine⟨l1,l2,_,_,rfl,rfl,s2 _ _ y1,y2,by rw[zae];show 1+_<=_;lia,fun l3 f3=>?_⟩;exact q l3 _ ((s1.trans s2).trans (aq.new f3 _)) (df (s1.trans s2) f3) ae
 |say e=>
  unfold Cs at rv;simp only[Rep.cj,bc.bL,bc.bX,Rep.bf] at rv;obtain⟨a,xs,rfl,hS,_,_,rfl,rfl,ve,_,rfl,re,rfl⟩:=rv;obtain⟨o1,o2,o3⟩:=pC;refine cA hS rfl ⟨rfl,?_⟩;rw[if_neg (by decide +kernel)];refine⟨rfl,?_⟩;rw[if_neg (by decide +kernel)];refine⟨rfl,?_⟩;rw[if_pos rfl];exact cA hS rfl ⟨ve,e,rfl,re,o1,o2,by lia,q⟩
 |one k=>
  unfold Cs at rv;simp only[Rep.cj,bc.bL,bc.bX,Rep.bf] at rv;obtain⟨a,xs,rfl,hS,_,_,rfl,rfl,rfl⟩:=rv;cases (show k=PM.fI from pC);rw[<- FZ] at hS;refine cA hS rfl ⟨rfl,?_⟩;rw[if_neg (by decide +kernel)];refine⟨rfl,?_⟩;rw[if_neg (by decide +kernel)];refine⟨rfl,?_⟩;rw[if_neg (by decide +kernel)];refine⟨rfl,?_⟩;rw[if_pos rfl];exact fun l fl=>q l _ (aq.new fl _) fl ae
 |cond k sg x y=>
  unfold Cs at rv;simp only[Rep.cj,bc.bL,bc.bX,Rep.bf] at rv;obtain⟨a,xs,rfl,hS,_,_,rfl,rfl,_,_,rfl,rfl,vx,_,rfl,rx,vy,_,rfl,ry,rfl⟩:=rv;obtain⟨hk,⟨o1,o2,o3⟩,p1,p2,p3⟩:=pC;have no:∀ {z:Str} {u:W},z=S u->u≠PM.gR->u≠PM.cX->u≠PM.aJ->¬V.str (S k)=V.str z:=fun e a b c q=>by
   have:=(bt (k:=k) e).mp q;rcases hk with h |h |h<;>rw[h] at this
   ·exact a this.symm
   ·exact b this.symm
   ·exact c this.symm
  refine cA hS rfl ⟨rfl,?_⟩;rw[if_neg (no KD (by decide) (by decide) (by decide))];refine⟨rfl,?_⟩;rw[if_neg (no KG (by decide) (by decide) (by decide))];refine⟨rfl,?_⟩;rw[if_neg (no KI (by decide) (by decide) (by decide))];refine⟨rfl,?_⟩;rw[if_neg (no FZ (by decide) (by decide) (by decide))];refine cA hS rfl ⟨vx,x,rfl,rx,o1,o2,by lia,fun l1 H1 s1 f1 y1=>?_⟩;refine cA (s1.kD hS) rfl ⟨vy,y,rfl,ry.mono s1,p1,p2,by lia,fun l2 H2 s2 f2 y2=>?_⟩;refine⟨l1,l2,_,_,rfl,rfl,s2 _ _ y1,y2,by rw[zae,zae];lia,fun l3 f3=>?_⟩;refine q l3 _ ((s1.trans s2).trans (aq.new f3 _)) (df (s1.trans s2) f3) ?_;rw[ae,<- zar];rfl
theorem sX(T:Tx K mg t):bC P w K mg base (ky P w) 62 t.dM t.eK ["draft", "number", "form"] (F2 K t.bb (Li t) PM.N5 PM.lT):=by
 have iw:=pU (P:=P) (w:=w) (base:=base) T;have sY:=rN (P:=P) (w:=w) (base:=base) T;have vv:=uy (P:=P) (w:=w) (base:=base) T;have Bd:=yW (P:=P) (w:=w) (base:=base) T;refine T.cW.F.Bx ma (fun vs H Q E h=>?_) (fun dW A outer s H vs Q E hr h=>?_)
 ·obtain⟨_,_,_,_,_,_,_,_,_,_,rfl,_⟩:=h;rfl
 obtain⟨O,p,bx,bd,ns,d,m,k,v,f,rfl,dr,lm,lk,rv,pC,q⟩:=h;have nd:=ma.nd;obtain⟨N9,C1,C2⟩:=T.AZ;refine⟨_,[some (.ref p),some (.int k),some v,none,none,none,none],(ag (aY (i:=3) nd rfl (zas rfl) (aZ dD (pv 2) ai aE))
 (ag (ba (PW.pt (pw_and (aC gO (pv 3) (dZ (cU (vs:=[.str "if",.str "while"]) (by kernel_rfl))) rfl) (pw_and1 (aC bY (br cQ rfl T.mw PyProof.Rows.Boot.«len» (aa (cY (pv 0) rfl) af sr)) (bO rfl C1 C2) (aP _)))))
 (ak (bZ c9 T.um rfl T.xo rfl (aa (lY (.cons ax (.cons (sG (pv 1)) (.cons ax .nil)))) af lW)))
 aI)
 (ag (aY (i:=4) nd rfl (zas rfl) (dC (pv 0) T.bJ T.mn iw (hr.mono (by first|decide|omega)) T.ml .nil cy))
 (ag (An MH rfl (vF (aV vv (hr.mono (by first|decide|omega)) rfl T.dh.m T.dh.F.kp T.dh.b .nil cy (aa (pv 2) af ah))) (cP (i:=5) nd rfl (zas rfl))
 (ak (ba (aC km (pv 5) (pv 4) rfl)
 (ak (bZ c9 T.AR rfl T.CL rfl (aa (lY (.cons ax (.cons (sG (pv 1)) (.cons ax (.cons (sG (pv 5)) (.cons ax .nil)))))) af lW)))
 aI)))
 (ag (aY (i:=6) nd rfl (zas rfl) (aV Bd (hr.mono (by first|decide|omega)) rfl T.fH.m T.fH.F.kp T.fH.b .nil cy (aa (pv 3) af ah)))
 (ag (cB (lU zaB zaH zaI de (dC (pv 0) T.bJ T.sQ sY (hr.mono (by first|decide|omega)) T.sP .nil cy) (aa (aU Fl (aU Fl (dZ (aa (pv 3) (aa (pv 1) af ah) ah)) (sj Ja (pv 2) (vI ai) vH)) (gN yE rfl T.A2 PyProof.Rows.Boot.«tuple» (aa (pv 6) af ah))) af fJ)))
 (ak (ba (aC bY (pv 3) ax (aP _))
 (ak (cB (lU zaB zaH zaI de (cY (pv 0) rfl) (aa (dZ (aa (aZ aT (pv 6) ai aE) (aa (aZ aT (pv 6) ai aE) af b9) b9)) af D8))))
 (ak (ba (aC bY (pv 3) ax (aP _))
 (ak (cB (lU zaB zaH zaI de (cY (pv 0) rfl) (aa (dZ (aa (aZ aT (pv 6) ai aE) (aa vY af aB) b9)) af D8))))
 aI)))))))))),rfl,?_⟩
 have line:zdc=2 ^ 24:=rfl;obtain⟨va,ys,rfl,hS,ly⟩:=Ab rv;obtain⟨dx,yp⟩:=dr.ins;obtain⟨us,yn,ix⟩:=dr.DO;have lu:us.length<=m:=by
  obtain⟨zs,e,l⟩:=dr.own _ dr.Aa;rw[yn] at e;cases e;exact l
 refine aM fun U1 Ag=>?_;walk_at "rd";refine cA hS (v:=sv (w8 f)) (aF (j:=0) rfl) ((Ag _ _).mpr (aM fun U2 rY=>?_));clear Ag;have ow:=KN pC;unfold PM.lT at q;have rest:∀H1,aq H H1->¬((PM.opens f).isSome/\d.dY.length=5)->U2 [some (.ref p),some (.int k),some (.ref va),some (sv (w8 f)),none,none,none] H1:=by
  intro H1 s1 Vn;rw[if_neg Vn] at q;refine(rY _ _).mpr (aM fun U3 qN=>?_);clear rY;walk_at "rd";refine⟨p,dx,_,rfl,s1 _ _ yp,rfl,O,p,bx,bd,ns,d,m,rfl,dr.mono s1,lm,fun nl H2 s2 f2 y2=>?_⟩;refine(qN _ _).mpr (aM fun U4 sZ=>?_);clear qN;walk_at "rd";have Ir:=s1.trans s2;refine⟨.ref va,f,rfl,rv.mono Ir,pC,fun l H3 s3 f3 y3=>⟨l,rfl,⟨_,.of y3⟩,BF (K:=K) (a:=l) (xs:=(PM.vm f).map sv) (fun i σ H4=>∃x:Option V,σ=[some (.ref p),some (.int k),some (.ref va),some (sv (w8 f)),some (.ref nl),x,none]/\aq H3 H4/\∀n∈(PM.vm f).take i,n∈d.jL) ⟨none,rfl,aq.refl _,fun n hn=>by cases hn⟩ (fun i σ H4 _ z=>by obtain⟨_,_,s4,_⟩:=z;exact .of (s4 _ _ y3)) ?_ ?_⟩⟩
  ·intro i x σ H4 hx z;obtain⟨x0,rfl,s4,Qy⟩:=z;rw[zaN] at hx;obtain⟨n,hn,rfl⟩:=zbt.mp hx;have hi:i<(PM.vm f).length:=(zan.mp hn).1;have Ss:n∈PM.vm f:=zbI hn;walk_at "rd";refine⟨nl,_,rfl,.inl (.of (s4 _ _ (s3 _ _ y2))),rfl,by rw[zb3];exact za2.mpr fun _ _=>rfl,_,rfl,?_⟩;rw[if_pos rfl,in_words];by_cases hc:n∈d.jL
   ·rw[if_neg (by rw[zax.mpr hc];decide)];refine⟨_,rfl,s4,fun y hy=>?_⟩;rw[zbi hi] at hy;rcases zaz.mp hy with z |z
    ·exact Qy y z
    ·have e:=zal.mp z;rw[(zan.mp hn).2] at e;rw[e];exact hc
   ·have hf:d.jL.contains n=false:=by rw[zbF];intro z;exact hc (zax.mp z)
    rw[if_pos (by rw[hf];rfl)];rw[if_neg (fun z=>hc (z n Ss))] at q;have Z1:=KO (Et pC n Ss);refine PV (n:=S n) lk (by decide) (by decide) (by decide) (by rw[ez];lia) (fun _ _ z=>z) (fun _ _ z=>z) (q H4 (.of (Ir.trans (s3.trans s4))))
  ·intro σ H4 z;obtain⟨x0,rfl,s4,Qy⟩:=z;rw[zae,zbX] at Qy;rw[if_pos Qy] at q;have Tu:=Ir.trans (s3.trans s4);refine(sZ _ _).mpr (aM fun U5 tf=>?_);clear sZ;walk_at "rd";refine⟨w8 f,rfl,fun bs bl H5 s5 f5 y5 lb hb=>?_⟩;refine(tf _ _).mpr (aM fun U6 LY=>?_);clear tf;walk_at "rd";have Su:=Tu.trans s5;refine⟨p,dx,_,rfl,Su _ _ yp,rfl,O,p,bx,bd,ns,d,m,rfl,dr.mono Su,fun L hL hd=>?_⟩;have Vo:=dr.mono Su;obtain⟨zs,yL,lz⟩:=Vo.own L hL.1;refine⟨.inl ⟨rfl,_,.of yL⟩,fun g1 h1=>⟨1,rfl,?_⟩⟩;have s6:=aq.new h1 (.tup [sv (w8 f),V.int k]);have i6:eQ K (upd H5 g1 (.tup [sv (w8 f),V.int k])) g1 [sv (w8 f),V.int k]:=.of ae;generalize upd H5 g1 (.tup [sv (w8 f),V.int k])=H6 at *;refine Cz ((Su.trans s6).kD hS) fun g2 H7 s7 i7=>?_;refine Cy (s7.kD i6) i7 (by intro z;cases z) (by show 2+_<=_;lia) fun g3 H8 s8 i8=>?_;refine⟨bl,bs.map V.ref,rfl,.inl ⟨.of ((s6.trans (s7.trans s8)) _ _ y5),fun g4 h4=>?_⟩⟩;have s9:=aq.new h4 (.tup (bs.map V.ref));have i9:eQ K (upd H8 g4 (.tup (bs.map V.ref))) g4 (bs.map V.ref):=.of ae;generalize upd H8 g4 (.tup (bs.map V.ref))=H9 at *;have Z2:bs.length<=2:=by rw[lb];unfold Sk;split<;>(try split)<;>lia
   refine Cy (s9.kD i8) i9 (by intro z;cases z) (by rw[zae,zaf];show 2+_+_<=_;lia) fun g5 Ha sa ia=>?_;have QI:=s6.trans (s7.trans (s8.trans (s9.trans sa)));refine⟨L,zs,.ref g5,rfl,rfl,QI _ _ yL,by lia,(LY _ _).mpr ?_⟩;clear LY;have Vp:=Su.trans QI;have Vq:=(Vo.mono QI).AM hL hd (x:=.ref g5) (QI _ _ yL);have ub:bD O H (upd Ha L (.lst (zs++[.ref g5]))):=(bD.of Vp).put hL.1 _;have Yr:p≠L:=Vo.Sj hL.1;have Ge:(upd Ha L (.lst (zs++[.ref g5]))) p=some (.ins t.bb dx [("boxes",.ref bx),("body",.ref bd),("nest",.ref ns)]):=by rw[ao Yr];exact Vp _ _ yp
   have keep:∀b o,b≠L->Ha b=some o->(upd Ha L (.lst (zs++[.ref g5]))) b=some o:=fun b o nb e=>by rw[ao nb];exact e
   have nL:∀b,H b=none->b≠L:=fun b hb z=>by
    obtain⟨Z3,e,_⟩:=dr.own L hL.1;rw[<- z,hb] at e;cases e
   have Qe:(upd Ha L (.lst (zs++[.ref g5]))) bl=some (.lst (bs.map V.ref)):=keep _ _ (nL _ (df Tu f5)) (QI _ _ y5);have Sv:(upd Ha L (.lst (zs++[.ref g5]))) ns=some (.lst us):=keep _ _ (Ne.symm hL.2.2) (Vp _ _ yn);have Qw:∀b∈bs,H b=none/\(upd Ha L (.lst (zs++[.ref g5]))) b=some (.lst []):=fun b FV=>⟨df Tu (hb b FV).1,keep _ _ (nL _ (df Tu (hb b FV).1)) (QI _ _ (hb b FV).2)⟩
   generalize upd Ha L (.lst (zs++[.ref g5]))=Hb at *;obtain⟨Z4,y',Ys⟩:=Vq.DO;rw[Sv] at y';cases y';have Vr:∀b∈bs,QE (fun x=>O x\/x∈bs) bx ns b:=fun b FV=>⟨.inr FV,(fun z=>by have:=(Qw b FV).1;obtain⟨_,e,_⟩:=dr.own _ dr.DN;rw[z,e] at this;cases this),(fun z=>by have:=(Qw b FV).1;rw[z,yn] at this;cases this)⟩
   have io:∀x,O x->O x\/x∈bs:=fun _ z=>.inl z;have Yt:AL (Es K Hb (fun x=>O x\/x∈bs) bx ns) d.dY us:=Ys.imp fun _ _ z=>z.imp (fun _ _ z=>z) io;have push:∀(o:Bool) (gt:zc4) (Hc:Hp),PM.opens f=some o->aq Hb Hc->Es K Hc (fun x=>O x\/x∈bs) bx ns o (.ref gt)->Q .da (upd Hc ns (.lst (us++[.ref gt]))):=by
    intro o gt Hc ho sc hn;refine q (fun x=>O x\/x∈bs) _ (fun b FV=>FV.elim .inl fun z=>.inr (Qw b z).1) ((ub.trans (.of sc)).put dr.Aa _) ?_;have e:=(Vq.mono sc).jP (O':=fun x=>O x\/x∈bs) io (fun b FV=>FV.elim .inl fun z=>.inr (sc _ _ (Qw b z).2)) (us:=us++[.ref gt]) (ks:=d.dY++[o]) (by rw[zaf,zau];lia) ((Yt.imp fun _ _ z=>z.imp (fun _ _=>sc.kD) fun _ z=>z).snoc hn) fun _=>rfl;rw[ho];exact e
   walk_at "rd";refine⟨rfl,bq (fun w1=>?_) (fun w1=>?_)⟩
   ·have e1:=(bt yK).mp w1;rw[e1,if_pos rfl] at ow;have l2:bs.length=2:=by rw[lb,e1];rfl
    match bs,l2 with
    |[b1,b2],_=>
     refine⟨p,_,dx,_,.ref ns,rfl,Ge,T.bJ,T.bz,rfl,.inl ⟨rfl,_,.of Sv⟩,?_⟩;refine aO (.of Qe) (v:=.ref b1) (aF (j:=0) rfl) (aO (.of Qe) (v:=.ref b2) (aF (j:=1) rfl) fun gt ht=>?_);have st:=aq.new ht (.tup [V.ref b1,V.ref b2]);refine⟨ns,us,.ref gt,rfl,rfl,st _ _ Sv,by lia,push true gt _ ow st ⟨gt,b1,.ref b2,rfl,.of ae,Vr b1 (by simp),b2,rfl,Vr b2 (by simp)⟩⟩
   have n1:w8 f≠PM.cX:=fun z=>w1 ((bt yK).mpr z);refine⟨rfl,bq (fun w2=>?_) (fun w2=>?_)⟩
   ·have e2:=(bt dv).mp w2;rw[if_neg n1,e2,if_pos rfl] at ow;have l2:bs.length=1:=by rw[lb,e2];rfl
    match bs,l2 with
    |[b1],_=>
     refine⟨p,_,dx,_,.ref ns,rfl,Ge,T.bJ,T.bz,rfl,.inl ⟨rfl,_,.of Sv⟩,?_⟩;refine aO (.of Qe) (v:=.ref b1) (aF (j:=0) rfl) fun gt ht=>?_;have st:=aq.new ht (.tup [V.ref b1,V.da]);refine⟨ns,us,.ref gt,rfl,rfl,st _ _ Sv,by lia,push false gt _ ow st ⟨gt,b1,.da,rfl,.of ae,Vr b1 (by simp),rfl⟩⟩
   have n2:w8 f≠PM.aJ:=fun z=>w2 ((bt dv).mpr z);rw[if_neg n1,if_neg n2] at ow;rw[ow,Option.toList_none,zaP] at q;exact q O Hb (fun b z=>.inl z) ub (Vq.more (by lia))
 walk_at "rd";intro g hg;have sg:=aq.new hg (.tup [V.str (zaa "if"),V.str (zaa "while")]);have iT:eQ K (upd H g (.tup [V.str (zaa "if"),V.str (zaa "while")])) g [V.str (zaa "if"),V.str (zaa "while")]:=.of ae;have hl:([V.str (zaa "if"),V.str (zaa "while")]:List V)=[PM.cX,PM.aJ].map sv:=by rw[yK,dv];rfl
 generalize upd H g (.tup [V.str (zaa "if"),V.str (zaa "while")])=H0 at *;refine⟨g,_,rfl,.inr iT,rfl,rfl,_,rfl,?_⟩;rw[hl,in_words,if_neg zad,if_neg zad];have oi:(PM.opens f).isSome=true↔([PM.cX,PM.aJ]:List W).contains (w8 f)=true:=by
  rw[ow,zax];by_cases h1:w8 f=PM.cX
  ·rw[if_pos h1];simp[h1]
  ·rw[if_neg h1];by_cases h2:w8 f=PM.aJ
   ·rw[if_pos h2];simp[h2]
   ·rw[if_neg h2];simp[h1,h2]
 refine bq (fun hc=>?_) (fun hc=>rest H0 sg fun z=>hc (oi.mp z.1));refine⟨p,_,dx,_,.ref ns,rfl,sg _ _ yp,T.bJ,T.bz,rfl,ns,us,rfl,.inl (.of (sg _ _ yn)),?_⟩;rw[ix.1];by_cases h5:d.dY.length=5
 ·rw[if_pos (by rw[h5];rfl)];rw[if_pos ⟨oi.mpr hc,h5⟩] at q;exact rm lk (by decide) (by decide) (q H0 (.of sg))
 ·rw[if_neg (fun z=>h5 (by lia))];exact rest H0 sg fun z=>h5 z.2
theorem vU{CD:zc4}{ce:PM.Er->zc4}{O:zc4->Prop}{H:Hp}{p bx bd ns:zc4}{m:Nat}{Q:VK}{E:XK}{r:Except PM.Er PM.Df}(h:PU K CD ce O H p bx bd ns m Q E r):PU K CD ce O H p bx bd ns m (fun _ H1=>Q .da H1) E r:=by
 cases r<;>exact h
theorem Lj{CD:zc4}{ce:PM.Er->zc4}{O:zc4->Prop}{H H1:Hp}{p bx bd ns:zc4}{m:Nat}{Q:VK}{E:XK}{r:Except PM.Er PM.Df}(h:PU K CD ce O H p bx bd ns m Q E r)(s:aq H H1):PU K CD ce O H1 p bx bd ns m Q E r:=by
 cases r with
 |error e=>exact fun H' u=>h H' ((bD.of s).trans u)
 |ok d=>exact fun O' H' i u dr=>h O' H' (fun b hb=>(i b hb).imp id fun z=>df s z) ((bD.of s).trans u) dr
theorem C3(T:Tx K mg t):bC P w K mg base (ky P w) 63 t.kS t.mf ["draft", "number", "form"] (F2 K t.bb (Li t) PM.PQ PM.jA):=by
 have uz:=sX (P:=P) (w:=w) (base:=base) T;have EH:=CZ (P:=P) (w:=w) (base:=base) T;have C4:=Bc (P:=P) (w:=w) (base:=base) T;have EI:=C0 (P:=P) (w:=w) (base:=base) T;refine T.iJ.F.Bx uW (fun vs H Q E h=>?_) (fun dW A outer s H vs Q E hr h=>?_)
 ·obtain⟨_,_,_,_,_,_,_,_,_,_,rfl,_⟩:=h;rfl
 obtain⟨O,p,bx,bd,ns,d,m,k,v,f,rfl,dr,lm,lk,rv,pC,q⟩:=h;have nd:=uW.nd;refine⟨_,[some (.ref p),some (.int k),some v,none],(ag (aY (i:=3) nd rfl (zas rfl) (aZ dD (pv 2) ai aE))
 (ak (ba (aC bY (pv 3) ax (aP _))
 (ak (cB (aV EH (hr.mono (by first|decide|omega)) rfl T.iK.m T.iK.F.kp T.iK.b .nil c8 (aa (pv 0) (aa (pv 1) (aa (sj Ja (pv 2) (vI ai) vH) af b9) ah) ah))))
 (ak (ba (aC bY (pv 3) ax (aP _))
 (ak (cB (aV C4 (hr.mono (by first|decide|omega)) rfl T.gV.m T.gV.F.kp T.gV.b .nil c8 (aa (pv 0) (aa (pv 1) af ah) ah))))
 (ak (ba (aC bY (pv 3) ax (aP _))
 (ak (cB (aV EI (hr.mono (by first|decide|omega)) rfl T.iL.m T.iL.F.kp T.iL.b .nil c8 (aa (pv 0) (aa (pv 1) af ah) ah))))
 (ak (cB (aV uz (hr.mono (by first|decide|omega)) rfl T.cW.m T.cW.F.kp T.cW.b .nil c8 (aa (pv 0) (aa (pv 1) (aa (pv 2) af ah) ah) ah))))))))))),rfl,?_⟩
 walk_at "rd";obtain⟨va,ys,rfl,hS,ly⟩:=Ab rv;refine cA hS (v:=sv (w8 f)) (aF (j:=0) rfl) ⟨rfl,?_⟩;have AM:PM.N5 f->PM.jA d f=PM.lT d f->w8 f≠PM.bV->w8 f≠PM.cm->BG (sv (w8 f)) (V.str (zaa "else"))=true/\
  if sv (w8 f)=V.str (zaa "else") then w6 K t.bb (Li t) PM.nu [V.ref p,V.int k] H (fun x H1=>Q V.da H1) E
  else BG (sv (w8 f)) (V.str (zaa "end"))=true/\
   if sv (w8 f)=V.str (zaa "end") then w6 K t.bb (Li t) PM.t6 [V.ref p,V.int k] H (fun x H1=>Q V.da H1) E
   else F2 K t.bb (Li t) PM.N5 PM.lT [V.ref p,V.int k,V.ref va] H (fun x H1=>Q V.da H1) E:=fun h1 h2 n1 n2=>by
  refine⟨rfl,?_⟩;rw[if_neg (fun z=>n1 ((bt kH).mp z))];refine⟨rfl,?_⟩;rw[if_neg (fun z=>n2 ((bt t7).mp z))];rw[h2] at q;exact⟨O,p,bx,bd,ns,d,m,k,.ref va,f,rfl,dr,lm,lk,rv,h1,vU q⟩
 cases f with
 |box n a b=>
  refine bq (fun _=>?_) fun z=>absurd ((bt jQ).mpr rfl) z;refine⟨1,rfl,?_⟩;unfold Cs at rv;simp only[Rep.cj,bc.bL,bc.bX,Rep.bf,Rep.dy] at rv;obtain⟨_,xs,e,Yu,_,_,rfl,rfl,_,_,rfl,rfl,_,_,rfl,rfl,_,_,rfl,rfl,rfl⟩:=rv;cases e;refine Cz Yu fun c H1 s1 i1=>⟨O,p,bx,bd,ns,d,m,k,.ref c,n,a,b,rfl,dr.mono s1,lm,lk,?_,vU (Lj q s1)⟩
  rw[Rep.cj];exact⟨c,_,rfl,i1,.cons (Rep.bf.mpr rfl) (.cons (Rep.dy.mpr rfl) (.cons (Rep.dy.mpr rfl) .nil))⟩
 |ask n=>
  refine bq (fun z=>absurd ((bt jQ).mp z) (show PM.vi≠PM.cO by decide)) fun _=>?_;exact AM pC rfl (show PM.vi≠PM.bV by decide) (show PM.vi≠PM.cm by decide)
 |put n e=>
  refine bq (fun z=>absurd ((bt jQ).mp z) (show PM.vj≠PM.cO by decide)) fun _=>?_;exact AM pC rfl (show PM.vj≠PM.bV by decide) (show PM.vj≠PM.cm by decide)
 |say e=>
  refine bq (fun z=>absurd ((bt jQ).mp z) (show PM.vk≠PM.cO by decide)) fun _=>?_;exact AM pC rfl (show PM.vk≠PM.bV by decide) (show PM.vk≠PM.cm by decide)
 |cond c sg x y=>
  have hc:c=PM.gR\/c=PM.cX\/c=PM.aJ:=pC.1;have ne:∀u,u≠PM.gR->u≠PM.cX->u≠PM.aJ->c≠u:=fun u a b e z=>by
   rcases hc with h |h |h<;>rw[h] at z
   ·exact a z.symm
   ·exact b z.symm
   ·exact e z.symm
  refine bq (fun z=>absurd ((bt jQ).mp z) (ne PM.cO (by decide) (by decide) (by decide))) fun _=>?_;exact AM pC rfl (ne PM.bV (by decide) (by decide) (by decide)) (ne PM.cm (by decide) (by decide) (by decide))
 |one c=>
  have hc:c=PM.bV\/c=PM.cm\/c=PM.fI:=pC;have et:PM.jA d (.one c)=if c=PM.bV then PM.nu d else if c=PM.cm then PM.t6 d else PM.lT d (.one c):=rfl
  rcases hc with h |h |h
  ·subst h;refine bq (fun z=>absurd ((bt jQ).mp z) (show PM.bV≠PM.cO by decide)) fun _=>?_;refine⟨rfl,?_⟩;refine bq (fun _=>?_) fun z=>absurd ((bt kH).mpr rfl) z;rw[et,if_pos rfl] at q;exact⟨O,p,bx,bd,ns,d,m,k,rfl,dr,lm,lk,vU q⟩
  ·subst h;refine bq (fun z=>absurd ((bt jQ).mp z) (show PM.cm≠PM.cO by decide)) fun _=>?_;refine⟨rfl,?_⟩;refine bq (fun z=>absurd ((bt kH).mp z) (show PM.cm≠PM.bV by decide)) fun _=>?_;refine⟨rfl,?_⟩;refine bq (fun _=>?_) fun z=>absurd ((bt t7).mpr rfl) z;rw[et,if_neg (by decide),if_pos rfl] at q;exact⟨O,p,bx,bd,ns,d,m,k,rfl,dr,lm,lk,vU q⟩
  ·subst h;refine bq (fun z=>absurd ((bt jQ).mp z) (show PM.fI≠PM.cO by decide)) fun _=>?_;exact AM rfl (by rw[et,if_neg (by decide),if_neg (by decide)]) (show PM.fI≠PM.bV by decide) (show PM.fI≠PM.cm by decide)
theorem Nk(T:Tx K mg t)(C:Cd P w K t):bC P w K mg base (ky P w) 64 t.xh t.vT ["text"] (Sl (Li t)):=by
 have Ho:=EF (P:=P) (w:=w) (base:=base) T C;have EJ:=C3 (P:=P) (w:=w) (base:=base) T;have Be:=yT (P:=P) (w:=w) (base:=base) T;refine T.ui.F.Bx F3 (fun vs H Q E h=>?_) (fun dW A outer s H vs Q E hr h=>?_)
 ·obtain⟨_,rfl,_⟩:=h;rfl
 obtain⟨text,rfl,lt,qe,qo⟩:=h;have nd:=F3.nd;obtain⟨Oa,C5,C6⟩:=T.AY;refine⟨_,[some (sv text),none,none,none,none],(ag (aY (i:=1) nd rfl (zas rfl) (lU zbU zcL zcM Cj (pv 0) (aa ax af aB)))
 (ag (ba (aC BH (br cQ rfl T.mw PyProof.Rows.Boot.«len» (aa (pv 1) af ah)) (bO rfl C5 C6) (aP _))
 (ak (bZ c9 T.uk rfl T.xl rfl (aa ax af aB)))
 aI)
 (ag (aY (i:=2) nd rfl (zas rfl) (IW T.xj Be (hr.mono (by first|decide|omega)) rfl T.K8 T.AO .nil cy))
 (ag (An MH rfl (Kz rfl T.pO (aa (pv 1) af ah)) (OG rfl (d9 (cP (i:=3) nd rfl (zas rfl)) (d9 (cP (i:=4) nd rfl (zas rfl)) se)))
 (ak (cB (aV EJ (hr.mono (by first|decide|omega)) rfl T.iJ.m T.iJ.F.kp T.iJ.b .nil c8 (aa (pv 2) (aa (pv 3) (aa (aV Ho (hr.mono (by first|decide|omega)) rfl T.kB.m T.kB.F.kp T.kB.b .nil c8 (aa (pv 4) af ah)) af bP) ah) ah)))))
 (ag (ba (o7 (cY (pv 2) rfl) (fun _=>rfl))
 (ak (bZ c9 T.Ex rfl T.F9 rfl (aa ax af aB)))
 aI)
 (ak (aW (dZ (aa (cY (pv 2) rfl) (aa (cY (pv 2) rfl) af sr) sr))))))))),rfl,?_⟩
 have line:zdc=2 ^ 24:=rfl;walk_at "rd";refine⟨rfl,text,10,rfl,rfl,by decide,by lia,fun R fR=>?_⟩;generalize Sw:a9 10 text=rows at *;have Yv:∀r∈rows,r.length<=3000000:=fun r hr=>by rw[<- Sw] at hr;exact zaA (nW 10 text r hr) lt
 have sR:=aq.new fR (.lst (rows.map sv));have yR:(upd H R (.lst (rows.map sv))) R=some (.lst (rows.map sv)):=ae;generalize upd H R (.lst (rows.map sv))=H0 at *;refine⟨R,_,rfl,.inl (.of yR),?_⟩;rw[zae];unfold PM.oC at qe qo;by_cases Sx:80<rows.length
 ·rw[if_pos (by lia)];exact⟨(show 1<=zdc by decide),qe .sI (by rw[if_pos Sx]) H0 sR⟩
 rw[if_neg (by lia)];rw[if_neg Sx] at qe qo;intro p dx fp Ws ne;have Z5:(upd H0 dx (.own p)) p=none:=by rw[ao (Ne.symm ne)];exact fp
 refine⟨p,dx,rfl,ae,by rw[ao ne];exact ae,fun O bx bd ns H1 hO u1 dr=>⟨rfl,?_⟩⟩;have sm:aq H0 H1:=fun b o e=>by
  have n1:b≠p:=aD e fp;have n2:b≠dx:=aD e Ws;refine u1 b o n1 ?_;rw[ao n1,ao n2];exact e
 have Yw:∀b,O b->H0 b=none:=fun b hb=>by
  have z:=hO b hb;by_cases n1:b=p
  ·rw[n1];exact fp
  ·rw[ao n1] at z;by_cases n2:b=dx
   ·rw[n2];exact Ws
   ·rw[ao n2] at z;exact z
 clear hO u1;refine⟨R,rfl,⟨_,.of (sm _ _ yR)⟩,G9 (K:=K) (a:=R) (xs:=rows.map sv) (fun i σ Hx=>∃(x3 x4:Option V) (O:zc4->Prop) (d:PM.Df),σ=[some (sv text),some (.ref R),some (.ref p),x3,x4]/\aq H0 Hx/\(∀b,O b->H0 b=none)/\tL K t.bb O Hx p bx bd ns d (2*i)/\PM.cL ⟨[],false,[]⟩ rows=PM.cL d (rows.drop i)) ⟨none,none,O,_,rfl,sm,Yw,dr,rfl⟩ (fun i σ Hx _ z=>by obtain⟨_,_,_,_,_,sx,_⟩:=z;exact .of (sx _ _ yR)) ?_ ?_⟩
 ·intro i x σ Hx g hx z hg;obtain⟨x3,x4,O,d,rfl,sx,ox,Tv,er⟩:=z;rw[zaN] at hx;obtain⟨r,CT,rfl⟩:=zbt.mp hx;have hi:i<rows.length:=(zan.mp CT).1;have ed:rows.drop i=r::rows.drop (i+1):=by rw[zby hi,(zan.mp CT).2]
  rw[ed] at er;have sg:=aq.new hg (.tup [V.int ((i+1:Nat):Int),sv r]);have ig:eQ K (upd Hx g (.tup [V.int ((i+1:Nat):Int),sv r])) g [V.int ((i+1:Nat):Int),sv r]:=.of ae;generalize upd Hx g (.tup [V.int ((i+1:Nat):Int),sv r])=Hy at *;walk_at "rd";have sy:=sx.trans sg;refine⟨g,_,rfl,ig,rfl,_,_,rfl,_,_,rfl,rfl,r,rfl,Yv r (zbI CT),fun hf H2 s2=>?_,fun f hf v H2 s2 rv=>?_⟩
  ·refine qe .sH ?_ H2 (sR.trans (sy.trans s2));rw[er,PM.cL,hf]
  have Wt:=sy.trans s2;have keep:∀ {Hz:Hp},bD O H2 Hz->aq H0 Hz:=fun u b o e=>u b o (fun z=>by rw[ox b z] at e;cases e) (Wt _ _ e);refine⟨O,p,bx,bd,ns,d,2*i,((i+1:Nat):Int),v,f,rfl,Tv.mono (sg.trans s2),by lia,⟨by lia,by lia⟩,rv,PM.FW (iD _ _) hf,?_⟩;rw[PM.cL,hf] at er;cases ht:PM.jA d f with
  |error e=>exact fun Hz u=>qe e (by rw[er];simp only[ht]) Hz (sR.trans (keep u))
  |ok d'=>exact fun O' Hz io u Yx=>⟨_,_,O',d',rfl,keep u,fun b hb=>(io b hb).elim (ox b) fun z=>df Wt z,Yx,by rw[er];simp only[ht]⟩
 ·intro σ Hx z;obtain⟨x3,x4,O,d,rfl,sx,ox,Tv,er⟩:=z;rw[zae,List.drop_length,PM.cL] at er;walk_at "rd";obtain⟨OR,yp⟩:=Tv.ins;obtain⟨us,yn,ix⟩:=Tv.DO;refine⟨p,_,OR,_,.ref ns,rfl,yp,T.bJ,T.bz,rfl,_,.inl ⟨us,.of yn,rfl⟩,?_⟩;rw[er] at qe qo;by_cases hk:d.dY=[]
  ·have eu:us=[]:=zaO.mp (by rw[ix.1,hk];rfl);subst eu;refine⟨p,_,OR,_,.ref bx,rfl,yp,T.bJ,T.c6,rfl,p,_,OR,_,.ref bd,rfl,yp,T.bJ,T.eF,rfl,fun g hg=>qo ?_ _ _ (sR.trans (sx.trans (aq.new hg _)))⟩;simp only[hk,if_true]
  ·have eu:us.isEmpty=false:=by
    cases us with
    |nil=>exact absurd (zaO.mp ix.1.symm) hk
    |cons=>rfl
   rw[eu,if_pos (show (!false)=true from rfl)];exact⟨(show 1<=zdc by decide),qe .wZ (by simp only[hk,if_false]) Hx (sR.trans sx)⟩
theorem Gf(T:Tx K mg t):bC P w K mg base lS 1 t.jE t.kr ["cell", "k"] Pr:=by
 refine T.bW.F.wu sO (fun vs H Q E h=>?_) (fun dW A outer s H vs Q E hr h=>?_)
 ·obtain⟨cell,k,rfl,_⟩:=h;rfl
 obtain⟨cell,k,rfl,h0,h1,q⟩:=h;have nd:=sO.nd;refine⟨_,[some (V.int cell),some (V.int k),none],(ag (ba (aC Q6 (pv 0) (aU DT ai ai) (aP _))
 (ak (aW (aU eG (aU OM (aU IL (pv 0) (aU DT ai ai)) (aU v9 ai (pv 1))) (aU DT ai ai))))
 aI)
 (ag (aY (i:=2) nd rfl (zas rfl) (aU eG (aU v9 (aU v8 (aU v8 (pv 0) (aU v9 ai (pv 1))) ai) ai) ai))
 (ag (aY (i:=2) nd rfl (zas rfl) (aU eG (aU v9 (pv 2) (pv 2)) ai))
 (ak (aW (aU jl (aU eG (aU v9 (pv 2) ai) ai) ai)))))),rfl,?_⟩
 walk_at "rd";have Wu:OL 10 18:=⟨by decide,by decide,by decide⟩
 have Yy:OL 2 28:=⟨by decide,by decide,by decide⟩
 refine⟨Wu,?_⟩;unfold stir at q;have Yz:(10:Int) ^ Int.toNat 18=10 ^ 18:=rfl;have YA:(2:Int) ^ Int.toNat 28=2 ^ 28:=rfl;rw[Yz,YA];refine bq (fun hc=>?_) (fun hc=>?_)
 ·rw[if_pos hc] at q;exact⟨Wu,mulL (by decide) (by decide),by lia,Yy,by decide,q⟩
 ·rw[if_neg hc] at q;have b1:=zbv ((cell+1013*k+1)*16807) (show (2147483647:Int)≠0 by decide);have b2:=zbj ((cell+1013*k+1)*16807) (show (0:Int)<2147483647 by decide);have c1:Gr ((cell+1013*k+1)*16807%2147483647) ((cell+1013*k+1)*16807%2147483647):=by
   generalize (cell+1013*k+1)*16807%2147483647=z at b1 b2 ⊢;exact mulL (by lia) (by lia)
  exact⟨mulL (by decide) (by decide),mulR (by decide) (by decide),c1,mulR (by decide) (by decide),q⟩
structure CF(K:zac)(t:Ad)(C:zc4)(c:Nat):Prop where
 xi:AB K C
 xr:zam K (.ref C) (.ref t.aK)=some true
 kv:zab K (.ref C) (.type "ValueError")=some true
 k0:zab K (.ref C) (.ref t.ay)=some (decide (0=c))
 k1:zab K (.ref C) (.ref t.au)=some (decide (1=c))
 k2:zab K (.ref C) (.ref t.ar)=some (decide (2=c))
 k3:zab K (.ref C) (.ref t.aw)=some (decide (3=c))
 k4:zab K (.ref C) (.ref t.aj)=some (decide (4=c))
 k5:zab K (.ref C) (.ref t.aG)=some (decide (5=c))
 k6:zab K (.ref C) (.ref t.aR)=some (decide (6=c))
 k7:zab K (.ref C) (.ref t.aQ)=some (decide (7=c))
 k8:zab K (.ref C) (.ref t.aH)=some (decide (8=c))
 k9:zab K (.ref C) (.ref t.bU)=some (decide (9=c))
 YB:zab K (.ref C) (.ref t.bB)=some (decide (10=c))
 YC:zab K (.ref C) (.ref t.bh)=some (decide (11=c))
 Vs:zab K (.ref C) (.ref t.bA)=some (decide (12=c))
theorem Sy(T:Tx K mg t)(e:PM.Er):CF K t (Li t e) (PM.bp e):=by
 cases e with
 |sH=>exact⟨T.K9,T.xp,T.xq,T.kX,T.iO,T.iN,T.iP,T.gm,T.kY,T.mJ,T.mI,T.kZ,T.jS,T.iR,T.hX,T.iQ⟩
 |qu=>exact⟨T.EA,T.rG,T.rH,T.iS,T.gp,T.gn,T.gq,T.e9,T.iU,T.jU,T.jT,T.iV,T.hZ,T.gu,T.fL,T.gr⟩
 |sI=>exact⟨T.EB,T.rJ,T.rK,T.iW,T.gw,T.gv,T.gx,T.fc,T.iX,T.jW,T.jV,T.iY,T.ib,T.gz,T.fM,T.gy⟩
 |vQ=>exact⟨T.EC,T.rL,T.rM,T.iZ,T.gB,T.gA,T.gC,T.ff,T.i3,T.jY,T.jX,T.i4,T.ic,T.gE,T.fN,T.gD⟩
 |qv=>exact⟨T.AS,T.og,T.oh,T.gF,T.fj,T.fh,T.fk,T.d6,T.gG,T.ij,T.ie,T.gH,T.fO,T.fw,T.eH,T.fq⟩
 |twice=>exact⟨T.La,T.xt,T.xu,T.lh,T.ja,T.i5,T.jb,T.gI,T.lp,T.mL,T.mK,T.lq,T.jZ,T.jd,T.ik,T.jc⟩
 |wZ=>exact⟨T.Nc,T.AU,T.AV,T.mM,T.j3,T.j1,T.j4,T.il,T.mO,T.om,T.oj,T.mQ,T.lx,T.j6,T.je,T.j5⟩
 |full=>exact⟨T.Nd,T.AW,T.AX,T.mS,T.j8,T.j7,T.j9,T.ip,T.mT,T.oq,T.oo,T.mU,T.lA,T.kb,T.jf,T.ka⟩
 |FX=>exact⟨T.Lb,T.xv,T.xw,T.lB,T.jh,T.jg,T.ji,T.gJ,T.lC,T.mW,T.mV,T.lD,T.kc,T.jk,T.iq,T.jj⟩
theorem EK(T:Tx K mg t):bC P w K mg base lS 1 t.eV t.fY ["script", "k"] (fun vs H Q _=>∃(a:zc4) (ns:List Int) (k:Nat),vs=[.ref a,.int k]/\gW K H a (ns.map .int)/\∀i,Q (.int i) H):=by
 refine T.dN.F.wu oF (fun vs H Q E h=>?_) (fun dW A outer s H vs Q E hr h=>?_)
 ·obtain⟨_,_,_,rfl,_⟩:=h;rfl
 obtain⟨a,ns,k,rfl,hS,q⟩:=h;have nd:=oF.nd;refine⟨_,[some (.ref a),some (.int k)],(ag (ba (aC zD (pv 1) (br cQ rfl T.mw PyProof.Rows.Boot.«len» (aa (pv 0) af ah)) (aP _))
 (ak (aW (aZ aT (pv 0) (pv 1) MB)))
 aI)
 (ak (aW ai))),rfl,?_⟩
 walk_at "rd";refine⟨a,_,rfl,.inl hS,?_⟩;refine bq (fun c=>?_) (fun c=>q 0);rw[zae] at c;have hk:k<ns.length:=by lia
 exact aO hS (v:=.int ns[k]) (aF (by rw[zaN,zah hk];rfl)) (q _)
theorem Ah{l b:zc4}{xs zs:List V}{H:Hp}{Q:VK}(h1:H l=some (.lst xs))(h2:H b=some (.lst zs))(hl:xs.length+zs.length<=zdc)(q:∀p,H p=none->Q (.ref p) (upd H p (.lst (xs++zs)))):Rr (.ref l) (.ref b) H Q:=⟨l,b,xs,zs,rfl,rfl,h1,h2,hl,q⟩
theorem Nl(T:Tx K mg t)(C:Cd P w K t):bC P w K mg base lS 65 t.eW t.fZ ["rows"] (KQ K):=by
 have Qf:=Nk (P:=P) (w:=w) (base:=base) T C;refine T.cv.F.wu oG (fun vs H Q E h=>?_) (fun dW A outer s H vs Q E hr h=>?_)
 ·obtain⟨_,_,rfl,_⟩:=h;rfl
 obtain⟨ra,rows,rfl,hS,ne,nl,lr,q⟩:=h;have nd:=oG.nd;refine⟨_,[some (.ref ra),none,none],(ag (aY (i:=1) nd rfl (zas rfl) (aL af))
 (ag (JN (i:=2) nd rfl rfl rfl Qf (hr.mono (by first|decide|omega)) rfl T.ui.m T.ui.F.kp T.ui.b (fun _ _=>(aa (P0 (K:=K) rfl zbU PySem.F.slot_str_join PySem.F.type_str_join (KR (K:=K) rfl) ax (aa (pv 0) af ah)) af bP)) rfl rfl rfl T.CB (fun _=>(ag (aY (i:=1) nd rfl (zas rfl) (aL (aa (br (dG (K:=K) rfl) rfl T.bG PyProof.Rows.Boot.«isinstance» (aa (pv 2) (aa (bO (v:=.ref t.ay) rfl T.dR rfl) af ah) ah)) (aa (br (dG (K:=K) rfl) rfl T.bG PyProof.Rows.Boot.«isinstance» (aa (pv 2) (aa (bO (v:=.ref t.au) rfl T.oa rfl) af ah) ah)) (aa (br (dG (K:=K) rfl) rfl T.bG PyProof.Rows.Boot.«isinstance» (aa (pv 2) (aa (bO (v:=.ref t.ar) rfl T.xl rfl) af ah) ah)) (aa (br (dG (K:=K) rfl) rfl T.bG PyProof.Rows.Boot.«isinstance» (aa (pv 2) (aa (bO (v:=.ref t.aw) rfl T.xo rfl) af ah) ah)) af bP) bP) bP) bP)))
 (ag (aY (i:=1) nd rfl (zas rfl) (aU nP (pv 1) (aL (aa (br (dG (K:=K) rfl) rfl T.bG PyProof.Rows.Boot.«isinstance» (aa (pv 2) (aa (bO (v:=.ref t.aj) rfl T.sT rfl) af ah) ah)) (aa (br (dG (K:=K) rfl) rfl T.bG PyProof.Rows.Boot.«isinstance» (aa (pv 2) (aa (bO (v:=.ref t.aG) rfl T.CJ rfl) af ah) ah)) (aa (br (dG (K:=K) rfl) rfl T.bG PyProof.Rows.Boot.«isinstance» (aa (pv 2) (aa (bO (v:=.ref t.aR) rfl T.F9 rfl) af ah) ah)) (aa (br (dG (K:=K) rfl) rfl T.bG PyProof.Rows.Boot.«isinstance» (aa (pv 2) (aa (bO (v:=.ref t.aQ) rfl T.F7 rfl) af ah) ah)) af bP) bP) bP) bP))))
 (ag (aY (i:=1) nd rfl (zas rfl) (aU nP (pv 1) (aL (aa (br (dG (K:=K) rfl) rfl T.bG PyProof.Rows.Boot.«isinstance» (aa (pv 2) (aa (bO (v:=.ref t.aH) rfl T.CL rfl) af ah) ah)) (aa (br (dG (K:=K) rfl) rfl T.bG PyProof.Rows.Boot.«isinstance» (aa (pv 2) (aa (bO (v:=.ref t.bU) rfl T.Hk rfl) af ah) ah)) (aa (br (dG (K:=K) rfl) rfl T.bG PyProof.Rows.Boot.«isinstance» (aa (pv 2) (aa (bO (v:=.ref t.bB) rfl T.Ez rfl) af ah) ah)) (aa (br (dG (K:=K) rfl) rfl T.bG PyProof.Rows.Boot.«isinstance» (aa (pv 2) (aa (bO (v:=.ref t.bh) rfl T.CM rfl) af ah) ah)) af bP) bP) bP) bP))))
 (ak (aY (i:=1) nd rfl (zas rfl) (aU nP (pv 1) (aL (aa (br (dG (K:=K) rfl) rfl T.bG PyProof.Rows.Boot.«isinstance» (aa (pv 2) (aa (bO (v:=.ref t.bA) rfl T.Ey rfl) af ah) ah)) (aa (OB (br (GJ (K:=K) rfl) rfl T.bG PyProof.Rows.Boot.«isinstance» (aa (pv 2) (aa (Ma (v:=.ty "ValueError") rfl T.ou PyProof.Rows.Boot.«ValueError» rfl) af ah) ah))) af RE) bP))))))))))
 (ak (aW (pv 1))))),rfl,?_⟩
 have line:zdc=2 ^ 24:=rfl;refine aM fun U1 Ag=>?_;walk_at "rd";intro p hp;have s1:=aq.new hp (.lst []);have y1:(upd H p (.lst [])) p=some (.lst []):=ae;generalize upd H p (.lst [])=H1 at *;refine(Ag _ _).mpr (aM fun U2 rY=>?_);clear Ag;simp only[JM];walk_at "rd";refine⟨rfl,ra,rows,10,rfl,rfl,s1.seq hS,by lia,?_⟩;have eg:a9 10 (dX 10 rows)=rows:=wW ne nl;have lg:=Ck 10 rows;refine⟨dX 10 rows,rfl,by lia,fun e he H2 s2=>?_,fun he v H2 s2=>?_⟩
 ·rw[eg] at he;rw[he] at q;have cf:=Sy T e;have YD:ua (some e)=((([V.bl (decide (0=PM.bp e)),V.bl (decide (1=PM.bp e)),V.bl (decide (2=PM.bp e)),V.bl (decide (3=PM.bp e))]++[V.bl (decide (4=PM.bp e)),V.bl (decide (5=PM.bp e)),V.bl (decide (6=PM.bp e)),V.bl (decide (7=PM.bp e))])++[V.bl (decide (8=PM.bp e)),V.bl (decide (9=PM.bp e)),V.bl (decide (10=PM.bp e)),V.bl (decide (11=PM.bp e))])++[V.bl (decide (12=PM.bp e)),V.bl false]):=by
   have YE:decide (13=PM.bp e)=false:=by cases e<;>rfl
   unfold ua;show [V.bl (decide (0=PM.bp e)),V.bl (decide (1=PM.bp e)),V.bl (decide (2=PM.bp e)),V.bl (decide (3=PM.bp e)),V.bl (decide (4=PM.bp e)),V.bl (decide (5=PM.bp e)),V.bl (decide (6=PM.bp e)),V.bl (decide (7=PM.bp e)),V.bl (decide (8=PM.bp e)),V.bl (decide (9=PM.bp e)),V.bl (decide (10=PM.bp e)),V.bl (decide (11=PM.bp e)),V.bl (decide (12=PM.bp e)),V.bl (decide (13=PM.bp e))]=_;rw[YE];rfl
  generalize PM.bp e=c at *;generalize Li t e=CX at *;refine⟨cf.xr,_,rfl,fun y hy=>?_⟩;have s3:=(s1.trans s2).BS hy (su y CX);have h3:(upd H2 y (su y CX)) y=some (su y CX):=ae;generalize upd H2 y (su y CX)=H3 at *;refine⟨y,_,_,_,rfl,h3,cf.xi,cf.k0,?_⟩;refine⟨y,_,_,_,rfl,h3,cf.xi,cf.k1,?_⟩;refine⟨y,_,_,_,rfl,h3,cf.xi,cf.k2,?_⟩;refine⟨y,_,_,_,rfl,h3,cf.xi,cf.k3,?_⟩;obtain⟨L1,e1⟩:∃L1:List V,L1=[V.bl (decide (0=c)),V.bl (decide (1=c)),V.bl (decide (2=c)),V.bl (decide (3=c))]:=⟨_,rfl⟩
  obtain⟨L2,e2⟩:∃L2:List V,L2=[V.bl (decide (4=c)),V.bl (decide (5=c)),V.bl (decide (6=c)),V.bl (decide (7=c))]:=⟨_,rfl⟩
  obtain⟨L3,e3⟩:∃L3:List V,L3=[V.bl (decide (8=c)),V.bl (decide (9=c)),V.bl (decide (10=c)),V.bl (decide (11=c))]:=⟨_,rfl⟩
  obtain⟨L4,e4⟩:∃L4:List V,L4=[V.bl (decide (12=c)),V.bl false]:=⟨_,rfl⟩
  have le:L1.length=4/\L2.length=4/\L3.length=4/\L4.length=2:=by rw[e1,e2,e3,e4];exact⟨rfl,rfl,rfl,rfl⟩
  have eq:ua (some e)=(((L1++L2)++L3)++L4):=by rw[e1,e2,e3,e4];exact YD
  rw[<- e1];intro p4 Wv;have s4:=s3.BS Wv (.lst L1);have h4:=aq.new Wv (.lst L1) _ _ h3;have l4:(upd H3 p4 (.lst L1)) p4=some (.lst L1):=ae;generalize upd H3 p4 (.lst L1)=H4 at *;refine⟨y,_,_,_,rfl,h4,cf.xi,cf.k4,?_⟩;refine⟨y,_,_,_,rfl,h4,cf.xi,cf.k5,?_⟩;refine⟨y,_,_,_,rfl,h4,cf.xi,cf.k6,?_⟩;refine⟨y,_,_,_,rfl,h4,cf.xi,cf.k7,?_⟩;rw[<- e2];intro p5 Vt;have s5:=s4.BS Vt (.lst L2);have h5:=aq.new Vt (.lst L2) _ _ h4;have l5:=aq.new Vt (.lst L2) _ _ l4;have m5:(upd H4 p5 (.lst L2)) p5=some (.lst L2):=ae;generalize upd H4 p5 (.lst L2)=H5 at *;refine Ah l5 m5 (by lia) fun p6 Ww=>?_;have s6:=s5.BS Ww (.lst (L1++L2));have h6:=aq.new Ww (.lst (L1++L2)) _ _ h5;have l6:(upd H5 p6 (.lst (L1++L2))) p6=some (.lst (L1++L2)):=ae;generalize upd H5 p6 (.lst (L1++L2))=H6 at *;refine⟨y,_,_,_,rfl,h6,cf.xi,cf.k8,?_⟩;refine⟨y,_,_,_,rfl,h6,cf.xi,cf.k9,?_⟩;refine⟨y,_,_,_,rfl,h6,cf.xi,cf.YB,?_⟩;refine⟨y,_,_,_,rfl,h6,cf.xi,cf.YC,?_⟩;rw[<- e3];intro p7 Vu;have s7:=s6.BS Vu (.lst L3);have h7:=aq.new Vu (.lst L3) _ _ h6;have l7:=aq.new Vu (.lst L3) _ _ l6;have m7:(upd H6 p7 (.lst L3)) p7=some (.lst L3):=ae;generalize upd H6 p7 (.lst L3)=H7 at *;refine Ah l7 m7 (by rw[zaf];lia) fun p8 Wx=>?_;have s8:=s7.BS Wx (.lst (L1++L2++L3));have h8:=aq.new Wx (.lst (L1++L2++L3)) _ _ h7;have l8:(upd H7 p8 (.lst (L1++L2++L3))) p8=some (.lst (L1++L2++L3)):=ae;generalize upd H7 p8 (.lst (L1++L2++L3))=H8 at *;refine⟨y,_,_,_,rfl,h8,cf.xi,cf.Vs,?_⟩;refine⟨y,_,_,_,rfl,h8,cf.xi,cf.kv,?_⟩;rw[show (!true)=false from rfl,<- e4];intro p9 Wy;have s9:=s8.BS Wy (.lst L4);have l9:=aq.new Wy (.lst L4) _ _ l8;have m9:(upd H8 p9 (.lst L4)) p9=some (.lst L4):=ae;generalize upd H8 p9 (.lst L4)=H9 at *;refine Ah l9 m9 (by rw[zaf,zaf];lia) fun pa YF=>?_;show U2 [some (V.ref ra),some (V.ref pa),none] _;refine(rY _ _).mpr ?_;walk_at "rd";exact q _ _ (s9.BS YF _) (by rw[ae,eq])
 ·rw[eg] at he;rw[he] at q;refine(rY _ _).mpr ?_;walk_at "rd";exact q p H2 (s1.trans s2) (s2 _ _ y1)
theorem my{α:Type}{L:List α}{n:Nat}(hn:L.length=n)(h0:0<n)(c:Int):∃v∈L,Fn L (c%n)=some v:=by
 have h1:=zbv c (show (n:Int)≠0 by lia);have h2:=zbj c (show (0:Int)<n by lia);obtain⟨j,hj⟩:=Int.eq_ofNat_of_zero_le h1;rw[hj] at h2 ⊢;have hl:j<L.length:=by lia
 exact⟨L[j],zaS hl,aF (zah hl)⟩
theorem C7{nm:W}{a b:Int}(hn:PM.isName nm=true)(Vv:32 ∉ nm)(QJ:10 ∉ nm)(ln:nm.length<=8)(ha:0<=a/\a<1000)(hb:0<=b/\b<1000):PY (dX 32 [PM.cO,nm,PM.dig a.toNat,PM.dig b.toNat]) (.box nm a b):=by
 obtain⟨a1,a2⟩:=PM.JI a.toNat (by lia);obtain⟨b1,b2⟩:=PM.JI b.toNat (by lia);have Po:∀ {x:W},PM.isNumber x=true->x.length<=3/\∀c∈x,48<=c/\c<=57:=fun {x} h=>by
  unfold PM.isNumber at h;simp only[zaK,decide_eq_true_eq,za2] at h;refine⟨h.1.1.2,fun c hc=>?_⟩;have:=h.1.2 c hc;unfold PM.jt at this;simpa using this
 obtain⟨la,fa⟩:=Po a1;obtain⟨lb,fb⟩:=Po b1;have na:∀c,c<48->c ∉ PM.dig a.toNat:=fun c h z=>by have:=fa c z;lia
 have nb:∀c,c<48->c ∉ PM.dig b.toNat:=fun c h z=>by have:=fb c z;lia
 have lg:(dX 32 [PM.cO,nm,PM.dig a.toNat,PM.dig b.toNat])=PM.cO++([32]++nm++([32]++PM.dig a.toNat)++([32]++PM.dig b.toNat)):=by
  unfold dX;simp
 refine⟨?_,?_,?_⟩
 ·rw[wW (by simp) (fun w hw=>by
   simp only[zak,zbr,or_false] at hw;rcases hw with rfl |rfl |rfl |rfl
   ·decide
   ·exact Vv
   ·exact na 32 (by decide)
   ·exact nb 32 (by decide))]
  have e:PM.iz [PM.cO,nm,PM.dig a.toNat,PM.dig b.toNat]=PM.He [PM.cO,nm,PM.dig a.toNat,PM.dig b.toNat]:=rfl;rw[e];show ((PM.wY nm).bind fun n=>(PM.Hd (PM.dig a.toNat)).bind fun x=>(PM.Hd (PM.dig b.toNat)).map (PM.Fm.box n x))=_;unfold PM.wY PM.Hd;rw[if_pos hn,if_pos a1,if_pos b1,a2,b2,zcX ha.1,zcX hb.1];rfl
 ·rw[lg];simp only[zaf,zag,zbe];have:PM.cO.length=3:=rfl;lia
 ·rw[lg];intro z;simp only[zaz,zak,zbr,or_false] at z;rcases z with z |(((z |z) |(z |z)) |(z |z))
  ·revert z;decide
  ·cases z
  ·exact QJ z
  ·cases z
  ·exact na 10 (by decide) z
  ·cases z
  ·exact nb 10 (by decide) z
theorem EL(T:Tx K mg t):bC P w K mg base lS 1 t.eX t.f6 ["number"] (fun vs H Q E=>∃c:Int,vs=[.int c]/\0<=c/\∀l w f H',aq H H'->PY w f->Hi K H' l w f->Q (.ref l) H'):=by
 refine T.dO.F.wu oH (fun vs H Q E h=>?_) (fun dW A outer s H vs Q E hr h=>?_)
 ·obtain⟨_,rfl,_⟩:=h;rfl
 obtain⟨c,rfl,hc,q⟩:=h;have nd:=oH.nd;refine⟨_,[some (.int c),none,none,none],(ag (aY (i:=1) nd rfl (zas rfl) (aZ aT (aL (cU (vs:=[.str "a",.str "ab",.str "abc",.str "b",.str "c",.str "d"]) (by kernel_rfl))) (aU eG (pv 0) ai) ph))
 (ag (aY (i:=2) nd rfl (zas rfl) (aZ aT (aL (aa ai (aa ai (aa ai (aa ai (aa (aU v8 ai (aU eG (aU jl (pv 0) ai) ai)) (aa (aU v8 ai (aU eG (aU jl (pv 0) ai) ai)) (aa ai (aa ai af aB) aB) fJ) fJ) aB) aB) aB) aB)) (aU eG (aU jl (pv 0) ai) ai) ph))
 (ag (aY (i:=3) nd rfl (zas rfl) (aZ aT (aL (aa ai (aa (br (zE rfl) rfl T.Gb PyProof.Rows.Boot.«max» (aa ai (aa (aU IL (pv 2) ai) af fJ) aB)) (aa (pv 2) (aa (aU eG (aU jl (pv 0) ai) ai) af fJ) ah) bP) aB)) (aU eG (aU jl (pv 0) ai) ai) ph))
 (ak (aW (aL (aa (aU aS (aU aS (aU aS (aU aS (aU aS ax (pv 1)) ax) (gN sD rfl T.Ga PyProof.Rows.Boot.«str» (aa (pv 2) af ah))) ax) (gN sD rfl T.Ga PyProof.Rows.Boot.«str» (aa (pv 3) af ah))) (aa ax (aa (aL (aa (pv 1) af ah)) (aa (tO (sf uE uE ai (pv 2) ai) (v5 (fC zD (pv 3) (pv 2) (aP _)))) af MD) cb) aB) fJ))))))),rfl,?_⟩
 have line:zdc=2 ^ 24:=rfl;have m9:=zbv (c/6) (show (9:Int)≠0 by decide);have Z6:=zbj (c/6) (show (0:Int)<9 by decide);have Z7:=zbv (c/480) (show (12:Int)≠0 by decide);have YG:=zbj (c/480) (show (0:Int)<12 by decide);refine aM fun U1 Ag=>?_;walk_at "rd";intro g1 f1;obtain⟨v1,Vw,a1⟩:=my (L:=[V.str (zaa "a"),V.str (zaa "ab"),V.str (zaa "abc"),V.str (zaa "b"),V.str (zaa "c"),V.str (zaa "d")]) (n:=6) rfl (by decide) c;have el:([V.str (zaa "a"),V.str (zaa "ab"),V.str (zaa "abc"),V.str (zaa "b"),V.str (zaa "c"),V.str (zaa "d")]:List V)=([[97],[97,98],[97,98,99],[98],[99],[100]]:List W).map sv:=by decide +kernel
 have Sz:=Vw;rw[el] at Sz;obtain⟨nm,RU,rfl⟩:=zaT.mp Sz;have pn:PM.isName nm=true/\32 ∉ nm/\10 ∉ nm/\nm.length<=8:=by
  revert RU
  have all:∀n∈([[97],[97,98],[97,98,99],[98],[99],[100]]:List W),PM.isName n=true/\32 ∉ n/\10 ∉ n/\n.length<=8:=by decide +kernel
  exact all nm
 obtain⟨hn,Vv,QJ,ln⟩:=pn;refine aO (.of ae) a1 ((Ag _ _).mpr (aM fun U2 rY=>?_));clear Ag;have s1:=aq.new f1 (.lst [V.str (zaa "a"),V.str (zaa "ab"),V.str (zaa "abc"),V.str (zaa "b"),V.str (zaa "c"),V.str (zaa "d")]);generalize upd H g1 _=H1 at *;walk_at "rd";intro g2 f2;obtain⟨v2,Tw,a2⟩:=my (L:=[V.int 1,V.int 2,V.int 10,V.int 11,V.int (2+c/6%9),V.int (2+c/6%9),V.int 0,V.int 999]) (n:=8) rfl (by decide) (c/60);obtain⟨sz,rfl,IQ⟩:∃i,v2=V.int i/\0<=i/\i<1000:=by
  simp only[zak,zbr,or_false] at Tw;rcases Tw with rfl |rfl |rfl |rfl |rfl |rfl |rfl |rfl<;>exact⟨_,rfl,by lia,by lia⟩
 refine aO (.of ae) a2 ((rY _ _).mpr (aM fun U3 qN=>?_));clear rY;have s2:=s1.trans (aq.new f2 (.lst [V.int 1,V.int 2,V.int 10,V.int 11,V.int (2+c/6%9),V.int (2+c/6%9),V.int 0,V.int 999]));generalize upd H1 g2 _=H2 at *;walk_at "rd";refine⟨0,sz-1,rfl,fun g3 f3=>?_⟩;obtain⟨v3,Wz,a3⟩:=my (L:=[V.int 0,V.int (if sz-1>0 then sz-1 else 0),V.int sz,V.int (c/480%12)]) (n:=4) rfl (by decide) (c/6000);obtain⟨fi,rfl,Tz⟩:∃i,v3=V.int i/\0<=i/\i<1000:=by
  simp only[zak,zbr,or_false] at Wz;rcases Wz with rfl |rfl |rfl |rfl
  ·exact⟨_,rfl,by lia,by lia⟩
  ·refine⟨_,rfl,?_,?_⟩<;>split<;>lia
  ·exact⟨_,rfl,IQ⟩
  ·exact⟨_,rfl,by lia,by lia⟩
 refine aO (.of ae) a3 ((qN _ _).mpr ?_);clear qN;have s3:=s2.trans (aq.new f3 (.lst [V.int 0,V.int (if sz-1>0 then sz-1 else 0),V.int sz,V.int (c/480%12)]));generalize upd H2 g3 _=H3 at *;walk_at "rd";have ok:=C7 hn Vv QJ ln IQ Tz;have d1:=vR (k:=sz) (by lia);have d2:=vR (k:=fi) (by lia);have lm:(S nm).length<=8:=by rw[ez];exact ln
 have l4:(zaa "box ").length=4:=by decide +kernel
 have l1:(zaa " ").length=1:=by decide +kernel
 have Ob:∀ {i:Int},0<=i->i<1000->i.natAbs.log2<1920:=fun {i} h1 h2=>by
  by_cases h0:i.natAbs=0
  ·rw[h0];decide
  ·exact Nat.lt_trans ((Nat.log2_lt h0).mpr (show i.natAbs<2 ^ 64 by lia)) (by decide)
 refine⟨_,S nm,rfl,rfl,by lia,_,_,rfl,rfl,by rw[strLen_append];lia,.inl ⟨sz,rfl,Ob IQ.1 IQ.2,_,_,rfl,rfl,by rw[strLen_append,strLen_append];lia,_,_,rfl,rfl,by rw[strLen_append,strLen_append,strLen_append];lia,.inl ⟨fi,rfl,Ob Tz.1 Tz.2,_,_,rfl,rfl,by rw[strLen_append,strLen_append,strLen_append,strLen_append];lia,?_⟩⟩⟩;have et:V.str (zaa "box "++S nm++zaa " "++zaa (toString sz)++zaa " "++zaa (toString fi))=sv (dX 32 [PM.cO,nm,PM.dig sz.toNat,PM.dig fi.toNat]):=by
  rw[V.str.inj (AE sz IQ.1),V.str.inj (AE fi Tz.1),show zaa "box "=S [98,111,120,32] by decide +kernel,show zaa " "=S [32] by decide +kernel,zQ,zQ,zQ,zQ,zQ];unfold sv dX
  congr 2
  simp[PM.cO]
 rw[et];intro g4 f4;have s4:=s3.trans (aq.new f4 (.lst [sv nm]));have y4:(upd H3 g4 (.lst [sv nm])) g4=some (.lst [sv nm]):=ae;generalize upd H3 g4 (.lst [sv nm])=H4 at *;have fin:∀b:Bool,b=decide (2<=sz/\sz<=10/\fi<sz)->∀g5,H4 g5=none->Q (.ref g5) (upd H4 g5 (.lst [sv (dX 32 [PM.cO,nm,PM.dig sz.toNat,PM.dig fi.toNat]),V.str (zaa "box"),V.ref g4,V.bl b])):=fun b eb g5 f5=>by
  have s5:=aq.new f5 (.lst [sv (dX 32 [PM.cO,nm,PM.dig sz.toNat,PM.dig fi.toNat]),V.str (zaa "box"),V.ref g4,V.bl b]);refine q g5 _ _ _ (s4.trans s5) ok ⟨g4,?_,s5 _ _ y4⟩;rw[ae,eb,jQ];rfl
 by_cases h2:2<=sz
 ·rw[if_pos h2];by_cases NW:sz<=10
  ·rw[if_pos NW];exact fin _ (by simp[h2,NW])
  ·rw[if_neg NW];exact fin _ (by simp[NW])
 ·rw[if_neg h2,if_neg zad];exact fin _ (by simp[h2])
def tj:List W:=[[97],[97,98],[98],[97],[97,98],[98],[122,122],[97,98,99,100]]
def rO:List W:=[[97],[97,98,99],[98],[97],[97],[98],[99],[97,97]]
def fP (H:Hp) (kd:W) (v:V):Prop:=∃p z n ns,v=.ref p/\H p=some (.lst [.str z,.ref n])/\H n=some (.lst (ns.map sv))/\uR z kd ns=true
theorem fP.mono{H H':Hp}{kd:W}{v:V}(h:fP H kd v)(s:aq H H'):fP H' kd v:=by
 obtain⟨p,z,n,ns,e,h1,h2,h3⟩:=h;exact⟨p,z,n,ns,e,s _ _ h1,s _ _ h2,h3⟩
theorem EM(T:Tx K mg t):bC P w K mg base lS 2 t.eY t.f7 ["cell"] (Sm K):=by
 have jF:=Gf (P:=P) (w:=w) (base:=base) T;have xP:=EL (P:=P) (w:=w) (base:=base) T;refine T.dP.F.wu oI (fun vs H Q E h=>?_) (fun dW A outer s H vs Q E hr h=>?_)
 ·obtain⟨_,rfl,_⟩:=h;rfl
 obtain⟨c,rfl,q⟩:=h;have nd:=oI.nd;refine⟨_,[some (.int c),none,none,none,none,none,none,none,none,none],(@ag _ _ _ _ _ (@aY _ _ 1 _ _ _ _ nd rfl (zas rfl) (@aV _ _ _ _ _ _ _ _ _ _ _ _ _ _ _ _ jF (hr.mono (by first|decide|omega)) rfl T.bW.m T.bW.F.kp T.bW.b .nil cy (@aa _ _ _ _ _ (pv 0) (@aa _ _ _ _ _ (@ai _ _ _ _) (@af _) (@aB _ _ _ _ _)) (@ah _ _ _ _)) (by first |rfl |exact .inl rfl |exact .inr rfl |decide |(intro _;rfl) |assumption) (by first |rfl |exact .inl rfl |exact .inr rfl |decide |(intro _;rfl) |assumption) (by first |rfl |exact .inl rfl |exact .inr rfl |decide |(intro _;rfl) |assumption)) (by first |rfl |exact .inl rfl |exact .inr rfl |decide |(intro _;rfl) |assumption) (by first |rfl |exact .inl rfl |exact .inr rfl |decide |(intro _;rfl) |assumption)) (@ag _ _ _ _ _ (@aY _ _ 2 _ _ _ _ nd rfl (zas rfl) (@aV _ _ _ _ _ _ _ _ _ _ _ _ _ _ _ _ jF (hr.mono (by first|decide|omega)) rfl T.bW.m T.bW.F.kp T.bW.b .nil cy (@aa _ _ _ _ _ (pv 0) (@aa _ _ _ _ _ (@ai _ _ _ _) (@af _) (@aB _ _ _ _ _)) (@ah _ _ _ _)) (by first |rfl |exact .inl rfl |exact .inr rfl |decide |(intro _;rfl) |assumption) (by first |rfl |exact .inl rfl |exact .inr rfl |decide |(intro _;rfl) |assumption) (by first |rfl |exact .inl rfl |exact .inr rfl |decide |(intro _;rfl) |assumption)) (by first |rfl |exact .inl rfl |exact .inr rfl |decide |(intro _;rfl) |assumption) (by first |rfl |exact .inl rfl |exact .inr rfl |decide |(intro _;rfl) |assumption)) (@ag _ _ _ _ _ (@aY _ _ 3 _ _ _ _ nd rfl (zas rfl) (@aU _ _ _ _ _ _ _ _ (@eG _) (pv 1) (@ai _ _ _ _)) (by first |rfl |exact .inl rfl |exact .inr rfl |decide |(intro _;rfl) |assumption) (by first |rfl |exact .inl rfl |exact .inr rfl |decide |(intro _;rfl) |assumption)) (@ag _ _ _ _ _ (@aY _ _ 4 _ _ _ _ nd rfl (zas rfl) (@aZ _ _ _ _ _ _ _ (@aT _) (@aL _ _ _ _ (@cU _ _ ([.str "a",.str "ab",.str "b",.str "a",.str "ab",.str "b",.str "zz",.str "abcd"]) (by kernel_rfl))) (@aU _ _ _ _ _ _ _ _ (@eG _) (pv 2) (@ai _ _ _ _)) (@ph _ _ _ _)) (by first |rfl |exact .inl rfl |exact .inr rfl |decide |(intro _;rfl) |assumption) (by first |rfl |exact .inl rfl |exact .inr rfl |decide |(intro _;rfl) |assumption)) (@ag _ _ _ _ _ (@aY _ _ 5 _ _ _ _ nd rfl (zas rfl) (@aZ _ _ _ _ _ _ _ (@aT _) (@aL _ _ _ _ (@cU _ _ ([.str "a",.str "abc",.str "b",.str "a",.str "a",.str "b",.str "c",.str "aa"]) (by kernel_rfl))) (@aU _ _ _ _ _ _ _ _ (@eG _) (@aU _ _ _ _ _ _ _ _ (@jl _) (pv 2) (@ai _ _ _ _)) (@ai _ _ _ _)) (@ph _ _ _ _)) (by first |rfl |exact .inl rfl |exact .inr rfl |decide |(intro _;rfl) |assumption) (by first |rfl |exact .inl rfl |exact .inr rfl |decide |(intro _;rfl) |assumption)) (@ag _ _ _ _ _ (@ba _ _ _ _ _ _ _ _ (@aC _ _ _ _ _ _ _ _ (@zD _) (pv 3) (@ai _ _ _ _) (aP _)) (@ak _ _ _ (@aW _ _ _ _ (@aV _ _ _ _ _ _ _ _ _ _ _ _ _ _ _ _ xP (hr.mono (by first|decide|omega)) rfl T.dO.m T.dO.F.kp T.dO.b .nil cy (@aa _ _ _ _ _ (pv 2) (@af _) (@ah _ _ _ _)) (by first |rfl |exact .inl rfl |exact .inr rfl |decide |(intro _;rfl) |assumption) (by first |rfl |exact .inl rfl |exact .inr rfl |decide |(intro _;rfl) |assumption) (by first |rfl |exact .inl rfl |exact .inr rfl |decide |(intro _;rfl) |assumption)))) (@aI _)) (@ag _ _ _ _ _ (@ba _ _ _ _ _ _ _ _ (@aC _ _ _ _ _ _ _ _ (@zD _) (pv 3) (@ai _ _ _ _) (aP _)) (@ag _ _ _ _ _ (@aY _ _ 6 _ _ _ _ nd rfl (zas rfl) (@aL _ _ _ _ (@aa _ _ _ _ _ (@aL _ _ _ _ (@aa _ _ _ _ _ (@ax _ _ _ _) (@aa _ _ _ _ _ (@aL _ _ _ _ (@af _)) (@af _) (@cb _ _ _ _)) (@aB _ _ _ _ _))) (@aa _ _ _ _ _ (@aL _ _ _ _ (@aa _ _ _ _ _ (@aU _ _ _ _ _ _ _ _ aS (@ax _ _ _ _) (pv 5)) (@aa _ _ _ _ _ (@aL _ _ _ _ (@aa _ _ _ _ _ (pv 5) (@af _) (@ah _ _ _ _))) (@af _) (@cb _ _ _ _)) (@fJ _ _ _ _ _ _))) (@af _) (@cb _ _ _ _)) (@cb _ _ _ _))) (by first |rfl |exact .inl rfl |exact .inr rfl |decide |(intro _;rfl) |assumption) (by first |rfl |exact .inl rfl |exact .inr rfl |decide |(intro _;rfl) |assumption)) (@ag _ _ _ _ _ (@cB _ _ _ _ (@lU _ _ _ _ _ _ _ _ _ _ _ _ zaB zaH zaI de (pv 6) (@aa _ _ _ _ _ (@aL _ _ _ _ (@aa _ _ _ _ _ (@aU _ _ _ _ _ _ _ _ aS (@aU _ _ _ _ _ _ _ _ aS (@aU _ _ _ _ _ _ _ _ aS (@aU _ _ _ _ _ _ _ _ aS (@ax _ _ _ _) (pv 4)) (@ax _ _ _ _)) (pv 5)) (@ax _ _ _ _)) (@aa _ _ _ _ _ (@aL _ _ _ _ (@aa _ _ _ _ _ (pv 4) (@aa _ _ _ _ _ (pv 5) (@af _) (@ah _ _ _ _)) (@ah _ _ _ _))) (@af _) (@cb _ _ _ _)) (@fJ _ _ _ _ _ _))) (@af _) (@cb _ _ _ _)) (by first |rfl |exact .inl rfl |exact .inr rfl |decide |(intro _;rfl) |assumption) (by first |rfl |exact .inl rfl |exact .inr rfl |decide |(intro _;rfl) |assumption) (by first |rfl |exact .inl rfl |exact .inr rfl |decide |(intro _;rfl) |assumption) (by first |rfl |exact .inl rfl |exact .inr rfl |decide |(intro _;rfl) |assumption) (by first |rfl |exact .inl rfl |exact .inr rfl |decide |(intro _;rfl) |assumption)) (by first |rfl |exact .inl rfl |exact .inr rfl |decide |(intro _;rfl) |assumption)) (@ag _ _ _ _ _ (@tP _ _ _ _ _ _ (@aZ _ _ _ _ _ _ _ (@aT _) (pv 6) (@aU _ _ _ _ _ _ _ _ (@eG _) (@aU _ _ _ _ _ _ _ _ (@jl _) (pv 2) (@ai _ _ _ _)) (@ai _ _ _ _)) (@ph _ _ _ _)) (@AD _ _ _ _ _ _ rfl (@d9 _ _ _ _ _ (@cP _ _ 7 _ nd rfl (zas rfl) (by first |rfl |exact .inl rfl |exact .inr rfl |decide |(intro _;rfl) |assumption)) (@d9 _ _ _ _ _ (@cP _ _ 8 _ nd rfl (zas rfl) (by first |rfl |exact .inl rfl |exact .inr rfl |decide |(intro _;rfl) |assumption)) (@se _) (by first |rfl |exact .inl rfl |exact .inr rfl |decide |(intro _;rfl) |assumption)) (by first |rfl |exact .inl rfl |exact .inr rfl |decide |(intro _;rfl) |assumption)) (by first |rfl |exact .inl rfl |exact .inr rfl |decide |(intro _;rfl) |assumption) (by first |rfl |exact .inl rfl |exact .inr rfl |decide |(intro _;rfl) |assumption)) (by first |rfl |exact .inl rfl |exact .inr rfl |decide |(intro _;rfl) |assumption) (by first |rfl |exact .inl rfl |exact .inr rfl |decide |(intro _;rfl) |assumption) (by first |rfl |exact .inl rfl |exact .inr rfl |decide |(intro _;rfl) |assumption)) (@ak _ _ _ (@aW _ _ _ _ (@aL _ _ _ _ (@aa _ _ _ _ _ (pv 7) (@aa _ _ _ _ _ (@ax _ _ _ _) (@aa _ _ _ _ _ (pv 8) (@aa _ _ _ _ _ (@zB _ _ _ _) (@af _) (@aB _ _ _ _ _)) (@ah _ _ _ _)) (@aB _ _ _ _ _)) (@ah _ _ _ _)))))))) (@aI _)) (@ag _ _ _ _ _ (@ba _ _ _ _ _ _ _ _ (@aC _ _ _ _ _ _ _ _ (@bY _) (pv 3) (@ai _ _ _ _) (aP _)) (@ag _ _ _ _ _ (@aY _ _ 9 _ _ _ _ nd rfl (zas rfl) (@aZ _ _ _ _ _ _ _ (@Jb _) (@ax _ _ _ _) (@aU _ _ _ _ _ _ _ _ (@eG _) (@aU _ _ _ _ _ _ _ _ (@jl _) (pv 2) (@ai _ _ _ _)) (@ai _ _ _ _)) (@ph _ _ _ _)) (by first |rfl |exact .inl rfl |exact .inr rfl |decide |(intro _;rfl) |assumption) (by first |rfl |exact .inl rfl |exact .inr rfl |decide |(intro _;rfl) |assumption)) (@ak _ _ _ (@aW _ _ _ _ (@aL _ _ _ _ (@aa _ _ _ _ _ (@aU _ _ _ _ _ _ _ _ aS (@aU _ _ _ _ _ _ _ _ aS (@aU _ _ _ _ _ _ _ _ aS (@aU _ _ _ _ _ _ _ _ aS (@aU _ _ _ _ _ _ _ _ aS (@aU _ _ _ _ _ _ _ _ aS (@ax _ _ _ _) (pv 4)) (@ax _ _ _ _)) (pv 9)) (@ax _ _ _ _)) (pv 5)) (@ax _ _ _ _)) (@aa _ _ _ _ _ (@ax _ _ _ _) (@aa _ _ _ _ _ (@aL _ _ _ _ (@aa _ _ _ _ _ (pv 4) (@aa _ _ _ _ _ (pv 5) (@af _) (@ah _ _ _ _)) (@ah _ _ _ _))) (@aa _ _ _ _ _ (@zB _ _ _ _) (@af _) (@aB _ _ _ _ _)) (@cb _ _ _ _)) (@aB _ _ _ _ _)) (@fJ _ _ _ _ _ _)))))) (@aI _)) (@ag _ _ _ _ _ (@ba _ _ _ _ _ _ _ _ (@aC _ _ _ _ _ _ _ _ (@bY _) (pv 3) (@ai _ _ _ _) (aP _)) (@ak _ _ _ (@aW _ _ _ _ (@aL _ _ _ _ (@aa _ _ _ _ _ (@ax _ _ _ _) (@aa _ _ _ _ _ (@ax _ _ _ _) (@aa _ _ _ _ _ (@aL _ _ _ _ (@af _)) (@aa _ _ _ _ _ (@zB _ _ _ _) (@af _) (@aB _ _ _ _ _)) (@cb _ _ _ _)) (@aB _ _ _ _ _)) (@aB _ _ _ _ _))))) (@aI _)) (@ag _ _ _ _ _ (@ba _ _ _ _ _ _ _ _ (@aC _ _ _ _ _ _ _ _ (@zD _) (pv 3) (@ai _ _ _ _) (aP _)) (@ak _ _ _ (@aW _ _ _ _ (@aL _ _ _ _ (@aa _ _ _ _ _ (@ax _ _ _ _) (@aa _ _ _ _ _ (@ax _ _ _ _) (@aa _ _ _ _ _ (@aL _ _ _ _ (@af _)) (@aa _ _ _ _ _ (@zB _ _ _ _) (@af _) (@aB _ _ _ _ _)) (@cb _ _ _ _)) (@aB _ _ _ _ _)) (@aB _ _ _ _ _))))) (@aI _)) (@ag _ _ _ _ _ (@aY _ _ 6 _ _ _ _ nd rfl (zas rfl) (@aL _ _ _ _ (@aa _ _ _ _ _ (@aL _ _ _ _ (@aa _ _ _ _ _ (@aU _ _ _ _ _ _ _ _ aS (@ax _ _ _ _) (pv 4)) (@aa _ _ _ _ _ (@aL _ _ _ _ (@aa _ _ _ _ _ (pv 4) (@af _) (@ah _ _ _ _))) (@af _) (@cb _ _ _ _)) (@fJ _ _ _ _ _ _))) (@aa _ _ _ _ _ (@aL _ _ _ _ (@aa _ _ _ _ _ (@aU _ _ _ _ _ _ _ _ aS (@aU _ _ _ _ _ _ _ _ aS (@aU _ _ _ _ _ _ _ _ aS (@aU _ _ _ _ _ _ _ _ aS (@ax _ _ _ _) (pv 4)) (@ax _ _ _ _)) (pv 5)) (@ax _ _ _ _)) (@aa _ _ _ _ _ (@aL _ _ _ _ (@aa _ _ _ _ _ (pv 4) (@aa _ _ _ _ _ (pv 5) (@af _) (@ah _ _ _ _)) (@ah _ _ _ _))) (@af _) (@cb _ _ _ _)) (@fJ _ _ _ _ _ _))) (@aa _ _ _ _ _ (@aL _ _ _ _ (@aa _ _ _ _ _ (@ax _ _ _ _) (@aa _ _ _ _ _ (@aL _ _ _ _ (@af _)) (@af _) (@cb _ _ _ _)) (@aB _ _ _ _ _))) (@aa _ _ _ _ _ (@aL _ _ _ _ (@aa _ _ _ _ _ (@ax _ _ _ _) (@aa _ _ _ _ _ (@aL _ _ _ _ (@af _)) (@af _) (@cb _ _ _ _)) (@aB _ _ _ _ _))) (@af _) (@cb _ _ _ _)) (@cb _ _ _ _)) (@cb _ _ _ _)) (@cb _ _ _ _))) (by first |rfl |exact .inl rfl |exact .inr rfl |decide |(intro _;rfl) |assumption) (by first |rfl |exact .inl rfl |exact .inr rfl |decide |(intro _;rfl) |assumption)) (@ag _ _ _ _ _ (@aY _ _ 6 _ _ _ _ nd rfl (zas rfl) (@aU _ _ _ _ _ _ _ _ (@nP _) (pv 6) (@aL _ _ _ _ (@aa _ _ _ _ _ (@aL _ _ _ _ (@aa _ _ _ _ _ (@aU _ _ _ _ _ _ _ _ aS (@aU _ _ _ _ _ _ _ _ aS (@aU _ _ _ _ _ _ _ _ aS (@ax _ _ _ _) (pv 4)) (@ax _ _ _ _)) (pv 5)) (@aa _ _ _ _ _ (@aL _ _ _ _ (@aa _ _ _ _ _ (pv 4) (@aa _ _ _ _ _ (pv 5) (@af _) (@ah _ _ _ _)) (@ah _ _ _ _))) (@af _) (@cb _ _ _ _)) (@fJ _ _ _ _ _ _))) (@aa _ _ _ _ _ (@aL _ _ _ _ (@aa _ _ _ _ _ (@aU _ _ _ _ _ _ _ _ aS (@aU _ _ _ _ _ _ _ _ aS (@aU _ _ _ _ _ _ _ _ aS (@ax _ _ _ _) (pv 4)) (@ax _ _ _ _)) (pv 5)) (@aa _ _ _ _ _ (@aL _ _ _ _ (@aa _ _ _ _ _ (pv 4) (@aa _ _ _ _ _ (pv 5) (@af _) (@ah _ _ _ _)) (@ah _ _ _ _))) (@af _) (@cb _ _ _ _)) (@fJ _ _ _ _ _ _))) (@af _) (@cb _ _ _ _)) (@cb _ _ _ _)))) (by first |rfl |exact .inl rfl |exact .inr rfl |decide |(intro _;rfl) |assumption) (by first |rfl |exact .inl rfl |exact .inr rfl |decide |(intro _;rfl) |assumption)) (@ag _ _ _ _ _ (@aY _ _ 6 _ _ _ _ nd rfl (zas rfl) (@aU _ _ _ _ _ _ _ _ (@nP _) (pv 6) (@aL _ _ _ _ (@aa _ _ _ _ _ (@aL _ _ _ _ (@aa _ _ _ _ _ (@aU _ _ _ _ _ _ _ _ aS (@aU _ _ _ _ _ _ _ _ aS (@aU _ _ _ _ _ _ _ _ aS (@aU _ _ _ _ _ _ _ _ aS (@ax _ _ _ _) (pv 4)) (@ax _ _ _ _)) (pv 5)) (@ax _ _ _ _)) (@aa _ _ _ _ _ (@aL _ _ _ _ (@aa _ _ _ _ _ (pv 4) (@aa _ _ _ _ _ (pv 5) (@af _) (@ah _ _ _ _)) (@ah _ _ _ _))) (@af _) (@cb _ _ _ _)) (@fJ _ _ _ _ _ _))) (@aa _ _ _ _ _ (@aL _ _ _ _ (@aa _ _ _ _ _ (@aU _ _ _ _ _ _ _ _ aS (@aU _ _ _ _ _ _ _ _ aS (@ax _ _ _ _) (pv 4)) (@ax _ _ _ _)) (@aa _ _ _ _ _ (@aL _ _ _ _ (@aa _ _ _ _ _ (pv 4) (@af _) (@ah _ _ _ _))) (@af _) (@cb _ _ _ _)) (@fJ _ _ _ _ _ _))) (@af _) (@cb _ _ _ _)) (@cb _ _ _ _)))) (by first |rfl |exact .inl rfl |exact .inr rfl |decide |(intro _;rfl) |assumption) (by first |rfl |exact .inl rfl |exact .inr rfl |decide |(intro _;rfl) |assumption)) (@ag _ _ _ _ _ (@tP _ _ _ _ _ _ (@aZ _ _ _ _ _ _ _ (@aT _) (pv 6) (@aU _ _ _ _ _ _ _ _ (@eG _) (@aU _ _ _ _ _ _ _ _ (@jl _) (pv 2) (@ai _ _ _ _)) (@ai _ _ _ _)) (@ph _ _ _ _)) (@AD _ _ _ _ _ _ rfl (@d9 _ _ _ _ _ (@cP _ _ 7 _ nd rfl (zas rfl) (by first |rfl |exact .inl rfl |exact .inr rfl |decide |(intro _;rfl) |assumption)) (@d9 _ _ _ _ _ (@cP _ _ 8 _ nd rfl (zas rfl) (by first |rfl |exact .inl rfl |exact .inr rfl |decide |(intro _;rfl) |assumption)) (@se _) (by first |rfl |exact .inl rfl |exact .inr rfl |decide |(intro _;rfl) |assumption)) (by first |rfl |exact .inl rfl |exact .inr rfl |decide |(intro _;rfl) |assumption)) (by first |rfl |exact .inl rfl |exact .inr rfl |decide |(intro _;rfl) |assumption) (by first |rfl |exact .inl rfl |exact .inr rfl |decide |(intro _;rfl) |assumption)) (by first |rfl |exact .inl rfl |exact .inr rfl |decide |(intro _;rfl) |assumption) (by first |rfl |exact .inl rfl |exact .inr rfl |decide |(intro _;rfl) |assumption) (by first |rfl |exact .inl rfl |exact .inr rfl |decide |(intro _;rfl) |assumption)) (@ak _ _ _ (@aW _ _ _ _ (@aL _ _ _ _ (@aa _ _ _ _ _ (pv 7) (@aa _ _ _ _ _ (@ax _ _ _ _) (@aa _ _ _ _ _ (pv 8) (@aa _ _ _ _ _ (@zB _ _ _ _) (@af _) (@aB _ _ _ _ _)) (@ah _ _ _ _)) (@aB _ _ _ _ _)) (@ah _ _ _ _))))))))))))))))))),rfl,?_⟩;have line:zdc=2 ^ 24:=rfl;refine aM fun U1 Ag=>?_;walk_at "rd";refine⟨c,80,rfl,by decide,by decide,(Ag _ _).mpr (aM fun U2 rY=>?_)⟩;clear Ag;obtain⟨n0,_⟩:=wB c 80;generalize stir c 80=num at *;walk_at "rd";refine⟨c,81,rfl,by decide,by decide,(rY _ _).mpr (aM fun U3 qN=>?_)⟩;clear rY;obtain⟨YH,_⟩:=wB c 81;generalize stir c 81=Qg at *;walk_at "rd";refine(qN _ _).mpr (aM fun U4 sZ=>?_);clear qN;generalize num%16=kd at *;walk_at "rd";intro g1 f1;have YI:([V.str (zaa "a"),V.str (zaa "ab"),V.str (zaa "b"),V.str (zaa "a"),V.str (zaa "ab"),V.str (zaa "b"),V.str (zaa "zz"),V.str (zaa "abcd")]:List V)=tj.map sv:=by decide +kernel
 rw[YI];obtain⟨v1,Vw,a1⟩:=my (L:=tj.map sv) (n:=8) rfl (by decide) Qg;obtain⟨one,h1,rfl⟩:=zaT.mp Vw;refine aO (.of ae) a1 ((sZ _ _).mpr (aM fun U5 tf=>?_));clear sZ;have s1:=aq.new f1 (.lst (tj.map sv));generalize upd H g1 _=H1 at *;walk_at "rd";intro g2 f2;have YJ:([V.str (zaa "a"),V.str (zaa "abc"),V.str (zaa "b"),V.str (zaa "a"),V.str (zaa "a"),V.str (zaa "b"),V.str (zaa "c"),V.str (zaa "aa")]:List V)=rO.map sv:=by decide +kernel
 rw[YJ];obtain⟨v2,Tw,a2⟩:=my (L:=rO.map sv) (n:=8) rfl (by decide) (Qg/8);obtain⟨dS,h2,rfl⟩:=zaT.mp Tw;refine aO (.of ae) a2 ((tf _ _).mpr (aM fun U6 LY=>?_));clear tf;have s2:=s1.trans (aq.new f2 (.lst (rO.map sv)));generalize upd H1 g2 _=H2 at *;have lo:one.length<=8:=by
  have all:∀n∈tj,n.length<=8:=by decide
  exact all one h1
 have lt:dS.length<=8:=by
  have all:∀n∈rO,n.length<=8:=by decide
  exact all dS h2
 have fin:∀(z:Str) (k:W) (ns:List W) (n l:zc4) (H':Hp),aq H H'->uR z k ns=true->H' n=some (.lst (ns.map sv))->H' l=some (.lst [.str z,sv k,.ref n,.bl true])->Q (.ref l) H':=by
  intro z k ns n l H' s' hz yn yl;obtain⟨f,e1,e2,e3,e4,e5,e6⟩:=PX hz;refine q l z.cps.toList f H' s' ⟨e1,e5,e6⟩ ⟨n,?_,?_⟩
  ·rw[yl,e2,e4];rfl
  ·rw[yn,e3]
 walk_at "rd";refine bq (fun k4=>?_) (fun k4=>?_)
 ·exact⟨Qg,rfl,YH,fun l w f H' s'=>q l w f H' (s2.trans s')⟩
 refine(LY _ _).mpr (aM fun U7 SA=>?_);clear LY;walk_at "rd";refine bq (fun k7=>?_) (fun k7=>?_)
 ·have c2:uR (zaa "if 0 < 1*"++S dS) PM.cX [dS]=true:=by
   have all:∀b∈rO,uR (zaa "if 0 < 1*"++S b) PM.cX [b]=true:=by decide +kernel
   exact all dS h2
  have c3:uR (zaa "if "++S one++zaa " = 2*("++S dS++zaa "-1)") PM.cX [one,dS]=true:=by
   have all:∀a∈tj,∀b∈rO,uR (zaa "if "++S a++zaa " = 2*("++S b++zaa "-1)") PM.cX [a,b]=true:=by decide +kernel
   exact all one h1 dS h2
  have l1:(S one).length<=8:=by rw[ez];exact lo
  have l2:(S dS).length<=8:=by rw[ez];exact lt
  have q1:(zaa "if 0 < 1*").length<=20:=by decide +kernel
  have q2:(zaa "if ").length<=20:=by decide +kernel
  have q3:(zaa " = 2*(").length<=20:=by decide +kernel
  have q4:(zaa "-1)").length<=20:=by decide +kernel
  intro ga YK gb YL;have YM:=aq.new YK (.lst []);have WA:=aq.new YL (.lst [.str (zaa "if 1 < 2"),.ref ga]);have p3:fP (upd (upd H2 ga (.lst [])) gb (.lst [.str (zaa "if 1 < 2"),.ref ga])) PM.cX (.ref gb):=⟨gb,_,ga,[],rfl,ae,WA _ _ ae,by decide +kernel⟩
  have s3:=YM.trans WA;generalize upd (upd H2 ga (.lst [])) gb (.lst [.str (zaa "if 1 < 2"),.ref ga])=H3 at *;refine⟨_,S dS,rfl,rfl,by lia,?_⟩;intro gc YN gd YO;have YQ:=aq.new YN (.lst [sv dS]);have WB:=aq.new YO (.lst [.str (zaa "if 0 < 1*"++S dS),.ref gc]);have p4:fP (upd (upd H3 gc (.lst [sv dS])) gd (.lst [.str (zaa "if 0 < 1*"++S dS),.ref gc])) PM.cX (.ref gd):=⟨gd,_,gc,[dS],rfl,ae,WB _ _ ae,c2⟩
  have s4:=YQ.trans WB;generalize upd (upd H3 gc (.lst [sv dS])) gd (.lst [.str (zaa "if 0 < 1*"++S dS),.ref gc])=H4 at *;intro ge fe;have s5:=aq.new fe (.lst [.ref gb,.ref gd]);have y5:(upd H4 ge (.lst [.ref gb,.ref gd])) ge=some (.lst [.ref gb,.ref gd]):=ae;generalize upd H4 ge (.lst [.ref gb,.ref gd])=H5 at *;refine⟨.inl ⟨rfl,_,.of y5⟩,_,S one,rfl,rfl,by lia,_,_,rfl,rfl,by rw[strLen_append];lia,_,S dS,rfl,rfl,by rw[strLen_append,strLen_append];lia,_,_,rfl,rfl,by rw[strLen_append,strLen_append,strLen_append];lia,?_⟩;intro gf YR gh YS;have YT:=aq.new YR (.lst [sv one,sv dS]);have WC:=aq.new YS (.lst [.str (zaa "if "++S one++zaa " = 2*("++S dS++zaa "-1)"),.ref gf]);have p6:fP (upd (upd H5 gf (.lst [sv one,sv dS])) gh (.lst [.str (zaa "if "++S one++zaa " = 2*("++S dS++zaa "-1)"),.ref gf])) PM.cX (.ref gh):=⟨gh,_,gf,[one,dS],rfl,ae,WC _ _ ae,c3⟩
  have s6:=YT.trans WC;generalize upd (upd H5 gf (.lst [sv one,sv dS])) gh (.lst [.str (zaa "if "++S one++zaa " = 2*("++S dS++zaa "-1)"),.ref gf])=H6 at *;have Qh:∀v∈[V.ref gb,V.ref gd,V.ref gh],fP H6 PM.cX v:=fun v hv=>by
   simp only[zak,zbr,or_false] at hv;rcases hv with rfl |rfl |rfl
   ·exact p3.mono (s4.trans (s5.trans s6))
   ·exact p4.mono (s5.trans s6)
   ·exact p6
  have y6:=s6 _ _ y5;refine⟨ge,_,_,rfl,rfl,y6,by show 2<zdc;decide,?_⟩;have u7:bM ge H6 (upd H6 ge (.lst ([V.ref gb,V.ref gd]++[V.ref gh]))):=(bM.refl _ _).put _;have y7:(upd H6 ge (.lst ([V.ref gb,V.ref gd]++[V.ref gh]))) ge=some (.lst ([V.ref gb,V.ref gd]++[V.ref gh])):=ae;generalize upd H6 ge (.lst ([V.ref gb,V.ref gd]++[V.ref gh]))=H7 at *;obtain⟨v,hv,av⟩:=my (L:=[V.ref gb,V.ref gd]++[V.ref gh]) (n:=3) rfl (by decide) (Qg/64);obtain⟨pp,z,n,ns,rfl,yp,yn,ck⟩:=Qh v hv;have YU:pp≠ge:=fun e=>by
   rw[e,y6] at yp;cases yp
  have nn:n≠ge:=fun e=>by
   rw[e,y6] at yn;have z:=HO.lst.inj (zav.inj yn);cases ns with
   |nil=>cases z
   |cons a r=>exact V.noConfusion (List.cons.inj z).1
  have s7:aq H H7:=fun b o e=>u7 b o (aD ((s2.trans (s3.trans s4)) _ _ e) fe) ((s2.trans (s3.trans (s4.trans (s5.trans s6)))) _ _ e);show Mn K (V.ref ge) (V.int (Qg/64%3)) H7 _;refine aO (.of y7) av ⟨pp,_,rfl,.of (u7 _ _ YU yp),rfl,_,_,rfl,_,_,rfl,rfl,fun p fp=>?_⟩;exact fin z PM.cX ns n p _ (s7.trans (aq.new fp _)) ck (aq.new fp _ _ _ (u7 _ _ nn yn)) (by rw[ae,yK];rfl)
 refine(SA _ _).mpr (aM fun U8 SD=>?_);clear SA;walk_at "rd";refine bq (fun k8=>?_) (fun k8=>?_)
 ·have c2:∀sg∈([[60],[61]]:List W),uR (zaa "while "++S one++zaa " "++S sg++zaa " 1+"++S dS++zaa "+1") PM.aJ [one,dS]=true:=by
   have all:∀a∈tj,∀b∈rO,∀sg∈([[60],[61]]:List W),uR (zaa "while "++S a++zaa " "++S sg++zaa " 1+"++S b++zaa "+1") PM.aJ [a,b]=true:=by decide +kernel
   exact all one h1 dS h2
  have l1:(S one).length<=8:=by rw[ez];exact lo
  have l2:(S dS).length<=8:=by rw[ez];exact lt
  have q1:(zaa "while ").length<=20:=by decide +kernel
  have q2:(zaa " ").length<=20:=by decide +kernel
  have q3:(zaa " 1+").length<=20:=by decide +kernel
  have q4:(zaa "+1").length<=20:=by decide +kernel
  have el:(zaa "<=").cps.toList=[60,61]:=by decide +kernel
  obtain⟨sg,UO,asg⟩:=my (L:=([60,61]:List Nat)) (n:=2) rfl (by decide) (Qg/64);have l3:(⟨#[sg]⟩:Str).length<=20:=by show 1<=20;decide
  have ck:=c2 [sg] (by simpa using UO);refine⟨_,_,sg,rfl,rfl,by decide +kernel,by rw[el];exact asg,?_⟩;refine⟨_,S one,rfl,rfl,by lia,_,_,rfl,rfl,by rw[strLen_append];lia,_,_,rfl,rfl,by rw[strLen_append,strLen_append];lia,_,_,rfl,rfl,by rw[strLen_append,strLen_append,strLen_append];lia,_,S dS,rfl,rfl,by rw[strLen_append,strLen_append,strLen_append,strLen_append];lia,_,_,rfl,rfl,by rw[strLen_append,strLen_append,strLen_append,strLen_append,strLen_append];lia,?_⟩;intro ga fa gb fb;have sb:=aq.new fb (.lst [V.str (zaa "while "++S one++zaa " "++⟨#[sg]⟩++zaa " 1+"++S dS++zaa "+1"),V.str (zaa "while"),V.ref ga,V.bl true]);exact fin _ PM.aJ [one,dS] ga gb _ (s2.trans ((aq.new fa _).trans sb)) ck (sb _ _ ae) (by rw[ae,dv];rfl)
 refine(SD _ _).mpr (aM fun U9 SE=>?_);clear SD;walk_at "rd";refine bq (fun k9=>?_) (fun k9=>?_)
 ·intro ga fa gb fb;have sb:=aq.new fb (.lst [V.str (zaa "else"),V.str (zaa "else"),V.ref ga,V.bl true]);exact fin (zaa "else") PM.bV [] ga gb _ (s2.trans ((aq.new fa _).trans sb)) (by decide +kernel) (sb _ _ ae) (by rw[ae,kH];rfl)
 refine(SE _ _).mpr (aM fun Z8 SF=>?_);clear SE;walk_at "rd";refine bq (fun Vs=>?_) (fun Vs=>?_)
 ·intro ga fa gb fb;have sb:=aq.new fb (.lst [V.str (zaa "end"),V.str (zaa "end"),V.ref ga,V.bl true]);exact fin (zaa "end") PM.cm [] ga gb _ (s2.trans ((aq.new fa _).trans sb)) (by decide +kernel) (sb _ _ ae) (by rw[ae,t7];rfl)
 refine(SF _ _).mpr (aM fun Z9 SG=>?_);clear SF;walk_at "rd";have YV:uR (zaa "ask "++S one) PM.aX [one]=true:=by
  have all:∀a∈tj,∀b∈rO,uR (zaa "ask "++S a) PM.aX [a]=true:=by decide +kernel
  exact all one h1 dS h2
 have YW:uR (zaa "put "++S one++zaa " 2*("++S dS++zaa "-1)") PM.aX [one,dS]=true:=by
  have all:∀a∈tj,∀b∈rO,uR (zaa "put "++S a++zaa " 2*("++S b++zaa "-1)") PM.aX [a,b]=true:=by decide +kernel
  exact all one h1 dS h2
 have YX:uR (zaa "say 7") PM.aX []=true:=by
  have all:∀a∈tj,∀b∈rO,uR (zaa "say 7") PM.aX []=true:=by decide +kernel
  exact all one h1 dS h2
 have YY:uR (zaa "stop") PM.aX []=true:=by
  have all:∀a∈tj,∀b∈rO,uR (zaa "stop") PM.aX []=true:=by decide +kernel
  exact all one h1 dS h2
 have YZ:uR (zaa "say "++S one++zaa "*"++S dS) PM.aX [one,dS]=true:=by
  have all:∀a∈tj,∀b∈rO,uR (zaa "say "++S a++zaa "*"++S b) PM.aX [a,b]=true:=by decide +kernel
  exact all one h1 dS h2
 have Y0:uR (zaa "must "++S one++zaa " = "++S dS) PM.aX [one,dS]=true:=by
  have all:∀a∈tj,∀b∈rO,uR (zaa "must "++S a++zaa " = "++S b) PM.aX [a,b]=true:=by decide +kernel
  exact all one h1 dS h2
 have Y1:uR (zaa "say "++S one++zaa "+1+"++S dS++zaa "*2") PM.aX [one,dS]=true:=by
  have all:∀a∈tj,∀b∈rO,uR (zaa "say "++S a++zaa "+1+"++S b++zaa "*2") PM.aX [a,b]=true:=by decide +kernel
  exact all one h1 dS h2
 have Y2:uR (zaa "must 1+("++S one++zaa "-2) < 3") PM.aX [one]=true:=by
  have all:∀a∈tj,∀b∈rO,uR (zaa "must 1+("++S a++zaa "-2) < 3") PM.aX [a]=true:=by decide +kernel
  exact all one h1 dS h2
 have z0:(zaa " 2*(").length<=20:=by decide +kernel
 have z1:(zaa " = ").length<=20:=by decide +kernel
 have z2:(zaa "*").length<=20:=by decide +kernel
 have z3:(zaa "*2").length<=20:=by decide +kernel
 have z4:(zaa "+1+").length<=20:=by decide +kernel
 have z5:(zaa "-1)").length<=20:=by decide +kernel
 have z6:(zaa "-2) < 3").length<=20:=by decide +kernel
 have z7:(zaa "ask ").length<=20:=by decide +kernel
 have z8:(zaa "must ").length<=20:=by decide +kernel
 have z9:(zaa "must 1+(").length<=20:=by decide +kernel
 have z10:(zaa "put ").length<=20:=by decide +kernel
 have z11:(zaa "say ").length<=20:=by decide +kernel
 have z12:(zaa "say 7").length<=20:=by decide +kernel
 have z13:(zaa "stop").length<=20:=by decide +kernel
 have l1:(S one).length<=8:=by rw[ez];exact lo
 have l2:(S dS).length<=8:=by rw[ez];exact lt
 refine⟨_,S one,rfl,rfl,by lia,?_⟩;intro a0 Y3 b0 Vx;have Y4:=aq.new Y3 (.lst [sv one]);have WD:=aq.new Vx (.lst [.str (zaa "ask "++S one),.ref a0]);have p0:fP (upd (upd H2 a0 (.lst [sv one])) b0 (.lst [.str (zaa "ask "++S one),.ref a0])) PM.aX (.ref b0):=⟨b0,_,a0,[one],rfl,ae,WD _ _ ae,YV⟩
 have r0:=Y4.trans WD;generalize upd (upd H2 a0 (.lst [sv one])) b0 (.lst [.str (zaa "ask "++S one),.ref a0])=K0 at *;refine⟨_,S one,rfl,rfl,by lia,_,_,rfl,rfl,by rw[strLen_append];lia,_,S dS,rfl,rfl,by rw[strLen_append,strLen_append];lia,_,_,rfl,rfl,by rw[strLen_append,strLen_append,strLen_append];lia,?_⟩;intro a1 Y5 b1 Y6;have Y7:=aq.new Y5 (.lst [sv one,sv dS]);have WE:=aq.new Y6 (.lst [.str (zaa "put "++S one++zaa " 2*("++S dS++zaa "-1)"),.ref a1]);have p1:fP (upd (upd K0 a1 (.lst [sv one,sv dS])) b1 (.lst [.str (zaa "put "++S one++zaa " 2*("++S dS++zaa "-1)"),.ref a1])) PM.aX (.ref b1):=⟨b1,_,a1,[one,dS],rfl,ae,WE _ _ ae,YW⟩
 have r1:=Y7.trans WE;generalize upd (upd K0 a1 (.lst [sv one,sv dS])) b1 (.lst [.str (zaa "put "++S one++zaa " 2*("++S dS++zaa "-1)"),.ref a1])=K1 at *;intro a2 Y8 b2 Y9;have Za:=aq.new Y8 (.lst []);have WG:=aq.new Y9 (.lst [.str (zaa "say 7"),.ref a2]);have p2:fP (upd (upd K1 a2 (.lst [])) b2 (.lst [.str (zaa "say 7"),.ref a2])) PM.aX (.ref b2):=⟨b2,_,a2,[],rfl,ae,WG _ _ ae,YX⟩
 have r2:=Za.trans WG;generalize upd (upd K1 a2 (.lst [])) b2 (.lst [.str (zaa "say 7"),.ref a2])=K2 at *;intro a3 Zb b3 Zc;have Zd:=aq.new Zb (.lst []);have WH:=aq.new Zc (.lst [.str (zaa "stop"),.ref a3]);have p3:fP (upd (upd K2 a3 (.lst [])) b3 (.lst [.str (zaa "stop"),.ref a3])) PM.aX (.ref b3):=⟨b3,_,a3,[],rfl,ae,WH _ _ ae,YY⟩
 have r3:=Zd.trans WH;generalize upd (upd K2 a3 (.lst [])) b3 (.lst [.str (zaa "stop"),.ref a3])=K3 at *;intro m1 Ze;have WI:=aq.new Ze (.lst [.ref b0,.ref b1,.ref b2,.ref b3]);have Zf:(upd K3 m1 (.lst [.ref b0,.ref b1,.ref b2,.ref b3])) m1=some (.lst [.ref b0,.ref b1,.ref b2,.ref b3]):=ae;generalize upd K3 m1 (.lst [.ref b0,.ref b1,.ref b2,.ref b3])=M1 at *;refine(SG _ _).mpr (aM fun U12 SH=>?_);clear SG;walk_at "rd";refine⟨_,S one,rfl,rfl,by lia,_,_,rfl,rfl,by rw[strLen_append];lia,_,S dS,rfl,rfl,by rw[strLen_append,strLen_append];lia,?_⟩;intro a4 Zg b4 Zh;have Zi:=aq.new Zg (.lst [sv one,sv dS]);have WJ:=aq.new Zh (.lst [.str (zaa "say "++S one++zaa "*"++S dS),.ref a4]);have p4:fP (upd (upd M1 a4 (.lst [sv one,sv dS])) b4 (.lst [.str (zaa "say "++S one++zaa "*"++S dS),.ref a4])) PM.aX (.ref b4):=⟨b4,_,a4,[one,dS],rfl,ae,WJ _ _ ae,YZ⟩
 have r4:=Zi.trans WJ;generalize upd (upd M1 a4 (.lst [sv one,sv dS])) b4 (.lst [.str (zaa "say "++S one++zaa "*"++S dS),.ref a4])=K4 at *;refine⟨_,S one,rfl,rfl,by lia,_,_,rfl,rfl,by rw[strLen_append];lia,_,S dS,rfl,rfl,by rw[strLen_append,strLen_append];lia,?_⟩;intro a5 Zj b5 Zk;have Zl:=aq.new Zj (.lst [sv one,sv dS]);have WK:=aq.new Zk (.lst [.str (zaa "must "++S one++zaa " = "++S dS),.ref a5]);have p5:fP (upd (upd K4 a5 (.lst [sv one,sv dS])) b5 (.lst [.str (zaa "must "++S one++zaa " = "++S dS),.ref a5])) PM.aX (.ref b5):=⟨b5,_,a5,[one,dS],rfl,ae,WK _ _ ae,Y0⟩
 have r5:=Zl.trans WK;generalize upd (upd K4 a5 (.lst [sv one,sv dS])) b5 (.lst [.str (zaa "must "++S one++zaa " = "++S dS),.ref a5])=K5 at *;intro m2 Zm;have Vy:=aq.new Zm (.lst [.ref b4,.ref b5]);have Zn:(upd K5 m2 (.lst [.ref b4,.ref b5])) m2=some (.lst [.ref b4,.ref b5]):=ae;generalize upd K5 m2 (.lst [.ref b4,.ref b5])=M2 at *;refine Ah ((r4.trans (r5.trans Vy)) _ _ Zf) Zn (by show 6<=zdc;decide) fun m3 Zo=>?_;have WL:=aq.new Zo (.lst ([V.ref b0,V.ref b1,V.ref b2,V.ref b3]++[V.ref b4,V.ref b5]));have Zp:(upd M2 m3 (.lst ([V.ref b0,V.ref b1,V.ref b2,V.ref b3]++[V.ref b4,V.ref b5]))) m3=some (.lst ([V.ref b0,V.ref b1,V.ref b2,V.ref b3]++[V.ref b4,V.ref b5])):=ae;generalize upd M2 m3 (.lst ([V.ref b0,V.ref b1,V.ref b2,V.ref b3]++[V.ref b4,V.ref b5]))=M3 at *;refine(SH _ _).mpr (aM fun U13 SI=>?_);clear SH;walk_at "rd";refine⟨_,S one,rfl,rfl,by lia,_,_,rfl,rfl,by rw[strLen_append];lia,_,S dS,rfl,rfl,by rw[strLen_append,strLen_append];lia,_,_,rfl,rfl,by rw[strLen_append,strLen_append,strLen_append];lia,?_⟩;intro a6 Zq b6 Zr;have Zs:=aq.new Zq (.lst [sv one,sv dS]);have WM:=aq.new Zr (.lst [.str (zaa "say "++S one++zaa "+1+"++S dS++zaa "*2"),.ref a6]);have p6:fP (upd (upd M3 a6 (.lst [sv one,sv dS])) b6 (.lst [.str (zaa "say "++S one++zaa "+1+"++S dS++zaa "*2"),.ref a6])) PM.aX (.ref b6):=⟨b6,_,a6,[one,dS],rfl,ae,WM _ _ ae,Y1⟩
 have r6:=Zs.trans WM;generalize upd (upd M3 a6 (.lst [sv one,sv dS])) b6 (.lst [.str (zaa "say "++S one++zaa "+1+"++S dS++zaa "*2"),.ref a6])=K6 at *;refine⟨_,S one,rfl,rfl,by lia,_,_,rfl,rfl,by rw[strLen_append];lia,?_⟩;intro a7 Zt b7 Zu;have Zv:=aq.new Zt (.lst [sv one]);have WN:=aq.new Zu (.lst [.str (zaa "must 1+("++S one++zaa "-2) < 3"),.ref a7]);have p7:fP (upd (upd K6 a7 (.lst [sv one])) b7 (.lst [.str (zaa "must 1+("++S one++zaa "-2) < 3"),.ref a7])) PM.aX (.ref b7):=⟨b7,_,a7,[one],rfl,ae,WN _ _ ae,Y2⟩
 have r7:=Zv.trans WN;generalize upd (upd K6 a7 (.lst [sv one])) b7 (.lst [.str (zaa "must 1+("++S one++zaa "-2) < 3"),.ref a7])=K7 at *;intro m4 Zw;have Vz:=aq.new Zw (.lst [.ref b6,.ref b7]);have Zx:(upd K7 m4 (.lst [.ref b6,.ref b7])) m4=some (.lst [.ref b6,.ref b7]):=ae;generalize upd K7 m4 (.lst [.ref b6,.ref b7])=M4 at *;refine Ah ((r6.trans (r7.trans Vz)) _ _ Zp) Zx (by show 8<=zdc;decide) fun m5 Zy=>?_;have WO:=aq.new Zy (.lst ([V.ref b0,V.ref b1,V.ref b2,V.ref b3]++[V.ref b4,V.ref b5]++[V.ref b6,V.ref b7]));have Zz:(upd M4 m5 (.lst ([V.ref b0,V.ref b1,V.ref b2,V.ref b3]++[V.ref b4,V.ref b5]++[V.ref b6,V.ref b7]))) m5=some (.lst ([V.ref b0,V.ref b1,V.ref b2,V.ref b3]++[V.ref b4,V.ref b5]++[V.ref b6,V.ref b7])):=ae;generalize upd M4 m5 (.lst ([V.ref b0,V.ref b1,V.ref b2,V.ref b3]++[V.ref b4,V.ref b5]++[V.ref b6,V.ref b7]))=M5 at *;refine(SI _ _).mpr ?_;clear SI;walk_at "rd";have e7:=r7.trans (Vz.trans WO);have e6:=r6.trans e7;have e5:=r5.trans (Vy.trans (WL.trans e6));have e4:=r4.trans e5;have e3:=r3.trans (WI.trans e4);have e2:=r2.trans e3;have e1:=r1.trans e2;have e0:=r0.trans e1;have Qh:∀v∈([V.ref b0,V.ref b1,V.ref b2,V.ref b3]++[V.ref b4,V.ref b5]++[V.ref b6,V.ref b7]),fP M5 PM.aX v:=fun v hv=>by
  simp only[zaY,za1,zak,zbr,or_false] at hv;rcases hv with rfl |rfl |rfl |rfl |rfl |rfl |rfl |rfl
  ·exact p0.mono e1
  ·exact p1.mono e2
  ·exact p2.mono e3
  ·exact p3.mono (WI.trans e4)
  ·exact p4.mono e5
  ·exact p5.mono (Vy.trans (WL.trans e6))
  ·exact p6.mono e7
  ·exact p7.mono (Vz.trans WO)
 obtain⟨v,hv,av⟩:=my (L:=[V.ref b0,V.ref b1,V.ref b2,V.ref b3]++[V.ref b4,V.ref b5]++[V.ref b6,V.ref b7]) (n:=8) rfl (by decide) (Qg/64);obtain⟨pp,z,n,ns,rfl,yp,yn,ck⟩:=Qh v hv;refine aO (.of Zz) av ⟨pp,_,rfl,.of yp,rfl,_,_,rfl,_,_,rfl,rfl,fun p fp=>?_⟩;exact fin z PM.aX ns n p _ (s2.trans (e0.trans (aq.new fp _))) ck (aq.new fp _ _ _ yn) (by rw[ae,show zaa "plain"=S PM.aX by decide +kernel];rfl)
theorem Qi(T:Tx K mg t):bC P w K mg base lS 1 t.kW t.mj ["state", "row"] (KU K):=by
 refine T.iM.F.wu uZ (fun vs H Q E h=>?_) (fun dW A outer s H vs Q E hr h=>?_)
 ·obtain⟨_,_,_,_,_,_,_,_,_,_,rfl,_⟩:=h;rfl
 obtain⟨st,o,n,b,r,op,d,c0,wd,f,rfl,sl,⟨nl,yr,Nm⟩,pC,q⟩:=h;have nd:=uZ.nd;refine⟨_,[some (.ref st),some (.ref r),none,none,none],(ag (tP (pv 0) (AD rfl (d9 (cP (i:=2) nd rfl (zas rfl)) (d9 (cP (i:=3) nd rfl (zcN rfl)) (d9 (cP (i:=4) nd rfl (zas rfl)) se)))))
 (ag (ba (PW.pt (pw_or (PW.pt (pw_and (aC bY (aZ aT (pv 1) ai aE) ax (aP _)) (pw_and1 (aC (zS (zK hr)) (pv 4) (aL af) (aP _))))) (pw_or1 (PW.pt (pw_and (aC bY (aZ aT (pv 1) ai aE) ax (aP _)) (pw_and1 (aC (Pq (RO hr)) (sj Fp (pv 2) (vI (zC tQ ai)) vH) (aL (aa ax af aB)) (aP _))))))))
 (ak (aW ai))
 aI)
 (ag (ba (PW.pt (pw_and (aC bY (aZ aT (pv 1) ai aE) ax (aP _)) (pw_and1 (aC (qp (zK hr)) (pv 2) (aL af) (aP _)))))
 (ak (aW ai))
 aI)
 (ag (ba (PW.pt (pw_and (aC gO (aZ aT (pv 1) ai aE) (aL (cU (vs:=[.str "if",.str "while"]) (by kernel_rfl))) rfl) (pw_and1 (aC BH (br cQ rfl T.mw PyProof.Rows.Boot.«len» (aa (pv 2) af ah)) ai (aP _)))))
 (ak (aW ai))
 aI)
 (ag (ba (PW.pt (pw_and (aC bY (aZ aT (pv 1) ai aE) ax (aP _)) (pw_and1 (tN (oZ (aZ aT (pv 1) ai aE))))))
 (ak (aW ai))
 aI)
 (ag (ba (aC bY (aZ aT (pv 1) ai aE) ax (aP _))
 (ak (aW (aZ aT (aL (aa (aZ aT (aL (cU (vs:=[.int 0,.int 7]) (by kernel_rfl))) (gN px rfl T.xB PyProof.Rows.Boot.«int» (aa (fC bY (br cQ rfl T.mw PyProof.Rows.Boot.«len» (aa (pv 3) af ah)) ai (aP _)) af D9)) Ay) (aa ai af aB) b9)) (gN px rfl T.xB PyProof.Rows.Boot.«int» (aa (fC gO (aZ aT (aZ aT (pv 1) ai aE) ai aE) (pv 3) rfl) af D9)) Ay)))
 aI)
 (ak (aW (aZ aT (aL (cU (vs:=[.int 8,.int 0]) (by kernel_rfl))) (gN px rfl T.xB PyProof.Rows.Boot.«int» (aa (fC (qp (zK hr)) (vJ (own:=["name"]) (ix:=[3]) rfl (by rfl) (by rfl) (vF (aZ aT (pv 1) ai aE)) (fun _ _ _ _=>(cP (i:=0) (by show List.Nodup (["name", "names"]:List Str);decide +kernel) rfl (zas rfl))) (fun _ _ _ _=>(Mw (aC (GS (K:=K) rfl) (pv 0) (pv 1) rfl))) (fun _ _ _ _=>(pv 0))) (aL af) (aP _)) af D9)) Ay))))))))),rfl,?_⟩
 have line:zdc=2 ^ 24:=rfl;have lk:d.dY.length=op.length:=by rw[sl.ek,zae]
 have l5:=sl.l5;rw[KW pC (by lia)] at q;obtain⟨bw,yb,WQ,lb⟩:=sl.yb;obtain⟨bs,VA⟩:∃bs:List V,bs=bw.map sv:=⟨_,rfl⟩
 rw[<- VA] at yb;have hb:bs=[]↔d.Cr=false:=by rw[VA,zbL];exact WQ
 clear WQ lb VA;have Qj:∀ {H':Hp} {R:VK},aq H H'->R (sv (PM.aA f)) H'->Mn K (.ref r) (.int 1) H' R:=fun s q=>aO (.of (s _ _ yr)) (v:=sv (PM.aA f)) (aF (j:=1) rfl) q;refine aM fun U1 Ag=>?_;walk_at "rd";refine⟨st,_,rfl,.of sl.at_,rfl,_,_,rfl,_,_,rfl,_,_,rfl,rfl,(Ag _ _).mpr (aM fun U2 rY=>?_)⟩;clear Ag;have rest:∀H1,aq H H1->¬((PM.aA f=PM.cO/\d.Cr=true)\/(PM.aA f=PM.bV/\d.dY.getLast?≠some true))->U2 [some (.ref st),some (.ref r),some (.ref o),some (.ref n),some (.ref b)] H1:=by
  intro H1 s1 n1;rw[if_neg n1] at q;refine(rY _ _).mpr (aM fun U3 qN=>?_);clear rY;have Oc:∀H1,aq H H1->¬(PM.aA f=PM.cm/\d.dY=[])->U3 [some (.ref st),some (.ref r),some (.ref o),some (.ref n),some (.ref b)] H1:=by
   intro H1 s1 n2;rw[if_neg n2] at q;refine(qN _ _).mpr (aM fun U4 sZ=>?_);clear qN;have Od:∀H1,aq H H1->¬((PM.aA f=PM.cX\/PM.aA f=PM.aJ)/\4<d.dY.length)->U4 [some (.ref st),some (.ref r),some (.ref o),some (.ref n),some (.ref b)] H1:=by
    intro H1 s1 n3;rw[if_neg n3] at q;refine(sZ _ _).mpr (aM fun U5 tf=>?_);clear sZ;have Oe:∀H1,aq H H1->¬(PM.aA f=PM.cO/\PM.Na f=false)->U5 [some (.ref st),some (.ref r),some (.ref o),some (.ref n),some (.ref b)] H1:=by
     intro H1 s1 n4;rw[if_neg n4] at q;refine(tf _ _).mpr (aM fun U6 LY=>?_);clear tf;have VB:∀H1,aq H H1->PM.aA f≠PM.cO->U6 [some (.ref st),some (.ref r),some (.ref o),some (.ref n),some (.ref b)] H1:=by
      intro H1 s1 n5;rw[if_neg n5] at q;refine(LY _ _).mpr ?_;clear LY;walk_at "rd";intro p fp;have sp:=aq.new fp (.lst [V.int 8,V.int 0]);have yp:(upd H1 p (.lst [V.int 8,V.int 0])) p=some (.lst [V.int 8,V.int 0]):=ae;generalize upd H1 p (.lst [V.int 8,V.int 0])=H2 at *;have s2:=s1.trans sp;refine⟨r,_,2,.ref nl,rfl,rfl,gW.of (s2 _ _ yr),rfl,nl,rfl,⟨_,.of (s2 _ _ Nm)⟩,fun D hD=>?_⟩;have keep:∀ys,gW K (upd H2 D (.lst ys)) nl ((PM.vS f).map sv):=fun ys=>gW.of ((s2.trans (aq.new hD _)) _ _ Nm);have LV:(PM.vS f).length<=300:=by
       cases f with
       |box n a b=>show 1<=300;decide
       |one k=>show 0<=300;decide
       |ask x=>show 1<=300;decide
       |put x e=>exact zaA (w9 (f:=.put x e) pC) (by decide)
       |say e=>exact zaA (w9 (f:=.say e) pC) (by decide)
       |cond k sg x y=>exact zaA (w9 (f:=.cond k sg x y) pC) (by decide)
      refine zT ((PM.vS f).map sv) (fun v=>!Il v (d.jL.map sv)) id (by rw[zae];lia) (fun i ys hi=>⟨_,_,keep ys,zah hi⟩) (fun i ys x H' hi y=>⟨y.1,y.2 _ (keep ys)⟩) (fun ys=>⟨_,keep ys,zai _⟩) (fun x hx ys R hR=>?_) (fun x hx _ ys R hR=>hR) ?_
      ·obtain⟨u,hu,rfl⟩:=zaT.mp hx;walk_at "rd";refine⟨n,_,rfl,.inl (.of ((s2.trans (aq.new hD _)) _ _ sl.yn)),rfl,by rw[zb3];exact za2.mpr fun _ _=>rfl,_,rfl,?_⟩;rw[if_pos rfl];exact hR
      ·have s3:=s2.trans (aq.new hD (.lst ((((PM.vS f).map sv).filter fun v=>!Il v (d.jL.map sv)).map id)));have yD:(upd H2 D (.lst ((((PM.vS f).map sv).filter fun v=>!Il v (d.jL.map sv)).map id))) D=some (.lst ((((PM.vS f).map sv).filter fun v=>!Il v (d.jL.map sv)).map id)):=ae;have WR:=aq.new hD (.lst ((((PM.vS f).map sv).filter fun v=>!Il v (d.jL.map sv)).map id)) _ _ yp;generalize upd H2 D (.lst ((((PM.vS f).map sv).filter fun v=>!Il v (d.jL.map sv)).map id))=H3 at *;intro g fg;have sg:=aq.new fg (.lst []);have yg:(upd H3 g (.lst [])) g=some (.lst []):=ae;generalize upd H3 g (.lst [])=H4 at *;refine⟨D,g,_,rfl,rfl,.of (sg _ _ yD),.of yg,_,rfl,?_⟩;have ei:((((PM.vS f).map sv).filter fun v=>!Il v (d.jL.map sv)).map id).isEmpty=decide (∀x∈PM.vS f,x∈d.jL):=by
        rw[List.map_id,zbb,zcy,List.filter_eq_nil_iff,decide_eq_true_eq]
        constructor
        ·intro h x hx;have:=h (sv x) (zaT.mpr ⟨x,hx,rfl⟩);rw[in_words] at this;exact zax.mp (by simpa using this)
        ·intro h v hv;obtain⟨x,hx,rfl⟩:=zaT.mp hv;rw[in_words,zax.mpr (h x hx)];decide
       rw[ei];have q4:=q H4 (s3.trans sg);by_cases ha:∀x∈PM.vS f,x∈d.jL
       ·rw[if_pos ha] at q4;rw[if_pos (decide_eq_true ha)];exact aO (.of (sg _ _ WR)) (v:=.int 0) rfl q4
       ·rw[if_neg ha] at q4;rw[if_neg (fun z=>ha (of_decide_eq_true z))];exact aO (.of (sg _ _ WR)) (v:=.int 8) rfl q4
     walk_at "rd";refine Qj s1 ⟨rfl,bq (fun h1=>?_) (fun h1=>VB H1 s1 fun z=>h1 ((bt jQ).mpr z))⟩;have e1:=(bt jQ).mp h1;obtain⟨x,hx⟩:∃x,PM.vS f=[x]:=by
      cases f with
      |box n a b=>exact⟨n,rfl⟩
      |ask n=>exact absurd (show PM.aX=PM.cO from e1) (by decide)
      |put n e=>exact absurd (show PM.aX=PM.cO from e1) (by decide)
      |say e=>exact absurd (show PM.aX=PM.cO from e1) (by decide)
      |cond k sg x y=>
       have hk:k=PM.gR\/k=PM.cX\/k=PM.aJ:=pC.1;have e2:(if k=PM.gR then PM.aX else k)=PM.cO:=e1;rcases hk with h |h |h<;>subst h<;>exact absurd e2 (by decide)
      |one k=>
       have hk:k=PM.bV\/k=PM.cm\/k=PM.fI:=pC;have e2:(if k=PM.fI then PM.aX else k)=PM.cO:=e1;rcases hk with h |h |h<;>subst h<;>exact absurd e2 (by decide)
     rw[hx] at Nm;have qq:=q;rw[if_pos e1,hx] at qq;intro p fp;have sp:=aq.new fp (.lst [V.int 0,V.int 7]);have yp:(upd H1 p (.lst [V.int 0,V.int 7])) p=some (.lst [V.int 0,V.int 7]):=ae;generalize upd H1 p (.lst [V.int 0,V.int 7])=H2 at *;have s2:=s1.trans sp;refine⟨n,_,rfl,.inl (.of (s2 _ _ sl.yn)),_,rfl,?_⟩;rw[zae];obtain⟨c4,h4,a4⟩:∃c:Int,c=(if d.jL.length=4 then 7 else 0)/\Fn [V.int 0,V.int 7] (if decide ((d.jL.length:Int)=4)=true then 1 else 0)=some (V.int c):=by
      by_cases h:d.jL.length=4
      ·rw[if_pos h,if_pos (decide_eq_true (by rw[h];rfl))];exact⟨7,rfl,rfl⟩
      ·rw[if_neg h,if_neg (fun z=>h (by have:=of_decide_eq_true z;lia))];exact⟨0,rfl,rfl⟩
     refine aO (.of yp) a4 fun p2 VC=>?_;have SJ:=aq.new VC (.lst [V.int c4,V.int 5]);have TB:(upd H2 p2 (.lst [V.int c4,V.int 5])) p2=some (.lst [V.int c4,V.int 5]):=ae;generalize upd H2 p2 (.lst [V.int c4,V.int 5])=H3 at *;have s3:=s2.trans SJ;refine aO (.of (s3 _ _ yr)) (v:=.ref nl) (aF (j:=2) rfl) (aO (.of (s3 _ _ Nm)) (v:=sv x) (aF (j:=0) rfl) ?_);refine⟨n,_,rfl,.inl (.of (s3 _ _ sl.yn)),rfl,by rw[zb3];exact za2.mpr fun _ _=>rfl,_,rfl,?_⟩;rw[if_neg zad,in_words];have q3:=qq H3 s3;rw[zbD] at q3;by_cases hn:x∈d.jL
     ·rw[if_pos hn] at q3;rw[if_pos (zax.mpr hn)];exact aO (.of TB) (v:=.int 5) rfl q3
     ·rw[if_neg hn,<- h4] at q3;rw[if_neg (fun z=>hn (zax.mp z))];exact aO (.of TB) (v:=.int c4) rfl q3
    walk_at "rd";refine Qj s1 ⟨rfl,bq (fun h1=>?_) (fun h1=>?_)⟩
    ·refine aO (.of (s1 _ _ yr)) (v:=.bl (PM.Na f)) (aF (j:=3) rfl) ⟨_,rfl,?_⟩;cases hk:PM.Na f with
     |true=>
      rw[if_neg (show ¬(!true)=true by decide)];exact Oe H1 s1 fun z=>by rw[hk] at z;exact absurd z.2 (by decide)
     |false=>
      rw[if_pos (show (!false)=true from rfl)];have:=q H1 s1;rw[if_pos ⟨(bt jQ).mp h1,hk⟩] at this;exact this
    ·rw[if_neg zad];exact Oe H1 s1 fun z=>h1 ((bt jQ).mpr z.1)
   walk_at "rd";refine Qj s1 fun p fp=>?_;have sp:=aq.new fp (.lst [V.str (zaa "if"),V.str (zaa "while")]);have yp:(upd H1 p (.lst [V.str (zaa "if"),V.str (zaa "while")])) p=some (.lst [V.str (zaa "if"),V.str (zaa "while")]):=ae;have hl:([V.str (zaa "if"),V.str (zaa "while")]:List V)=[PM.cX,PM.aJ].map sv:=by rw[yK,dv];rfl
   generalize upd H1 p (.lst [V.str (zaa "if"),V.str (zaa "while")])=H2 at *;refine⟨p,_,rfl,.inl (.of yp),rfl,rfl,_,rfl,?_⟩;rw[hl,in_words,if_neg zad,if_neg zad];have Ir:=s1.trans sp;refine bq (fun hc=>?_) (fun hc=>Od H2 Ir fun z=>hc (by rw[zax];simpa using z.1));refine⟨o,_,rfl,.inl (.of (Ir _ _ sl.yo)),?_⟩;rw[zae];have hk:PM.aA f=PM.cX\/PM.aA f=PM.aJ:=by rw[zax] at hc;simpa using hc
   refine bq (fun h4=>?_) (fun h4=>Od H2 Ir fun z=>h4 (by have:=z.2;lia));have:=q H2 Ir;rw[if_pos ⟨hk,by lia⟩] at this;exact this
  walk_at "rd";refine Qj s1 ⟨rfl,bq (fun h1=>?_) (fun h1=>?_)⟩
  ·intro p fp;have sp:=aq.new fp (.lst []);have yp:(upd H1 p (.lst [])) p=some (.lst []):=ae;generalize upd H1 p (.lst [])=H2 at *;refine⟨o,p,_,rfl,rfl,.of (sp _ _ (s1 _ _ sl.yo)),.of yp,?_⟩;refine bq (fun he=>?_) (fun he=>Oc H2 (s1.trans sp) fun z=>he (by rw[List.isEmpty_map];have z2:=z.2;rw[sl.ek,zbL] at z2;rw[z2];rfl));have e0:op=[]:=by rw[List.isEmpty_map,zcy] at he;exact he
   have:=q H2 (s1.trans sp);rw[if_pos ⟨(bt t7).mp h1,by rw[sl.ek,e0];rfl⟩] at this;exact this
  ·rw[if_neg zad];exact Oc H1 s1 fun z=>h1 ((bt t7).mpr z.1)
 walk_at "rd";refine Qj (aq.refl _) ⟨rfl,bq (fun h1=>?_) (fun h1=>?_)⟩
 ·have e1:=(bt jQ).mp h1;intro p fp;have sp:=aq.new fp (.lst []);have yp:(upd H p (.lst [])) p=some (.lst []):=ae;generalize upd H p (.lst [])=H1 at *;refine⟨b,p,bs,rfl,rfl,.of (sp _ _ yb),.of yp,?_⟩;cases yV:d.Cr with
  |true=>
   have e:bs.isEmpty=false:=by
    cases bs with
    |nil=>exact absurd (hb.mp rfl) (by rw[yV];decide)
    |cons=>rfl
   rw[e,if_pos (show (!false)=true from rfl),if_pos trivial];have:=q H1 sp;rw[if_pos (.inl ⟨e1,yV⟩)] at this;exact this
  |false=>
   cases hb.mpr yV;rw[if_neg (show ¬(!([]:List V).isEmpty)=true by decide)];refine Qj sp ⟨rfl,bq (fun h2=>?_) (fun h2=>?_)⟩
   ·exact absurd (e1.symm.trans ((bt kH).mp h2)) (by decide)
   rw[if_neg zad];exact rest H1 sp fun z=>z.elim (fun z=>by rw[yV] at z;exact absurd z.2 (by decide)) fun z=>absurd (e1.symm.trans z.1) (by decide)
 rw[if_neg zad];have nb:PM.aA f≠PM.cO:=fun z=>h1 ((bt jQ).mpr z);refine Qj (aq.refl _) ⟨rfl,bq (fun h2=>?_) (fun h2=>?_)⟩
 ·have e2:=(bt kH).mp h2;refine⟨1,rfl, -1,rfl,o,_,rfl,.of sl.yo,fun p fp=>?_⟩;have ec:vc (op.map sv) (some (-1)) none=(op.drop (op.length-1)).map sv:=by
   unfold vc;have e1:HT.iB (op.map sv).length 0 (some (-1))=op.length-1:=by
    rw[zae];show (if (-1:Int)<0 then ((-1:Int)+(op.length:Int)).toNat else min (-1:Int).toNat op.length)=op.length-1;rw[if_pos (by decide)];lia
   rw[HT.BL,e1,<- List.map_drop,zbs (by rw[zae,zaV,zae];lia)]
  rw[ec];have sp:=aq.new fp (.lst ((op.drop (op.length-1)).map sv));have yp:(upd H p (.lst ((op.drop (op.length-1)).map sv))) p=some (.lst ((op.drop (op.length-1)).map sv)):=ae;generalize upd H p (.lst ((op.drop (op.length-1)).map sv))=H1 at *;intro p2 VC;have SJ:=aq.new VC (.lst [V.str (zaa "if")]);have TB:(upd H1 p2 (.lst [V.str (zaa "if")])) p2=some (.lst [V.str (zaa "if")]):=ae;generalize upd H1 p2 (.lst [V.str (zaa "if")])=H2 at *;have Ir:=sp.trans SJ;have WS:Rep K H2 (.lst [.str (zaa "if")]) (.ref p2):=Rep.jm.mpr ⟨p2,_,rfl,.of TB,.cons (Rep.bf.mpr rfl) .nil⟩;cases hl:op.getLast? with
  |none=>
   have e0:op=[]:=za6.mp hl;subst e0;have rp:Rep K H2 (.lst []) (.ref p):=Rep.jm.mpr ⟨p,_,rfl,.of (SJ _ _ yp),.nil⟩;refine⟨_,_,rp,WS,by decide +kernel,by decide +kernel,_,rfl,?_⟩;rw[show PyData.eqv (Dp.lst []).py (Dp.lst [Dp.str (zaa "if")]).py=false from rfl,if_pos rfl,if_pos (show (!false)=true from rfl)];have:=q H2 Ir;rw[if_pos (.inr ⟨e2,by rw[sl.ek];intro z;cases z⟩)] at this;exact this
  |some u=>
   obtain⟨ys,ey⟩:=zbz.mp hl;have ed:op.drop (op.length-1)=[u]:=by
    rw[ey,zaf,zau,Nat.add_sub_cancel,List.drop_left]
   rw[ed] at yp;have rp:Rep K H2 (.lst [.str (S u)]) (.ref p):=Rep.jm.mpr ⟨p,_,rfl,.of (SJ _ _ yp),.cons (Rep.bf.mpr rfl) .nil⟩;have hw:=sl.ow u (by rw[ey];simp);refine⟨_,_,rp,WS,by rcases hw with h |h |h<;>subst h<;>decide +kernel,by decide +kernel,_,rfl,?_⟩;have TC:d.dY.getLast?=some (decide (u=PM.cX)):=by rw[sl.ek,zbS,hl];rfl
   have ev:PyData.eqv (Dp.lst [Dp.str (S u)]).py (Dp.lst [Dp.str (zaa "if")]).py=decide (u=PM.cX):=by
    rcases hw with h |h |h<;>subst h<;>decide +kernel
   rw[ev,if_pos rfl];by_cases hu:u=PM.cX
   ·rw[decide_eq_true hu,if_neg (show ¬(!true)=true by decide)];rw[decide_eq_true hu] at TC;exact rest H2 Ir fun z=>z.elim (fun z=>nb z.1) fun z=>z.2 TC
   ·rw[decide_eq_false hu,if_pos (show (!false)=true from rfl)];rw[decide_eq_false hu] at TC;have:=q H2 Ir;rw[if_pos (.inr ⟨e2,by rw[TC];intro z;cases z⟩)] at this;exact this
 ·rw[if_neg zad];exact rest H (aq.refl _) fun z=>z.elim (fun z=>nb z.1) fun z=>h2 ((bt kH).mpr z.1)
theorem uA:zaa "plain"=S PM.aX:=by decide +kernel
theorem SK(T:Tx K mg t):bC P w K mg base lS 1 t.nC t.n9 ["state", "row"] (N7 K):=by
 refine T.kC.F.wu xg (fun vs H Q E h=>?_) (fun dW A outer s H vs Q E hr h=>?_)
 ·obtain⟨_,_,_,_,_,_,_,_,_,_,_,rfl,_⟩:=h;rfl
 obtain⟨st,o,n,b,r,op,d,d',c0,wd,f,rfl,sl,lc,⟨nl,yr,Nm⟩,pC,ht,q⟩:=h;have nd:=xg.nd;refine⟨_,[some (.ref st),some (.ref r),none,none,none],(ag (tP (pv 0) (AD rfl (d9 (cP (i:=2) nd rfl (zas rfl)) (d9 (cP (i:=3) nd rfl (zas rfl)) (d9 (cP (i:=4) nd rfl (zas rfl)) se)))))
 (ag (ba (aC bY (aZ aT (pv 1) ai aE) ax (aP _))
 (ak (cB (lU zaB zaH zaI de (pv 3) (aa (aZ aT (aZ aT (pv 1) ai aE) ai aE) af b9))))
 aI)
 (ag (ba (aC gO (aZ aT (pv 1) ai aE) (aL (cU (vs:=[.str "if",.str "while",.str "plain"]) (by kernel_rfl))) rfl)
 (ak (cB (lU zaB zaH zaI de (pv 4) (aa (aZ aT (pv 1) ai aE) af b9))))
 aI)
 (ag (ba (aC gO (aZ aT (pv 1) ai aE) (aL (cU (vs:=[.str "if",.str "while"]) (by kernel_rfl))) rfl)
 (ak (cB (lU zaB zaH zaI de (pv 2) (aa (aZ aT (pv 1) ai aE) af b9))))
 aI)
 (ag (ba (aC bY (aZ aT (pv 1) ai aE) ax (aP _))
 (ak (tP ax (IH (pv 2) (zC tQ ai) set_list)))
 aI)
 (ak (ba (aC bY (aZ aT (pv 1) ai aE) ax (aP _))
 (ak (cB (Av zaB zbY zbZ D6 (pv 2))))
 aI))))))),rfl,?_⟩
 have line:zdc=2 ^ 24:=rfl;obtain⟨bs,yb,hb,lb⟩:=sl.yb;have l5:=sl.l5;have lk:d.dY.length=op.length:=by rw[sl.ek,zae]
 have ro:r≠o:=fun z=>by
  rw[z,sl.yo] at yr;have e:=HO.lst.inj (zav.inj yr);have l:=congrArg zcU e;rw[zbS] at l;cases hg:op.getLast? with
  |none=>rw[hg] at l;cases l
  |some u=>rw[hg] at l;exact V.noConfusion (zav.inj l)
 have rn:r≠n:=fun z=>by
  rw[z,sl.yn] at yr;have e:=HO.lst.inj (zav.inj yr);have l:=congrArg zcU e;rw[zbS] at l;cases hg:d.jL.getLast? with
  |none=>rw[hg] at l;cases l
  |some u=>rw[hg] at l;exact V.noConfusion (zav.inj l)
 have rb:r≠b:=fun z=>by
  rw[z,yb] at yr;have e:=HO.lst.inj (zav.inj yr);have l:=congrArg zcU e;rw[zbS] at l;cases hg:bs.getLast? with
  |none=>rw[hg] at l;cases l
  |some u=>rw[hg] at l;exact V.noConfusion (zav.inj l)
 refine aM fun U1 Ag=>?_;walk_at "rd";refine⟨st,_,rfl,.of sl.at_,rfl,_,_,rfl,_,_,rfl,_,_,rfl,rfl,(Ag _ _).mpr (aM fun U2 rY=>?_)⟩;clear Ag;have kinds:(PM.aA f=PM.cO/\∃x,PM.vS f=[x]/\d'={d with jL:=d.jL++[x]}/\d.jL.length≠4)\/(PM.aA f=PM.bV/\d'={d with dY:=d.dY.dropLast++[false]}/\op≠[])\/(PM.aA f=PM.cm/\d'={d with dY:=d.dY.dropLast}/\op≠[])\/((PM.aA f=PM.cX\/PM.aA f=PM.aJ\/PM.aA f=PM.aX)/\d'={d with Cr:=true,dY:=d.dY++(if PM.aA f=PM.cX then [true] else if PM.aA f=PM.aJ then [false] else [])}/\((PM.aA f=PM.cX\/PM.aA f=PM.aJ)->op.length≠5)):=by
  have AM:∀g:PM.Fm,PM.lT d g=.ok d'->(PM.aA g=PM.cX\/PM.aA g=PM.aJ\/PM.aA g=PM.aX)->PM.opens g=(if PM.aA g=PM.cX then some true else if PM.aA g=PM.aJ then some false else none)->(PM.aA g=PM.cX\/PM.aA g=PM.aJ\/PM.aA g=PM.aX)/\d'={d with Cr:=true,dY:=d.dY++(if PM.aA g=PM.cX then [true] else if PM.aA g=PM.aJ then [false] else [])}/\((PM.aA g=PM.cX\/PM.aA g=PM.aJ)->op.length≠5):=by
   intro g h1 h2 h3;unfold PM.lT at h1;split at h1
   ·cases h1
   ·rename_i Vn;split at h1
    ·cases h1;refine⟨h2,?_,fun hk z=>Vn ⟨?_,by rw[lk];exact z⟩⟩
     ·rw[h3];split<;>(try split)<;>rfl
     ·rw[h3];rcases hk with hk |hk
      ·rw[if_pos hk];rfl
      ·split
       ·rfl
       ·rfl
    ·cases h1
  cases f with
  |box x a b=>
   refine .inl ⟨rfl,x,rfl,?_⟩;have h1:PM.AJ d x a b=.ok d':=ht;unfold PM.AJ at h1;split at h1
   ·cases h1
   split at h1
   ·cases h1
   split at h1
   ·cases h1
   split at h1
   ·cases h1
   rename_i n4;cases h1;exact⟨rfl,n4⟩
  |ask x=>exact .inr (.inr (.inr (AM _ ht (.inr (.inr rfl)) (by show none=if PM.aX=PM.cX then some true else if PM.aX=PM.aJ then some false else none;decide))))
  |put x e=>exact .inr (.inr (.inr (AM _ ht (.inr (.inr rfl)) (by show none=if PM.aX=PM.cX then some true else if PM.aX=PM.aJ then some false else none;decide))))
  |say e=>exact .inr (.inr (.inr (AM _ ht (.inr (.inr rfl)) (by show none=if PM.aX=PM.cX then some true else if PM.aX=PM.aJ then some false else none;decide))))
  |cond k sg x y=>
   have hk:k=PM.gR\/k=PM.cX\/k=PM.aJ:=pC.1;have ek:PM.aA (.cond k sg x y)=if k=PM.gR then PM.aX else k:=rfl
   have eo:PM.opens (.cond k sg x y)=if k=PM.cX then some true else if k=PM.aJ then some false else none:=rfl
   refine .inr (.inr (.inr (AM _ ht ?_ ?_)))
   ·rw[ek];rcases hk with h |h |h<;>subst h<;>decide
   ·rw[eo,ek];rcases hk with h |h |h<;>subst h<;>decide
  |one k=>
   have hk:k=PM.bV\/k=PM.cm\/k=PM.fI:=pC;have et:(if k=PM.bV then PM.nu d else if k=PM.cm then PM.t6 d else PM.lT d (.one k))=.ok d':=ht;rcases hk with h |h |h
   ·subst h;rw[if_pos rfl] at et;unfold PM.nu at et;split at et
    ·rename_i hl;cases et;refine .inr (.inl ⟨by decide,rfl,fun z=>?_⟩);rw[sl.ek,z] at hl;cases hl
    ·cases et
   ·subst h;rw[if_neg (by decide),if_pos rfl] at et;unfold PM.t6 at et;split at et
    ·cases et
    ·rename_i hl;cases et;exact .inr (.inr (.inl ⟨by decide,rfl,fun z=>hl (by rw[sl.ek,z];rfl)⟩))
   ·subst h;rw[if_neg (by decide),if_neg (by decide)] at et;exact .inr (.inr (.inr (AM _ et (by decide) (by decide))))
 rcases kinds with ⟨ek,x,ex,ed,n4⟩ |⟨ek,ed,ne⟩ |⟨ek,ed,ne⟩ |⟨ZA,ed,h5⟩
 ·walk_at "rd";refine aO (.of yr) (v:=sv (PM.aA f)) (aF (j:=1) rfl) ⟨rfl,?_⟩;refine bq (fun _=>?_) fun z=>absurd ((bt jQ).mpr ek) z;refine⟨.inl ⟨rfl,_,.of sl.yn⟩,aO (.of yr) (v:=.ref nl) (aF (j:=2) rfl) (aO (.of Nm) (v:=sv x) (aF (j:=0) (by rw[ex];rfl)) ⟨n,_,_,rfl,rfl,sl.yn,by rw[zae];have:=sl.l4;lia,?_⟩)⟩;have VD:∀y u,y≠n->H y=some u->(upd H n (.lst (d.jL.map sv++[sv x]))) y=some u:=fun y u ny e=>by rw[ao ny];exact e
  have ZC:(upd H n (.lst (d.jL.map sv++[sv x]))) n=some (.lst (d.jL.map sv++[sv x])):=ae;generalize upd H n (.lst (d.jL.map sv++[sv x]))=G1 at *;have WT:=VD _ _ rn yr;refine(rY _ _).mpr (aM fun U3 qN=>?_);clear rY;walk_at "rd";refine aO (.of WT) (v:=sv (PM.aA f)) (aF (j:=1) rfl) fun pa Lk=>?_;have u9:=aq.new Lk (.lst [V.str (zaa "if"),V.str (zaa "while"),V.str (zaa "plain")]);have Ll:(upd G1 pa (.lst [V.str (zaa "if"),V.str (zaa "while"),V.str (zaa "plain")])) pa=some (.lst [V.str (zaa "if"),V.str (zaa "while"),V.str (zaa "plain")]):=ae;have Lm:([V.str (zaa "if"),V.str (zaa "while"),V.str (zaa "plain")]:List V)=[PM.cX,PM.aJ,PM.aX].map sv:=by rw[yK,dv,uA];rfl
  generalize upd G1 pa (.lst [V.str (zaa "if"),V.str (zaa "while"),V.str (zaa "plain")])=G2 at *;have C8:=u9 _ _ WT;refine⟨pa,_,rfl,.inl (.of Ll),rfl,rfl,_,rfl,?_⟩;rw[Lm,in_words,if_neg zad];refine bq (fun z=>absurd z (show ¬ [PM.cX,PM.aJ,PM.aX].contains (PM.aA f)=true by rw[ek];decide)) fun _=>?_;refine(qN _ _).mpr (aM fun U4 sZ=>?_);clear qN;walk_at "rd";refine aO (.of C8) (v:=sv (PM.aA f)) (aF (j:=1) rfl) fun pb Ln=>?_;have vb:=aq.new Ln (.lst [V.str (zaa "if"),V.str (zaa "while")]);have Ge:(upd G2 pb (.lst [V.str (zaa "if"),V.str (zaa "while")])) pb=some (.lst [V.str (zaa "if"),V.str (zaa "while")]):=ae;have Lo:([V.str (zaa "if"),V.str (zaa "while")]:List V)=[PM.cX,PM.aJ].map sv:=by rw[yK,dv];rfl
  generalize upd G2 pb (.lst [V.str (zaa "if"),V.str (zaa "while")])=G4 at *;have Ai:=vb _ _ C8;refine⟨pb,_,rfl,.inl (.of Ge),rfl,rfl,_,rfl,?_⟩;rw[Lo,in_words,if_neg zad];refine bq (fun z=>absurd z (show ¬ [PM.cX,PM.aJ].contains (PM.aA f)=true by rw[ek];decide)) fun _=>?_;refine(sZ _ _).mpr (aM fun U5 tf=>?_);clear sZ;walk_at "rd";refine aO (.of Ai) (v:=sv (PM.aA f)) (aF (j:=1) rfl) ⟨rfl,?_⟩;refine bq (fun z=>absurd (ek.symm.trans ((bt kH).mp z)) (by decide)) fun _=>?_;refine(tf _ _).mpr ?_;clear tf;walk_at "rd";refine aO (.of Ai) (v:=sv (PM.aA f)) (aF (j:=1) rfl) ⟨rfl,?_⟩;refine bq (fun z=>absurd (ek.symm.trans ((bt t7).mp z)) (by decide)) fun _=>?_;have all:∀y u,y≠o->y≠n->y≠b->H y=some u->G4 y=some u:=fun y u _ ny _ e=>vb _ _ (u9 _ _ (VD _ _ ny e));have k4:∀y u,y≠n->H y=some u->G4 y=some u:=fun y u ny e=>vb _ _ (u9 _ _ (VD _ _ ny e));refine q op G4 all ?_;rw[ed];exact {sl with at_:=k4 _ _ sl.sn sl.at_,yo:=k4 _ _ sl.on sl.yo,yn:=by rw[vb _ _ (u9 _ _ ZC),zar];rfl,yb:=⟨bs,k4 _ _ (Ne.symm sl.nb) yb,hb,by lia⟩,l4:=by show (d.jL++[x]).length<=4;rw[zaf,zau];have:=sl.l4;lia}
 ·walk_at "rd";refine aO (.of yr) (v:=sv (PM.aA f)) (aF (j:=1) rfl) ⟨rfl,?_⟩;refine bq (fun z=>absurd (ek.symm.trans ((bt jQ).mp z)) (by decide)) fun _=>?_;refine(rY _ _).mpr (aM fun U3 qN=>?_);clear rY;walk_at "rd";refine aO (.of yr) (v:=sv (PM.aA f)) (aF (j:=1) rfl) fun pa Lk=>?_;have u9:=aq.new Lk (.lst [V.str (zaa "if"),V.str (zaa "while"),V.str (zaa "plain")]);have Ll:(upd H pa (.lst [V.str (zaa "if"),V.str (zaa "while"),V.str (zaa "plain")])) pa=some (.lst [V.str (zaa "if"),V.str (zaa "while"),V.str (zaa "plain")]):=ae;have Lm:([V.str (zaa "if"),V.str (zaa "while"),V.str (zaa "plain")]:List V)=[PM.cX,PM.aJ,PM.aX].map sv:=by rw[yK,dv,uA];rfl
  generalize upd H pa (.lst [V.str (zaa "if"),V.str (zaa "while"),V.str (zaa "plain")])=G2 at *;have C8:=u9 _ _ yr;refine⟨pa,_,rfl,.inl (.of Ll),rfl,rfl,_,rfl,?_⟩;rw[Lm,in_words,if_neg zad];refine bq (fun z=>absurd z (show ¬ [PM.cX,PM.aJ,PM.aX].contains (PM.aA f)=true by rw[ek];decide)) fun _=>?_;refine(qN _ _).mpr (aM fun U4 sZ=>?_);clear qN;walk_at "rd";refine aO (.of C8) (v:=sv (PM.aA f)) (aF (j:=1) rfl) fun pb Ln=>?_;have vb:=aq.new Ln (.lst [V.str (zaa "if"),V.str (zaa "while")]);have Ge:(upd G2 pb (.lst [V.str (zaa "if"),V.str (zaa "while")])) pb=some (.lst [V.str (zaa "if"),V.str (zaa "while")]):=ae;have Lo:([V.str (zaa "if"),V.str (zaa "while")]:List V)=[PM.cX,PM.aJ].map sv:=by rw[yK,dv];rfl
  generalize upd G2 pb (.lst [V.str (zaa "if"),V.str (zaa "while")])=G4 at *;have Ai:=vb _ _ C8;refine⟨pb,_,rfl,.inl (.of Ge),rfl,rfl,_,rfl,?_⟩;rw[Lo,in_words,if_neg zad];refine bq (fun z=>absurd z (show ¬ [PM.cX,PM.aJ].contains (PM.aA f)=true by rw[ek];decide)) fun _=>?_;refine(sZ _ _).mpr (aM fun U5 tf=>?_);clear sZ;walk_at "rd";refine aO (.of Ai) (v:=sv (PM.aA f)) (aF (j:=1) rfl) ⟨rfl,?_⟩;refine bq (fun _=>?_) fun z=>absurd ((bt kH).mpr ek) z;obtain⟨ys,u,ey⟩:∃ys u,op=ys++[u]:=by
   cases hg:op.getLast? with
   |none=>exact absurd (za6.mp hg) ne
   |some u=>obtain⟨ys,e⟩:=zbz.mp hg;exact⟨ys,u,e⟩
  have LZ:=vb _ _ (u9 _ _ sl.yo);have k4:∀y u,H y=some u->G4 y=some u:=fun y u e=>vb _ _ (u9 _ _ e);have es:(op.map sv).set ys.length (V.str (zaa "else"))=(ys++[PM.bV]).map sv:=by
   rw[ey,zar,zar,kH,zcP _ _ (by rw[zae];exact zai _),zae,zb2];rfl
  have ej:Ik (op.map sv).length (-1)=some ys.length:=by
   rw[zae,ey,zaf,zau];unfold Ik;rw[if_neg (by decide),if_pos (by lia)]
   congr 1
   lia
  refine⟨1,rfl,o,_, -1,ys.length,rfl,rfl,LZ,ej,?_⟩;rw[es];have EN:∀y w,y≠o->G4 y=some w->(upd G4 o (.lst ((ys++[PM.bV]).map sv))) y=some w:=fun y w ny e=>by rw[ao ny];exact e
  have Qk:(upd G4 o (.lst ((ys++[PM.bV]).map sv))) o=some (.lst ((ys++[PM.bV]).map sv)):=ae;generalize upd G4 o (.lst ((ys++[PM.bV]).map sv))=G5 at *;have Ql:=EN _ _ ro Ai;have k5:∀y w,y≠o->H y=some w->G5 y=some w:=fun y w no e=>EN _ _ no (k4 _ _ e);refine(tf _ _).mpr ?_;clear tf;walk_at "rd";refine aO (.of Ql) (v:=sv (PM.aA f)) (aF (j:=1) rfl) ⟨rfl,?_⟩;refine bq (fun z=>absurd (ek.symm.trans ((bt t7).mp z)) (by decide)) fun _=>?_;refine q (ys++[PM.bV]) G5 (fun y w no _ _ e=>k5 y w no e) ?_;rw[ed];exact {sl with at_:=k5 _ _ sl.so sl.at_,yo:=Qk,yn:=k5 _ _ (Ne.symm sl.on) sl.yn,yb:=⟨bs,k5 _ _ (Ne.symm sl.ob) yb,hb,by lia⟩,ek:=by show d.dY.dropLast++[false]=_;rw[sl.ek,ey,zar,zar,show (zcb (fun w=>decide (w=PM.cX)) ys++zcb (fun w=>decide (w=PM.cX)) [u]).dropLast=zcb (fun w=>decide (w=PM.cX)) ys from zb4];rfl,l5:=by rw[ey,zaf] at l5;rw[zaf];exact l5,ow:=fun w hw=>(zaz.mp hw).elim (fun z=>sl.ow w (by rw[ey];exact zba _ z)) fun z=>by rw[zal.mp z];decide}
 ·walk_at "rd";refine aO (.of yr) (v:=sv (PM.aA f)) (aF (j:=1) rfl) ⟨rfl,?_⟩;refine bq (fun z=>absurd (ek.symm.trans ((bt jQ).mp z)) (by decide)) fun _=>?_;refine(rY _ _).mpr (aM fun U3 qN=>?_);clear rY;walk_at "rd";refine aO (.of yr) (v:=sv (PM.aA f)) (aF (j:=1) rfl) fun pa Lk=>?_;have u9:=aq.new Lk (.lst [V.str (zaa "if"),V.str (zaa "while"),V.str (zaa "plain")]);have Ll:(upd H pa (.lst [V.str (zaa "if"),V.str (zaa "while"),V.str (zaa "plain")])) pa=some (.lst [V.str (zaa "if"),V.str (zaa "while"),V.str (zaa "plain")]):=ae;have Lm:([V.str (zaa "if"),V.str (zaa "while"),V.str (zaa "plain")]:List V)=[PM.cX,PM.aJ,PM.aX].map sv:=by rw[yK,dv,uA];rfl
  generalize upd H pa (.lst [V.str (zaa "if"),V.str (zaa "while"),V.str (zaa "plain")])=G2 at *;have C8:=u9 _ _ yr;refine⟨pa,_,rfl,.inl (.of Ll),rfl,rfl,_,rfl,?_⟩;rw[Lm,in_words,if_neg zad];refine bq (fun z=>absurd z (show ¬ [PM.cX,PM.aJ,PM.aX].contains (PM.aA f)=true by rw[ek];decide)) fun _=>?_;refine(qN _ _).mpr (aM fun U4 sZ=>?_);clear qN;walk_at "rd";refine aO (.of C8) (v:=sv (PM.aA f)) (aF (j:=1) rfl) fun pb Ln=>?_;have vb:=aq.new Ln (.lst [V.str (zaa "if"),V.str (zaa "while")]);have Ge:(upd G2 pb (.lst [V.str (zaa "if"),V.str (zaa "while")])) pb=some (.lst [V.str (zaa "if"),V.str (zaa "while")]):=ae;have Lo:([V.str (zaa "if"),V.str (zaa "while")]:List V)=[PM.cX,PM.aJ].map sv:=by rw[yK,dv];rfl
  generalize upd G2 pb (.lst [V.str (zaa "if"),V.str (zaa "while")])=G4 at *;have Ai:=vb _ _ C8;refine⟨pb,_,rfl,.inl (.of Ge),rfl,rfl,_,rfl,?_⟩;rw[Lo,in_words,if_neg zad];refine bq (fun z=>absurd z (show ¬ [PM.cX,PM.aJ].contains (PM.aA f)=true by rw[ek];decide)) fun _=>?_;refine(sZ _ _).mpr (aM fun U5 tf=>?_);clear sZ;walk_at "rd";refine aO (.of Ai) (v:=sv (PM.aA f)) (aF (j:=1) rfl) ⟨rfl,?_⟩;refine bq (fun z=>absurd (ek.symm.trans ((bt kH).mp z)) (by decide)) fun _=>?_;refine(tf _ _).mpr ?_;clear tf;walk_at "rd";refine aO (.of Ai) (v:=sv (PM.aA f)) (aF (j:=1) rfl) ⟨rfl,?_⟩;refine bq (fun _=>?_) fun z=>absurd ((bt t7).mpr ek) z;obtain⟨ys,u,ey⟩:∃ys u,op=ys++[u]:=by
   cases hg:op.getLast? with
   |none=>exact absurd (za6.mp hg) ne
   |some u=>obtain⟨ys,e⟩:=zbz.mp hg;exact⟨ys,u,e⟩
  have LZ:=vb _ _ (u9 _ _ sl.yo);have k4:∀y u,H y=some u->G4 y=some u:=fun y u e=>vb _ _ (u9 _ _ e);refine⟨.inl ⟨rfl,_,.of LZ⟩,o,_,sv u,rfl,rfl,LZ,by rw[ey,zar,zaf];simp,?_⟩;have EN:∀y w,y≠o->G4 y=some w->(upd G4 o (.lst (op.map sv).dropLast)) y=some w:=fun y w ny e=>by rw[ao ny];exact e
  have Qk:(upd G4 o (.lst (op.map sv).dropLast)) o=some (.lst (op.map sv).dropLast):=ae;generalize upd G4 o (.lst (op.map sv).dropLast)=G5 at *;have k5:∀y w,y≠o->H y=some w->G5 y=some w:=fun y w no e=>EN _ _ no (k4 _ _ e);have e1:(op.map sv).dropLast=ys.map sv:=by rw[ey,zar];exact zb4
  refine q ys G5 (fun y w no _ _ e=>k5 y w no e) ?_;rw[ed];exact {sl with at_:=k5 _ _ sl.so sl.at_,yo:=by rw[Qk,e1],yn:=k5 _ _ (Ne.symm sl.on) sl.yn,yb:=⟨bs,k5 _ _ (Ne.symm sl.ob) yb,hb,by lia⟩,ek:=by show d.dY.dropLast=_;rw[sl.ek,ey,zar];exact zb4,l5:=by rw[ey,zaf] at l5;lia,ow:=fun w hw=>sl.ow w (by rw[ey];exact zba _ hw)}
 rcases ZA with ek |ek |ek
 ·walk_at "rd";refine aO (.of yr) (v:=sv (PM.aA f)) (aF (j:=1) rfl) ⟨rfl,?_⟩;refine bq (fun z=>absurd (ek.symm.trans ((bt jQ).mp z)) (by decide)) fun _=>?_;refine(rY _ _).mpr (aM fun U3 qN=>?_);clear rY;walk_at "rd";refine aO (.of yr) (v:=sv (PM.aA f)) (aF (j:=1) rfl) fun pa Lk=>?_;have u9:=aq.new Lk (.lst [V.str (zaa "if"),V.str (zaa "while"),V.str (zaa "plain")]);have Ll:(upd H pa (.lst [V.str (zaa "if"),V.str (zaa "while"),V.str (zaa "plain")])) pa=some (.lst [V.str (zaa "if"),V.str (zaa "while"),V.str (zaa "plain")]):=ae;have Lm:([V.str (zaa "if"),V.str (zaa "while"),V.str (zaa "plain")]:List V)=[PM.cX,PM.aJ,PM.aX].map sv:=by rw[yK,dv,uA];rfl
  generalize upd H pa (.lst [V.str (zaa "if"),V.str (zaa "while"),V.str (zaa "plain")])=G2 at *;have C8:=u9 _ _ yr;refine⟨pa,_,rfl,.inl (.of Ll),rfl,rfl,_,rfl,?_⟩;rw[Lm,in_words,if_neg zad];refine bq (fun _=>?_) fun z=>absurd (show [PM.cX,PM.aJ,PM.aX].contains (PM.aA f)=true by rw[ek];decide) z;have Of:=u9 _ _ yb;refine⟨.inl ⟨rfl,_,.of Of⟩,aO (.of C8) (v:=sv (PM.aA f)) (aF (j:=1) rfl) ⟨b,_,_,rfl,rfl,Of,by rw[zae];lia,?_⟩⟩;have L0:∀y u,y≠b->G2 y=some u->(upd G2 b (.lst (bs.map sv++[sv (PM.aA f)]))) y=some u:=fun y u ny e=>by rw[ao ny];exact e
  have SM:(upd G2 b (.lst (bs.map sv++[sv (PM.aA f)]))) b=some (.lst (bs.map sv++[sv (PM.aA f)])):=ae;generalize upd G2 b (.lst (bs.map sv++[sv (PM.aA f)]))=G3 at *;have Og:=L0 _ _ rb C8;refine(qN _ _).mpr (aM fun U4 sZ=>?_);clear qN;walk_at "rd";refine aO (.of Og) (v:=sv (PM.aA f)) (aF (j:=1) rfl) fun pb Ln=>?_;have vb:=aq.new Ln (.lst [V.str (zaa "if"),V.str (zaa "while")]);have Ge:(upd G3 pb (.lst [V.str (zaa "if"),V.str (zaa "while")])) pb=some (.lst [V.str (zaa "if"),V.str (zaa "while")]):=ae;have Lo:([V.str (zaa "if"),V.str (zaa "while")]:List V)=[PM.cX,PM.aJ].map sv:=by rw[yK,dv];rfl
  generalize upd G3 pb (.lst [V.str (zaa "if"),V.str (zaa "while")])=G4 at *;have Ai:=vb _ _ Og;refine⟨pb,_,rfl,.inl (.of Ge),rfl,rfl,_,rfl,?_⟩;rw[Lo,in_words,if_neg zad];refine bq (fun _=>?_) fun z=>absurd (show [PM.cX,PM.aJ].contains (PM.aA f)=true by rw[ek];decide) z;have LZ:=vb _ _ (L0 _ _ sl.ob (u9 _ _ sl.yo));refine⟨.inl ⟨rfl,_,.of LZ⟩,aO (.of Ai) (v:=sv (PM.aA f)) (aF (j:=1) rfl) ⟨o,_,_,rfl,rfl,LZ,by rw[zae];lia,?_⟩⟩;have EN:∀y u,y≠o->G4 y=some u->(upd G4 o (.lst (op.map sv++[sv (PM.aA f)]))) y=some u:=fun y u ny e=>by rw[ao ny];exact e
  have Qk:(upd G4 o (.lst (op.map sv++[sv (PM.aA f)]))) o=some (.lst (op.map sv++[sv (PM.aA f)])):=ae;generalize upd G4 o (.lst (op.map sv++[sv (PM.aA f)]))=G5 at *;have Ql:=EN _ _ ro Ai;refine(sZ _ _).mpr (aM fun U5 tf=>?_);clear sZ;walk_at "rd";refine aO (.of Ql) (v:=sv (PM.aA f)) (aF (j:=1) rfl) ⟨rfl,?_⟩;refine bq (fun z=>absurd (ek.symm.trans ((bt kH).mp z)) (by decide)) fun _=>?_;refine(tf _ _).mpr ?_;clear tf;walk_at "rd";refine aO (.of Ql) (v:=sv (PM.aA f)) (aF (j:=1) rfl) ⟨rfl,?_⟩;refine bq (fun z=>absurd (ek.symm.trans ((bt t7).mp z)) (by decide)) fun _=>?_;have k5:∀y u,y≠o->y≠b->H y=some u->G5 y=some u:=fun y u no nb e=>EN _ _ no (vb _ _ (L0 _ _ nb (u9 _ _ e)));have n5:=h5 (by rw[ek];simp);refine q (op++[PM.aA f]) G5 (fun y u no _ nb e=>k5 y u no nb e) ?_;rw[ed,ek,if_pos rfl];exact {sl with at_:=k5 _ _ sl.so sl.sb sl.at_,yo:=by rw[Qk,ek,zar];rfl,yn:=k5 _ _ (Ne.symm sl.on) sl.nb sl.yn,yb:=⟨bs++[PM.aA f],by rw[EN _ _ (Ne.symm sl.ob) (vb _ _ SM),zar];rfl,by simp,by rw[zaf,zau];lia⟩,ek:=by show d.dY++_=_;rw[sl.ek,zar];rfl,l5:=by rw[zaf,zau];lia,ow:=fun w hw=>(zaz.mp hw).elim (sl.ow w) fun z=>by rw[zal.mp z];decide}
 ·walk_at "rd";refine aO (.of yr) (v:=sv (PM.aA f)) (aF (j:=1) rfl) ⟨rfl,?_⟩;refine bq (fun z=>absurd (ek.symm.trans ((bt jQ).mp z)) (by decide)) fun _=>?_;refine(rY _ _).mpr (aM fun U3 qN=>?_);clear rY;walk_at "rd";refine aO (.of yr) (v:=sv (PM.aA f)) (aF (j:=1) rfl) fun pa Lk=>?_;have u9:=aq.new Lk (.lst [V.str (zaa "if"),V.str (zaa "while"),V.str (zaa "plain")]);have Ll:(upd H pa (.lst [V.str (zaa "if"),V.str (zaa "while"),V.str (zaa "plain")])) pa=some (.lst [V.str (zaa "if"),V.str (zaa "while"),V.str (zaa "plain")]):=ae;have Lm:([V.str (zaa "if"),V.str (zaa "while"),V.str (zaa "plain")]:List V)=[PM.cX,PM.aJ,PM.aX].map sv:=by rw[yK,dv,uA];rfl
  generalize upd H pa (.lst [V.str (zaa "if"),V.str (zaa "while"),V.str (zaa "plain")])=G2 at *;have C8:=u9 _ _ yr;refine⟨pa,_,rfl,.inl (.of Ll),rfl,rfl,_,rfl,?_⟩;rw[Lm,in_words,if_neg zad];refine bq (fun _=>?_) fun z=>absurd (show [PM.cX,PM.aJ,PM.aX].contains (PM.aA f)=true by rw[ek];decide) z;have Of:=u9 _ _ yb;refine⟨.inl ⟨rfl,_,.of Of⟩,aO (.of C8) (v:=sv (PM.aA f)) (aF (j:=1) rfl) ⟨b,_,_,rfl,rfl,Of,by rw[zae];lia,?_⟩⟩;have L0:∀y u,y≠b->G2 y=some u->(upd G2 b (.lst (bs.map sv++[sv (PM.aA f)]))) y=some u:=fun y u ny e=>by rw[ao ny];exact e
  have SM:(upd G2 b (.lst (bs.map sv++[sv (PM.aA f)]))) b=some (.lst (bs.map sv++[sv (PM.aA f)])):=ae;generalize upd G2 b (.lst (bs.map sv++[sv (PM.aA f)]))=G3 at *;have Og:=L0 _ _ rb C8;refine(qN _ _).mpr (aM fun U4 sZ=>?_);clear qN;walk_at "rd";refine aO (.of Og) (v:=sv (PM.aA f)) (aF (j:=1) rfl) fun pb Ln=>?_;have vb:=aq.new Ln (.lst [V.str (zaa "if"),V.str (zaa "while")]);have Ge:(upd G3 pb (.lst [V.str (zaa "if"),V.str (zaa "while")])) pb=some (.lst [V.str (zaa "if"),V.str (zaa "while")]):=ae;have Lo:([V.str (zaa "if"),V.str (zaa "while")]:List V)=[PM.cX,PM.aJ].map sv:=by rw[yK,dv];rfl
  generalize upd G3 pb (.lst [V.str (zaa "if"),V.str (zaa "while")])=G4 at *;have Ai:=vb _ _ Og;refine⟨pb,_,rfl,.inl (.of Ge),rfl,rfl,_,rfl,?_⟩;rw[Lo,in_words,if_neg zad];refine bq (fun _=>?_) fun z=>absurd (show [PM.cX,PM.aJ].contains (PM.aA f)=true by rw[ek];decide) z;have LZ:=vb _ _ (L0 _ _ sl.ob (u9 _ _ sl.yo));refine⟨.inl ⟨rfl,_,.of LZ⟩,aO (.of Ai) (v:=sv (PM.aA f)) (aF (j:=1) rfl) ⟨o,_,_,rfl,rfl,LZ,by rw[zae];lia,?_⟩⟩;have EN:∀y u,y≠o->G4 y=some u->(upd G4 o (.lst (op.map sv++[sv (PM.aA f)]))) y=some u:=fun y u ny e=>by rw[ao ny];exact e
  have Qk:(upd G4 o (.lst (op.map sv++[sv (PM.aA f)]))) o=some (.lst (op.map sv++[sv (PM.aA f)])):=ae;generalize upd G4 o (.lst (op.map sv++[sv (PM.aA f)]))=G5 at *;have Ql:=EN _ _ ro Ai;refine(sZ _ _).mpr (aM fun U5 tf=>?_);clear sZ;walk_at "rd";refine aO (.of Ql) (v:=sv (PM.aA f)) (aF (j:=1) rfl) ⟨rfl,?_⟩;refine bq (fun z=>absurd (ek.symm.trans ((bt kH).mp z)) (by decide)) fun _=>?_;refine(tf _ _).mpr ?_;clear tf;walk_at "rd";refine aO (.of Ql) (v:=sv (PM.aA f)) (aF (j:=1) rfl) ⟨rfl,?_⟩;refine bq (fun z=>absurd (ek.symm.trans ((bt t7).mp z)) (by decide)) fun _=>?_;have k5:∀y u,y≠o->y≠b->H y=some u->G5 y=some u:=fun y u no nb e=>EN _ _ no (vb _ _ (L0 _ _ nb (u9 _ _ e)));have n5:=h5 (by rw[ek];simp);refine q (op++[PM.aA f]) G5 (fun y u no _ nb e=>k5 y u no nb e) ?_;rw[ed,ek,if_neg (by decide),if_pos rfl];exact {sl with at_:=k5 _ _ sl.so sl.sb sl.at_,yo:=by rw[Qk,ek,zar];rfl,yn:=k5 _ _ (Ne.symm sl.on) sl.nb sl.yn,yb:=⟨bs++[PM.aA f],by rw[EN _ _ (Ne.symm sl.ob) (vb _ _ SM),zar];rfl,by simp,by rw[zaf,zau];lia⟩,ek:=by show d.dY++_=_;rw[sl.ek,zar];rfl,l5:=by rw[zaf,zau];lia,ow:=fun w hw=>(zaz.mp hw).elim (sl.ow w) fun z=>by rw[zal.mp z];decide}
 ·walk_at "rd";refine aO (.of yr) (v:=sv (PM.aA f)) (aF (j:=1) rfl) ⟨rfl,?_⟩;refine bq (fun z=>absurd (ek.symm.trans ((bt jQ).mp z)) (by decide)) fun _=>?_;refine(rY _ _).mpr (aM fun U3 qN=>?_);clear rY;walk_at "rd";refine aO (.of yr) (v:=sv (PM.aA f)) (aF (j:=1) rfl) fun pa Lk=>?_;have u9:=aq.new Lk (.lst [V.str (zaa "if"),V.str (zaa "while"),V.str (zaa "plain")]);have Ll:(upd H pa (.lst [V.str (zaa "if"),V.str (zaa "while"),V.str (zaa "plain")])) pa=some (.lst [V.str (zaa "if"),V.str (zaa "while"),V.str (zaa "plain")]):=ae;have Lm:([V.str (zaa "if"),V.str (zaa "while"),V.str (zaa "plain")]:List V)=[PM.cX,PM.aJ,PM.aX].map sv:=by rw[yK,dv,uA];rfl
  generalize upd H pa (.lst [V.str (zaa "if"),V.str (zaa "while"),V.str (zaa "plain")])=G2 at *;have C8:=u9 _ _ yr;refine⟨pa,_,rfl,.inl (.of Ll),rfl,rfl,_,rfl,?_⟩;rw[Lm,in_words,if_neg zad];refine bq (fun _=>?_) fun z=>absurd (show [PM.cX,PM.aJ,PM.aX].contains (PM.aA f)=true by rw[ek];decide) z;have Of:=u9 _ _ yb;refine⟨.inl ⟨rfl,_,.of Of⟩,aO (.of C8) (v:=sv (PM.aA f)) (aF (j:=1) rfl) ⟨b,_,_,rfl,rfl,Of,by rw[zae];lia,?_⟩⟩;have L0:∀y u,y≠b->G2 y=some u->(upd G2 b (.lst (bs.map sv++[sv (PM.aA f)]))) y=some u:=fun y u ny e=>by rw[ao ny];exact e
  have SM:(upd G2 b (.lst (bs.map sv++[sv (PM.aA f)]))) b=some (.lst (bs.map sv++[sv (PM.aA f)])):=ae;generalize upd G2 b (.lst (bs.map sv++[sv (PM.aA f)]))=G3 at *;have Og:=L0 _ _ rb C8;refine(qN _ _).mpr (aM fun U4 sZ=>?_);clear qN;walk_at "rd";refine aO (.of Og) (v:=sv (PM.aA f)) (aF (j:=1) rfl) fun pb Ln=>?_;have vb:=aq.new Ln (.lst [V.str (zaa "if"),V.str (zaa "while")]);have Ge:(upd G3 pb (.lst [V.str (zaa "if"),V.str (zaa "while")])) pb=some (.lst [V.str (zaa "if"),V.str (zaa "while")]):=ae;have Lo:([V.str (zaa "if"),V.str (zaa "while")]:List V)=[PM.cX,PM.aJ].map sv:=by rw[yK,dv];rfl
  generalize upd G3 pb (.lst [V.str (zaa "if"),V.str (zaa "while")])=G4 at *;have Ai:=vb _ _ Og;refine⟨pb,_,rfl,.inl (.of Ge),rfl,rfl,_,rfl,?_⟩;rw[Lo,in_words,if_neg zad];refine bq (fun z=>absurd z (show ¬ [PM.cX,PM.aJ].contains (PM.aA f)=true by rw[ek];decide)) fun _=>?_;refine(sZ _ _).mpr (aM fun U5 tf=>?_);clear sZ;walk_at "rd";refine aO (.of Ai) (v:=sv (PM.aA f)) (aF (j:=1) rfl) ⟨rfl,?_⟩;refine bq (fun z=>absurd (ek.symm.trans ((bt kH).mp z)) (by decide)) fun _=>?_;refine(tf _ _).mpr ?_;clear tf;walk_at "rd";refine aO (.of Ai) (v:=sv (PM.aA f)) (aF (j:=1) rfl) ⟨rfl,?_⟩;refine bq (fun z=>absurd (ek.symm.trans ((bt t7).mp z)) (by decide)) fun _=>?_;have k4:∀y u,y≠b->H y=some u->G4 y=some u:=fun y u ny e=>vb _ _ (L0 _ _ ny (u9 _ _ e));refine q op G4 (fun y u _ _ ny e=>k4 y u ny e) ?_;rw[ed,ek,if_neg (by decide),if_neg (by decide),zaP];exact {sl with at_:=k4 _ _ sl.sb sl.at_,yo:=k4 _ _ sl.ob sl.yo,yn:=k4 _ _ sl.nb sl.yn,yb:=⟨bs++[PM.aA f],by rw[vb _ _ SM,zar];rfl,by simp,by rw[zaf,zau];lia⟩}
theorem Bf{K:zac}{H:Hp}:∀bs:List Bool,bc K H (bs.map Dp.bl) (bs.map V.bl)
 |[]=>.nil
 |b::r=>.cons (Rep.wt.mpr rfl) (Bf r)
theorem Aj:∀(L:List W) (k:Nat),(∀r∈L,r.length<=k)->L.flatten.length<=k*L.length
 |[],_,_=>za0 _
 |r::L,k,h=>by
  have ih:=Aj L k fun x hx=>h x (zaq _ hx);have:=h r zaD;rw[zaR,zaf,zag,Nat.mul_succ];lia
structure WU(H0 Hx:Hp)(st o n b R p:zc4)(ms:List Int)(i:Nat)(op:List W)(d:PM.Df)(rws:List W)(rZ:Int):Prop where
 sl:Nb Hx st o n b op d i
 yR:Hx R=some (.lst (rws.map sv))
 yp:Hx p=some (.lst (ms.map V.int))
 lr:rws.length<=i
 ok:∀r∈rws,r.length<=60/\10 ∉ r
 kp:∀y u,H0 y=some u->Hx y=some u
 Nn:(rZ=0/\PM.cL ⟨[],false,[]⟩ rws=.ok d)\/∃e,rZ=PM.bp e/\PM.bp e≠0/\PM.cL ⟨[],false,[]⟩ rws=.error e
theorem Lp{d:PM.Df}{f:PM.Fm}(pC:PM.PQ f)(l5:d.dY.length<=5):(qy d f=0/\∃d',PM.jA d f=.ok d')\/∃e,qy d f=PM.bp e/\PM.bp e≠0/\PM.jA d f=.error e:=by
 have h:=KW pC l5;cases ht:PM.jA d f with
 |ok d'=>exact .inl ⟨by unfold qy;rw[ht],d',rfl⟩
 |error e=>
  have e1:qy d f=PM.bp e:=by unfold qy;rw[ht]
  refine .inr ⟨e,e1,fun z=>?_,rfl⟩;have:e=.sH:=by cases e<;>first |rfl |cases z
  subst this;have no:∀g,PM.lT d g≠.error .sH:=fun g=>by
   unfold PM.lT;split
   ·intro q;cases q
   ·split<;>(intro q;cases q)
  cases f with
  |box x a b=>
   have h1:PM.AJ d x a b=.error .sH:=ht;unfold PM.AJ at h1;split at h1
   ·cases h1
   split at h1
   ·cases h1
   split at h1
   ·cases h1
   split at h1
   ·cases h1
   ·cases h1
  |ask x=>exact no _ ht
  |put x e=>exact no _ ht
  |say e=>exact no _ ht
  |cond k sg x y=>exact no _ ht
  |one k=>
   have h1:(if k=PM.bV then PM.nu d else if k=PM.cm then PM.t6 d else PM.lT d (.one k))=.error .sH:=ht;split at h1
   ·unfold PM.nu at h1;split at h1<;>cases h1
   ·split at h1
    ·unfold PM.t6 at h1;split at h1<;>cases h1
    ·exact no _ h1
theorem Qm(T:Tx K mg t)(C:Cd P w K t):bC P w K mg base lS 66 t.F4 t.uh ["script"] (FG K):=by
 have jF:=Gf (P:=P) (w:=w) (base:=base) T;have xQ:=EK (P:=P) (w:=w) (base:=base) T;have xR:=EM (P:=P) (w:=w) (base:=base) T;have EO:=Qi (P:=P) (w:=w) (base:=base) T;have Hq:=SK (P:=P) (w:=w) (base:=base) T;have pV:=Nl (P:=P) (w:=w) (base:=base) T C;refine T.F5.F.wu KZ (fun vs H Q E h=>?_) (fun dW A outer s H vs Q E hr h=>?_)
 ·obtain⟨_,_,rfl,_⟩:=h;rfl
 obtain⟨a,ns,rfl,hS,hl,q⟩:=h;have nd:=KZ.nd;refine⟨_,[some (.ref a),none,none,none,none,none,none,none],(ag (aY (i:=1) nd rfl (zas rfl) (aL (aa (aL af) (aa (aL af) (aa (aL af) af cb) cb) cb)))
 (ag (aY (i:=2) nd rfl (zas rfl) (fC bY (aU eG (aV jF (hr.mono (by first|decide|omega)) rfl T.bW.m T.bW.F.kp T.bW.b .nil cy (aa (aV xQ (hr.mono (by first|decide|omega)) rfl T.dN.m T.dN.F.kp T.dN.b .nil cy (aa (pv 0) (aa ai af aB) ah)) (aa ai af aB) bP)) ai) ai (aP _)))
 (ag (aY (i:=3) nd rfl (zas rfl) (aL af))
 (ag (aY (i:=4) nd rfl (zcN rfl) ai)
 (ag (An PassesOwn.never rfl (vF (sj Fp (pv 0) vH (vI ai))) (cP (i:=5) nd rfl (zas rfl))
 (ag (aY (i:=6) nd rfl (zas rfl) (PH (aV xR (hr.mono (by first|decide|omega)) rfl T.dP.m T.dP.F.kp T.dP.b .nil cy (aa (pv 5) af ah))))
 (ag (aY (i:=7) nd rfl (zas rfl) ai)
 (ag (ba (aC bY (pv 4) ai (aP _))
 (ak (aY (i:=7) nd rfl (zas rfl) (aV EO (hr.mono (by first|decide|omega)) rfl T.iM.m T.iM.F.kp T.iM.b .nil cy (aa (pv 1) (aa (pv 6) af ah) ah))))
 aI)
 (ak (ba (PW.pt (pw_or (aC bY (pv 7) ai (aP _)) (pw_or (tN (oZ (pv 2))) (pw_or1 (aC bY (aU eG (aV jF (hr.mono (by first|decide|omega)) rfl T.bW.m T.bW.F.kp T.bW.b .nil cy (aa (pv 5) (aa ai af aB) ah)) ai) ai (aP _))))))
 (ag (cB (lU zaB zaH zaI de (pv 3) (aa (aZ aT (pv 6) ai aE) af b9)))
 (ag (ba (PW.pt (pw_and (aC bY (pv 4) ai (aP _)) (pw_and1 (aC bY (pv 7) ai (aP _)))))
 (ak (cB (aV Hq (hr.mono (by first|decide|omega)) rfl T.kC.m T.kC.F.kp T.kC.b .nil cy (aa (pv 1) (aa (pv 6) af ah) ah))))
 aI)
 (ak (aY (i:=4) nd rfl (zcN rfl) (br (zE rfl) rfl T.Gb PyProof.Rows.Boot.«max» (aa (pv 4) (aa (pv 7) af ah) ah))))))
 aI))))))
 (ag (ba (PW.pt (pw_and (aC bY (pv 4) ai (aP _)) (pw_and1 (oZ (pv 2)))))
 (ag (aY (i:=3) nd rfl (zas rfl) (aU nP (pv 3) (aU O7 (aL (aa ax af aB)) (br cQ rfl T.mw PyProof.Rows.Boot.«len» (aa (aZ aT (pv 1) ai aE) af b9)))))
 (ak (cB (Av zaB PySem.F.slot_list_clear PySem.F.type_list_clear Jf (aZ aT (pv 1) ai aE)))))
 aI)
 (ag (ba (aC (qp (zK hr)) (pv 3) (aL af) (aP _))
 (ak (aY (i:=3) nd rfl (zas rfl) (aL (aa ax af aB))))
 aI)
 (ag (ba (PW.pt (pw_and (aC bY (pv 4) ai (aP _)) (pw_and1 (aC (zS (zK hr)) (aZ aT (pv 1) ai aE) (aL af) (aP _)))))
 (ak (aY (i:=4) nd rfl (zcN rfl) ai))
 aI)
 (ag (ba (aC bY (pv 4) ai (aP _))
 (ak (aW (fC (qp (zK hr)) (aV pV (hr.mono (by first|decide|omega)) rfl T.cv.m T.cv.F.kp T.cv.b .nil cy (aa (pv 3) af ah)) (aL af) (aP _))))
 aI)
 (ak (aW (fC (Pp (RO hr)) (aV pV (hr.mono (by first|decide|omega)) rfl T.cv.m T.cv.F.kp T.cv.b .nil cy (aa (pv 3) af ah)) (vJ (own:=["k"]) (ix:=[4]) rfl (by rfl) (by rfl) (Gp rfl T.A1 (aa ai af aB)) (fun _ _ _ _=>(cP (i:=0) (by show List.Nodup (["k", "due"]:List Str);decide +kernel) rfl (zas rfl))) (fun _ _ _ _=>Ax) (fun _ _ _ _=>(fC bY (pv 0) (pv 1) (aP _)))) (aP _))))))))))))),rfl,?_⟩
 have line:zdc=2 ^ 24:=rfl;refine aM fun U1 Ag=>?_;walk_at "rd";intro o fo n fn b fb st fst;refine(Ag _ _).mpr (aM fun U2 rY=>?_);clear Ag;have no:n≠o:=fun z=>by rw[z,ae] at fn;cases fn
 have bn:b≠n:=fun z=>by rw[z,ae] at fb;cases fb
 have bo:b≠o:=fun z=>by rw[z,ao (Ne.symm no),ae] at fb;cases fb
 have sn:st≠b:=fun z=>by rw[z,ae] at fst;cases fst
 have so:st≠o:=fun z=>by rw[z,ao (Ne.symm bo),ao (Ne.symm no),ae] at fst;cases fst
 have WV:st≠n:=fun z=>by rw[z,ao (Ne.symm bn),ae] at fst;cases fst
 have ZD:=fo;have ZE:H n=none:=by rw[ao no] at fn;exact fn
 have Vx:H b=none:=by rw[ao bn,ao bo] at fb;exact fb
 have s0:=(aq.new fo (.lst [])).trans ((aq.new fn (.lst [])).trans ((aq.new fb (.lst [])).trans (aq.new fst (.lst [V.ref o,V.ref n,V.ref b]))));have SN:Nb (upd (upd (upd (upd H o (.lst [])) n (.lst [])) b (.lst [])) st (.lst [V.ref o,V.ref n,V.ref b])) st o n b [] ⟨[],false,[]⟩ 0:=
  {at_:=ae,yo:=by rw[ao (Ne.symm so),ao (Ne.symm bo),ao (Ne.symm no),ae];rfl,yn:=by rw[ao (Ne.symm WV),ao (Ne.symm bn),ae];rfl,yb:=⟨[],by rw[ao (Ne.symm sn),ae];rfl,by simp,zai _⟩,ek:=rfl,on:=Ne.symm no,ob:=Ne.symm bo,nb:=Ne.symm bn,so:=so,sn:=WV,sb:=sn,l5:=by decide,ow:=(fun w hw=>by cases hw),l4:=by decide}
 generalize upd (upd (upd (upd H o (.lst [])) n (.lst [])) b (.lst [])) st (.lst [V.ref o,V.ref n,V.ref b])=H0 at *;walk_at "rd";refine⟨a,ns,0,rfl,s0.seq hS,fun i0=>⟨i0,90,rfl,by decide,by decide,?_⟩⟩;walk_at "rd";generalize decide (stir i0 90%2=1)=lF at *;refine(rY _ _).mpr (aM fun U3 qN=>?_);clear rY;walk_at "rd";intro R fR;have s1:=aq.new fR (.lst []);have yR:(upd H0 R (.lst [])) R=some (.lst []):=ae;have Ro:R≠o:=fun z=>by rw[z,SN.yo] at fR;cases fR
 have Rn:R≠n:=fun z=>by rw[z,SN.yn] at fR;cases fR
 have Rb:R≠b:=fun z=>by obtain⟨_,y,_⟩:=SN.yb;rw[z,y] at fR;cases fR
 have Rs:R≠st:=fun z=>by rw[z,SN.at_] at fR;cases fR
 have ZF:H R=none:=df s0 fR;generalize upd H0 R (.lst [])=H1 at *;refine(qN _ _).mpr (aM fun U4 sZ=>?_);clear qN;walk_at "rd";refine(sZ _ _).mpr (aM fun U5 tf=>?_);clear sZ;have WW:=s0.trans s1;have TF:=SN.mono s1;refine JW fun U6 LY=>?_;walk_at "rd";refine⟨63,rfl,a,_,rfl,WW.seq hS,fun p fp=>?_⟩;obtain⟨ms,em,lm⟩:∃ms:List Int,vc (ns.map V.int) none (some 63)=ms.map V.int/\ms.length<=63:=by
  unfold vc;rw[<- List.map_drop,<- List.map_take];exact⟨_,rfl,by rw[zbh,zaV];lia⟩
 rw[em];have s2:=aq.new fp (.lst (ms.map V.int));have yp:(upd H1 p (.lst (ms.map V.int))) p=some (.lst (ms.map V.int)):=ae;have po:p≠o:=fun z=>by rw[z,TF.yo] at fp;cases fp
 have pn:p≠n:=fun z=>by rw[z,TF.yn] at fp;cases fp
 have pb:p≠b:=fun z=>by obtain⟨_,y,_⟩:=TF.yb;rw[z,y] at fp;cases fp
 have pR:p≠R:=fun z=>by rw[z,yR] at fp;cases fp
 generalize upd H1 p (.lst (ms.map V.int))=H2 at *;refine⟨p,rfl,⟨_,.of yp⟩,LY _ _ (BF (K:=K) (a:=p) (xs:=ms.map V.int) (fun i σ Hx=>∃(op:List W) (d:PM.Df) (rws:List W) (rZ:Int) (x5 x6 x7:Option V),σ=[some (.ref a),some (.ref st),some (.bl lF),some (.ref R),some (.int rZ),x5,x6,x7]/\WU H Hx st o n b R p ms i op d rws rZ) ⟨[],_,[],0,none,none,none,rfl,TF.mono s2,s2 _ _ yR,yp,zai _,(fun r hr=>by cases hr),WW.trans s2,.inl ⟨rfl,rfl⟩⟩ (fun i σ Hx _ z=>by obtain⟨_,_,_,_,_,_,_,_,lw⟩:=z;exact .of lw.yp) ?_ ?_)⟩
 ·intro i x σ Hx hx z;obtain⟨op,d,rws,rZ,x5,x6,x7,rfl,lw⟩:=z;rw[zaN] at hx;obtain⟨cell,hc,rfl⟩:=zbt.mp hx;have hi:i<ms.length:=(zan.mp hc).1;obtain⟨Nx,TH⟩:∃Nx:St->Hp->Prop,∀σ H',Nx σ H'↔∃(op:List W) (d:PM.Df) (rws:List W) (rZ:Int) (x5 x6 x7:Option V),σ=[some (.ref a),some (.ref st),some (.bl lF),some (.ref R),some (.int rZ),x5,x6,x7]/\WU H H' st o n b R p ms (i+1) op d rws rZ:=⟨_,fun _ _=>Iff.rfl⟩
  simp only[<- TH];show IC _ _ _ _ _;refine aM fun V1 WX=>?_;walk_at "rd";simp only[R9];walk_at "rd";refine⟨R,_,lw.yR,fun oR=>⟨cell,rfl,fun l wd f QK QL TJ VE=>⟨QL _ _ ae,?_⟩⟩⟩;have SO:QK R=some (GX R oR):=QL _ _ ae;obtain⟨nl,TK,Np⟩:=VE;have Rl:R≠l:=fun z=>by rw[<- z,SO] at TK;cases TK
  have VF:R≠nl:=fun z=>by rw[<- z,SO] at Np;cases Np
  have s3:aq Hx (upd QK R (.lst (rws.map sv))):=fun y u e=>by
   by_cases hy:y=R
   ·rw[hy,ae,<- e,hy,lw.yR]
   ·rw[ao hy];exact QL _ _ (by rw[ao hy];exact e)
  have rat:Hi K (upd QK R (.lst (rws.map sv))) l wd f:=⟨nl,by rw[ao (Ne.symm Rl)];exact TK,by rw[ao (Ne.symm VF)];exact Np⟩
  have yr:=TK;rw[<- ao (H:=QK) (o:=.lst (rws.map sv)) (Ne.symm Rl)] at yr;have Nm:=Np;rw[<- ao (H:=QK) (o:=.lst (rws.map sv)) (Ne.symm VF)] at Nm;generalize upd QK R (.lst (rws.map sv))=H3 at *;refine(WX _ _).mpr (aM fun V2 WY=>?_);clear WX;walk_at "rd";refine(WY _ _).mpr (aM fun V3 WZ=>?_);clear WY;have pC:PM.PQ f:=PM.FW (iD _ _) TJ.1;have lk:d.dY.length=op.length:=by rw[lw.sl.ek,zae]
  have l5:=lw.sl.l5;have W0:∀(code:Int) (H4:Hp),aq H3 H4->((rZ=0/\code=qy d f)\/(rZ≠0/\code=0))->V3 [some (.ref a),some (.ref st),some (.bl lF),some (.ref R),some (.int rZ),some (.int cell),some (.ref l),some (.int code)] H4:=by
   intro code H4 s4 Lq;have Qn:=s3.trans s4;have VG:=Qn _ _ lw.yR;have Ai:=s4 _ _ yr;refine(WZ _ _).mpr (Kq fun W1 W2 W4 W5=>?_);clear WZ;have skip:W2 [some (.ref a),some (.ref st),some (.bl lF),some (.ref R),some (.int rZ),some (.int cell),some (.ref l),some (.int code)] H4:=by
    refine(W5 _ _).mpr ((TH _ _).mpr ⟨op,d,rws,rZ,_,_,_,rfl,?_⟩);have Oh:=lw.sl.mono Qn;exact {sl:={Oh with yb:=by obtain⟨bs,y1,y2,y3⟩:=Oh.yb;exact⟨bs,y1,y2,by lia⟩},yR:=VG,yp:=Qn _ _ lw.yp,lr:=zbx lw.lr,ok:=lw.ok,kp:=fun y u e=>Qn _ _ (lw.kp y u e),Nn:=lw.Nn}
   have go:W1 [some (.ref a),some (.ref st),some (.bl lF),some (.ref R),some (.int rZ),some (.int cell),some (.ref l),some (.int code)] H4:=by
    refine(W4 _ _).mpr (aM fun X1 W6=>?_);clear W4 W5;walk_at "rd";refine⟨.inl ⟨rfl,_,.of VG⟩,aO (.of Ai) (v:=sv wd) (aF (j:=0) rfl) ⟨R,_,_,rfl,rfl,VG,by rw[zae];have:=lw.lr;lia,(W6 _ _).mpr ?_⟩⟩;clear W6;have Oh:=lw.sl.mono Qn;have u5:∀y u,y≠R->H4 y=some u->(upd H4 R (.lst (rws.map sv++[sv wd]))) y=some u:=fun y u ny e=>by rw[ao ny];exact e
    have y5:(upd H4 R (.lst (rws.map sv++[sv wd]))) R=some (.lst ((rws++[wd]).map sv)):=by rw[ae,zar];rfl
    generalize upd H4 R (.lst (rws.map sv++[sv wd]))=H5 at *;have VH:Nb H5 st o n b op d i:={Oh with at_:=u5 _ _ (Ne.symm Rs) Oh.at_,yo:=u5 _ _ (Ne.symm Ro) Oh.yo,yn:=u5 _ _ (Ne.symm Rn) Oh.yn,yb:=by obtain⟨bs,y1,y2⟩:=Oh.yb;exact⟨bs,u5 _ _ (Ne.symm Rb) y1,y2⟩}
    have VI:Hi K H5 l wd f:=⟨nl,u5 _ _ (Ne.symm Rl) Ai,u5 _ _ (Ne.symm VF) (s4 _ _ Nm)⟩
    have W7:=u5 _ _ pR (Qn _ _ lw.yp);have EN:∀y u,H y=some u->H5 y=some u:=fun y u e=>u5 _ _ (aD e ZF) (Qn _ _ (lw.kp y u e));have W8:(rws++[wd]).length<=i+1:=by rw[zaf,zau];have:=lw.lr;lia
    have W9:∀r∈rws++[wd],r.length<=60/\10 ∉ r:=fun r hr=>(zaz.mp hr).elim (lw.ok r) fun z=>by rw[zal.mp z];exact TJ.2
    have dz:=Lp pC (by rw[lk];exact l5:d.dY.length<=5);have Oi:∀Nq:Int,(∃e,Nq=PM.bp e/\PM.bp e≠0/\PM.cL ⟨[],false,[]⟩ (rws++[wd])=.error e)->Nx [some (.ref a),some (.ref st),some (.bl lF),some (.ref R),some (.int Nq),some (.int cell),some (.ref l),some (.int code)] H5:=fun Nq h=>(TH _ _).mpr ⟨op,d,rws++[wd],Nq,_,_,_,rfl,{sl:={VH with yb:=by obtain⟨bs,y1,y2,y3⟩:=VH.yb;exact⟨bs,y1,y2,by lia⟩},yR:=y5,yp:=W7,lr:=W8,ok:=W9,kp:=EN,Nn:=.inr h}⟩;refine aM fun X2 VJ=>?_;walk_at "rd";refine bq (fun d0=>?_) (fun d0=>?_)
    ·refine bq (fun c0=>?_) (fun c0=>?_)
     ·have ec:qy d f=0:=by
       rcases Lq with ⟨_,e⟩ |⟨e,_⟩
       ·rw[<- e];exact c0
       ·exact absurd d0 e
      have er:PM.cL ⟨[],false,[]⟩ rws=.ok d:=by
       rcases lw.Nn with ⟨_,e⟩ |⟨e,e1,e2,_⟩
       ·exact e
       ·rw[d0] at e1;exact absurd (by lia) e2
      rcases dz with ⟨_,d',ht⟩ |⟨e,e1,e2,_⟩
      ·refine .mk st o n b l op d d' i wd f rfl VH (by lia) VI pC ht fun BI H6 VL ZG=>(VJ _ _).mpr ?_;walk_at "rd";refine⟨rZ,code,rfl,(TH _ _).mpr ⟨BI,d',rws++[wd],_,_,_,_,rfl,{sl:=ZG,yR:=VL _ _ Ro Rn Rb y5,yp:=VL _ _ po pn pb W7,lr:=W8,ok:=W9,kp:=fun y u e=>VL _ _ (aD e ZD) (aD e ZE) (aD e Vx) (EN y u e),Nn:=.inl ⟨?_,by rw[PM.xa er,PM.t9 TJ.1,ht]⟩}⟩⟩;rw[d0,c0];rfl
      ·rw[ec] at e1;exact absurd (by lia) e2
     ·refine(VJ _ _).mpr ?_;walk_at "rd";refine⟨rZ,code,rfl,?_⟩;have ec:qy d f=code:=by
       rcases Lq with ⟨_,e⟩ |⟨e,_⟩
       ·exact e.symm
       ·exact absurd d0 e
      have er:PM.cL ⟨[],false,[]⟩ rws=.ok d:=by
       rcases lw.Nn with ⟨_,e⟩ |⟨e,e1,e2,_⟩
       ·exact e
       ·rw[d0] at e1;exact absurd (by lia) e2
      rcases dz with ⟨e,_⟩ |⟨e,e1,e2,ht⟩
      ·exact absurd (ec.symm.trans e) c0
      ·refine Oi _ ⟨e,?_,e2,by rw[PM.xa er,PM.t9 TJ.1,ht]⟩;rw[d0,<- ec,e1];split<;>lia
    ·refine(VJ _ _).mpr ?_;walk_at "rd";refine⟨rZ,code,rfl,?_⟩;have c0:code=0:=by
      rcases Lq with ⟨e,_⟩ |⟨_,e⟩
      ·exact absurd e d0
      ·exact e
     rcases lw.Nn with ⟨e,_⟩ |⟨e,e1,e2,e3⟩
     ·exact absurd e d0
     ·refine Oi _ ⟨e,?_,e2,PM.Hg e3⟩;rw[c0,e1];split<;>lia
   walk_at "rd";refine bq (fun _=>go) (fun _=>?_);refine bq (fun _=>go) (fun _=>?_);refine⟨cell,82,rfl,by decide,by decide,?_⟩;walk_at "rd";exact bq (fun _=>go) (fun _=>skip)
  walk_at "rd";refine bq (fun h0=>?_) (fun h0=>W0 0 H3 (aq.refl _) (.inr ⟨h0,rfl⟩));exact⟨st,o,n,b,l,op,d,i,wd,f,rfl,lw.sl.mono s3,rat,pC,fun H' s'=>W0 (qy d f) H' s' (.inl ⟨h0,rfl⟩)⟩
 ·intro σ Hx z;obtain⟨op,d,rws,rZ,x5,x6,x7,rfl,lw⟩:=z;refine(tf _ _).mpr (aM fun U7 SA=>?_);clear tf;have sl:=lw.sl;have lk:d.dY.length=op.length:=by rw[sl.ek,zae]
  have l5:=sl.l5;have c0:∀ {e:PM.Er},rZ=0->rZ=PM.bp e->PM.bp e≠0->False:=fun {e} h0 h1 h2=>h2 (by lia);have VM:∀(Hy:Hp) (R':zc4) (BI ER:List W),Hy st=some (.lst [.ref o,.ref n,.ref b])->Hy o=some (.lst (BI.map sv))->Hy R'=some (.lst (ER.map sv))->ER.length<=68->(∀r∈ER,r.length<=60/\10 ∉ r)->((rZ=0/\∃d',PM.cL ⟨[],false,[]⟩ ER=.ok d'/\d'.dY.length=BI.length)\/∃e,rZ=PM.bp e/\PM.bp e≠0/\PM.cL ⟨[],false,[]⟩ ER=.error e)->U7 [some (.ref a),some (.ref st),some (.bl lF),some (.ref R'),some (.int rZ),x5,x6,x7] Hy:=by
   intro Hy R' BI ER ys yo yr lr ok Xa;refine(SA _ _).mpr (aM fun U8 SD=>?_);clear SA;have SQ:∀(Hz:Hp) (R2:zc4) (xS:List W),Hz st=some (.lst [.ref o,.ref n,.ref b])->Hz o=some (.lst (BI.map sv))->Hz R2=some (.lst (xS.map sv))->xS≠[]->xS.length<=68->(∀r∈xS,r.length<=60/\10 ∉ r)->((rZ=0/\∃d',PM.cL ⟨[],false,[]⟩ xS=.ok d'/\d'.dY.length=BI.length)\/∃e,rZ=PM.bp e/\PM.bp e≠0/\PM.cL ⟨[],false,[]⟩ xS=.error e)->U8 [some (.ref a),some (.ref st),some (.bl lF),some (.ref R2),some (.int rZ),x5,x6,x7] Hz:=by
    intro Hz R2 xS zs zo zr ne lr2 Xb SR;refine(SD _ _).mpr (aM fun U9 SE=>?_);clear SD;have fl:xS.flatten.length+xS.length<=2900000:=by
     have:=Aj xS 60 fun r hr=>(Xb r hr).1;lia
    have QJ:∀r∈xS,10 ∉ r:=fun r hr=>(Xb r hr).2;have Sx:¬80<xS.length:=by lia
    have fin:∀(ES:Int) (Hw:Hp),aq Hz Hw->((ES=0/\PM.oC xS=none)\/∃e,ES=PM.bp e/\PM.bp e≠0/\PM.oC xS=some e)->U9 [some (.ref a),some (.ref st),some (.bl lF),some (.ref R2),some (.int ES),x5,x6,x7] Hw:=by
     intro ES Hw sw h2;refine(SE _ _).mpr (aM fun Ua Xc=>?_);clear SE;walk_at "rd";refine bq (fun e0=>?_) (fun e0=>?_)
     ·refine .mk R2 xS rfl (.of (sw _ _ zr)) ne QJ fl fun l H9 s9 y9 p9 f9=>?_;have en:PM.oC xS=none:=by
       rcases h2 with ⟨_,h⟩ |⟨e,e1,e2,_⟩
       ·exact h
       ·exact absurd (by lia) e2
      rw[en] at y9;refine⟨l,p9,[],rfl,rfl,.of (aq.new f9 _ _ _ y9),.of ae,?_⟩;exact q _
     ·refine(Xc _ _).mpr ?_;clear Xc;walk_at "rd";refine .mk R2 xS rfl (.of (sw _ _ zr)) ne QJ fl fun l H9 s9 y9=>?_;obtain⟨e,e1,e2,e3⟩:∃e,ES=PM.bp e/\PM.bp e≠0/\PM.oC xS=some e:=h2.resolve_left fun h=>e0 h.1;rw[e3] at y9;simp only[Jl];walk_at "rd";refine⟨_,rfl,by decide,by decide,fun D hD=>?_⟩;refine JX (n:=14) (r:=[some (V.int ES)]) (fun k=>V.bl (decide (k=PM.bp e))) (by decide) (fun k hk ys R hR=>?_) ?_
      ·walk_at "rd";have:decide ((k:Int)=ES)=decide (k=PM.bp e):=by rw[e1];exact decide_eq_decide.mpr (by lia)
       rw[this];exact hR
      have Xd:=aq.new hD (.lst ((zaW 14).map fun k=>V.bl (decide (k=PM.bp e)))) _ _ y9;have ec:ua (some e)=((zaW 14).map fun k=>decide (k=PM.bp e)).map V.bl:=by unfold ua;rw[zbH];rfl
      have ed:((zaW 14).map fun k=>V.bl (decide (k=PM.bp e)))=((zaW 14).map fun k=>decide (k=PM.bp e)).map V.bl:=by rw[zbH];rfl
      rw[ec] at Xd;refine⟨.lst (((zaW 14).map fun k=>decide (k=PM.bp e)).map Dp.bl),.lst (((zaW 14).map fun k=>decide (k=PM.bp e)).map Dp.bl),Rep.jm.mpr ⟨l,_,rfl,.of Xd,Bf _⟩,Rep.jm.mpr ⟨D,_,rfl,.of (by rw[ae,ed]),Bf _⟩,?_,?_,?_⟩
      ·cases e<;>decide +kernel
      ·cases e<;>decide +kernel
      ·rw[eqv_refl];exact q _
    walk_at "rd";have un:∀(d':PM.Df),PM.cL ⟨[],false,[]⟩ xS=.ok d'->PM.oC xS=if d'.dY=[] then none else some .wZ:=fun d' h=>by
     unfold PM.oC;rw[if_neg Sx,h]
    have ue:∀e,PM.cL ⟨[],false,[]⟩ xS=.error e->PM.oC xS=some e:=fun e h=>by
     unfold PM.oC;rw[if_neg Sx,h]
    refine bq (fun d0=>?_) (fun d0=>?_)
    ·obtain⟨d',hd,ld⟩:∃d',PM.cL ⟨[],false,[]⟩ xS=.ok d'/\d'.dY.length=BI.length:=by
      rcases SR with ⟨_,h⟩ |⟨e,e1,e2,_⟩
      ·exact h
      ·exact(c0 d0 e1 e2).elim
     refine aO (.of zs) (v:=V.ref o) (aF (j:=0) rfl) fun p0 f0=>⟨o,p0,_,rfl,rfl,.of (aq.new f0 _ _ _ zo),.of ae,?_⟩
     have Oj:=aq.new f0 (.lst []);have ko:((BI.map sv).isEmpty=true)↔d'.dY=[]:=by
      rw[zcy,zbL,<- zaO,<- zaO,ld]
     by_cases hk:d'.dY=[]
     ·have e1:(BI.map sv).isEmpty=true:=ko.mpr hk;rw[e1,if_neg (by decide)];exact fin rZ _ Oj (.inl ⟨d0,by rw[un d' hd,if_pos hk]⟩)
     ·have e1:(BI.map sv).isEmpty=false:=zbF.mpr fun z=>hk (ko.mp z);rw[e1,if_pos (by decide)];exact fin 6 _ Oj (.inr ⟨.wZ,rfl,by decide,by rw[un d' hd,if_neg hk]⟩)
    ·refine fin rZ _ (aq.refl _) ?_;rcases SR with ⟨e,_⟩ |⟨e,e1,e2,e3⟩
     ·exact absurd e d0
     ·exact .inr ⟨e,e1,e2,ue e e3⟩
   walk_at "rd";intro p0 f0;refine⟨R',p0,_,rfl,rfl,.of (aq.new f0 _ _ _ yr),.of ae,?_⟩;have Oj:=aq.new f0 (.lst []);generalize upd Hy p0 (.lst [])=Hz at *;cases ER with
   |nil=>
    rw[if_pos (show (zcb sv ([]:List W)).isEmpty=true from rfl)];intro p1 f1;have QM:=aq.new f1 (.lst [V.str (zaa "stop")]);have fs:V.str (zaa "stop")=sv PM.fI:=by rw[FZ];rfl
    refine SQ _ p1 [PM.fI] (QM _ _ (Oj _ _ ys)) (QM _ _ (Oj _ _ yo)) (by rw[ae,fs];rfl) (by simp) (by decide) (fun r hr=>by rw[zal.mp hr];decide) ?_;rcases Xa with ⟨h0,d',hd,ld⟩ |⟨e,e1,e2,e3⟩
    ·refine .inl ⟨h0,⟨[],true,[]⟩,by rw[PM.t9 PM.Hh];rfl,?_⟩;cases hd;exact ld
    ·cases e3
   |cons r0 ZH=>
    rw[if_neg (by simp)];exact SQ _ R' (r0::ZH) (Oj _ _ ys) (Oj _ _ yo) (Oj _ _ yr) (by simp) lr ok Xa
  walk_at "rd";have VN:=lw.lr;rw[zae] at VN;have mY:U7 [some (.ref a),some (.ref st),some (.bl lF),some (.ref R),some (.int rZ),x5,x6,x7] Hx:=by
   refine VM Hx R op rws sl.at_ sl.yo lw.yR (by lia) lw.ok ?_;rcases lw.Nn with ⟨h0,h1⟩ |h
   ·exact .inl ⟨h0,d,h1,lk⟩
   ·exact .inr h
  refine bq (fun d0=>?_) (fun d0=>mY);cases hm:lF with
  |false=>
   rw[hm] at mY;exact mY
  |true=>
   rw[hm] at VM;have er:PM.cL ⟨[],false,[]⟩ rws=.ok d:=by
    rcases lw.Nn with ⟨_,e⟩ |⟨e,e1,e2,_⟩
    ·exact e
    ·exact(c0 d0 e1 e2).elim
   rw[if_pos rfl];intro p1 f1;have QM:=aq.new f1 (.lst [V.str (zaa "end")]);have y1:(upd Hx p1 (.lst [V.str (zaa "end")])) p1=some (.lst [V.str (zaa "end")]):=ae;generalize upd Hx p1 (.lst [V.str (zaa "end")])=Ha at *;have Xe:=QM _ _ sl.at_;have VO:=QM _ _ sl.yo;have ZI:=QM _ _ lw.yR;have en:(([V.str (zaa "end")]:List V))=[sv PM.cm]:=by rw[t7];rfl
   have ef:(zat op.length [V.str (zaa "end")]).flatten=(zat op.length PM.cm).map sv:=by
    rw[en,List.map_replicate];generalize op.length=m
    induction m with
    |zero=>rfl
    |succ m ih=>rw[zbf,zaR,ih];rfl
   refine aO (.of Xe) (v:=V.ref o) (aF (j:=0) rfl) ⟨o,_,rfl,.inl (.of VO),p1,_,_,rfl,rfl,y1,by rw[zae];lia,by rw[zae];lia,by rw[zae,zcj,zau];lia,fun p2 f2=>?_⟩;rw[zae,zcj,ef];have TL:=aq.new f2 (.lst ((zat op.length PM.cm).map sv));have y2:(upd Ha p2 (.lst ((zat op.length PM.cm).map sv))) p2=some (.lst ((zat op.length PM.cm).map sv)):=ae;generalize upd Ha p2 (.lst ((zat op.length PM.cm).map sv))=Hb at *;refine Ah (TL _ _ ZI) y2 (by rw[zae,zae,zbG];lia) fun p3 f3=>?_;have em:rws.map sv++(zat op.length PM.cm).map sv=(rws++zat op.length PM.cm).map sv:=by rw[zar]
   rw[em];have QL:=aq.new f3 (.lst ((rws++zat op.length PM.cm).map sv));have y3:(upd Hb p3 (.lst ((rws++zat op.length PM.cm).map sv))) p3=some (.lst ((rws++zat op.length PM.cm).map sv)):=ae;have Xf:=QL _ _ (TL _ _ Xe);have Xg:=QL _ _ (TL _ _ VO);have ZJ:p3≠o:=fun z=>by rw[z,TL _ _ VO] at f3;cases f3
   generalize upd Hb p3 (.lst ((rws++zat op.length PM.cm).map sv))=Hc at *;refine aO (.of Xf) (v:=V.ref o) (aF (j:=0) rfl) ⟨.inl ⟨rfl,_,.of Xg⟩,o,_,rfl,rfl,Xg,?_⟩;refine VM _ p3 [] (rws++zat op.length PM.cm) (by rw[ao sl.so];exact Xf) ae (by rw[ao ZJ];exact y3) (by rw[zaf,zbG];lia) (fun r hr=>(zaz.mp hr).elim (lw.ok r) fun z=>by rw[(List.mem_replicate.mp z).2];decide) (.inl ⟨d0,_,by rw[PM.xa er,PM.Ac _ _ lk],rfl⟩)
end
end Qa
end
section
set_option maxHeartbeats 4000000
namespace Qa
open PySem L2
section
variable{P:zdg}{w:zc6}{K:zac}{mg:Str->Option zc5}{base:Heap}
theorem all_mk{l:PySem.W.OpenLaw}{h:Heap}{fa:zc4}(X:K.In h)(G:h.Ns zdb mg)(ZK:mg "law"=some (.ref fa))
 {nZ iG eR gY gi gT kz eS dI eC cZ xh nB kR dJ jC fT kS kT fU jD kU dM eB g8 eV jE eW eX eY kW nC F4:zc4}
 {aN:zc4}
 {cn:zc4} {xT pW:Option zc4} {xU:Array (Option zc5)} {xV pX pY pZ lG qa:zc5}
 {bH:zc4} {vw oM:Option zc4} {vz:Array (Option zc5)} {vA oN oO oP kg oQ:zc5}
 {bI:zc4} {xW qb:Option zc4} {xX:Array (Option zc5)} {xY qc qd qf lH qg:zc5}
 {bb:zc4}
 {cS:zc4} {yX qO:Option zc4} {yY:Array (Option zc5)} {yZ qP qQ qR mX qS:zc5}
 {bS:zc4} {rP lI:Option zc4} {rQ:Array (Option zc5)} {rR lJ lK lL gL lM:zc5}
 {bF:zc4} {qh jG:Option zc4} {qi:Array (Option zc5)} {qj jH jI jJ fA jK:zc5}
 {bT:zc4} {rS lN:Option zc4} {rT:Array (Option zc5)} {rV lO lP lQ gM lR:zc5}
 {aK:zc4}
 {ar:zc4}
 {ay:zc4}
 {au:zc4}
 {aw:zc4}
 {aj:zc4}
 {aG:zc4}
 {aQ:zc4}
 {aH:zc4}
 {aR:zc4}
 {bA:zc4}
 {bU:zc4}
 {bB:zc4}
 {bh:zc4}
 {Hr:_}
 {Hs:_}
 {e8:zc4} {C9:Option zc4} {Dc:Array (Option zc5)} {ET:Nat} {tm:Array zc5}
 {xZ:_}
 {x8:_}
 {Bg:_}
 {vB:_}
 {Dd:_}
 {Bh:_}
 {De:_}
 {Bi:_}
 {Dg:_}
 {cT:zc4} {qk:Array DictEntry} {x9:Nat}
 (Nr:FH K "is_of" AN nZ)
 (Ht:FH K "is_name" uc iG)
 (Dh:FH K "is_number" pD eR)
 (Bj:FH K "expression" nX gY)
 (EU:FH K "names_in" rq gi)
 (Di:FH K "pieces_of" pE gT)
 (Hu:FH K "kind_of" ud kz)
 (EV:FH K "sum_from" rA eS)
 (yc:FH K "product_from" kI dI)
 (y0:FH K "factor_from" mE eC)
 (ye:FH K "bracket_from" kJ cZ)
 (Qo:FH K "read" Eu xh)
 (Hv:FH K "form_of" uf nB)
 (EW:FH K "box_form" rB kR)
 (uB:FH K "condition_form" iE dJ)
 (Dj:FH K "name_from" pF jC)
 (y8:FH K "number_from" mF fT)
 (EX:FH K "take_row" rC kS)
 (EY:FH K "take_box" rD kT)
 (za:FH K "is_measured" mG fU)
 (Dk:FH K "take_else" pG jD)
 (EZ:FH K "take_end" rE kU)
 (uC:FH K "take_statement" iF dM)
 (vC:FH K "names_of_form" jR eB)
 (Bk:FH K "bodies_for" nY g8)
 (yf:FH K "_law_cell_at" kK eV)
 (Dl:FH K "_law_stir" pH jE)
 (yh:FH K "_law_refused" kL eW)
 (yi:FH K "_law_any_box" kM eX)
 (yj:FH K "_law_any_row" kN eY)
 (E1:FH K "_law_due" rF kW)
 (HA:FH K "_law_do" ug nC)
 (Ol:FH K "law" KY F4)
 (Lr:zap K zdb "Pieces"=some (some (.ref aN)))
 (HB:zbC K aN Str.empty=true)
 (HC:zaL K aN=true)
 (HD:zbT K aN=true)
 (HE:zaj K (.ref aN) "__setattr__"=some (some (.builtin "object.__setattr__")))
 (zb:zaj K (.ref aN) "__init__"=some (some (.ref cn)))
 (zc:K.lookup cn=some ⟨xV,xT,.func (zaG "__init__" "Pieces.__init__" (cJ cD) (cp cD) (az cD) .none pX pY pZ pW lG qa),xU⟩)
 (zd:za4 K lG "Pieces.__init__"=true)
 (ze:zaQ K (.ref cn)=true)
 (zf:zbo K (.ref cn)=true)
 (uj:zb6 K aN=true)
 (HF:zaQ K (.ref aN)=true)
 (yk:zaj K (.ref aN) "ahead"=some (some (.ref bH)))
 (ym:K.lookup bH=some ⟨vA,vw,.func (zaG "ahead" "Pieces.ahead" (cJ cq) (cp cq) (az cq) .none oN oO oP oM kg oQ),vz⟩)
 (yq:za4 K kg "Pieces.ahead"=true)
 (ql:zaQ K (.ref bH)=true)
 (yt:zbo K (.ref bH)=true)
 (zg:zaj K (.ref aN) "take"=some (some (.ref bI)))
 (zh:K.lookup bI=some ⟨xY,xW,.func (zaG "take" "Pieces.take" (cJ cE) (cp cE) (az cE) .none qc qd qf qb lH qg),xX⟩)
 (zi:za4 K lH "Pieces.take"=true)
 (qT:zaQ K (.ref bI)=true)
 (zj:zbo K (.ref bI)=true)
 (dQ:zaj K (.ref aN) "pieces"=some none)
 (di:zaj K (.ref aN) "place"=some none)
 (Nt:zap K zdb "Draft"=some (some (.ref bb)))
 (Ls:zbC K bb Str.empty=true)
 (Lu:zaL K bb=true)
 (Lv:zbT K bb=true)
 (Lw:zaj K (.ref bb) "__setattr__"=some (some (.builtin "object.__setattr__")))
 (Bl:zaj K (.ref bb) "__init__"=some (some (.ref cS)))
 (Bm:K.lookup cS=some ⟨yZ,yX,.func (zaG "__init__" "Draft.__init__" (cJ cR) (cp cR) (az cR) .none qP qQ qR qO mX qS),yY⟩)
 (Bn:za4 K mX "Draft.__init__"=true)
 (Bo:zaQ K (.ref cS)=true)
 (Bp:zbo K (.ref cS)=true)
 (xj:zb6 K bb=true)
 (Lx:zaQ K (.ref bb)=true)
 (tq:zaj K (.ref bb) "innermost"=some (some (.ref bS)))
 (tw:K.lookup bS=some ⟨rR,rP,.func (zaG "innermost" "Draft.innermost" (cJ bQ) (cp bQ) (az bQ) .none lJ lK lL lI gL lM),rQ⟩)
 (tD:za4 K gL "Draft.innermost"=true)
 (mz:zaQ K (.ref bS)=true)
 (tE:zbo K (.ref bS)=true)
 (qC:zaj K (.ref bb) "second_body"=some (some (.ref bF)))
 (qD:K.lookup bF=some ⟨qj,qh,.func (zaG "second_body" "Draft.second_body" (cJ bE) (cp bE) (az bE) .none jH jI jJ jG fA jK),qi⟩)
 (qE:za4 K fA "Draft.second_body"=true)
 (kl:zaQ K (.ref bF)=true)
 (qF:zbo K (.ref bF)=true)
 (tF:zaj K (.ref bb) "box_names"=some (some (.ref bT)))
 (tG:K.lookup bT=some ⟨rV,rS,.func (zaG "box_names" "Draft.box_names" (cJ bR) (cp bR) (az bR) .none lO lP lQ lN gM lR),rT⟩)
 (tH:za4 K gM "Draft.box_names"=true)
 (mB:zaQ K (.ref bT)=true)
 (tI:zbo K (.ref bT)=true)
 (c6:zaj K (.ref bb) "boxes"=some none)
 (eF:zaj K (.ref bb) "body"=some none)
 (bz:zaj K (.ref bb) "nest"=some none)
 (E2:zap K zdb "RowError"=some (some (.ref aK)))
 (HG:zap K zdb "TooLong"=some (some (.ref ar)))
 (uk:za9 K ar [.type "ValueError",.type "Exception",.type "BaseException",.type "object"] "ValueError.__new__"=true)
 (xk:zam K (.ref ar) (.ref ar)=some true)
 (Nu:zap K zdb "NoRow"=some (some (.ref ay)))
 (eO:za9 K ay [.type "ValueError",.type "Exception",.type "BaseException",.type "object"] "ValueError.__new__"=true)
 (CG:zam K (.ref ay) (.ref ay)=some true)
 (HH:zap K zdb "NoPlace"=some (some (.ref au)))
 (nD:za9 K au [.type "ValueError",.type "Exception",.type "BaseException",.type "object"] "ValueError.__new__"=true)
 (xm:zam K (.ref au) (.ref au)=some true)
 (HI:zap K zdb "TooDeep"=some (some (.ref aw)))
 (um:za9 K aw [.type "ValueError",.type "Exception",.type "BaseException",.type "object"] "ValueError.__new__"=true)
 (xn:zam K (.ref aw) (.ref aw)=some true)
 (Dm:zap K zdb "NoMeasure"=some (some (.ref aj)))
 (pN:za9 K aj [.type "ValueError",.type "Exception",.type "BaseException",.type "object"] "ValueError.__new__"=true)
 (sS:zam K (.ref aj) (.ref aj)=some true)
 (Nv:zap K zdb "Twice"=some (some (.ref aG)))
 (AQ:za9 K aG [.type "ValueError",.type "Exception",.type "BaseException",.type "object"] "ValueError.__new__"=true)
 (CI:zam K (.ref aG) (.ref aG)=some true)
 (Qp:zap K zdb "Full"=some (some (.ref aQ)))
 (Ew:za9 K aQ [.type "ValueError",.type "Exception",.type "BaseException",.type "object"] "ValueError.__new__"=true)
 (F6:zam K (.ref aQ) (.ref aQ)=some true)
 (Nw:zap K zdb "NoBox"=some (some (.ref aH)))
 (AR:za9 K aH [.type "ValueError",.type "Exception",.type "BaseException",.type "object"] "ValueError.__new__"=true)
 (CK:zam K (.ref aH) (.ref aH)=some true)
 (Qq:zap K zdb "Open"=some (some (.ref aR)))
 (Ex:za9 K aR [.type "ValueError",.type "Exception",.type "BaseException",.type "object"] "ValueError.__new__"=true)
 (F8:zam K (.ref aR) (.ref aR)=some true)
 (HJ:zap K zdb "TooMany"=some (some (.ref bA)))
 (Ly:zap K zdb "NoForm"=some (some (.ref bU)))
 (HK:zap K zdb "NoneYet"=some (some (.ref bB)))
 (E3:zap K zdb "NoTarget"=some (some (.ref bh)))
 (xp:zam K (.ref ay) (.ref aK)=some true)
 (HL:zaL K ay=true)
 (HM:zaj K (.ref ay) "__getattribute__"=some (some (.builtin "BaseException.__getattribute__")))
 (HN:zaj K (.ref ay) "__getattr__"=some none)
 (HP:zaj K (.ref ay) "__class__"=some (some (.builtin "object.__class__")))
 (HQ:zaJ K ay (.type "object")=some true)
 (HR:zaJ K ay (.type "BaseException")=some true)
 (xq:zab K (.ref ay) (.type "ValueError")=some true)
 (mq:zab K (.ref ay) (.ref aK)=some true)
 (iN:zab K (.ref ay) (.ref ar)=some false)
 (kX:zab K (.ref ay) (.ref ay)=some true)
 (iO:zab K (.ref ay) (.ref au)=some false)
 (iP:zab K (.ref ay) (.ref aw)=some false)
 (gm:zab K (.ref ay) (.ref aj)=some false)
 (kY:zab K (.ref ay) (.ref aG)=some false)
 (mI:zab K (.ref ay) (.ref aQ)=some false)
 (kZ:zab K (.ref ay) (.ref aH)=some false)
 (mJ:zab K (.ref ay) (.ref aR)=some false)
 (iQ:zab K (.ref ay) (.ref bA)=some false)
 (jS:zab K (.ref ay) (.ref bU)=some false)
 (iR:zab K (.ref ay) (.ref bB)=some false)
 (hX:zab K (.ref ay) (.ref bh)=some false)
 (rG:zam K (.ref au) (.ref aK)=some true)
 (Dn:zaL K au=true)
 (Dq:zaj K (.ref au) "__getattribute__"=some (some (.builtin "BaseException.__getattribute__")))
 (Dr:zaj K (.ref au) "__getattr__"=some none)
 (Ds:zaj K (.ref au) "__class__"=some (some (.builtin "object.__class__")))
 (Dt:zaJ K au (.type "object")=some true)
 (Du:zaJ K au (.type "BaseException")=some true)
 (rH:zab K (.ref au) (.type "ValueError")=some true)
 (kh:zab K (.ref au) (.ref aK)=some true)
 (gn:zab K (.ref au) (.ref ar)=some false)
 (iS:zab K (.ref au) (.ref ay)=some false)
 (gp:zab K (.ref au) (.ref au)=some true)
 (gq:zab K (.ref au) (.ref aw)=some false)
 (e9:zab K (.ref au) (.ref aj)=some false)
 (iU:zab K (.ref au) (.ref aG)=some false)
 (jT:zab K (.ref au) (.ref aQ)=some false)
 (iV:zab K (.ref au) (.ref aH)=some false)
 (jU:zab K (.ref au) (.ref aR)=some false)
 (gr:zab K (.ref au) (.ref bA)=some false)
 (hZ:zab K (.ref au) (.ref bU)=some false)
 (gu:zab K (.ref au) (.ref bB)=some false)
 (fL:zab K (.ref au) (.ref bh)=some false)
 (rJ:zam K (.ref ar) (.ref aK)=some true)
 (Dv:zaL K ar=true)
 (Dw:zaj K (.ref ar) "__getattribute__"=some (some (.builtin "BaseException.__getattribute__")))
 (Dx:zaj K (.ref ar) "__getattr__"=some none)
 (Dy:zaj K (.ref ar) "__class__"=some (some (.builtin "object.__class__")))
 (Dz:zaJ K ar (.type "object")=some true)
 (DA:zaJ K ar (.type "BaseException")=some true)
 (rK:zab K (.ref ar) (.type "ValueError")=some true)
 (ki:zab K (.ref ar) (.ref aK)=some true)
 (gv:zab K (.ref ar) (.ref ar)=some true)
 (iW:zab K (.ref ar) (.ref ay)=some false)
 (gw:zab K (.ref ar) (.ref au)=some false)
 (gx:zab K (.ref ar) (.ref aw)=some false)
 (fc:zab K (.ref ar) (.ref aj)=some false)
 (iX:zab K (.ref ar) (.ref aG)=some false)
 (jV:zab K (.ref ar) (.ref aQ)=some false)
 (iY:zab K (.ref ar) (.ref aH)=some false)
 (jW:zab K (.ref ar) (.ref aR)=some false)
 (gy:zab K (.ref ar) (.ref bA)=some false)
 (ib:zab K (.ref ar) (.ref bU)=some false)
 (gz:zab K (.ref ar) (.ref bB)=some false)
 (fM:zab K (.ref ar) (.ref bh)=some false)
 (rL:zam K (.ref aw) (.ref aK)=some true)
 (DB:zaL K aw=true)
 (DC:zaj K (.ref aw) "__getattribute__"=some (some (.builtin "BaseException.__getattribute__")))
 (DE:zaj K (.ref aw) "__getattr__"=some none)
 (DF:zaj K (.ref aw) "__class__"=some (some (.builtin "object.__class__")))
 (DG:zaJ K aw (.type "object")=some true)
 (DH:zaJ K aw (.type "BaseException")=some true)
 (rM:zab K (.ref aw) (.type "ValueError")=some true)
 (kj:zab K (.ref aw) (.ref aK)=some true)
 (gA:zab K (.ref aw) (.ref ar)=some false)
 (iZ:zab K (.ref aw) (.ref ay)=some false)
 (gB:zab K (.ref aw) (.ref au)=some false)
 (gC:zab K (.ref aw) (.ref aw)=some true)
 (ff:zab K (.ref aw) (.ref aj)=some false)
 (i3:zab K (.ref aw) (.ref aG)=some false)
 (jX:zab K (.ref aw) (.ref aQ)=some false)
 (i4:zab K (.ref aw) (.ref aH)=some false)
 (jY:zab K (.ref aw) (.ref aR)=some false)
 (gD:zab K (.ref aw) (.ref bA)=some false)
 (ic:zab K (.ref aw) (.ref bU)=some false)
 (gE:zab K (.ref aw) (.ref bB)=some false)
 (fN:zab K (.ref aw) (.ref bh)=some false)
 (og:zam K (.ref aj) (.ref aK)=some true)
 (zl:zaL K aj=true)
 (zm:zaj K (.ref aj) "__getattribute__"=some (some (.builtin "BaseException.__getattribute__")))
 (zp:zaj K (.ref aj) "__getattr__"=some none)
 (zt:zaj K (.ref aj) "__class__"=some (some (.builtin "object.__class__")))
 (zu:zaJ K aj (.type "object")=some true)
 (zv:zaJ K aj (.type "BaseException")=some true)
 (oh:zab K (.ref aj) (.type "ValueError")=some true)
 (iA:zab K (.ref aj) (.ref aK)=some true)
 (fh:zab K (.ref aj) (.ref ar)=some false)
 (gF:zab K (.ref aj) (.ref ay)=some false)
 (fj:zab K (.ref aj) (.ref au)=some false)
 (fk:zab K (.ref aj) (.ref aw)=some false)
 (d6:zab K (.ref aj) (.ref aj)=some true)
 (gG:zab K (.ref aj) (.ref aG)=some false)
 (ie:zab K (.ref aj) (.ref aQ)=some false)
 (gH:zab K (.ref aj) (.ref aH)=some false)
 (ij:zab K (.ref aj) (.ref aR)=some false)
 (fq:zab K (.ref aj) (.ref bA)=some false)
 (fO:zab K (.ref aj) (.ref bU)=some false)
 (fw:zab K (.ref aj) (.ref bB)=some false)
 (eH:zab K (.ref aj) (.ref bh)=some false)
 (xt:zam K (.ref aG) (.ref aK)=some true)
 (HS:zaL K aG=true)
 (HU:zaj K (.ref aG) "__getattribute__"=some (some (.builtin "BaseException.__getattribute__")))
 (HV:zaj K (.ref aG) "__getattr__"=some none)
 (HW:zaj K (.ref aG) "__class__"=some (some (.builtin "object.__class__")))
 (HX:zaJ K aG (.type "object")=some true)
 (HY:zaJ K aG (.type "BaseException")=some true)
 (xu:zab K (.ref aG) (.type "ValueError")=some true)
 (mr:zab K (.ref aG) (.ref aK)=some true)
 (i5:zab K (.ref aG) (.ref ar)=some false)
 (lh:zab K (.ref aG) (.ref ay)=some false)
 (ja:zab K (.ref aG) (.ref au)=some false)
 (jb:zab K (.ref aG) (.ref aw)=some false)
 (gI:zab K (.ref aG) (.ref aj)=some false)
 (lp:zab K (.ref aG) (.ref aG)=some true)
 (mK:zab K (.ref aG) (.ref aQ)=some false)
 (lq:zab K (.ref aG) (.ref aH)=some false)
 (mL:zab K (.ref aG) (.ref aR)=some false)
 (jc:zab K (.ref aG) (.ref bA)=some false)
 (jZ:zab K (.ref aG) (.ref bU)=some false)
 (jd:zab K (.ref aG) (.ref bB)=some false)
 (ik:zab K (.ref aG) (.ref bh)=some false)
 (AU:zam K (.ref aR) (.ref aK)=some true)
 (Lz:zaL K aR=true)
 (LD:zaj K (.ref aR) "__getattribute__"=some (some (.builtin "BaseException.__getattribute__")))
 (LF:zaj K (.ref aR) "__getattr__"=some none)
 (LG:zaj K (.ref aR) "__class__"=some (some (.builtin "object.__class__")))
 (LH:zaJ K aR (.type "object")=some true)
 (LJ:zaJ K aR (.type "BaseException")=some true)
 (AV:zab K (.ref aR) (.type "ValueError")=some true)
 (nE:zab K (.ref aR) (.ref aK)=some true)
 (j1:zab K (.ref aR) (.ref ar)=some false)
 (mM:zab K (.ref aR) (.ref ay)=some false)
 (j3:zab K (.ref aR) (.ref au)=some false)
 (j4:zab K (.ref aR) (.ref aw)=some false)
 (il:zab K (.ref aR) (.ref aj)=some false)
 (mO:zab K (.ref aR) (.ref aG)=some false)
 (oj:zab K (.ref aR) (.ref aQ)=some false)
 (mQ:zab K (.ref aR) (.ref aH)=some false)
 (om:zab K (.ref aR) (.ref aR)=some true)
 (j5:zab K (.ref aR) (.ref bA)=some false)
 (lx:zab K (.ref aR) (.ref bU)=some false)
 (j6:zab K (.ref aR) (.ref bB)=some false)
 (je:zab K (.ref aR) (.ref bh)=some false)
 (AW:zam K (.ref aQ) (.ref aK)=some true)
 (LK:zaL K aQ=true)
 (LL:zaj K (.ref aQ) "__getattribute__"=some (some (.builtin "BaseException.__getattribute__")))
 (LM:zaj K (.ref aQ) "__getattr__"=some none)
 (LN:zaj K (.ref aQ) "__class__"=some (some (.builtin "object.__class__")))
 (LO:zaJ K aQ (.type "object")=some true)
 (LP:zaJ K aQ (.type "BaseException")=some true)
 (AX:zab K (.ref aQ) (.type "ValueError")=some true)
 (nF:zab K (.ref aQ) (.ref aK)=some true)
 (j7:zab K (.ref aQ) (.ref ar)=some false)
 (mS:zab K (.ref aQ) (.ref ay)=some false)
 (j8:zab K (.ref aQ) (.ref au)=some false)
 (j9:zab K (.ref aQ) (.ref aw)=some false)
 (ip:zab K (.ref aQ) (.ref aj)=some false)
 (mT:zab K (.ref aQ) (.ref aG)=some false)
 (oo:zab K (.ref aQ) (.ref aQ)=some true)
 (mU:zab K (.ref aQ) (.ref aH)=some false)
 (oq:zab K (.ref aQ) (.ref aR)=some false)
 (ka:zab K (.ref aQ) (.ref bA)=some false)
 (lA:zab K (.ref aQ) (.ref bU)=some false)
 (kb:zab K (.ref aQ) (.ref bB)=some false)
 (jf:zab K (.ref aQ) (.ref bh)=some false)
 (xv:zam K (.ref aH) (.ref aK)=some true)
 (HZ:zaL K aH=true)
 (Ia:zaj K (.ref aH) "__getattribute__"=some (some (.builtin "BaseException.__getattribute__")))
 (Ib:zaj K (.ref aH) "__getattr__"=some none)
 (Ic:zaj K (.ref aH) "__class__"=some (some (.builtin "object.__class__")))
 (Ie:zaJ K aH (.type "object")=some true)
 (Ig:zaJ K aH (.type "BaseException")=some true)
 (xw:zab K (.ref aH) (.type "ValueError")=some true)
 (mv:zab K (.ref aH) (.ref aK)=some true)
 (jg:zab K (.ref aH) (.ref ar)=some false)
 (lB:zab K (.ref aH) (.ref ay)=some false)
 (jh:zab K (.ref aH) (.ref au)=some false)
 (ji:zab K (.ref aH) (.ref aw)=some false)
 (gJ:zab K (.ref aH) (.ref aj)=some false)
 (lC:zab K (.ref aH) (.ref aG)=some false)
 (mV:zab K (.ref aH) (.ref aQ)=some false)
 (lD:zab K (.ref aH) (.ref aH)=some true)
 (mW:zab K (.ref aH) (.ref aR)=some false)
 (jj:zab K (.ref aH) (.ref bA)=some false)
 (kc:zab K (.ref aH) (.ref bU)=some false)
 (jk:zab K (.ref aH) (.ref bB)=some false)
 (iq:zab K (.ref aH) (.ref bh)=some false)
 (Ih:zap K zdb "LETTERS"=some (some (.str "abcdefghijklmnopqrstuvwxyz" Hr)))
 (Ii:zap K zdb "FIGURES"=some (some (.str "0123456789" Hs)))
 (E4:zap K zdb "NO_NAMES"=some (some (.ref e8)))
 (E5:K.lookup e8=some ⟨.type "tuple",C9,.seq tm ET,Dc⟩)
 (ot:Vals [.str "box",.str "ask",.str "put",.str "say",.str "if",.str "else",.str "while",.str "must",.str "stop",.str "end"] tm.toList)
 (yu:zap K zdb "MOST_LETTERS"=some (some (.int 8 xZ)))
 (yv:zap K zdb "MOST_FIGURES"=some (some (.int 3 x8)))
 (Bq:zap K zdb "MOST_SIGNS"=some (some (.int 60 Bg)))
 (vD:zap K zdb "MOST_BRACKETS"=some (some (.int 5 vB)))
 (DI:zap K zdb "MOST_ROWS"=some (some (.int 80 Dd)))
 (Br:zap K zdb "MOST_BOXES"=some (some (.int 4 Bh)))
 (DJ:zap K zdb "MOST_DEEP"=some (some (.int 5 De)))
 (Bs:zap K zdb "LEAST_SIZE"=some (some (.int 2 Bi)))
 (DK:zap K zdb "MOST_SIZE"=some (some (.int 10 Dg)))
 (zw:zap K zdb "WORD_COUNTS"=some (some (.ref cT)))
 (zx:K.lookup cT=some ⟨.type "dict",none,.dict qk x9, #[]⟩)
 (yw:(cT==sysModules)=false)
 (zy:PK l.prog w [(.inr "box",.int 4),(.inr "ask",.int 2),(.inr "put",.int 3),(.inr "say",.int 2),(.inr "must",.int 4),(.inr "if",.int 4),(.inr "else",.int 1),(.inr "while",.int 4),(.inr "end",.int 1),(.inr "stop",.int 1)] qk.toList)
 (mw:zap K zdb "len"=some none)
 (A1:zap K zdb "range"=some none)
 (xB:zap K zdb "int"=some none)
 (Ga:zap K zdb "str"=some none)
 (A2:zap K zdb "tuple"=some none)
 (Lc:zap K zdb "all"=some none)
 (Gb:zap K zdb "max"=some none)
 (bG:zap K zdb "isinstance"=some none)
 (pO:zap K zdb "enumerate"=some none)
 (ou:zap K zdb "ValueError"=some none)
 : ∃fd:zdd,(∀(s:zde) (v:zc5),BindsTo s fd ⟨[v],[]⟩ [("script",v)])/\∀base:Heap,K.In base->base.Ns zdb mg->bC l.prog w K mg base lS 66 fa fd ["script"] (FG K):=by
 have e:=ZK.symm.trans (zaw X G Ol.1);cases e;obtain⟨nA,ku⟩:=qx X G Nr (ps:=["word", "signs"]) fun _ _ _ _ _ _=>GW fun _ _=>rfl;obtain⟨iH,fG⟩:=qx X G Ht (ps:=["word"]) fun _ _ _ _ _ _=>vO fun _=>rfl;obtain⟨fE,du⟩:=qx X G Dh (ps:=["word"]) fun _ _ _ _ _ _=>vO fun _=>rfl;obtain⟨jn,bK⟩:=qx X G Bj (ps:=["word"]) fun _ _ _ _ _ _=>vO fun _=>rfl;obtain⟨gS,bu⟩:=qx X G EU (ps:=["e"]) fun _ _ _ _ _ _=>vO fun _=>rfl;obtain⟨gZ,gU⟩:=qx X G Di (ps:=["word"]) fun _ _ _ _ _ _=>vO fun _=>rfl;obtain⟨kQ,kA⟩:=qx X G Hu (ps:=["sign"]) fun _ _ _ _ _ _=>vO fun _=>rfl;obtain⟨eT,cN⟩:=qx X G EV (ps:=["pieces", "depth"]) fun _ _ _ _ _ _=>GW fun _ _=>rfl;obtain⟨eA,cu⟩:=qx X G yc (ps:=["pieces", "depth"]) fun _ _ _ _ _ _=>GW fun _ _=>rfl;obtain⟨eU,cF⟩:=qx X G y0 (ps:=["pieces", "depth"]) fun _ _ _ _ _ _=>GW fun _ _=>rfl;obtain⟨dg,c5⟩:=qx X G ye (ps:=["pieces", "depth"]) fun _ _ _ _ _ _=>GW fun _ _=>rfl;obtain⟨vT,ui⟩:=qx X G Qo (ps:=["text"]) fun _ _ _ _ _ _=>vO fun _=>rfl;obtain⟨n8,kB⟩:=qx X G Hv (ps:=["row"]) fun _ _ _ _ _ _=>vO fun _=>rfl;obtain⟨me,iI⟩:=qx X G EW (ps:=["words"]) fun _ _ _ _ _ _=>vO fun _=>rfl;obtain⟨eJ,cV⟩:=qx X G uB (ps:=["words"]) fun _ _ _ _ _ _=>vO fun _=>rfl;obtain⟨kn,cz⟩:=qx X G Dj (ps:=["word"]) fun _ _ _ _ _ _=>vO fun _=>rfl;obtain⟨g6,cG⟩:=qx X G y8 (ps:=["word"]) fun _ _ _ _ _ _=>vO fun _=>rfl;obtain⟨mf,iJ⟩:=qx X G EX (ps:=["draft", "number", "form"]) fun _ _ _ _ _ _=>UX fun _ _ _=>rfl;obtain⟨mh,iK⟩:=qx X G EY (ps:=["draft", "number", "box"]) fun _ _ _ _ _ _=>UX fun _ _ _=>rfl;obtain⟨g7,eE⟩:=qx X G za (ps:=["size", "first"]) fun _ _ _ _ _ _=>GW fun _ _=>rfl;obtain⟨kq,gV⟩:=qx X G Dk (ps:=["draft", "number"]) fun _ _ _ _ _ _=>GW fun _ _=>rfl;obtain⟨mi,iL⟩:=qx X G EZ (ps:=["draft", "number"]) fun _ _ _ _ _ _=>GW fun _ _=>rfl;obtain⟨eK,cW⟩:=qx X G uC (ps:=["draft", "number", "form"]) fun _ _ _ _ _ _=>UX fun _ _ _=>rfl;obtain⟨fF,dh⟩:=qx X G vC (ps:=["form"]) fun _ _ _ _ _ _=>vO fun _=>rfl;obtain⟨jo,fH⟩:=qx X G Bk (ps:=["word"]) fun _ _ _ _ _ _=>vO fun _=>rfl;obtain⟨fY,dN⟩:=qx X G yf (ps:=["script", "k"]) fun _ _ _ _ _ _=>GW fun _ _=>rfl;obtain⟨kr,bW⟩:=qx X G Dl (ps:=["cell", "k"]) fun _ _ _ _ _ _=>GW fun _ _=>rfl;obtain⟨fZ,cv⟩:=qx X G yh (ps:=["rows"]) fun _ _ _ _ _ _=>vO fun _=>rfl;obtain⟨f6,dO⟩:=qx X G yi (ps:=["number"]) fun _ _ _ _ _ _=>vO fun _=>rfl;obtain⟨f7,dP⟩:=qx X G yj (ps:=["cell"]) fun _ _ _ _ _ _=>vO fun _=>rfl;obtain⟨mj,iM⟩:=qx X G E1 (ps:=["state", "row"]) fun _ _ _ _ _ _=>GW fun _ _=>rfl;obtain⟨n9,kC⟩:=qx X G HA (ps:=["state", "row"]) fun _ _ _ _ _ _=>GW fun _ _=>rfl;obtain⟨uh,F5⟩:=qx X G Ol (ps:=["script"]) fun _ _ _ _ _ _=>vO fun _=>rfl;have jq:=o9 (st:=cD) zc zd ze;have zz:=jq.binds (ps:=["self", "word"]) fun _ _ _ _ _ _=>GW fun _ _=>rfl;have hG:=o9 (st:=cq) ym yq ql;have yy:=hG.binds (ps:=["self"]) fun _ _ _ _ _ _=>vO fun _=>rfl;have jr:=o9 (st:=cE) zh zi qT;have zA:=jr.binds (ps:=["self"]) fun _ _ _ _ _ _=>vO fun _=>rfl;have kx:=o9 (st:=cR) Bm Bn Bo;have Bt:=kx.binds (ps:=["self"]) fun _ _ _ _ _ _=>vO fun _=>rfl;have eL:=o9 (st:=bQ) tw tD mz;have tJ:=eL.binds (ps:=["self"]) fun _ _ _ _ _ _=>vO fun _=>rfl;have dA:=o9 (st:=bE) qD qE kl;have qG:=dA.binds (ps:=["self"]) fun _ _ _ _ _ _=>vO fun _=>rfl;have eM:=o9 (st:=bR) tG tH mB;have tK:=eM.binds (ps:=["self"]) fun _ _ _ _ _ _=>vO fun _=>rfl
 let t:Ad:=⟨nZ,
  nA,
  iG,
  iH,
  eR,
  fE,
  gY,
  jn,
  gi,
  gS,
  gT,
  gZ,
  kz,
  kQ,
  eS,
  eT,
  dI,
  eA,
  eC,
  eU,
  cZ,
  dg,
  xh,
  vT,
  nB,
  n8,
  kR,
  me,
  dJ,
  eJ,
  jC,
  kn,
  fT,
  g6,
  kS,
  mf,
  kT,
  mh,
  fU,
  g7,
  jD,
  kq,
  kU,
  mi,
  dM,
  eK,
  eB,
  fF,
  g8,
  jo,
  eV,
  fY,
  jE,
  kr,
  eW,
  fZ,
  eX,
  f6,
  eY,
  f7,
  kW,
  mj,
  nC,
  n9,
  fa,
  uh,
  cn,
  zaG "__init__" "Pieces.__init__" (cJ cD) (cp cD) (az cD) .none pX pY pZ pW lG qa,
  bH,
  zaG "ahead" "Pieces.ahead" (cJ cq) (cp cq) (az cq) .none oN oO oP oM kg oQ,
  bI,
  zaG "take" "Pieces.take" (cJ cE) (cp cE) (az cE) .none qc qd qf qb lH qg,
  cS,
  zaG "__init__" "Draft.__init__" (cJ cR) (cp cR) (az cR) .none qP qQ qR qO mX qS,
  bS,
  zaG "innermost" "Draft.innermost" (cJ bQ) (cp bQ) (az bQ) .none lJ lK lL lI gL lM,
  bF,
  zaG "second_body" "Draft.second_body" (cJ bE) (cp bE) (az bE) .none jH jI jJ jG fA jK,
  bT,
  zaG "box_names" "Draft.box_names" (cJ bR) (cp bR) (az bR) .none lO lP lQ lN gM lR,
  aN,
  bb,
  aK,
  ar,
  ay,
  au,
  aw,
  aj,
  aG,
  aQ,
  aH,
  aR,
  bA,
  bU,
  bB,
  bh,
  e8,
  cT⟩
 have T:Tx K mg t:=⟨ku,
  fG,
  du,
  bK,
  bu,
  gU,
  kA,
  cN,
  cu,
  cF,
  c5,
  ui,
  kB,
  iI,
  cV,
  cz,
  cG,
  iJ,
  iK,
  eE,
  gV,
  iL,
  cW,
  dh,
  fH,
  dN,
  bW,
  cv,
  dO,
  dP,
  iM,
  kC,
  F5,
  jq,
  zz,
  hG,
  yy,
  ⟨yk,yt,ql⟩,
  jr,
  zA,
  ⟨zg,zj,qT⟩,
  kx,
  Bt,
  eL,
  tJ,
  ⟨tq,tE,mz⟩,
  dA,
  qG,
  ⟨qC,qF,kl⟩,
  eM,
  tK,
  ⟨tF,tI,mB⟩,
  ⟨HB,HC,HD,HE⟩,
  zaw X G Lr,
  ⟨uj,zb,zf,HF⟩,
  dQ,
  di,
  ⟨Ls,Lu,Lv,Lw⟩,
  zaw X G Nt,
  ⟨xj,Bl,Bp,Lx⟩,
  c6,
  eF,
  bz,
  zaw X G E2,
  ⟨uk⟩,
  xk,
  zaw X G HG,
  ⟨eO⟩,
  CG,
  zaw X G Nu,
  ⟨nD⟩,
  xm,
  zaw X G HH,
  ⟨um⟩,
  xn,
  zaw X G HI,
  ⟨pN⟩,
  sS,
  zaw X G Dm,
  ⟨AQ⟩,
  CI,
  zaw X G Nv,
  ⟨Ew⟩,
  F6,
  zaw X G Qp,
  ⟨AR⟩,
  CK,
  zaw X G Nw,
  ⟨Ex⟩,
  F8,
  zaw X G Qq,
  zaw X G HJ,
  zaw X G Ly,
  zaw X G HK,
  zaw X G E3,
  xp,
  ⟨HL,HM,HN,HP,HQ,HR⟩,
  xq,
  mq,
  iN,
  kX,
  iO,
  iP,
  gm,
  kY,
  mI,
  kZ,
  mJ,
  iQ,
  jS,
  iR,
  hX,
  rG,
  ⟨Dn,Dq,Dr,Ds,Dt,Du⟩,
  rH,
  kh,
  gn,
  iS,
  gp,
  gq,
  e9,
  iU,
  jT,
  iV,
  jU,
  gr,
  hZ,
  gu,
  fL,
  rJ,
  ⟨Dv,Dw,Dx,Dy,Dz,DA⟩,
  rK,
  ki,
  gv,
  iW,
  gw,
  gx,
  fc,
  iX,
  jV,
  iY,
  jW,
  gy,
  ib,
  gz,
  fM,
  rL,
  ⟨DB,DC,DE,DF,DG,DH⟩,
  rM,
  kj,
  gA,
  iZ,
  gB,
  gC,
  ff,
  i3,
  jX,
  i4,
  jY,
  gD,
  ic,
  gE,
  fN,
  og,
  ⟨zl,zm,zp,zt,zu,zv⟩,
  oh,
  iA,
  fh,
  gF,
  fj,
  fk,
  d6,
  gG,
  ie,
  gH,
  ij,
  fq,
  fO,
  fw,
  eH,
  xt,
  ⟨HS,HU,HV,HW,HX,HY⟩,
  xu,
  mr,
  i5,
  lh,
  ja,
  jb,
  gI,
  lp,
  mK,
  lq,
  mL,
  jc,
  jZ,
  jd,
  ik,
  AU,
  ⟨Lz,LD,LF,LG,LH,LJ⟩,
  AV,
  nE,
  j1,
  mM,
  j3,
  j4,
  il,
  mO,
  oj,
  mQ,
  om,
  j5,
  lx,
  j6,
  je,
  AW,
  ⟨LK,LL,LM,LN,LO,LP⟩,
  AX,
  nF,
  j7,
  mS,
  j8,
  j9,
  ip,
  mT,
  oo,
  mU,
  oq,
  ka,
  lA,
  kb,
  jf,
  xv,
  ⟨HZ,Ia,Ib,Ic,Ie,Ig⟩,
  xw,
  mv,
  jg,
  lB,
  jh,
  ji,
  gJ,
  lC,
  mV,
  lD,
  mW,
  jj,
  kc,
  jk,
  iq,
  ⟨_,zaw X G Ih,_,rfl⟩,
  ⟨_,zaw X G Ii,_,rfl⟩,
  zaw X G E4,
  fun _=>.inr ⟨_,_,_,E5,rfl,rfl,by have:=ot.length;simp only[zag,zbe,zbK] at this;rw[<- this];decide,ot⟩,
  ⟨_,zaw X G yu,_,rfl⟩,
  ⟨_,zaw X G yv,_,rfl⟩,
  ⟨_,zaw X G Bq,_,rfl⟩,
  ⟨_,zaw X G vD,_,rfl⟩,
  ⟨_,zaw X G DI,_,rfl⟩,
  ⟨_,zaw X G Br,_,rfl⟩,
  ⟨_,zaw X G DJ,_,rfl⟩,
  ⟨_,zaw X G Bs,_,rfl⟩,
  ⟨_,zaw X G DK,_,rfl⟩,
  zaw X G zw,
  zaX X G mw,
  zaX X G A1,
  zaX X G xB,
  zaX X G Ga,
  zaX X G A2,
  zaX X G Lc,
  zaX X G Gb,
  zaX X G bG,
  zaX X G pO,
  zaX X G ou⟩
 have ZL:Cd l.prog w K t:=⟨QB.mk zx yw zy (by show List.Nodup ([.inr "box",.inr "ask",.inr "put",.inr "say",.inr "must",.inr "if",.inr "else",.inr "while",.inr "end",.inr "stop"]:List Key);decide +kernel) (by show 10<=zdc;decide)⟩
 obtain⟨_,_,_,_,_,_,_,_,_,z,_⟩:=F5.F.ex;exact⟨t.uh,fun s v=>by rw[show t.uh=_ from z];exact .of_eq rfl,fun base _ _=>Qm T ZL⟩
theorem walk{l:PySem.W.OpenLaw}{q:zdg}{loose:List Str}{XP:(Str->Option zc5)->Heap->Prop}{YP:zc6->Heap->Prop}{d:DefRec}{K:Params->zac}(hn:l.most=some 63)(Ru:d.params.defaults=[])
 (hY:∀(w:zc6) (h:Heap),YP w h->(K w.params).In h)
 (F:∀(w:zc6) (mg:Str->Option zc5) (fa:zc4) (h:Heap),(K w.params).In h->h.Ns zdb mg->mg d.name=some (.ref fa)->
  ∃fd:zdd,(∀(s:zde) (u:zc5),BindsTo s fd ⟨[u],[]⟩ [("script",u)])/\∀base:Heap,(K w.params).In base->base.Ns zdb mg->bC l.prog w (K w.params) mg base lS 66 fa fd ["script"] (FG (K w.params))) :
 PySem.W.WalkO q loose XP YP l.row.toRowW d [] (fun f vs=>PySem.call f vs):=
 L2.Mr (n:=63) (k:=66) (x:="script") (CX:=fun _=>lS) (sp:=fun w=>FG (K w.params)) hn (by decide) Ru ⟨rfl,by decide,by decide⟩ hY F (fun _ _ a ns hl _ hS=>⟨a,ns,rfl,hS,hl,fun _=>rfl⟩) fun _ _ _ _ _ z=>z
end
end Qa
end
namespace PySem.W.Fast
theorem tw4944528231524481092:True:=trivial
theorem tw15425443154219662122:True:=trivial
theorem tw14997801594636853777:True:=trivial
theorem tw17476098640533773671:True:=trivial
theorem tw5164788606021559215:True:=trivial
theorem tw393130937080736910:True:=trivial
theorem tw17162548884531725200:True:=trivial
theorem tw6731204322841119854:True:=trivial
theorem tw11386272185035629030:True:=trivial
theorem tw9779390175938418591:True:=trivial
theorem tw13292525228008648412:True:=trivial
theorem tw12695811511181782005:True:=trivial
theorem tw7795559986190177640:True:=trivial
theorem tw5010504162867268718:True:=trivial
theorem tw11527343366830330682:True:=trivial
theorem tw5551961958985438288:True:=trivial
theorem tw16593893510951198322:True:=trivial
theorem tw5595618381323765425:True:=trivial
theorem tw10435754783320101608:True:=trivial
theorem tw2901009507842462156:True:=trivial
theorem tw6609595647276714060:True:=trivial
theorem tw12977689645270014336:True:=trivial
theorem tw17760319623449554662:True:=trivial
theorem tw17473192915559180286:True:=trivial
theorem tw17258057388095739629:True:=trivial
theorem tw1722371185096743988:True:=trivial
theorem tw17740191479225944235:True:=trivial
theorem tw1320924244000379524:True:=trivial
theorem tw3116867087872755053:True:=trivial
theorem tw9719004088653870956:True:=trivial
theorem tw14776126100582655720:True:=trivial
theorem tw13674208353192563737:True:=trivial
theorem tw12526256968111140804:True:=trivial
theorem tw13986863958425553814:True:=trivial
theorem tw10834599462072905321:True:=trivial
theorem tw422266527308872576:True:=trivial
theorem tw10892952097074779910:True:=trivial
theorem tw1988808562193077918:True:=trivial
theorem tw4458262394673955913:True:=trivial
theorem tw2334627091954105352:True:=trivial
theorem tw11605806036337997006:True:=trivial
theorem tw8255432245424902805:True:=trivial
theorem tw2196296478434948266:True:=trivial
theorem tw365219024462669218:True:=trivial
theorem tw13600453924188731126:True:=trivial
theorem tw12505408546806400687:True:=trivial
theorem tw16318417496983369391:True:=trivial
theorem tw1296472623070101650:True:=trivial
theorem tw18164012538548100167:True:=trivial
theorem tw56507927454131117:True:=trivial
theorem tw2407737582124621621:True:=trivial
theorem tw4542092892282924986:True:=trivial
theorem tw10923323838821669465:True:=trivial
theorem tw9613445448632180169:True:=trivial
theorem tw15914911563685549206:True:=trivial
theorem tw1665158585766304745:True:=trivial
theorem tw13912156820625828530:True:=trivial
theorem tw12462455218815026170:True:=trivial
theorem tw15818401141615650707:True:=trivial
theorem tw12503812562750460947:True:=trivial
theorem tw15693909820156073778:True:=trivial
theorem tw8969999059553755149:True:=trivial
theorem tw2315008760780383153:True:=trivial
theorem tw2899274834035499801:True:=trivial
theorem tw1868578465409080552:True:=trivial
theorem tw2675245542259460679:True:=trivial
theorem tw14057540743993180349:True:=trivial
theorem tw310891278854229128:True:=trivial
theorem tw5991627548743413974:True:=trivial
theorem tw14258735835453450268:True:=trivial
theorem tw1455095763101170148:True:=trivial
theorem tw10118761494942528157:True:=trivial
theorem tw13865721743999763895:True:=trivial
theorem tw2195482292428518710:True:=trivial
theorem tw8939997671713958028:True:=trivial
theorem tw5919450090604849805:True:=trivial
theorem tw472181510604235742:True:=trivial
theorem tw7844568523066766158:True:=trivial
theorem tw5299003917477077588:True:=trivial
theorem tw2687442885173761619:True:=trivial
theorem tw10778905863861812455:True:=trivial
theorem tw6651819080441168998:True:=trivial
theorem tw576652293692182920:True:=trivial
theorem tw5339310243923392633:True:=trivial
theorem tw7626805959336516454:True:=trivial
theorem tw8693908681661687929:True:=trivial
theorem tw11829377406164164213:True:=trivial
theorem tw14884017732804052162:True:=trivial
theorem tw16214229746651725305:True:=trivial
theorem tw13162707668509421642:True:=trivial
theorem tw8365504349823461166:True:=trivial
theorem tw6715163412276415256:True:=trivial
theorem tw1903266355008524702:True:=trivial
theorem tw10789864461386939982:True:=trivial
theorem tw17918092991913149584:True:=trivial
theorem tw18317452800104242973:True:=trivial
theorem tw5947999379638189323:True:=trivial
theorem tw10908165790323704210:True:=trivial
theorem tw6027670181259581858:True:=trivial
theorem tw4432351776973671478:True:=trivial
theorem tw6700264602536972959:True:=trivial
theorem tw16335136117703675174:True:=trivial
theorem tw3233837089532911001:True:=trivial
theorem tw12049562171201068333:True:=trivial
theorem tw2078510762120928679:True:=trivial
theorem tw15190541651788229386:True:=trivial
theorem tw2633087035476920108:True:=trivial
theorem tw11691712206426151194:True:=trivial
theorem tw7065821030292190441:True:=trivial
theorem tw2458363510573278649:True:=trivial
theorem tw7221823875595291233:True:=trivial
theorem tw5249741021107262803:True:=trivial
theorem tw14997120302270410750:True:=trivial
theorem tw5112438592480123115:True:=trivial
theorem tw1907199159820428507:True:=trivial
theorem tw12545721656261924961:True:=trivial
theorem tw10620426972942490530:True:=trivial
theorem tw6151795047742644014:True:=trivial
theorem tw16006594049760158692:True:=trivial
theorem tw11161619393531766515:True:=trivial
theorem tw213015210425645439:True:=trivial
theorem tw18336609065894761048:True:=trivial
theorem tw3774695380959639359:True:=trivial
theorem tw221476781188108535:True:=trivial
theorem tw4743020676238672213:True:=trivial
theorem tw10672081580810012337:True:=trivial
theorem tw16713834413919124104:True:=trivial
theorem tw18062584593287565424:True:=trivial
theorem tw9594391631943207582:True:=trivial
theorem tw2191080989405622280:True:=trivial
theorem tw673077555865072185:True:=trivial
theorem tw8248378105197495607:True:=trivial
theorem tw15789981868401379982:True:=trivial
theorem tw6348051878596025705:True:=trivial
theorem tw11053388269035777063:True:=trivial
theorem tw5511815914792694704:True:=trivial
theorem tw12850474626958877908:True:=trivial
theorem tw3159223368788366190:True:=trivial
theorem tw15824606030306174484:True:=trivial
theorem tw65683820861485708:True:=trivial
theorem tw17760544419761096446:True:=trivial
theorem tw12816537347244423514:True:=trivial
theorem tw11004289775661671900:True:=trivial
theorem tw5452252282483533373:True:=trivial
theorem tw8731365496181300133:True:=trivial
theorem tw6164402219587729769:True:=trivial
theorem tw1365191818141779090:True:=trivial
theorem tw5020107021464736009:True:=trivial
theorem tw1399956604532482413:True:=trivial
theorem tw5414724451288325655:True:=trivial
theorem tw11528137244273074566:True:=trivial
theorem tw6542515579535104820:True:=trivial
theorem tw7109307852831190464:True:=trivial
theorem tw770639510081162266:True:=trivial
theorem tw8816564823604386288:True:=trivial
theorem tw4964711732733367974:True:=trivial
theorem tw3441986685349861049:True:=trivial
theorem tw7329767850787036421:True:=trivial
theorem tw14296236878464668999:True:=trivial
theorem tw11415079854281609504:True:=trivial
theorem tw14578983372653985176:True:=trivial
theorem tw6069371039217422822:True:=trivial
theorem tw7429698393299644281:True:=trivial
theorem tw7565842102291030367:True:=trivial
theorem tw17109332267072312920:True:=trivial
theorem tw10769378991250959007:True:=trivial
theorem tw1538622833798006455:True:=trivial
theorem tw1735484336634513351:True:=trivial
theorem tw5986145225894005952:True:=trivial
theorem tw14367500799889108585:True:=trivial
theorem tw10550294850450994519:True:=trivial
theorem tw9364964194636156389:True:=trivial
theorem tw4822372313673233017:True:=trivial
theorem tw11600586170941750644:True:=trivial
theorem tw11693038112269165471:True:=trivial
theorem tw11545682335155489177:True:=trivial
theorem tw7520589627705110075:True:=trivial
theorem tw5201581752911259642:True:=trivial
theorem tw12556743751855953227:True:=trivial
theorem tw14964246317953154198:True:=trivial
theorem tw6495546266751832522:True:=trivial
theorem tw11176529725421158751:True:=trivial
theorem tw335197846705088355:True:=trivial
theorem tw817915971069180755:True:=trivial
theorem tw10523110250622733839:True:=trivial
theorem tw8624079529238945711:True:=trivial
theorem tw17147039266995609574:True:=trivial
theorem tw12418302849544076604:True:=trivial
theorem tw14216987088131272745:True:=trivial
theorem tw4336223193846935689:True:=trivial
theorem tw14297644590910580847:True:=trivial
theorem tw16165884183637577605:True:=trivial
theorem tw7021755512929029139:True:=trivial
theorem tw12660062074618646057:True:=trivial
theorem tw11676757377388870711:True:=trivial
theorem tw4613938833891943569:True:=trivial
theorem tw10557207216643607357:True:=trivial
theorem tw10760964763444437717:True:=trivial
theorem tw16402595213841561238:True:=trivial
theorem tw13612166898299952827:True:=trivial
theorem tw14373916672421363359:True:=trivial
theorem tw15177907719939380222:True:=trivial
theorem tw2057269235433052812:True:=trivial
theorem tw11516343318082305230:True:=trivial
theorem tw3709633456914136982:True:=trivial
theorem tw7632491933811261683:True:=trivial
theorem tw12772990526201460296:True:=trivial
theorem tw14916922886875198625:True:=trivial
theorem tw3398344441711579235:True:=trivial
theorem tw9037977752748363581:True:=trivial
theorem tw5574291616370755551:True:=trivial
theorem tw10168727626841824042:True:=trivial
theorem tw12795791326492673204:True:=trivial
theorem tw9068547106538797904:True:=trivial
theorem tw5055177886235373151:True:=trivial
theorem tw8186209666903267701:True:=trivial
theorem tw1517856080544330395:True:=trivial
theorem tw2881309833010052665:True:=trivial
theorem tw3397935049709040979:True:=trivial
theorem tw3523617025850550700:True:=trivial
end PySem.W.Fast
end
open PySem PySem.W PyProof.Rows
set_option maxRecDepth 100000 in
set_option maxHeartbeats 0 in
theorem PySem.Challenge.cw_everyrow_k08_rows_in_any_order_holds : PySem.Challenge.rw_everyrow_k08_rows_in_any_order.Holds := by
 w_on; o_law; k_head; (case hw=>w_witness2)
 k_fill
 refine Qa.walk (l:=PySem.Challenge.rw_everyrow_k08_rows_in_any_order) rfl rfl (fun w h Y=>PySem.W.kIn_of Y) ?F
 case F=>
   intro w mg fa h KX G Rv
   refine' Qa.all_mk KX G Rv ?_ ?_ ?_ ?_ ?_ ?_ ?_ ?_ ?_ ?_ ?_ ?_ ?_ ?_ ?_ ?_ ?_ ?_ ?_ ?_ ?_ ?_ ?_ ?_ ?_ ?_ ?_ ?_ ?_ ?_ ?_ ?_ ?_ ?_ ?_ ?_ ?_ ?_ ?_ ?_ ?_ ?_ ?_ ?_ ?_ ?_ ?_ ?_ ?_ ?_ ?_ ?_ ?_ ?_ ?_ ?_ ?_ ?_ ?_ ?_ ?_ ?_ ?_ ?_ ?_ ?_ ?_ ?_ ?_ ?_ ?_ ?_ ?_ ?_ ?_ ?_ ?_ ?_ ?_ ?_ ?_ ?_ ?_ ?_ ?_ ?_ ?_ ?_ ?_ ?_ ?_ ?_ ?_ ?_ ?_ ?_ ?_ ?_ ?_ ?_ ?_ ?_ ?_ ?_ ?_ ?_ ?_ ?_ ?_ ?_ ?_ ?_ ?_ ?_ ?_ ?_ ?_ ?_ ?_ ?_ ?_ ?_ ?_ ?_ ?_ ?_ ?_ ?_ ?_ ?_ ?_ ?_ ?_ ?_ ?_ ?_ ?_ ?_ ?_ ?_ ?_ ?_ ?_ ?_ ?_ ?_ ?_ ?_ ?_ ?_ ?_ ?_ ?_ ?_ ?_ ?_ ?_ ?_ ?_ ?_ ?_ ?_ ?_ ?_ ?_ ?_ ?_ ?_ ?_ ?_ ?_ ?_ ?_ ?_ ?_ ?_ ?_ ?_ ?_ ?_ ?_ ?_ ?_ ?_ ?_ ?_ ?_ ?_ ?_ ?_ ?_ ?_ ?_ ?_ ?_ ?_ ?_ ?_ ?_ ?_ ?_ ?_ ?_ ?_ ?_ ?_ ?_ ?_ ?_ ?_ ?_ ?_ ?_ ?_ ?_ ?_ ?_ ?_ ?_ ?_ ?_ ?_ ?_ ?_ ?_ ?_ ?_ ?_ ?_ ?_ ?_ ?_ ?_ ?_ ?_ ?_ ?_ ?_ ?_ ?_ ?_ ?_ ?_ ?_ ?_ ?_ ?_ ?_ ?_ ?_ ?_ ?_ ?_ ?_ ?_ ?_ ?_ ?_ ?_ ?_ ?_ ?_ ?_ ?_ ?_ ?_ ?_ ?_ ?_ ?_ ?_ ?_ ?_ ?_ ?_ ?_ ?_ ?_ ?_ ?_ ?_ ?_ ?_ ?_ ?_ ?_ ?_ ?_ ?_ ?_ ?_ ?_ ?_ ?_ ?_ ?_ ?_ ?_ ?_ ?_ ?_ ?_ ?_ ?_ ?_ ?_ ?_ ?_ ?_ ?_ ?_ ?_ ?_ ?_ ?_ ?_ ?_ ?_ ?_ ?_ ?_ ?_ ?_ ?_ ?_ ?_ ?_ ?_ ?_ ?_ ?_ ?_ ?_ ?_ ?_ ?_ ?_ ?_ ?_ ?_ ?_ ?_ ?_ ?_ ?_
   rotate_left 138
   iterate 33 (refine' L2.FH.of ?a ?l ?c ?k; (case a=>k_is); (case l=>k_is); (case c=>k_is); (case k=>k_is))
   iterate 56 (k_is)
   iterate 1 (k_exc)
   iterate 1 (kts_exm)
   iterate 1 (k_is)
   iterate 1 (k_exc)
   iterate 1 (kts_exm)
   iterate 1 (k_is)
   iterate 1 (k_exc)
   iterate 1 (kts_exm)
   iterate 1 (k_is)
   iterate 1 (k_exc)
   iterate 1 (kts_exm)
   iterate 1 (k_is)
   iterate 1 (k_exc)
   iterate 1 (kts_exm)
   iterate 1 (k_is)
   iterate 1 (k_exc)
   iterate 1 (kts_exm)
   iterate 1 (k_is)
   iterate 1 (k_exc)
   iterate 1 (kts_exm)
   iterate 1 (k_is)
   iterate 1 (k_exc)
   iterate 1 (kts_exm)
   iterate 1 (k_is)
   iterate 1 (k_exc)
   iterate 1 (kts_exm)
   iterate 4 (k_is)
   iterate 1 (kts_exm)
   iterate 6 (k_is)
   iterate 15 (kit_is)
   iterate 1 (kts_exm)
   iterate 6 (k_is)
   iterate 15 (kit_is)
   iterate 1 (kts_exm)
   iterate 6 (k_is)
   iterate 15 (kit_is)
   iterate 1 (kts_exm)
   iterate 6 (k_is)
   iterate 15 (kit_is)
   iterate 1 (kts_exm)
   iterate 6 (k_is)
   iterate 15 (kit_is)
   iterate 1 (kts_exm)
   iterate 6 (k_is)
   iterate 15 (kit_is)
   iterate 1 (kts_exm)
   iterate 6 (k_is)
   iterate 15 (kit_is)
   iterate 1 (kts_exm)
   iterate 6 (k_is)
   iterate 15 (kit_is)
   iterate 1 (kts_exm)
   iterate 6 (k_is)
   iterate 15 (kit_is)
   iterate 4 (k_is)
   iterate 1 (exact .cons ⟨_,rfl⟩ (.cons ⟨_,rfl⟩ (.cons ⟨_,rfl⟩ (.cons ⟨_,rfl⟩ (.cons ⟨_,rfl⟩ (.cons ⟨_,rfl⟩ (.cons ⟨_,rfl⟩ (.cons ⟨_,rfl⟩ (.cons ⟨_,rfl⟩ (.cons ⟨_,rfl⟩ (.nil)))))))))))
   iterate 11 (k_is)
   iterate 1 (rfl)
   iterate 1 (exact .cons (by rfl) ⟨_,rfl⟩ ⟨_,rfl⟩ (.cons (by rfl) ⟨_,rfl⟩ ⟨_,rfl⟩ (.cons (by rfl) ⟨_,rfl⟩ ⟨_,rfl⟩ (.cons (by rfl) ⟨_,rfl⟩ ⟨_,rfl⟩ (.cons (by rfl) ⟨_,rfl⟩ ⟨_,rfl⟩ (.cons (by rfl) ⟨_,rfl⟩ ⟨_,rfl⟩ (.cons (by rfl) ⟨_,rfl⟩ ⟨_,rfl⟩ (.cons (by rfl) ⟨_,rfl⟩ ⟨_,rfl⟩ (.cons (by rfl) ⟨_,rfl⟩ ⟨_,rfl⟩ (.cons (by rfl) ⟨_,rfl⟩ ⟨_,rfl⟩ (.nil)))))))))))
   iterate 10 (k_is)
