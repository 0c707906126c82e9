import PyProof.Rows.All
import Wide.All
import OpenK.AllK
import Wide.FinOn
import Lean
import PyProof.EqAt
import PyProof.EqKinds
import PyProof.TupleCall
import PyProof.AttrMiss
import PyProof.IsiH_list
import PyProof.ZipIter
import PyProof.P3In
import PyProof.StrBlockH
import PyProof.StrLawsIn
import PyProof.FString
import PyProof.EnumMake
import PyProof.Draws
import PySem.Challenge.RW_everyrow_k09_faults_together
set_option compiler.extract_closed false
set_option Elab.async false
set_option linter.all false
set_option maxRecDepth 100000
open PySem.Str renaming ofString->zaa
open PySem.W renaming kitOne->zab,Frag->zac,findIn->zak,exmOne->zao,nsIn->zar,mg_of->zax,fnOf->zaL,mroIn->zaM,hasDictIn->zaO,keepIn->zaS,mg_none_of->zaX,codeIn->za8,emptyDict->za9,excIn->zbf,instObj->zbu,isFn->zbv,plainGet->zbG,looks_findIn->zbM,plainOver->zbV,hideAll->zb7,makesIn->zb8,plainGet_of->zcd,lookIn->zcf,of_hideAll->zch,callWith_K->zcj,methodObj->zcn,any_some->zcB,takerIn->zcI,cellsFrom_some->zcL,hideAll_get->zc3,callWith_K0->zc4,looks_mroIn->zc5
open Bool renaming false_ne_true->zad,and_eq_true->zaJ,false_eq_true->zbc,eq_iff_iff->zbh,eq_false_iff->zbJ,eq_false_or_eq_true->zcz,or_false->zcW,or_eq_true_iff->zc0
open List renaming length_map->zae,length_append->zaf,getElem?_eq_getElem->zag,length_cons->zah,mem_cons->zaj,mem_singleton->zal,replicate->zan,getElem?_eq_some_iff->zap,size_toArray->zaq,mem_cons_of_mem->zas,map_append->zat,length_singleton->zau,map_cons->zaw,mem_append->zay,contains_iff_mem->zaz,getD_eq_getElem?_getD->zaA,mem_cons_self->zaE,getElem?_map->zaF,mem_map->zaK,flatten_cons->zaN,mem_append_right->zaP,replicate_succ->zaQ,append_nil->zaR,getElem_mem->zaT,length_eq_zero_iff->zaU,range->zaV,length_dropLast->zaW,length_drop->zaY,cons_append->zaZ,all_eq_true->za0,getLast?_eq_getElem?->za1,nil_append->za2,length_nil->za3,not_mem_nil->za4,getElem?_append_right->za5,getLast?_eq_none_iff->zba,length_take->zbb,lookup_cons->zbd,mem_append_left->zbg,nodup_cons->zbi,foldl_cons->zbj,getElem?_set_self->zbl,take_of_length_le->zbm,take_succ_eq_append_getElem->zbn,length_replicate->zbo,getElem?_append_left->zbp,getElem?_set_ne->zbq,mem_of_getElem?->zbr,length_set->zbs,mem_range->zbw,find?_cons->zby,append_assoc->zbA,drop_eq_getElem_cons->zbB,getLast?_eq_some_iff->zbC,lookup->zbD,length->zbE,take_length->zbF,map_eq_nil_iff->zbH,headD_cons->zbI,map_map->zbL,mem_filterMap->zbO,getElem_append_left->zbQ,mem_replicate->zbR,reverse_cons->zbT,getLast?_map->zbU,any_cons->zbX,getElem_map->zbZ,mem_iff_getElem->zb3,all_map->zb5,dropLast_concat->zb6,drop_append_of_le_length->zb9,filterMap_cons->zca,getElem_of_mem->zcc,map->zce,flatMap_cons->zcm,getLastD_eq_getLast?->zco,pairwise_iff_getElem->zcp,mem_or_eq_of_mem_set->zcq,getElem_append_right->zcr,map_nil->zcu,flatten_nil->zcv,set->zcx,mem_flatMap->zcy,isEmpty_iff->zcA,getElem?_replicate->zcD,getElem?_cons_succ->zcE,of_mem_zip->zcG,forIn_cons->zcH,drop_of_length_le->zcJ,getElem?_dropLast->zcK,length_filter_le->zcP,drop_zero->zcQ,set_append_right->zcR,dropLast_subset->zcT,extract_toArray->zcU,mem_of_mem_drop->zcV,getLast?->zcX,flatten_append->zcY,length_pos_iff->zcZ,filter_eq_self->zc1,zipWith->zc7
open Nat renaming le_refl->zai,le_trans->zaB,lt_of_lt_of_le->zaD,ne_of_lt->zaG,zero_le->za6,toDigitsCore->zbx,lt_irrefl->zbz,le_succ_of_le->zbK,lt_of_le_of_lt->zbP,lt_succ_self->zbY,sub_self->zb4,digitChar->zcl,le_of_lt->zcs,toDigits->zcw,ne_of_gt->zc6
open Or renaming inl->zam
open Option renaming some->zav,map_eq_some_iff->za7,map_some->zbk,isSome_iff_exists->zct,none->zc8
open PySem.F renaming plainAttrs_list->zaC,slot_list_append->zaH,type_list_append->zaI,plainAttrs_str->zbW,slot_list_pop->zb0,type_list_pop->zb1,args_tuple_add_2->zcC,entry_tuple_add->zcF,slot_tuple_add->zcM,slot_str_split->zcN,type_str_split->zcO,slot_dict_get->zcS
open Int renaming emod_lt_of_pos->zbe,emod_nonneg->zbt,toNat_of_nonneg->zcb,fdiv_eq_ediv_of_nonneg->zck
open Array renaming length_toList->zbN,append_assoc->zcg,toList_append->zc2
open PySem.StrLaws renaming found_one->zbS
open PyProof.Rows renaming slot_tuple_getitem->zb2,callWith_type1->zci
open PySem renaming Addr->zc9,Value->zda,World->zdb,wpAny_bind->zdc,wpAny_pure->zdd,wpAny_holding->zde,starEach->zdf,mainGlobals->zdg,sizeLine->zdh,FuncData->zdi,Shared->zdj,Around->zdk,Program->zdl
noncomputable section
namespace L2
open PySem PySem.Spec PyProof.Rows
abbrev Key:=Sum Int Str
def wV:Key->zda->Bool
 |.inl k,v=>Value.isInt k v
 |.inr x,v=>Value.isStrOf x v
def Vo (w:zdb):Key->Int
 |.inl k=>hashInt k
 |.inr x=>hashStr w x
theorem dA:∀ {k:Key} {v:zda},wV k v=true->(∃i t,k=Sum.inl i/\v=Value.int i t)\/(∃x t,k=Sum.inr x/\v=Value.str x t)
 |.inl i,v,h=>by
  obtain⟨t,e⟩:=Value.isInt_shape (k:=i) (v:=v) h;exact .inl ⟨i,t,rfl,e⟩
 |.inr x,v,h=>by
  obtain⟨t,e⟩:=Value.isStrOf_shape (x:=x) (v:=v) h;exact .inr ⟨x,t,rfl,e⟩
theorem HA(i:Int)(t:Tok):wV (.inl i) (.int i t)=true:=by simp[wV,Value.isInt]
theorem HB(x:Str)(t:Tok):wV (.inr x) (.str x t)=true:=by simp[wV,Value.isStrOf]
theorem Qc(a b:Int):decide ((Sum.inl a:Key)=Sum.inl b)=(a==b):=by
 by_cases e:a=b
 ·subst e;simp
 ·have h:¬(Sum.inl a:Key)=Sum.inl b:=fun q=>e (Sum.inl.inj q);rw[decide_eq_false h];exact(beq_eq_false_iff_ne.mpr e).symm
theorem Qd(a b:Str):decide ((Sum.inr a:Key)=Sum.inr b)=decide (a=b):=by
 by_cases e:a=b
 ·subst e;simp
 ·have h:¬(Sum.inr a:Key)=Sum.inr b:=fun q=>e (Sum.inr.inj q);rw[decide_eq_false h,decide_eq_false e]
theorem Qe(a:Int)(b:Str):decide ((Sum.inl a:Key)=Sum.inr b)=false:=decide_eq_false (fun q=>nomatch q)
theorem Qf(a:Str)(b:Int):decide ((Sum.inr a:Key)=Sum.inl b)=false:=decide_eq_false (fun q=>nomatch q)
def eU (prog:zdl) (w:zdb):PySem.KeyKind prog w Key where
 is:=wV
 hash:=Vo w
 inj:=fun v a b ha hb=>by
  rcases dA ha with ⟨i,t,rfl,rfl⟩ |⟨x,t,rfl,rfl⟩
  ·rcases dA hb with ⟨j,u,rfl,e⟩ |⟨y,u,rfl,e⟩
   ·injection e with e1 _;rw[e1]
   ·exact nomatch e
  ·rcases dA hb with ⟨j,u,rfl,e⟩ |⟨y,u,rfl,e⟩
   ·exact nomatch e
   ·injection e with e1 _;rw[e1]
 byValue:=fun k v h=>by
  rcases dA h with ⟨i,t,rfl,rfl⟩ |⟨x,t,rfl,rfl⟩<;>rfl
 pyHash:=fun hv h=>by
  rcases dA hv with ⟨i,t,rfl,rfl⟩ |⟨x,t,rfl,rfl⟩
  ·exact wpAny_pyHash_int h
  ·exact wpAny_pyHash_str h
 eqBool:=fun hu hv h=>by
  rcases dA hu with ⟨i,t,rfl,rfl⟩ |⟨x,t,rfl,rfl⟩
  ·rcases dA hv with ⟨j,u,rfl,rfl⟩ |⟨y,u,rfl,rfl⟩
   ·rw[Qc] at h;exact wpAny_eqBool_int h
   ·rw[Qe] at h;exact SeqAt.EqAt.int_str i t y u _ _ _ _ h
  ·rcases dA hv with ⟨j,u,rfl,rfl⟩ |⟨y,u,rfl,rfl⟩
   ·rw[Qf] at h;exact SeqAt.EqAt.str_int x t j u _ _ _ _ h
   ·rw[Qd] at h;exact wpAny_eqBool_str h
 «strs»:=fun k x t v h=>by
  rcases dA h with ⟨i,u,rfl,e⟩ |⟨y,u,rfl,e⟩
  ·exact nomatch e
  ·injection e with e1 _
   subst e1;cases v<;>rfl
theorem Cs(prog:zdl)(w:zdb)(i:Int)(t:Tok):(eU prog w).is (.inl i) (.int i t)=true:=HA i t
theorem Ct(prog:zdl)(w:zdb)(x:Str)(t:Tok):(eU prog w).is (.inr x) (.str x t)=true:=HB x t
inductive V where
 |dB |bl (b:Bool) |int (i:Int) |str (x:Str) |Ga (b:Array UInt8) |UA (b:UInt64) |ref (a:zc9) |ty (n:String)
 deriving DecidableEq
def RelV:V->zda->Prop
 |.dB,u=>u=Value.none
 |.bl b,u=>u=Value.bool b
 |.int i,u=>∃t,u=Value.int i t
 |.str x,u=>∃t,u=Value.str x t
 |.Ga b,u=>∃t,u=Value.bytes b t
 |.UA b,u=>∃t,u=Value.float b t
 |.ref a,u=>u=Value.ref a
 |.ty n,u=>u=Value.type n
abbrev Vals:List V->List zda->Prop:=Paired RelV
theorem Vals.length{xs:List V}{us:List zda}(r:Vals xs us):xs.length=us.length:=Paired.length r
theorem Vals.get:∀ {xs:List V} {us:List zda} {i:Nat} {x:V},Vals xs us->xs[i]?=some x->∃u,us[i]?=some u/\RelV x u
 |_,_,_,_,.nil,e=>by simp at e
 |_,_,0,_,.cons r _,e=>by simp at e;subst e;exact⟨_,rfl,r⟩
 |_,_,i+1,x,.cons _ t,e=>by
  obtain⟨u,h1,h2⟩:=Vals.get (i:=i) (x:=x) t (by simpa using e);exact⟨u,by simpa using h1,h2⟩
theorem Vals.set{x:V}{u:zda}(r:RelV x u):∀ {xs:List V} {us:List zda} (i:Nat),Vals xs us->Vals (xs.set i x) (us.set i u)
 |_,_,_,.nil=>.nil
 |_,_,0,.cons _ t=>.cons r t
 |_,_,i+1,.cons q t=>.cons q (Vals.set r i t)
theorem Vals.append:∀ {xs ys:List V} {us ws:List zda},Vals xs us->Vals ys ws->Vals (xs++ys) (us++ws)
 |_,_,_,_,.nil,s=>s
 |_,_,_,_,.cons r t,s=>.cons r (Vals.append t s)
theorem Vals.take:∀ {xs:List V} {us:List zda} (n:Nat),Vals xs us->Vals (xs.take n) (us.take n)
 |_,_,0,_=>.nil
 |_,_,_+1,.nil=>.nil
 |_,_,n+1,.cons r t=>.cons r (Vals.take n t)
theorem Vals.drop:∀ {xs:List V} {us:List zda} (n:Nat),Vals xs us->Vals (xs.drop n) (us.drop n)
 |_,_,0,r=>r
 |_,_,_+1,.nil=>.nil
 |_,_,n+1,.cons _ t=>Vals.drop n t
def pK:Option V->Option zda->Prop
 |some v,some u=>RelV v u
 |none,none=>True
 |_,_=>False
def KV {κ:Type}:List (κ×V)->List (κ×zda)->Prop:=Paired fun (p:κ×V) (q:κ×zda)=>p.1=q.1/\RelV p.2 q.2
def kV:Key->V
 |.inl i=>.int i
 |.inr x=>.str x
inductive HO where
 |lst (xs:List V)
 |tup (xs:List V)
 |dK (bg:List (Key×V)) |dT (bg:List (List Key×V))
 |set (S:Int->Bool) (n:Nat)
 |ins (C dx:zc9) (fs:List (Str×V))
 |own (x:zc9)
 |xd (fs:List (Str×V))
 |met (f x:zc9)
 |UB (lo hi:Int)
 |JK (o:Obj) (u:HO)
 |NB (ps:Array zda)
 |ext (φ:Heap->Prop)
abbrev Hp:=zc9->Option HO
def upd (H:Hp) (a:zc9) (o:HO):Hp:=fun b=>if b=a then some o else H b
theorem ae{H:Hp}{a:zc9}{o:HO}:upd H a o a=some o:=by unfold upd;rw[if_pos rfl]
theorem aq{H:Hp}{a b:zc9}{o:HO}(h:b≠a):upd H a o b=H b:=by unfold upd;rw[if_neg h]
theorem Be{H:Hp}{a:zc9}{o u:HO}:upd (upd H a o) a u=upd H a u:=by
 funext b;unfold upd;split<;>rfl
theorem dC{H:Hp}{a b:zc9}{o u:HO}(h:H a=some o)(h':H b=some u)(d:o≠u):a≠b:=by
 intro e;subst e;rw[h] at h';exact d (zav.inj h')
theorem aI{H:Hp}{a b:zc9}{o:HO}(h:H a=some o)(h':H b=none):a≠b:=by
 intro e;subst e;rw[h] at h';cases h'
section
variable(P:zdl)(w:zdb)
def dN (H:Hp) (h:Heap) (a:zc9):HO->Prop
 |.lst xs=>xs.length<=zdh/\∃(bt:List zda) (n:Nat),Vals xs bt/\h.get? a=some {cls:=.type "list",data:=.seq bt.toArray n}
 |.tup xs=>xs.length<=zdh/\∃bt:List zda,Vals xs bt/\IsTup h a bt.toArray
 |.dK bg=>bg.length<=zdh/\(a==sysModules)=false/\∃vs,KV bg vs/\h.DictOf (eU P w) a vs
 |.dT bg=>bg.length<=zdh/\(a==sysModules)=false/\∃xs:List (List Key×zc9×zda),
  Paired (fun (p:List Key×V) (q:List Key×zc9×zda)=>p.1=q.1/\H q.2.1=some (.tup (p.1.map kV))/\RelV p.2 q.2.2) bg xs/\
  ∃o es ep,h.get? a=some o/\o.ExactDict/\o.data=.dict es ep/\es.toList=xs.map (entryOfKey (tupleKind (eU P w)))/\(xs.map (·.1)).Nodup
 |.set S n=>h.SetOf (intKind P w) a S n
 |.ins C dx fs=>H dx=some (.own a)/\fs.length<=1000/\dx≠a/\h.get? a=some (zbu C dx)/\
  ∃mA,h.Ns1 dx mA/\(∀f,pK (fs.lookup f) (mA f))/\PySem.Within mA (fs.map (·.1))
 |.own _=>∃o,h.get? a=some o
 |.xd fs=>∃mA,h.Ns1 a mA/\∀f,pK (fs.lookup f) (mA f)
 |.UB lo hi=>∃t u v,h.get? a=some {cls:=.type "range",data:=.fields #[.int lo t,.int hi u,.int 1 v]}
 |.JK o u=>h.get? a=some o/\dN H h a u
 |.NB ps=>h.get? a=some {cls:=.none,data:=.fields ps}
 |.met f x=>h.get? a=some (zcn (.ref f) (.ref x))
 |.ext φ=>φ h/\(∃o,h.get? a=some o)/\∀h1 h2:Heap,φ h1->(∀o,h1.get? a=some o->h2.get? a=some o)->φ h2
def sS (H:Hp) (h:Heap):Prop:=∀a o,H a=some o->dN P w H h a o
end
section
variable{P:zdl}{w:zdb}{H H':Hp}{h h':Heap}{a:zc9}{o:HO}
theorem dN.lt(x:dN P w H h a o):a<h.objs.size:=by
 cases o with
 |lst xs=>obtain⟨_,_,_,_,e⟩:=x;exact Heap.lt_size e
 |tup xs=>obtain⟨_,_,_,p⟩:=x;exact p.lt
 |dK bg=>obtain⟨_,_,_,_,o,_,_,e,_⟩:=x;exact Heap.lt_size e
 |dT bg=>obtain⟨_,_,_,_,o,_,_,e,_⟩:=x;exact Heap.lt_size e
 |set S n=>obtain⟨o,_,_,_,e,_⟩:=x;exact Heap.lt_size e
 |ins C dx fs=>obtain⟨_,_,_,e,_⟩:=x;exact Heap.lt_size e
 |own y=>obtain⟨_,e⟩:=x;exact Heap.lt_size e
 |xd fs=>obtain⟨_,⟨_,_,_,e,_⟩,_⟩:=x;exact Heap.lt_size e
 |UB lo hi=>obtain⟨_,_,_,e⟩:=x;exact Heap.lt_size e
 |JK ob u=>obtain⟨e,_⟩:=x;exact Heap.lt_size e
 |NB ps=>exact Heap.lt_size (show h.get? a=some _ from x)
 |met f y=>exact Heap.lt_size (show h.get? a=some _ from x)
 |ext φ=>obtain⟨_,⟨_,e⟩,_⟩:=x;exact Heap.lt_size e
theorem Paired.NC{α β:Type}{F G:α->β->Prop}:∀ {l₁:List α} {l₂:List β},Paired F l₁ l₂->(∀a b,F a b->G a b)->Paired G l₁ l₂
 |_,_,.nil,_=>.nil
 |_,_,.cons r t,f=>.cons (f _ _ r) (Paired.NC t f)
theorem dN.qU(x:dN P w H h a o)(k:∀b u,(b=a\/H b=some (.own a))->h.get? b=some u->h'.get? b=some u)
 (ho:∀b,H b=some (.own a)->H' b=some (.own a)) (ht:∀b xs,H b=some (.tup xs)->H' b=some (.tup xs)):dN P w H' h' a o:=by
 induction o with
 |lst xs=>obtain⟨z,bt,n,r,e⟩:=x;exact⟨z,bt,n,r,k _ _ (.inl rfl) e⟩
 |tup xs=>obtain⟨z,bt,r,ob,e,c⟩:=x;exact⟨z,bt,r,ob,k _ _ (.inl rfl) e,c⟩
 |dK bg=>obtain⟨z,y,vs,r,ob,es,ep,e,c⟩:=x;exact⟨z,y,vs,r,ob,es,ep,k _ _ (.inl rfl) e,c⟩
 |dT bg=>
  obtain⟨z,y,xs,r,ob,es,ep,e,c⟩:=x;exact⟨z,y,xs,Paired.NC r fun p q z=>⟨z.1,ht _ _ z.2.1,z.2.2⟩,ob,es,ep,k _ _ (.inl rfl) e,c⟩
 |set S n=>obtain⟨ob,es,ep,t,e,c⟩:=x;exact⟨ob,es,ep,t,k _ _ (.inl rfl) e,c⟩
 |ins C dx fs=>
  obtain⟨d,z,ne,e,mA,⟨od,es,ep,e2,c⟩,r⟩:=x;exact⟨ho _ d,z,ne,k _ _ (.inl rfl) e,mA,⟨od,es,ep,k _ _ (.inr d) e2,c⟩,r⟩
 |own y=>obtain⟨ob,e⟩:=x;exact⟨ob,k _ _ (.inl rfl) e⟩
 |xd fs=>obtain⟨mA,⟨od,es,ep,e,c⟩,r⟩:=x;exact⟨mA,⟨od,es,ep,k _ _ (.inl rfl) e,c⟩,r⟩
 |UB lo hi=>obtain⟨t,u,v,e⟩:=x;exact⟨t,u,v,k _ _ (.inl rfl) e⟩
 |JK ob u ih=>obtain⟨e,q⟩:=x;exact⟨k _ _ (.inl rfl) e,ih q⟩
 |NB ps=>
  have e:h.get? a=some {cls:=.none,data:=.fields ps}:=x;show h'.get? a=some {cls:=.none,data:=.fields ps};exact k a _ (.inl rfl) e
 |met f y=>
  have e:h.get? a=some (zcn (.ref f) (.ref y)):=x;show h'.get? a=some (zcn (.ref f) (.ref y));exact k a _ (.inl rfl) e
 |ext φ=>obtain⟨p,⟨o,e⟩,st⟩:=x;exact⟨st _ _ p fun o q=>k _ _ (.inl rfl) q,⟨o,k _ _ (.inl rfl) e⟩,st⟩
theorem sS.lt(x:sS P w H h)(e:H a=some o):a<h.objs.size:=(x a o e).lt
theorem sS.fresh(x:sS P w H h)(e:h.objs.size<=a):H a=none:=by
 cases q:H a with
 |none=>rfl
 |some u=>exact absurd (zaD (x.lt q) e) (zbz _)
theorem sS.kept(x:sS P w H h)(k:∀b u,h.get? b=some u->h'.get? b=some u):sS P w H h':=fun a o e=>
 (x a o e).qU (fun b u _ q=>k b u q) (fun _ q=>q) fun _ _ q=>q
theorem sS.laid(x:sS P w H h)(k:∀b u,h.get? b=some u->h'.get? b=some u)(hp:h.objs.size<=a)(new:dN P w (upd H a o) h' a o):sS P w (upd H a o) h':=fun b u e=>by
 have hn:=x.fresh hp;by_cases hb:b=a
 ·subst hb;rw[ae] at e;cases e;exact new
 ·rw[aq hb] at e;exact(x b u e).qU (fun c v _ q=>k c v q) (fun c q=>by rw[aq (aI q hn)];exact q) fun c xs q=>by rw[aq (aI q hn)];exact q
end
def Rd (H:Hp) (a:zc9) (u:HO):Prop:=H a=some u\/∃o,H a=some (.JK o u)
theorem Rd.ok{P:zdl}{w:zdb}{H:Hp}{h:Heap}{a:zc9}{u:HO}(r:Rd H a u)(x:sS P w H h):dN P w H h a u:=by
 rcases r with r |⟨o,r⟩
 ·exact x a u r
 ·obtain⟨_,q⟩:=x a _ r;exact q
def Sm:Option HO->Prop
 |some (.lst _)=>True
 |some (.dK _)=>True
 |some (.dT _)=>True
 |some (.set _ _)=>True
 |some (.ins _ _ _)=>True
 |some (.ext _)=>True
 |_=>False
section
variable{P:zdl}{w:zdb}{H:Hp}{h h':Heap}{x e:zc9}{o':HO}
theorem sS.write(ok:sS P w H h)(mu:Sm (H x))(he:e=x\/H e=some (.own x))(k:∀b u,b≠e->h.get? b=some u->h'.get? b=some u)(RZ:∃u,h'.get? e=some u)
 (new:dN P w (upd H x o') h' x o'):sS P w (upd H x o') h':=fun b u q=>by
 have Sn:∀c y,H c=some (.own y)->c≠x:=fun c y r z=>by subst z;rw[r] at mu;exact mu
 have Vp:∀c xs,H c=some (.tup xs)->c≠x:=fun c xs r z=>by subst z;rw[r] at mu;exact mu
 by_cases hb:b=x
 ·subst hb;rw[ae] at q;cases q;exact new
 ·rw[aq hb] at q;by_cases Qg:b=e
  ·have q':H b=some (.own x):=by
    rcases he with z |z
    ·exact absurd (Qg.trans z) hb
    ·rw[Qg];exact z
   rw[q] at q';cases q';obtain⟨v,hv⟩:=RZ;exact⟨v,by rw[Qg];exact hv⟩
  ·refine(ok b u q).qU (fun c v hc r=>k c v ?_ r) (fun c r=>by rw[aq (Sn c b r)];exact r) fun c xs r=>by rw[aq (Vp c xs r)];exact r
   rcases hc with rfl |hc
   ·exact Qg
   ·rintro rfl
    rcases he with z |z
    ·exact Sn c b hc z
    ·rw[hc] at z;cases z;exact hb rfl
end
structure Un(fs ex:List zc9)(H H':Hp)(h h':Heap):Prop where
 keep:∀b o,h.get? b=some o->H b=none->b ∉ fs->b ∉ ex->h'.get? b=some o
 slot:∀b o,h.get? b=some o->H b=none->b∈fs->b ∉ ex->∃sl,h'.get? b=some {o with slots:=sl}
 free:∀b o,h.get? b=some o->H b=none->b ∉ ex->H' b=none
 there:∀b o,h.get? b=some o->b ∉ ex->∃o',h'.get? b=some o'
 j3:∀b xs,H b=some (.tup xs)->H' b=some (.tup xs)
 ot:∀b o u,H b=some (.JK o u)->H' b=some (.JK o u)
 pD:∀b ps,H b=some (.NB ps)->∃more,H' b=some (.NB (ps++more))
section
variable{fs OW ex Xb:List zc9}{H H1 H2:Hp}{h h1 h2 h':Heap}{a x e:zc9}{o:HO}
theorem Un.any(u:Un fs ex H H1 h h1){b:zc9}{ob:Obj}(q:h.get? b=some ob)(n:H b=none)(hx:b ∉ ex):∃sl,h1.get? b=some {ob with slots:=sl}:=by
 by_cases hb:b∈fs
 ·exact u.slot b ob q n hb hx
 ·exact⟨ob.slots,u.keep b ob q n hb hx⟩
theorem Un.trans(a:Un fs ex H H1 h h1)(b:Un fs ex H1 H2 h1 h2):Un fs ex H H2 h h2 where
 keep:=fun c ob q n hc hx=>b.keep c ob (a.keep c ob q n hc hx) (a.free c ob q n hx) hc hx
 slot:=fun c ob q n hc hx=>by
  obtain⟨sl,e1⟩:=a.slot c ob q n hc hx;obtain⟨Qh,e2⟩:=b.slot c _ e1 (a.free c ob q n hx) hc hx;exact⟨Qh,e2⟩
 free:=fun c ob q n hx=>by
  obtain⟨o',e1⟩:=a.there c ob q hx;exact b.free c o' e1 (a.free c ob q n hx) hx
 there:=fun c ob q hx=>by
  obtain⟨o',e1⟩:=a.there c ob q hx;exact b.there c o' e1 hx
 j3:=fun c xs q=>b.j3 c xs (a.j3 c xs q)
 ot:=fun c ob xs q=>b.ot c ob xs (a.ot c ob xs q)
 pD:=fun c ps q=>by
  obtain⟨m1,e1⟩:=a.pD c ps q;obtain⟨m2,e2⟩:=b.pD c _ e1;exact⟨m1++m2,by rw[e2,zcg]⟩
theorem Un.kept(k:∀b u,h.get? b=some u->h'.get? b=some u):Un fs ex H H h h':=
 ⟨fun b ob q _ _ _=>k b ob q,fun b ob q _ _ _=>⟨ob.slots,k b ob q⟩,fun _ _ _ n _=>n,fun b ob q _=>⟨ob,k b ob q⟩,fun _ _ q=>q,fun _ _ _ q=>q,fun _ ps q=>⟨#[],by rw[q];simp⟩⟩
theorem Un.refl:Un fs ex H H h h:=Un.kept fun _ _ q=>q
theorem Un.laid(k:∀b u,h.get? b=some u->h'.get? b=some u)(hp:h.objs.size<=a)(hn:H a=none):Un fs ex H (upd H a o) h h' where
 keep:=fun b u q _ _ _=>k b u q
 slot:=fun b u q _ _ _=>⟨u.slots,k b u q⟩
 free:=fun b u q n _=>by rw[aq (zaG (zaD (Heap.lt_size q) hp))];exact n
 there:=fun b u q _=>⟨u,k b u q⟩
 j3:=fun b xs q=>by rw[aq (aI q hn)];exact q
 ot:=fun b u xs q=>by rw[aq (aI q hn)];exact q
 pD:=fun b ps q=>⟨#[],by rw[aq (aI q hn),q];simp⟩
theorem Un.write(mu:Sm (H x))(he:e=x\/H e=some (.own x))(k:∀b u,b≠e->h.get? b=some u->h'.get? b=some u)(RZ:∃u,h'.get? e=some u):Un fs ex H (upd H x o) h h':=by
 have hx:∀b,H b=none->b≠x:=fun b n z=>by subst z;rw[n] at mu;exact mu
 have hb:∀b,H b=none->b≠e:=fun b n z=>by
  subst z;rcases he with r |r
  ·exact hx b n r
  ·rw[n] at r;cases r
 have hm:∀b u,H b=some u->¬Sm (some u)->b≠x:=fun b u q nm z=>by subst z;rw[q] at mu;exact nm mu
 refine⟨fun b u q n _ _=>k b u (hb b n) q,fun b u q n _ _=>⟨u.slots,k b u (hb b n) q⟩,fun b u q n _=>by rw[aq (hx b n)];exact n,fun b u q _=>?_,
  fun b xs q=>by rw[aq (hm b _ q fun z=>z)];exact q,fun b u xs q=>by rw[aq (hm b _ q fun z=>z)];exact q,fun b ps q=>⟨#[],by rw[aq (hm b _ q fun z=>z),q];simp⟩⟩
 by_cases Qg:b=e
 ·subst Qg;exact RZ
 ·exact⟨u,k b u Qg q⟩
theorem Un.mono(u:Un fs ex H H1 h h1)(hs:∀b∈fs,b∈OW)(hx:∀b∈ex,b∈Xb):Un OW Xb H H1 h h1:=
 ⟨fun b ob q n hb he=>u.keep b ob q n (fun z=>hb (hs b z)) fun z=>he (hx b z),fun _ _ q n _ he=>u.any q n fun z=>he (hx _ z),fun b ob q n he=>u.free b ob q n fun z=>he (hx b z),fun b ob q he=>u.there b ob q fun z=>he (hx b z),u.j3,u.ot,u.pD⟩
end
def JL (h:Heap) (H:Hp):List zc9:=(zaV h.objs.size).filter fun a=>(H a).isSome
def Bf (h:Heap) (H:Hp):Heap:=zb7 h (JL h H)
theorem HC(h:Heap)(H:Hp):(Bf h H).objs.size=h.objs.size:=PySem.W.hideAll_size _ _
theorem JM{h:Heap}{H:Hp}{b:zc9}{o:Obj}(e:h.get? b=some o)(n:H b=none):(Bf h H).get? b=some o:=
 zc3 _ e fun hm=>by
  have q:(H b).isSome=true:=(List.mem_filter.mp hm).2;rw[n] at q;simp at q
theorem ND{h:Heap}{H:Hp}{b:zc9}{o:Obj}(e:(Bf h H).get? b=some o):h.get? b=some o/\H b=none:=by
 have e':h.get? b=some o:=zch (JL h H) e;refine⟨e',?_⟩;cases q:H b with
 |none=>rfl
 |some x=>
  have hm:b∈JL h H:=List.mem_filter.mpr ⟨zbw.mpr (Heap.lt_size e'),by simp[q]⟩;have z:(Bf h H).get? b=none:=PySem.W.hideAll_none (JL h H) hm;rw[z] at e;cases e
def NF (g h:Heap) (L:zc9):List (zc9×Obj):=(zaV h.objs.size).filterMap fun a=>if a=L\/(g.get? a).isSome=true then none else (h.get? a).map fun o=>(a,o)
def rest (g h:Heap) (L d:zc9):List (zc9×Obj):=(NF g h L).filter fun p=>decide (p.1≠d)
structure Mod(K:zac)(mg:Str->Option zda)(base:Heap):Prop where
 R0:K.In base
 glob:base.Ns zdg mg
 blt:∃mb,base.Ns builtinsNs mb/\∀x:Str,x≠"__name__"->mb x=bootBuiltins x
 nolimit:base.NoLimit
structure Cx where
 prog:zdl
 w:zdb
 K:zac
 mg:Str->Option zda
 base:Heap
 A:zdk
 N:List Str
 s₀:zdj
 H₀:Hp
 env:Env
 outer:List Env
 stack:List Env
 ex:List zc9
 fn:Str->Bool
 calm:Bool
 pn:List (zc9×Obj)
 xe:zda->zdj->Prop
def fM (l:List Env):List zc9:=l.filterMap (·.frame)
abbrev Cx.fs (X:Cx):List zc9:=fM X.outer
def UC (sc:Scope) (x:Str):Prop:=sc.names.lookup x=some .local\/sc.names.lookup x=some .cell\/sc.names.lookup x=some .free
def Loc (sc:Scope) (x:Str):Prop:=sc.names.lookup x=some .local\/sc.names.lookup x=some .cell
def Look (env:Env) (h:Heap) (m:Str->Option zda) (x:Str) (u:zda):Prop:=
 (env.kindOf x=some .local/\m x=some u)\/((env.kindOf x=some .cell\/env.kindOf x=some .free)/\∃c,env.cells.lookup x=some c/\h.IsCell c (some u))
structure Cx.Ok(X:Cx):Prop where
 mod:Mod X.K X.mg X.base
 kind:X.env.scope.kind=.function
 glob:X.env.globals=zdg
 blt:X.env.builtins=builtinsNs
 above:X.s₀.heap.objs.size<=X.env.locals
 inj:∀x y c,X.env.cells.lookup x=some c->X.env.cells.lookup y=some c->x=y
 has:∀x,(X.env.kindOf x=some .cell\/X.env.kindOf x=some .free)->∃c,X.env.cells.lookup x=some c
 NG:∀x c,X.fn x=true->X.env.cells.lookup x=some c->X.s₀.heap.objs.size<=c
 hd:X.calm=true->X.A.handled=none
 frames:X.A.frames=some X.stack
 Np:X.stack=X.outer\/(X.stack=X.env::X.outer/\X.env.frame=some X.env.locals)
 R1:∀b∈X.ex,b≠X.env.locals/\∀x c,X.env.cells.lookup x=some c->c≠b
 bs:∀b o,X.base.get? b=some o->X.s₀.heap.get? b=some o/\X.H₀ b=none
 EN:X.base.objs.size<=X.s₀.heap.objs.size
 Bg:∀b o,X.base.get? b=some o->b ∉ X.ex
 Cu:∀b∈X.ex,b ∉ X.fs
 pL:X.s₀.heap.FunFrames X.base X.outer
 JA:∀b∈X.fs,X.H₀ b=none
structure Inv(X:Cx)(pins:List (zc9×Obj))(σ:List (Option V))(H:Hp)(s:zdj):Prop where
 ok:X.Ok
 os:s.os=X.s₀.os
 bare:AllBare s.gens
 base:Un X.fs X.ex X.H₀ H X.s₀.heap s.heap
 loc:∃m,s.heap.Ns X.env.locals m/\∀(i:Nat) (x:Str) (v:V),X.N[i]?=some x->σ[i]?=some (some v)->UC X.env.scope x->∃u,RelV v u/\Look X.env s.heap m x u
 cell:∀x c,X.env.cells.lookup x=some c->∃v,s.heap.IsCell c v
 free:H X.env.locals=none
 jK:∀x c,X.env.cells.lookup x=some c->H c=none
 pin:∀p∈X.pn++pins,s.heap.get? p.1=some p.2/\H p.1=none/\p.1≠X.env.locals/\p.1 ∉ X.fs/\∀v,p.2.data≠.cell v
 dD:sS X.prog X.w H s.heap
 len:σ.length=X.N.length
section
variable{X:Cx}{pins:List (zc9×Obj)}{σ:List (Option V)}{H H':Hp}{s:zdj}{h':Heap}
theorem Cx.Ok.Vq(ok:X.Ok){b:zc9}{o:Obj}(e:X.base.get? b=some o):b ∉ X.fs:=fun hb=>by
 have:=(ok.pL.mem hb).1;rw[e] at this;cases this
theorem Inv.bs(I:Inv X pins σ H s):∀b o,X.base.get? b=some o->s.heap.get? b=some o/\H b=none:=fun b o e=>
 ⟨I.base.keep b o (I.ok.bs b o e).1 (I.ok.bs b o e).2 (I.ok.Vq e) (I.ok.Bg b o e),I.base.free b o (I.ok.bs b o e).1 (I.ok.bs b o e).2 (I.ok.Bg b o e)⟩
theorem Inv.bk(I:Inv X pins σ H s):∀b o,X.base.get? b=some o->s.heap.get? b=some o:=fun b o e=>(I.bs b o e).1
theorem Inv.mod(I:Inv X pins σ H s):Mod X.K X.mg X.base:=I.ok.mod
theorem Inv.zy(I:Inv X pins σ H s):X.K.In s.heap:=I.ok.mod.R0.keeps I.bk
theorem Inv.fr(I:Inv X pins σ H s):∃m,Fr X.base X.env.locals s.heap m:=
 let ⟨m,hn,_⟩:=I.loc
 ⟨m,hn,I.bk,zaB I.ok.EN I.ok.above⟩
theorem Inv.lt(I:Inv X pins σ H s):X.env.locals<s.heap.objs.size:=let ⟨_,hn,_⟩:=I.loc;hn.lt
theorem Inv.sz(I:Inv X pins σ H s):X.s₀.heap.objs.size<=s.heap.objs.size:=zaB I.ok.above (zcs I.lt)
theorem Inv.Vr(I:Inv X pins σ H s){a:zc9}(h:s.heap.objs.size<=a):a ∉ X.fs:=fun hb=>by
 obtain⟨_,o,ho,_⟩:=I.ok.pL.mem hb;exact absurd (zaD (Heap.lt_size ho) (zaB I.sz h)) (zbz _)
theorem Inv.JN(I:Inv X pins σ H s):∀x c,X.env.cells.lookup x=some c->c≠X.env.locals:=fun x c e z=>by
 obtain⟨v,o,ho,hd⟩:=I.cell x c e;obtain⟨m,⟨o',es,ep,qV,Vs,_⟩,_⟩:=I.loc;rw[z,qV] at ho;cases ho;rw[Vs] at hd;cases hd
theorem Inv.pL(I:Inv X pins σ H s):s.heap.FunFrames X.base X.outer:=by
 have all:∀(l:List Env),(∀b∈fM l,b∈X.fs)->X.s₀.heap.FunFrames X.base l->s.heap.FunFrames X.base l:=by
  intro l
  induction l with
  |nil=>intro _ _;trivial
  |cons env r ih=>
   intro hs hl;obtain⟨hk,⟨L,o,hf,hn,ho,hd⟩,hr⟩:=hl;have hL:L∈X.fs:=hs L (by unfold fM;rw[zca,hf];exact zaE);obtain⟨sl,e⟩:=I.base.slot L o ho (I.ok.JA L hL) hL fun z=>I.ok.Cu L z hL;exact⟨hk,⟨L,_,hf,hn,e,hd⟩,ih (fun b hb=>hs b (by unfold fM;rw[zca,hf];exact zas _ hb)) hr⟩
 exact all X.outer (fun _ hb=>hb) I.ok.pL
theorem Inv.stack(I:Inv X pins σ H s):s.heap.FunFrames X.base X.stack:=by
 rcases I.ok.Np with e |⟨e,hf⟩
 ·rw[e];exact I.pL
 ·rw[e];obtain⟨m,hn,_⟩:=I.loc;refine .cons (by rw[I.ok.kind];decide) hf hn ?_ I.pL;exact Heap.get?_none_of_le (zaB I.ok.EN I.ok.above)
theorem Inv.uw(I:Inv X pins σ H s):∀b∈fM X.stack,b∈X.env.locals::X.fs:=fun b hb=>by
 rcases I.ok.Np with e |⟨e,hf⟩
 ·rw[e] at hb;exact zas _ hb
 ·rw[e] at hb;unfold fM at hb;rw[zca,hf] at hb;exact hb
theorem Inv.wD(I:Inv X pins σ H s):∀b∈fM X.stack,H b=none:=fun b hb=>by
 rcases zaj.mp (I.uw b hb) with e |hb
 ·rw[e];exact I.free
 ·obtain⟨_,o,ho,_⟩:=I.ok.pL.mem hb;exact I.base.free b o ho (I.ok.JA b hb) fun z=>I.ok.Cu b z hb
theorem Inv.step{g':Array GenState}{t':Nat}{d':Drawn}{ch:List zc9}(I:Inv X pins σ H s)
 (Nq:∀b∈ch,(b∈X.ex\/X.s₀.heap.objs.size<=b)/\b≠X.env.locals/\(∀x c,X.env.cells.lookup x=some c->c≠b)/\∀p∈X.pn++pins,p.1≠b)
 (keep:∀b o,b≠X.env.locals->b ∉ X.fs->b ∉ ch->s.heap.get? b=some o->H b=none->h'.get? b=some o)
 (slot:∀b o,b≠X.env.locals->b∈X.fs->b ∉ ch->s.heap.get? b=some o->H b=none->∃sl,h'.get? b=some {o with slots:=sl}) (free:∀b o,b ∉ ch->s.heap.get? b=some o->H b=none->H' b=none)
 (there:∀b o,b ∉ ch->s.heap.get? b=some o->∃o',h'.get? b=some o')
 (j3:∀b xs,H b=some (.tup xs)->H' b=some (.tup xs)) (ot:∀b o u,H b=some (.JK o u)->H' b=some (.JK o u)) (pD:∀b ps,H b=some (.NB ps)->∃more,H' b=some (.NB (ps++more)))
 (ns:∀m,s.heap.Ns X.env.locals m->h'.Ns X.env.locals m) (dD:sS X.prog X.w H' h') (hg:AllBare g') :
 Inv X pins σ H' {s with heap:=h',gens:=g',drawn:=d',toks:=t' }:=by
 have UD:∀b o,X.s₀.heap.get? b=some o->b≠X.env.locals:=fun b o e=>zaG (zaD (Heap.lt_size e) I.ok.above);have UE:∀b o,X.s₀.heap.get? b=some o->b ∉ X.ex->b ∉ ch:=fun b o e hx hb=>by
  rcases(Nq b hb).1 with z |z
  ·exact hx z
  ·exact absurd (zaD (Heap.lt_size e) z) (zbz _)
 have cellK:∀x c,X.env.cells.lookup x=some c->∀v,s.heap.IsCell c v->h'.IsCell c v:=fun x c e v ⟨o,ho,hd⟩=>by
  have So:c ∉ ch:=fun z=>(Nq c z).2.2.1 x c e rfl;by_cases hc:c∈X.fs
  ·obtain⟨sl,q⟩:=slot c o (I.JN x c e) hc So ho (I.jK x c e);exact⟨_,q,hd⟩
  ·exact⟨o,keep c o (I.JN x c e) hc So ho (I.jK x c e),hd⟩
 refine⟨I.ok,I.os,hg,⟨fun b o e n hb hx=>?_,fun b o e n hb hx=>?_,fun b o e n hx=>?_,fun b o e hx=>?_,fun b xs e=>j3 b xs (I.base.j3 b xs e),fun b o xs e=>ot b o xs (I.base.ot b o xs e),fun b ps e=>?_⟩,?_,fun x c e=>?_,?_,fun x c e=>?_,fun p hp=>?_,dD,I.len⟩
 ·exact keep b o (UD b o e) hb (UE b o e hx) (I.base.keep b o e n hb hx) (I.base.free b o e n hx)
 ·obtain⟨sl,e1⟩:=I.base.slot b o e n hb hx;obtain⟨Qh,e2⟩:=slot b _ (UD b o e) hb (UE b o e hx) e1 (I.base.free b o e n hx);exact⟨Qh,e2⟩
 ·obtain⟨o',e1⟩:=I.base.there b o e hx;exact free b o' (UE b o e hx) e1 (I.base.free b o e n hx)
 ·obtain⟨o',e1⟩:=I.base.there b o e hx;exact there b o' (UE b o e hx) e1
 ·obtain⟨m1,e1⟩:=I.base.pD b ps e;obtain⟨m2,e2⟩:=pD b _ e1;exact⟨m1++m2,by rw[e2,zcg]⟩
 ·obtain⟨m,hn,hl⟩:=I.loc;refine⟨m,ns m hn,fun i x v e1 e2 e3=>?_⟩;obtain⟨u,r,l⟩:=hl i x v e1 e2 e3;refine⟨u,r,?_⟩;rcases l with l |⟨k,c,e,z⟩
  ·exact .inl l
  ·exact .inr ⟨k,c,e,cellK x c e _ z⟩
 ·obtain⟨v,z⟩:=I.cell x c e;exact⟨v,cellK x c e v z⟩
 ·obtain⟨m,⟨o,_,_,ho,_⟩,_⟩:=I.loc;exact free _ o (fun z=>(Nq _ z).2.1 rfl) ho I.free
 ·obtain⟨v,o,ho,hd⟩:=I.cell x c e;exact free c o (fun z=>(Nq c z).2.2.1 x c e rfl) ho (I.jK x c e)
 ·obtain⟨e,n,ne,nf,d⟩:=I.pin p hp;have So:p.1 ∉ ch:=fun z=>(Nq p.1 z).2.2.2 p hp rfl;exact⟨keep p.1 p.2 ne nf So e n,free p.1 p.2 So e n,ne,nf,d⟩
theorem Inv.un{t':Nat}(I:Inv X pins σ H s)(u:Un X.fs [] H H' s.heap h')(dD:sS X.prog X.w H' h'):Inv X pins σ H' {s with heap:=h',toks:=t' }:=by
 obtain⟨m,⟨o,es,ep,ho,r⟩,_⟩:=id I.loc;obtain⟨sl,hL⟩:=u.any ho I.free (by simp);exact I.step (g':=s.gens) (d':=s.drawn) (ch:=[]) (fun _ z=>nomatch z) (fun b o _ hb _ e n=>u.keep b o e n hb (by simp)) (fun b o _ hb _ e n=>u.slot b o e n hb (by simp)) (fun b o _ e n=>u.free b o e n (by simp)) (fun b o _ e=>u.there b o e (by simp)) u.j3 u.ot u.pD (fun m' hm=>by
  obtain⟨o',Sq,Vt,qV,r'⟩:=hm;rw[ho] at qV;cases qV;exact⟨_,Sq,Vt,hL,r'⟩) dD I.bare
theorem Inv.call{g':Array GenState}{t':Nat}{d':Drawn}{ch:List zc9}(I:Inv X pins σ H s)(u:Un (fM X.stack) ch H H' s.heap h')(dD:sS X.prog X.w H' h')(hg:AllBare g')
 (Nq:∀b∈ch,(b∈X.ex\/X.s₀.heap.objs.size<=b)/\b≠X.env.locals/\(∀x c,X.env.cells.lookup x=some c->c≠b)/\∀p∈X.pn++pins,p.1≠b) :
 Inv X pins σ H' {s with heap:=h',gens:=g',drawn:=d',toks:=t' }:=by
 obtain⟨m,⟨o,es,ep,ho,r⟩,_⟩:=id I.loc;obtain⟨sl,hL⟩:=u.any ho I.free fun z=>(Nq _ z).2.1 rfl;exact I.step (ch:=ch) Nq (fun b o hL hb hc e n=>u.keep b o e n (fun z=>(zaj.mp (I.uw b z)).elim hL hb) hc) (fun b o _ _ hc e n=>u.any e n hc) (fun b o hc e n=>u.free b o e n hc) (fun b o hc e=>u.there b o e hc) u.j3 u.ot u.pD (fun m' hm=>by
  obtain⟨o',Sq,Vt,qV,r'⟩:=hm;rw[ho] at qV;cases qV;exact⟨_,Sq,Vt,hL,r'⟩) dD hg
theorem Inv.turned{t':Nat}{it:zc9}(I:Inv X pins σ H s)(k:∀b o,b≠it->s.heap.get? b=some o->h'.get? b=some o)(hn:H it=none)(hL:it≠X.env.locals)
 (h1:it∈X.ex\/X.s₀.heap.objs.size<=it) (h2:∀x c,X.env.cells.lookup x=some c->c≠it) (h3:∀p∈X.pn++pins,p.1≠it):Inv X pins σ H {s with heap:=h',toks:=t' }:=by
 have Sr:∀b u,H b=some u->b≠it:=fun b u e z=>by rw[z,hn] at e;cases e
 refine I.step (g':=s.gens) (d':=s.drawn) (ch:=[it]) (fun b hb=>?_) (fun b o _ _ hc e _=>k b o (fun z=>hc (by simp[z])) e) (fun b o _ _ hc e _=>⟨o.slots,k b o (fun z=>hc (by simp[z])) e⟩) (fun _ _ _ _ n=>n)
  (fun b o hc e=>⟨o,k b o (fun z=>hc (by simp[z])) e⟩) (fun _ _ e=>e) (fun _ _ _ e=>e) (fun b ps e=>⟨#[],by rw[e];simp⟩) (fun m hm=>?_) (fun b u e=>?_) I.bare
 ·have e:b=it:=by simpa using hb
  subst e;exact⟨h1,hL,h2,h3⟩
 ·obtain⟨o,es,ep,ho,r⟩:=hm;exact⟨o,es,ep,k _ o (Ne.symm hL) ho,r⟩
 ·refine(I.dD b u e).qU (fun c v hc q=>k c v ?_ q) (fun _ q=>q) fun _ _ q=>q;rcases hc with z |z
  ·rw[z];exact Sr b u e
  ·exact Sr c _ z
theorem Inv.tok(I:Inv X pins σ H s)(t:Nat):Inv X pins σ H {s with toks:=t}:=I.un (h':=s.heap) (t':=t) Un.refl I.dD
theorem Inv.kept{t':Nat}(I:Inv X pins σ H s)(k:∀b u,s.heap.get? b=some u->h'.get? b=some u):Inv X pins σ H {s with heap:=h',toks:=t' }:=I.un (Un.kept k) (I.dD.kept k)
theorem Inv.laid{a:zc9}{o:HO}{t':Nat}(I:Inv X pins σ H s)(k:∀b u,s.heap.get? b=some u->h'.get? b=some u)(hp:s.heap.objs.size<=a)(new:dN X.prog X.w (upd H a o) h' a o) :
 Inv X pins σ (upd H a o) {s with heap:=h',toks:=t' }:=I.un (Un.laid k hp (I.dD.fresh hp)) (I.dD.laid k hp new)
theorem Inv.write{x e:zc9}{o:HO}{t':Nat}(I:Inv X pins σ H s)(mu:Sm (H x))(he:e=x\/H e=some (.own x))(k:∀b u,b≠e->s.heap.get? b=some u->h'.get? b=some u)(RZ:∃u,h'.get? e=some u)
 (new:dN X.prog X.w (upd H x o) h' x o):Inv X pins σ (upd H x o) {s with heap:=h',toks:=t' }:=I.un (Un.write mu he k RZ) (I.dD.write mu he k RZ new)
theorem Inv.Gb{vt:List (zc9×Obj)}(I:Inv X pins σ H s)(h:∀p∈vt,s.heap.get? p.1=some p.2/\H p.1=none/\p.1≠X.env.locals/\p.1 ∉ X.fs/\∀v,p.2.data≠.cell v):Inv X vt σ H s:=
 ⟨I.ok,I.os,I.bare,I.base,I.loc,I.cell,I.free,I.jK,fun p hp=>(zay.mp hp).elim (fun z=>I.pin p (zbg _ z)) (h p),I.dD,I.len⟩
theorem wW{N:List Str}(hN:N.Nodup){i j:Nat}{x:Str}(a:N[i]?=some x)(b:N[j]?=some x):i=j:=by
 obtain⟨h1,e1⟩:=zap.mp a;obtain⟨h2,e2⟩:=zap.mp b;exact(List.getElem_inj hN).mp (e1.trans e2.symm)
theorem HD{M:Model}{A:zdk}{E:zda->zdj->Prop}{i:Nat}{x:Str}{v:V}{u:zda}{Q:Unit->zdj->Prop}(I:Inv X pins σ H s)(hN:X.N.Nodup)(hi:X.N[i]?=some x)(hx:Loc X.env.scope x)(r:RelV v u)
 (h:∀s',Inv X pins (σ.set i (some v)) H s'->(∃a,Heap.SameBut a s.heap s'.heap/\(a=X.env.locals\/X.env.cells.lookup x=some a))->Q () s') (hf:X.fn x=true\/X.env.scope.names.lookup x=some .local:=by first |exact .inl rfl |exact .inr rfl |assumption):wpAny M A (storeName X.env x u) Q E s:=by
 obtain⟨m,hn,hl⟩:=id I.loc;have Vu:(X.env.scope.kind==.class ||(X.env.scope.kind==.module&&X.env.locals != X.env.globals))=false:=by rw[I.ok.kind];rfl
 have Ss:i<σ.length:=by rw[I.len];exact(zap.mp hi).1
 have JN:=I.JN;have tracked:∀ {a:zc9} {h':Heap},(∃o,s.heap.get? a=some o/\H a=none)->Heap.SameBut a s.heap h'->sS X.prog X.w H h':=fun {a h'} ha hs b ob e=>by
  obtain⟨_,_,sU⟩:=ha;refine(I.dD b ob e).qU (fun c w' hc q=>(hs.2 c ?_).trans q) (fun _ q=>q) fun _ _ q=>q
  rintro rfl
  rcases hc with rfl |hc
  ·rw[sU] at e;cases e
  ·rw[sU] at hc;cases hc
 rcases hx with hk |hk
 ·refine wpAny_storeName_local hk hn (fun h' Vv hs=>?_) Vu;obtain⟨oL,_,_,UG,_⟩:=id hn;refine h _ ⟨I.ok,I.os,I.bare,⟨fun b o e n hb hx=>?_,fun b o e n hb hx=>?_,I.base.free,fun b o e hx=>?_,I.base.j3,I.base.ot,I.base.pD⟩,⟨_,Vv,fun j y v' e1 e2 e3=>?_⟩,fun y c e=>?_,I.free,I.jK,fun p hp=>?_,tracked ⟨oL,UG,I.free⟩ hs,by simpa using I.len⟩ ⟨_,hs,.inl rfl⟩
  ·exact(hs.2 b (zaG (zaD (Heap.lt_size e) I.ok.above))).trans (I.base.keep b o e n hb hx)
  ·obtain⟨sl,e1⟩:=I.base.slot b o e n hb hx;exact⟨sl,(hs.2 b (zaG (zaD (Heap.lt_size e) I.ok.above))).trans e1⟩
  ·obtain⟨o',e1⟩:=I.base.there b o e hx;exact⟨o',(hs.2 b (zaG (zaD (Heap.lt_size e) I.ok.above))).trans e1⟩
  ·by_cases hj:j=i
   ·subst hj;rw[hi] at e1;cases e1;rw[zbl Ss] at e2;cases e2;exact⟨u,r,.inl ⟨hk,by simp⟩⟩
   ·rw[zbq (Ne.symm hj)] at e2;obtain⟨u',r',q⟩:=hl j y v' e1 e2 e3;refine⟨u',r',?_⟩;rcases q with ⟨k,e⟩ |⟨k,c,e,z⟩
    ·refine .inl ⟨k,?_⟩;have:y≠x:=fun e=>hj (wW hN e1 (e▸hi));simp[this,e]
    ·exact .inr ⟨k,c,e,z.sameBut hs (JN y c e)⟩
  ·obtain⟨w',z⟩:=I.cell y c e;exact⟨w',z.sameBut hs (JN y c e)⟩
  ·obtain⟨e,n,ne,nf,d⟩:=I.pin p hp;exact⟨(hs.2 p.1 ne).trans e,n,ne,nf,d⟩
 ·have Vw:X.fn x=true:=by
   rcases hf with z |z
   ·exact z
   ·rw[z] at hk;cases hk
  obtain⟨c,hc⟩:=I.ok.has x (.inl hk);obtain⟨w',z⟩:=I.cell x c hc;refine wpAny_storeName_cell I.ok.kind hk hc z (fun h' R3 hs=>?_);obtain⟨oc,Xc,Vx⟩:=id z;refine h {s with heap:=h' } ⟨I.ok,I.os,I.bare,⟨fun b o e n hb hx=>?_,fun b o e n hb hx=>?_,I.base.free,fun b o e hx=>?_,I.base.j3,I.base.ot,I.base.pD⟩,⟨m,hn.sameBut hs (Ne.symm (JN x c hc)),fun j y v' e1 e2 e3=>?_⟩,fun y c' e=>?_,I.free,I.jK,fun p hp=>?_,tracked ⟨oc,Xc,I.jK x c hc⟩ hs,by simpa using I.len⟩ ⟨c,hs,.inr hc⟩
  ·exact(hs.2 b (zaG (zaD (Heap.lt_size e) (I.ok.NG x c Vw hc)))).trans (I.base.keep b o e n hb hx)
  ·obtain⟨sl,e1⟩:=I.base.slot b o e n hb hx;exact⟨sl,(hs.2 b (zaG (zaD (Heap.lt_size e) (I.ok.NG x c Vw hc)))).trans e1⟩
  ·obtain⟨o',e1⟩:=I.base.there b o e hx;exact⟨o',(hs.2 b (zaG (zaD (Heap.lt_size e) (I.ok.NG x c Vw hc)))).trans e1⟩
  ·by_cases hj:j=i
   ·subst hj;rw[hi] at e1;cases e1;rw[zbl Ss] at e2;cases e2;exact⟨u,r,.inr ⟨.inl hk,c,hc,R3⟩⟩
   ·rw[zbq (Ne.symm hj)] at e2;obtain⟨u',r',q⟩:=hl j y v' e1 e2 e3;refine⟨u',r',?_⟩;rcases q with q |⟨k,c',e,z'⟩
    ·exact .inl q
    ·refine .inr ⟨k,c',e,z'.sameBut hs ?_⟩
     rintro rfl
     exact hj (wW hN e1 (I.ok.inj _ _ _ e hc▸hi))
  ·by_cases Xd:c'=c
   ·subst Xd;exact⟨_,R3⟩
   ·obtain⟨w2,z2⟩:=I.cell y c' e;exact⟨w2,z2.sameBut hs Xd⟩
  ·obtain⟨e,n,ne,nf,d⟩:=I.pin p hp;refine⟨(hs.2 p.1 ?_).trans e,n,ne,nf,d⟩;intro q;rw[q,Xc] at e;have q':oc=p.2:=zav.inj e;exact d w' (by rw[<- q'];exact Vx)
theorem wX{M:Model}{A:zdk}{E:zda->zdj->Prop}{i:Nat}{x:Str}{v:V}{u:zda}{Q:Unit->zdj->Prop}(I:Inv X pins σ H s)(hN:X.N.Nodup)(hi:X.N[i]?=some x)(hx:Loc X.env.scope x)(r:RelV v u)
 (h:∀s',Inv X pins (σ.set i (some v)) H s'->Q () s') (hf:X.fn x=true\/X.env.scope.names.lookup x=some .local:=by first |exact .inl rfl |exact .inr rfl |assumption):wpAny M A (storeName X.env x u) Q E s:=
 HD I hN hi hx r (fun s' I' _=>h s' I') hf
theorem Inv.OX{s':zdj}{ch:List zc9}(I:Inv X pins σ H s)(ho:s'.os=s.os)(u:Un (fM X.stack) ch H H' s.heap s'.heap)(dD:sS X.prog X.w H' s'.heap)(hg:AllBare s'.gens)
 (Nq:∀b∈ch,(b∈X.ex\/X.s₀.heap.objs.size<=b)/\b≠X.env.locals/\(∀x c,X.env.cells.lookup x=some c->c≠b)/\∀p∈X.pn++pins,p.1≠b):Inv X pins σ H' s':=by
 obtain⟨h',g',d',t',o'⟩:=s';have e:o'=s.os:=ho;subst e;exact I.call (g':=g') (t':=t') (d':=d') u dD hg Nq
end
abbrev XK:=zda->Option zc9->Hp->Prop
abbrev St:=List (Option V)
abbrev VK:=V->Hp->Prop
abbrev TE:=St->Hp->VK->Prop
abbrev TT:=St->Hp->(Bool->Hp->Prop)->Prop
abbrev TA:=St->Hp->(List V->Hp->Prop)->Prop
structure Ends where
 nx:St->Hp->Prop
 rt:VK
 bk:St->Hp->Prop:=fun _ _=>False
 ct:St->Hp->Prop:=fun _ _=>False
abbrev TS:=Ends->St->Hp->Prop
def EP (X:Cx) (pins:List (zc9×Obj)) (σ:St) (Q:VK) (u:zda) (s':zdj):Prop:=∃v H',Inv X pins σ H' s'/\RelV v u/\Q v H'
def TP (X:Cx) (pins:List (zc9×Obj)) (σ:St) (Q:Bool->Hp->Prop) (b:Bool) (s':zdj):Prop:=∃H',Inv X pins σ H' s'/\Q b H'
def AP (X:Cx) (pins:List (zc9×Obj)) (σ:St) (Q:List V->Hp->Prop) (us:List zda) (s':zdj):Prop:=∃vs H',Inv X pins σ H' s'/\Vals vs us/\Q vs H'
def SP (X:Cx) (pins:List (zc9×Obj)) (D:Ends) (f:Flow) (s':zdj):Prop:=
 match f with
 |.next=>∃σ' H',Inv X pins σ' H' s'/\D.nx σ' H'
 |.brk=>∃σ' H',Inv X pins σ' H' s'/\D.bk σ' H'
 |.cont=>∃σ' H',Inv X pins σ' H' s'/\D.ct σ' H'
 |.ret u=>∃v σ' H',Inv X pins σ' H' s'/\RelV v u/\D.rt v H'
def PE (X:Cx) (e:Expr) (t:TE):Prop:=
 ∀(pins:List (zc9×Obj)) (s:zdj) (σ:St) (H:Hp) (Q:VK),Inv X pins σ H s->t σ H Q->wpAny (model X.prog X.w) X.A (eval e X.env) (EP X pins σ Q) X.xe s
def PT (X:Cx) (e:Expr) (t:TT):Prop:=
 ∀(pins:List (zc9×Obj)) (s:zdj) (σ:St) (H:Hp) (Q:Bool->Hp->Prop),Inv X pins σ H s->t σ H Q->wpAny (model X.prog X.w) X.A (isTrue e X.env (eval e X.env)) (TP X pins σ Q) X.xe s
def PW (X:Cx) (e:Expr) (t:TT):Prop:=
 ∀(whole:Sem zda) (pins:List (zc9×Obj)) (s:zdj) (σ:St) (H:Hp) (Q:Bool->Hp->Prop),Inv X pins σ H s->t σ H Q->wpAny (model X.prog X.w) X.A (isTrue e X.env whole) (TP X pins σ Q) X.xe s
theorem PW.pt{X:Cx}{e:Expr}{t:TT}(h:PW X e t):PT X e t:=h _
def PA (X:Cx) (es:List Expr) (t:TA):Prop:=
 ∀(pos:Pos) (pins:List (zc9×Obj)) (s:zdj) (σ:St) (H:Hp) (Q:List V->Hp->Prop),Inv X pins σ H s->t σ H Q->wpAny (model X.prog X.w) X.A (spliced (backTo pos (zdf es X.env))) (AP X pins σ Q) X.xe s
def PS (X:Cx) (st:Stmt) (t:TS):Prop:=
 ∀(pins:List (zc9×Obj)) (s:zdj) (σ:St) (H:Hp) (D:Ends),Inv X pins σ H s->t D σ H->wpAny (model X.prog X.w) X.A (exec st X.env) (SP X pins D) X.xe s
def EI (X:Cx) (st:List Stmt) (t:TS):Prop:=
 ∀(pins:List (zc9×Obj)) (s:zdj) (σ:St) (H:Hp) (D:Ends),Inv X pins σ H s->t D σ H->wpAny (model X.prog X.w) X.A (execs st X.env) (SP X pins D) X.xe s
theorem eI{α:Type}{t:Sem α}{Q Q':α->zdj->Prop}{M:Model}{A:zdk}{E:zda->zdj->Prop}{s:zdj}(h:wpAny M A t Q E s)(hQ:∀a s,Q a s->Q' a s):wpAny M A t Q' E s:=wpAny_mono h hQ fun _ _ x=>x
section
variable{X:Cx}
theorem bin{a b:Expr}{ta tb:TE}(ha:PE X a ta)(hb:PE X b tb){pins:List (zc9×Obj)}{s:zdj}{σ:St}{H:Hp}{R:V->V->Hp->Prop}(I:Inv X pins σ H s)(h:ta σ H fun x H1=>tb σ H1 fun y H2=>R x y H2)
 {α:Type} {Q:α->zdj->Prop} {f:zda->zda->Sem α}
 (hf:∀v u s2 x y H2,Inv X pins σ H2 s2->RelV x v->RelV y u->R x y H2->wpAny (model X.prog X.w) X.A (f v u) Q X.xe s2) :
 wpAny (model X.prog X.w) X.A (eval a X.env) (fun v s₁=>wpAny (model X.prog X.w) X.A (eval b X.env) (fun u s₂=>wpAny (model X.prog X.w) X.A (f v u) Q X.xe s₂) X.xe s₁) X.xe s:=by
 refine eI (ha pins s σ H _ I h) fun v s1 zqz=>?_;obtain⟨x,H1,I1,r1,q1⟩:=zqz;refine eI (hb pins s1 σ H1 _ I1 q1) fun u s2 zqz=>?_;obtain⟨y,H2,I2,r2,q2⟩:=zqz;exact hf v u s2 x y H2 I2 r1 r2 q2
def Xe (Q:V->Prop):Option (Option V)->Prop
 |some (some v)=>Q v
 |_=>False
theorem Qi{Q:V->Prop}:∀ {o:Option (Option V)},Xe Q o->∃v,o=some (some v)/\Q v
 |some (some v),h=>⟨v,rfl,h⟩
 |some none,h=>h.elim
 |none,h=>h.elim
def e8 (i:Nat):TE:=fun σ H Q=>Xe (fun v=>Q v H) σ[i]?
def tC (v:V):TE:=fun _ H Q=>Q v H
theorem Qj{i:Nat}{x:Str}{pos:Pos}(hN:X.N[i]?=some x)(hv:UC X.env.scope x)(hd:(x==("__debug__":Str))=false:=by decide)(HE:(x==("__classdict__":Str))=false:=by decide):PE X (.Name x pos) (e8 i):=by
 intro pins s σ H Q I h;obtain⟨v,e,h⟩:=Qi h;obtain⟨m,hn,hl⟩:=I.loc;obtain⟨u,r,l⟩:=hl i x v hN e hv;have fin:EP X pins σ Q u s:=⟨v,H,I,r,h⟩
 rcases l with ⟨hk,hm⟩ |⟨hk,c,hc,Gd⟩
 ·exact wpAny_Name (wpAny_loadName_local I.ok.kind hk hn hm fin) hd
 ·rcases hk with hk |hk
  ·exact wpAny_Name (wpAny_loadName_cell I.ok.kind hk hc Gd fin) hd
  ·exact wpAny_Name (wpAny_loadName_free I.ok.kind hk hc Gd fin HE) hd
theorem ah{i j pos}:PE X (.Constant (.int i) j pos) (tC (.int i)):=fun _ _ _ H _ I h=>wpAny_Constant_int ⟨.int i,H,I.tok _,⟨_,rfl⟩,h⟩
theorem rk{b j pos}:PE X (.Constant (.bool b) j pos) (tC (.bl b)):=fun _ _ _ H _ I h=>Constant_bool ⟨.bl b,H,I,rfl,h⟩
theorem wY{j pos}:PE X (.Constant .none j pos) (tC .dB):=fun _ _ _ H _ I h=>Constant_none ⟨.dB,H,I,rfl,h⟩
theorem ao{x j pos}:PE X (.Constant (.str x) j pos) (tC (.str x)):=fun _ _ _ H _ I h=>Calls.Constant_str ⟨.str x,H,I.tok _,⟨_,rfl⟩,h⟩
def Gl (X:Cx) (x:Str):Prop:=X.env.kindOf x=some .globalImplicit
theorem ou{E:zda->zdj->Prop}{pins:List (zc9×Obj)}{s:zdj}{σ:St}{H:Hp}{x:Str}{u:zda}{pos:Pos}{Q:zda->zdj->Prop}(I:Inv X pins σ H s)(hg:Gl X x)(hm:X.mg x=some u)(h:Q u s)
 (hd:(x==("__debug__":Str))=false:=by decide):wpAny (model X.prog X.w) X.A (eval (.Name x pos) X.env) Q E s:=
 Calls.Name_function_global I.ok.kind hg (Calls.loadGlobal_global (by rw[I.ok.glob];exact I.mod.glob.keeps I.bk) hm h) hd
theorem wZ{E:zda->zdj->Prop}{pins:List (zc9×Obj)}{s:zdj}{σ:St}{H:Hp}{x:Str}{u:zda}{pos:Pos}{Q:zda->zdj->Prop}(I:Inv X pins σ H s)(hg:Gl X x)(hm:X.mg x=none)(hv:bootBuiltins x=some u)(h:Q u s)
 (hn:x≠"__name__":=by decide) (hd:(x==("__debug__":Str))=false:=by decide):wpAny (model X.prog X.w) X.A (eval (.Name x pos) X.env) Q E s:=by
 obtain⟨mb,h1,h2⟩:=I.mod.blt;exact Calls.Name_function_global I.ok.kind hg (Calls.loadGlobal_builtin (by rw[I.ok.glob];exact I.mod.glob.keeps I.bk) hm (by rw[I.ok.blt];exact h1.keeps I.bk) ((h2 x hn).trans hv) h) hd
theorem bU{x:Str}{v:V}{u:zda}{pos:Pos}(hg:Gl X x)(hm:X.mg x=some u)(r:RelV v u)(hd:(x==("__debug__":Str))=false:=by decide):PE X (.Name x pos) (tC v):=
 fun _ _ _ H _ I h=>ou I hg hm ⟨v,H,I,r,h⟩ hd
theorem NH{x:Str}{v:V}{u:zda}{pos:Pos}(hg:Gl X x)(hm:X.mg x=none)(hv:bootBuiltins x=some u)(r:RelV v u)(hn:x≠"__name__":=by decide)(hd:(x==("__debug__":Str))=false:=by decide):PE X (.Name x pos) (tC v):=
 fun _ _ _ H _ I h=>wZ I hg hm hv ⟨v,H,I,r,h⟩ hn hd
variable{a b:Expr}{ta tb:TE}{pos:Pos}
def tB (t:TE):TT:=fun σ H Q=>t σ H fun x H1=>∃c,x=.bl c/\Q c H1
theorem ux{e:Expr}{t:TE}(h:PE X e t)(he:∀whole,isTrue e X.env whole=(do let v <- whole;standAt e.pos;holding [v] (truthy v)):=by intro _;rfl):PT X e (tB t):=by
 intro pins s σ H Q I hw;refine isTrue_plain (eI (h pins s σ H _ I hw) fun v s1 zqz=>?_) (he _);obtain⟨x,H1,I1,r1,q1⟩:=zqz;obtain⟨d,rfl,q⟩:=q1;cases r1;exact wpAny_truthy_bool ⟨H1,I1,q⟩
variable{tA UH:TT}{rest:List Expr}
def Qk (t u:TT):TT:=fun σ H Q=>t σ H fun c H1=>if c=true then u σ H1 Q else Q false H1
def Vy (t u:TT):TT:=fun σ H Q=>t σ H fun c H1=>if c=true then Q true H1 else u σ H1 Q
def Su (t:TT):TT:=fun σ H Q=>t σ H fun c H1=>Q (!c) H1
theorem pw_and1(ha:PT X a tA):PW X (.BoolOp .And [a] pos) tA:=by
 intro wh pins s σ H Q I h;refine isTrue_and (eI (ha pins s σ H Q I h) fun c s1 e=>?_);cases c with
 |true=>exact isTrue_and_nil e
 |false=>exact e
theorem pw_or1(ha:PT X a tA):PW X (.BoolOp .Or [a] pos) tA:=by
 intro wh pins s σ H Q I h;refine isTrue_or (eI (ha pins s σ H Q I h) fun c s1 e=>?_);cases c with
 |false=>exact isTrue_or_nil e
 |true=>exact e
theorem pw_and(ha:PT X a tA)(hb:PW X (.BoolOp .And (b::rest) pos) UH):PW X (.BoolOp .And (a::b::rest) pos) (Qk tA UH):=by
 intro wh pins s σ H Q I h;refine isTrue_and (eI (ha pins s σ H _ I h) fun c s1 zqz=>?_);obtain⟨H1,I1,q1⟩:=zqz;cases c with
 |true=>exact hb wh pins s1 σ H1 Q I1 q1
 |false=>exact⟨H1,I1,q1⟩
theorem pw_or(ha:PT X a tA)(hb:PW X (.BoolOp .Or (b::rest) pos) UH):PW X (.BoolOp .Or (a::b::rest) pos) (Vy tA UH):=by
 intro wh pins s σ H Q I h;refine isTrue_or (eI (ha pins s σ H _ I h) fun c s1 zqz=>?_);obtain⟨H1,I1,q1⟩:=zqz;cases c with
 |true=>exact⟨H1,I1,q1⟩
 |false=>exact hb wh pins s1 σ H1 Q I1 q1
theorem w5(ha:PT X a tA):PT X (.UnaryOp .Not a pos) (Su tA):=by
 intro pins s σ H Q I h;exact isTrue_not (ha pins s σ H (fun c H1=>Q (!c) H1) I h)
def JO (ta tb:TE):TE:=fun σ H Q=>ta σ H fun x H1=>∃c,x=.bl c/\if c=true then tb σ H1 Q else Q (.bl false) H1
def Ql (ta tb:TE):TE:=fun σ H Q=>ta σ H fun x H1=>∃c,x=.bl c/\if c=true then Q (.bl true) H1 else tb σ H1 Q
def JP (ta:TE):TE:=fun σ H Q=>ta σ H fun x H1=>∃c,x=.bl c/\Q (.bl (!c)) H1
theorem w6{op}{t:TE}(h:PE X a t):PE X (.BoolOp op [a] pos) t:=fun pins s σ H Q I hw=>BoolOp_one (h pins s σ H Q I hw)
theorem uy(ha:PE X a ta)(hb:PE X (.BoolOp .And (b::rest) pos) tb):PE X (.BoolOp .And (a::b::rest) pos) (JO ta tb):=by
 intro pins s σ H Q I h;refine BoolOp_and (eI (ha pins s σ H _ I h) fun v s1 zqz=>?_);obtain⟨x,H1,I1,r1,q1⟩:=zqz;obtain⟨c,rfl,q1⟩:=q1;cases r1;refine wpAny_truthy_bool ?_;cases c with
 |true=>exact hb pins s1 σ H1 Q I1 q1
 |false=>exact⟨.bl false,H1,I1,rfl,q1⟩
theorem Sv(ha:PE X a ta)(hb:PE X (.BoolOp .Or (b::rest) pos) tb):PE X (.BoolOp .Or (a::b::rest) pos) (Ql ta tb):=by
 intro pins s σ H Q I h;refine BoolOp_or (eI (ha pins s σ H _ I h) fun v s1 zqz=>?_);obtain⟨x,H1,I1,r1,q1⟩:=zqz;obtain⟨c,rfl,q1⟩:=q1;cases r1;refine wpAny_truthy_bool ?_;cases c with
 |false=>exact hb pins s1 σ H1 Q I1 q1
 |true=>exact⟨.bl true,H1,I1,rfl,q1⟩
theorem Qm(ha:PE X a ta):PE X (.UnaryOp .Not a pos) (JP ta):=by
 intro pins s σ H Q I h;refine UnaryOp_ (eI (ha pins s σ H _ I h) fun v s1 zqz=>?_);obtain⟨x,H1,I1,r1,q1⟩:=zqz;obtain⟨c,rfl,q1⟩:=q1;cases r1;exact not_of (wpAny_truthy_bool ⟨.bl (!c),H1,I1,rfl,q1⟩)
def Xf (t:TT) (ta tb:TE):TE:=fun σ H Q=>t σ H fun c H1=>if c=true then ta σ H1 Q else tb σ H1 Q
end
def g8 (K:zac) (H:Hp) (a:zc9) (xs:List V):Prop:=
 Rd H a (.lst xs)\/
  ∃(o:Obj) (bt:Array zda) (n:Nat),K.lookup a=some o/\o.cls=.type "list"/\o.dict=none/\o.data=.seq bt n/\bt.size<=zdh/\Vals xs bt.toList
def eS (K:zac) (H:Hp) (a:zc9) (xs:List V):Prop:=
 Rd H a (.tup xs)\/
  ∃(o:Obj) (bt:Array zda) (n:Nat),K.lookup a=some o/\o.cls=.type "tuple"/\o.data=.seq bt n/\bt.size<=zdh/\Vals xs bt.toList
def Vz:zda->Option V
 |.none=>some .dB
 |.bool b=>some (.bl b)
 |.int i _=>some (.int i)
 |.str x _=>some (.str x)
 |.bytes b _=>some (.Ga b)
 |.float b _=>some (.UA b)
 |.ref a=>some (.ref a)
 |.type n=>some (.ty n)
 |_=>none
theorem RelV.abs{x:V}{u:zda}(r:RelV x u):Vz u=some x:=by
 cases x with
 |dB=>cases r;rfl
 |bl _=>cases r;rfl
 |int _=>obtain⟨t,rfl⟩:=r;rfl
 |str _=>obtain⟨t,rfl⟩:=r;rfl
 |Ga _=>obtain⟨t,rfl⟩:=r;rfl
 |UA _=>obtain⟨t,rfl⟩:=r;rfl
 |ref _=>cases r;rfl
 |ty _=>cases r;rfl
theorem RelV.inj{x y:V}{u:zda}(r:RelV x u)(q:RelV y u):x=y:=zav.inj (r.abs.symm.trans q.abs)
theorem Vals.inj:∀ {xs ys:List V} {us:List zda},Vals xs us->Vals ys us->xs=ys
 |_,_,_,.nil,.nil=>rfl
 |_,_,_,.cons r t,.cons r' t'=>by rw[r.inj r',Vals.inj t t']
section
variable{X:Cx}{pins:List (zc9×Obj)}{σ:St}{H:Hp}{s:zdj}{a:zc9}{xs ys:List V}
theorem g8.of{K:zac}(h:H a=some (.lst xs)):g8 K H a xs:=.inl (.inl h)
theorem eS.of{K:zac}(h:H a=some (.tup xs)):eS K H a xs:=.inl (.inl h)
theorem Inv.list(I:Inv X pins σ H s)(h:g8 X.K H a xs):∃bt:List zda,Vals xs bt/\PlainL s.heap a bt.toArray/\xs.length<=zdh:=by
 rcases h with h |⟨o,bt,n,hk,hc,hd,hs,hz,r⟩
 ·obtain⟨z,bt,n,r,e⟩:=h.ok I.dD;exact⟨bt,r,⟨_,n,e,rfl,rfl,rfl⟩,z⟩
 ·refine⟨bt.toList,r,⟨o,n,I.zy a o hk,hc,hd,by simpa using hs⟩,?_⟩;have e:=r.length;simp only[zbN] at e;lia
theorem Inv.tuple(I:Inv X pins σ H s)(h:eS X.K H a xs):∃bt:List zda,Vals xs bt/\IsTup s.heap a bt.toArray/\xs.length<=zdh:=by
 rcases h with h |⟨o,bt,n,hk,hc,hs,hz,r⟩
 ·obtain⟨z,bt,r,p⟩:=h.ok I.dD;exact⟨bt,r,p,z⟩
 ·refine⟨bt.toList,r,⟨o,I.zy a o hk,hc,n,by simpa using hs⟩,?_⟩;have e:=r.length;simp only[zbN] at e;lia
theorem Inv.Cv(I:Inv X pins σ H s)(h:g8 X.K H a xs)(h':g8 X.K H a ys):xs=ys:=by
 obtain⟨bt,r,⟨o,n,e,_,_,d⟩,_⟩:=I.list h;obtain⟨its',r',⟨o',n',e',_,_,d'⟩,_⟩:=I.list h';rw[e] at e';cases e';rw[d] at d'
 injection d' with d1 _
 have:bt=its':=by simpa using congrArg Array.toList d1
 subst this;exact r.inj r'
end
abbrev Cx.zz (X:Cx) (E:zda->zdj->Prop):Cx:={X with xe:=E}
abbrev Cx.Sw (X:Cx):Cx:=X.zz fun _ _=>False
theorem Cx.Ok.zz{X:Cx}(ok:X.Ok)(E:zda->zdj->Prop):(X.zz E).Ok:=
 ⟨ok.mod,ok.kind,ok.glob,ok.blt,ok.above,ok.inj,ok.has,ok.NG,ok.hd,ok.frames,ok.Np,ok.R1,ok.bs,ok.EN,ok.Bg,ok.Cu,ok.pL,ok.JA⟩
theorem Cx.Ok.pM{X:Cx}{E:zda->zdj->Prop}(ok:(X.zz E).Ok):X.Ok:=
 ⟨ok.mod,ok.kind,ok.glob,ok.blt,ok.above,ok.inj,ok.has,ok.NG,ok.hd,ok.frames,ok.Np,ok.R1,ok.bs,ok.EN,ok.Bg,ok.Cu,ok.pL,ok.JA⟩
section
variable{X:Cx}{pins:List (zc9×Obj)}{σ:St}{H:Hp}{s:zdj}{E:zda->zdj->Prop}
theorem Inv.zz(I:Inv X pins σ H s)(E:zda->zdj->Prop):Inv (X.zz E) pins σ H s:=⟨I.ok.zz E,I.os,I.bare,I.base,I.loc,I.cell,I.free,I.jK,I.pin,I.dD,I.len⟩
theorem Inv.pM(I:Inv (X.zz E) pins σ H s):Inv X pins σ H s:=⟨I.ok.pM,I.os,I.bare,I.base,I.loc,I.cell,I.free,I.jK,I.pin,I.dD,I.len⟩
theorem SP.pM{D:Ends}{f:Flow}{s':zdj}(h:SP (X.zz E) pins D f s'):SP X pins D f s':=by
 cases f with
 |next=>obtain⟨σ',H',I,q⟩:=h;exact⟨σ',H',I.pM,q⟩
 |brk=>obtain⟨σ',H',I,q⟩:=h;exact⟨σ',H',I.pM,q⟩
 |cont=>obtain⟨σ',H',I,q⟩:=h;exact⟨σ',H',I.pM,q⟩
 |ret u=>obtain⟨v,σ',H',I,r,q⟩:=h;exact⟨v,σ',H',I.pM,r,q⟩
theorem EI.Sw{st:List Stmt}{t:TS}(h:EI X.Sw st t):EI X st t:=fun pins s σ H D I hw=>
 wpAny_mono (h pins s σ H D (I.zz _) hw) (fun _ _ q=>q.pM) fun _ _ z=>False.elim z
end
section
variable{X:Cx}{st:Stmt}{rest:List Stmt}{t u:TS}{e:Expr}{te:TE}{pos:Pos}
def JQ:TS:=fun D σ H=>D.nx σ H
def JR (t u:TS):TS:=fun D σ H=>t {D with nx:=u D} σ H
theorem aO:EI X [] JQ:=fun _ _ σ H _ I h=>wpAny_execs_nil ⟨σ,H,I,h⟩
theorem ag(h1:PS X st t)(h2:EI X rest u):EI X (st::rest) (JR t u):=by
 intro pins s σ H D I h;refine wpAny_execs_cons (eI (h1 pins s σ H {D with nx:=u D} I h) fun f s1 q=>?_);cases f with
 |next=>
  obtain⟨σ',H',I',q⟩:=q;exact h2 pins s1 σ' H' D I' q
 |ret v=>exact q
 |brk=>exact q
 |cont=>exact q
theorem aj(h1:PS X st t):EI X [st] t:=by
 intro pins s σ H D I h;refine wpAny_execs_cons (eI (h1 pins s σ H D I h) fun f s1 q=>?_);cases f with
 |next=>exact wpAny_execs_nil q
 |ret v=>exact q
 |brk=>exact q
 |cont=>exact q
def JS:TS:=fun D σ H=>D.bk σ H
def OY:TS:=fun D σ H=>D.ct σ H
theorem Inv.quiet{pins:List (zc9×Obj)}{σ:St}{H:Hp}{s:zdj}(I:Inv X pins σ H s):interactive X.env=false:=by simp[interactive,I.ok.kind]
def JT (te:TE):TS:=fun D σ H=>te σ H fun _ H1=>D.nx σ H1
theorem cF(he:PE X e te)(hs:swapsWith e none pos.line X.env=pure false:=by rfl):PS X (.Expr e pos) (JT te):=by
 intro pins s σ H D I h;exact wpAny_Expr_any (eI (he pins s σ H _ I h) fun v s1 ⟨x,H1,I1,r1,q1⟩=>⟨σ,H1,I1,q1⟩) I.quiet hs
def Qn (te:TE):TS:=fun D σ H=>te σ H D.rt
theorem aV(he:PE X e te):PS X (.Return (some e) pos) (Qn te):=by
 intro pins s σ H D I h;exact wpAny_Return_some (eI (he pins s σ H _ I h) fun v s1 ⟨x,H1,I1,r1,q1⟩=>⟨x,σ,H1,I1,r1,q1⟩)
def OZ:TS:=fun D _ H=>D.rt .dB H
def NI (c:TT) (t u:TS):TS:=fun D σ H=>c σ H fun b H1=>if b=true then t D σ H1 else u D σ H1
theorem bc{c:Expr}{a b:List Stmt}{tc:TT}(hc:PT X c tc)(ha:EI X a t)(hb:EI X b u):PS X (.If c a b pos) (NI tc t u):=by
 intro pins s σ H D I h;refine wpAny_If (eI (hc pins s σ H _ I h) fun d s1 zqz=>?_);obtain⟨H1,I1,q1⟩:=zqz;cases d with
 |true=>exact ha pins s1 σ H1 D I1 q1
 |false=>exact hb pins s1 σ H1 D I1 q1
end
abbrev TG:=V->St->Hp->(St->Hp->Prop)->Prop
abbrev NJ:=List V->St->Hp->(St->Hp->Prop)->Prop
def PG (X:Cx) (target:Expr) (t:TG):Prop:=
 ∀(pins:List (zc9×Obj)) (s:zdj) (σ:St) (H:Hp) (v:V) (u:zda) (Q:St->Hp->Prop),Inv X pins σ H s->RelV v u->t v σ H Q->
  wpAny (model X.prog X.w) X.A (assign target X.env u) (fun _ s'=>∃σ' H',Inv X pins σ' H' s'/\Q σ' H') X.xe s
def Sx (X:Cx) (ts:List Expr) (t:NJ):Prop:=
 ∀(pins:List (zc9×Obj)) (s:zdj) (σ:St) (H:Hp) (vs:List V) (us:List zda) (Q:St->Hp->Prop),Inv X pins σ H s->Vals vs us->t vs σ H Q->
  wpAny (model X.prog X.w) X.A (assignInOrder ((assignEach ts X.env).map (·.2)) us) (fun _ s'=>∃σ' H',Inv X pins σ' H' s'/\Q σ' H') X.xe s
abbrev Qo:=V->V->V->Hp->(Hp->Prop)->Prop
def Sy (X:Cx) (t:Qo):Prop:=
 ∀(pins:List (zc9×Obj)) (s:zdj) (σ:St) (H:Hp) (o i v:V) (ov iv u:zda) (Q:Hp->Prop),Inv X pins σ H s->RelV o ov->RelV i iv->RelV v u->t o i v H Q->
  wpAny (model X.prog X.w) X.A (setItem ov iv u) (fun _ s'=>∃H',Inv X pins σ H' s'/\Q H') X.xe s
abbrev YI:=V->V->Hp->VK->Prop
section
variable{X:Cx}{pos:Pos}
def nJ (i:Nat):TG:=fun v σ H Q=>Q (σ.set i (some v)) H
theorem cJ{i:Nat}{x:Str}(hN:X.N.Nodup)(hi:X.N[i]?=some x)(hx:Loc X.env.scope x)(hf:X.fn x=true\/X.env.scope.names.lookup x=some .local:=by first |exact .inl rfl |exact .inr rfl |assumption):PG X (.Name x pos) (nJ i):=by
 intro pins s σ H v u Q I r h;exact wpAny_assign_Name (wX I hN hi hx r (fun s' I'=>⟨_,H,I',h⟩) hf)
def Qp:NJ:=fun vs σ H Q=>vs=[]/\Q σ H
def JU (t:TG) (u:NJ):NJ:=fun vs σ H Q=>∃v r,vs=v::r/\t v σ H fun σ' H'=>u r σ' H' Q
theorem sV:Sx X [] Qp:=by
 intro pins s σ H vs us Q I r h;obtain⟨e,h⟩:=h;subst e;cases r;exact assignInOrder_nil ⟨σ,H,I,h⟩
theorem eJ{e:Expr}{es:List Expr}{t:TG}{u:NJ}(h1:PG X e t)(h2:Sx X es u)
 (hs:(assignEach (e::es) X.env).map (·.2)=assign e X.env::(assignEach es X.env).map (·.2):=by rfl):Sx X (e::es) (JU t u):=by
 intro pins s σ H vs us Q I r h;obtain⟨v,vr,e1,h⟩:=h;subst e1;cases r with
 |cons r rr=>
  rw[hs];refine assignInOrder_cons (eI (h1 pins s σ H _ _ _ I r h) fun _ s1 zqz=>?_);obtain⟨σ1,H1,I1,q1⟩:=zqz;exact h2 pins s1 σ1 H1 _ _ Q I1 rr q1
def Qq (K:zac) (n:Nat) (t:NJ):TG:=fun v σ H Q=>∃a xs,v=.ref a/\eS K H a xs/\xs.length=n/\t xs σ H Q
theorem Qr{es:List Expr}{k:Nat}{t:NJ}{n:Nat}(hc:X.calm=true)(h:Sx X es t)
 (hn:(assignEach es X.env).length=n:=by rfl) (JV:(assignEach es X.env).findIdx? (·.1)=none:=by rfl):PG X (.Tuple es k pos) (Qq X.K n t):=by
 intro pins s σ H v u Q I r hw;obtain⟨a,xs,e1,hq,hl,hw⟩:=hw;subst e1;cases r;obtain⟨bt,rv,ht,hz⟩:=I.tuple hq;refine assign_Tuple_tuple (I.ok.hd hc) ht (by simp[hn,<- hl,rv.length]) JV fun h' hx=>?_;have I1:Inv X pins σ H {s with heap:=h' }:=I.kept (t':=s.toks) fun b o e=>hx b o (zaG (Heap.lt_size e)) e;exact h pins _ σ H xs _ Q I1 (by simpa using rv) hw
def Qs (to ti:TE) (t:Qo):TG:=fun v σ H Q=>to σ H fun o H1=>ti σ H1 fun i H2=>t o i v H2 fun H3=>Q σ H3
theorem JW{o i:Expr}{to ti:TE}{t:Qo}(ho:PE X o to)(hi:PE X i ti)(hs:Sy X t)
 (ha:∀v,assign (.Subscript o i pos) X.env v=(do
  let ov <- holding [v] (eval o X.env)
  let iv <- holding [v,ov] (eval i X.env)
  standAt pos
  holding [v,ov,iv] (setItem ov iv v)
  release [v,ov,iv] []):=by intro _;rfl):PG X (.Subscript o i pos) (Qs to ti t):=by
 intro pins s σ H v u Q I r h;rw[ha];refine zdc (zde (eI (ho pins s σ H _ I h) fun ov s1 zqz=>?_));obtain⟨x,H1,I1,r1,q1⟩:=zqz;refine zdc (zde (eI (hi pins s1 σ H1 _ I1 q1) fun iv s2 zqz=>?_));obtain⟨y,H2,I2,r2,q2⟩:=zqz;refine zdc (wpAny_standAt (zdc (zde (eI (hs pins s2 σ H2 x y v ov iv u _ I2 r1 r2 r q2) fun _ s3 zqz=>?_))));obtain⟨H3,I3,q3⟩:=zqz;exact wpAny_release ⟨σ,H3,I3,q3⟩
def NK (te:TE) (g:TG):TS:=fun D σ H=>te σ H fun x H1=>g x σ H1 D.nx
theorem uz{tg e:Expr}{te:TE}{g:TG}(he:PE X e te)(hg:PG X tg g)(hs:swapsWithSole [tg] e pos.line X.env=pure false:=by rfl)(hw:swappedStores [tg] e X.env=pure none:=by rfl)
 (h1:(assignEach [tg] X.env).map (·.2)=[assign tg X.env]:=by rfl):PS X (.Assign [tg] e pos) (NK te g):=by
 intro pins s σ H D I h;refine wpAny_Assign_stores (eI (he pins s σ H _ I h) fun v s1 zqz=>?_) hs hw;obtain⟨x,H1,I1,r1,q1⟩:=zqz;rw[h1];exact eI (hg pins s1 σ H1 x v _ I1 r1 q1) fun _ s2 q=>q
theorem aR{i:Nat}{x:Str}{e:Expr}{te:TE}{pos':Pos}(hN:X.N.Nodup)(hi:X.N[i]?=some x)(hx:Loc X.env.scope x)(he:PE X e te)(hs:swapsWith e (some (.Name x pos')) pos.line X.env=pure false:=by rfl)(hf:X.fn x=true\/X.env.scope.names.lookup x=some .local:=by first |exact .inl rfl |exact .inr rfl |assumption) :
 PS X (.Assign [.Name x pos'] e pos) (NK te (nJ i)):=by
 intro pins s σ H D I h;refine wpAny_Assign_Name (eI (he pins s σ H _ I h) fun v s1 zqz=>?_) hs;obtain⟨y,H1,I1,r1,q1⟩:=zqz;exact wX I1 hN hi hx r1 (fun s2 I2=>⟨_,H1,I2,q1⟩) hf
def Sz (i:Nat) (te:TE) (ti:YI):TS:=fun D σ H=>∃x,σ[i]?=some (some x)/\te σ H fun y H1=>ti x y H1 fun z H2=>D.nx (σ.set i (some z)) H2
end
section
variable{X:Cx}{pos:Pos}
def Qt (c:TT) (tb:TS):TS:=fun D σ H=>∃W:Nat->St->Hp->Prop,(∃m,W m σ H)/\∀m σ H,W m σ H->
 c σ H fun b H1=>if b=true then ∃N:St->Hp->Prop,(∀σ' H',N σ' H'->∃m',m'<m/\W m' σ' H')/\tb {D with nx:=N,ct:=N,bk:=D.nx} σ H1 else D.nx σ H1
theorem Cw{c:Expr}{body:List Stmt}{tc:TT}{tb:TS}(hp:PassesOwn (model X.prog X.w) X.A X.env X.xe)(hc:PT X c tc)(hb:EI X body tb):PS X (.While c body [] pos) (Qt tc tb):=by
 intro pins s σ H D I h;obtain⟨W,⟨m0,w0⟩,turn⟩:=h;refine wpAny_While (codeAny_whileLoop (fun n s'=>∃σ' H',Inv X pins σ' H' s'/\W n σ' H') ?_ m0 ⟨σ,H,I,w0⟩)
 rintro n s1 ⟨σ1,H1,I1,w1⟩
 refine wpAny_passesOwn hp (eI (hc pins s1 σ1 H1 _ I1 (turn n σ1 H1 w1)) fun b s2 zqz=>?_);obtain⟨H2,I2,q2⟩:=zqz;cases b with
 |true=>
  obtain⟨N,hN,q2⟩:=q2;rw[if_pos rfl];refine wpAny_passesOwn hp (eI (hb pins s2 σ1 H2 _ I2 q2) fun f s3 q3=>?_);cases f with
  |next=>
   obtain⟨σ3,H3,I3,n3⟩:=q3;obtain⟨m',hm,w3⟩:=hN σ3 H3 n3;exact⟨m',hm,σ3,H3,I3,w3⟩
  |cont=>
   obtain⟨σ3,H3,I3,n3⟩:=q3;obtain⟨m',hm,w3⟩:=hN σ3 H3 n3;exact⟨m',hm,σ3,H3,I3,w3⟩
  |brk=>exact q3
  |ret v=>exact q3
 |false=>
  rw[if_neg zad];exact wpAny_execs_nil ⟨σ1,H2,I2,q2⟩
end
structure It where
 go:Nat->Hp->Prop
 HF:Nat->Hp->V->Hp->Prop
 stop:Nat->Hp->Prop
def rM (X:Cx) (pins:List (zc9×Obj)) (H:Hp) (b:zc9):Prop:=
 H b=none/\b≠X.env.locals/\b ∉ X.fs/\(b∈X.ex\/X.s₀.heap.objs.size<=b)/\(∀x c,X.env.cells.lookup x=some c->c≠b)/\∀p∈X.pn++pins,p.1≠b
theorem Inv.JX{X:Cx}{pins:List (zc9×Obj)}{σ:St}{H H':Hp}{s:zdj}{b:zc9}(I:Inv X pins σ H s)(hb:s.heap.objs.size<=b)(hn:H' b=none):rM X pins H' b:=by
 refine⟨hn,zc6 (zaD I.lt hb),I.Vr hb,.inr (zaB I.sz hb),fun x c e z=>?_,fun p hp z=>?_⟩
 ·obtain⟨v,q⟩:=I.cell x c e;exact absurd (zaD q.lt (by rw[z];exact hb)) (zbz _)
 ·exact absurd (zaD (Heap.lt_size (I.pin p hp).1) (by rw[z];exact hb)) (zbz _)
structure Turn(P:zdl)(w:zdb)(K:zac)(tg:Expr)(J:It)(fp:List zc9)(it:zc9)(tn:Nat->Heap->Prop):Prop where
 mem:it∈fp
 obj:∀i h,tn i h->∀b∈fp,∃o,h.get? b=some o/\∀v,o.data≠.cell v
 keep:∀i h h',tn i h->(∀b∈fp,∀o,h.get? b=some o->h'.get? b=some o)->tn i h'
 item:∀(X:Cx),X.prog=P->X.w=w->X.K=K->X.calm=true->∀(i:Nat) (pins:List (zc9×Obj)) (s:zdj) (σ:St) (H:Hp) (E:zda->zdj->Prop),Inv X pins σ H s->(∀b∈fp,rM X pins H b)->tn i s.heap->J.go i H->
  wpAny (model P w) X.A (pyNext (.ref it)) (fun r s1=>∃u,r=some u/\
   wpAny (model P w) X.A (letOwnedTupleGo tg (.ref it) u) (fun _ s2=>∃x H',Inv X pins σ H' s2/\RelV x u/\J.HF i H x H'/\tn (i+1) s2.heap/\∀b∈fp,H' b=none) E s1) E s
 done:∀(X:Cx),X.prog=P->X.w=w->X.K=K->X.calm=true->∀(i:Nat) (pins:List (zc9×Obj)) (s:zdj) (σ:St) (H:Hp) (E:zda->zdj->Prop),Inv X pins σ H s->(∀b∈fp,rM X pins H b)->tn i s.heap->J.stop i H->
  wpAny (model P w) X.A (pyNext (.ref it)) (fun r s1=>r=none/\Inv X pins σ H s1) E s
 self:∀(A:zdk) (i:Nat) (s:zdj) (Q:zda->zdj->Prop) (E:zda->zdj->Prop),tn i s.heap->Q (.ref it) s->wpAny (model P w) A (pyIter (.ref it)) Q E s
abbrev TI:=St->Hp->(It->Hp->Prop)->Prop
def Xg (X:Cx) (pins:List (zc9×Obj)) (σ:St) (tg:Expr) (R:It->Hp->Prop) (VA:zda) (s2:zdj):Prop:=
 ∃(it:zc9) (fp:List zc9) (tn:Nat->Heap->Prop) (J:It) (H':Hp),VA=.ref it/\Inv X pins σ H' s2/\Turn X.prog X.w X.K tg J fp it tn/\tn 0 s2.heap/\(∀b∈fp,rM X pins H' b)/\R J H'
def PI (X:Cx) (tg iter:Expr) (wi:TI):Prop:=
 ∀(pins:List (zc9×Obj)) (s:zdj) (σ:St) (H:Hp) (R:It->Hp->Prop),Inv X pins σ H s->wi σ H R->
  wpAny (model X.prog X.w) X.A (eval iter X.env) (fun v s1=>wpAny (model X.prog X.w) X.A (pyIter v) (Xg X pins σ tg R) X.xe s1) X.xe s
theorem Ge{M:Model}{A:zdk}{E:zda->zdj->Prop}{s:zdj}{tg:Expr}{it:zc9}{u:zda}{o:Obj}{n:String}{vs:Array zda}{Q:Unit->zdj->Prop}(ho:s.heap.get? it=some o)(hc:o.cls=.type n)(hd:o.data=.fields vs)
 (hn:["enumerate", "zip", "dict_itemiterator", "dict_reverseitemiterator", "odict_iterator", "itertools.zip_longest", "itertools.pairwise"].contains n=false) (hQ:Q () s):wpAny M A (letOwnedTupleGo tg (.ref it) u) Q E s:=by
 unfold letOwnedTupleGo;cases tg<;>first
  |exact zdd hQ
  |(cases u<;>first
     |exact zdd hQ
     |(refine zdc (wpAny_load ho ?_)
       rw[hc,hd];show wpAny M A (if (["enumerate", "zip", "dict_itemiterator", "dict_reverseitemiterator", "odict_iterator", "itertools.zip_longest", "itertools.pairwise"].contains n&&vs[0]?==some (rawInt _))=true then _ else _) Q E s;rw[if_neg (by intro h;rw[hn,Bool.false_and] at h;cases h)];exact zdd hQ))
def Nr (K:zac) (a:zc9):It:=
 ⟨fun i H=>∃xs x,g8 K H a xs/\xs[i]?=some x,fun i H x H'=>H'=H/\∀xs,g8 K H a xs->xs[i]?=some x,fun i H=>∃xs,g8 K H a xs/\xs.length<=i⟩
def SA (lo:Int) (n:Nat):It:=⟨fun i _=>i<n,fun i H x H'=>H'=H/\x=.int (lo+i),fun i _=>n<=i⟩
theorem HG{P:zdl}{w:zdb}{K:zac}{tg:Expr}(a it:zc9):Turn P w K tg (Nr K a) [it] it (fun i h=>h.IsListIter it a i) where
 mem:=by simp
 obj:=fun i h st b hb=>by
  have e:b=it:=by simpa using hb
  subst e;obtain⟨o,e,c,d⟩:=st;exact⟨o,e,fun v z=>by rw[d] at z;cases z⟩
 keep:=fun i h h' st k=>st.at fun o e=>k it (by simp) o e
 item:=by
  intro X hP hw hK hc i pins s σ H E I hf st hg;subst hP hw hK;obtain⟨xs,x,hq,hx⟩:=hg;obtain⟨bt,rv,p,hz⟩:=I.list hq;obtain⟨u,hu,ru⟩:=rv.get hx;obtain⟨f0,f1,f2,f3,f4,f5⟩:=hf it (by simp);refine wpAny_pyNext_list_item st p.isList (x:=u) (by simpa using hu) fun h' Cy sb=>?_;have I1:Inv X pins σ H {s with heap:=h' }:=I.turned (t':=s.toks) (fun b o hb e=>(sb.2 b hb).trans e) f0 f1 f3 f4 f5;obtain⟨o,e,c,d⟩:=id Cy;exact⟨u,rfl,Ge (s:={s with heap:=h' }) e c d (by decide) ⟨x,H,I1,ru,⟨rfl,fun ys hy=>by rw[I.Cv hy hq];exact hx⟩,Cy,fun b hb=>(hf b hb).1⟩⟩
 done:=by
  intro X hP hw hK hc i pins s σ H E I hf st hg;subst hP hw hK;obtain⟨xs,hq,hx⟩:=hg;obtain⟨bt,rv,p,hz⟩:=I.list hq;obtain⟨f0,f1,f2,f3,f4,f5⟩:=hf it (by simp);have hl:=rv.length;exact wpAny_pyNext_list_end (I.ok.hd hc) st p.isList (by simp;lia) fun h' eb=>⟨rfl,I.turned (t':=s.toks) (fun b o hb e=>eb b o hb e) f0 f1 f3 f4 f5⟩
 self:=fun _ _ _ _ _ st h=>wpAny_pyIter_listiter st h
theorem EO{P:zdl}{w:zdb}{K:zac}{tg:Expr}(it:zc9)(lo:Int)(n:Nat):Turn P w K tg (SA lo n) [it] it (fun i h=>IsRangeIter h it (lo+(i:Nat)*1) ((n:Int)-(i:Nat)) 1) where
 mem:=by simp
 obj:=fun i h st b hb=>by
  have e:b=it:=by simpa using hb
  subst e;exact⟨_,st,fun v z=>by
   have z':Data.fields _=Data.cell v:=z;cases z'⟩
 keep:=fun i h h' st k=>k it (by simp) _ st
 item:=by
  intro X hP hw hK hc i pins s σ H E I hf st hg;subst hP hw hK;obtain⟨f0,f1,f2,f3,f4,f5⟩:=hf it (by simp);have W:=Walks.range (prog:=X.prog) (w:=X.w) (I.ok.hd hc) it lo 1 n;refine W.item i s _ _ hg st fun v h' tk hv Cy kk=>?_;obtain⟨t,rfl⟩:=hv;have I1:Inv X pins σ H {s with heap:=h',toks:=tk}:=I.turned (fun b o hb e=>kk b o (by simpa using hb) e) f0 f1 f3 f4 f5;refine⟨_,rfl,Ge (s:={s with heap:=h',toks:=tk}) (n:="range_iterator") Cy rfl rfl (by decide) ⟨.int (lo+i),H,I1,⟨t,?_⟩,⟨rfl,rfl⟩,Cy,fun b hb=>(hf b hb).1⟩⟩;rw[Int.mul_one]
 done:=by
  intro X hP hw hK hc i pins s σ H E I hf st hg;subst hP hw hK;obtain⟨f0,f1,f2,f3,f4,f5⟩:=hf it (by simp);exact wpAny_pyNext_range_end (I.ok.hd hc) st (by have:n<=i:=hg;lia) fun h' eb=>⟨rfl,I.turned (t':=s.toks) (fun b o hb e=>eb b o hb e) f0 f1 f3 f4 f5⟩
 self:=fun _ _ _ _ _ st h=>wpAny_pyIter_rangeiter st h
section
variable{X:Cx}{tg:Expr}
def Gf (K:zac) (tl:TE):TI:=fun σ H R=>tl σ H fun x H1=>∃a,x=.ref a/\(∃xs,g8 K H1 a xs)/\R (Nr K a) H1
theorem qO{l:Expr}{tl:TE}(hl:PE X l tl):PI X tg l (Gf X.K tl):=by
 intro pins s σ H R I h;refine eI (hl pins s σ H _ I h) fun v s1 zqz=>?_;obtain⟨x,H1,I1,r1,q1⟩:=zqz;obtain⟨a,e,⟨xs,hq⟩,q⟩:=q1;subst e;cases r1;obtain⟨bt,rv,p,hz⟩:=I1.list hq;refine wpAny_pyIter_list p.isList ?_;refine⟨s1.heap.objs.size,[s1.heap.objs.size],_,_,H1,rfl,I1.kept (t':=s1.toks) fun b o e=>Heap.get?_push_of_some _ e,HG a _,⟨_,Heap.get?_push_size _ rfl,rfl,rfl⟩,fun b hb=>?_,q⟩;have e:b=s1.heap.objs.size:=by simpa using hb
 subst e;exact I1.JX (zai _) (I1.dD.fresh (zai _))
theorem JY{pins:List (zc9×Obj)}{σ:St}{H:Hp}{s:zdj}{R:It->Hp->Prop}{E:zda->zdj->Prop}{lo hi:Int}{t u v:Tok}{tk:Nat}(I:Inv X pins σ H s)(h1 : -(2 ^ 62)<=lo)(h2:lo<2 ^ 62)(h3 : -(2 ^ 62)<=hi)(h4:hi<2 ^ 62)
 (q:R (SA lo (hi-lo).toNat) H):wpAny (model X.prog X.w) X.A (pyIter (.ref s.heap.objs.size)) (Xg X pins σ tg R) E {s with heap:=s.heap.push {cls:=.type "range",data:=.fields #[.int lo t,.int hi u,.int 1 v]},toks:=tk}:=by
 refine wpAny_pyIter_range (IsRange.new ..) (small_one h1 h2 h3 h4) ?_;have I1:Inv X pins σ H {s with heap:=s.heap.push {cls:=.type "range",data:=.fields #[.int lo t,.int hi u,.int 1 v]},toks:=tk}:=I.kept fun b o e=>Heap.get?_push_of_some _ e;refine⟨(s.heap.push {cls:=.type "range",data:=.fields #[.int lo t,.int hi u,.int 1 v]}).objs.size,[(s.heap.push {cls:=.type "range",data:=.fields #[.int lo t,.int hi u,.int 1 v]}).objs.size],_,_,H,rfl,
  I1.kept (t':=tk) fun b o e=>Heap.get?_push_of_some _ e,EO _ lo (hi-lo).toNat,?_,fun b hb=>?_,q⟩
 ·have e1:lo+((0:Nat):Int)*1=lo:=by simp
  have e2:(((hi-lo).toNat:Nat):Int)-((0:Nat):Int)=Builtin.Range.rangeSize lo hi 1:=by rw[rangeSize_one];split<;>lia
  show IsRangeIter _ _ (lo+((0:Nat):Int)*1) ((((hi-lo).toNat:Nat):Int)-((0:Nat):Int)) 1;rw[e1,e2];exact Heap.get?_push_size _ rfl
 ·have e:b=(s.heap.push {cls:=.type "range",data:=.fields #[.int lo t,.int hi u,.int 1 v]}).objs.size:=by simpa using hb
  subst e;exact I1.JX (zai _) (I1.dD.fresh (zai _))
def JZ (ta:TA):TI:=fun σ H R=>ta σ H fun vs H1=>∃j:Int,vs=[.int j]/\-(2 ^ 62)<=j/\j<2 ^ 62/\R (SA 0 j.toNat) H1
def O0 (ta:TA):TI:=fun σ H R=>ta σ H fun vs H1=>∃i j:Int,vs=[.int i,.int j]/\(-(2 ^ 62)<=i/\i<2 ^ 62/\-(2 ^ 62)<=j/\j<2 ^ 62)/\R (SA i (j-i).toNat) H1
theorem HH{a:Expr}{ta:TA}{p pos:Pos}(hg:Gl X "range")(hm:X.mg "range"=none)(ha:PA X [a] ta)(hs:zdf [a] X.env=[(false,eval a X.env)]:=by rfl):PI X tg (.Call (.Name "range" p) [a] [] pos) (JZ ta):=by
 intro pins s σ H R I h;refine Call_ (wZ I hg hm boot_range (zci (eI (ha pos pins s σ H _ I h) fun us s1 zqz=>?_) hs rfl));obtain⟨vs,H1,I1,r1,q1⟩:=zqz;obtain⟨j,e,q1,q2,q⟩:=q1;subst e;cases r1 with
 |cons r rr=>
  cases rr;obtain⟨t,rfl⟩:=r;exact call_range_1 (JY I1 (by lia) (by lia) q1 q2 (by simpa using q))
def SD (wi:TI) (g:TG) (tb:TS):TS:=fun D σ H=>wi σ H fun J H1=>∃W:Nat->Nat->St->Hp->Prop,(∃m,W 0 m σ H1)/\∀i m σ H,W i m σ H->
 (J.stop i H/\D.nx σ H)\/(J.go i H/\∃N:St->Hp->Prop,(∀σ' H',N σ' H'->∃m',m'<m/\W (i+1) m' σ' H')/\∀x H',J.HF i H x H'->g x σ H' fun σ2 H2=>tb {D with nx:=N,ct:=N,bk:=D.nx} σ2 H2)
def w8 (fp:List zc9) (h:Heap):List (zc9×Obj):=fp.filterMap fun b=>(h.get? b).map fun o=>(b,o)
theorem oy{fp:List zc9}{h:Heap}{b:zc9}{o:Obj}(hb:b∈fp)(e:h.get? b=some o):(b,o)∈w8 fp h:=zbO.mpr ⟨b,hb,by rw[e];rfl⟩
theorem HI{fp:List zc9}{h:Heap}{p:zc9×Obj}(hp:p∈w8 fp h):p.1∈fp/\h.get? p.1=some p.2:=by
 obtain⟨b,hb,e⟩:=zbO.mp hp;cases q:h.get? b with
 |none=>rw[q] at e;cases e
 |some o=>
  rw[q] at e;have e':(b,o)=p:=zav.inj e;subst e';exact⟨hb,q⟩
theorem Inv.pinned{pins:List (zc9×Obj)}{σ:St}{H:Hp}{s:zdj}{fp:List zc9}(I:Inv X pins σ H s)(hf:∀b∈fp,rM X pins H b)(ho:∀b∈fp,∃o,s.heap.get? b=some o/\∀v,o.data≠.cell v):Inv X (pins++w8 fp s.heap) σ H s:=
 I.Gb fun p hp=>(zay.mp hp).elim (fun z=>I.pin p (zaP _ z)) fun z=>by
  obtain⟨hb,e⟩:=HI z;obtain⟨f0,f1,f2,_⟩:=hf p.1 hb;obtain⟨o,e',d⟩:=ho p.1 hb;rw[e] at e';cases e';exact⟨e,f0,f1,f2,d⟩
theorem Inv.nK{pins pl:List (zc9×Obj)}{σ:St}{H:Hp}{s:zdj}(I:Inv X (pins++pl) σ H s):Inv X pins σ H s:=I.Gb fun p hp=>I.pin p (zaP _ (zbg _ hp))
theorem w9{iter:Expr}{body:List Stmt}{wi:TI}{g:TG}{tb:TS}{pos:Pos}(hp:PassesOwn (model X.prog X.w) X.A X.env X.xe)(hc:X.calm=true)(hi:PI X tg iter wi)(hg:PG X tg g)(hb:EI X body tb)
 (hs:∀x,foldedSetIterable iter X.env x=pure x:=by intro _;rfl):PS X (.For tg iter body [] pos) (SD wi g tb):=by
 intro pins s σ H D I h;refine wpAny_For (eI (hi pins s σ H _ I h) fun v s1 h1=>eI h1 fun VA s2 h2=>?_) hs;obtain⟨it,fp,tn,J,H2,e,I2,T,UI,f2,W,⟨m0,w0⟩,turn⟩:=h2;subst e;have stat:∀ {H':Hp},(∀b∈fp,H' b=none)->∀b∈fp,rM X pins H' b:=fun hn b hb=>⟨hn b hb,(f2 b hb).2⟩
 refine codeAny_forLoop_any (fun n s'=>∃i σ' H',Inv X pins σ' H' s'/\tn i s'.heap/\(∀b∈fp,H' b=none)/\W i n σ' H') ?_ m0 ⟨0,σ,H2,I2,UI,fun b hb=>(f2 b hb).1,w0⟩
 rintro n s3 ⟨i,σ3,H3,I3,O3,SE,w3⟩
 rcases turn i n σ3 H3 w3 with ⟨stop,qn⟩ |⟨go,N,hN,step⟩
 ·refine wpAny_passesOwn hp (eI (T.done X rfl rfl rfl hc i pins s3 σ3 H3 X.xe I3 (stat SE) O3 stop) fun r s4 zqz=>?_);obtain⟨hr,I4⟩:=zqz;subst hr;exact wpAny_execs_nil ⟨σ3,H3,I4,qn⟩
 ·refine wpAny_passesOwn hp (eI (T.item X rfl rfl rfl hc i pins s3 σ3 H3 X.xe I3 (stat SE) O3 go) fun r s4 zqz=>?_);obtain⟨u,hr,h4⟩:=zqz;subst hr;refine wpAny_passesOwn hp (eI h4 fun _ s5 zqz=>?_);obtain⟨x,H5,I5,r5,y5,Qu,VB⟩:=zqz;have VC:=I5.pinned (stat VB) (T.obj _ _ Qu);refine wpAny_passesOwn hp (eI (hg _ s5 σ3 H5 x u _ VC r5 (step x H5 y5)) fun _ s6 zqz=>?_);obtain⟨σ6,H6,I6,q6⟩:=zqz;refine wpAny_passesOwn hp (eI (hb _ s6 σ6 H6 _ I6 q6) fun f s7 q7=>?_);have again:∀ {σ7:St} {H7:Hp},Inv X (pins++w8 fp s5.heap) σ7 H7 s7->N σ7 H7->∃m,m<n/\∃i σ' H',Inv X pins σ' H' s7/\tn i s7.heap/\(∀b∈fp,H' b=none)/\W i m σ' H':=fun {σ7 H7} I7 n7=>by
   obtain⟨m',hm,w7⟩:=hN σ7 H7 n7;refine⟨m',hm,i+1,σ7,H7,I7.nK,T.keep _ _ _ Qu fun b hb o e=>(I7.pin (b,o) (zaP _ (zaP _ (oy hb e)))).1,fun b hb=>?_,w7⟩;obtain⟨o,e,d⟩:=T.obj _ _ Qu b hb;exact(I7.pin (b,o) (zaP _ (zaP _ (oy hb e)))).2.1
  cases f with
  |next=>obtain⟨σ7,H7,I7,n7⟩:=q7;exact again I7 n7
  |cont=>obtain⟨σ7,H7,I7,n7⟩:=q7;exact again I7 n7
  |brk=>obtain⟨σ7,H7,I7,q7⟩:=q7;exact⟨σ7,H7,I7.nK,q7⟩
  |ret v=>obtain⟨x7,σ7,H7,I7,r7,q7⟩:=q7;exact⟨x7,σ7,H7,I7.nK,r7,q7⟩
end
theorem xa{K:zac}{a:zc9}{xs:List V}{g:TG}{tb:TS}{D:Ends}{σ:St}{H:Hp}(Pv:Nat->St->Hp->Prop)(h0:Pv 0 σ H)(hl:∀i σ H,i<=xs.length->Pv i σ H->g8 K H a xs)
 (hs:∀i x σ H,xs[i]?=some x->Pv i σ H->g x σ H fun σ2 H2=>tb {D with nx:=Pv (i+1),ct:=Pv (i+1),bk:=D.nx} σ2 H2) (hd:∀σ H,Pv xs.length σ H->D.nx σ H) :
 ∃W:Nat->Nat->St->Hp->Prop,(∃m,W 0 m σ H)/\∀i m σ H,W i m σ H->
  ((Nr K a).stop i H/\D.nx σ H)\/((Nr K a).go i H/\∃N:St->Hp->Prop,(∀σ' H',N σ' H'->∃m',m'<m/\W (i+1) m' σ' H')/\∀x H',(Nr K a).HF i H x H'->g x σ H' fun σ2 H2=>tb {D with nx:=N,ct:=N,bk:=D.nx} σ2 H2):=by
 refine⟨fun i m σ H=>m=xs.length-i/\i<=xs.length/\Pv i σ H,⟨xs.length,by simp,za6 _,h0⟩,?_⟩
 rintro i m σ H ⟨rfl,hi,p⟩
 have q:=hl i σ H hi p;by_cases pH:i<xs.length
 ·refine .inr ⟨⟨xs,xs[i],q,by simp[pH]⟩,Pv (i+1),fun σ' H' p'=>⟨xs.length-(i+1),by lia,rfl,pH,p'⟩,fun x H' y=>?_⟩;obtain⟨e,y⟩:=y;subst e;exact hs i x σ _ (y xs q) p
 ·have e:i=xs.length:=by lia
  subst e;exact .inl ⟨⟨xs,q,zai _⟩,hd σ H p⟩
abbrev R2:=V->V->Hp->VK->Prop
def pN (X:Cx) (f:zda->zda->Sem zda) (r:R2):Prop:=
 ∀(pins:List (zc9×Obj)) (s:zdj) (σ:St) (H:Hp) (x y:V) (v u:zda) (Q:VK),Inv X pins σ H s->RelV x v->RelV y u->r x y H Q->
  wpAny (model X.prog X.w) X.A (f v u) (EP X pins σ Q) X.xe s
def VD (X:Cx) (f:zda->Sem zda) (r:V->Hp->VK->Prop):Prop:=
 ∀(pins:List (zc9×Obj)) (s:zdj) (σ:St) (H:Hp) (x:V) (v:zda) (Q:VK),Inv X pins σ H s->RelV x v->r x H Q->
  wpAny (model X.prog X.w) X.A (f v) (EP X pins σ Q) X.xe s
def nM (X:Cx) (f:zda) (r:List V->Hp->VK->Prop):Prop:=
 ∀(pins:List (zc9×Obj)) (s:zdj) (σ:St) (H:Hp) (xs:List V) (us:List zda) (Q:VK),Inv X pins σ H s->Vals xs us->r xs H Q->
  wpAny (model X.prog X.w) X.A (call f us) (EP X pins σ Q) X.xe s
def VE (X:Cx) (r:V->Hp->(Bool->Hp->Prop)->Prop):Prop:=
 ∀(pins:List (zc9×Obj)) (s:zdj) (σ:St) (H:Hp) (x:V) (v:zda) (Q:Bool->Hp->Prop),Inv X pins σ H s->RelV x v->r x H Q->
  wpAny (model X.prog X.w) X.A (truthy v) (TP X pins σ Q) X.xe s
def SF (r:R2) (ta tb:TE):TE:=fun σ H Q=>ta σ H fun x H1=>tb σ H1 fun y H2=>r x y H2 Q
def VF (r:V->Hp->VK->Prop) (ta:TE):TE:=fun σ H Q=>ta σ H fun x H1=>r x H1 Q
def rI (C:Int->Int->Prop) (g:Int->Int->V):R2:=fun x y H Q=>∃i j,x=.int i/\y=.int j/\C i j/\Q (g i j) H
def NL (g:Int->Int->V):R2:=fun x y H Q=>∃i j,x=.int i/\y=.int j/\Q (g i j) H
def rU (g:Int->V):V->Hp->VK->Prop:=fun x H Q=>∃i,x=.int i/\Q (g i) H
section
variable{X:Cx}{a b c:Expr}{ta tb tc:TE}{pos:Pos}
theorem Qv(ha:PE X a ta)(hb:PE X b tb){pins:List (zc9×Obj)}{s:zdj}{σ:St}{H:Hp}{R:V->V->Hp->Prop}(I:Inv X pins σ H s)
 (h:ta σ H fun x H1=>tb σ H1 fun y H2=>R x y H2) {Q:zda->zdj->Prop} {f:zda->zda->Sem zda}
 (hf:∀v u s2 x y H2,Inv X pins σ H2 s2->RelV x v->RelV y u->R x y H2->wpAny (model X.prog X.w) X.A (f v u) Q X.xe s2) :
 wpAny (model X.prog X.w) X.A (eval a X.env) (fun v s₁=>wpAny (model X.prog X.w) X.A (eval b X.env) (fun u s₂=>wpAny (model X.prog X.w) X.A (f v u) Q X.xe s₂) X.xe s₁) X.xe s:=by
 refine eI (ha pins s σ H _ I h) fun v s1 zqz=>?_;obtain⟨x,H1,I1,r1,q1⟩:=zqz;refine eI (hb pins s1 σ H1 _ I1 q1) fun u s2 zqz=>?_;obtain⟨y,H2,I2,r2,q2⟩:=zqz;exact hf v u s2 x y H2 I2 r1 r2 q2
theorem aF{op:Operator}{r:R2}(ho:pN X (binaryOp op) r)(ha:PE X a ta)(hb:PE X b tb):PE X (.BinOp a op b pos) (SF r ta tb):=by
 intro pins s σ H Q I h;exact wpAny_BinOp (Qv ha hb I h fun v u s2 x y H2 I2 rx ry q=>ho pins s2 σ H2 x y v u Q I2 rx ry q)
theorem xb{op:UnaryOp}{r:V->Hp->VK->Prop}(ho:VD X (unaryOp op) r)(ha:PE X a ta):PE X (.UnaryOp op a pos) (VF r ta):=by
 intro pins s σ H Q I h;exact UnaryOp_ (eI (ha pins s σ H _ I h) fun v s1 ⟨x,H1,I1,r1,q1⟩=>ho pins s1 σ H1 x v Q I1 r1 q1)
theorem SG{f:zda->zda->Sem zda}{C:Int->Int->Prop}{g:Int->Int->Int}
 (rule:∀(i j:Int) (t u:Tok) (s:zdj) (Q:zda->zdj->Prop) (E:zda->zdj->Prop),C i j->Q (.int (g i j) s.toks) {s with toks:=s.toks+1}->wpAny (model X.prog X.w) X.A (f (.int i t) (.int j u)) Q E s) :
 pN X f (rI C fun i j=>.int (g i j)):=by
 intro pins s σ H x y v u Q I rx ry h;obtain⟨i,j,rfl,rfl,hc,q⟩:=h;obtain⟨t,rfl⟩:=rx;obtain⟨t',rfl⟩:=ry;exact rule i j t t' s _ _ hc ⟨.int (g i j),H,I.tok _,⟨_,rfl⟩,q⟩
theorem SH{f:zda->zda->Sem zda}{g:Int->Int->Int}
 (rule:∀(i j:Int) (t u:Tok) (s:zdj) (Q:zda->zdj->Prop) (E:zda->zdj->Prop),Q (.int (g i j) s.toks) {s with toks:=s.toks+1}->wpAny (model X.prog X.w) X.A (f (.int i t) (.int j u)) Q E s) :
 pN X f (NL fun i j=>.int (g i j)):=by
 intro pins s σ H x y v u Q I rx ry h;obtain⟨i,j,rfl,rfl,q⟩:=h;obtain⟨t,rfl⟩:=rx;obtain⟨t',rfl⟩:=ry;exact rule i j t t' s _ _ ⟨.int (g i j),H,I.tok _,⟨_,rfl⟩,q⟩
theorem NM{f:zda->zda->Sem zda}{g:Int->Int->Bool}
 (rule:∀(i j:Int) (t u:Tok) (s:zdj) (Q:zda->zdj->Prop) (E:zda->zdj->Prop),Q (.bool (g i j)) s->wpAny (model X.prog X.w) X.A (f (.int i t) (.int j u)) Q E s) :
 pN X f (NL fun i j=>.bl (g i j)):=by
 intro pins s σ H x y v u Q I rx ry h;obtain⟨i,j,rfl,rfl,q⟩:=h;obtain⟨t,rfl⟩:=rx;obtain⟨t',rfl⟩:=ry;exact rule i j t t' s _ _ ⟨.bl (g i j),H,I,rfl,q⟩
def SI (i j:Int):Prop:=0<j/\j<1073741824
def Qw (i j:Int):Prop:=0<=j/\j<=1000000/\i.natAbs<2 ^ 64
def HJ (i j:Int):Prop:=(-(2 ^ 64)<i/\i<2 ^ 64)\/(-(2 ^ 64)<j/\j<2 ^ 64)
theorem HJ.ok{i j:Int}(h:HJ i j):IntMulOk i j:=by
 rcases h with ⟨h1,h2⟩ |⟨h1,h2⟩
 ·exact .of_left (intBits_le_64 h1 h2)
 ·exact .of_right (intBits_le_64 h1 h2)
theorem ER(k:Nat):(0:Int)<=2 ^ k:=by
 rw[two_pow_cast];exact Int.natCast_nonneg _
theorem uA:pN X (binaryOp .Add) (NL fun i j=>.int (i+j)):=SH fun _ _ _ _ _ _ _ q=>add_int q
theorem ES:pN X (binaryOp .Sub) (NL fun i j=>.int (i-j)):=SH fun _ _ _ _ _ _ _ q=>sub_int q
theorem xc:pN X (binaryOp .Mult) (rI HJ fun i j=>.int (i*j)):=SG fun _ _ _ _ _ _ _ hc q=>mul_int q hc.ok
theorem jF:pN X (binaryOp .FloorDiv) (rI SI fun i j=>.int (i/j)):=SG fun i j _ _ _ _ _ hc q=>by
 have h1:(0:Int)<j:=hc.1;have h2:j<1073741824:=hc.2;exact floordiv_int (by lia) (by rw[zck i (by lia)];exact q) (.inl (PyProof.noPylong_small (by lia)))
theorem c9:pN X (binaryOp .Mod) (rI (fun _ j=>0<j) fun i j=>.int (i%j)):=SG fun i j _ _ _ _ _ hc q=>by
 have h1:(0:Int)<j:=hc;exact mod_int' (by lia) (by rw[Int.fmod_eq_emod_of_nonneg i (by lia)];exact q)
theorem ET:pN X (binaryOp .Pow) (rI Qw fun i j=>.int (i ^ j.toNat)):=SG fun _ _ _ _ _ _ _ hc q=>pow_int_small hc.1 hc.2.1 hc.2.2 q
theorem Qx:pN X (binaryOp .RShift) (rI (fun _ j=>0<=j) fun i j=>.int (i/2 ^ j.toNat)):=SG fun i j _ _ _ _ _ hc q=>
 rshift_int hc (by rw[zck i (ER _)];exact q)
theorem YJ{f:zda->Sem zda}{g:Int->Int}
 (rule:∀(i:Int) (t:Tok) (s:zdj) (Q:zda->zdj->Prop) (E:zda->zdj->Prop),Q (.int (g i) s.toks) {s with toks:=s.toks+1}->wpAny (model X.prog X.w) X.A (f (.int i t)) Q E s) :
 VD X f (rU fun i=>.int (g i)):=by
 intro pins s σ H x v Q I rx h;obtain⟨i,rfl,q⟩:=h;obtain⟨t,rfl⟩:=rx;exact rule i t s _ _ ⟨.int (g i),H,I.tok _,⟨_,rfl⟩,q⟩
theorem rN:VD X (unaryOp .USub) (rU fun i=>.int (-i)):=YJ fun _ _ _ _ _ q=>neg_int q
end
def Cz:V->V->Bool
 |.dB,.dB=>true |.dB,.int _=>true |.int _,.dB=>true |.dB,.bl _=>true |.bl _,.dB=>true |.dB,.str _=>true |.str _,.dB=>true
 |.int _,.int _=>true |.bl _,.bl _=>true |.str _,.str _=>true |.Ga _,.Ga _=>true
 |.int _,.str _=>true |.str _,.int _=>true |.bl _,.str _=>true |.str _,.bl _=>true
 |_,_=>false
def Xh:R2:=fun x y H Q=>Cz x y=true/\Q (.bl (decide (x=y))) H
def Xi:R2:=fun x y H Q=>Cz x y=true/\Q (.bl (!decide (x=y))) H
theorem Gg{i j:Int}:decide (V.int i=V.int j)=(i==j):=by
 rw[zbh];simp
theorem J0{i j:Bool}:decide (V.bl i=V.bl j)=(i==j):=by
 rw[zbh];simp
theorem Gh{i j:Str}:decide (V.str i=V.str j)=(i==j):=by
 rw[zbh];simp
theorem Gi{i j:Array UInt8}:decide (V.Ga i=V.Ga j)=(i.toList==j.toList):=by
 rw[zbh];cases i;cases j;simp
section
variable{X:Cx}{a b c:Expr}{ta tb tc:TE}{pos:Pos}
theorem cp{pins:List (zc9×Obj)}{σ:St}{H:Hp}{s:zdj}{Q:VK}{k k':Bool}(I:Inv X pins σ H s)(q:Q (.bl k) H)(e:k=k'):EP X pins σ Q (.bool k') s:=by
 subst e;exact⟨.bl k,H,I,rfl,q⟩
theorem cy:pN X (compareOp .Eq) Xh:=by
 intro pins s σ H x y v u Q I rx ry h;obtain⟨hs,q⟩:=h;cases x with
 |dB=>
  cases rx;cases y with
  |dB=>cases ry;exact PySem.EqNone.eq_none_none (cp I q (by simp))
  |bl j=>cases ry;exact PySem.EqNone.eq_none_bool (cp I q (by simp))
  |int j=>obtain⟨t',rfl⟩:=ry;exact PySem.EqNone.eq_none_int (cp I q (by simp))
  |str j=>obtain⟨t',rfl⟩:=ry;exact PySem.EqNone.eq_none_str (cp I q (by simp))
  |_=>exact absurd (show false=true from hs) zad
 |bl i=>
  cases rx;cases y with
  |dB=>cases ry;exact PySem.EqNone.eq_bool_none (cp I q (by simp))
  |bl j=>cases ry;exact eq_bool (cp I q J0)
  |str j=>obtain⟨t',rfl⟩:=ry;exact PySem.EqMixed.eq_bool_str (cp I q (by simp))
  |_=>exact absurd (show false=true from hs) zad
 |int i=>
  obtain⟨t,rfl⟩:=rx;cases y with
  |dB=>cases ry;exact PySem.EqNone.eq_int_none (cp I q (by simp))
  |int j=>obtain⟨t',rfl⟩:=ry;exact eq_int (cp I q Gg)
  |str j=>obtain⟨t',rfl⟩:=ry;exact PySem.EqMixed.eq_int_str (cp I q (by simp))
  |_=>exact absurd (show false=true from hs) zad
 |str i=>
  obtain⟨t,rfl⟩:=rx;cases y with
  |dB=>cases ry;exact PySem.EqNone.eq_str_none (cp I q (by simp))
  |bl j=>cases ry;exact PySem.EqMixed.eq_str_bool (cp I q (by simp))
  |int j=>obtain⟨t',rfl⟩:=ry;exact PySem.EqMixed.eq_str_int (cp I q (by simp))
  |str j=>obtain⟨t',rfl⟩:=ry;exact eq_str (cp I q Gh)
  |_=>exact absurd (show false=true from hs) zad
 |Ga i=>
  obtain⟨t,rfl⟩:=rx;cases y with
  |Ga j=>obtain⟨t',rfl⟩:=ry;exact PySem.W.eq_bytes (cp I q Gi)
  |_=>exact absurd (show false=true from hs) zad
 |_=>cases y<;>exact absurd (show false=true from hs) zad
theorem xf:pN X (compareOp .NotEq) Xi:=by
 intro pins s σ H x y v u Q I rx ry h;obtain⟨hs,q⟩:=h;cases x with
 |dB=>
  cases rx;cases y with
  |dB=>cases ry;exact PySem.EqNone.ne_none_none (cp I q (by simp))
  |bl j=>cases ry;exact PySem.EqNone.ne_none_bool (cp I q (by simp))
  |int j=>obtain⟨t',rfl⟩:=ry;exact PySem.EqNone.ne_none_int (cp I q (by simp))
  |str j=>obtain⟨t',rfl⟩:=ry;exact PySem.EqNone.ne_none_str (cp I q (by simp))
  |_=>exact absurd (show false=true from hs) zad
 |bl i=>
  cases rx;cases y with
  |dB=>cases ry;exact PySem.EqNone.ne_bool_none (cp I q (by simp))
  |bl j=>cases ry;exact ne_bool (cp I q (congrArg not J0))
  |str j=>obtain⟨t',rfl⟩:=ry;exact PySem.EqMixed.ne_bool_str (cp I q (by simp))
  |_=>exact absurd (show false=true from hs) zad
 |int i=>
  obtain⟨t,rfl⟩:=rx;cases y with
  |dB=>cases ry;exact PySem.EqNone.ne_int_none (cp I q (by simp))
  |int j=>obtain⟨t',rfl⟩:=ry;exact ne_int (cp I q (congrArg not Gg))
  |str j=>obtain⟨t',rfl⟩:=ry;exact PySem.EqMixed.ne_int_str (cp I q (by simp))
  |_=>exact absurd (show false=true from hs) zad
 |str i=>
  obtain⟨t,rfl⟩:=rx;cases y with
  |dB=>cases ry;exact PySem.EqNone.ne_str_none (cp I q (by simp))
  |bl j=>cases ry;exact PySem.EqMixed.ne_str_bool (cp I q (by simp))
  |int j=>obtain⟨t',rfl⟩:=ry;exact PySem.EqMixed.ne_str_int (cp I q (by simp))
  |str j=>obtain⟨t',rfl⟩:=ry;exact ne_str (cp I q (congrArg not Gh))
  |_=>exact absurd (show false=true from hs) zad
 |Ga i=>
  obtain⟨t,rfl⟩:=rx;cases y with
  |Ga j=>obtain⟨t',rfl⟩:=ry;exact PySem.W.ne_bytes (cp I q (congrArg not Gi))
  |_=>exact absurd (show false=true from hs) zad
 |_=>cases y<;>exact absurd (show false=true from hs) zad
theorem xg:pN X (compareOp .Lt) (NL fun i j=>.bl (decide (i<j))):=NM fun _ _ _ _ _ _ _ q=>lt_int q
theorem vv:pN X (compareOp .LtE) (NL fun i j=>.bl (decide (i<=j))):=NM fun _ _ _ _ _ _ _ q=>le_int q
theorem xh:pN X (compareOp .Gt) (NL fun i j=>.bl (decide (j<i))):=NM fun _ _ _ _ _ _ _ q=>gt_int q
theorem SJ:pN X (compareOp .GtE) (NL fun i j=>.bl (decide (j<=i))):=NM fun _ _ _ _ _ _ _ q=>ge_int q
theorem uB:pN X (compareOp .In) (fun x y H Q=>∃i j,x=.str i/\y=.str j/\Q (.bl (!(Builtin.Str.occurrences j i 0 j.length 1).isEmpty)) H):=by
 intro pins s σ H x y v u Q I rx ry h;obtain⟨i,j,rfl,rfl,q⟩:=h;obtain⟨t,rfl⟩:=rx;obtain⟨t',rfl⟩:=ry;exact in_str (cp I q rfl)
theorem Qy:pN X (compareOp .Is) (fun x y H Q=>y=.dB/\Q (.bl (decide (x=.dB))) H):=by
 intro pins s σ H x y v u Q I rx ry h;obtain⟨rfl,q⟩:=h;cases ry;refine is_none_gen (cp I q ?_);cases x<;>first
  |(cases rx;rfl)
  |(obtain⟨t,rfl⟩:=rx;rfl)
theorem aW(b:Expr){op:CmpOp}(h:op≠.In:=by decide)(h2:op≠.NotIn:=by decide):behindInMarks op b=false:=by
 have e1:(op==CmpOp.In)=false:=by cases op<;>first |rfl |exact absurd rfl h
 have e2:(op==CmpOp.NotIn)=false:=by cases op<;>first |rfl |exact absurd rfl h2
 cases b<;>simp[behindInMarks,e1,e2]
theorem fN{op:CmpOp}{r:R2}(ho:pN X (compareOp op) r)(ha:PE X a ta)(hb:PE X b tb)(hm:behindInMarks op b=false):PE X (.Compare a [op] [b] pos) (SF r ta tb):=by
 intro pins s σ H Q I h;exact wpAny_Compare1 (Qv ha hb I h fun v u s2 x y H2 I2 rx ry q=>ho pins s2 σ H2 x y v u Q I2 rx ry q) hm
def Gj (t:TE):TT:=fun σ H Q=>t σ H fun x H'=>∃k,x=.bl k/\Q k H'
theorem aH{op:CmpOp}{r:R2}(ho:pN X (compareOp op) r)(ha:PE X a ta)(hb:PE X b tb)(hm:behindInMarks op b=false):PT X (.Compare a [op] [b] pos) (Gj (SF r ta tb)):=by
 intro pins s σ H Q I h;refine wpAny_isTrue_Compare1 (eI (ha pins s σ H _ I h) fun v s1 zqz=>?_) hm;obtain⟨x,H1,I1,r1,q1⟩:=zqz;refine eI (hb pins s1 σ H1 _ I1 q1) fun u s2 zqz=>?_;obtain⟨y,H2,I2,r2,q2⟩:=zqz;refine eI (ho pins s2 σ H2 x y v u _ I2 r1 r2 q2) fun c s3 zqz=>?_;obtain⟨z,H3,I3,r3,k,e,q3⟩:=zqz;subst e;cases r3;exact wpAny_truthy_bool ⟨H3,I3,q3⟩
def EU (r r':R2) (ta tb tc:TE):TE:=fun σ H Q=>ta σ H fun x H1=>tb σ H1 fun y H2=>r x y H2 fun z H3=>∃k,z=.bl k/\
 (if k=true then tc σ H3 fun w' H4=>r' y w' H4 Q else Q (.bl false) H3)
theorem sW{op Qz:CmpOp}{r r':R2}(ho:pN X (compareOp op) r)(qV:pN X (compareOp Qz) r')(ha:PE X a ta)(hb:PE X b tb)(hc:PE X c tc)
 (hm:lastMarks [op,Qz] [b,c]=false:=by with_unfolding_all rfl):PE X (.Compare a [op,Qz] [b,c] pos) (EU r r' ta tb tc):=by
 intro pins s σ H Q I h;refine Compare_chain (eI (ha pins s σ H _ I h) fun v s1 ⟨x,H1,I1,r1,q1⟩=>chain_link (eI (hb pins s1 σ H1 _ I1 q1) fun u s2 zqz=>?_)) hm;obtain⟨y,H2,I2,r2,q2⟩:=zqz;refine eI (ho pins s2 σ H2 x y v u _ I2 r1 r2 q2) fun d s3 zqz=>?_;obtain⟨z,H3,I3,r3,k,e,q3⟩:=zqz;subst e;cases r3;refine wpAny_truthy_bool ?_;cases k with
 |false=>exact ite_ff ⟨.bl false,H3,I3,rfl,q3⟩
 |true=>exact ite_tt (chain_last (eI (hc pins s3 σ H3 _ I3 q3) fun w' s4 ⟨z',H4,I4,r4,q4⟩=>qV pins s4 σ H4 y z' u w' Q I4 r2 r4 q4))
def SK (K:zac) (x:V) (H:Hp) (k:Bool):Prop:=
 match x with
 |.dB=>k=false
 |.bl b=>k=b
 |.int i=>k=(i != 0)
 |.str y=>y.length<=zdh/\k=((y.length:Int) != 0)
 |.Ga y=>y.size<=zdh/\k=((y.size:Int) != 0)
 |.ref p=>(∃xs,g8 K H p xs/\k = !xs.isEmpty)\/(∃xs,eS K H p xs/\k = !xs.isEmpty)\/∃bg,H p=some (.dK bg)/\k = !bg.isEmpty
 |_=>False
theorem EV{κ:Type}{bg:List (κ×V)}{vs:List (κ×zda)}(r:KV bg vs):(!vs.isEmpty) = !bg.isEmpty:=by
 cases r<;>rfl
theorem xj{xs:List V}{bt:List zda}(r:Vals xs bt):(!bt.toArray.isEmpty) = !xs.isEmpty:=by
 cases r<;>simp
theorem pO:(zdh:Nat)<2 ^ 63:=by rw[sizeLine_eq];decide
theorem QA:VE X (fun x H Q=>∃k,SK X.K x H k/\Q k H):=by
 intro pins s σ H x v Q I rx h;obtain⟨k,e,q⟩:=h;have hl:=pO;have hs:zdh=16777216:=sizeLine_eq;cases x with
 |dB=>
  cases rx;have e':k=false:=e;subst e';exact truthy_none ⟨H,I,q⟩
 |bl b=>
  cases rx;have e':k=b:=e;subst e';exact wpAny_truthy_bool ⟨H,I,q⟩
 |int i=>
  obtain⟨t,rfl⟩:=rx;have e':k=(i != 0):=e;subst e';exact PySem.P.truthy_int ⟨H,I,q⟩
 |str y=>
  obtain⟨t,rfl⟩:=rx;obtain⟨hy,e'⟩:y.length<=zdh/\k=((y.length:Int) != 0):=e;subst e';exact PySem.P.truthy_str (by lia) ⟨H,I.tok _,q⟩
 |Ga y=>
  obtain⟨t,rfl⟩:=rx;obtain⟨hy,e'⟩:y.size<=zdh/\k=((y.size:Int) != 0):=e;subst e';exact PySem.W.truthy_bytes (by lia) ⟨H,I.tok _,q⟩
 |ref p=>
  cases rx;have e':(∃xs,g8 X.K H p xs/\k = !xs.isEmpty)\/(∃xs,eS X.K H p xs/\k = !xs.isEmpty)\/∃bg,H p=some (.dK bg)/\k = !bg.isEmpty:=e;rcases e' with ⟨xs,hx,e'⟩ |⟨xs,hx,e'⟩ |⟨bg,hx,e'⟩
  ·subst e';obtain⟨bt,r,pl,hz⟩:=I.list hx;have hlen:=r.length;exact wpAny_truthy_list pl.isList (by simp only[zaq];lia) ⟨H,I.tok _,by rw[xj r];exact q⟩
  ·subst e';obtain⟨bt,r,pl,hz⟩:=I.tuple hx;have hlen:=r.length;exact truthy_tuple pl (by simp only[zaq];lia) ⟨H,I.tok _,by rw[xj r];exact q⟩
  ·subst e';obtain⟨hz,hS,vs,r,m⟩:bg.length<=zdh/\(p==sysModules)=false/\∃vs,KV bg vs/\s.heap.DictOf (eU X.prog X.w) p vs:=I.dD p _ hx;have hlen:bg.length=vs.length:=Paired.length r;exact wpAny_truthy_dict hS m (by lia) ⟨H,I.tok _,by rw[EV r];exact q⟩
 |_=>exact(show False from e).elim
theorem pP(ha:PE X a ta)(he:∀whole,isTrue a X.env whole=(do let v <- whole;standAt a.pos;holding [v] (truthy v))) :
 PT X a (fun σ H Q=>ta σ H fun x H'=>∃k,SK X.K x H' k/\Q k H'):=by
 intro pins s σ H Q I h;exact isTrue_plain (eI (ha pins s σ H _ I h) fun v s1 ⟨x,H1,I1,r1,q1⟩=>QA pins s1 σ H1 x v Q I1 r1 q1) (he _)
theorem aE:pN X (binaryOp .Add) (fun x y H Q=>∃i j,x=.str i/\y=.str j/\i.length+j.length<=zdh/\Q (.str (i++j)) H):=by
 intro pins s σ H x y v u Q I rx ry h;obtain⟨i,j,rfl,rfl,hz,q⟩:=h;obtain⟨t,rfl⟩:=rx;obtain⟨t',rfl⟩:=ry;exact add_str (fun t' tk=>⟨.str (i++j),H,I.tok _,⟨_,rfl⟩,q⟩) hz
theorem vals1{x:V}{us:List zda}(r:Vals [x] us):∃u,us=[u]/\RelV x u:=by
 cases r with
 |cons r1 r2=>cases r2;exact⟨_,rfl,r1⟩
theorem vals2{x y:V}{us:List zda}(r:Vals [x,y] us):∃u w',us=[u,w']/\RelV x u/\RelV y w':=by
 cases r with
 |cons r1 r2=>
  cases r2 with
  |cons r3 r4=>cases r4;exact⟨_,_,rfl,r1,r3⟩
theorem HK(hc:X.calm=true):nM X (.builtin "max") (fun xs H Q=>∃i j,xs=[.int i,.int j]/\Q (.int (if j>i then j else i)) H):=by
 intro pins s σ H xs us Q I r h;obtain⟨i,j,rfl,q⟩:=h;obtain⟨u,w',rfl,⟨t,rfl⟩,⟨t',rfl⟩⟩:=vals2 r;refine max_two_ints (I.ok.hd hc) fun h' tk k=>⟨_,H,I.kept k,?_,q⟩
 by_cases hj:j>i
 ·rw[if_pos hj,if_pos hj];exact⟨_,rfl⟩
 ·rw[if_neg hj,if_neg hj];exact⟨_,rfl⟩
theorem Bh:nM X (.type "str") (fun xs H Q=>∃i,xs=[.int i]/\i.natAbs.log2<1920/\Q (.str (toString i)) H):=by
 intro pins s σ H xs us Q I r h;obtain⟨i,rfl,hz,q⟩:=h;obtain⟨u,rfl,t,rfl⟩:=vals1 r;exact PySem.P.str_of_int hz ⟨.str _,H,I.tok _,⟨_,rfl⟩,q⟩
end
structure EW(h:Heap)(x dx C:zc9)(mA:Str->Option zda):Prop where
 obj:h.get? x=some (zbu C dx)
 ns:h.Ns1 dx mA
 ne:dx≠x
theorem HL{h:Heap}{dx:zc9}{mA:Str->Option zda}(n:h.Ns1 dx mA):∃od,h.get? dx=some od/\∀name,zcf name od=some (mA name):=by
 obtain⟨o,es,ep,ho,hd,hk,_,hm⟩:=n;refine⟨o,ho,fun name=>?_⟩;have e:=hm name;unfold nsFind findBy at e;rw[<- Array.find?_toList] at e;unfold zcf;rw[hd];dsimp only;split
 ·rename_i y q;rw[q] at e;exact congrArg some e
 ·rename_i q;rw[q] at e;have a:es.toList.any (·.refKey)=false:=by
   rw[List.any_eq_false];intro y hy;obtain⟨z,t,VG⟩:=hk y (Array.mem_toList_iff.mp hy);simp[DictEntry.refKey,VG]
  have a':¬es.toList.any (·.refKey)=true:=by rw[a];exact zad
  rw[if_neg a'];exact congrArg some e
theorem EW.look{h:Heap}{x dx C:zc9}{mA:Str->Option zda}(I:EW h x dx C mA):∃od,PySem.W.InstAt h x (zbu C dx) C (some od)/\∀name,zcf name od=some (mA name):=
 let ⟨od,ho,hl⟩:=HL I.ns
 ⟨od,⟨I.obj,rfl,rfl,ho⟩,hl⟩
section
variable{prog:zdl}{w:zdb}{A:zdk}{E:zda->zdj->Prop}{s:zdj}{K:zac}{x dx C f:zc9}{mA:Str->Option zda}{name:Str}{v:zda}
theorem get_map{expr:Bool}{Q:zda->zdj->Prop}(X:K.In s.heap)(I:EW s.heap x dx C mA)(hg:zbG K C name=true)(hh:zaO K C=true)
 (ha:zak K (.ref C) name=some none) (hv:mA name=some v) (UJ:PySem.W.handedIn v=true) (h:Q v {s with toks:=s.toks+1}) :
 wpAny (model prog w) A (getAttr (.ref x) name expr) Q E s:=by
 obtain⟨od,J,hl⟩:=I.look;exact PySem.W.get_value X J (zcd hg).1 (PySem.W.findObj_own hh ha rfl (by rw[hl,hv])) UJ h
theorem J7{pl:Sem Bool}{Q:zda×List zda->zdj->Prop}(X:K.In s.heap)(I:EW s.heap x dx C mA)(hg:zbG K C name=true)
 (hf:zak K (.ref C) name=some (some (.ref f))) (ht:zbv K (.ref f)=true) (hv:mA name=none) (h:Q (.ref f,[.ref x]) s) :
 wpAny (model prog w) A (getMethod (.ref x) name pl) Q E s:=by
 obtain⟨od,J,hl⟩:=I.look;exact PySem.W.method_fn X J (zcd hg).1 (zcd hg).2 hf (beq_iff_eq.mp ht) (by show (zcf name od).map (·.isSome)=some false;rw[hl,hv];rfl) h
theorem NN{ns:List Str}{Q:Unit->zdj->Prop}(X:K.In s.heap)(I:EW s.heap x dx C mA)
 (hs:zak K (.ref C) "__setattr__"=some (some (.builtin "object.__setattr__"))) (hp:zbV K C=true) (ht:zcI K C name=some none) (hh:zaO K C=true)
 (hw:PySem.Within mA ns) (J8:ns.length<=zdh)
 (h:∀h',EW h' x dx C (fun y=>if y=name then some v else mA y)->Heap.SameBut dx s.heap h'->Q () {s with heap:=h',toks:=s.toks+2}) :
 wpAny (model prog w) A (setAttr (.ref x) name v) Q E s:=by
 obtain⟨od,J,hl⟩:=I.look;refine PySem.W.set_plain X J hs (PySem.W.osa_open (s:={s with toks:=s.toks+1}) (r:=none) X J hp ht fun b=>?_);obtain⟨cd,hc,Vs⟩:=zcB hh;have hx:s.heap.get? x=some ⟨.ref C,some dx,.plain, #[]⟩:=I.obj;refine zdc (zdd (zdc (zdc (wpAny_loadPart hx (zdc (PySem.W.Looks.here (s:={s with toks:=s.toks+1}) (PySem.W.looks_clsIn X hc) ?_))))));rw[Vs];refine zdd (a:=some dx) (zdc (zdd (zdc ?_)));refine wpAny_nsSet1 (s:={s with toks:=s.toks+1}) I.ns fun h' UK Xj=>?_;obtain⟨oD,esD,epD,YK,YL,YM⟩:=UK.count (PySem.Within.cons name v hw);refine zdc (wpAny_lookBehind YK (by rw[YL];exact pastItsLine_dict (zaB YM (by rw[zah];lia))) ?_);exact zdd (h _ ⟨(Xj.2 _ (Ne.symm I.ne)).trans I.obj,UK,I.ne⟩ Xj)
theorem J9{R:Result->zdj->Prop}{vs:List zda}{kw:List (Str×zda)}(X:K.In s.heap)(hm:zb8 K C=true)
 (hi:zak K (.ref C) "__init__"=some (some (.ref f))) (hf:PySem.W.typeIn K (.ref f)=some (.type "function"))
 (h:codeAny (model prog w) (A.under (.builtin "type.__call__" ⟨.ref C::vs,kw⟩)) (.call (.ref f) ⟨.ref (s.heap.objs.size+1)::vs,kw⟩) (PySem.W.InitBack (s.heap.objs.size+1) R)
  {s with heap:=(s.heap.push za9).push (zbu C s.heap.objs.size)}) :
 codeAny (model prog w) A (.call (.ref C) ⟨vs,kw⟩) R s:=by
 obtain⟨hh,g,d,t,os⟩:=s;exact PySem.W.make_core (PySem.W.makes_of X hm) (zbM X hi) (fun self=>PySem.W.bind_fn X self hf) (.inl rfl) h
end
def nN (f:Str) (v:V):List (Str×V)->List (Str×V)
 |[]=>[(f,v)]
 |(g,x)::r=>if g=f then (g,v)::r else (g,x)::nN f v r
theorem vw(f g:Str)(v:V):∀fs:List (Str×V),(nN f v fs).lookup g=if g=f then some v else fs.lookup g
 |[]=>by
  show zbD g [(f,v)]=_;by_cases h:g=f
  ·have hb:(g==f)=true:=beq_iff_eq.mpr h;simp only[zbD,hb,if_pos h]
  ·have hb:(g==f)=false:=beq_eq_false_iff_ne.mpr h;simp only[zbD,hb,if_neg h]
 |(k,x)::r=>by
  have ih:=vw f g v r;rw[show nN f v ((k,x)::r)=(if k=f then (k,v)::r else (k,x)::nN f v r) from rfl];by_cases hk:k=f
  ·rw[if_pos hk];by_cases h:g=k
   ·have hb:(g==k)=true:=beq_iff_eq.mpr h;simp only[zbD,hb,if_pos (h.trans hk)]
   ·have hb:(g==k)=false:=beq_eq_false_iff_ne.mpr h;simp only[zbD,hb,if_neg (fun e:g=f=>h (e.trans hk.symm))]
  ·rw[if_neg hk];by_cases h:g=k
   ·have hb:(g==k)=true:=beq_iff_eq.mpr h;simp only[zbD,hb,if_neg (fun e:g=f=>hk (h.symm.trans e))]
   ·have hb:(g==k)=false:=beq_eq_false_iff_ne.mpr h;simp only[zbD,hb];exact ih
theorem uC(f:Str)(v:V):∀fs:List (Str×V),f∈(nN f v fs).map (·.1)/\∀g,g∈fs.map (·.1)->g∈(nN f v fs).map (·.1)
 |[]=>⟨by simp[nN],fun g h=>by simp at h⟩
 |(k,x)::r=>by
  obtain⟨i1,i2⟩:=uC f v r;rw[show nN f v ((k,x)::r)=(if k=f then (k,v)::r else (k,x)::nN f v r) from rfl];by_cases hk:k=f
  ·rw[if_pos hk];subst hk;exact⟨by simp,fun g h=>by simpa using h⟩
  ·rw[if_neg hk];refine⟨?_,fun g h=>?_⟩
   ·rw[zaw];exact zas _ i1
   ·rw[zaw] at h ⊢;rcases zaj.mp h with e |e
    ·exact zaj.mpr (.inl e)
    ·exact zas _ (i2 g e)
theorem vz(f:Str)(v:V):∀fs:List (Str×V),(nN f v fs).length<=fs.length+1
 |[]=>by simp[nN]
 |(k,x)::r=>by
  have ih:=vz f v r;rw[show nN f v ((k,x)::r)=(if k=f then (k,v)::r else (k,x)::nN f v r) from rfl];by_cases hk:k=f
  ·rw[if_pos hk,zah,zah];lia
  ·rw[if_neg hk,zah,zah];lia
theorem pK.some_of{v:V}{o:Option zda}(r:pK (some v) o):∃u,o=some u/\RelV v u:=by
 cases o with
 |none=>exact(show False from r).elim
 |some u=>exact⟨u,rfl,r⟩
theorem pK.none_of{o:Option zda}(r:pK none o):o=none:=by
 cases o with
 |none=>rfl
 |some u=>exact(show False from r).elim
theorem HM{v:V}{u:zda}(r:RelV v u):PySem.W.handedIn u=true:=by
 cases v with
 |dB=>cases (show u=Value.none from r);rfl
 |bl b=>cases (show u=Value.bool b from r);rfl
 |int i=>obtain⟨t,e⟩:=(show ∃t,u=Value.int i t from r);cases e;rfl
 |str x=>obtain⟨t,e⟩:=(show ∃t,u=Value.str x t from r);cases e;rfl
 |Ga b=>obtain⟨t,e⟩:=(show ∃t,u=Value.bytes b t from r);cases e;rfl
 |UA b=>obtain⟨t,e⟩:=(show ∃t,u=Value.float b t from r);cases e;rfl
 |ref a=>cases (show u=Value.ref a from r);rfl
 |ty n=>cases (show u=Value.type n from r);rfl
section
variable{P:zdl}{w:zdb}{H H':Hp}{h h':Heap}{a C dx:zc9}{fs OW:List (Str×V)}
theorem Bi(dD:sS P w H h)(e:H a=some (.ins C dx fs)):∃mA,EW h a dx C mA/\(∀f,pK (fs.lookup f) (mA f))/\PySem.Within mA (fs.map (·.1))/\fs.length<=1000/\H dx=some (.own a):=by
 obtain⟨d,z,ne,ob,mA,n,r,q⟩:=(show dN P w H h a (.ins C dx fs) from dD a _ e)
 exact⟨mA,⟨ob,n,ne⟩,r,q,z,d⟩
end
structure Ka(K:zac)(C:zc9):Prop where
 pg:zbG K C Str.empty=true
 hd:zaO K C=true
 po:zbV K C=true
 sa:zak K (.ref C) "__setattr__"=some (some (.builtin "object.__setattr__"))
theorem Ka.get{K:zac}{C:zc9}(c:Ka K C)(f:Str):zbG K C f=true:=c.pg
def j4 (K:zac) (C:zc9) (f:Str):Prop:=zak K (.ref C) f=some none
theorem j4.SM{K:zac}{C:zc9}{f:Str}(n:j4 K C f):zcI K C f=some none:=by
 unfold zcI;rw[show zak K (.ref C) f=some none from n];rfl
structure Meth(K:zac)(C:zc9)(m:Str)(f:zc9):Prop where
 at_:zak K (.ref C) m=some (some (.ref f))
 fn:zbv K (.ref f)=true
 kp:zaS K (.ref f)=true
section
variable{X:Cx}{pins:List (zc9×Obj)}{σ:St}{H:Hp}{s:zdj}{a C dx:zc9}{fs:List (Str×V)}{f:Str}{v:V}{A:zdk}{E:zda->zdj->Prop}
theorem xk{b:Bool}{Q:zda->zdj->Prop}(I:Inv X pins σ H s)(e:H a=some (.ins C dx fs))(c:Ka X.K C)(n:j4 X.K C f)(l:fs.lookup f=some v)
 (h:∀u s',Inv X pins σ H s'->RelV v u->Q u s'):wpAny (model X.prog X.w) A (getAttr (.ref a) f b) Q E s:=by
 obtain⟨mA,O,r,_,_,_⟩:=Bi I.dD e;obtain⟨u,hu,ru⟩:=pK.some_of (v:=v) (o:=mA f) (by rw[<- l];exact r f);exact get_map I.zy O (c.get f) c.hd n hu (HM ru) (h u _ (I.tok _) ru)
theorem EX{m:Str}{g:zc9}{pl:Sem Bool}{Q:zda×List zda->zdj->Prop}(I:Inv X pins σ H s)(e:H a=some (.ins C dx fs))(c:Ka X.K C)(k:Meth X.K C m g)(l:fs.lookup m=none)
 (h:Q (.ref g,[.ref a]) s):wpAny (model X.prog X.w) A (getMethod (.ref a) m pl) Q E s:=by
 obtain⟨mA,O,r,_,_,_⟩:=Bi I.dD e;have hn:mA m=none:=pK.none_of (by rw[<- l];exact r m);exact J7 I.zy O (c.get m) k.at_ k.fn hn h
theorem xl{y:V}{u:zda}{Q:Unit->zdj->Prop}(I:Inv X pins σ H s)(e:H a=some (.ins C dx fs))(c:Ka X.K C)(n:j4 X.K C f)(hl:fs.length<1000)(ry:RelV y u)
 (h:∀s',Inv X pins σ (upd H a (.ins C dx (nN f y fs))) s'->Q () s'):wpAny (model X.prog X.w) A (setAttr (.ref a) f u) Q E s:=by
 obtain⟨mA,O,r,wi,_,ho⟩:=Bi I.dD e;have hz:(fs.map (·.1)).length<=zdh:=by rw[zae,sizeLine_eq];lia
 refine NN I.zy O c.sa c.po n.SM c.hd wi hz fun h' O' sb=>h _ ?_;have hd:∃o,h'.get? dx=some o:=let ⟨o,_,_,e',_⟩:=O'.ns;⟨o,e'⟩;refine I.write (x:=a) (e:=dx) (by rw[e];exact True.intro) (.inr ho) (fun b q hb z=>(sb.2 b hb).trans z) hd ?_;refine⟨by rw[aq O.ne];exact ho,?_,O.ne,O'.obj,_,O'.ns,fun g=>?_,fun g hg=>?_⟩
 ·have:=vz f y fs;lia
 ·show pK ((nN f y fs).lookup g) (if g=f then some u else mA g);rw[vw];by_cases q:g=f
  ·rw[if_pos q,if_pos q];exact ry
  ·rw[if_neg q,if_neg q];exact r g
 ·by_cases q:g=f
  ·rw[q];exact(uC f y fs).1
  ·refine(uC f y fs).2 g (wi g fun z=>hg ?_);show (if g=f then some u else mA g)=none;rw[if_neg q];exact z
theorem Inv.made(I:Inv X pins σ H s):Inv X pins σ (upd (upd H s.heap.objs.size (.own (s.heap.objs.size+1))) (s.heap.objs.size+1) (.ins C s.heap.objs.size []))
 {s with heap:=(s.heap.push za9).push (zbu C s.heap.objs.size)}:=by
 have e1:(s.heap.push za9).get? s.heap.objs.size=some za9:=Heap.get?_push_size s.heap rfl;have e2:((s.heap.push za9).push (zbu C s.heap.objs.size)).get? (s.heap.objs.size+1)=some (zbu C s.heap.objs.size):=by
  have:=Heap.get?_push_size (s.heap.push za9) (o:=zbu C s.heap.objs.size) rfl
  rwa [Heap.size_push] at this
 have e3:(s.heap.push za9).Ns s.heap.objs.size (fun _=>none):=⟨za9, #[],_,e1,rfl,(fun e he=>absurd he (by simp)),fun _=>rfl⟩
 have I1:=I.laid (a:=s.heap.objs.size) (o:=.own (s.heap.objs.size+1)) (h':=s.heap.push za9) (t':=s.toks) (fun b u q=>Heap.get?_push_of_some _ q) (zai _) ⟨_,e1⟩;refine I1.laid (a:=s.heap.objs.size+1) (o:=.ins C s.heap.objs.size []) (t':=s.toks) (fun b u q=>Heap.get?_push_of_some _ q) (Nat.le_of_eq (Heap.size_push _ _)) ?_;have ne:s.heap.objs.size≠s.heap.objs.size+1:=zaG (zbY _);refine⟨by rw[aq ne,ae],za6 _,ne,e2,fun _=>none,(Heap.Ns1.of_empty e3).at fun o q=>Heap.get?_push_of_some _ q,fun _=>True.intro,fun y hy=>absurd rfl hy⟩
theorem NO{prog:zdl}{w:zdb}{env:Env}{e:Expr}{f:Str}{pos:Pos}{s:zdj}{Q:zda->zdj->Prop}(hb:attributeBase e f env (eval e env)=eval e env)
 (h:wpAny (model prog w) A (eval e env) (fun o s₁=>wpAny (model prog w) A (getAttr o f true) Q E s₁) E s):wpAny (model prog w) A (eval (.Attribute e f pos) env) Q E s:=
 Attribute_any_ h (by rw[arm_eval_Attribute,hb])
end
def QB (K:zac) (ta:TE) (f:Str):TE:=fun σ H Q=>ta σ H fun x H1=>∃a C dx fs v,x=.ref a/\H1 a=some (.ins C dx fs)/\Ka K C/\j4 K C f/\fs.lookup f=some v/\Q v H1
def QC (K:zac) (ta tv:TE) (f:Str):TS:=fun D σ H=>tv σ H fun y H1=>ta σ H1 fun x H2=>∃a C dx fs,x=.ref a/\H2 a=some (.ins C dx fs)/\Ka K C/\j4 K C f/\fs.length<1000/\
 D.nx σ (upd H2 a (.ins C dx (nN f y fs)))
def SN (X:Cx) (op:Operator) (rd:V->V->Hp->VK->Prop):Prop:=
 ∀(pins:List (zc9×Obj)) (s:zdj) (σ:St) (H:Hp) (x y:V) (u v:zda) (Q:VK),Inv X pins σ H s->RelV x u->RelV y v->rd x y H Q->wpAny (model X.prog X.w) X.A (inplaceOp op u v) (EP X pins σ Q) X.xe s
def Bj (K:zac) (ta tv:TE) (rd:V->V->Hp->VK->Prop) (f:Str):TS:=fun D σ H=>ta σ H fun x H1=>∃a C dx fs v,x=.ref a/\H1 a=some (.ins C dx fs)/\Ka K C/\j4 K C f/\fs.lookup f=some v/\
 tv σ H1 fun y H2=>rd v y H2 fun z H3=>∃QD OW,H3 a=some (.ins C QD OW)/\OW.length<1000/\D.nx σ (upd H3 a (.ins C QD (nN f z OW)))
section
variable{X:Cx}{o e value:Expr}{f:Str}{pos pos' QE:Pos}{ta tv:TE}
theorem da(he:PE X e ta)(hb:attributeBase e f X.env (eval e X.env)=eval e X.env):PE X (.Attribute e f pos) (QB X.K ta f):=by
 intro pins s σ H Q I h;refine NO hb (eI (he pins s σ H _ I h) fun u s1 zqz=>?_);obtain⟨x,H1,I1,rx,a,C,dx,fs,v,ex,ea,c,n,l,q⟩:=zqz;subst ex;obtain rfl:u=Value.ref a:=rx;exact xk I1 ea c n l fun u' s2 I2 ru=>⟨v,H1,I2,ru,q⟩
theorem xm(ha:PE X o ta)(hv:PE X value tv)(hs:swapsWith value (some (.Attribute o f pos')) pos.line X.env=pure false):PS X (.Assign [.Attribute o f pos'] value pos) (QC X.K ta tv f):=by
 intro pins s σ H D I h;refine plainObj_wpAny_Assign_Attribute (eI (hv pins s σ H _ I h) fun u s1 zqz=>?_) hs;obtain⟨y,H1,I1,ry,q⟩:=zqz;refine eI (ha pins s1 σ H1 _ I1 q) fun ov s2 zqz=>?_;obtain⟨x,H2,I2,rx,a,C,dx,fs,ex,ea,c,n,l,q2⟩:=zqz;subst ex;obtain rfl:ov=Value.ref a:=rx;exact xl I2 ea c n l ry fun s3 I3=>⟨σ,_,I3,q2⟩
theorem HN{op:Operator}{rd:V->V->Hp->VK->Prop}(ha:PE X o ta)(hv:PE X value tv)(QF:SN X op rd):PS X (.AugAssign (.Attribute o f QE) op value pos) (Bj X.K ta tv rd f):=by
 intro pins s σ H D I h;refine wpAny_AugAssign_AttributeAny (eI (ha pins s σ H _ I h) fun ov s1 zqz=>?_);obtain⟨x,H1,I1,rx,a,C,dx,fs,v,ex,ea,c,n,l,q⟩:=zqz;subst ex;obtain rfl:ov=Value.ref a:=rx;refine xk I1 ea c n l fun u s2 I2 ru=>eI (hv pins s2 σ H1 _ I2 q) fun w3 s3 zqz=>?_;obtain⟨y,H2,I3,ry,q3⟩:=zqz;refine eI (QF pins s3 σ H2 v y u w3 _ I3 ru ry q3) fun w4 s4 zqz=>?_;obtain⟨z,H3,I4,rz,QD,OW,YN,l',q4⟩:=zqz;exact xl I4 YN c n l' rz fun s5 I5=>⟨σ,_,I5,q4⟩
def VH:V->V->Hp->VK->Prop:=fun x y H Q=>∃i j,x=.int i/\y=.int j/\Q (.int (i+j)) H
theorem QG:SN X .Add VH:=by
 rintro pins s σ H x y u v Q I rx ry ⟨i,j,rfl,rfl,q⟩
 obtain⟨t,rfl⟩:=(show ∃t,u=Value.int i t from rx)
 obtain⟨t',rfl⟩:=(show ∃t',v=Value.int j t' from ry)
 exact PyProof.Rows.iadd_int ⟨.int (i+j),H,I.tok _,⟨_,rfl⟩,q⟩
end
structure gi(k:Nat)(A:zdk):Prop where
 hd:A.handled=none
 dp:A.depth+3*k+5<recursionLimit
 un:A.units+16*k+200<cLine
theorem gi.mono{j k:Nat}{A:zdk}(r:gi k A)(h:j<=k):gi j A:=⟨r.hd,by have:=r.dp;lia,by have:=r.un;lia⟩
theorem gi.deeper{k:Nat}{A:zdk}(r:gi (k+1) A)(env:Env):gi k (A.deeper env):=
 ⟨r.hd,by have:=r.dp;show A.depth+1+3*k+5<_;lia,by have:=r.un;show A.units+3+16*k+200<_;lia⟩
theorem gi.in1{k:Nat}{A:zdk}(r:gi (k+1) A):gi k A.in1:=
 ⟨r.hd,by have:=r.dp;show A.depth+3*k+5<_;lia,by have:=r.un;show A.units+1+16*k+200<_;lia⟩
theorem EY{A:zdk}{C:zc9}{us:List zda}{kw:List (Str×zda)}:(A.under (.builtin "type.__call__" ⟨.ref C::us,kw⟩)).depth=A.depth+1:=by
 first |rfl |simp[Around.under,Code.weight,Code.isCreation,Code.isGuard,Code.isCaller,Code.frames,Code.isFrame,guardIds]
theorem EZ{A:zdk}{C:zc9}{us:List zda}{kw:List (Str×zda)}:(A.under (.builtin "type.__call__" ⟨.ref C::us,kw⟩)).units=A.units+1:=by
 first |rfl |simp[Around.under,Code.cUnits,Code.frames,Code.isFrame]
theorem gi.make{k:Nat}{A:zdk}(r:gi (k+1) A)(C:zc9)(us:List zda)(kw:List (Str×zda)):gi k (A.under (.builtin "type.__call__" ⟨.ref C::us,kw⟩)):=
 ⟨r.hd,by have:=r.dp;rw[EY];lia,by have:=r.un;rw[EZ];lia⟩
theorem gi.depth{k:Nat}{A:zdk}(r:gi k A):A.depth<recursionLimit:=by have:=r.dp;lia
theorem gi.units{k:Nat}{A:zdk}(r:gi k A):A.units+64<cLine:=by have:=r.un;lia
def HP:TA:=fun _ H Q=>Q [] H
def Gk (ta:TE) (tr:TA):TA:=fun σ H Q=>ta σ H fun x H1=>tr σ H1 fun xs H2=>Q (x::xs) H2
section
variable{X:Cx}{e:Expr}{es:List Expr}{te:TE}{t:TA}{pos:Pos}
theorem af:PA X [] HP:=fun _ _ _ _ H Q I h=>Calls.spliced_nil ⟨[],H,I,.nil,h⟩
theorem aa(ha:PE X e te)(hr:PA X es t)(hs:zdf (e::es) X.env=(false,eval e X.env)::zdf es X.env:=by rfl):PA X (e::es) (Gk te t):=by
 intro pos pins s σ H Q I h;rw[hs];show wpAny _ _ (spliced ((false,eval e X.env)::backTo pos (zdf es X.env))) _ _ s;refine Calls.spliced_cons (eI (ha pins s σ H _ I h) fun u s1 zqz=>?_);obtain⟨x,H1,I1,r1,q1⟩:=zqz;exact eI (hr pos pins s1 σ H1 _ I1 q1) fun us s2 ⟨xs,H2,I2,r2,q2⟩=>⟨x::xs,H2,I2,.cons r1 r2,q2⟩
def SO (t:TA):TE:=fun σ H Q=>t σ H fun xs H1=>xs.length<=zdh/\∀p,H1 p=none->Q (.ref p) (upd H1 p (.tup xs))
def SQ (t:TA):TE:=fun σ H Q=>t σ H fun xs H1=>xs.length<=zdh/\∀p,H1 p=none->Q (.ref p) (upd H1 p (.lst xs))
theorem eF{x1}(h:PA X es t):PE X (.Tuple es x1 pos) (SO t):=by
 intro pins s σ H Q I hq;refine wpAny_Tuple_spliced (eI (h pos pins s σ H _ I hq) fun us s1 ⟨xs,H1,I1,r,z,q⟩=>⟨by rw[<- r.length];exact z,?_⟩);have hf:H1 s1.heap.objs.size=none:=I1.dD.fresh (zai _);refine⟨.ref s1.heap.objs.size,upd H1 s1.heap.objs.size (.tup xs),I1.laid (t':=s1.toks) (fun b u e=>Heap.get?_push_of_some _ e) (zai _) ?_,rfl,q _ hf⟩;exact⟨z,us,r,⟨_,Heap.get?_push_size _ rfl,rfl,_,rfl⟩⟩
theorem aA(h:PA X es t):PE X (.List es pos) (SQ t):=by
 intro pins s σ H Q I hq;refine wpAny_List_spliced (eI (h pos pins s σ H _ I hq) fun us s1 ⟨xs,H1,I1,r,z,q⟩=>⟨by rw[<- r.length];exact z,?_⟩);have hf:H1 s1.heap.objs.size=none:=I1.dD.fresh (zai _);refine⟨.ref s1.heap.objs.size,upd H1 s1.heap.objs.size (.lst xs),I1.laid (t':=s1.toks) (fun b u e=>Heap.get?_push_of_some _ e) (zai _) ?_,rfl,q _ hf⟩;exact⟨z,us,0,r,Heap.get?_push_size _ rfl⟩
end
abbrev Sp:=List V->Hp->VK->XK->Prop
abbrev E1:=List Env->Hp->zdj->XK->zda->zdj->Prop
structure zA(P:zdl)(w:zdb)(K:zac)(mg:Str->Option zda)(base:Heap)(A:zdk)(outer:List Env)(s:zdj)(H:Hp):Prop where
 frames:A.frames=some outer
 mod:Mod K mg base
 bs:∀b o,base.get? b=some o->s.heap.get? b=some o/\H b=none
 EN:base.objs.size<=s.heap.objs.size
 pL:s.heap.FunFrames base outer
 JA:∀b∈fM outer,H b=none
 dD:sS P w H s.heap
 bare:AllBare s.gens
def CE (outer:List Env) (P:zdl) (w:zdb) (H:Hp) (s:zdj) (Q:VK) (u:zda) (s':zdj):Prop:=
 ∃v H',s'.os=s.os/\AllBare s'.gens/\Un (fM outer) [] H H' s.heap s'.heap/\sS P w H' s'.heap/\RelV v u/\Q v H'
def CR (CX:E1) (outer:List Env) (P:zdl) (w:zdb) (H:Hp) (s:zdj) (Q:VK) (E:XK) (r:Result) (s':zdj):Prop:=
 match r with
 |.ok (.ret u)=>CE outer P w H s Q u s'
 |.ok _=>False
 |.error e=>CX outer H s E e s'
structure bB(P:zdl)(w:zdb)(K:zac)(mg:Str->Option zda)(base:Heap)(CX:E1)(k:Nat)(f:zc9)(fd:zdi)(ps:List Str)(sp:Sp):Prop where
 len:∀vs H Q E,sp vs H Q E->vs.length=ps.length
 run:∀(A:zdk) (outer:List Env) (s:zdj) (H:Hp) (args:Args) (us:List zda) (vs:List V) (Q:VK) (E:XK),gi k A->zA P w K mg base A outer s H->BindsTo s fd args (ps.zip us)->Vals vs us->sp vs H Q E->
  codeAny (model P w) A (.call (.ref f) args) (CR CX outer P w H s Q E) s
theorem bB.mono{P:zdl}{w:zdb}{K:zac}{mg:Str->Option zda}{base:Heap}{CX:E1}{j k:Nat}{f:zc9}{fd:zdi}{ps:List Str}{sp:Sp}(F:bB P w K mg base CX j f fd ps sp)(h:j<=k) :
 bB P w K mg base CX k f fd ps sp:=⟨F.len,fun A outer s H args us vs Q E hr=>F.run A outer s H args us vs Q E (hr.mono h)⟩
theorem zA.make{P:zdl}{w:zdb}{K:zac}{mg:Str->Option zda}{base:Heap}{A:zdk}{outer:List Env}{s:zdj}{H:Hp}(e:zA P w K mg base A outer s H)(C:zc9)(us:List zda)(kw:List (Str×zda)) :
 zA P w K mg base (A.under (.builtin "type.__call__" ⟨.ref C::us,kw⟩)) outer s H:=⟨by first |exact e.frames |(simpa[Around.under,Code.envs,Code.isFrame,pushEnvs] using e.frames),e.mod,e.bs,e.EN,e.pL,e.JA,e.dD,e.bare⟩
theorem zA.in1{P:zdl}{w:zdb}{K:zac}{mg:Str->Option zda}{base:Heap}{A:zdk}{outer:List Env}{s:zdj}{H:Hp}(e:zA P w K mg base A outer s H) :
 zA P w K mg base A.in1 outer s H:=⟨e.frames,e.mod,e.bs,e.EN,e.pL,e.JA,e.dD,e.bare⟩
section
variable{X:Cx}{pins:List (zc9×Obj)}{σ:St}{H:Hp}{s s':zdj}
theorem Inv.QH(I:Inv X pins σ H s):zA X.prog X.w X.K X.mg X.base X.A X.stack s H:=
 ⟨I.ok.frames,I.ok.mod,I.bs,zaB I.ok.EN I.sz,I.stack,I.wD,I.dD,I.bare⟩
theorem Inv.after{Q:VK}{u:zda}(I:Inv X pins σ H s)(h:CE X.stack X.prog X.w H s Q u s'):EP X pins σ Q u s':=by
 obtain⟨v,H',os,bare,un,dD,r,q⟩:=h;obtain⟨hh,g,d,t,YO⟩:=s';obtain rfl:YO=s.os:=os;exact⟨v,H',I.call (h':=hh) (g':=g) (d':=d) (t':=t) (ch:=[]) un dD bare (fun b z=>absurd z (by simp)),r,q⟩
end
def O4 (sp:Sp) (wF:List V) (E:XK) (t:TA):TE:=fun σ H Q=>t σ H fun vs H1=>sp (vs++wF) H1 Q E
def Kb (C:zc9) (m:Str) (sp:Sp) (wF:List V) (E:XK) (ta:TE) (t:TA):TE:=fun σ H Q=>ta σ H fun x H1=>∃a dx fs,x=.ref a/\H1 a=some (.ins C dx fs)/\fs.lookup m=none/\
 t σ H1 fun vs H2=>sp (x::(vs++wF)) H2 Q E
def Gm (C:zc9) (sp:Sp) (wF:List V) (E:XK) (t:TA):TE:=fun σ H Q=>t σ H fun vs H1=>∀x dx,H1 x=none->H1 dx=none->dx≠x->
 sp (.ref x::(vs++wF)) (upd (upd H1 dx (.own x)) x (.ins C dx [])) (fun v H2=>v=.dB/\Q (.ref x) H2) E
def Binds (K:zac) (fd:zdi) (ps:List Str) (ds:List zda):Prop:=
 ∀(s:zdj) (us:List zda),K.In s.heap->(us++ds).length=ps.length->BindsTo s fd ⟨us,[]⟩ (ps.zip (us++ds))
theorem Binds.all{K:zac}{fd:zdi}{ps:List Str}(h:∀us:List zda,us.length=ps.length->bindArgs fd ⟨us,[]⟩=pure (ps.zip us)):Binds K fd ps []:=fun s us _ hl=>by
 rw[zaR] at hl ⊢;exact .of_eq (h us hl)
def Passes (CX:E1) (X:Cx) (E:XK):Prop:=∀(pins:List (zc9×Obj)) (σ:St) (H:Hp) (s:zdj) (e:zda) (s':zdj),Inv X pins σ H s->CX X.stack H s E e s'->X.xe e s'
section
variable{X:Cx}{CX:E1}{k:Nat}{f C:zc9}{fd:zdi}{ps:List Str}{sp:Sp}{wF:List V}{ds:List zda}{E:XK}{x m:Str}{p pos apos:Pos}{e o:Expr}{es:List Expr}{ta:TE}{t:TA}
theorem Kc{pins:List (zc9×Obj)}{σ:St}{H:Hp}{s:zdj}{Q:VK}{us:List zda}{vs:List V}(F:bB X.prog X.w X.K X.mg X.base CX k f fd ps sp)(hr:gi k X.A)(hb:Binds X.K fd ps ds)(hd:Vals wF ds)(hx:Passes CX X E)
 (I:Inv X pins σ H s) (r:Vals vs us) (h:sp (vs++wF) H Q E):wpAny (model X.prog X.w) X.A (call (.ref f) us) (EP X pins σ Q) X.xe s:=by
 have r2:Vals (vs++wF) (us++ds):=r.append hd;have hl:(us++ds).length=ps.length:=by rw[<- r2.length];exact F.len _ _ _ _ h
 refine wpAny_call (codeAny_mono (F.run X.A X.stack s H ⟨us,[]⟩ (us++ds) (vs++wF) Q E hr I.QH (hb s us I.zy hl) r2 h) fun r s' hq=>?_);cases r with
 |error e=>exact hx pins σ H s e s' I hq
 |ok fl=>
  cases fl with
  |ret u=>exact I.after hq
  |next=>exact False.elim hq
  |brk=>exact False.elim hq
  |cont=>exact False.elim hq
theorem aS(F:bB X.prog X.w X.K X.mg X.base CX k f fd ps sp)(hr:gi k X.A)(hg:Gl X x)(hm:X.mg x=some (.ref f))(hk:zaS X.K (.ref f)=true)(hb:Binds X.K fd ps ds)(hd:Vals wF ds)(hx:Passes CX X E)
 (ha:PA X (e::es) t) (HQ:(x==("__debug__":Str))=false:=by decide) (he:zdf (e::es) X.env=(false,eval e X.env)::zdf es X.env:=by rfl) (Cn:(backTo pos (zdf es X.env)).any (·.1)=false:=by rfl) :
 PE X (.Call (.Name x p) (e::es) [] pos) (O4 sp wF E t):=by
 intro pins s σ H Q I h;refine wpAny_Call_Name_kw (ou I hg hm ?_ HQ);refine zcj (h₀:=X.base) I.ok.mod.R0 hk (eI (ha pos pins s σ H _ I h) fun us s1 ⟨vs,H1,I1,r,q⟩=>⟨I1.zy,?_⟩) he Cn;exact Kc F hr hb hd hx I1 r q
theorem dO{pl:Sem Bool}(he:PE X o ta)(c:Ka X.K C)(hm:Meth X.K C m f)(F:bB X.prog X.w X.K X.mg X.base CX k f fd ps sp)(hr:gi k X.A)(hb:Binds X.K fd ps ds)(hd:Vals wF ds)(hx:Passes CX X E)
 (ht:eval (.Call (.Attribute o m apos) [] [] pos) X.env=(do
  let ov <- eval o X.env
  standAt apos.atName
  let (f,first) <- holding [ov] (getMethod ov m pl)
  callWith pos f first (backTo pos (zdf [] X.env)) (backToKw pos (keywordEach [] X.env))):=by rfl) :
 PE X (.Call (.Attribute o m apos) [] [] pos) (Kb C m sp wF E ta HP):=by
 intro pins s σ H Q I h;refine PySem.W.methodCall_KW (pl:=pl) (eI (he pins s σ H _ I h) fun u s1 zqz=>?_) ht;obtain⟨x,H1,I1,rx,a,dx,fs,ex,ea,l,q⟩:=zqz;subst ex;obtain rfl:u=Value.ref a:=rx;refine EX I1 ea c hm l ?_;exact zc4 (first:=[.ref a]) I1.zy hm.kp (Kc (us:=[.ref a]) (vs:=[.ref a]) F hr hb hd hx I1 (.cons rfl .nil) q)
structure Mk(K:zac)(C f:zc9):Prop where
 makes:zb8 K C=true
 init:zak K (.ref C) "__init__"=some (some (.ref f))
 fn:zbv K (.ref f)=true
 kp:zaS K (.ref C)=true
theorem CA{pins:List (zc9×Obj)}{σ:St}{H:Hp}{s:zdj}{Q:VK}{us:List zda}{vs:List V}(M:Mk X.K C f)(F:bB X.prog X.w X.K X.mg X.base CX k f fd ps sp)(hr:gi (k+1) X.A)(hb:Binds X.K fd ps ds)(hd:Vals wF ds)
 (hx:Passes CX X E) (I:Inv X pins σ H s) (r:Vals vs us)
 (h:∀x dx,H x=none->H dx=none->dx≠x->sp (.ref x::(vs++wF)) (upd (upd H dx (.own x)) x (.ins C dx [])) (fun v H2=>v=.dB/\Q (.ref x) H2) E) :
 wpAny (model X.prog X.w) X.A (call (.ref C) us) (EP X pins σ Q) X.xe s:=by
 have hq:=h (s.heap.objs.size+1) s.heap.objs.size (I.dD.fresh (Nat.le_succ _)) (I.dD.fresh (zai _)) (zaG (zbY _));have I2:=Inv.made (C:=C) I;have r2:Vals (V.ref (s.heap.objs.size+1)::(vs++wF)) (Value.ref (s.heap.objs.size+1)::(us++ds)):=.cons rfl (r.append hd);have hl:(Value.ref (s.heap.objs.size+1)::us++ds).length=ps.length:=by
  have e:=r2.length;rw[F.len _ _ _ _ hq] at e;exact e.symm
 refine wpAny_call (J9 (f:=f) I.zy M.makes M.init (beq_iff_eq.mp M.fn) (codeAny_mono (F.run _ X.stack _ _ ⟨Value.ref (s.heap.objs.size+1)::us,[]⟩ (Value.ref (s.heap.objs.size+1)::(us++ds)) _ _ E (hr.make C us [])
  (I2.QH.make C us []) (hb _ (Value.ref (s.heap.objs.size+1)::us) I2.zy hl) r2 hq) fun r s' Nt=>?_))
 cases r with
 |error e=>exact hx pins σ _ _ e s' I2 Nt
 |ok fl=>
  cases fl with
  |ret u=>
   obtain⟨v,H',I3,rv,ev,q3⟩:=I2.after Nt;subst ev;exact⟨rv,⟨V.ref (s.heap.objs.size+1),H',I3,rfl,q3⟩⟩
  |next=>exact False.elim Nt
  |brk=>exact False.elim Nt
  |cont=>exact False.elim Nt
theorem NP(M:Mk X.K C f)(F:bB X.prog X.w X.K X.mg X.base CX k f fd ps sp)(hr:gi (k+1) X.A)(hg:Gl X x)(hm:X.mg x=some (.ref C))(hb:Binds X.K fd ps ds)(hd:Vals wF ds)(hx:Passes CX X E)
 (ha:PA X (e::es) t) (HQ:(x==("__debug__":Str))=false:=by decide) (he:zdf (e::es) X.env=(false,eval e X.env)::zdf es X.env:=by rfl) (Cn:(backTo pos (zdf es X.env)).any (·.1)=false:=by rfl) :
 PE X (.Call (.Name x p) (e::es) [] pos) (Gm C sp wF E t):=by
 intro pins s σ H Q I h;refine wpAny_Call_Name_kw (ou I hg hm ?_ HQ);refine zcj (h₀:=X.base) I.ok.mod.R0 M.kp (eI (ha pos pins s σ H _ I h) fun us s1 ⟨vs,H1,I1,r,q⟩=>⟨I1.zy,?_⟩) he Cn;exact CA M F hr hb hd hx I1 r q
theorem Kd(M:Mk X.K C f)(F:bB X.prog X.w X.K X.mg X.base CX k f fd ps sp)(hr:gi (k+1) X.A)(hg:Gl X x)(hm:X.mg x=some (.ref C))(hb:Binds X.K fd ps ds)(hd:Vals wF ds)(hx:Passes CX X E)
 (HQ:(x==("__debug__":Str))=false:=by decide):PE X (.Call (.Name x p) [] [] pos) (Gm C sp wF E HP):=by
 intro pins s σ H Q I h;refine wpAny_Call_Name_kw (ou I hg hm ?_ HQ);exact zc4 I.zy M.kp (CA (us:=[]) M F hr hb hd hx I .nil h)
end
structure a8(N P:List Str)(sc:Scope):Prop where
 kind:sc.kind=.function
 co:sc.isCoroutine=false
 gen:sc.isGenerator=false
 nd:N.Nodup
 pre:N.take P.length=P
 par:∀x∈P,sc.names.lookup x=some .local\/sc.names.lookup x=some .cell
 QI:∀y∈sc.names,y.2≠.free
theorem AA{kindOf:Str->Option NameKind}{x:Str}:∀ {binds:List (Str×zda)} {m:Str->Option zda},(∀v,(x,v) ∉ binds)->bindL kindOf binds m x=m x
 |[],_,_=>rfl
 |(n,v)::r,m,h=>by
  unfold bindL;rw[AA fun w hw=>h w (zas _ hw)];split
  ·have:x≠n:=by rintro rfl;exact h v zaE
   simp[this]
  ·rfl
theorem AB{kindOf:Str->Option NameKind}{x:Str}:∀ {binds:List (Str×zda)} {m:Str->Option zda},(∀v,(x,v) ∉ binds)->bindC kindOf binds m x=m x
 |[],_,_=>rfl
 |(n,v)::r,m,h=>by
  unfold bindC;rw[AB fun w hw=>h w (zas _ hw)];split
  ·rfl
  ·have:x≠n:=by rintro rfl;exact h v zaE
   simp[this]
theorem AD{kindOf:Str->Option NameKind}{x:Str}{v:zda}:∀ {P:List Str} {vs:List zda} {i:Nat} {m:Str->Option zda},P.Nodup->P[i]?=some x->vs[i]?=some v->kindOf x=some .local->
 bindL kindOf (P.zip vs) m x=some v
 |[],_,_,_,_,h,_,_=>by simp at h
 |_::_,[],_,_,_,_,h,_=>by simp at h
 |p::P,w::vs,0,m,nd,h1,h2,hk=>by
  simp at h1 h2;subst h1;subst h2;show bindL kindOf ((p,w)::P.zip vs) m p=_;unfold bindL;rw[AA fun v hv=>(zbi.mp nd).1 (zcG hv).1,if_pos hk];simp
 |p::P,w::vs,i+1,m,nd,h1,h2,hk=>by
  show bindL kindOf ((p,w)::P.zip vs) m x=_;unfold bindL;exact AD (i:=i) (zbi.mp nd).2 (by simpa using h1) (by simpa using h2) hk
theorem AE{kindOf:Str->Option NameKind}{x:Str}{v:zda}:∀ {P:List Str} {vs:List zda} {i:Nat} {m:Str->Option zda},P.Nodup->P[i]?=some x->vs[i]?=some v->kindOf x≠some .local->
 bindC kindOf (P.zip vs) m x=some v
 |[],_,_,_,_,h,_,_=>by simp at h
 |_::_,[],_,_,_,_,h,_=>by simp at h
 |p::P,w::vs,0,m,nd,h1,h2,hk=>by
  simp at h1 h2;subst h1;subst h2;show bindC kindOf ((p,w)::P.zip vs) m p=_;unfold bindC;rw[AB fun v hv=>(zbi.mp nd).1 (zcG hv).1,if_neg hk];simp
 |p::P,w::vs,i+1,m,nd,h1,h2,hk=>by
  show bindC kindOf ((p,w)::P.zip vs) m x=_;unfold bindC;exact AE (i:=i) (zbi.mp nd).2 (by simpa using h1) (by simpa using h2) hk
def start (N:List Str) (vs:List V):St:=vs.map some++zan (N.length-vs.length) none
def j5 (CX:E1) (P:zdl) (w:zdb) (K:zac) (mg:Str->Option zda) (base:Heap) (N:List Str) (qual:Str) (scope:Scope) (f:zc9) (cd:zda) (A:zdk) (outer:List Env) (s:zdj) (H:Hp) (E:XK):Cx where
 prog:=P
 w:=w
 K:=K
 mg:=mg
 base:=base
 A:=A.deeper (envOfC qual scope s.heap.objs.size f cd)
 N:=N
 s₀:=s
 H₀:=H
 env:=envOfC qual scope s.heap.objs.size f cd
 outer:=outer
 stack:=envOfC qual scope s.heap.objs.size f cd::outer
 ex:=[]
 calm:=true
 fn:=fun _=>true
 pn:=[]
 xe:=fun e s'=>wpAny (model P w) (A.deeper (envOfC qual scope s.heap.objs.size f cd)) (leaving (envOfC qual scope s.heap.objs.size f cd) e) (fun _ VI=>CX outer H s E e VI) (fun e' VI=>CX outer H s E e' VI) s'
theorem CB{sc:Scope}{n:Nat}{x:Str}(h:sc.names.lookup x=some .cell):∃c,(cellsFrom n sc.names []).lookup x=some c:=by
 have q:=zcL sc.names n [] (.inl h);exact zct.mp q
theorem HR{CX:E1}{P:zdl}{w:zdb}{K:zac}{mg:Str->Option zda}{base:Heap}{N ps:List Str}{qual:Str}{scope:Scope}{f:zc9}{cd:zda}{A:zdk}{outer:List Env}{s s1:zdj}{H:Hp}{E:XK}{us:List zda}{vs:List V}
 (S:a8 N ps scope) (hd:A.handled=none) (e0:zA P w K mg base A outer s H) (hl:vs.length=ps.length) (r:Vals vs us)
 (x:InCallC s s.heap.objs.size (bindL (envOfC qual scope s.heap.objs.size f cd).kindOf (ps.zip us) fun _=>none) (cellsFrom (s.heap.objs.size+1) scope.names []) (bindC (envOfC qual scope s.heap.objs.size f cd).kindOf (ps.zip us) fun _=>none) s1) :
 Inv (j5 CX P w K mg base N qual scope f cd A outer s H E) [] (start N vs) H s1:=by
 have Cn:ps.length<=N.length:=by have:=congrArg zbE S.pre;rw[zbb] at this;lia
 obtain⟨h1,tk,rfl,hk⟩:=x.done;have SR:∀b:zc9,b ∉ (j5 CX P w K mg base N qual scope f cd A outer s H E).ex:=fun b z=>absurd (show b∈([]:List zc9) from z) (by simp);refine⟨⟨e0.mod,S.kind,rfl,rfl,zai _,fun y z c h1 h2=>?_,fun y hy=>?_,fun y c _ h=>?_,fun _=>hd,Around.frames_deeper e0.frames,.inr ⟨rfl,rfl⟩,fun b z=>absurd z (SR b),e0.bs,e0.EN,fun b _ _=>SR b,fun b z=>absurd z (SR b),e0.pL,e0.JA⟩,
  rfl,e0.bare,Un.kept hk,⟨_,x.toInCall.ns,fun i y v h1 h2 h3=>?_⟩,fun y c h=>⟨_,x.cell y c h⟩,e0.dD.fresh (zai _),fun y c h=>?_,fun p hp=>absurd (show p∈([]:List (zc9×Obj)) from hp) (by simp),e0.dD.kept hk,?_⟩
 ·exact name_of_addr x.apart (PySem.mem_of_lookup h1) (PySem.mem_of_lookup h2)
 ·have hy:scope.names.lookup y=some .cell\/scope.names.lookup y=some .free:=hy;rcases hy with hy |hy
  ·exact CB hy
  ·exact absurd rfl (S.QI _ (PySem.mem_of_lookup hy))
 ·exact zcs (x.above y c (PySem.mem_of_lookup h))
 ·have hi:i<vs.length:=by
   unfold start at h2;by_cases hi:i<vs.length
   ·exact hi
   ·rw[za5 (by simpa using hi)] at h2;rw[zcD] at h2;split at h2<;>cases h2
  have ha:vs[i]?=some v:=by
   unfold start at h2;rw[zbp (by simpa using hi),zaF] at h2;cases e:vs[i]? with
   |none=>rw[e] at h2;cases h2
   |some a=>rw[e] at h2;cases h2;rfl
  obtain⟨u,hu,rv⟩:=r.get ha;have hp:ps[i]?=some y:=by
   rw[<- S.pre,List.getElem?_take_of_lt (by lia)];exact h1
  have Xk:ps.Nodup:=by rw[<- S.pre];exact S.nd.sublist (List.take_sublist _ _)
  refine⟨u,rv,?_⟩;rcases S.par y (zbr hp) with k |k
  ·exact .inl ⟨k,AD Xk hp hu k⟩
  ·obtain⟨c,e⟩:=CB (n:=s.heap.objs.size+1) k;refine .inr ⟨.inl k,c,e,?_⟩;have q:=x.cell y c e;rw[AE Xk hp hu (by show scope.names.lookup y≠_;rw[k];decide)] at q;exact q
 ·exact e0.dD.fresh (zcs (x.above y c (PySem.mem_of_lookup h)))
 ·unfold start;show _=N.length;rw[zaf,zae,zbo];lia
theorem O5{CX:E1}{P:zdl}{w:zdb}{K:zac}{mg:Str->Option zda}{base:Heap}{k:Nat}{f:zc9}{name qual:Str}{params:Arguments}{body:List Stmt}{scope:Scope}{dV kV doc pm eA ct oc:zda}{an od:Option zc9}
 {Ke:Array (Option zda)} {N ps:List Str} {sp:Sp} (lk:K.lookup f=some ⟨oc,od,.func (zaL name qual params body scope dV kV doc pm an eA ct),Ke⟩) (HE:za8 K eA qual=true) (S:a8 N ps scope)
 (len:∀vs H Q E,sp vs H Q E->vs.length=ps.length)
 (xn:∀(A:zdk) (outer:List Env) (s:zdj) (H:Hp) (vs:List V) (Q:VK) (E:XK),gi k (A.deeper (envOfC qual scope s.heap.objs.size f eA))->sp vs H Q E->
  ∃t,EI (j5 CX P w K mg base N qual scope f eA A outer s H E) body t/\t {nx:=fun _ H'=>Q .dB H',rt:=Q} (start N vs) H) :
 bB P w K mg base CX (k+1) f (zaL name qual params body scope dV kV doc pm an eA ct) ps sp:=by
 refine⟨len,fun A outer s H args us vs Q E hr e0 hb r HS=>?_⟩;have hl:=len _ _ _ _ HS;have KX:K.In s.heap:=e0.mod.R0.keeps fun b o e=>(e0.bs b o e).1;have lim:s.heap.NoLimit:=e0.mod.nolimit.keeps fun b o e=>(e0.bs b o e).1;have SS:∀y∈ps.zip us,scope.names.lookup y.1=some .local\/(scope.names.lookup y.1=some .cell/\((cellsFrom (s.heap.objs.size+1) scope.names []).lookup y.1).isSome=true):=fun ⟨n,v⟩ hy=>by
  rcases S.par n (zcG hy).1 with q |q
  ·exact .inl q
  ·exact .inr ⟨q,zcL _ _ _ (.inl q)⟩
 refine codeAny_call_function hr.depth (KX _ _ lk) rfl S.co S.gen rfl (PySem.W.codeRec_of KX HE) (hb _ _ _ _ ?_);refine wpAny_newFunctionEnv_cells S.kind SS fun env he s1 x=>?_;subst he;refine⟨lim.keeps x.toInCall.keep,codeAny_func ?_⟩;obtain⟨t,ht,hq⟩:=xn A outer s H vs Q E (hr.deeper _) HS;have I:Inv (j5 CX P w K mg base N qual scope f eA A outer s H E) [] (start N vs) H s1:=HR S hr.hd e0 hl r x;refine wpAny_mono (ht [] s1 (start N vs) H _ I hq) (fun fl s' hs=>?_) fun e s' hs=>hs;have fin:∀ {σ':St} {H':Hp} {v:V} {u:zda},Inv (j5 CX P w K mg base N qual scope f eA A outer s H E) [] σ' H' s'->RelV v u->Q v H'->CE outer P w H s Q u s':=
  fun {σ' H' v u} J rv q=>⟨v,H',J.os,J.bare,J.base,J.dD,rv,q⟩
 cases fl with
 |ret u=>
  obtain⟨v,σ',H',J,rv,q⟩:=hs;exact fin J rv q
 |next=>
  obtain⟨σ',H',J,q⟩:=hs;exact fin (v:=V.dB) (u:=Value.none) J rfl q
 |brk=>
  obtain⟨_,_,_,q⟩:=hs;exact False.elim q
 |cont=>
  obtain⟨_,_,_,q⟩:=hs;exact False.elim q
section
variable{X:Cx}{x:Str}{p pos:Pos}{e:Expr}{es:List Expr}{t:TA}{id T:String}{r:List V->Hp->VK->Prop}
def VJ (r:List V->Hp->VK->Prop) (t:TA):TE:=fun σ H Q=>t σ H fun vs H1=>r vs H1 Q
theorem bA(hc:nM X (.builtin id) r)(hg:Gl X x)(hm:X.mg x=none)(hv:bootBuiltins x=some (.builtin id))(ha:PA X (e::es) t)(hn:x≠"__name__":=by decide)(HQ:(x==("__debug__":Str))=false:=by decide)
 (he:zdf (e::es) X.env=(false,eval e X.env)::zdf es X.env:=by rfl) (Cn:(backTo pos (zdf es X.env)).any (·.1)=false:=by rfl):PE X (.Call (.Name x p) (e::es) [] pos) (VJ r t):=by
 intro pins s σ H Q I h;refine wpAny_Call_Name_kw (wZ I hg hm hv ?_ hn HQ);exact PyProof.Rows.callWith_builtin1 (eI (ha pos pins s σ H _ I h) fun us s1 ⟨vs,H1,I1,r1,q1⟩=>hc pins s1 σ H1 vs us Q I1 r1 q1) he Cn
theorem fO(hc:nM X (.type T) r)(hg:Gl X x)(hm:X.mg x=none)(hv:bootBuiltins x=some (.type T))(ha:PA X (e::es) t)(hn:x≠"__name__":=by decide)(HQ:(x==("__debug__":Str))=false:=by decide)
 (he:zdf (e::es) X.env=(false,eval e X.env)::zdf es X.env:=by rfl) (Cn:(backTo pos (zdf es X.env)).any (·.1)=false:=by rfl):PE X (.Call (.Name x p) (e::es) [] pos) (VJ r t):=by
 intro pins s σ H Q I h;refine wpAny_Call_Name_kw (wZ I hg hm hv ?_ hn HQ);exact zci (eI (ha pos pins s σ H _ I h) fun us s1 ⟨vs,H1,I1,r1,q1⟩=>hc pins s1 σ H1 vs us Q I1 r1 q1) he Cn
end
end L2
namespace HT
open PySem PyProof.Rows
section
variable{prog:zdl}{w:zdb}{A:zdk}{E:zda->zdj->Prop}{s:zdj}
theorem NQ{t b:zc9}{vs ws:List zda}{Q:zda->zdj->Prop}(ht:IsTup s.heap t vs.toArray)(hb:IsTup s.heap b ws.toArray)(hv:vs≠[])
 (h1:ws=[]->Q (.ref t) s) (h2:ws≠[]->Q (.ref s.heap.objs.size) {s with heap:=s.heap.push {cls:=.type "tuple",data:=.seq (vs++ws).toArray} })
 (J8:vs.length+ws.length<=zdh):wpAny (model prog w) A (binaryOp .Add (.ref t) (.ref b)) Q E s:=by
 obtain⟨⟨cls,dd,data,sl⟩,ho,hc,n,hd⟩:=id ht;obtain⟨⟨YQ,UL,data2,Xl⟩,UM,Xm,n2,hd2⟩:=id hb;simp only at hc hd Xm hd2;subst hc hd Xm hd2;have e:vs.toArray++ws.toArray=(vs++ws).toArray:=by simp
 by_cases hw:ws=[]
 ·exact concat_meets ⟨_,ho,rfl⟩ ⟨_,UM,rfl⟩ noFill_tuple_add seq_tuple_add zcM zcF (zcC _ _)
   (tuple_addW1 t b vs.toArray ws.toArray n n2 dd UL sl Xl (by simpa using hv) (by simp[hw])) ⟨ho,UM,h1 hw⟩
 ·refine concat_meets ⟨_,ho,rfl⟩ ⟨_,UM,rfl⟩ noFill_tuple_add seq_tuple_add zcM zcF (zcC _ _)
   (tuple_addW2 t b vs.toArray ws.toArray n n2 dd UL sl Xl (by simpa using hv) (by simpa using hw) (by rw[zaq,zaq];exact J8)) ⟨ho,UM,?_⟩
  rw[e];exact h2 hw
def iS (n d:Nat):Option Int->Nat
 |none=>d
 |some v=>if v<0 then (v+(n:Int)).toNat else min v.toNat n
theorem xo(n d:Nat):iS n d none=d:=rfl
theorem Gn(n d k:Nat):iS n d (some (k:Int))=min k n:=by
 show (if (k:Int)<0 then ((k:Int)+(n:Int)).toNat else min (k:Int).toNat n)=min k n;rw[if_neg (by lia),Int.toNat_natCast]
theorem QJ(n d:Nat)(hd:d<=n)(o:Option Int):iS n d o<=n:=by
 cases o with
 |none=>exact hd
 |some v=>
  show (if v<0 then (v+(n:Int)).toNat else min v.toNat n)<=n;by_cases hv:v<0
  ·rw[if_pos hv];lia
  ·rw[if_neg hv];exact Nat.min_le_right _ _
theorem Gp(v:Int)(n d:Nat):(if v<0 then max (v+(n:Int)) 0 else min v (n:Int))=((iS n d (some v):Nat):Int):=by
 show (if v<0 then max (v+(n:Int)) 0 else min v (n:Int))=(((if v<0 then (v+(n:Int)).toNat else min v.toNat n):Nat):Int);by_cases hv:v<0
 ·simp only[if_pos hv];lia
 ·simp only[if_neg hv];lia
theorem E2(lo hi:Option Int)(n:Nat):Builtin.Slice.sliceAdjust lo hi 1 (n:Int)=(((iS n 0 lo:Nat):Int),((iS n n hi:Nat):Int)):=by
 have h1:¬((1:Int)<0):=by lia
 unfold Builtin.Slice.sliceAdjust;simp only[h1,if_false];refine Prod.ext ?_ ?_
 ·cases lo with
  |none=>rfl
  |some v=>exact Gp v n 0
 ·cases hi with
  |none=>rfl
  |some v=>exact Gp v n n
theorem E3(i j:Nat):Builtin.Slice.slicePlaces (i:Int) (j:Int) 1=j-i:=by
 unfold Builtin.Slice.slicePlaces;have h1:(1:Int)>0:=by lia
 simp only[h1,if_true,Int.ediv_one];split<;>lia
theorem xp{v:zda}{o:Option Int}{Q:Option Int->zdj->Prop}(p:IsPart v o)(h:Q o s):wpAny (model prog w) A (Builtin.Slice.slicePartIndex v) Q E s:=by
 cases p with
 |none=>exact slicePart_none h
 |int i t=>exact slicePart_int h
theorem uD{sl:zc9}{vl vu:zda}{lo hi:Option Int}{n:Nat}{Q:Int×Int×Nat->zdj->Prop}(hs:s.heap.IsSliceOf sl vl vu .none)(pl:IsPart vl lo)(pu:IsPart vu hi)
 (h:Q (((iS n 0 lo:Nat):Int),1,iS n n hi-iS n 0 lo) s):wpAny (model prog w) A (Builtin.Slice.sliceApplied (.ref sl) (pure (n:Int))) Q E s:=by
 obtain⟨os,SU,Xn,UN⟩:=id hs;unfold Builtin.Slice.sliceApplied Builtin.Slice.sliceFields;refine zdc (zdc (wpAny_field SU UN (x:=vl) rfl (zdc (wpAny_field SU UN (x:=vu) rfl (zdc (wpAny_field SU UN (x:=.none) rfl (zdd ?_)))))));refine zdc (slicePart_none ?_);show wpAny _ _ (if ((1:Int)==0)=true then _ else _) _ _ s;rw[if_neg (by decide)];refine zdc (xp pl (zdc (xp pu (zdc (zdd ?_)))));show wpAny _ _ (match Builtin.Slice.sliceAdjust lo hi 1 (n:Int) with |(lo,hi)=>pure (lo,(1:Int),Builtin.Slice.slicePlaces lo hi 1)) _ _ s;rw[E2 lo hi n];show wpAny _ _ (pure (((iS n 0 lo:Nat):Int),(1:Int),Builtin.Slice.slicePlaces ((iS n 0 lo:Nat):Int) ((iS n n hi:Nat):Int) 1)) _ _ s;rw[E3];exact zdd h
theorem Kf(xs:Array zda)(i k:Nat):((zaV k).filterMap fun (m:Nat)=>xs[((i:Int)+(m:Int)*1).toNat]?).toArray=((xs.toList.drop i).take k).toArray:=by
 have e:(fun (m:Nat)=>xs[((i:Int)+(m:Int)*1).toNat]?)=fun m=>xs[i+m]?:=by
  funext m
  have:((i:Int)+(m:Int)*1).toNat=i+m:=by lia
  rw[this]
 rw[e];have:=pick_run xs i k;rw[List.filterMap_map] at this;have e2:((fun x=>xs[x]?) ∘ fun x=>i+x)=fun m=>xs[i+m]?:=rfl;rw[e2] at this;rw[this]
theorem sX{t sl:zc9}{items:Array zda}{vl vu:zda}{lo hi:Option Int}{Q:zda->zdj->Prop}(ht:IsTup s.heap t items)(hs:s.heap.IsSliceOf sl vl vu .none)(pl:IsPart vl lo)(pu:IsPart vu hi)
 (hw:¬(iS items.size 0 lo=0/\iS items.size items.size hi=items.size))
 (h:Q (.ref s.heap.objs.size) {s with heap:=s.heap.push {cls:=.type "tuple",data:=.seq ((items.toList.drop (iS items.size 0 lo)).take (iS items.size items.size hi-iS items.size 0 lo)).toArray} })
 (J8:items.size<=zdh):wpAny (model prog w) A (getItem (.ref t) (.ref sl)) Q E s:=by
 have Gq:sizeOk (.seq ((items.toList.drop (iS items.size 0 lo)).take (iS items.size items.size hi-iS items.size 0 lo)).toArray):=by
  show ((items.toList.drop (iS items.size 0 lo)).take (iS items.size items.size hi-iS items.size 0 lo)).toArray.size<=zdh;rw[zaq,zbb,zaY,zbN];lia
 have hj:iS items.size items.size hi<=items.size:=QJ _ _ (zai _) hi;obtain⟨os,SU,Xn,UN⟩:=id hs;have YR:s.TypeIs (.ref sl) "slice":=⟨os,SU,Xn⟩
 unfold getItem
 try with_reducible refine zde ?_
 first |refine zdc (zdd ?_) |skip
 refine zdc (wpAny_sequenceKey ht.typeIs (by decide) ?_);refine zdc (wpAny_callSpecial?_slot (name:=zaa "__getitem__") ht.typeIs zb2
  (wpAny_call_entry zb2 ht.typeIs entry_tuple_getitem ?_ (args_tuple_getitem _ _)))
 show wpAny _ _ (Builtin.Tuple.tupleItemsOf (.ref t) >>= _) _ _ s;refine zdc (tupleItemsOf_ ht ?_);refine zdc (wpAny_typeOf YR ?_);rw[if_pos (by decide)];refine zdc (uD hs pl pu ?_);have YS:¬((((iS items.size 0 lo:Nat):Int)==0&&(1:Int)==1&&(iS items.size items.size hi-iS items.size 0 lo)==items.size)=true):=by
  intro q;rw[zaJ,zaJ] at q;have q1:((iS items.size 0 lo:Nat):Int)=0:=eq_of_beq q.1.1;have q2:iS items.size items.size hi-iS items.size 0 lo=items.size:=eq_of_beq q.2;exact hw ⟨by lia,by lia⟩
 show wpAny _ _ (if (((iS items.size 0 lo:Nat):Int)==0&&(1:Int)==1&&(iS items.size items.size hi-iS items.size 0 lo)==items.size)=true then _ else _) _ _ s;rw[if_neg YS,Kf]
 first
  |exact zdc (m:=Builtin.Tuple.tupleExact _) (wpAny_newObj_type (zdd ⟨_,rfl,zdd h⟩) Gq)
  |exact zdc (m:=Builtin.Tuple.tupleExact _) (wpAny_newObj_type (zdc (zdd (zdd ⟨_,rfl,zdd h⟩))) Gq)
  |exact zdc (zdc (m:=Builtin.Tuple.tupleExact _) (wpAny_newObj_type (zdd (zdd ⟨_,rfl,zdd h⟩)) Gq))
  |exact zdc (zdc (m:=Builtin.Tuple.tupleExact _) (wpAny_newObj_type (zdd ⟨_,rfl,zdd h⟩) Gq))
end
end HT
namespace L2
open PySem PySem.Spec PyProof.Rows
abbrev TO:=St->Hp->(Option Int->Hp->Prop)->Prop
def PO (X:Cx) (e:Option Expr) (t:TO):Prop:=
 ∀(pins:List (zc9×Obj)) (s:zdj) (σ:St) (H:Hp) (Q:Option Int->Hp->Prop),Inv X pins σ H s->t σ H Q->
  wpAny (model X.prog X.w) X.A (evalPart e X.env) (fun u s'=>∃o H',Inv X pins σ H' s'/\IsPart u o/\Q o H') X.xe s
def Bk:TO:=fun _ H Q=>Q none H
def Kg (t:TE):TO:=fun σ H Q=>t σ H fun x H1=>∃i,x=.int i/\Q (some i) H1
section
variable{X:Cx}{e:Expr}{te:TE}{lo hi:Option Expr}{tl th:TO}{pos p2:Pos}
theorem sY:PO X none Bk:=by
 intro pins s σ H Q I h;rw[evalPart_none];exact zdd ⟨none,H,I,.none,h⟩
theorem sZ(h:PE X e te):PO X (some e) (Kg te):=by
 intro pins s σ H Q I hw;rw[evalPart_some];refine eI (h pins s σ H _ I hw) fun u s1 zqz=>?_;obtain⟨x,H1,I1,r1,q1⟩:=zqz;obtain⟨i,rfl,q⟩:=q1;obtain⟨t,rfl⟩:=r1;exact⟨some i,H1,I1,.int i t,q⟩
def VL (X:Cx) (r:V->Option Int->Option Int->Hp->VK->Prop):Prop:=
 ∀(pins:List (zc9×Obj)) (s:zdj) (σ:St) (H:Hp) (x:V) (v vl vu:zda) (lo hi:Option Int) (sl:zc9) (Q:VK),Inv X pins σ H s->RelV x v->s.heap.IsSliceOf sl vl vu .none->IsPart vl lo->IsPart vu hi->r x lo hi H Q->
  ∃T id,typeLookup (.type T) "__getitem__"=pure (some (.builtin id))/\s.TypeIs v T/\wpAny (model X.prog X.w) X.A (getItem v (.ref sl)) (EP X pins σ Q) X.xe s
def VM (r:V->Option Int->Option Int->Hp->VK->Prop) (te:TE) (tl th:TO):TE:=fun σ H Q=>te σ H fun x H1=>tl σ H1 fun l H2=>th σ H2 fun u H3=>r x l u H3 Q
theorem pQ{r:V->Option Int->Option Int->Hp->VK->Prop}(hr:VL X r)(he:PE X e te)(hl:PO X lo tl)(hu:PO X hi th):PE X (.Subscript e (.Slice lo hi none p2) pos) (VM r te tl th):=by
 intro pins s σ H Q I h;refine Subscript_ (eI (he pins s σ H _ I h) fun v s1 zqz=>?_);obtain⟨x,H1,I1,r1,q1⟩:=zqz;refine wpAny_Slice (eI (hl pins s1 σ H1 _ I1 q1) fun vl s2 zqz=>?_);obtain⟨l,H2,I2,pl,q2⟩:=zqz;refine eI (hu pins s2 σ H2 _ I2 q2) fun vu s3 zqz=>?_;obtain⟨u,H3,I3,pu,q3⟩:=zqz;rw[evalPart_none];refine zdd ?_;have I4:Inv X pins σ H3 {s3 with heap:=s3.heap.push {cls:=.type "slice",data:=.fields #[vl,vu,.none]} }:=I3.kept (t':=s3.toks) fun b ob q=>Heap.get?_push_of_some _ q;obtain⟨T,id,hT,ht,hg⟩:=hr pins {s3 with heap:=s3.heap.push {cls:=.type "slice",data:=.fields #[vl,vu,.none]} } σ H3 x v vl vu l u s3.heap.objs.size Q I4 r1 (Heap.IsSliceOf.new ..) pl pu q3;show wpAny (model X.prog X.w) X.A (subscriptTail e (.Slice lo hi none p2) v (.ref s3.heap.objs.size)) (EP X pins σ Q) X.xe {s3 with heap:=s3.heap.push {cls:=.type "slice",data:=.fields #[vl,vu,.none]} };exact tail_any (ops:=[.ref s3.heap.objs.size,v]) ht hT hg (by with_unfolding_all rfl)
def uE (xs:List V) (lo hi:Option Int):List V:=(xs.drop (HT.iS xs.length 0 lo)).take (HT.iS xs.length xs.length hi-HT.iS xs.length 0 lo)
theorem vA(xs:List V)(lo hi:Option Int):(uE xs lo hi).length<=xs.length:=by
 unfold uE;rw[zbb,zaY];lia
def SV (K:zac):V->Option Int->Option Int->Hp->VK->Prop:=fun x lo hi H Q=>∃a xs,x=.ref a/\eS K H a xs/\
 ¬(HT.iS xs.length 0 lo=0/\HT.iS xs.length xs.length hi=xs.length)/\∀p,H p=none->Q (.ref p) (upd H p (.tup (uE xs lo hi)))
theorem Kh:VL X (SV X.K):=by
 intro pins s σ H x v vl vu lo hi sl Q I rx hs pl pu h;obtain⟨a,xs,rfl,hx,hw,q⟩:=h;cases rx;obtain⟨bt,r,ht,hz⟩:=I.tuple hx;have hlen:bt.toArray.size=xs.length:=by rw[zaq];exact r.length.symm
 refine⟨"tuple",_,zb2.lookup,ht.typeIs,?_⟩;refine HT.sX ht hs pl pu (by rw[hlen];exact hw) ?_ (by rw[hlen];exact hz);rw[hlen];refine⟨.ref s.heap.objs.size,_,I.laid (t':=s.toks) (o:=.tup (uE xs lo hi)) (fun b ob q=>Heap.get?_push_of_some _ q) (zai _) ?_,rfl,q _ (I.dD.fresh (zai _))⟩;exact⟨zaB (vA xs lo hi) hz,_,(r.drop (HT.iS xs.length 0 lo)).take (HT.iS xs.length xs.length hi-HT.iS xs.length 0 lo),IsTup.new _ _⟩
def O6 (K:zac):R2:=fun x y H Q=>∃a b xs ys,x=.ref a/\y=.ref b/\eS K H a xs/\eS K H b ys/\xs≠[]/\xs.length+ys.length<=zdh/\
 (ys=[]->Q (.ref a) H)/\(ys≠[]->∀p,H p=none->Q (.ref p) (upd H p (.tup (xs++ys))))
theorem Vals.cj{xs:List V}{us:List zda}(r:Vals xs us):us=[]↔xs=[]:=by
 cases r with
 |nil=>simp
 |cons _ _=>simp
theorem Gr:pN X (binaryOp .Add) (O6 X.K):=by
 intro pins s σ H x y v u Q I rx ry h;obtain⟨a,b,xs,ys,rfl,rfl,ha,hb,hx,hz,q1,q2⟩:=h;cases rx;cases ry;obtain⟨bt,r1,p1,_⟩:=I.tuple ha;obtain⟨QK,r2,p2,_⟩:=I.tuple hb;refine HT.NQ p1 p2 (fun z=>hx (r1.cj.mp z)) (fun z=>⟨.ref a,H,I,rfl,q1 (r2.cj.mp z)⟩) (fun z=>?_) (by rw[<- r1.length,<- r2.length];exact hz);refine⟨.ref s.heap.objs.size,_,I.laid (t':=s.toks) (o:=.tup (xs++ys)) (fun b ob q=>Heap.get?_push_of_some _ q) (zai _) ?_,rfl,q2 (fun w=>z (r2.cj.mpr w)) _ (I.dD.fresh (zai _))⟩;exact⟨by rw[zaf];exact hz,_,r1.append r2,IsTup.new _ _⟩
end
def JB (n:Nat) (i:Int):Option Nat:=if 0<=i then (if i<n then some i.toNat else none) else if -(n:Int)<=i then some (i+n).toNat else none
def Gs {α:Type} (xs:List α) (i:Int):Option α:=(JB xs.length i).bind fun j=>xs[j]?
theorem Gu{n:Nat}{i:Int}{j:Nat}(h:JB n i=some j):seqIndex? i n=some j/\j<n/\-(n:Int)<=i/\i<n:=by
 unfold JB at h;by_cases h0:0<=i
 ·rw[if_pos h0] at h;by_cases h1:i<n
  ·rw[if_pos h1] at h;have e:i.toNat=j:=zav.inj h;exact⟨by rw[seqIndex_of h0 h1,e],by lia,by lia,h1⟩
  ·rw[if_neg h1] at h;cases h
 ·rw[if_neg h0] at h;by_cases h1 : -(n:Int)<=i
  ·rw[if_pos h1] at h;have e:(i+n).toNat=j:=zav.inj h;exact⟨by rw[seqIndex_neg (by lia) h1,e],by lia,h1,by lia⟩
  ·rw[if_neg h1] at h;cases h
theorem Bl{α:Type}{xs:List α}{i:Int}{v:α}(h:Gs xs i=some v):∃j,seqIndex? i xs.length=some j/\xs[j]?=some v/\j<xs.length/\-(xs.length:Int)<=i/\i<xs.length:=by
 unfold Gs at h;cases e:JB xs.length i with
 |none=>rw[e] at h;cases h
 |some j=>
  rw[e] at h;obtain⟨h1,h2,h3,h4⟩:=Gu e;exact⟨j,h1,h,h2,h3,h4⟩
theorem aG{α:Type}{xs:List α}{j:Nat}{v:α}(h:xs[j]?=some v):Gs xs (j:Int)=some v:=by
 have hj:j<xs.length:=(zap.mp h).1;have e:JB xs.length (j:Int)=some j:=by
  unfold JB;rw[if_pos (by lia),if_pos (by lia)];simp
 unfold Gs;rw[e];exact h
theorem CG{α:Type}(xs:List α)(v:α):Gs (xs++[v]) (-1)=some v:=by
 have hl:(xs++[v]).length=xs.length+1:=by simp
 have e:JB (xs++[v]).length (-1)=some xs.length:=by
  unfold JB;rw[hl,if_neg (by decide),if_pos (by lia)]
  congr 1
  lia
 unfold Gs;rw[e];show (xs++[v])[xs.length]?=some v;simp
def oz (b:Expr):Prop:=∀o i,subscripted b false o i=operate [o,i] (getItem o i)
def R4 (X:Cx) (r:R2):Prop:=
 ∀(value slice:Expr) (pins:List (zc9×Obj)) (s:zdj) (σ:St) (H:Hp) (x y:V) (v u:zda) (Q:VK),Inv X pins σ H s->RelV x v->RelV y u->r x y H Q->
  subscripted slice false v u=operate [v,u] (getItem v u)->wpAny (model X.prog X.w) X.A (subscriptTail value slice v u) (EP X pins σ Q) X.xe s
def R5 (X:Cx) (id:String) (r:V->List V->Hp->VK->Prop):Prop:=
 ∀(pins:List (zc9×Obj)) (s:zdj) (σ:St) (H:Hp) (x:V) (xs:List V) (v:zda) (us:List zda) (Q:VK),Inv X pins σ H s->RelV x v->Vals xs us->r x xs H Q->
  wpAny (model X.prog X.w) X.A (call (.builtin id) (v::us)) (EP X pins σ Q) X.xe s
section
variable{X:Cx}{a b:Expr}{ta tb:TE}{pos:Pos}
theorem a9{r:R2}(hr:R4 X r)(ha:PE X a ta)(hb:PE X b tb)(hs:oz b):PE X (.Subscript a b pos) (SF r ta tb):=by
 intro pins s σ H Q I h;exact Subscript_ (Qv ha hb I h fun v u s2 x y H2 I2 rx ry q=>hr a b pins s2 σ H2 x y v u Q I2 rx ry q (hs _ _))
def Ki (K:zac):R2:=fun x y H Q=>∃p xs i v,x=.ref p/\y=.int i/\g8 K H p xs/\Gs xs i=some v/\Q v H
def NR (K:zac):R2:=fun x y H Q=>∃p xs i v,x=.ref p/\y=.int i/\eS K H p xs/\Gs xs i=some v/\Q v H
def VN:R2:=fun x y H Q=>∃z i c,x=.str z/\y=.int i/\z.length<=zdh/\Gs z.cps.toList i=some c/\Q (.str ⟨#[c]⟩) H
theorem aU:R4 X (Ki X.K):=by
 intro value slice pins s σ H x y v u Q I rx ry h hs;obtain⟨p,xs,i,z,rfl,rfl,hq,he,q⟩:=h;cases rx;obtain⟨t,rfl⟩:=ry;obtain⟨bt,r,pl,hz⟩:=I.list hq;obtain⟨j,h1,h2,h3,h4,h5⟩:=Bl he;obtain⟨w,ew,VO⟩:=r.get h2;have hl:=r.length;have hn:=pO;have fin:EP X pins σ Q w s:=⟨z,H,I,VO,q⟩
 by_cases h0:0<=i
 ·have hj:i.toNat=j:=by
   rw[seqIndex_of h0 h5] at h1;exact zav.inj h1
  exact item_listR pl.isList h0 (by lia) (by rw[hj];simpa using ew) fin hs
 ·have hj:(i+(bt.toArray.size:Int)).toNat=j:=by
   rw[seqIndex_neg (by lia) h4] at h1;rw[zaq,<- hl];exact zav.inj h1
  exact subscriptTail_builtinR (x:=w) pl.isList.typeIs slot_list_getitem.lookup
   (wpAny_getItem_list_neg (Q:=fun r s'=>r=w/\EP X pins σ Q r s') pl.isList (by lia) (by rw[zaq]<;>lia) (by lia) (by rw[hj];simpa using ew) ⟨rfl,fin⟩) hs
theorem dP:R4 X (NR X.K):=by
 intro value slice pins s σ H x y v u Q I rx ry h hs;obtain⟨p,xs,i,z,rfl,rfl,hq,he,q⟩:=h;cases rx;obtain⟨t,rfl⟩:=ry;obtain⟨bt,r,pl,hz⟩:=I.tuple hq;obtain⟨j,h1,h2,h3,h4,h5⟩:=Bl he;obtain⟨w,ew,VO⟩:=r.get h2;have hl:=r.length;have hn:=pO;have fin:EP X pins σ Q w s:=⟨z,H,I,VO,q⟩
 exact subscriptTail_builtinR (x:=w) pl.typeIs slot_tuple_getitem.lookup
  (getItem_tuple (j:=j) (Q:=fun r s'=>r=w/\EP X pins σ Q r s') pl (by lia) (by lia) (by rw[zaq,<- hl];exact h1) (by simpa using ew) ⟨rfl,fin⟩) hs
theorem Kj:R4 X VN:=by
 intro value slice pins s σ H x y v u Q I rx ry h hs;obtain⟨z,i,c,rfl,rfl,hz,he,q⟩:=h;obtain⟨t,rfl⟩:=rx;obtain⟨t',rfl⟩:=ry;obtain⟨j,h1,h2,h3,h4,h5⟩:=Bl he;have hl:z.cps.toList.length=z.length:=by simp[Str.length]
 rw[hl] at h1 h4 h5;have hn:=pO;exact tail_any (typeIs_str s z t) slot_str_getitem.lookup (getItem_str (c:=c) (by
  have e1:decide (i < -(2 ^ 63:Int))=false:=decide_eq_false (by lia);have e2:decide (i ≥ 2 ^ 63)=false:=decide_eq_false (by lia);rw[e1,e2,zcW]) (by rw[h1];simpa using h2) ⟨.str ⟨#[c]⟩,H,I.tok _,⟨_,rfl⟩,q⟩) hs
theorem E4(bt:List zda)(n j:Nat)(u:zda):Obj.mapSeq (·.setIfInBounds j u) {cls:=.type "list",data:=.seq bt.toArray n}={cls:=.type "list",data:=.seq (bt.set j u).toArray n}:=by
 simp[Obj.mapSeq]
theorem Inv.lst{pins:List (zc9×Obj)}{σ:St}{H:Hp}{s:zdj}{p:zc9}{xs:List V}(I:Inv X pins σ H s)(h:H p=some (.lst xs)) :
 ∃(bt:List zda) (n:Nat),Vals xs bt/\s.heap.get? p=some {cls:=.type "list",data:=.seq bt.toArray n}/\xs.length<=zdh:=by
 obtain⟨z,bt,n,r,e⟩:=I.dD p _ h;exact⟨bt,n,r,e,z⟩
theorem Inv.QL{pins:List (zc9×Obj)}{σ:St}{H:Hp}{s:zdj}{p:zc9}{xs ys:List V}{bt its':List zda}{n n':Nat}{f:Obj->Obj}(I:Inv X pins σ H s)(h:H p=some (.lst xs))
 (ho:s.heap.get? p=some {cls:=.type "list",data:=.seq bt.toArray n}) (hf:f {cls:=.type "list",data:=.seq bt.toArray n}={cls:=.type "list",data:=.seq its'.toArray n' }) (r:Vals ys its') (hz:ys.length<=zdh) (t:Nat) :
 Inv X pins σ (upd H p (.lst ys)) {s with heap:=s.heap.update p f,toks:=t}:=by
 have e:(s.heap.update p f).get? p=some {cls:=.type "list",data:=.seq its'.toArray n' }:=by
  rw[Heap.get?_update_self f ho (by rw[hf]<;>rfl),hf]
 refine I.write (x:=p) (e:=p) (by rw[h];trivial) (.inl rfl) (fun b u hb q=>(Heap.get?_update_other _ _ (Ne.symm hb)).trans q) ⟨_,e⟩ ?_;exact⟨hz,its',n',r,e⟩
def SW:V->V->V->Hp->(Hp->Prop)->Prop:=fun o i v H Q=>∃p xs k j,o=.ref p/\i=.int k/\H p=some (.lst xs)/\JB xs.length k=some j/\Q (upd H p (.lst (xs.set j v)))
theorem set_list:Sy X SW:=by
 intro pins s σ H o i v ov iv u Q I ro ri rv h;obtain⟨p,xs,k,j,rfl,rfl,hp,hj,q⟩:=h;cases ro;obtain⟨t,rfl⟩:=ri;obtain⟨bt,n,r,ho,hz⟩:=I.lst hp;obtain⟨h1,h2,h3,h4⟩:=Gu hj;have hl:=r.length;have hn:=pO;have I':Inv X pins σ (upd H p (.lst (xs.set j v))) {s with heap:=s.heap.update p (Obj.mapSeq (·.setIfInBounds j u))}:=
  I.QL hp ho (E4 bt n j u) (r.set rv j) (by rw[zbs];exact hz) s.toks
 by_cases h0:0<=k
 ·have hk:k.toNat=j:=by
   rw[seqIndex_of h0 h4] at h1;exact zav.inj h1
  exact PySem.W.ki_setAt ho h0 (by lia) (by rw[zaq,<- hl];exact h4) (by rw[hk];exact⟨_,I',q⟩)
 ·have hk:(k+(bt.toArray.size:Int)).toNat=j:=by
   rw[seqIndex_neg (by lia) h3] at h1;rw[zaq,<- hl];exact zav.inj h1
  exact PySem.W.ki_setBack ho (by lia) (by rw[zaq,<- hl];exact h3) (by lia) (by rw[hk];exact⟨_,I',q⟩)
theorem Bm(lo hi:Option Int)(n:Nat):(sliceBounds lo hi none n).1=((HT.iS n 0 lo:Nat):Int)/\(sliceBounds lo hi none n).2.1=((HT.iS n n hi:Nat):Int)/\(sliceBounds lo hi none n).2.2=1:=by
 refine⟨?_,?_,rfl⟩
 ·cases lo with
  |none=>simp[sliceBounds,HT.iS]
  |some i=>
   simp only[sliceBounds,HT.iS,Option.getD_none,show (1:Int)>0 by decide,if_true];by_cases h:i<0
   ·simp only[h,if_true]<;>lia
   ·simp only[h,if_false]<;>lia
 ·cases hi with
  |none=>simp[sliceBounds,HT.iS]
  |some i=>
   simp only[sliceBounds,HT.iS,Option.getD_none,show (1:Int)>0 by decide,if_true];by_cases h:i<0
   ·simp only[h,if_true]<;>lia
   ·simp only[h,if_false]<;>lia
theorem zB(bt:List zda)(lo hi:Option Int):slicePick bt.toArray lo hi none=((bt.drop (HT.iS bt.length 0 lo)).take (HT.iS bt.length bt.length hi-HT.iS bt.length 0 lo)).toArray:=by
 obtain⟨h1,h2,h3⟩:=Bm lo hi bt.toArray.size;unfold slicePick;rw[h1,h2,h3];simp only[sliceRange_one,pick_run,zaq]<;>rfl
def VP (K:zac):V->Option Int->Option Int->Hp->VK->Prop:=fun x lo hi H Q=>∃a xs,x=.ref a/\g8 K H a xs/\∀p,H p=none->Q (.ref p) (upd H p (.lst (uE xs lo hi)))
theorem Bn:VL X (VP X.K):=by
 intro pins s σ H x v vl vu lo hi sl Q I rx hs pl pu h;obtain⟨a,xs,rfl,hx,q⟩:=h;cases rx;obtain⟨bt,r,ht,hz⟩:=I.list hx;have hlen:=r.length;refine⟨"list",_,slot_list_getitem.lookup,ht.isList.typeIs,?_⟩;refine wpAny_getItem_list_slice ht.isList hs pl pu .none (by simp) ?_ (by rw[zaq]<;>lia);rw[zB,<- hlen];refine⟨.ref s.heap.objs.size,_,I.laid (t':=s.toks) (o:=.lst (uE xs lo hi)) (fun b ob q=>Heap.get?_push_of_some _ q) (zai _) ?_,rfl,q _ (I.dD.fresh (zai _))⟩;exact⟨zaB (vA xs lo hi) hz,_,0,(r.drop (HT.iS xs.length 0 lo)).take (HT.iS xs.length xs.length hi-HT.iS xs.length 0 lo),Heap.get?_push_size _ rfl⟩
def vB:V->Bool
 |.dB=>true
 |.bl _=>true
 |.int _=>true
 |.str _=>true
 |_=>false
def O7:V->V->Bool
 |.dB,.dB=>true
 |.bl a,.bl b=>a==b
 |.bl a,.int b=>(if a then 1 else 0)==b
 |.int a,.bl b=>a==(if b then 1 else 0)
 |.int a,.int b=>a==b
 |.str a,.str b=>a==b
 |_,_=>false
theorem QM{A:zdk}{s:zdj}{y x:V}{u v:zda}(ry:RelV y u)(rx:RelV x v)(fy:vB y=true)(fx:vB x=true):SeqAt.EqAt A s u v (O7 y x):=by
 cases y with
 |dB=>
  cases ry;cases x with
  |dB=>cases rx;exact SeqAt.EqAt.same _
  |bl b=>cases rx;exact SeqAt.EqAt.none_bool b
  |int b=>obtain⟨t,rfl⟩:=rx;exact SeqAt.EqAt.none_int b t
  |str b=>obtain⟨t,rfl⟩:=rx;exact SeqAt.EqAt.none_str b t
  |_=>exact absurd (show false=true from fx) zad
 |bl a=>
  cases ry;cases x with
  |dB=>cases rx;exact SeqAt.EqAt.bool_none a
  |bl b=>cases rx;exact SeqAt.EqAt.bool_bool a b
  |int b=>obtain⟨t,rfl⟩:=rx;exact SeqAt.EqAt.bool_int a b t
  |str b=>obtain⟨t,rfl⟩:=rx;exact SeqAt.EqAt.bool_str a b t
  |_=>exact absurd (show false=true from fx) zad
 |int a=>
  obtain⟨t',rfl⟩:=ry;cases x with
  |dB=>cases rx;exact SeqAt.EqAt.int_none a t'
  |bl b=>cases rx;exact SeqAt.EqAt.int_bool a t' b
  |int b=>obtain⟨t,rfl⟩:=rx;exact SeqAt.EqAt.int_int a t' b t
  |str b=>obtain⟨t,rfl⟩:=rx;exact SeqAt.EqAt.int_str a t' b t
  |_=>exact absurd (show false=true from fx) zad
 |str a=>
  obtain⟨t',rfl⟩:=ry;cases x with
  |dB=>cases rx;exact SeqAt.EqAt.str_none a t'
  |bl b=>cases rx;exact SeqAt.EqAt.str_bool a t' b
  |int b=>obtain⟨t,rfl⟩:=rx;exact SeqAt.EqAt.str_int a t' b t
  |str b=>obtain⟨t,rfl⟩:=rx;exact SeqAt.EqAt.str_str a t' b t
  |_=>exact absurd (show false=true from fx) zad
 |_=>exact absurd (show false=true from fy) zad
def E5 (x:V) (u:zda):Bool:=match u with
 |.none=>O7 .dB x
 |.bool b=>O7 (.bl b) x
 |.int i _=>O7 (.int i) x
 |.str z _=>O7 (.str z) x
 |_=>false
theorem Kk{x y:V}{u:zda}(r:RelV y u)(f:vB y=true):E5 x u=O7 y x:=by
 cases y with
 |dB=>cases r;rfl
 |bl b=>cases r;rfl
 |int i=>obtain⟨t,rfl⟩:=r;rfl
 |str z=>obtain⟨t,rfl⟩:=r;rfl
 |_=>exact absurd (show false=true from f) zad
theorem tf{x:V}:∀ {xs:List V} {us:List zda},Vals xs us->xs.all vB=true->us.any (E5 x)=xs.any fun y=>O7 y x
 |_,_,.nil,_=>rfl
 |y::xs,u::us,.cons r t,f=>by
  rw[List.all_cons,zaJ] at f;rw[zbX,zbX,Kk r f.1,tf t f.2]
theorem pS{A:zdk}{s:zdj}{x:V}{v:zda}(rx:RelV x v)(fx:vB x=true):∀ {xs:List V} {us:List zda},Vals xs us->xs.all vB=true->∀u∈us,SeqAt.EqAt A s u v (E5 x u)
 |_,_,.nil,_=>fun u hu=>by cases hu
 |y::xs,u::us,.cons r t,f=>fun u' hu=>by
  rw[List.all_cons,zaJ] at f;rcases zaj.mp hu with rfl |hu
  ·rw[Kk r f.1];exact QM r rx f.1 fx
  ·exact pS rx fx t f.2 u' hu
def JC (x:V) (xs:List V):Bool:=xs.any fun y=>O7 y x
def VQ (K:zac) (neg:Bool):R2:=fun x y H Q=>∃p xs,y=.ref p/\(g8 K H p xs\/eS K H p xs)/\vB x=true/\xs.all vB=true/\Q (.bl (if neg then !JC x xs else JC x xs)) H
theorem g9:pN X (compareOp .In) (VQ X.K false):=by
 intro pins s σ H x y v u Q I rx ry h;obtain⟨p,xs,rfl,hq,fx,fs,q⟩:=h;cases ry;rcases hq with hq |hq
 ·obtain⟨bt,r,pl,hz⟩:=I.list hq;refine SeqAt.in_listAt (E5 x) pl.isList (fun w hw=>pS rx fx r fs w (by simpa using hw)) ⟨.bl _,H,I,rfl,?_⟩;rw[show bt.toArray.any (E5 x)=bt.any (E5 x) by simp,tf r fs];exact q
 ·obtain⟨bt,r,pl,hz⟩:=I.tuple hq;refine SeqAt.in_tupleAt (E5 x) pl (fun w hw=>pS rx fx r fs w (by simpa using hw)) ⟨.bl _,H,I,rfl,?_⟩;rw[show bt.toArray.any (E5 x)=bt.any (E5 x) by simp,tf r fs];exact q
theorem kH:pN X (compareOp .NotIn) (VQ X.K true):=by
 intro pins s σ H x y v u Q I rx ry h;obtain⟨p,xs,rfl,hq,fx,fs,q⟩:=h;cases ry;rcases hq with hq |hq
 ·obtain⟨bt,r,pl,hz⟩:=I.list hq;refine SeqAt.notIn_listAt (E5 x) pl.isList (fun w hw=>pS rx fx r fs w (by simpa using hw)) ⟨.bl _,H,I,rfl,?_⟩;rw[show bt.toArray.any (E5 x)=bt.any (E5 x) by simp,tf r fs];exact q
 ·obtain⟨bt,r,pl,hz⟩:=I.tuple hq;refine SeqAt.notIn_tupleAt (E5 x) pl (fun w hw=>pS rx fx r fs w (by simpa using hw)) ⟨.bl _,H,I,rfl,?_⟩;rw[show bt.toArray.any (E5 x)=bt.any (E5 x) by simp,tf r fs];exact q
theorem cK:nM X (.builtin "len") (fun xs H Q=>∃p ys,xs=[.ref p]/\(g8 X.K H p ys\/eS X.K H p ys)/\Q (.int ys.length) H):=by
 intro pins s σ H xs us Q I r h;obtain⟨p,ys,rfl,hq,q⟩:=h;obtain⟨u,rfl,rx⟩:=vals1 r;cases rx;have hn:=pO;rcases hq with hq |hq
 ·obtain⟨bt,r',pl,hz⟩:=I.list hq;have hlen:=r'.length;exact Calls.call_len_list pl.isList (by simp only[zaq]<;>lia) ⟨.int ys.length,H,I.tok _,⟨s.toks+1,by rw[zaq,hlen]⟩,q⟩
 ·obtain⟨bt,r',pl,hz⟩:=I.tuple hq;have hlen:=r'.length;exact len_tuple pl (by simp only[zaq]<;>lia) ⟨.int ys.length,H,I.tok _,⟨s.toks+1,by rw[zaq,hlen]⟩,q⟩
theorem oA:nM X (.builtin "len") (fun xs H Q=>∃z,xs=[.str z]/\z.length<=zdh/\Q (.int z.length) H):=by
 intro pins s σ H xs us Q I r h;obtain⟨z,rfl,hz,q⟩:=h;obtain⟨u,rfl,t,rfl⟩:=vals1 r;have hn:=pO;exact len_str (by lia) ⟨.int z.length,H,I.tok _,⟨_,rfl⟩,q⟩
theorem zC:nM X (.type "tuple") (fun xs H Q=>∃p ys,xs=[.ref p]/\((g8 X.K H p ys/\∀l,H l=none->Q (.ref l) (upd H l (.tup ys)))\/(eS X.K H p ys/\Q (.ref p) H))):=by
 intro pins s σ H xs us Q I r h;obtain⟨p,ys,rfl,h⟩:=h;obtain⟨u,rfl,rx⟩:=vals1 r;cases rx;rcases h with ⟨hq,q⟩ |⟨hq,q⟩
 ·obtain⟨bt,r',pl,hz⟩:=I.list hq;have hlen:=r'.length;refine call_tuple_list pl.isList (fun h' kp=>?_) (by simp only[zaq]<;>lia);have I1:Inv X pins σ H {s with heap:=h' }:=I.kept (t':=s.toks) kp;have I2:Inv X pins σ (upd H h'.objs.size (.tup ys)) {s with heap:=h'.push {cls:=.type "tuple",data:=.seq bt.toArray} }:=
   I1.laid (t':=s.toks) (fun b o e=>Heap.get?_push_of_some _ e) (zai _) (show dN X.prog X.w _ _ _ (.tup ys) from ⟨hz,bt,r',IsTup.new _ _⟩)
  exact⟨.ref h'.objs.size,_,I2,rfl,q _ (I1.dD.fresh (zai _))⟩
 ·obtain⟨bt,r',pl,hz⟩:=I.tuple hq;exact call_tuple_same pl ⟨.ref p,H,I,rfl,q⟩
def VR (K:zac) (T:String) (x:V) (H:Hp):Prop:=match x with
 |.str _=>T = "str"
 |.int _=>T = "int"
 |.ref p=>(T = "list"/\∃xs,g8 K H p xs)\/(T = "tuple"/\∃o,K.lookup p=some o/\o.cls=.type "tuple"/\o.dict=none)\/
  (T = "dict"/\((∃bg,H p=some (.dK bg))\/∃bg,H p=some (.dT bg)))\/(T = "set"/\∃S n,H p=some (.set S n))
 |_=>False
theorem Kl{pins:List (zc9×Obj)}{σ:St}{H:Hp}{s:zdj}{T:String}{x:V}{v:zda}(I:Inv X pins σ H s)(r:RelV x v)(ty:VR X.K T x H) :
 s.TypeIs v T/\∀a,v=.ref a->∃ob,s.heap.get? a=some ob/\ob.dict=none:=by
 cases x with
 |str z=>
  obtain⟨t,rfl⟩:=r;cases (show T = "str" from ty);exact⟨typeIs_str s z t,fun _ e=>nomatch e⟩
 |int i=>
  obtain⟨t,rfl⟩:=r;cases (show T = "int" from ty);exact⟨typeIs_int s i t,fun _ e=>nomatch e⟩
 |ref p=>
  cases r;rcases ty with ⟨rfl,xs,hq⟩ |⟨rfl,o,hk,hc,hd⟩ |⟨rfl,hk⟩ |⟨rfl,S,n,hk⟩
  ·obtain⟨bt,_,pl,_⟩:=I.list hq;refine⟨pl.isList.typeIs,fun a e=>?_⟩;cases e;obtain⟨o,n,e,c,hd,_⟩:=pl;exact⟨o,e,hd⟩
  ·refine⟨⟨o,I.zy p o hk,hc⟩,fun a e=>?_⟩;cases e;exact⟨o,I.zy _ o hk,hd⟩
  ·have z:∃o,s.heap.get? p=some o/\o.ExactDict:=by
    rcases hk with ⟨bg,hk⟩ |⟨bg,hk⟩
    ·obtain⟨_,_,_,_,o,_,_,e,ex,_⟩:=I.dD p _ hk;exact⟨o,e,ex⟩
    ·obtain⟨_,_,_,_,o,_,_,e,ex,_⟩:=I.dD p _ hk;exact⟨o,e,ex⟩
   obtain⟨o,e,ex⟩:=z;refine⟨⟨o,e,ex.1⟩,fun a e2=>?_⟩;cases e2;exact⟨o,e,ex.2.1⟩
  ·obtain⟨o,_,_,_,e,ex,_⟩:=I.dD p _ hk;refine⟨⟨o,e,ex.1⟩,fun a e2=>?_⟩;cases e2;exact⟨o,e,ex.2.1⟩
 |_=>exact False.elim ty
def QN (K:zac) (T:String) (r:V->List V->Hp->VK->Prop) (to:TE):TE:=fun σ H Q=>to σ H fun x H1=>VR K T x H1/\r x [] H1 Q
def UO (K:zac) (T:String) (r:V->List V->Hp->VK->Prop) (to:TE) (t:TA):TE:=fun σ H Q=>to σ H fun x H1=>VR K T x H1/\t σ H1 fun xs H2=>r x xs H2 Q
variable{o e:Expr}{es:List Expr}{to:TE}{t:TA}{name:Str}{apos iP:Pos}{T id:String}{r:V->List V->Hp->VK->Prop}
theorem E6(pa:PlainAttrs T)(slot:Slot T name id)(SX:typeOf (.builtin id)=pure (.type "method_descriptor"))(hm:R5 X id r)(ho:PE X o to)
 (CI:attributeBase o name X.env (eval o X.env)=eval o X.env:=by rfl) (CJ:(apos.endLine==iP.line)=true:=by rfl):PE X (.Call (.Attribute o name apos) [] [] iP) (QN X.K T r to):=by
 intro pins s σ H Q I h;refine wpAny_Call_method0_late CI CJ (eI (ho pins s σ H _ I h) fun v s1 zqz=>?_);obtain⟨x,H1,I1,r1,ty,q1⟩:=zqz;obtain⟨h1,h2⟩:=Kl I1 r1 ty;exact⟨T,id,pa,slot,SX,h1,h2,Calls.callWith_builtin rfl (PySem.evalArgs_none (hm pins s1 σ H1 x [] v [] Q I1 r1 .nil q1))⟩
theorem kT(pa:PlainAttrs T)(slot:Slot T name id)(SX:typeOf (.builtin id)=pure (.type "method_descriptor"))(hm:R5 X id r)(ho:PE X o to)(ha:PA X (e::es) t)
 (CI:attributeBase o name X.env (eval o X.env)=eval o X.env:=by rfl)
 (QO:((backTo iP (zdf (e::es) X.env)).all (fun x=>!x.1)&&(backToKw iP (keywordEach [] X.env)).all (fun x=>x.1.isSome)
  && decide ((e::es).length+([]:List Keyword).length+(if ([]:List Keyword).isEmpty then 0 else 1)<30))=true:=by rfl)
 (CJ:(apos.endLine==iP.line)=true:=by rfl) (hs:zdf (e::es) X.env=(false,eval e X.env)::zdf es X.env:=by rfl) (xq:(backTo iP (zdf es X.env)).any (·.1)=false:=by rfl) :
 PE X (.Call (.Attribute o name apos) (e::es) [] iP) (UO X.K T r to t):=by
 intro pins s σ H Q I h;refine wpAny_Call_method_late CI QO CJ rfl (eI (ho pins s σ H _ I h) fun v s1 zqz=>?_);obtain⟨x,H1,I1,r1,ty,q1⟩:=zqz;obtain⟨h1,h2⟩:=Kl I1 r1 ty;refine⟨T,id,pa,slot,SX,h1,h2,?_⟩;have hA:=ha iP pins s1 σ H1 _ I1 q1;rw[hs] at hA ⊢;refine Calls.callWith_builtin (by show (false ||(backTo iP (zdf es X.env)).any (·.1))=false;rw[xq]<;>rfl) (Calls.evalArgs_plain ?_);exact eI hA fun us s2 ⟨vs,H2,I2,r2,q2⟩=>hm pins s2 σ H2 x vs v us Q I2 r1 r2 q2
end
def Xo (X:Cx) (id:String) (r:V->List V->Hp->VK->Prop):Prop:=
 ∀(pins:List (zc9×Obj)) (s:zdj) (σ:St) (H:Hp) (x:V) (xs:List V) (v:zda) (us:List zda) (Q:VK),Inv X pins σ H s->RelV x v->Vals xs us->r x xs H Q->
  wpAny (model X.prog X.w) X.A (call (.builtin id) (v::us)) (EP X pins σ Q) X.xe s
theorem Vals.one:∀ {x:V} {us:List zda},Vals [x] us->∃u,us=[u]/\RelV x u
 |_,_,.cons r .nil=>⟨_,rfl,r⟩
theorem Vals.zero:∀ {us:List zda},Vals [] us->us=[]
 |_,.nil=>rfl
theorem Vals.dropLast{xs:List V}{us:List zda}(h:Vals xs us):Vals xs.dropLast us.dropLast:=by
 induction h with
 |nil=>exact .nil
 |cons r t ih=>
  cases t with
  |nil=>exact .nil
  |cons q t'=>exact .cons r ih
theorem Vals.reverse{xs:List V}{us:List zda}(h:Vals xs us):Vals xs.reverse us.reverse:=by
 induction h with
 |nil=>exact .nil
 |cons r t ih=>rw[zbT,zbT];exact Vals.append ih (.cons r .nil)
theorem Vals.rep{xs:List V}{us:List zda}(h:Vals xs us):∀k:Nat,Vals (zan k xs).flatten (zan k us).flatten
 |0=>.nil
 |k+1=>by
  rw[zaQ,zaQ,zaN,zaN];exact Vals.append h (Vals.rep h k)
theorem E7{α:Type}(l:List α):l.eraseIdx (l.length-1)=l.dropLast:=by
 induction l with
 |nil=>rfl
 |cons a r ih=>
  cases r with
  |nil=>rfl
  |cons b r=>
   have e:(a::b::r).length-1=((b::r).length-1)+1:=by
    have h1:(a::b::r).length=r.length+2:=rfl;have h2:(b::r).length=r.length+1:=rfl;lia
   rw[e,List.eraseIdx_cons_succ,ih]
   all_goals rfl
theorem foldl_rep(bt:List zda):∀(k:Nat) (acc:List zda),
 List.foldl (fun x1 x2=>x1++x2) acc.toArray (zan k bt.toArray)=(acc++(zan k bt).flatten).toArray
 |0,acc=>by simp
 |k+1,acc=>by
  have e:acc.toArray++bt.toArray=(acc++bt).toArray:=by simp
  have e2:(acc++bt)++(zan k bt).flatten=acc++(zan (k+1) bt).flatten:=by
   rw[zaQ,zaN,zbA]
  rw[<- e2,<- foldl_rep bt k (acc++bt),<- e,zaQ,zbj]
section
variable{X:Cx}{pins:List (zc9×Obj)}{σ:St}{H:Hp}{s:zdj}{l b:zc9}{xs ys zs:List V}
theorem Inv.SY{bt its':List zda}{n:Nat}{f:Array zda->Array zda}{t':Nat}(I:Inv X pins σ H s)(hH:H l=some (.lst xs))
 (e:s.heap.get? l=some {cls:=.type "list",data:=.seq bt.toArray n}) (hf:f bt.toArray=its'.toArray) (hv:Vals ys its') (hz:ys.length<=zdh) :
 Inv X pins σ (upd H l (.lst ys)) {s with heap:=s.heap.update l (Obj.mapSeq f),toks:=t' }:=by
 have q:=PySem.IsL.update e f;rw[hf] at q;refine I.write (x:=l) (e:=l) (by rw[hH];exact trivial) (.inl rfl) (fun b' u hb hu=>(Heap.get?_update_other s.heap (Obj.mapSeq f) (Ne.symm hb)).trans hu) ⟨_,q⟩ ?_;exact⟨hz,its',_,hv,q⟩
theorem Inv.S0{bt:List zda}{t':Nat}(I:Inv X pins σ H s)(hv:Vals ys bt)(hz:ys.length<=zdh) :
 Inv X pins σ (upd H s.heap.objs.size (.lst ys)) {s with heap:=s.heap.push {cls:=.type "list",data:=.seq bt.toArray},toks:=t' }:=
 I.laid (fun _ _ q=>Heap.get?_push_of_some _ q) (zai _) ⟨hz,bt,0,hv,Heap.get?_push_size _ rfl⟩
theorem Inv.fresh(I:Inv X pins σ H s):H s.heap.objs.size=none:=I.dD.fresh (zai _)
theorem Inv.Km(I:Inv X pins σ H s)(hH:H l=some (.lst xs)):xs.length<=zdh/\∃(bt:List zda) (n:Nat),Vals xs bt/\xs.length=bt.length/\s.heap.get? l=some {cls:=.type "list",data:=.seq bt.toArray n}:=by
 obtain⟨z,bt,n,r,e⟩:=I.dD l _ hH;exact⟨z,bt,n,r,r.length,e⟩
theorem Kn{n:Nat}(h:n<=zdh):Builtin.List.listTooLong n=false:=by
 unfold Builtin.List.listTooLong;exact decide_eq_false (by lia)
end
section
variable{X:Cx}
def NS:V->List V->Hp->VK->Prop:=fun x vs H Q=>∃l xs y,x=.ref l/\vs=[y]/\H l=some (.lst xs)/\xs.length<zdh/\Q .dB (upd H l (.lst (xs++[y])))
theorem c6:Xo X "list.append" NS:=by
 intro pins s σ H x vs v us Q I rx rv h;obtain⟨l,xs,y,rfl,rfl,hH,hz,q⟩:=h;cases rx;obtain⟨u,rfl,ru⟩:=rv.one;obtain⟨z,bt,n,r,hl,e⟩:=I.Km hH;refine call_meets F.slot_list_append ⟨_,e,rfl⟩ F.entry_list_append (F.args_list_append_2 _ _) (PySem.list_append l bt.toArray n u (by rw[zaq];lia)) ⟨e,?_⟩;refine⟨.dB,_,I.SY (its':=bt++[u]) hH e (by simp) (r.append (.cons ru .nil)) ?_,rfl,q⟩;rw[zaf,zau];lia
def VS:V->List V->Hp->VK->Prop:=fun x vs H Q=>∃l xs y,x=.ref l/\vs=[]/\H l=some (.lst xs)/\xs[xs.length-1]?=some y/\Q y (upd H l (.lst xs.dropLast))
theorem E8:Xo X "list.pop" VS:=by
 intro pins s σ H x vs v us Q I rx rv h;obtain⟨l,xs,y,rfl,rfl,hH,hy,q⟩:=h;cases rx;have YT:=rv.zero;subst YT;obtain⟨z,bt,n,r,hl,e⟩:=I.Km hH;obtain⟨u,hu,ru⟩:=r.get hy;have YU:bt.toArray[bt.toArray.size-1]?=some u:=by
  show bt.toArray[bt.length-1]?=some u;rw[<- Array.getElem?_toList,<- hl];exact hu
 refine call_meets F.slot_list_pop ⟨_,e,rfl⟩ F.entry_list_pop (F.args_list_pop_1 _) (MeetsSeq.list_pop_last l bt.toArray n u YU (by rw[zaq];lia)) ⟨e,?_⟩;refine⟨y,_,I.SY (its':=bt.dropLast) hH e ?_ r.dropLast ?_,ru,q⟩
 ·show bt.toArray.eraseIdxIfInBounds (bt.toArray.size-1)=bt.dropLast.toArray;rw[zaq,List.eraseIdxIfInBounds_toArray,E7]
 ·rw[zaW];lia
def QP:R2:=fun x y H Q=>∃l b xs zs,x=.ref l/\y=.ref b/\H l=some (.lst xs)/\H b=some (.lst zs)/\xs.length+zs.length<=zdh/\∀p,H p=none->Q (.ref p) (upd H p (.lst (xs++zs)))
theorem cW:pN X (binaryOp .Add) QP:=by
 intro pins s σ H x y v u Q I rx ry h;obtain⟨l,b,xs,zs,rfl,rfl,hH,hB,hz,q⟩:=h;cases rx;cases ry;obtain⟨z,bt,n,r,hl,e⟩:=I.Km hH;obtain⟨z2,QK,n2,r2,VT,e2⟩:=I.Km hB;refine PySem.P.add_list e e2 ?_ (by rw[zaq,zaq];lia);have ea:bt.toArray++QK.toArray=(bt++QK).toArray:=by simp
 rw[ea];exact⟨.ref _,_,I.S0 (t':=s.toks) (r.append r2) (by rw[zaf];lia),rfl,q _ I.fresh⟩
def VU:R2:=fun x y H Q=>∃l k xs,x=.ref l/\y=.int k/\H l=some (.lst xs)/\-(2 ^ 63)<=k/\k<2 ^ 63/\xs.length*k.toNat<=zdh/\
 ∀p,H p=none->Q (.ref p) (upd H p (.lst (zan k.toNat xs).flatten))
theorem len_rep{α:Type}(xs:List α)(k:Nat):(zan k xs).flatten.length=k*xs.length:=by
 induction k with
 |zero=>simp
 |succ k ih=>rw[zaQ,zaN,zaf,ih,Nat.succ_mul,Nat.add_comm]
theorem Ko:pN X (binaryOp .Mult) VU:=by
 intro pins s σ H x y v u Q I rx ry h;obtain⟨l,k,xs,rfl,rfl,hH,h1,h2,hz,q⟩:=h;cases rx;obtain⟨t,rfl⟩:=ry;obtain⟨z,bt,n,r,hl,e⟩:=I.Km hH;have hlen:bt.toArray.size*k.toNat<=zdh:=by rw[zaq,<- hl];exact hz
 have VV:¬bt.toArray.size*k.toNat>(2 ^ 63-1)/8:=by
  have:(zdh:Nat)<=(2 ^ 63-1)/8:=by decide
  lia
 have VW:¬(!Builtin.List.listFitsIndex k)=true:=by
  rw[fitsIndex_both h1 h2];exact zad
 have S1:¬Builtin.List.listTooLong (bt.toArray.size*k.toNat)=true:=by
  rw[Kn hlen];exact zad
 have VX:List.foldl (fun x1 x2=>x1++x2) #[] (zan (if bt.toArray.isEmpty=true then 0 else k.toNat) bt.toArray)=(zan k.toNat bt).flatten.toArray:=by
  have f0:∀m:Nat,List.foldl (fun x1 x2=>x1++x2) #[] (zan m bt.toArray)=(zan m bt).flatten.toArray:=fun m=>by
   have:=foldl_rep bt m [];rw[za2] at this;exact this
  rw[f0];cases bt with
  |nil=>simp
  |cons a r'=>rw[if_neg (by simp)]
 refine wpAny_binaryOp_repeat_ref (T:="list") (U:="int") (by decide) ⟨_,e,rfl⟩ (fun s'=>typeIs_int s' k t) noFill_list_mul F.fills_int_mul F.slot_int_rmul repeat_list F.slot_int_index.lookup
  (call_meets F.slot_int_rmul (typeIs_int s k t) F.entry_int_rmul (F.args_int_rmul_2 _ _) (int___rmul___int_list k t l bt.toArray n)
   ⟨e,rfl,⟨_,e,rfl⟩,call_meets F.slot_list_mul ⟨_,e,rfl⟩ F.entry_list_mul (F.args_list_mul_2 _ _) (AutoListH.list___mul___list_int_3 l bt.toArray n k t VW VV S1) ⟨e,?_⟩⟩)
 rw[VX];exact⟨.ref _,_,I.S0 (t':=s.toks) (r.rep k.toNat) (by rw[len_rep,Nat.mul_comm];exact hz),rfl,q _ I.fresh⟩
end
end L2
namespace Xp
open PySem PySem.W PySem.Calls PyProof.Rows
theorem vZ{P:Params}{h:Heap}:∀(ns:List Int) (vs:List zda),WellAll P h vs (ns.map WData.int)->IntsAre vs ns:=by
 intro ns
 induction ns with
 |nil=>
  intro vs w;rw[zcu] at w;cases w;exact .nil
 |cons n ns ih=>
  intro vs w;rw[zaw] at w;cases w with
  |cons a b=>
   cases a;exact .cons _ _ (ih _ b)
theorem HU{l:OpenLaw}{n:Nat}(hn:l.most=some n){P:Params}{h:Heap}{args:List WData}{vals:List zda}
 (NT:l.row.toRowW.claim.pre args=true) (VY:WellAll P h vals args) :
 ∃a vs ns,vals=[Value.ref a]/\args=[WData.list (ns.map WData.int)]/\h.get? a=some {cls:=.type "list",data:=.seq vs.toArray}/\IntsAre vs ns/\ns.length<=n:=by
 have YV:WShape.hasAll [] args [.list .int]=true:=(pre_splitW NT).1;have hc:l.pre.holds [] {args:=args}=true:=(pre_splitW NT).2;obtain⟨d,r,rfl,h1,h2⟩:=hasAllW_cons YV;obtain rfl:=hasAllW_nil h2;obtain⟨xs,rfl,h3⟩:=hasW_list h1;obtain⟨ns,rfl⟩:=items_int h3;have hlen:ns.length<=n:=by
  unfold OpenLaw.pre at hc;have h4:(WTm.not (.lt (.lit (.int (n:Int))) (.len (.arg 0)))).holds [] {args:=[.list (ns.map .int)]}=true:=by
   have h4:=(holds_andW hc).1;rw[hn] at h4;exact h4
  have h5:=condW_of h4 (w_not (w_lt w_lit (w_len_list (w_arg rfl))));rw[zae] at h5;refine Nat.le_of_not_lt fun q=>?_;have q':(n:Int)<((ns.length:Nat):Int):=by lia
  first
   |(rw[decide_eq_true q'] at h5;exact absurd h5 (by decide))
   |(simp at h5;lia)
 cases VY with
 |cons w1 w2=>
  cases w2;cases w1 with
  |list ho QQ=>exact⟨_,_,ns,rfl,rfl,ho,vZ ns _ QQ,hlen⟩
theorem HV(l:OpenLaw)(args:List WData):l.row.toRowW.claim.post args (.bool true) args=true:=
 postW_of (r:=l.row.toRowW) (X:=(true==true))
  (show WShape.has [] (.bool true) .bool=true by first |rfl |decide |simp[WShape.has,WShape.arms,WShape.armsAll])
  (show (WTm.eq .res (.lit (.bool true))).value [] {args:=args,res:=some (.bool true),after:=args}=some (.bool (true==true)) from w_eq_bool (w_res rfl) w_lit) rfl
theorem CK{l:OpenLaw}{n:Nat}{q:zdl}{loose:List Str}{XP:(Str->Option zda)->Heap->Prop}{YP:zdb->Heap->Prop}{d:DefRec}
 (hn:l.most=some n) (S2:d.params.defaults=[])
 (call:∀(w:zdb) (s₀ s₁:zdj) (mg mb:Str->Option zda) (fa:zc9) (o:Obj) (pm cd doc:zda) (a:zc9) (vs:List zda) (ns:List Int),
  Ground q loose [] XP w s₀ mg mb s₁.heap->YP w s₁.heap->
  s₁.heap.get? fa=some o->o.data=.func (docDef d.name d.params d.body d.scope pm cd doc)->s₁.heap.CodeRec cd d.name->mg d.name=some (.ref fa)->
  s₁.heap.get? a=some {cls:=.type "list",data:=.seq vs.toArray}->IntsAre vs ns->ns.length<=n->s₁.gens = #[]->
  codeAny (model l.prog w) callerA (.call (.ref fa) ⟨[.ref a],[]⟩) (fun r s'=>r=.ok (.ret (.bool true))/\OldK s₁.heap s'.heap/\s'.os=s₁.os/\AllBare s'.gens) s₁) :
 WalkO q loose XP YP l.row.toRowW d [] (fun f vs=>PySem.call f vs):=by
 intro w s₀ s₁ mg mb G Y fa o pm cd doc dV kV ho hd HE hD S3 hg args vals as NT YW hrd VY hlo;obtain rfl:dV=.none:=Dflts.none hD S2;obtain rfl:kV=.none:=Dflts.noKw hD;obtain⟨a,vs,ns,rfl,rfl,QR,hints,hlen⟩:=HU hn NT VY;refine enter_call (codeAny_mono (call w s₀ s₁ mg mb fa o pm cd doc a vs ns G Y ho (fd_plain hd) HE S3 QR hints hlen hg) fun r s' hq=>?_);obtain⟨rfl,h2,h3,h4⟩:=hq;exact⟨.inl ⟨.bool true,.bool true,[],rfl,fun _=>rfl,.bool true,HV l _,fun _=>⟨List.Pairwise.nil,fun _ hm=>(nomatch hm)⟩⟩,h2,h3,h4⟩
end Xp
namespace L2
open PySem PySem.Spec PyProof.Rows
theorem AF:∀ {vs:List zda} {ns:List Int},IntsAre vs ns->Vals (ns.map V.int) vs
 |_,_,.nil=>.nil
 |_,_,.cons n t h=>.cons ⟨t,rfl⟩ (AF h)
def QS (H:Hp):Prop:=∀b,H b=none\/∃o xs,H b=some (.JK o (.lst xs))
theorem Kp{P:zdl}{w:zdb}{K:zac}{mg mb:Str->Option zda}{CX:E1}{k:Nat}{fa a:zc9}{fd:zdi}{x:Str}{sp:Sp}{s₁:zdj}{vs:List zda}{ns:List Int}
 (KX:K.In s₁.heap) (UP:s₁.heap.Ns zdg mg) (hb:s₁.heap.Ns builtinsNs mb) (R6:∀x:Str,x≠"__name__"->mb x=bootBuiltins x) (VZ:s₁.heap.NoLimit) (hg:s₁.gens = #[])
 (ha:s₁.heap.get? a=some {cls:=.type "list",data:=.seq vs.toArray}) (hi:IntsAre vs ns) (hl:ns.length<=zdh) (hr:gi k callerA)
 (F:∀base:Heap,K.In base->base.Ns zdg mg->bB P w K mg base CX k fa fd [x] sp) (S4:∀(s:zdj) (u:zda),BindsTo s fd ⟨[u],[]⟩ [(x,u)])
 (HS:∀H:Hp,QS H->g8 K H a (ns.map V.int)->sp [.ref a] H (fun v _=>v=.bl true) fun _ _ _=>False)
 (V0:∀H e s',CX [] H s₁ (fun _ _ _=>False) e s'->False) :
 codeAny (model P w) callerA (.call (.ref fa) ⟨[.ref a],[]⟩) (fun r s'=>r=.ok (.ret (.bool true))/\OldK s₁.heap s'.heap/\s'.os=s₁.os/\AllBare s'.gens) s₁:=by
 have rv:=AF hi;have V4:=hi.length;have core:∀H:Hp,QS H->g8 K H a (ns.map V.int)->sS P w H s₁.heap->(∀b,H b≠none->b=a)->(H a≠none->K.lookup a=none)->
  codeAny (model P w) callerA (.call (.ref fa) ⟨[.ref a],[]⟩) (fun r s'=>r=.ok (.ret (.bool true))/\OldK s₁.heap s'.heap/\s'.os=s₁.os/\AllBare s'.gens) s₁:=by
  intro H hO hS dD hA hK;have Gv:∀ {b:zc9} {o:Obj},s₁.heap.get? b=some o->H b=none->(Bf s₁.heap H).get? b=some o:=fun e n=>JM e n;have SR:∀ {b:zc9} {o:Obj} {es:Array DictEntry} {ep:Nat},s₁.heap.get? b=some o->o.data=.dict es ep->H b=none:=fun {b o es ep} e d=>by
   cases q:H b with
   |none=>rfl
   |some u=>
    have e':b=a:=hA b (by rw[q];simp);subst e';rw[ha] at e;cases e;have d':Data.seq vs.toArray _=Data.dict es ep:=d;cases d'
  have UQ:∀ {b:zc9} {m:Str->Option zda},s₁.heap.Ns b m->(Bf s₁.heap H).Ns b m:=fun {b m} ⟨o,es,ep,e,d,r⟩=>⟨o,es,ep,Gv e (SR e d),d,r⟩
  have Xq:K.In (Bf s₁.heap H):=fun b o e=>Gv (KX b o e) (by
   cases q:H b with
   |none=>rfl
   |some u=>
    have e':b=a:=hA b (by rw[q];simp);subst e';rw[hK (by rw[q];simp)] at e;cases e)
  have hM:Mod K mg (Bf s₁.heap H):=⟨Xq,UQ UP,⟨mb,UQ hb,R6⟩,let ⟨mc,h1,h2⟩:=VZ;⟨mc,UQ h1,h2⟩⟩
  have e0:zA P w K mg (Bf s₁.heap H) callerA [] s₁ H:=⟨rfl,hM,fun b o e=>ND e,Nat.le_of_eq (HC _ _),trivial,fun b hb=>absurd (show b∈([]:List zc9) from hb) (by simp),dD,.of_eq hg⟩
  refine codeAny_mono ((F _ Xq (UQ UP)).run callerA [] s₁ H ⟨[.ref a],[]⟩ [.ref a] [.ref a] _ _ hr e0 (S4 s₁ (.ref a)) (.cons rfl .nil) (HS H hO hS)) fun r s' h=>?_;cases r with
  |error e=>exact(V0 H e s' h).elim
  |ok fl=>
   cases fl with
   |next=>exact False.elim h
   |brk=>exact False.elim h
   |cont=>exact False.elim h
   |ret u=>
    obtain⟨v,H',os,bare,un,V5,r',q⟩:=h;have q':v=.bl true:=q;subst q';obtain rfl:u=Value.bool true:=r';refine⟨rfl,OldK.of_keep fun b o e=>?_,os,bare⟩;cases q:H b with
    |none=>exact un.keep b o e q (by intro z;exact absurd (show b∈([]:List zc9) from z) (by simp)) (by simp)
    |some u=>
     rcases hO b with z |⟨ob,xs,z⟩
     ·rw[q] at z;cases z
     ·have z2:=un.ot b ob _ z;obtain⟨e1,_⟩:=dD b _ z;obtain⟨e2,_⟩:=V5 b _ z2;rw[e] at e1;cases e1;exact e2
 cases hk:K.lookup a with
 |some o=>
  have e:=KX a o hk;rw[ha] at e;cases e;refine core (fun _=>none) (fun _=>.inl rfl) (.inr ⟨_,vs.toArray,_,hk,rfl,rfl,rfl,by rw[zaq,V4];exact hl,by simpa using rv⟩) (fun b u z=>by have z':(none:Option HO)=some u:=z;cases z') (fun b z=>absurd rfl z) fun z=>absurd rfl z
 |none=>
  refine core (fun b=>if b=a then some (.JK {cls:=.type "list",data:=.seq vs.toArray} (.lst (ns.map V.int))) else none) (fun b=>?_) (.inl (.inr ⟨{cls:=.type "list",data:=.seq vs.toArray},if_pos rfl⟩)) (fun b u z=>?_) (fun b z=>?_) fun _=>hk
  ·by_cases hb:b=a
   ·exact .inr ⟨_,_,if_pos hb⟩
   ·exact .inl (if_neg hb)
  ·by_cases hb:b=a
   ·have z':=(if_pos hb).symm.trans z;cases z';subst hb;exact⟨ha,by rw[zae];exact hl,vs,_,rv,ha⟩
   ·have z':=(if_neg hb).symm.trans z;cases z'
  ·by_cases hb:b=a
   ·exact hb
   ·exact absurd (if_neg hb) z
theorem NU{l:PySem.W.OpenLaw}{n k:Nat}{q:zdl}{loose:List Str}{XP:(Str->Option zda)->Heap->Prop}{YP:zdb->Heap->Prop}{d:DefRec}{K:Params->zac}{CX:zdb->E1}{sp:zdb->Sp}{x:Str}
 (hn:l.most=some n) (UK:n<=zdh) (S2:d.params.defaults=[]) (hr:gi k callerA)
 (hY:∀(w:zdb) (h:Heap),YP w h->(K w.params).In h)
 (F:∀(w:zdb) (mg:Str->Option zda) (fa:zc9) (h:Heap),(K w.params).In h->h.Ns zdg mg->mg d.name=some (.ref fa)->
  ∃fd:zdi,(∀(s:zdj) (u:zda),BindsTo s fd ⟨[u],[]⟩ [(x,u)])/\
   ∀base:Heap,(K w.params).In base->base.Ns zdg mg->bB l.prog w (K w.params) mg base (CX w) k fa fd [x] (sp w))
 (HS:∀(w:zdb) (H:Hp) (a:zc9) (ns:List Int),ns.length<=n->QS H->g8 (K w.params) H a (ns.map V.int)->sp w [.ref a] H (fun v _=>v=.bl true) fun _ _ _=>False)
 (V0:∀(w:zdb) (H:Hp) (s:zdj) (e:zda) (s':zdj),CX w [] H s (fun _ _ _=>False) e s'->False) :
 PySem.W.WalkO q loose XP YP l.row.toRowW d [] (fun f vs=>PySem.call f vs):=by
 refine Xp.CK hn S2 fun w s₀ s₁ mg mb fa o pm cd doc a vs ns G Y ho hd HE S3 QR hints hlen hg=>?_;have KX:=hY w _ Y;obtain⟨fd,hb,hF⟩:=F w mg fa _ KX G.T.g S3;exact Kp KX G.T.g G.T.b G.T.builtins G.T.nolimit hg QR hints (zaB hlen UK) hr hF hb (fun H hO hS=>HS w H a ns hlen hO hS) fun H e s'=>V0 w H s₁ e s'
def inClass (s:Stmt) (j:Nat):Stmt:=match s with
 |.ClassDef _ _ _ body _ _ _ _ _ _ _=>body.getD j (.Pass ⟨0,0,0,0⟩)
 |_=>.Pass ⟨0,0,0,0⟩
def cT (s:Stmt):Arguments:=match s with
 |.FunctionDef _ a _ _ _ _ _ _ _ _=>a
 |_=>{posonlyargs:=[],args:=[],vararg:=none,kwonlyargs:=[],kw_defaults:=[],kwarg:=none,defaults:=[]}
def bb (s:Stmt):List Stmt:=match s with
 |.FunctionDef _ _ b _ _ _ _ _ _ _=>b
 |_=>[]
def aB (s:Stmt):Scope:=match s with
 |.FunctionDef _ _ _ _ _ _ sc _ _ _=>sc
 |_=>{kind:=.function,names:=[],isGenerator:=false,isCoroutine:=false}
abbrev kN:E1:=fun _ _ _ _ _ _=>False
abbrev E0:XK:=fun _ _ _=>False
theorem cn{X:Cx}:Passes kN X E0:=fun _ _ _ _ _ _ _ h=>h.elim
structure Co(K:zac)(x qual:Str)(st:Stmt)(f:zc9)(fd:zdi):Prop where
 ex:∃(oc:zda) (od:Option zc9) (kV doc pm:zda) (an:Option zc9) (eA ct:zda) (Ke:Array (Option zda)),
  fd=zaL x qual (cT st) (bb st) (aB st) .none kV doc pm an eA ct/\K.lookup f=some ⟨oc,od,.func fd,Ke⟩/\za8 K eA qual=true
 kp:zaS K (.ref f)=true
section
variable{P:zdl}{w:zdb}{K:zac}{mg:Str->Option zda}{base:Heap}
theorem Co.ok{x qual:Str}{st:Stmt}{f:zc9}{fd:zdi}{N ps:List Str}{k:Nat}{sp:Sp}(F:Co K x qual st f fd)(S:a8 N ps (aB st))(len:∀vs H Q E,sp vs H Q E->vs.length=ps.length)
 (xn:∀(eA:zda) (A:zdk) (outer:List Env) (s:zdj) (H:Hp) (vs:List V) (Q:VK) (E:XK),gi k (A.deeper (envOfC qual (aB st) s.heap.objs.size f eA))->sp vs H Q E->
  ∃t,EI (j5 kN P w K mg base N qual (aB st) f eA A outer s H E).Sw (bb st) t/\t {nx:=fun _ H'=>Q .dB H',rt:=Q} (start N vs) H):bB P w K mg base kN (k+1) f fd ps sp:=by
 obtain⟨oc,od,kV,doc,pm,an,eA,ct,Ke,rfl,lk,HE⟩:=F.ex;refine O5 lk HE S len fun A outer s H vs Q E hr HS=>?_;obtain⟨t,h,q⟩:=xn eA A outer s H vs Q E hr HS;exact⟨t,h.Sw,q⟩
theorem Co.binds{x qual:Str}{st:Stmt}{f:zc9}{fd:zdi}{ps:List Str}(F:Co K x qual st f fd)
 (h:∀(kV doc pm:zda) (an:Option zc9) (eA ct:zda) (us:List zda),us.length=ps.length->bindArgs (zaL x qual (cT st) (bb st) (aB st) .none kV doc pm an eA ct) ⟨us,[]⟩=pure (ps.zip us)):Binds K fd ps []:=by
 obtain⟨oc,od,kV,doc,pm,an,eA,ct,Ke,rfl,lk,HE⟩:=F.ex;exact .all (h kV doc pm an eA ct)
theorem pT{x qual:Str}{st:Stmt}{f:zc9}{oc:zda}{od an:Option zc9}{Ke:Array (Option zda)}{kV doc pm eA ct:zda}(l:K.lookup f=some ⟨oc,od,.func (zaL x qual (cT st) (bb st) (aB st) .none kV doc pm an eA ct),Ke⟩)
 (c:za8 K eA qual=true) (k:zaS K (.ref f)=true):Co K x qual st f (zaL x qual (cT st) (bb st) (aB st) .none kV doc pm an eA ct):=⟨⟨oc,od,kV,doc,pm,an,eA,ct,Ke,rfl,l,c⟩,k⟩
end
theorem AG{A:zdk}{k:Nat}(hr:gi k A):A.units+1<cLine:=zbP (Nat.add_le_add_left (by decide:1<=64) _) hr.units
theorem AH{n:Nat}(h:n<=1000):n<zdh:=zbP h (by decide)
section
variable{X:Cx}
theorem pv(i:Nat){x:Str}{pos:Pos}(hN:X.N[i]?=some x:=by rfl)(hv:UC X.env.scope x:=by first |exact zam rfl |exact Or.inr (zam rfl) |exact Or.inr (Or.inr rfl))(hd:(x==("__debug__":Str))=false:=by decide)
 (HE:(x==("__classdict__":Str))=false:=by decide):PE X (.Name x pos) (e8 i):=Qj hN hv hd HE
end
theorem bu{c A B:Prop}[Decidable c](h1:c->A)(h2:¬c->B):if c then A else B:=by
 by_cases h:c
 ·rw[if_pos h];exact h1 h
 ·rw[if_neg h];exact h2 h
def ar (H H':Hp):Prop:=∀b o,H b=some o->H' b=some o
theorem ar.refl(H:Hp):ar H H:=fun _ _ h=>h
theorem ar.trans{H H1 H2:Hp}(a:ar H H1)(b:ar H1 H2):ar H H2:=fun c o h=>b c o (a c o h)
theorem ar.free{H H':Hp}(e:ar H H'){l:zc9}(h:H' l=zc8):H l=zc8:=by
 cases q:H l with
 |none=>rfl
 |some o=>
  rw[e l o q] at h;cases h
theorem ar.seq{K:zac}{H H':Hp}{a:zc9}{xs:List V}(e:ar H H')(h:g8 K H a xs):g8 K H' a xs:=by
 rcases h with (h |⟨o,h⟩) |h
 ·exact .inl (.inl (e _ _ h))
 ·exact .inl (.inr ⟨o,e _ _ h⟩)
 ·exact .inr h
section
variable{κ:Type}[DecidableEq κ]
def eB (bg:List (κ×V)) (k:κ):Option V:=(bg.find? fun kv=>decide (kv.1=k)).map (·.2)
def putK (bg:List (κ×V)) (k:κ) (v:V):List (κ×V):=
 if (bg.any fun kv=>decide (kv.1=k))=true then bg.map (fun kv=>if kv.1=k then (kv.1,v) else kv) else bg++[(k,v)]
theorem dE{p:κ×V}{r:List (κ×V)}{k:κ}(e:p.1=k):eB (p::r) k=some p.2:=by simp[eB,zby,e]
theorem dF{p:κ×V}{r:List (κ×V)}{k:κ}(e:¬p.1=k):eB (p::r) k=eB r k:=by simp[eB,zby,e]
theorem nO(k:κ):∀bg:List (κ×V),(bg.any fun kv=>decide (kv.1=k))=(eB bg k).isSome
 |[]=>rfl
 |p::r=>by
  rw[zbX];by_cases e:p.1=k
  ·simp only[dE e,decide_eq_true e,Bool.true_or,Option.isSome_some]
  ·rw[dF e,decide_eq_false e,Bool.false_or];exact nO k r
theorem CL(k j:κ)(y:V):∀bg:List (κ×V),eB (bg.map fun kv=>if kv.1=k then (kv.1,y) else kv) j=(eB bg j).map fun x=>if j=k then y else x
 |[]=>rfl
 |p::r=>by
  have ih:=CL k j y r;rw[zaw];by_cases h:p.1=k
  ·rw[if_pos h];by_cases e:p.1=j
   ·rw[dE (p:=(p.1,y)) e,dE e,zbk,if_pos (e.symm.trans h)]
   ·rw[dF (p:=(p.1,y)) e,dF e,ih]
  ·rw[if_neg h];by_cases e:p.1=j
   ·rw[dE (p:=p) e,dE e,zbk,if_neg (fun z=>h (e.trans z))]
   ·rw[dF (p:=p) e,dF e,ih]
theorem AI(k j:κ)(y:V):∀bg:List (κ×V),eB bg k=none->eB (bg++[(k,y)]) j=if j=k then some y else eB bg j
 |[],_=>by
  by_cases e:k=j
  ·rw[if_pos e.symm];exact dE (p:=(k,y)) e
  ·rw[if_neg (fun z=>e z.symm)];exact dF (p:=(k,y)) e
 |p::r,hn=>by
  rw[zaZ];have hk:¬p.1=k:=fun z=>by rw[dE z] at hn;cases hn
  rw[dF hk] at hn;have ih:=AI k j y r hn;by_cases e:p.1=j
  ·rw[dE e,dE e,if_neg (fun z=>hk (e.trans z))]
  ·rw[dF e,dF e,ih]
theorem CM(bg:List (κ×V))(k j:κ)(y:V):eB (putK bg k y) j=if j=k then some y else eB bg j:=by
 unfold putK;by_cases a:(bg.any fun kv=>decide (kv.1=k))=true
 ·rw[if_pos a,CL];rw[nO] at a;by_cases e:j=k
  ·obtain⟨x,hx⟩:=zct.mp a;rw[if_pos e,e,hx,zbk,if_pos rfl]
  ·rw[if_neg e];cases eB bg j with
   |none=>rfl
   |some x=>rw[zbk,if_neg e]
 ·rw[if_neg a];refine AI k j y bg ?_;rw[nO] at a;cases q:eB bg k with
  |none=>rfl
  |some x=>rw[q] at a;exact(a rfl).elim
theorem pK.AJ{o:Option V}{u:Option zda}(r:pK o u):o.isSome=u.isSome:=by
 cases o with
 |none=>cases u with
  |none=>rfl
  |some _=>exact(show False from r).elim
 |some _=>cases u with
  |none=>exact(show False from r).elim
  |some _=>rfl
theorem pK.getD{o:Option V}{u:Option zda}{d:V}{d':zda}(r:pK o u)(rd:RelV d d'):RelV (o.getD d) (u.getD d'):=by
 cases o with
 |none=>cases u with
  |none=>exact rd
  |some _=>exact(show False from r).elim
 |some _=>cases u with
  |none=>exact(show False from r).elim
  |some _=>exact r
theorem KV.val{bg:List (κ×V)}{vs:List (κ×zda)}(r:KV bg vs)(k:κ):pK (eB bg k) (valueAt vs k):=by
 unfold KV at r
 induction r with
 |nil=>exact True.intro
 |@cons p q ps qs h t ih=>
  obtain⟨h1,h2⟩:=h;by_cases e:p.1=k
  ·have e':q.1=k:=h1.symm.trans e;have b:valueAt (q::qs) k=some q.2:=by simp[valueAt,zby,e']
   rw[dE e,b];exact h2
  ·have e':¬q.1=k:=fun z=>e (h1.trans z);have b:valueAt (q::qs) k=valueAt qs k:=by simp[valueAt,zby,e']
   rw[dF e,b];exact ih
theorem KV.any{bg:List (κ×V)}{vs:List (κ×zda)}(r:KV bg vs)(k:κ):(bg.any fun kv=>decide (kv.1=k))=vs.any fun kv=>decide (kv.1=k):=by
 unfold KV at r
 induction r with
 |nil=>rfl
 |cons h t ih=>rw[zbX,zbX,ih,h.1]
theorem KV.QT{bg:List (κ×V)}{vs:List (κ×zda)}(r:KV bg vs)(k:κ){y:V}{u:zda}(ry:RelV y u) :
 KV (bg.map fun kv=>if kv.1=k then (kv.1,y) else kv) (vs.map fun kv=>if kv.1=k then (kv.1,u) else kv):=by
 unfold KV at r ⊢
 induction r with
 |nil=>exact .nil
 |@cons p q ps qs h t ih=>
  rw[zaw,zaw];refine .cons ?_ ih;obtain⟨h1,h2⟩:=h;by_cases e:p.1=k
  ·rw[if_pos e,if_pos (h1.symm.trans e)];exact⟨h1,ry⟩
  ·rw[if_neg e,if_neg (fun z=>e (h1.trans z))];exact⟨h1,h2⟩
theorem KV.put{bg:List (κ×V)}{vs:List (κ×zda)}(r:KV bg vs)(k:κ){y:V}{u:zda}(ry:RelV y u):KV (putK bg k y) (stored vs k u):=by
 unfold putK stored;rw[r.any k];by_cases e:(vs.any fun kv=>decide (kv.1=k))=true
 ·rw[if_pos e,if_pos e];exact r.QT k ry
 ·rw[if_neg e,if_neg e];exact Paired.snoc r ⟨rfl,ry⟩
theorem KV.length{bg:List (κ×V)}{vs:List (κ×zda)}(r:KV bg vs):bg.length=vs.length:=Paired.length r
end
theorem Kq{P:zdl}{w:zdb}{k:Key}{u:zda}(r:RelV (kV k) u):(eU P w).is k u=true:=by
 cases k with
 |inl i=>obtain⟨t,e⟩:=(show ∃t,u=Value.int i t from r);subst e;exact Cs P w i t
 |inr x=>obtain⟨t,e⟩:=(show ∃t,u=Value.str x t from r);subst e;exact Ct P w x t
abbrev KT (H:Hp):List (List Key×V)->List (List Key×zc9×zda)->Prop:=Paired fun p q=>p.1=q.1/\H q.2.1=some (.tup (p.1.map kV))/\RelV p.2 q.2.2
theorem KT.val{H:Hp}{bg:List (List Key×V)}{xs:List (List Key×zc9×zda)}(r:KT H bg xs)(k:List Key):pK (eB bg k) ((atKey xs k).map (·.2)):=by
 induction r with
 |nil=>exact True.intro
 |@cons p q ps qs h t ih=>
  obtain⟨h1,_,h2⟩:=h;by_cases e:p.1=k
  ·have e':q.1=k:=h1.symm.trans e;have b:atKey (q::qs) k=some q.2:=by simp[atKey,zby,e']
   rw[dE e,b];exact h2
  ·have e':¬q.1=k:=fun z=>e (h1.trans z);have b:atKey (q::qs) k=atKey qs k:=by simp[atKey,zby,e']
   rw[dF e,b];exact ih
theorem KT.QT{H:Hp}{bg:List (List Key×V)}{xs:List (List Key×zc9×zda)}(r:KT H bg xs)(k:List Key){y:V}{u:zda}(ry:RelV y u) :
 KT H (bg.map fun kv=>if kv.1=k then (kv.1,y) else kv) (xs.map (putAt k u)):=by
 induction r with
 |nil=>exact .nil
 |@cons p q ps qs h t ih=>
  rw[zaw,zaw];refine .cons ?_ ih;obtain⟨h1,h2,h3⟩:=h;unfold putAt;by_cases e:p.1=k
  ·rw[if_pos e,if_pos (h1.symm.trans e)];exact⟨h1,h2,ry⟩
  ·rw[if_neg e,if_neg (fun z=>e (h1.trans z))];exact⟨h1,h2,h3⟩
theorem KT.put{H:Hp}{bg:List (List Key×V)}{xs:List (List Key×zc9×zda)}(r:KT H bg xs)(k:List Key){b:zc9}{y:V}{u:zda}(hb:H b=some (.tup (k.map kV)))(ry:RelV y u) :
 KT H (putK bg k y) (storedH xs k b u):=by
 have e:(bg.any fun kv=>decide (kv.1=k))=(atKey xs k).isSome:=by
  rw[nO,(r.val k).AJ,Option.isSome_map]
 unfold putK storedH;rw[e];by_cases q:(atKey xs k).isSome=true
 ·rw[if_pos q,if_pos q];exact r.QT k ry
 ·rw[if_neg q,if_neg q];exact Paired.snoc r ⟨rfl,hb,ry⟩
def E9 (H:Hp) (a:zc9) (y:V) (r:Option V):Prop:=
 (∃bg k,Rd H a (.dK bg)/\y=kV k/\r=eB bg k)\/∃bg k b,Rd H a (.dT bg)/\y=.ref b/\H b=some (.tup (k.map kV))/\r=eB bg k
def NV (H:Hp) (a:zc9) (y v:V) (H':Hp):Prop:=
 (∃bg k,H a=some (.dK bg)/\y=kV k/\bg.length<zdh/\H'=upd H a (.dK (putK bg k v)))\/
 ∃bg k b,H a=some (.dT bg)/\y=.ref b/\H b=some (.tup (k.map kV))/\bg.length<zdh/\H'=upd H a (.dT (putK bg k v))
theorem E9.k{H:Hp}{a:zc9}{bg:List (Key×V)}{k:Key}(e:H a=some (.dK bg)):E9 H a (kV k) (eB bg k):=.inl ⟨bg,k,.inl e,rfl,rfl⟩
theorem NV.k{H:Hp}{a:zc9}{bg:List (Key×V)}{k:Key}{v:V}(e:H a=some (.dK bg))(hl:bg.length<zdh):NV H a (kV k) v (upd H a (.dK (putK bg k v))):=.inl ⟨bg,k,e,rfl,hl,rfl⟩
section
variable{X:Cx}{pins:List (zc9×Obj)}{σ:St}{H:Hp}{s:zdj}{a:zc9}{y v:V}{u r:zda}{o:Option V}{A:zdk}{E:zda->zdj->Prop}
theorem Gw{h':Heap}{t':Nat}{ob:HO}(I:Inv X pins σ H s)(mu:Sm (H a))(hs:Heap.SameBut a s.heap h')(he:∃q,h'.get? a=some q)(new:dN X.prog X.w (upd H a ob) h' a ob) :
 Inv X pins σ (upd H a ob) {s with heap:=h',toks:=t' }:=
 I.write (x:=a) (e:=a) mu (.inl rfl) (fun b q hb z=>(hs.2 b hb).trans z) he new
end
def S5 (td ty:TE):TE:=fun σ H Q=>td σ H fun x H1=>ty σ H1 fun y H2=>∃a v,x=.ref a/\E9 H2 a y (some v)/\Q v H2
def S6 (td ty tv:TE):TS:=fun D σ H=>tv σ H fun v H1=>td σ H1 fun x H2=>ty σ H2 fun y H3=>∃a H4,x=.ref a/\NV H3 a y v H4/\D.nx σ H4
def QU:TE:=fun _ H Q=>∀p,H p=none->Q (.ref p) (upd H p (.dK []))
structure M2(X:Cx)(o:Expr)(m:Str)(apos:Pos)(e f:Expr)(iP:Pos):Prop where
 base:attributeBase o m X.env (eval o X.env)=eval o X.env
 Nu:((backTo iP (zdf [e,f] X.env)).all (fun x=>!x.1)&&(backToKw iP (keywordEach [] X.env)).all (fun x=>x.1.isSome)
  && decide (([e,f]:List Expr).length+([]:List Keyword).length+(if ([]:List Keyword).isEmpty then 0 else 1)<30))=true
 line:(apos.endLine==iP.line)=true
 trees:backTo iP (zdf [e,f] X.env)=[(false,eval e X.env),(false,eval f X.env)]
def uF (env:Env):List (Str×NameKind)->List (Str×zc9)->List (Str×zc9)
 |[],cs=>cs
 |(n,k)::r,cs=>uF env r (if k==.free then (n,(env.cells.lookup n).getD 0)::cs else cs)
theorem v5{scope:Scope}{env:Env}(h:∀p∈scope.names,p.2=.free->∃c,env.cells.lookup p.1=some c):closureFor scope env=pure (uF env scope.names []):=by
 have all:∀(l:List (Str×NameKind)) (cs:List (Str×zc9)),(∀p∈l,p.2=.free->∃c,env.cells.lookup p.1=some c)->
  (forIn l cs fun (x:Str×NameKind) (r:List (Str×zc9))=>if (x.2==NameKind.free)=true then do let a <- cellOf env x.1;pure (ForInStep.yield ((x.1,a)::r)) else (pure (ForInStep.yield r):Sem _))=pure (uF env l cs):=by
  intro l
  induction l with
  |nil=>intro cs _;rfl
  |cons p r ih=>
   intro cs hp;obtain⟨n,k⟩:=p;rw[zcH];by_cases hk:k=.free
   ·subst hk;obtain⟨c,e⟩:=hp (n,.free) zaE rfl;have e1:cellOf env n=pure c:=by unfold cellOf;rw[e]
    simp only[beq_self_eq_true,if_true,e1,pure_bind];rw[ih _ fun p NW=>hp p (zas _ NW)];simp[uF,e]
   ·have hb:(k==NameKind.free)=false:=by simpa using hk
    simp only[hb,zbc,if_false,pure_bind];rw[ih _ fun p NW=>hp p (zas _ NW)];simp[uF,hb]
 simp only[closureFor];rw[all scope.names [] h];simp
theorem tj{env:Env}{x:Str}{c:zc9}:∀ {l:List (Str×NameKind)} {cs:List (Str×zc9)},(∀p∈l,p.2=.free->∃c,env.cells.lookup p.1=some c)->(∀x c,cs.lookup x=some c->env.cells.lookup x=some c)->
 (uF env l cs).lookup x=some c->env.cells.lookup x=some c
 |[],_,_,h,e=>h x c e
 |(n,k)::r,cs,hp,h,e=>by
  unfold uF at e;refine tj (fun p q=>hp p (zas _ q)) ?_ e;intro y d q;by_cases hk:k=.free
  ·subst hk;obtain⟨c',e'⟩:=hp (n,.free) zaE rfl;simp only[beq_self_eq_true,if_true] at q;rw[zbd] at q;cases hy:y==n with
   |true=>
    rw[hy] at q;have:y=n:=by simpa using hy
    subst this;simp only at e';rw[e'] at q ⊢;exact q
   |false=>rw[hy] at q;exact h y d q
  ·have hb:(k==NameKind.free)=false:=by simpa using hk
   simp only[hb,zbc,if_false] at q;exact h y d q
theorem xt{env:Env}{x:Str}:∀ {l:List (Str×NameKind)} {cs:List (Str×zc9)},((∃c,cs.lookup x=some c)\/(x,NameKind.free)∈l)->∃c,(uF env l cs).lookup x=some c
 |[],_,h=>by
  rcases h with h |h
  ·exact h
  ·exact absurd h (by simp)
 |(n,k)::r,cs,h=>by
  unfold uF
  apply xt
  rcases h with ⟨c,h⟩ |h
  ·left
   by_cases hk:k=.free
   ·subst hk;simp only[beq_self_eq_true,if_true];rw[zbd];cases hy:x==n with
    |true=>exact⟨_,rfl⟩
    |false=>exact⟨c,h⟩
   ·have hb:(k==NameKind.free)=false:=by simpa using hk
    simp only[hb,zbc,if_false];exact⟨c,h⟩
  ·rcases zaj.mp h with e |h
   ·injection e with e1 e2
    subst e1;subst e2
    left
    simp only[beq_self_eq_true,if_true];rw[zbd];simp
   ·exact .inr h
theorem pU{scope:Scope}{env:Env}{x:Str}:(relabel scope env).names.lookup x=(scope.names.lookup x).map fun k=>if (k==NameKind.free&&env.scope.kind==.function&&env.kindOf x==some .cell)=true then .cell else k:=by
 unfold relabel;show zbD x (scope.names.map _)=_;generalize scope.names=l
 induction l with
 |nil=>rfl
 |cons p r ih=>
  obtain⟨n,k⟩:=p;rw[zaw,zbd (as:=r)];show zbD x ((if (k==NameKind.free&&env.scope.kind==.function&&env.kindOf n==some .cell)=true then (n,NameKind.cell) else (n,k))::_)=_;cases hx:x==n with
  |true=>
   have e:x=n:=by simpa using hx
   subst e;by_cases hc:(k==NameKind.free&&env.scope.kind==.function&&env.kindOf x==some .cell)=true
   ·rw[if_pos hc];simp only[zbd,beq_self_eq_true,zbk];rw[if_pos hc]
   ·rw[if_neg hc];simp only[zbd,beq_self_eq_true,zbk];rw[if_neg hc]
  |false=>
   by_cases hc:(k==NameKind.free&&env.scope.kind==.function&&env.kindOf n==some .cell)=true
   ·rw[if_pos hc];simp only[zbd,hx];exact ih
   ·rw[if_neg hc];simp only[zbd,hx];exact ih
theorem mem_of_lookup{x:Str}{k:NameKind}:∀ {l:List (Str×NameKind)},l.lookup x=some k->(x,k)∈l
 |[],h=>by simp at h
 |(n,j)::r,h=>by
  rw[zbd] at h;cases hx:x==n with
  |true=>
   rw[hx] at h;have e:x=n:=by simpa using hx
   cases h;subst e;exact zaE
  |false=>rw[hx] at h;exact zas _ (mem_of_lookup h)
def mB (sc out:Scope):Bool:=
 (sc.names.all fun p=>p.2 != .cell&&(p.2 != .free ||out.names.lookup p.1==some .cell ||out.names.lookup p.1==some .free)&&(p.2 != .local ||sc.names.lookup p.1==some .local))&&decide (sc.kind=.function)
def Bo (sc out:Scope) (N:List Str) (ix:List Nat):Bool:=
 ix.all fun i=>sc.names.lookup (N.getD i "")==some .free&&(out.names.lookup (N.getD i "")==some .cell ||out.names.lookup (N.getD i "")==some .free)
def Kr (σ:St) (ix:List Nat):St:=ix.map fun i=>σ.getD i none
abbrev Gx (N:List Str) (ix:List Nat):List Str:=ix.map fun i=>N.getD i ""
def oX (X:Cx) (scope:Scope) (own:List Str) (ix:List Nat) (C:zc9) (s₀:zdj) (H₀:Hp) (ex:List zc9):Cx where
 prog:=X.prog
 w:=X.w
 K:=X.K
 mg:=X.mg
 base:=X.base
 A:=X.A
 N:=own++Gx X.N ix
 s₀:=s₀
 H₀:=H₀
 env:=compEnvC scope (uF X.env scope.names []) C X.env
 outer:=X.stack
 stack:=X.stack
 ex:=ex
 fn:=fun _=>false
 calm:=X.calm
 pn:=[]
 xe:=fun _ _=>False
section
variable{X:Cx}{pins:List (zc9×Obj)}{σ:St}{H:Hp}{s:zdj}
theorem pV{sc out:Scope}(h:mB sc out=true):∀p∈sc.names,p.2≠.cell/\(p.2=.free->out.names.lookup p.1=some .cell\/out.names.lookup p.1=some .free)/\(p.2=.local->sc.names.lookup p.1=some .local):=by
 intro p hp;unfold mB at h;rw[zaJ] at h;have:=za0.mp h.1 p hp;simp only[zaJ,Bool.or_eq_true,bne_iff_ne,beq_iff_eq,ne_eq] at this;obtain⟨⟨h1,h2⟩,h3⟩:=this;refine⟨h1,fun e=>?_,fun e=>?_⟩
 ·rcases h2 with (h2 |h2) |h2
  ·exact absurd e h2
  ·exact .inl h2
  ·exact .inr h2
 ·rcases h3 with h3 |h3
  ·exact absurd e h3
  ·exact h3
theorem oB{sc out:Scope}(h:mB sc out=true):sc.kind=.function:=by
 unfold mB at h;rw[zaJ] at h;exact of_decide_eq_true h.2
theorem NX{scope:Scope}{own:List Str}{ix:List Nat}{ex:List zc9}(I:Inv X pins σ H s)(hf:mB scope X.env.scope=true)(hx:∀b∈ex,rM X pins H b/\b<s.heap.objs.size):(oX X scope own ix s.heap.objs.size s H ex).Ok:=by
 have fits:=(pV hf)
 have sU:∀p∈scope.names,p.2=.free->∃c,X.env.cells.lookup p.1=some c:=fun p hp e=>I.ok.has p.1 ((fits p hp).2.1 e);have sub:∀ {x:Str} {c:zc9},(uF X.env scope.names []).lookup x=some c->X.env.cells.lookup x=some c:=fun {x c} e=>tj sU (fun x c e=>by simp at e) e;refine⟨I.ok.mod,(show scope.kind=.function from oB hf),I.ok.glob,I.ok.blt,zai _,fun x y c a b=>I.ok.inj x y c (sub a) (sub b),fun x hk=>?_,fun x c e=>(by cases e),I.ok.hd,I.ok.frames,.inl rfl,fun b hb=>⟨zaG (hx b hb).2,fun x c e=>(hx b hb).1.2.2.2.2.1 x c (sub e)⟩,I.bs,zaB I.ok.EN I.sz,fun b o e hb=>?_,fun b hb hs=>?_,I.stack,I.wD⟩
 ·refine xt (.inr ?_);have R7:(relabel scope X.env).names.lookup x=some .cell\/(relabel scope X.env).names.lookup x=some .free:=hk;rw[pU] at R7;cases q:scope.names.lookup x with
  |none=>rw[q] at R7;rcases R7 with z |z<;>cases z
  |some k=>
   have hm:=mem_of_lookup q;by_cases V6:k=.free
   ·subst V6;exact hm
   ·rw[q] at R7;have hb:(k==NameKind.free)=false:=by simpa using V6
    simp only[zbk,hb,Bool.false_and,zbc,if_false,zav.injEq] at R7;rcases R7 with z |z
    ·exact absurd z (fits _ hm).1
    ·exact absurd z V6
 ·rcases(hx b hb).1.2.2.2.1 with z |z
  ·exact I.ok.Bg b o e z
  ·exact absurd (zaD (Heap.lt_size e) (zaB I.ok.EN z)) (zbz _)
 ·rcases zaj.mp (I.uw b hs) with z |z
  ·exact(hx b hb).1.2.1 z
  ·exact(hx b hb).1.2.2.1 z
theorem Ks{scope:Scope}{own:List Str}{ix:List Nat}{ex:List zc9}{h':Heap}{tk:Nat}(I:Inv X pins σ H s)(hf:mB scope X.env.scope=true)(hc:Bo scope X.env.scope X.N ix=true)(hx:∀b∈ex,rM X pins H b/\b<s.heap.objs.size)
 (hn:h'.Ns s.heap.objs.size fun _=>none) (hk:∀b o,s.heap.get? b=some o->h'.get? b=some o):Inv (oX X scope own ix s.heap.objs.size s H ex) [] (zan own.length none++Kr σ ix) H {s with heap:=h',toks:=tk}:=by
 have fits:=(pV hf)
 have sU:∀p∈scope.names,p.2=.free->∃c,X.env.cells.lookup p.1=some c:=fun p hp e=>I.ok.has p.1 ((fits p hp).2.1 e);have sub:∀ {x:Str} {c:zc9},(uF X.env scope.names []).lookup x=some c->X.env.cells.lookup x=some c:=fun {x c} e=>tj sU (fun x c e=>by simp at e) e;refine⟨NX I hf hx,rfl,I.bare,Un.kept hk,⟨_,hn,fun i x v e1 e2 e3=>?_⟩,fun x c e=>?_,I.dD.fresh (zai _),fun x c e=>I.jK x c (sub e),fun p hp=>absurd (show p∈([]:List (zc9×Obj))++[] from hp) (by simp),I.dD.kept hk,?_⟩
 ·have e1:(own++Gx X.N ix)[i]?=some x:=e1;by_cases hi:i<own.length
  ·rw[zbp (by simpa using hi),zcD,if_pos hi] at e2;cases e2
  ·have O8:own.length<=i:=Nat.le_of_not_lt hi;rw[za5 (by simpa using O8),zbo] at e2;rw[za5 O8] at e1;unfold Kr at e2;unfold Gx at e1;rw[zaF] at e1 e2;cases q:ix[i-own.length]? with
   |none=>rw[q] at e2;cases e2
   |some j=>
    rw[q] at e1 e2;simp only[zbk,zav.injEq] at e1 e2;have hj:j∈ix:=zbr q;have fit:=za0.mp hc j hj;simp only[zaJ,Bool.or_eq_true,beq_iff_eq] at fit;rw[e1] at fit;have ej:σ[j]?=some (some v):=by
     rw[zaA] at e2;cases r:σ[j]? with
     |none=>rw[r] at e2;cases e2
     |some z=>rw[r] at e2;simp only[Option.getD_some] at e2;rw[e2]
    have YX:j<X.N.length:=by rw[<- I.len];exact(zap.mp ej).1
    have en:X.N[j]?=some x:=by
     rw[zaA] at e1;rw[zag YX] at e1 ⊢;simp only[Option.getD_some] at e1;rw[e1]
    obtain⟨m,hm,hl⟩:=I.loc;have hv:UC X.env.scope x:=by
     rcases fit.2 with z |z
     ·exact .inr (.inl z)
     ·exact .inr (.inr z)
    obtain⟨u,r,l⟩:=hl j x v en ej hv;refine⟨u,r,.inr ⟨?_,?_⟩⟩
    ·show (relabel scope X.env).names.lookup x=some .cell\/(relabel scope X.env).names.lookup x=some .free;rw[pU,fit.1];simp only[zbk];split
     ·exact .inl rfl
     ·exact .inr rfl
    ·rcases l with ⟨k1,_⟩ |⟨_,c,ec,Gd⟩
     ·have k1:X.env.scope.names.lookup x=some .local:=k1;rcases fit.2 with z |z<;>(rw[z] at k1;cases k1)
     ·obtain⟨c',e'⟩:∃c,(uF X.env scope.names []).lookup x=some c:=xt (.inr (mem_of_lookup fit.1));have:=sub e';rw[ec] at this;cases this;exact⟨c,e',Gd.keeps hk⟩
 ·obtain⟨v,z⟩:=I.cell x c (sub e);exact⟨v,z.keeps hk⟩
 ·show (zan own.length none++Kr σ ix).length=(own++Gx X.N ix).length;simp[Kr]
theorem comp_back{scope:Scope}{own:List Str}{ix:List Nat}{ex:List zc9}{τ:St}{H':Hp}{s':zdj}{vt:List (zc9×Obj)}(I:Inv X pins σ H s)(hx:∀b∈ex,rM X pins H b/\b<s.heap.objs.size)
 (I':Inv (oX X scope own ix s.heap.objs.size s H ex) vt τ H' s'):Inv X pins σ H' s'/\H' s.heap.objs.size=none/\s.heap.objs.size≠X.env.locals/\X.s₀.heap.objs.size<=s.heap.objs.size/\(∀x c,X.env.cells.lookup x=some c->c≠s.heap.objs.size)/\∀p∈X.pn++pins,p.1≠s.heap.objs.size:=by
 refine⟨I.OX (ch:=ex) I'.os I'.base I'.dD I'.bare fun b hb=>?_,I'.free,zc6 I.lt,I.sz,fun x c e z=>?_,fun p hp z=>?_⟩
 ·obtain⟨f0,f1,f2,f3,f4,f5⟩:=(hx b hb).1;exact⟨f3,f1,f4,f5⟩
 ·obtain⟨v,q⟩:=I.cell x c e;exact absurd q.lt (by rw[z];exact zbz _)
 ·exact absurd (Heap.lt_size (I.pin p hp).1) (by rw[z];exact zbz _)
end
def S7 (X:Cx) (ifs:List Expr) (t:TT):Prop:=
 ∀(pins:List (zc9×Obj)) (s:zdj) (σ:St) (H:Hp) (Q:Bool->Hp->Prop),Inv X pins σ H s->t σ H Q->
  wpAny (model X.prog X.w) X.A (forIn ifs true fun c r=>if r=true then do let ok <- isTrue c X.env (eval c X.env);pure (ForInStep.yield ok) else pure (ForInStep.yield r)) (TP X pins σ Q) X.xe s
def Kt:TT:=fun _ H Q=>Q true H
theorem wG{X:Cx}:S7 X [] Kt:=fun _ _ _ H _ I h=>wpAny_tests_nil ⟨H,I,h⟩
theorem NY{X:Cx}{c:Expr}{t:TT}(h:PT X c t):S7 X [c] t:=fun pins s σ H Q I q=>wpAny_tests_one (h pins s σ H Q I q)
def vC (J:It) (D:zc9) (g:TG) (tc:TT) (te:TE) (Q:VK) (τ:St) (H:Hp):Prop:=∃W:Nat->Nat->St->Hp->Prop,(∃m,W 0 m τ H)/\∀i m τ H,W i m τ H->
 (J.stop i H/\Q (.ref D) H)\/(J.go i H/\∃N:St->Hp->Prop,(∀τ' H',N τ' H'->∃m',m'<m/\W (i+1) m' τ' H')/\∀x H',J.HF i H x H'->g x τ H' fun τ2 H2=>tc τ2 H2 fun b H3=>if b=true then
  te τ2 H3 fun y H4=>∃ys,H4 D=some (.lst ys)/\ys.length<zdh/\N τ2 (upd H4 D (.lst (ys++[y]))) else N τ2 H3)
def Gy (wi:TI) (k:Nat) (ix:List Nat) (g:TG) (tc:TT) (te:TE):TE:=fun σ H Q=>wi σ H fun J H1=>∀D,H1 D=none->vC J D g tc te Q (zan k none++Kr σ ix) (upd H1 D (.lst []))
section
variable{X:Cx}{tg iter elt:Expr}{ifs:List Expr}{scope:Scope}{pos:Pos}{own:List Str}{ix:List Nat}{wi:TI}{g:TG}{tc:TT}{te:TE}
theorem HW{it D:zc9}{fp:List zc9}{tn:Nat->Heap->Prop}{J:It}{Q:VK}{R:Result->zdj->Prop}{s:zdj}{τ:St}{H:Hp}(vD:X.calm=true)(YY:X.xe=fun _ _=>False)(hpn:X.pn=[])(T:Turn X.prog X.w X.K tg J fp it tn)
 (he:PE X elt te) (hg:PG X tg g) (ht:S7 X ifs tc) (I:Inv X [] τ H s) (Xr:∀b∈fp,rM X [] H b) (h0:tn 0 s.heap) (hW:vC J D g tc te Q τ H)
 (hR:∀τ' H' s',Inv X [] τ' H' s'->Q (.ref D) H'->R (.ok .next) s') :
 codeAny (model X.prog X.w) X.A (.compLoop (.ListComp elt [⟨tg,iter,ifs,0⟩] scope pos) 0 (.ref it) (.ref D) X.env) R s:=by
 obtain⟨W,⟨m0,w0⟩,turn⟩:=hW;have no:∀ {E:zda->zdj->Prop} (e:zda) (s':zdj),X.xe e s'->E e s':=fun e s' z=>by rw[YY] at z;exact z.elim
 have stat:∀ {H':Hp},(∀b∈fp,H' b=none)->∀b∈fp,rM X [] H' b:=fun hn b hb=>⟨hn b hb,(Xr b hb).2⟩
 refine codeAny_loop rfl (fun n s'=>∃i τ' H',Inv X [] τ' H' s'/\tn i s'.heap/\(∀b∈fp,H' b=none)/\W i n τ' H') (fun n s3 hI=>?_) m0 ⟨0,τ,H,I,h0,fun b hb=>(Xr b hb).1,w0⟩;obtain⟨i,τ3,H3,I3,O3,SE,w3⟩:=hI;show wpAny _ X.A ((compTurn (.ListComp elt [⟨tg,iter,ifs,0⟩] scope pos) 0 (.ref it) (.ref D) X.env).onRaise (fun x=>do noteFrame x X.env;theTreesLotGoes x)) _ _ s3;refine wpAny_noted ?_;rw[compTurn_list];refine zdc (wpAny_standAt (zdc ?_));rcases turn i n τ3 H3 w3 with ⟨stop,q⟩ |⟨go,N,hN,step⟩
 ·refine wpAny_mono (T.done X rfl rfl rfl vD i [] s3 τ3 H3 X.xe I3 (stat SE) O3 stop) (fun r s4 zqz=>?_) no;obtain⟨hr,I4⟩:=zqz;subst hr;exact zdd (hR τ3 H3 s4 I4 q)
 ·refine wpAny_mono (T.item X rfl rfl rfl vD i [] s3 τ3 H3 X.xe I3 (stat SE) O3 go) (fun r s4 zqz=>?_) no;obtain⟨u,hr,h4⟩:=zqz;subst hr;refine zdc (wpAny_mono h4 (fun _ s5 zqz=>?_) no);obtain⟨x,H5,I5,r5,y5,Qu,VB⟩:=zqz;have VC:=I5.pinned (stat VB) (T.obj _ _ Qu);refine zdc (wpAny_mono (hg _ s5 τ3 H5 x u _ VC r5 (step x H5 y5)) (fun _ s6 zqz=>?_) no);obtain⟨τ6,H6,I6,q6⟩:=zqz;refine zdc (wpAny_mono (ht _ s6 τ6 H6 _ I6 q6) (fun b s7 zqz=>?_) no);obtain⟨H7,I7,q7⟩:=zqz;have again:∀ {τ7:St} {H7:Hp} {s7:zdj},Inv X ([]++w8 fp s5.heap) τ7 H7 s7->N τ7 H7->∃m,m<n/\∃i σ' H',Inv X [] σ' H' s7/\tn i s7.heap/\(∀b∈fp,H' b=none)/\W i m σ' H':=fun {τ7 H7 s7} I7 n7=>by
   obtain⟨m',hm,w7⟩:=hN τ7 H7 n7;refine⟨m',hm,i+1,τ7,H7,I7.nK,T.keep _ _ _ Qu fun b hb o e=>(I7.pin (b,o) (zaP _ (zaP _ (oy hb e)))).1,fun b hb=>?_,w7⟩;obtain⟨o,e,d⟩:=T.obj _ _ Qu b hb;exact(I7.pin (b,o) (zaP _ (zaP _ (oy hb e)))).2.1
  cases b with
  |false=>exact zdd ⟨rfl,again I7 q7⟩
  |true=>
   refine zdc (zdc (wpAny_mono (he _ s7 τ6 H7 _ I7 q7) (fun v s8 ⟨y,H8,I8,r8,ys,hD,hl,q8⟩=>zdc ?_) no));refine wpAny_mono (c6 _ s8 τ6 H8 (.ref D) [y] (.ref D) [v] (fun _ H'=>N τ6 H') I8 rfl (.cons r8 .nil) ⟨D,ys,y,rfl,rfl,hD,hl,q8⟩) (fun _ s9 zqz=>?_) no;obtain⟨_,H9,I9,_,q9⟩:=zqz;exact zdd (zdd ⟨rfl,again I9 q9⟩)
theorem Ku{pins:List (zc9×Obj)}{s:zdj}{σ:St}{H:Hp}{Q:VK}{use:Option (zda->Sem Unit)}{Q':zda->zdj->Prop}(vD:X.calm=true)(hf:mB scope X.env.scope=true)(hc:Bo scope X.env.scope X.N ix=true)
 (hi:PI X tg iter wi) (hg:∀C s₀ H₀ ex,PG (oX X scope own ix C s₀ H₀ ex) tg g) (ht:∀C s₀ H₀ ex,S7 (oX X scope own ix C s₀ H₀ ex) ifs tc) (he:∀C s₀ H₀ ex,PE (oX X scope own ix C s₀ H₀ ex) elt te)
 (I:Inv X pins σ H s) (h:Gy wi own.length ix g tc te σ H Q)
 (hU:∀(D C:zc9) (H':Hp) (s':zdj) (m:Str->Option zda),Inv X pins σ H' s'->Q (.ref D) H'->s'.heap.Ns C m->H' C=none->C≠X.env.locals->X.s₀.heap.objs.size<=C->(∀x c,X.env.cells.lookup x=some c->c≠C)->(∀p∈X.pn++pins,p.1≠C)->compPost (model X.prog X.w) X.A X.xe use Q' (.ref D) C (.ok .next) s')
 (hs:∀x,foldedSetIterable iter X.env x=pure x) :
 wpAny (model X.prog X.w) X.A (comprehension (.ListComp elt [⟨tg,iter,ifs,0⟩] scope pos) scope X.env (firstIterPos [⟨tg,iter,ifs,0⟩] pos) (newList []) false (eval iter X.env) use) Q' X.xe s:=by
 have fits:=(pV hf)
 have sU:∀p∈scope.names,p.2=.free->∃c,X.env.cells.lookup p.1=some c:=fun p hp e=>I.ok.has p.1 ((fits p hp).2.1 e);refine wpAny_comprehension_free (use:=use) rfl hs (v5 sU) (oB hf) (fun x hx=>(fits x hx).2.2) ?_;refine eI (hi pins s σ H _ I h) fun v s1 h1=>eI h1 fun VA s2 h2=>?_;obtain⟨it,fp,tn,J,H2,e,I2,T,UI,f2,hW⟩:=h2;subst e;refine wpAny_newObj_type (hd:=by size_fits) ?_;have hD:H2 s2.heap.objs.size=none:=I2.dD.fresh (zai _);have I3:Inv X pins σ (upd H2 s2.heap.objs.size (.lst [])) {s2 with heap:=s2.heap.push {cls:=.type "list",dict:=none,data:=.seq ([]:List zda).toArray} }:=
  I2.laid (t':=s2.toks) (fun b u e=>Heap.get?_push_of_some _ e) (zai _) ⟨za6 _,[],0,.nil,Heap.get?_push_size _ rfl⟩
 have W3:=hW s2.heap.objs.size hD;have Xs:∀b∈fp,b<s2.heap.objs.size:=fun b hb=>let ⟨o,e,_⟩:=T.obj _ _ UI b hb;Heap.lt_size e;have S8:∀b∈fp,rM X pins (upd H2 s2.heap.objs.size (.lst [])) b/\b<(s2.heap.push {cls:=.type "list",dict:=none,data:=.seq ([]:List zda).toArray}).objs.size:=fun b hb=>
  ⟨⟨by rw[aq (zaG (Xs b hb))];exact(f2 b hb).1,(f2 b hb).2⟩,by rw[Heap.size_push];exact Nat.lt_succ_of_lt (Xs b hb)⟩
 have O3:tn 0 (s2.heap.push {cls:=.type "list",dict:=none,data:=.seq ([]:List zda).toArray}):=T.keep _ _ _ UI fun b _ o e=>Heap.get?_push_of_some _ e;generalize YZ:({s2 with heap:=s2.heap.push {cls:=.type "list",dict:=none,data:=.seq ([]:List zda).toArray} }:zdj)=s3 at I3;generalize hH3:upd H2 s2.heap.objs.size (.lst [])=H3 at I3 W3 S8;have eh:s2.heap.push {cls:=.type "list",dict:=none,data:=.seq ([]:List zda).toArray}=s3.heap:=by rw[<- YZ]
 rw[eh] at S8 O3;refine wpAny_newFunctionEnv (fun x hx=>(fits x hx).1) (by intro y hy;simp at hy) (fun h4 UP Y0=>?_) (oB hf);have kept:∀b o,s3.heap.get? b=some o->h4.get? b=some o:=fun b o e=>Y0.extBut b o (zaG (Heap.lt_size e)) (Heap.get?_push_of_some _ e);have I4:=Ks (own:=own) (tk:=s3.toks+([]:List (Str×zda)).length) I3 hf hc S8 UP kept;have Y1:∀b∈fp,rM (oX X scope own ix s3.heap.objs.size s3 H3 fp) [] H3 b:=fun b hb=>by
  obtain⟨⟨f0,f1,Y2,f3,f4,f5⟩,lt⟩:=S8 b hb;refine⟨f0,zaG lt,fun z=>?_,.inl hb,fun x c e=>f4 x c (tj sU (fun x c e=>by simp at e) e),fun p hp=>absurd (show p∈([]:List (zc9×Obj))++[] from hp) (by simp)⟩;rcases zaj.mp (I3.uw b z) with z |z
  ·exact f1 z
  ·exact Y2 z
 have Xt:tn 0 h4:=T.keep _ _ _ O3 fun b _ o e=>kept b o e;have loop:=HW (X:=oX X scope own ix s3.heap.objs.size s3 H3 fp) (iter:=iter) (scope:=scope) (pos:=pos) (R:=compPost (model X.prog X.w) X.A X.xe use Q' (.ref s2.heap.objs.size) s3.heap.objs.size) vD rfl rfl T (he _ _ _ _) (hg _ _ _ _) (ht _ _ _ _) I4 Y1 Xt W3
  (fun τ' H' s' I' q=>by
   obtain⟨J1,J2,J3,J4,J5,J6⟩:=comp_back I3 S8 I';obtain⟨m,hm,_⟩:=I'.loc;exact hU _ _ H' s' m J1 q hm J2 J3 J4 J5 J6)
 exact codeAny_compStart_list loop (T.self X.A 0 _ _ _ Xt loop)
theorem tm(vD:X.calm=true)(hf:mB scope X.env.scope=true)(hc:Bo scope X.env.scope X.N ix=true)
 (hi:PI X tg iter wi) (hg:∀C s₀ H₀ ex,PG (oX X scope own ix C s₀ H₀ ex) tg g) (ht:∀C s₀ H₀ ex,S7 (oX X scope own ix C s₀ H₀ ex) ifs tc) (he:∀C s₀ H₀ ex,PE (oX X scope own ix C s₀ H₀ ex) elt te)
 (hs:∀x,foldedSetIterable iter X.env x=pure x:=by intro _;rfl):PE X (.ListComp elt [⟨tg,iter,ifs,0⟩] scope pos) (Gy wi own.length ix g tc te):=by
 intro pins s σ H Q I h;rw[eval_ListComp];refine Ku (use:=none) vD hf hc hi hg ht he I h (fun D C H' s' m I' q hm n1 n2 n3 n4 n5=>?_) hs;refine⟨m,hm,fun h' sb=>⟨.ref D,H',?_,rfl,q⟩⟩;exact I'.turned (t':=s'.toks) (it:=C) (fun b o hb e=>sb.extBut b o hb e) n1 (Ne.symm (Ne.symm n2)) (.inr n3) n4 n5
end
inductive Dp where
 |dB |bl (b:Bool) |int (i:Int) |str (x:Str) |tup (l:List Dp) |lst (l:List Dp)
mutual
def Rep (K:zac) (H:Hp):Dp->V->Prop
 |.dB,v=>v=.dB
 |.bl b,v=>v=.bl b
 |.int i,v=>v=.int i
 |.str x,v=>v=.str x
 |.tup l,v=>∃a xs,v=.ref a/\eS K H a xs/\bf K H l xs
 |.lst l,v=>∃a xs,v=.ref a/\g8 K H a xs/\bf K H l xs
def bf (K:zac) (H:Hp):List Dp->List V->Prop
 |[],vs=>vs=[]
 |d::ds,vs=>∃v r,vs=v::r/\Rep K H d v/\bf K H ds r
end
mutual
def Dp.deep:Dp->Nat
 |.tup l=>Dp.Kv l+1
 |.lst l=>Dp.Kv l+1
 |_=>0
def Dp.Kv:List Dp->Nat
 |[]=>0
 |d::ds=>max d.deep (Dp.Kv ds)
end
theorem ar.kU{K:zac}{H H':Hp}{a:zc9}{xs:List V}(e:ar H H')(h:eS K H a xs):eS K H' a xs:=by
 rcases h with (h |⟨o,h⟩) |h
 ·exact .inl (.inl (e _ _ h))
 ·exact .inl (.inr ⟨o,e _ _ h⟩)
 ·exact .inr h
mutual
theorem Rep.mono{K:zac}{H H':Hp}(e:ar H H'):∀ {d:Dp} {v:V},Rep K H d v->Rep K H' d v
 |.dB,_,h=>h
 |.bl _,_,h=>h
 |.int _,_,h=>h
 |.str _,_,h=>h
 |.tup l,_,h=>by
  unfold Rep at h ⊢;obtain⟨a,xs,e1,e2,e3⟩:=h;exact⟨a,xs,e1,e.kU e2,bf.mono e e3⟩
 |.lst l,_,h=>by
  unfold Rep at h ⊢;obtain⟨a,xs,e1,e2,e3⟩:=h;exact⟨a,xs,e1,e.seq e2,bf.mono e e3⟩
theorem bf.mono{K:zac}{H H':Hp}(e:ar H H'):∀ {ds:List Dp} {vs:List V},bf K H ds vs->bf K H' ds vs
 |[],_,h=>h
 |d::ds,_,h=>by
  unfold bf at h ⊢;obtain⟨v,r,e1,e2,e3⟩:=h;exact⟨v,r,e1,Rep.mono e e2,bf.mono e e3⟩
end
theorem bf.length{K:zac}{H:Hp}:∀ {ds:List Dp} {vs:List V},bf K H ds vs->vs.length=ds.length
 |[],_,h=>by unfold bf at h;rw[h];rfl
 |d::ds,_,h=>by
  unfold bf at h;obtain⟨v,r,e1,_,e3⟩:=h;rw[e1,zah,zah,bf.length e3]
theorem bf.get{K:zac}{H:Hp}:∀ {ds:List Dp} {vs:List V} {i:Nat} {d:Dp},bf K H ds vs->ds[i]?=some d->∃v,vs[i]?=some v/\Rep K H d v
 |[],_,_,_,_,e=>by simp at e
 |d::ds,_,0,_,h,e=>by
  unfold bf at h;obtain⟨v,r,e1,e2,e3⟩:=h;simp only[List.getElem?_cons_zero,zav.injEq] at e;subst e;exact⟨v,by rw[e1];rfl,e2⟩
 |d::ds,_,i+1,d',h,e=>by
  unfold bf at h;obtain⟨v,r,e1,e2,e3⟩:=h;rw[zcE] at e;obtain⟨v',h1,h2⟩:=bf.get e3 e;exact⟨v',by rw[e1,zcE];exact h1,h2⟩
theorem bf.append{K:zac}{H:Hp}:∀ {ds es:List Dp} {vs us:List V},bf K H ds vs->bf K H es us->bf K H (ds++es) (vs++us)
 |[],_,_,_,h,h'=>by unfold bf at h;rw[h];exact h'
 |d::ds,_,_,_,h,h'=>by
  unfold bf at h;obtain⟨v,r,e1,e2,e3⟩:=h;rw[e1];show bf K H (d::(ds++_)) (v::(r++_));unfold bf;exact⟨v,_,rfl,e2,bf.append e3 h'⟩
theorem bf.nil{K:zac}{H:Hp}:bf K H [] []:=by unfold bf;rfl
theorem bf.cons{K:zac}{H:Hp}{d:Dp}{ds:List Dp}{v:V}{vs:List V}(h:Rep K H d v)(h':bf K H ds vs):bf K H (d::ds) (v::vs):=by unfold bf;exact⟨v,vs,rfl,h,h'⟩
theorem Rep.cq{K:zac}{H:Hp}{l:List Dp}{v:V}:Rep K H (.tup l) v↔∃a xs,v=.ref a/\eS K H a xs/\bf K H l xs:=by unfold Rep;exact Iff.rfl
theorem Rep.ic{K:zac}{H:Hp}{l:List Dp}{v:V}:Rep K H (.lst l) v↔∃a xs,v=.ref a/\g8 K H a xs/\bf K H l xs:=by unfold Rep;exact Iff.rfl
theorem Rep.dG{K:zac}{H:Hp}{i:Int}{v:V}:Rep K H (.int i) v↔v=.int i:=by unfold Rep;exact Iff.rfl
theorem Rep.bh{K:zac}{H:Hp}{x:Str}{v:V}:Rep K H (.str x) v↔v=.str x:=by unfold Rep;exact Iff.rfl
theorem Rep.uG{K:zac}{H:Hp}{b:Bool}{v:V}:Rep K H (.bl b) v↔v=.bl b:=by unfold Rep;exact Iff.rfl
theorem Rep.tq{K:zac}{H:Hp}{v:V}:Rep K H .dB v↔v=.dB:=by unfold Rep;exact Iff.rfl
theorem bf.cj{K:zac}{H:Hp}{vs:List V}:bf K H [] vs↔vs=[]:=by unfold bf;exact Iff.rfl
theorem bf.bP{K:zac}{H:Hp}{d:Dp}{ds:List Dp}{vs:List V}:bf K H (d::ds) vs↔∃v r,vs=v::r/\Rep K H d v/\bf K H ds r:=by conv=>lhs;unfold bf
theorem ar.new{H:Hp}{p:zc9}(h:H p=none)(o:HO):ar H (upd H p o):=fun b u q=>by rw[aq (aI q h)];exact q
section
variable{X:Cx}
def O9 (K:zac) (b:Bool):R2:=fun x y H Q=>∃d,Rep K H d x/\Rep K H d y/\d.deep<=150/\Q (.bl b) H
end
structure cH(K:zac)(mg:Str->Option zda)(x:Str)(st:Stmt)(ps:List Str)(f:zc9)(fd:zdi):Prop where
 F:Co K x x st f fd
 b:Binds K fd ps []
 m:mg x=some (.ref f)
end L2
namespace L2
open PySem PySem.Spec PyProof.Rows
theorem S9{g:Int->Int->V}{i j:Int}{H:Hp}{Q:VK}:NL g (.int i) (.int j) H Q↔Q (g i j) H:=⟨fun ⟨_,_,e1,e2,q⟩=>by cases e1;cases e2;exact q,fun q=>⟨_,_,rfl,rfl,q⟩⟩
theorem V7{C:Int->Int->Prop}{g:Int->Int->V}{i j:Int}{H:Hp}{Q:VK}:rI C g (.int i) (.int j) H Q↔C i j/\Q (g i j) H:=⟨fun ⟨_,_,e1,e2,c,q⟩=>by cases e1;cases e2;exact⟨c,q⟩,fun q=>⟨_,_,rfl,rfl,q⟩⟩
theorem Kw{a:V}{r:St}{H:Hp}{Q:VK}:(e8 0 (some a::r) H Q)=(Q a H):=rfl
theorem Kx{a:Option V}{r:St}{H:Hp}{Q:VK}:(e8 1 (a::r) H Q)=(e8 0 r H Q):=rfl
theorem Ky{a:Option V}{r:St}{H:Hp}{Q:VK}:(e8 2 (a::r) H Q)=(e8 1 r H Q):=rfl
theorem Kz{a:Option V}{r:St}{H:Hp}{Q:VK}:(e8 3 (a::r) H Q)=(e8 2 r H Q):=rfl
theorem KA{a:Option V}{r:St}{H:Hp}{Q:VK}:(e8 4 (a::r) H Q)=(e8 3 r H Q):=rfl
theorem KC{a:Option V}{r:St}{H:Hp}{Q:VK}:(e8 5 (a::r) H Q)=(e8 4 r H Q):=rfl
theorem KD{a:Option V}{r:St}{H:Hp}{Q:VK}:(e8 6 (a::r) H Q)=(e8 5 r H Q):=rfl
theorem KG{a:Option V}{r:St}{H:Hp}{Q:VK}:(e8 7 (a::r) H Q)=(e8 6 r H Q):=rfl
theorem KI{a:Option V}{r:St}{H:Hp}{Q:VK}:(e8 8 (a::r) H Q)=(e8 7 r H Q):=rfl
theorem KJ{a:Option V}{r:St}{H:Hp}{Q:VK}:(e8 9 (a::r) H Q)=(e8 8 r H Q):=rfl
theorem Ta{v:V}{σ:St}{H:Hp}{Q:VK}:(tC v σ H Q)=(Q v H):=rfl
theorem Pa{r:R2}{ta tb:TE}{σ:St}{H:Hp}{Q:VK}:(SF r ta tb σ H Q)=(ta σ H fun x H1=>tb σ H1 fun y H2=>r x y H2 Q):=rfl
theorem Tb{b:Bool}{p:Bool->Prop}:(∃k,V.bl b=.bl k/\p k)↔p b:=⟨fun ⟨_,e,q⟩=>by cases e;exact q,fun q=>⟨_,rfl,q⟩⟩
theorem QV{b:Int}{p:Int->Prop}:(∃k,V.int b=.int k/\p k)↔p b:=⟨fun ⟨_,e,q⟩=>by cases e;exact q,fun q=>⟨_,rfl,q⟩⟩
theorem QW{b:zc9}{p:zc9->Prop}:(∃k,V.ref b=.ref k/\p k)↔p b:=⟨fun ⟨_,e,q⟩=>by cases e;exact q,fun q=>⟨_,rfl,q⟩⟩
theorem Gz{t:TE}{σ:St}{H:Hp}{Q:Bool->Hp->Prop}:(Gj t σ H Q)=(t σ H fun x H'=>∃k,x=.bl k/\Q k H'):=rfl
theorem Pb{x y:V}{H:Hp}{Q:VK}:(Xh x y H Q)=(Cz x y=true/\Q (.bl (decide (x=y))) H):=rfl
theorem Pc{x y:V}{H:Hp}{Q:VK}:(Xi x y H Q)=(Cz x y=true/\Q (.bl (!decide (x=y))) H):=rfl
theorem QX{i j:Int}:(V.int i=V.int j)=(i=j):=by simp
theorem QY{i j:Str}:(V.str i=V.str j)=(i=j):=by simp
theorem NZ{c:Prop}[Decidable c]{A B:Prop}:(if decide c=true then A else B)↔if c then A else B:=by simp
theorem KL{c:Prop}[Decidable c]{A B:Prop}:(if (!decide c)=true then A else B)↔if c then B else A:=by by_cases h:c<;>simp[h]
theorem cE{K:zac}{p:zc9}{i:Int}{H:Hp}{Q:VK}{xs:List V}{v:V}(h:eS K H p xs)(hv:Gs xs i=some v)(q:Q v H):NR K (.ref p) (.int i) H Q:=⟨p,xs,i,v,rfl,rfl,h,hv,q⟩
theorem aP{K:zac}{p:zc9}{i:Int}{H:Hp}{Q:VK}{xs:List V}{v:V}(h:g8 K H p xs)(hv:Gs xs i=some v)(q:Q v H):Ki K (.ref p) (.int i) H Q:=⟨p,xs,i,v,rfl,rfl,h,hv,q⟩
section
variable{P:zdl}{w:zdb}{K:zac}{mg:Str->Option zda}{base:Heap}
theorem Co.v7{x qual:Str}{st:Stmt}{f:zc9}{fd:zdi}{N ps:List Str}{k:Nat}{sp:Sp}(F:Co K x qual st f fd)(S:a8 N ps (aB st))(len:∀vs H Q E,sp vs H Q E->vs.length=ps.length)
 (xn:∀(eA:zda) (A:zdk) (outer:List Env) (s:zdj) (H:Hp) (vs:List V) (Q:VK) (E:XK),gi k (A.deeper (envOfC qual (aB st) s.heap.objs.size f eA))->sp vs H Q E->
  ∃t σ,EI (j5 kN P w K mg base N qual (aB st) f eA A outer s H E).Sw (bb st) t/\L2.start N vs=σ/\t {nx:=fun _ H'=>Q .dB H',rt:=Q} σ H):bB P w K mg base kN (k+1) f fd ps sp:=
 F.ok S len fun eA A outer s H vs Q E hr h=>let ⟨t,_,h1,h2,h3⟩:=xn eA A outer s H vs Q E hr h;⟨t,h1,by rw[h2];exact h3⟩
end
theorem GA{sp:Sp}{wF:List V}{E:XK}{t:TA}{σ:St}{H:Hp}{Q:VK}:(O4 sp wF E t σ H Q)=(t σ H fun vs H1=>sp (vs++wF) H1 Q E):=rfl
theorem GB{ta:TE}{tr:TA}{σ:St}{H:Hp}{Q:List V->Hp->Prop}:(Gk ta tr σ H Q)=(ta σ H fun x H1=>tr σ H1 fun xs H2=>Q (x::xs) H2):=rfl
theorem KN{σ:St}{H:Hp}{Q:List V->Hp->Prop}:(HP σ H Q)=(Q [] H):=rfl
theorem KO{t:TA}{σ:St}{H:Hp}{Q:VK}:(SO t σ H Q)=(t σ H fun xs H1=>xs.length<=zdh/\∀p,H1 p=none->Q (.ref p) (upd H1 p (.tup xs))):=rfl
theorem KP{t:TA}{σ:St}{H:Hp}{Q:VK}:(SQ t σ H Q)=(t σ H fun xs H1=>xs.length<=zdh/\∀p,H1 p=none->Q (.ref p) (upd H1 p (.lst xs))):=rfl
theorem GC{n:Nat}(h:n<=1000):n<=zdh:=zcs (AH h)
theorem ar.CO{H H1:Hp}(s:ar H H1){p:zc9}(h:H1 p=none)(o:HO):ar H (upd H1 p o):=s.trans (ar.new h o)
theorem Rep.new{K:zac}{H:Hp}{p:zc9}{vs:List V}{ds:List Dp}(h:H p=none)(r:bf K H ds vs):Rep K (upd H p (.tup vs)) (.tup ds) (.ref p):=Rep.cq.mpr ⟨p,vs,rfl,.of ae,r.mono (ar.new h _)⟩
theorem N0{i j:Int}:Cz (.int i) (.int j)=true:=rfl
theorem N1{i j:Str}:Cz (.str i) (.str j)=true:=rfl
theorem N2{n:Nat}(h:n<=1000):(n<=zdh)=True:=eq_true (GC h)
theorem KQ{i j:Int}:(SI i j)=(0<j/\j<1073741824):=rfl
theorem KR{CX:E1}{P:zdl}{w:zdb}{K:zac}{mg:Str->Option zda}{base:Heap}{N:List Str}{qual:Str}{scope:Scope}{f:zc9}{cd:zda}{A:zdk}{outer:List Env}{s:zdj}{H:Hp}{E:XK}:(j5 CX P w K mg base N qual scope f cd A outer s H E).K=K:=rfl
theorem GD{X:Cx}{scope:Scope}{own:List Str}{ix:List Nat}{C:zc9}{s₀:zdj}{H₀:Hp}{ex:List zc9}:(oX X scope own ix C s₀ H₀ ex).K=X.K:=rfl
theorem mulR{z b:Int}(h1 : -18446744073709551616<b)(h2:b<18446744073709551616):HJ z b:=.inr ⟨h1,h2⟩
theorem mulL{z b:Int}(h1 : -18446744073709551616<z)(h2:z<18446744073709551616):HJ z b:=.inl ⟨h1,h2⟩
theorem kW{a b:Expr}{op:Operator}{pos:Pos}:oz (.BinOp a op b pos):=fun _ _=>rfl
theorem N3{x:Str}{pos:Pos}:oz (.Name x pos):=fun _ _=>rfl
theorem aJ{c:Const}{k:Nat}{pos:Pos}:oz (.Constant c k pos):=fun _ _=>rfl
theorem wH{f:Expr}{as:List Expr}{ks:List Keyword}{pos:Pos}:oz (.Call f as ks pos):=fun _ _=>rfl
theorem KU{a:Expr}{op:UnaryOp}{pos:Pos}:oz (.UnaryOp op a pos):=fun _ _=>rfl
theorem N4{a:Expr}{x:Str}{pos:Pos}:oz (.Attribute a x pos):=fun _ _=>rfl
theorem cG{a b:Expr}{op:Operator}{pos:Pos}{es:List Expr}{env:Env}:zdf (.BinOp a op b pos::es) env=(false,eval (.BinOp a op b pos) env)::zdf es env:=rfl
theorem ai{x:Str}{pos:Pos}{es:List Expr}{env:Env}:zdf (.Name x pos::es) env=(false,eval (.Name x pos) env)::zdf es env:=rfl
theorem au{c:Const}{k:Nat}{pos:Pos}{es:List Expr}{env:Env}:zdf (.Constant c k pos::es) env=(false,eval (.Constant c k pos) env)::zdf es env:=rfl
theorem cw{a b:Expr}{pos:Pos}{es:List Expr}{env:Env}:zdf (.Subscript a b pos::es) env=(false,eval (.Subscript a b pos) env)::zdf es env:=rfl
theorem bT{f:Expr}{as:List Expr}{ks:List Keyword}{pos:Pos}{es:List Expr}{env:Env}:zdf (.Call f as ks pos::es) env=(false,eval (.Call f as ks pos) env)::zdf es env:=rfl
theorem Pd{a:Expr}{op:UnaryOp}{pos:Pos}{es:List Expr}{env:Env}:zdf (.UnaryOp op a pos::es) env=(false,eval (.UnaryOp op a pos) env)::zdf es env:=rfl
theorem tw{a:Expr}{x:Str}{pos:Pos}{es:List Expr}{env:Env}:zdf (.Attribute a x pos::es) env=(false,eval (.Attribute a x pos) env)::zdf es env:=rfl
theorem bM{as:List Expr}{pos:Pos}{es:List Expr}{env:Env}:zdf (.List as pos::es) env=(false,eval (.List as pos) env)::zdf es env:=rfl
theorem Fb{as:List Expr}{k}{pos:Pos}{es:List Expr}{env:Env}:zdf (.Tuple as k pos::es) env=(false,eval (.Tuple as k pos) env)::zdf es env:=rfl
theorem Bp{a:Expr}{ops:List CmpOp}{cs:List Expr}{pos:Pos}{es:List Expr}{env:Env}:zdf (.Compare a ops cs pos::es) env=(false,eval (.Compare a ops cs pos) env)::zdf es env:=rfl
theorem N5{op:BoolOp}{as:List Expr}{pos:Pos}{es:List Expr}{env:Env}:zdf (.BoolOp op as pos::es) env=(false,eval (.BoolOp op as pos) env)::zdf es env:=rfl
theorem GF{a:Expr}{gs:List Comprehension}{sc:Scope}{pos:Pos}{es:List Expr}{env:Env}:zdf (.ListComp a gs sc pos::es) env=(false,eval (.ListComp a gs sc pos) env)::zdf es env:=rfl
theorem mC{as:List Expr}{pos:Pos}{es:List Expr}{env:Env}:zdf (.JoinedStr as pos::es) env=(false,eval (.JoinedStr as pos) env)::zdf es env:=rfl
def KW:Expr->Option V
 |.Constant (.int i) _ _=>some (.int i)
 |.Constant (.str x) _ _=>some (.str x)
 |.Constant (.bool b) _ _=>some (.bl b)
 |.Constant .none _ _=>some .dB
 |_=>none
def KY (vs:List V):TA:=fun _ H Q=>Q vs H
theorem br{X:Cx}:∀ {es:List Expr} {vs:List V},es.map KW=vs.map some->PA X es (KY vs)
 |[],[],_=>af
 |[],_::_,h=>by cases h
 |_::_,[],h=>by cases h
 |e::es,v::vs,h=>by
  rw[zaw,zaw] at h
  injection h with h1 h2
  have ih:=br (X:=X) h2;have one:∀ {e:Expr} {v:V},PE X e (tC v)->(zdf (e::es) X.env=(false,eval e X.env)::zdf es X.env)->PA X (e::es) (KY (v::vs)):=fun he hs pos pins s σ H Q I q=>aa he ih hs pos pins s σ H Q I q;unfold KW at h1;split at h1
  ·cases h1;exact one ah au
  ·cases h1;exact one ao au
  ·cases h1;exact one rk au
  ·cases h1;exact one wY au
  ·cases h1
theorem GG{vs:List V}{σ:St}{H:Hp}{Q:List V->Hp->Prop}:(KY vs σ H Q)=(Q vs H):=rfl
theorem GH{td ty:TE}{σ:St}{H:Hp}{Q:VK}:(S5 td ty σ H Q)=(td σ H fun x H1=>ty σ H1 fun y H2=>∃a v,x=.ref a/\E9 H2 a y (some v)/\Q v H2):=rfl
theorem CQ{σ:St}{H:Hp}{Q:VK}:(QU σ H Q)=(∀p,H p=none->Q (.ref p) (upd H p (.dK []))):=rfl
theorem GI{td ty tv:TE}{D:Ends}{σ:St}{H:Hp}:(S6 td ty tv D σ H)=(tv σ H fun v H1=>td σ H1 fun x H2=>ty σ H2 fun y H3=>∃a H4,x=.ref a/\NV H3 a y v H4/\D.nx σ H4):=rfl
theorem Pe{r:List V->Hp->VK->Prop}{t:TA}{σ:St}{H:Hp}{Q:VK}:(VJ r t σ H Q)=(t σ H fun vs H1=>r vs H1 Q):=rfl
theorem Tc{t:TE}{σ:St}{H:Hp}{Q:Bool->Hp->Prop}:(tB t σ H Q)=(t σ H fun x H1=>∃c,x=.bl c/\Q c H1):=rfl
theorem KZ{t:TT}{σ:St}{H:Hp}{Q:Bool->Hp->Prop}:(Su t σ H Q)=(t σ H fun c H1=>Q (!c) H1):=rfl
theorem E9.s{H:Hp}{a:zc9}{bg:List (Key×V)}{x:Str}{v:V}(e:H a=some (.dK bg))(h:eB bg (Sum.inr x)=some v):E9 H a (.str x) (some v):=by
 have:=E9.k (k:=Sum.inr x) e;rw[h] at this;exact this
end L2
namespace PM
abbrev W:=List Nat
inductive Tr where
 |num (n:Int) |box (x:W) |bin (o:W) (l r:Tr)
 deriving DecidableEq
def isLetter (c:Nat):Bool:=decide (97<=c)&&decide (c<=122)
def jL (c:Nat):Bool:=decide (48<=c)&&decide (c<=57)
def kind (c:Nat):Nat:=if isLetter c then 0 else if jL c then 1 else 2
def kX (st:List W×Nat) (c:Nat):List W×Nat:=
 if kind c≠2/\kind c=st.2 then (st.1.dropLast++[st.1.getLastD []++[c]],kind c) else (st.1++[[c]],kind c)
def cv (w:W):List W×Nat:=w.foldl kX ([],3)
def pieces (w:W):List W:=(cv w).1
def wI:List W:=[[98,111,120],[97,115,107],[112,117,116],[115,97,121],[105,102],[101,108,115,101],[119,104,105,108,101],[109,117,115,116],[115,116,111,112],[101,110,100]]
def isName (p:W):Bool:=decide (1<=p.length)&&decide (p.length<=8)&&p.all isLetter && !wI.contains p
def isNumber (p:W):Bool:=decide (1<=p.length)&&decide (p.length<=3)&&p.all jL&&(decide (p=[48]) || !decide (p.head?=some 48))
def oC (p:W):Int:=p.foldl (fun (a:Int) (c:Nat)=>a*10+((c:Int)-48)) 0
abbrev P:=List W->Option (Tr×List W)
def vE (sub:P):P
 |[]=>none
 |p::r=>if isNumber p then some (.num (oC p),r) else if isName p then some (.box p,r) else if p=[40] then
  (match sub r with
  |some (e,q::r')=>if q=[41] then some (e,r') else none
  |_=>none) else none
theorem kY(sub:P)(p:W)(r:List W):vE sub (p::r)=if isNumber p then some (.num (oC p),r) else if isName p then some (.box p,r) else if p=[40] then
 (match sub r with
 |some (e,q::r')=>if q=[41] then some (e,r') else none
 |_=>none) else none:=rfl
def jM (ops:List W) (f:P):Nat->Tr->List W->Option (Tr×List W)
 |0,e,ps=>some (e,ps)
 |_+1,e,[]=>some (e,[])
 |k+1,e,p::r=>if p∈ops then (match f r with
  |none=>none
  |some (e2,r')=>jM ops f k (.bin p e e2) r') else some (e,p::r)
def hG (f:P):P:=fun ps=>match f ps with
 |none=>none
 |some (e,r)=>jM [[42]] f r.length e r
def rO (f:P):P:=fun ps=>match hG f ps with
 |none=>none
 |some (e,r)=>jM [[43],[45]] (hG f) r.length e r
def factor:Nat->P
 |0=>vE fun _=>none
 |n+1=>vE (rO (factor n))
def expr (w:W):Option Tr:=if 60<w.length then none else match rO (factor 5) (pieces w) with
 |some (e,[])=>some e
 |_=>none
def Short (f:P):Prop:=∀ps e r,f ps=some (e,r)->r.length<ps.length
theorem Bq{ops:List W}{f:P}(h:Short f):∀k e ps e' r,jM ops f k e ps=some (e',r)->r.length<=ps.length
 |0,e,ps,e',r,q=>by simp only[jM,zav.injEq,Prod.mk.injEq] at q;rw[q.2];exact zai _
 |k+1,e,[],e',r,q=>by simp only[jM,zav.injEq,Prod.mk.injEq] at q;rw[<- q.2];exact zai _
 |k+1,e,p::t,e',r,q=>by
  unfold jM at q;split at q
  ·split at q
   ·cases q
   ·rename_i e2 r' hf;have h1:=h _ _ _ hf;have h2:=Bq h k _ _ _ _ q;rw[zah];lia
  ·simp only[zav.injEq,Prod.mk.injEq] at q;rw[<- q.2];exact zai _
theorem oE{f:P}(h:Short f):Short (hG f):=fun ps e r q=>by
 unfold hG at q;split at q
 ·cases q
 ·rename_i e0 r0 hf;exact zbP (Bq h _ _ _ _ _ q) (h _ _ _ hf)
theorem HX{f:P}(h:Short f):Short (rO f):=fun ps e r q=>by
 unfold rO at q;split at q
 ·cases q
 ·rename_i e0 r0 hf;exact zbP (Bq (oE h) _ _ _ _ _ q) (oE h _ _ _ hf)
theorem vF{sub:P}(h:Short sub):Short (vE sub):=fun ps e r q=>by
 cases ps with
 |nil=>cases q
 |cons p t=>
  rw[kY] at q;split at q
  ·simp only[zav.injEq,Prod.mk.injEq] at q;rw[<- q.2];exact zbY _
  ·split at q
   ·simp only[zav.injEq,Prod.mk.injEq] at q;rw[<- q.2];exact zbY _
   ·split at q
    ·split at q
     ·rename_i e1 q1 r1 hs;split at q
      ·simp only[zav.injEq,Prod.mk.injEq] at q;have:=h _ _ _ hs;rw[<- q.2];rw[zah] at this ⊢;lia
      ·cases q
     ·cases q
    ·cases q
theorem ie:∀n,Short (factor n)
 |0=>vF fun _ _ _ q=>by cases q
 |n+1=>vF (HX (ie n))
theorem AK{ops:List W}{f:P}(h:Short f):∀k j e ps,ps.length<=k->ps.length<=j->jM ops f k e ps=jM ops f j e ps
 |0,0,_,_,_,_=>rfl
 |0,j+1,e,[],_,_=>rfl
 |k+1,0,e,[],_,_=>rfl
 |k+1,j+1,e,[],_,_=>rfl
 |k+1,j+1,e,p::t,hk,hj=>by
  rw[zah] at hk hj;unfold jM;split
  ·split
   ·rfl
   ·rename_i e2 r' hf;have:=h _ _ _ hf;exact AK h k j _ _ (by lia) (by lia)
  ·rfl
def loop (ops:List W) (f:P) (e:Tr) (ps:List W):Option (Tr×List W):=jM ops f ps.length e ps
theorem CS(ops:List W)(f:P)(e:Tr):loop ops f e []=some (e,[]):=rfl
theorem uH{ops:List W}{f:P}{e:Tr}{p:W}{r:List W}(h:p ∉ ops):loop ops f e (p::r)=some (e,p::r):=by
 unfold loop;rw[zah];unfold jM;rw[if_neg h]
theorem GJ{ops:List W}{f:P}(hf:Short f){e:Tr}{p:W}{r:List W}(h:p∈ops):loop ops f e (p::r)=match f r with
 |none=>none
 |some (e2,r')=>loop ops f (.bin p e e2) r':=by
 unfold loop;rw[zah]
 conv=>lhs;unfold jM
 rw[if_pos h];cases h1:f r with
 |none=>rfl
 |some x=>
  obtain⟨e2,r'⟩:=x;have:=hf _ _ _ h1;exact AK hf _ _ _ _ (by lia) (zai _)
theorem CT(f:P)(ps:List W):hG f ps=match f ps with
 |none=>none
 |some (e,r)=>loop [[42]] f e r:=rfl
theorem GK(f:P)(ps:List W):rO f ps=match hG f ps with
 |none=>none
 |some (e,r)=>loop [[43],[45]] (hG f) e r:=rfl
def Y3 (p:W):Bool:=isNumber p ||isName p
def QZ:List W:=[[43],[45],[42]]
def step (p:W):Nat×Bool->Option (Nat×Bool)
 |(d,true)=>if p=[40] then (if d+1>5 then none else some (d+1,true)) else if Y3 p then some (d,false) else none
 |(d,false)=>if p=[41] then (if d=0 then none else some (d-1,false)) else if p∈QZ then some (d,true) else none
def run:List W->Nat×Bool->Option (Nat×Bool)
 |[],s=>some s
 |p::r,s=>match step p s with
  |none=>none
  |some s'=>run r s'
structure Walk(d:Nat)(f:P)(nx:List W->Prop):Prop where
 yes:∀ps e r,f ps=some (e,r)->run ps (d,true)=run r (d,false)/\nx r
 no:∀ps,f ps=none->run ps (d,true)≠some (0,false)
def Cp (_:List W):Prop:=True
def Xu (r:List W):Prop:=r=[]\/∃q t,r=q::t/\q≠[42]
theorem Br(w:W)(c:Nat):cv (w++[c])=kX (cv w) c:=by unfold cv;rw[List.foldl_append];rfl
theorem kind_le(c:Nat):kind c<=2:=by
 unfold kind;split
 ·lia
 ·split<;>lia
theorem CU{p:W->Prop}(h0:p [])(h1:∀w c,p w->p (w++[c])):∀w,p w:=fun w=>by
 have:∀r:W,p r.reverse:=fun r=>by
  induction r with
  |nil=>exact h0
  |cons c r ih=>rw[zbT];exact h1 _ c ih
 have h:=this w.reverse;rw[List.reverse_reverse] at h;exact h
structure Td(st:List W×Nat)(w:W):Prop where
 flat:st.1.flatten=w
 GL:∀p∈st.1,p≠[]
 last:st.2<2->st.1≠[]
 sort:∀p∈st.1,(∀c∈p,kind c=0)\/(∀c∈p,kind c=1)\/∃c,p=[c]/\kind c=2
 mark:st.1≠[]->∃p,st.1.getLast?=some p/\(st.2<2->∀c∈p,kind c=st.2)
theorem xu{α:Type}{l:List α}{p:α}(h:l.getLast?=some p):l=l.dropLast++[p]:=by
 have EJ:l≠[]:=by rintro rfl;cases h
 rw[List.getLast?_eq_some_getLast EJ] at h;have e:=(List.dropLast_concat_getLast EJ).symm;cases h;exact e
theorem N6:∀(w:W),Td (cv w) w:=by
 refine CU (p:=fun w=>Td (cv w) w) ?_ fun w c ih=>?_
 ·exact⟨rfl,fun _ h=>absurd h (by simp[cv]),fun h=>absurd h (by simp[cv]),fun _ h=>absurd h (by simp[cv]),fun h=>absurd rfl h⟩
 ·rw[Br];unfold kX;split
  ·rename_i hc;obtain⟨h2,hb⟩:=hc;have k2:kind c<2:=by have:=kind_le c;lia
   have EJ:=ih.last (by rw[<- hb];exact k2);obtain⟨p,hp,hm⟩:=ih.mark EJ;have es:=xu hp;have eD:(cv w).1.getLastD []=p:=by rw[zco,hp];rfl
   have Xv:=hm (by rw[<- hb];exact k2);rw[eD];refine⟨?_,fun q hq=>?_,fun _=>by simp,fun q hq=>?_,fun _=>⟨p++[c],by simp,fun _ x hx=>?_⟩⟩
   ·have f:=ih.flat;rw[es] at f;simp only[zcY,zaN,zcv,zaR] at f ⊢;rw[<- zbA,f]
   ·rcases zay.mp hq with hq |hq
    ·exact ih.GL q (zcT _ hq)
    ·rw[zal.mp hq];simp
   ·rcases zay.mp hq with hq |hq
    ·exact ih.sort q (zcT _ hq)
    ·rw[zal.mp hq];have all:∀x∈p++[c],kind x=kind c:=fun x hx=>by
      rcases zay.mp hx with hx |hx
      ·rw[Xv x hx,hb]
      ·rw[zal.mp hx]
     have:kind c=0\/kind c=1:=by lia
     rcases this with z |z
     ·exact .inl fun x hx=>by rw[all x hx,z]
     ·exact .inr (.inl fun x hx=>by rw[all x hx,z])
   ·rcases zay.mp hx with hx |hx
    ·rw[Xv x hx,hb]
    ·rw[zal.mp hx]
  ·refine⟨?_,fun q hq=>?_,fun _=>by simp,fun q hq=>?_,fun _=>⟨[c],by simp,fun _ x hx=>by rw[zal.mp hx]⟩⟩
   ·simp only[zcY,zaN,zcv,zaR];rw[ih.flat]
   ·rcases zay.mp hq with hq |hq
    ·exact ih.GL q hq
    ·rw[zal.mp hq];simp
   ·rcases zay.mp hq with hq |hq
    ·exact ih.sort q hq
    ·rw[zal.mp hq];have:kind c=0\/kind c=1\/kind c=2:=by have:=kind_le c;lia
     rcases this with z |z |z
     ·exact .inl fun x hx=>by rw[zal.mp hx,z]
     ·exact .inr (.inl fun x hx=>by rw[zal.mp hx,z])
     ·exact .inr (.inr ⟨c,rfl,z⟩)
theorem vG:∀ {l:List W},(∀p∈l,p≠[])->l.length<=l.flatten.length
 |[],_=>by simp
 |p::r,h=>by
  have h1:p≠[]:=h p (by simp);have h2:=vG (l:=r) fun q hq=>h q (by simp[hq]);have:0<p.length:=zcZ.mpr h1;simp only[zah,zaN,zaf];lia
theorem rP(w:W):(pieces w).length<=w.length:=by
 have:=N6 w;have h:=vG this.GL;rw[this.flat] at h;exact h
theorem AL{w p:W}(h:p∈pieces w):p.length<=w.length:=by
 have f:=(N6 w).flat;rw[<- f];have all:∀ {l:List W},p∈l->p.length<=l.flatten.length:=fun {l} hl=>by
  induction l with
  |nil=>cases hl
  |cons a r ih=>
   rw[zaN,zaf];rcases zaj.mp hl with rfl |hl
   ·lia
   ·have:=ih hl;lia
 exact all h
def RF (n:Nat) (t:Tr) (L:List W):Prop:=∀rest,factor n (L++rest)=some (t,rest)
def RP (n:Nat) (t:Tr) (L:List W):Prop:=∀rest,hG (factor n) (L++rest)=loop [[42]] (factor n) t rest
def RS (n:Nat) (t:Tr) (L:List W):Prop:=∀rest,Xu rest->rO (factor n) (L++rest)=loop [[43],[45]] (hG (factor n)) t rest
theorem N7{n:Nat}{t:Tr}{rest:List W}(h:Xu rest):loop [[42]] (factor n) t rest=some (t,rest):=by
 rcases h with rfl |⟨q,r,rfl,hq⟩
 ·rfl
 ·exact uH (by simpa using hq)
theorem RF.p{n:Nat}{t:Tr}{L:List W}(h:RF n t L):RP n t L:=fun rest=>by rw[CT,h rest]
theorem RP.s{n:Nat}{t:Tr}{L:List W}(h:RP n t L):RS n t L:=fun rest hn=>by rw[GK,h rest,N7 hn]
theorem CV(n:Nat)(p:W)(r:List W)(h:isNumber p=true\/isName p=true):factor n (p::r)=if isNumber p then some (.num (oC p),r) else some (.box p,r):=by
 have key:∀sub:P,vE sub (p::r)=if isNumber p then some (.num (oC p),r) else some (.box p,r):=fun sub=>by
  rw[kY];by_cases h1:isNumber p=true
  ·rw[if_pos h1,if_pos h1]
  ·rw[if_neg h1,if_neg h1,if_pos (h.resolve_left h1)]
 cases n with
 |zero=>exact key _
 |succ n=>exact key _
theorem RF.box{n:Nat}{p:W}(h:isName p=true)(h':isNumber p=false):RF n (.box p) [p]:=fun rest=>by
 show factor n (p::rest)=_;rw[CV n p rest (.inr h),if_neg (by rw[h'];simp)]
def Pf:Tr->Bool
 |.bin o _ _=>decide (o=[43]) ||decide (o=[45])
 |_=>false
def isMul:Tr->Bool
 |.bin o _ _=>decide (o=[42])
 |_=>false
def Y4 (o:W) (l:Tr) (m:Int):Bool:=(decide (o=[42])&&Pf l) ||decide (m%5=1)
def Y5 (o:W) (r:Tr) (m:Int):Bool:=(Pf r ||(decide (o=[42])&&isMul r)) ||decide (m%7=1)
def dig (n:Nat):W:=(zcw 10 n).map Char.toNat
def put (b:Bool) (w:W):W:=if b then [40]++w++[41] else w
def Xw (b:Bool):Nat:=if b then 1 else 0
def dep:Tr->Int->Nat
 |.bin o l r,m=>max (Xw (Y4 o l m)+dep l (m/2)) (Xw (Y5 o r m)+dep r (m/3))
 |_,_=>0
theorem K8:∀n:Nat,n<1000->isNumber (dig n)=true/\oC (dig n)=n:=by
 have:∀n:Fin 1000,isNumber (dig n.1)=true/\oC (dig n.1)=n.1:=by decide +kernel
 exact fun n h=>this ⟨n,h⟩
def Te (w:W):Prop:=∀c∈w,c≠43/\c≠45/\c≠42
theorem HY:∀k<10,48<=(zcl k).toNat/\(zcl k).toNat<=57:=by decide
theorem CY:∀(fuel n:Nat) (acc:List Char),(∀c∈acc,48<=c.toNat/\c.toNat<=57)->∀c∈zbx 10 fuel n acc,48<=c.toNat/\c.toNat<=57
 |0,n,acc,h=>by unfold zbx;exact h
 |fuel+1,n,acc,h=>by
  have h':∀c∈zcl (n%10)::acc,48<=c.toNat/\c.toNat<=57:=fun c hc=>by
   rcases zaj.mp hc with rfl |hc
   ·exact HY _ (by lia)
   ·exact h c hc
  unfold zbx;simp only;split
  ·exact h'
  ·exact CY fuel _ _ h'
theorem CZ:∀(k fuel n:Nat) (acc:List Char),n<10 ^ (k+1)->(zbx 10 fuel n acc).length<=acc.length+(k+1)
 |k,0,n,acc,_=>by unfold zbx;lia
 |0,fuel+1,n,acc,h=>by
  unfold zbx;simp only;rw[if_pos (by lia)];simp
 |k+1,fuel+1,n,acc,h=>by
  unfold zbx;simp only;split
  ·simp
  ·have e:(10:Nat) ^ (k+1+1)=10*10 ^ (k+1):=by rw[Nat.pow_succ];lia
   have:=CZ k fuel (n/10) (zcl (n%10)::acc) (by rw[e] at h;lia);simp only[zah] at this;lia
theorem K9(n:Nat)(h:n<10000):Te (dig n)/\(dig n).length<=10:=by
 refine⟨fun c hc=>?_,?_⟩
 ·unfold dig at hc;obtain⟨d,hd,rfl⟩:=zaK.mp hc;have:=CY _ _ [] (by simp) d hd;lia
 ·unfold dig;rw[zae];have:=CZ 3 (n+1) n [] (by lia);simp only[za3] at this;unfold zcw;lia
end PM
namespace L2
open PySem PySem.Spec PyProof.Rows
structure V8(P:zdl)(w:zdb)(outer:List Env)(H:Hp)(s:zdj)(E:XK)(x:zc9)(s':zdj)(cls a0:zda)(B:Heap)(H':Hp):Prop where
 fl:Heap.FlyingW B outer x cls a0 s'.heap
 os:s'.os=s.os
 bare:AllBare s'.gens
 un:Un (fM outer) [] H H' s.heap s'.heap
 dD:sS P w H' s'.heap
 old:∀b o,s.heap.get? b=some o->b ∉ fM outer->∃o',B.get? b=some o'
 JL:∀b u,H' b=some u->∃o,B.get? b=some o
 want:E cls none H'
def kO (P:zdl) (w:zdb):E1:=fun outer H s E e s'=>∃x cls a0 B H',e=.ref x/\V8 P w outer H s E x s' cls a0 B H'
section
variable{P:zdl}{w:zdb}{H H':Hp}{h h' B:Heap}{a:zc9}{o:HO}
theorem dN.there(x:dN P w H h a o):∃ob,h.get? a=some ob:=by
 induction o with
 |lst xs=>obtain⟨_,_,_,_,e⟩:=x;exact⟨_,e⟩
 |tup xs=>obtain⟨_,_,_,_,e,_⟩:=x;exact⟨_,e⟩
 |dK bg=>obtain⟨_,_,_,_,o,_,_,e,_⟩:=x;exact⟨_,e⟩
 |dT bg=>obtain⟨_,_,_,_,o,_,_,e,_⟩:=x;exact⟨_,e⟩
 |set S n=>obtain⟨o,_,_,_,e,_⟩:=x;exact⟨_,e⟩
 |ins C dx fs=>obtain⟨_,_,_,e,_⟩:=x;exact⟨_,e⟩
 |own y=>exact x
 |xd fs=>obtain⟨_,⟨_,_,_,e,_⟩,_⟩:=x;exact⟨_,e⟩
 |UB lo hi=>obtain⟨_,_,_,e⟩:=x;exact⟨_,e⟩
 |JK ob u=>obtain⟨e,_⟩:=x;exact⟨_,e⟩
 |NB ps=>exact⟨_,(show h.get? a=some _ from x)⟩
 |met f y=>exact⟨_,(show h.get? a=some _ from x)⟩
 |ext φ=>obtain⟨_,e,_⟩:=x;exact e
theorem sS.part(x:sS P w H h)(st:B.StaysIn h)(Cy:B.StaysIn h')(t:∀b u,H b=some u->∃o,B.get? b=some o):sS P w H h':=fun a o e=>by
 refine(x a o e).qU (fun c v hc q=>?_) (fun _ q=>q) fun _ _ q=>q;have tr:∃u,H c=some u:=by
  rcases hc with rfl |hc
  ·exact⟨_,e⟩
  ·exact⟨_,hc⟩
 obtain⟨u,hu⟩:=tr;obtain⟨o',qV⟩:=t c u hu;have:=st c o' qV;rw[q] at this;cases this;exact Cy c _ qV
end
section
variable{X:Cx}{pins:List (zc9×Obj)}{σ:St}{H H':Hp}{s s':zdj}{h':Heap}{E:XK}{x:zc9}{cls a0:zda}{B:Heap}
theorem V8.move(F:V8 X.prog X.w X.stack H s E x s' cls a0 B H')(I:Inv X pins σ H s)(st:B.StaysIn h')(up:s'.heap.UpToSlots h'):Un (fM X.stack) [] H H' s.heap h'/\sS X.prog X.w H' h':=by
 have fr:∀b∈fM X.stack,∃o,s.heap.get? b=some o/\∀vs,o.data≠.fields vs:=fun b hb=>(I.stack.mem hb).2;have slot:∀b o,s.heap.get? b=some o->H b=none->b∈fM X.stack->∃sl,h'.get? b=some {o with slots:=sl}:=fun b o e n hb=>by
  obtain⟨sl,e1⟩:=F.un.slot b o e n hb (by simp);obtain⟨o',qV,hd⟩:=fr b hb;rw[e] at qV;cases qV;obtain⟨Qh,e2⟩:=up b _ e1 hd;exact⟨Qh,e2⟩
 refine⟨⟨fun b o e n hb _=>?_,fun b o e n hb _=>slot b o e n hb,fun b o e n hx=>F.un.free b o e n hx,fun b o e _=>?_,F.un.j3,F.un.ot,F.un.pD⟩,F.dD.part F.fl.1 st F.JL⟩
 ·obtain⟨o',qV⟩:=F.old b o e hb;have e1:=F.un.keep b o e n hb (by simp);have e2:=F.fl.1 b o' qV;rw[e1] at e2;cases e2;exact st b _ qV
 ·by_cases hb:b∈fM X.stack
  ·obtain⟨sl,e1⟩:=slot b o e (I.wD b hb) hb;exact⟨_,e1⟩
  ·obtain⟨o',qV⟩:=F.old b o e hb;exact⟨o',st b o' qV⟩
theorem Inv.Pg(I:Inv X pins σ H s)(hex:X.ex=[])(u:Un (fM X.stack) [] H H' s.heap h'):Un X.fs [] X.H₀ H' X.s₀.heap h':=by
 have nx:∀b,b ∉ X.ex:=fun b=>by rw[hex];simp
 have UD:∀b o,X.s₀.heap.get? b=some o->b≠X.env.locals:=fun b o e=>zaG (zaD (Heap.lt_size e) I.ok.above);refine⟨fun b o q n hb _=>?_,fun b o q n hb _=>?_,fun b o q n _=>?_,fun b o q _=>?_,fun b xs q=>u.j3 b xs (I.base.j3 b xs q),fun b ob xs q=>u.ot b ob xs (I.base.ot b ob xs q),fun b ps q=>?_⟩
 ·exact u.keep b o (I.base.keep b o q n hb (nx b)) (I.base.free b o q n (nx b)) (fun z=>(zaj.mp (I.uw b z)).elim (UD b o q) hb) (by simp)
 ·obtain⟨sl,e1⟩:=I.base.slot b o q n hb (nx b);obtain⟨Qh,e2⟩:=u.any e1 (I.base.free b o q n (nx b)) (by simp);exact⟨Qh,e2⟩
 ·obtain⟨o',e1⟩:=I.base.there b o q (nx b);exact u.free b o' e1 (I.base.free b o q n (nx b)) (by simp)
 ·obtain⟨o',e1⟩:=I.base.there b o q (nx b);exact u.there b o' e1 (by simp)
 ·obtain⟨m1,e1⟩:=I.base.pD b ps q;obtain⟨m2,e2⟩:=u.pD b _ e1;exact⟨m1++m2,by rw[e2,zcg]⟩
theorem Inv.La(I:Inv X pins σ H s)(hex:X.ex=[])(old:∀b o,s.heap.get? b=some o->b ∉ fM X.stack->∃o',B.get? b=some o'):∀b o,X.s₀.heap.get? b=some o->b ∉ X.fs->∃o',B.get? b=some o':=fun b o e hb=>by
 obtain⟨o',e1⟩:=I.base.there b o e (by rw[hex];simp);exact old b o' e1 fun z=>(zaj.mp (I.uw b z)).elim (zaG (zaD (Heap.lt_size e) I.ok.above)) hb
end
section
variable{P:zdl}{w:zdb}{K:zac}{mg:Str->Option zda}{base:Heap}{N:List Str}{qual:Str}{scope:Scope}{f:zc9}{cd:zda}{A:zdk}{outer:List Env}{s₀:zdj}{H₀:Hp}{E:XK}
theorem dq:Passes (kO P w) (j5 (kO P w) P w K mg base N qual scope f cd A outer s₀ H₀ E) E:=by
 intro pins σ H s e s' I h;obtain⟨x,cls,a0,B,H',rfl,F⟩:=h;show wpAny _ _ (leaving _ _) _ _ _;refine wpAny_leaves_onW I.ok.frames rfl F.fl fun h' fl up=>?_;obtain⟨u,dD⟩:=F.move I fl.1 up;exact⟨x,cls,a0,B,H',rfl,fl,F.os.trans I.os,F.bare,I.Pg rfl u,dD,I.La rfl F.old,F.JL,F.want⟩
def Ph (X:Cx) (E:XK):Prop:=∀(pins:List (zc9×Obj)) (σ:St) (H:Hp) (s:zdj) (h1:Heap) (x:zc9) (cls:zda) (vs:List zda),Inv X pins σ H s->Heap.MadeExcOf s.heap h1 x cls vs->E cls none H->X.xe (.ref x) {s with heap:=h1}
theorem du:Ph (j5 (kO P w) P w K mg base N qual scope f cd A outer s₀ H₀ E) E:=by
 intro pins σ H s h1 x cls vs I hx want;have R8:∀env∈(j5 (kO P w) P w K mg base N qual scope f cd A outer s₀ H₀ E).stack,∀a,env.frame=some a->a∈fM (j5 (kO P w) P w K mg base N qual scope f cd A outer s₀ H₀ E).stack:=fun env he a hb=>zbO.mpr ⟨env,he,hb⟩;show wpAny _ _ (leaving _ _) _ _ _;refine wpAny_leaves_madeW (base:=zb7 s.heap (fM (j5 (kO P w) P w K mg base N qual scope f cd A outer s₀ H₀ E).stack)) I.ok.frames rfl (fun b o q=>zch _ q) (PySem.W.funFrames_hide I.stack R8) hx fun h' t fl _ _ up=>?_;have UR:∀b o,s.heap.get? b=some o->b ∉ fM (j5 (kO P w) P w K mg base N qual scope f cd A outer s₀ H₀ E).stack->(zb7 s.heap (fM (j5 (kO P w) P w K mg base N qual scope f cd A outer s₀ H₀ E).stack)).get? b=some o:=fun b o e hb=>zc3 _ e hb;have slot:∀b o,s.heap.get? b=some o->b∈fM (j5 (kO P w) P w K mg base N qual scope f cd A outer s₀ H₀ E).stack->∃sl,h'.get? b=some {o with slots:=sl}:=fun b o e hb=>by
  obtain⟨o',qV,hd⟩:=(I.stack.mem hb).2;rw[e] at qV;cases qV;exact up b o (hx.keeps b o e) hd
 have JL:∀b u,H b=some u->∃o,(zb7 s.heap (fM (j5 (kO P w) P w K mg base N qual scope f cd A outer s₀ H₀ E).stack)).get? b=some o:=fun b u e=>by
  obtain⟨o,ho⟩:=(I.dD b u e).there;refine⟨o,UR b o ho fun z=>?_⟩;rw[I.wD b z] at e;cases e
 have u:Un (fM (j5 (kO P w) P w K mg base N qual scope f cd A outer s₀ H₀ E).stack) [] H H s.heap h':=by
  refine⟨fun b o e _ hb _=>fl.1 b o (UR b o e hb),fun b o e _ hb _=>slot b o e hb,fun _ _ _ n _=>n,fun b o e _=>?_,fun _ _ q=>q,fun _ _ _ q=>q,fun _ ps q=>⟨#[],by rw[q];simp⟩⟩;by_cases hb:b∈fM (j5 (kO P w) P w K mg base N qual scope f cd A outer s₀ H₀ E).stack
  ·obtain⟨sl,e1⟩:=slot b o e hb;exact⟨_,e1⟩
  ·exact⟨o,fl.1 b o (UR b o e hb)⟩
 exact⟨x,cls,_,_,H,rfl,fl,I.os,I.bare,I.Pg rfl u,I.dD.part (fun b o q=>zch _ q) fl.1 JL,I.La rfl fun b o e hb=>⟨o,UR b o e hb⟩,JL,want⟩
theorem N8:PassesOwn (model P w) (j5 (kO P w) P w K mg base N qual scope f cd A outer s₀ H₀ E).A (j5 (kO P w) P w K mg base N qual scope f cd A outer s₀ H₀ E).env (j5 (kO P w) P w K mg base N qual scope f cd A outer s₀ H₀ E).xe:=PassesOwn.leaving
end
structure v8(K:zac)(C:zc9):Prop where
 q:zbf K C [.type "ValueError",.type "Exception",.type "BaseException",.type "object"] "ValueError.__new__"=true
theorem v8.obj{K:zac}{C:zc9}{h:Heap}(c:v8 K C)(X:K.In h):∃bm N nm q bs hdct sn sub ab col dd k0 k1 k2 k3 k5 mN,h.get? C=some (excClassObj nm q C N bs bm hdct sn sub ab col dd k0 k1 k2 k3 k5 "ValueError.__new__")/\h.Ns N mN/\mN "__init__"=none/\
 OwnTail h [.type "ValueError",.type "Exception",.type "BaseException",.type "object"] bm:=by
 have q:=c.q;unfold zbf at q;split at q
 ·rename_i dd cd sl ho;split at q
  ·rename_i C' bm k0 k1 k2 k3 n k5 hm hs;simp only[zaJ,beq_iff_eq,Bool.not_eq_true'] at q;obtain⟨⟨⟨⟨⟨rfl,rfl⟩,Tf⟩,ht⟩,dD⟩,US⟩:=q;obtain⟨nm,bs,mro,ns,qn,hd,sn,sub,ab,col,del⟩:=cd;dsimp only at hm Tf dD US;subst hm Tf;have Y6:sl = #[k0,k1,k2,k3,some (.builtin "ValueError.__new__"),k5]:=by
    obtain⟨l⟩:=sl;simp only at hs;rw[hs]
   subst Y6;exact⟨bm,ns,nm,qn,bs,hd,sn,sub,ab,col,dd,k0,k1,k2,k3,k5,_,X _ _ ho,.of_isNs (PySem.W.isNs_of_in X dD),PySem.W.nsMap_none_of_in X dD US,PySem.W.tail_of_in X ht⟩
  ·cases q
 ·cases q
def Fc (C:zc9) (E:XK) (ta:TA):TS:=fun _ σ H=>ta σ H fun vs H1=>vs.length<=zdh/\E (.ref C) none H1
section
variable{X:Cx}{C:zc9}{E:XK}{x:Str}{np iP pos:Pos}{e:Expr}{es:List Expr}{ta:TA}
theorem cm(fl:Ph X E)(c:v8 X.K C)(hg:Gl X x)(hm:X.mg x=some (.ref C))(vD:X.calm=true)(ha:PA X (e::es) ta)(HQ:(x==("__debug__":Str))=false:=by decide)
 (he:zdf (e::es) X.env=(false,eval e X.env)::zdf es X.env:=by rfl) (Cn:(backTo iP (zdf es X.env)).any (·.1)=false:=by rfl) :
 PS X (.Raise (some (.Call (.Name x np) (e::es) [] iP)) none pos) (Fc C E ta):=by
 intro pins s σ H D I h;obtain⟨bm,N,nm,q,bs,hdct,sn,sub,ab,col,dd,k0,k1,k2,k3,k5,mN,hC,hN,US,T⟩:=c.obj I.ok.mod.R0;refine wpAny_Raise_call_subT (C:=C) (nm:=nm) (q:=q) (N:=N) (bs:=bs) (bm:=bm) (hdct:=hdct) (sn:=sn) (sub:=sub) (ab:=ab) (col:=col) (dd:=dd) (k0:=k0) (k1:=k1) (k2:=k2) (k3:=k3) (k5:=k5)
  PySem.F.excBase_ValueError (mN:=mN) (T.hasType PySem.F.excBase_ValueError.hasBase) (I.ok.hd vD) (by rw[he];show (false ||(backTo iP (zdf es X.env)).any (·.1))=false;rw[Cn];rfl) US (ou I hg hm ⟨rfl,?_⟩ HQ)
 have Xx:=ha iP pins s σ H _ I h;rw[he] at Xx ⊢;refine Calls.evalArgs_plain (wpAny_mono Xx (fun us s1 ⟨vs,H1,I1,r,hl,q⟩=>⟨rfl,by rw[<- r.length];exact hl,I1.bk _ _ hC,hN.keeps I1.bk,T.keeps I1.bk,fun h' y hm=>?_⟩) fun _ _ y=>y);exact fl pins σ H1 s1 h' y (.ref C) us I1 hm q
end
abbrev Cx.fP (X:Cx) (x:zc9):Cx:={X with A:=X.A.mark (some (.ref x)),calm:=false,xe:=fun _ _=>False}
theorem Cx.Ok.fP{X:Cx}(ok:X.Ok)(x:zc9):(X.fP x).Ok:=
 ⟨ok.mod,ok.kind,ok.glob,ok.blt,ok.above,ok.inj,ok.has,ok.NG,(fun z=>absurd z zad),ok.frames,ok.Np,ok.R1,ok.bs,ok.EN,ok.Bg,ok.Cu,ok.pL,ok.JA⟩
theorem Cx.Ok.jN{X:Cx}{x:zc9}(ok:(X.fP x).Ok)(hd:X.calm=true->X.A.handled=none):X.Ok:=
 ⟨ok.mod,ok.kind,ok.glob,ok.blt,ok.above,ok.inj,ok.has,ok.NG,hd,ok.frames,ok.Np,ok.R1,ok.bs,ok.EN,ok.Bg,ok.Cu,ok.pL,ok.JA⟩
section
variable{X:Cx}{pins:List (zc9×Obj)}{σ:St}{H:Hp}{s:zdj}{x:zc9}
theorem Inv.fP(I:Inv X pins σ H s)(x:zc9):Inv (X.fP x) pins σ H s:=⟨I.ok.fP x,I.os,I.bare,I.base,I.loc,I.cell,I.free,I.jK,I.pin,I.dD,I.len⟩
theorem Inv.jN(I:Inv (X.fP x) pins σ H s)(hd:X.calm=true->X.A.handled=none):Inv X pins σ H s:=⟨I.ok.jN hd,I.os,I.bare,I.base,I.loc,I.cell,I.free,I.jK,I.pin,I.dD,I.len⟩
theorem SP.jN{D:Ends}{f:Flow}{s':zdj}(h:SP (X.fP x) pins D f s')(hd:X.calm=true->X.A.handled=none):SP X pins D f s':=by
 cases f with
 |next=>obtain⟨σ',H',I,q⟩:=h;exact⟨σ',H',I.jN hd,q⟩
 |brk=>obtain⟨σ',H',I,q⟩:=h;exact⟨σ',H',I.jN hd,q⟩
 |cont=>obtain⟨σ',H',I,q⟩:=h;exact⟨σ',H',I.jN hd,q⟩
 |ret u=>obtain⟨v,σ',H',I,r,q⟩:=h;exact⟨v,σ',H',I.jN hd,r,q⟩
theorem Inv.told{o:HO}(I:Inv X pins σ H s)(n:H x=none)(h0:X.s₀.heap.objs.size<=x)(hL:x≠X.env.locals)(hc:∀y c,X.env.cells.lookup y=some c->c≠x)(hp:∀p∈X.pn++pins,p.1≠x)(ok:dN X.prog X.w (upd H x o) s.heap x o):Inv X pins σ (upd H x o) s:=by
 have nx:∀b u,X.s₀.heap.get? b=some u->b≠x:=fun b u e=>zaG (zaD (Heap.lt_size e) h0);refine⟨I.ok,I.os,I.bare,⟨I.base.keep,I.base.slot,fun b u e n' hx=>?_,I.base.there,fun b xs e=>?_,fun b ob u e=>?_,fun b ps e=>?_⟩,I.loc,I.cell,?_,fun y c e=>?_,fun p NW=>?_,fun b u e=>?_,I.len⟩
 ·rw[aq (nx b u e)];exact I.base.free b u e n' hx
 ·have:=I.base.j3 b xs e;rw[aq (aI this n)];exact this
 ·have:=I.base.ot b ob u e;rw[aq (aI this n)];exact this
 ·obtain⟨m,e1⟩:=I.base.pD b ps e;exact⟨m,by rw[aq (aI e1 n)];exact e1⟩
 ·rw[aq (Ne.symm hL)];exact I.free
 ·rw[aq (hc y c e)];exact I.jK y c e
 ·obtain⟨a,b,c⟩:=I.pin p NW;exact⟨a,by rw[aq (hp p NW)];exact b,c⟩
 ·by_cases hb:b=x
  ·subst hb;rw[ae] at e;cases e;exact ok
  ·rw[aq hb] at e;exact(I.dD b u e).qU (fun _ _ _ q=>q) (fun c q=>by rw[aq (aI q n)];exact q) fun c xs q=>by rw[aq (aI q n)];exact q
end
abbrev Cx.pinned (X:Cx) (pins:List (zc9×Obj)) (xe:zda->zdj->Prop):Cx:={X with pn:=X.pn++pins,xe:=xe}
theorem Cx.Ok.pinned{X:Cx}(ok:X.Ok)(pins:List (zc9×Obj))(xe:zda->zdj->Prop):(X.pinned pins xe).Ok:=
 ⟨ok.mod,ok.kind,ok.glob,ok.blt,ok.above,ok.inj,ok.has,ok.NG,ok.hd,ok.frames,ok.Np,ok.R1,ok.bs,ok.EN,ok.Bg,ok.Cu,ok.pL,ok.JA⟩
theorem Cx.Ok.nK{X:Cx}{pins:List (zc9×Obj)}{xe:zda->zdj->Prop}(ok:(X.pinned pins xe).Ok):X.Ok:=
 ⟨ok.mod,ok.kind,ok.glob,ok.blt,ok.above,ok.inj,ok.has,ok.NG,ok.hd,ok.frames,ok.Np,ok.R1,ok.bs,ok.EN,ok.Bg,ok.Cu,ok.pL,ok.JA⟩
section
variable{X:Cx}{pins vt:List (zc9×Obj)}{σ:St}{H:Hp}{s:zdj}{xe:zda->zdj->Prop}
theorem Inv.V9(I:Inv X pins σ H s)(xe:zda->zdj->Prop):Inv (X.pinned pins xe) [] σ H s:=⟨I.ok.pinned pins xe,I.os,I.bare,I.base,I.loc,I.cell,I.free,I.jK,fun p hp=>I.pin p (by rw[zaR] at hp;exact hp),I.dD,I.len⟩
theorem Inv.Q0(I:Inv (X.pinned pins xe) vt σ H s):Inv X pins σ H s:=⟨I.ok.nK,I.os,I.bare,I.base,I.loc,I.cell,I.free,I.jK,fun p hp=>I.pin p (zbg _ hp),I.dD,I.len⟩
end
open Builtin Builtin.Getset_descriptor Builtin.ObjectAttr PySem.Calls
structure Bs(K:zac)(C:zc9):Prop where
 cl:zaO K C=true
 ga:zak K (.ref C) "__getattribute__"=some (some (.builtin "BaseException.__getattribute__"))
 gh:zak K (.ref C) "__getattr__"=some none
 ca:zak K (.ref C) "__class__"=some (some (.builtin "object.__class__"))
 ob:zaM K C (.type "object")=some true
 be:zaM K C (.type "BaseException")=some true
def oY (x C:zc9) (h:Heap):Prop:=∃o,h.get? x=some o/\o.cls=.ref C
theorem oY.type{x C:zc9}{h:Heap}{M:Model}(p:oY x C h):PySem.W.Looks M h (typeOf (.ref x)) (.ref C):=by
 obtain⟨o,h1,h2⟩:=p;exact h2▸(PySem.W.Looks.ld h1).andThen .now
section
variable{prog:zdl}{w:zdb}{A:zdk}{E:zda->zdj->Prop}{s:zdj}{K:zac}{x C:zc9}
theorem Lb{R:Result->zdj->Prop}{tp:zda}(c:Bs K C)(X:K.In s.heap)(p:oY x C s.heap)(fin:R (.ok (.ret (.ref C))) s) :
 codeAny (model prog w) A (.call (.builtin "getset_descriptor.__get__") ⟨[.builtin "object.__class__",.ref x,tp],[]⟩) R s:=by
 obtain⟨h1,g1,d1,t1,o1⟩:=s;have LA:=p.type (M:=model prog w);have LB:=zc5 (M:=model prog w) X c.ob;refine codeAny_call_builtin PySem.W.KF.slot_gs.plain PySem.W.KF.entry_gs (PySem.W.KF.slot_gs.check _ _ _ _ _ _ _ _ PySem.W.KF.type_class (PySem.W.KF.args_gs _ _ _) ?go)
 case go=>
  unfold Builtin.«getset_descriptor.__get__» descrGet;rw[PySem.W.dga_obj];refine zdc (zdd ?go2)
  case go2=>
   unfold descrGetter descrCheckInstance descrNameAndClass isInstance;simp only[PySem.W.KF.owner_class]
   repeat lk
   refine⟨Code.quiet_builtin _ (by decide +kernel),codeAny_builtin PySem.W.KF.entry_class ?Y7⟩
   case Y7=>
    unfold Builtin.«object.__class__» shownTypeOf
    repeat lk
    exact fin
theorem Fd{tk:Tok}{Q:Fin->zdj->Prop}(c:Bs K C)(X:K.In s.heap)(p:oY x C s.heap)(fin:Q (.done (.ret (.ref C))) s) :
 wpAny (model prog w) A (Builtin.«object.__getattribute__» ⟨[.ref x,.str "__class__" tk],[]⟩) Q E s:=by
 obtain⟨h1,g1,d1,t1,o1⟩:=s;have LA:=p.type (M:=model prog w);have LB:=zbM (M:=model prog w) X c.ca;have f1:(⟨h1,g1,d1,t1,o1⟩:zdj).TypeIs (.builtin "object.__class__") "getset_descriptor":=F.typeOf_object_class;have f2:=F.typeOf_object_class;have f3:=F.slot_gs_get.lookup;have f4:=F.slot_gs_set.lookup
 repeat (any_goals (first |assumption |with_reducible refine LA.at ?_ |with_reducible refine LB.at ?_ |wp_step))
 refine Lb c X p ?_
 repeat (any_goals (first |assumption |wp_step))
theorem Fe{M:Model}{v:zda}{Q:Unit->zdj->Prop}(c:Bs K C)(X:K.In s.heap)(p:oY x C s.heap)(fin:Q () s) :
 wpAny M A (checkBuiltinCall "BaseException.__getattribute__" ⟨[.ref x,v],[]⟩) Q E s:=by
 obtain⟨h1,g1,d1,t1,o1⟩:=s;have k1:builtinKind "BaseException.__getattribute__"=some .slot:=by decide +kernel
 have k2:splitId "BaseException.__getattribute__"=some ("BaseException", "__getattribute__"):=by decide +kernel
 have k3:=F.args_bexc_ga (.ref x) v;have LA:=p.type (M:=M);have LB:=zc5 (M:=M) X c.be;simp only[checkBuiltinCall,k1,k2];refine zdc ?_;unfold isInstance
 repeat (first |with_reducible refine LA.at ?_ |with_reducible refine LB.at ?_ |wp_step)
 exact fin
theorem HZ{tk:Tok}{R:Result->zdj->Prop}(c:Bs K C)(X:K.In s.heap)(p:oY x C s.heap)(fin:R (.ok (.ret (.ref C))) s) :
 codeAny (model prog w) A (.call (.builtin "BaseException.__getattribute__") ⟨[.ref x,.str "__class__" tk],[]⟩) R s:=
 codeAny_call_builtin F.excAttr_ValueError.ga.plain F.entry_bexc_ga (Fe c X p (Fd c X p fin))
theorem N9{tk:Tok}{Q:zda->zdj->Prop}(c:Bs K C)(X:K.In s.heap)(p:oY x C s.heap)(fin:Q (.ref C) s) :
 wpAny (model prog w) A (getAttrBy (.ref x) (.str "__class__" tk) false) Q E s:=by
 obtain⟨h1,g1,d1,t1,o1⟩:=s;have LA:=p.type (M:=model prog w);have LB:=zbM (M:=model prog w) X c.ga;have LC:=zbM (M:=model prog w) X c.gh;have b1:=F.excAttr_ValueError.ga.bind (.ref x);have b2:(false&&onTheHeap (Value.builtin "BaseException.__getattribute__"))=false:=rfl;have b3:(Value.builtin "BaseException.__getattribute__"==Value.builtin "object.__getattribute__")=false:=by decide +kernel
 have b4:(onTheHeap (Value.ref C)&&Value.builtin "BaseException.__getattribute__"==Value.builtin "object.__getattribute__")=false:=by rw[b3];exact Bool.and_false _
 repeat (any_goals (first |assumption |with_reducible refine LA.at ?_ |with_reducible refine LB.at ?_ |with_reducible refine LC.at ?_ |wp_step))
 refine HZ c X p ?_
 repeat (any_goals (first |assumption |wp_step))
theorem Ia{Q:Option zda->zdj->Prop}(c:Bs K C)(X:K.In s.heap)(p:oY x C s.heap)(fin:Q (some (.ref C)) {s with toks:=s.toks+1}) :
 wpAny (model prog w) A (getAttr? (.ref x) "__class__") Q E s:=by
 obtain⟨h1,g1,d1,t1,o1⟩:=s;unfold getAttr? getAttrBy?;have X':K.In (⟨h1,g1,d1,t1+1,o1⟩:zdj).heap:=X;have p':oY x C (⟨h1,g1,d1,t1+1,o1⟩:zdj).heap:=p
 repeat (any_goals (first |assumption |with_reducible apply N9 c X' p' |wp_step))
end
theorem C0{K:zac}{x C:zc9}(c:Bs K C):PySem.W.KitX K (.ref x) (.ref C) (oY x C) where
 ty:=fun _ _ _ p=>p.type
 it:=fun _ _ X _=>by
  obtain⟨cd,hc,_⟩:=zcB c.cl;unfold PySem.W.clsIn at hc;split at hc
  ·rename_i ho;intro A' Q' E' s' k q;unfold isType loadHead;exact zdc (wpAny_loadPart (k _ _ (X _ _ ho)) (zdd q))
  ·cases hc
 ne:=fun h tp dd bt n sl X Y8=>by
  obtain⟨cd,hc,_⟩:=zcB c.cl;refine zbJ.mpr fun q=>?_;have e:C=tp:=Value.ref.inj (beq_iff_eq.mp q);subst e;unfold PySem.W.clsIn at hc;split at hc
  ·rename_i ho;have z:=(X _ _ ho).symm.trans Y8;cases z
  ·cases hc
 ca:=fun X p k=>Ia c X p k
def tD (x C:zc9):HO:=.ext (oY x C)
theorem Oa{P:zdl}{w:zdb}{H:Hp}{h:Heap}{x C:zc9}(p:oY x C h):dN P w H h x (tD x C):=by
 refine⟨p,?_,fun h1 h2 q k=>?_⟩
 ·obtain⟨o,h1,_⟩:=p;exact⟨o,h1⟩
 ·obtain⟨o,e1,e2⟩:=q;exact⟨o,k o e1,e2⟩
theorem dQ{X:Cx}{K:zac}(hK:X.K=K):nM X (.builtin "isinstance") (fun xs H Q=>∃a C D b,xs=[.ref a,.ref D]/\H a=some (tD a C)/\Bs K C/\zab K (.ref C) (.ref D)=some b/\Q (.bl b) H):=by
 intro pins s σ H xs us Q I r h;subst hK;obtain⟨a,C,D,b,rfl,hE,hc,e,q⟩:=h;cases r with
 |cons r1 r2=>
  cases r2 with
  |cons r3 r4=>
   cases r4;cases (show _=Value.ref a from r1);cases (show _=Value.ref D from r3);have ok:dN X.prog X.w H s.heap a (tD a C):=I.dD a _ hE;exact PySem.W.kia_one (C0 hc) I.zy ok.1 e (fun z=>nomatch z) fun tk=>⟨.bl b,H,I.tok tk,rfl,q⟩
theorem Ib{X:Cx}{K:zac}(hK:X.K=K):nM X (.builtin "isinstance") (fun xs H Q=>∃a C T b,xs=[.ref a,.ty T]/\H a=some (tD a C)/\Bs K C/\zab K (.ref C) (.type T)=some b/\Q (.bl b) H):=by
 intro pins s σ H xs us Q I r h;subst hK;obtain⟨a,C,T,b,rfl,hE,hc,e,q⟩:=h;cases r with
 |cons r1 r2=>
  cases r2 with
  |cons r3 r4=>
   cases r4;cases (show _=Value.ref a from r1);cases (show _=Value.type T from r3);have ok:dN X.prog X.w H s.heap a (tD a C):=I.dD a _ hE;exact PySem.W.kia_one (C0 hc) I.zy ok.1 e (fun z=>nomatch z) fun tk=>⟨.bl b,H,I.tok tk,rfl,q⟩
def Ends.drop (D:Ends) (i:Nat):Ends:={nx:=fun σ H=>D.nx (σ.set i none) H,rt:=D.rt,bk:=fun σ H=>D.bk (σ.set i none) H,ct:=fun σ H=>D.ct (σ.set i none) H}
section
variable{X:Cx}{pins:List (zc9×Obj)}{σ:St}{H:Hp}{s:zdj}{x:zc9}
theorem Inv.Th{o:HO}(I:Inv X pins σ H s)(n:H x=none)(h0:X.s₀.heap.get? x=none)(hL:x≠X.env.locals)(hc:∀y c,X.env.cells.lookup y=some c->c≠x)(hp:∀p∈X.pn++pins,p.1≠x)(ok:dN X.prog X.w (upd H x o) s.heap x o):Inv X pins σ (upd H x o) s:=by
 have away:∀b u,X.s₀.heap.get? b=some u->b≠x:=fun b u e z=>by rw[z,h0] at e;cases e
 refine⟨I.ok,I.os,I.bare,⟨I.base.keep,I.base.slot,fun b u e n' hx=>?_,I.base.there,fun b xs e=>?_,fun b ob u e=>?_,fun b ps e=>?_⟩,I.loc,I.cell,?_,fun y c e=>?_,fun p NW=>?_,fun b u e=>?_,I.len⟩
 ·rw[aq (away b u e)];exact I.base.free b u e n' hx
 ·have z:=I.base.j3 b xs e;rw[aq (aI z n)];exact z
 ·have z:=I.base.ot b ob u e;rw[aq (aI z n)];exact z
 ·obtain⟨m,e1⟩:=I.base.pD b ps e;exact⟨m,by rw[aq (aI e1 n)];exact e1⟩
 ·rw[aq (Ne.symm hL)];exact I.free
 ·rw[aq (hc y c e)];exact I.jK y c e
 ·obtain⟨a,b,c⟩:=I.pin p NW;exact⟨a,by rw[aq (hp p NW)];exact b,c⟩
 ·by_cases hb:b=x
  ·subst hb;rw[ae] at e;cases e;exact ok
  ·rw[aq hb] at e;exact(I.dD b u e).qU (fun _ _ _ q=>q) (fun c q=>by rw[aq (aI q n)];exact q) fun c xs q=>by rw[aq (aI q n)];exact q
theorem Inv.Ob{M:Model}{A:zdk}{E:zda->zdj->Prop}{i:Nat}{n:Str}{pos:Pos}{Q:Unit->zdj->Prop}(I:Inv X pins σ H s)(hN:X.N.Nodup)(hi:X.N[i]?=some n)(hk:X.env.scope.names.lookup n=some .local)
 (h:∀s',Inv X pins (σ.set i none) H s'->Q () s'):wpAny M A (do bindName X.env n .none;unbindBehindTheSuite X.env n pos) Q E s:=by
 obtain⟨m,hn,hl⟩:=id I.loc;have Wa:(X.env.scope.kind==.class ||(X.env.scope.kind==.module&&X.env.locals != X.env.globals))=false:=by rw[I.ok.kind];rfl
 have pH:i<σ.length:=by rw[I.len];exact(zap.mp hi).1
 have JN:=I.JN;obtain⟨oL,_,_,UG,_⟩:=id hn;refine wpAny_nameGoes_keeps hk hn Wa fun h' v Vv hs=>h _ ?_;have under:∀b o,X.s₀.heap.get? b=some o->h'.get? b=s.heap.get? b:=fun b o e=>hs.2 b (zaG (zaD (Heap.lt_size e) I.ok.above));refine⟨I.ok,I.os,I.bare,⟨fun b o e z hb hx=>(under b o e).trans (I.base.keep b o e z hb hx),fun b o e z hb hx=>?_,I.base.free,fun b o e hx=>?_,I.base.j3,I.base.ot,I.base.pD⟩,⟨_,Vv,fun j y v' e1 e2 e3=>?_⟩,fun y c e=>?_,I.free,I.jK,fun p hp=>?_,fun b ob e=>?_,by simpa using I.len⟩
 ·obtain⟨sl,e1⟩:=I.base.slot b o e z hb hx;exact⟨sl,(under b o e).trans e1⟩
 ·obtain⟨o',e1⟩:=I.base.there b o e hx;exact⟨o',(under b o e).trans e1⟩
 ·by_cases hj:j=i
  ·subst hj;rw[zbl pH] at e2;cases e2
  ·rw[zbq (Ne.symm hj)] at e2;obtain⟨u',r',q⟩:=hl j y v' e1 e2 e3;refine⟨u',r',?_⟩;rcases q with ⟨k,e⟩ |⟨k,c,e,z⟩
   ·have ny:y≠n:=fun z=>hj (wW hN e1 (z▸hi));exact .inl ⟨k,by simp[ny,e]⟩
   ·exact .inr ⟨k,c,e,z.sameBut hs (JN y c e)⟩
 ·obtain⟨w',z⟩:=I.cell y c e;exact⟨w',z.sameBut hs (JN y c e)⟩
 ·obtain⟨e,z,ne,nf,d⟩:=I.pin p hp;exact⟨(hs.2 p.1 ne).trans e,z,ne,nf,d⟩
 ·refine(I.dD b ob e).qU (fun c w' hc q=>(hs.2 c ?_).trans q) (fun _ q=>q) fun _ _ q=>q
  rintro rfl
  rcases hc with rfl |hc
  ·rw[I.free] at e;cases e
  ·rw[I.free] at hc;cases hc
end
def Lc (K:zac) (CH:zc9) (i:Nat) (sp:Sp) (ta:TA) (ts:TS):TS:=fun D σ H=>ta σ H fun vs H1=>sp vs H1 (fun _ H2=>D.nx σ H2) fun cls _ H2=>zao K cls (.ref CH)=some true/\
 ∃C,cls=.ref C/\∀y,H2 y=none->ts (D.drop i) (σ.set i (some (.ref y))) (upd H2 y (tD y C))
section
variable{X:Cx}{k i:Nat}{f CH:zc9}{fd:zdi}{ps:List Str}{sp:Sp}{fx cx n:Str}{p pos pos' np Wb QE:Pos}{e:Expr}{es:List Expr}{ta:TA}{ts:TS}{b0:Stmt}{Pj:List Stmt}
theorem Ld(hN:X.N.Nodup)(hi:X.N[i]?=some n)(Ic:X.env.scope.names.lookup n=some .local)(hex:X.ex=[])(F:bB X.prog X.w X.K X.mg X.base (kO X.prog X.w) k f fd ps sp)(hr:gi k X.A)(hg:Gl X fx)(hm:X.mg fx=some (.ref f))(hk:zaS X.K (.ref f)=true)(hb:Binds X.K fd ps [])
 (ha:∀pn xe,PA {X with pn:=pn,xe:=xe} (e::es) ta) (JV:X.stack=X.env::X.outer) (Y9:X.env.frame=some X.env.locals) (Za:Gl X cx) (Zb:X.mg cx=some (.ref CH)) (hs:∀x,EI (X.fP x) (b0::Pj) ts)
 (HQ:(fx==("__debug__":Str))=false:=by decide) (Zc:(cx==("__debug__":Str))=false:=by decide) (he:zdf (e::es) X.env=(false,eval e X.env)::zdf es X.env:=by rfl) (Cn:(backTo pos (zdf es X.env)).any (·.1)=false:=by rfl)
 (Zd:swapsWith (.Call (.Name fx p) (e::es) [] pos) none pos'.line X.env=pure false:=by rfl) :
 PS X (.Try [.Expr (.Call (.Name fx p) (e::es) [] pos) pos'] [.ExceptHandler (some (.Name cx np)) (some n) (b0::Pj) Wb] [] [] QE) (Lc X.K CH i sp ta ts):=by
 intro pins s σ H D I h;have hd:X.calm=true->X.A.handled=none:=I.ok.hd;have call:PE (X.pinned pins fun x s'=>∃H1 s1,Inv X pins σ H1 s1/\kO X.prog X.w X.stack H1 s1 (fun cls _ H2=>zao X.K cls (.ref CH)=some true/\∃C,cls=.ref C/\∀y,H2 y=none->ts (D.drop i) (σ.set i (some (.ref y))) (upd H2 y (tD y C))) x s') (.Call (.Name fx p) (e::es) [] pos)
  (fun σ' H' Q=>σ'=σ/\ta σ H' fun vs H1=>sp vs H1 Q fun cls _ H2=>zao X.K cls (.ref CH)=some true/\∃C,cls=.ref C/\∀y,H2 y=none->ts (D.drop i) (σ.set i (some (.ref y))) (upd H2 y (tD y C))):=by
  intro vt s' σ' H' Q I' h';obtain⟨rfl,h'⟩:=h';refine wpAny_Call_Name_kw (ou I' hg hm ?_ HQ);refine zcj (h₀:=X.base) I'.ok.mod.R0 hk (eI (ha _ _ pos vt s' σ' H' _ I' h') fun us s1 ⟨vs,H1,I1,r,q⟩=>⟨I1.zy,?_⟩) he Cn;have hl:us.length=ps.length:=by rw[<- r.length];exact F.len _ _ _ _ q
  have Xy:=hb s1 us I1.zy (by rw[zaR];exact hl);rw[zaR] at Xy;refine wpAny_call (codeAny_mono (F.run X.A X.stack s1 H1 ⟨us,[]⟩ us vs Q _ hr I1.Q0.QH Xy r q) fun r s2 hq=>?_);cases r with
  |error x=>exact⟨H1,s1,I1.Q0,hq⟩
  |ok fl=>
   cases fl with
   |ret u=>exact I1.after hq
   |next=>exact False.elim hq
   |brk=>exact False.elim hq
   |cont=>exact False.elim hq
 have body:=aj (cF (pos:=pos') call Zd) [] s σ H {nx:=D.nx,rt:=fun _ _=>False} (I.V9 _) ⟨rfl,h⟩;refine wpAny_Try_except (wpAny_mono body (fun fl s1 hf=>?_) fun x s1 hx=>?_)
 ·cases fl with
  |next=>
   obtain⟨σ',H',I',q⟩:=hf;exact wpAny_execs_nil ⟨σ',H',I'.Q0,q⟩
  |ret u=>obtain⟨_,_,_,_,_,q⟩:=hf;exact False.elim q
  |brk=>obtain⟨_,_,_,q⟩:=hf;exact False.elim q
  |cont=>obtain⟨_,_,_,q⟩:=hf;exact False.elim q
 ·obtain⟨H1,s0,I0,y,cls,a0,B,H',rfl,Y⟩:=hx;obtain⟨Wc,C,rfl,hq⟩:=Y.want;have fl:=Y.fl;have Np:X.A.frames=some (X.env::X.outer):=by rw[<- JV];exact I.ok.frames
  rw[JV] at fl;refine wpAny_looks_onW Np Y9 fl fun h4 Ti Ze=>?_;refine wpAny_landsW Ti fun h5 Le Zf=>?_;have up:=Ze.trans Zf;have state:∀ {h6:Heap},B.StaysIn h6->s1.heap.UpToSlots h6->Inv X pins σ H' {s1 with heap:=h6}:=fun {h6} st We=>by
   obtain⟨u,dD⟩:=Y.move I0 st We;exact I0.OX (s':={s1 with heap:=h6}) Y.os u dD Y.bare fun b z=>absurd z (by simp)
  have I5:=state Le.1 up;refine wpAny_handleBy_cons (codeAny_handlers_test (ou (X:=X.fP y) (I5.fP y) Za Zb ?_ Zc)) (by intro q;cases q);obtain⟨ob,Zg,Wf⟩:=Le.there;have LT:PySem.W.Looks (model X.prog X.w) h5 (typeOf (.ref y)) (.ref C):=by
   rw[<- Wf];exact(PySem.W.Looks.ld Zg).andThen .now
  refine(PySem.W.exm_one (I5.zy) LT Wc).here ?_;refine codeAny_handlers_suite_as ?_;refine lands_againW Le fun h6 Lf We=>?_;have I6:=state Lf.1 (up.trans We);obtain⟨o6,Wg,Wh⟩:=Lf.there;have Xz:B.get? y=none:=fl.2.1;have nH:H' y=none:=by
   cases e:H' y with
   |none=>rfl
   |some u=>obtain⟨o,ho⟩:=Y.JL y u e;rw[Xz] at ho;cases ho
  have Wi:∃vs,o6.data=.fields vs:=by
   obtain⟨_,_,_,oe,vs,_,_,_,XA,_,Zh,_⟩:=Lf;rw[Wg] at XA;cases XA;exact⟨vs,Zh⟩
  have Tj:∀b∈fM X.stack,b≠y:=fun b hb z=>by
   obtain⟨_,o',qV,Zi⟩:=(I6.stack.mem hb)
   rw[z,Wg] at qV;cases qV;obtain⟨vs,hv⟩:=Wi;exact Zi vs hv
  have out:∀b o,s0.heap.get? b=some o->b≠y:=fun b o e z=>by
   by_cases hb:b∈fM X.stack
   ·exact Tj b hb z
   ·obtain⟨o',qV⟩:=Y.old b o e hb;rw[z,Xz] at qV;cases qV
  have hL:y≠X.env.locals:=by
   obtain⟨m0,⟨oL,_,_,UG,_⟩,_⟩:=I0.loc;exact fun z=>out _ _ UG z.symm
  have hC:∀z c,X.env.cells.lookup z=some c->c≠y:=fun z c e=>by
   obtain⟨_,o',qV,_⟩:=I0.cell z c e;exact out c o' qV
  have hP:∀q∈X.pn++pins,q.1≠y:=fun q Nt=>out q.1 _ (I0.pin q Nt).1;have h0:X.s₀.heap.get? y=none:=by
   cases e:X.s₀.heap.get? y with
   |none=>rfl
   |some o=>
    obtain⟨o',qV⟩:=I0.base.there y o e (by rw[hex];simp);exact absurd rfl (out y o' qV)
  have I7:=(I6.Th (o:=tD y C) nH h0 hL hC hP (Oa ⟨o6,Wg,Wh⟩)).fP y;refine wX (X:=X.fP y) I7 hN hi (.inl Ic) (show RelV (.ref y) (.ref y) from rfl) (fun s8 I8=>?_) (.inr Ic);refine wpAny_mono (hs y pins s8 (σ.set i (some (.ref y))) (upd H' y (tD y C)) (D.drop i) I8 (hq y nH)) (fun fl s9 q9=>?_) fun _ _ z=>False.elim z;have UT:=q9.jN hd;cases fl with
  |next=>obtain⟨σ',H9,I9,q⟩:=UT;exact I9.Ob hN hi Ic fun s' I'=>⟨_,_,I',q⟩
  |brk=>obtain⟨σ',H9,I9,q⟩:=UT;exact I9.Ob hN hi Ic fun s' I'=>⟨_,_,I',q⟩
  |cont=>obtain⟨σ',H9,I9,q⟩:=UT;exact I9.Ob hN hi Ic fun s' I'=>⟨_,_,I',q⟩
  |ret u=>obtain⟨v,σ',H9,I9,r,q⟩:=UT;exact I9.Ob hN hi Ic fun s' I'=>⟨v,_,_,I',r,q⟩
end
def Q1 (z:Str):It:=⟨fun i _=>i<z.cps.size,fun i H x H'=>H'=H/\∃c,z.cps[i]?=some c/\x=.str ⟨#[c]⟩,fun i _=>z.cps.size<=i⟩
section
variable{P:zdl}{w:zdb}{K:zac}{tg:Expr}
theorem Ie(z:Str)(t:Tok)(it:zc9):Turn P w K tg (Q1 z) [it] it (fun i h=>h.IsStrIter it "str_ascii_iterator" z t i) where
 mem:=by simp
 obj:=fun i h st b hb=>by
  have e:b=it:=by simpa using hb
  subst e;obtain⟨o,e,c,d⟩:=st;exact⟨o,e,fun v y=>by rw[d] at y;cases y⟩
 keep:=fun i h h' st k=>let ⟨o,ho,r⟩:=st;⟨o,k it (by simp) o ho,r⟩
 item:=by
  intro X hP hw hK hc i pins s σ H E I hf st hg;subst hP hw hK;obtain⟨f0,f1,f2,f3,f4,f5⟩:=hf it (by simp);have pH:i<z.cps.size:=hg;refine wpAny_pyNext_ascii_item st (c:=z.cps[i]) (by simp[pH]) fun h' Cy sb=>?_;have I1:Inv X pins σ H {s with heap:=h',toks:=s.toks+1}:=I.turned (fun b o hb e=>(sb.2 b hb).trans e) f0 f1 f3 f4 f5;obtain⟨o,e,c,d⟩:=id Cy;exact⟨_,rfl,Ge (s:={s with heap:=h',toks:=s.toks+1}) e c d (by decide) ⟨.str ⟨#[z.cps[i]]⟩,H,I1,⟨_,rfl⟩,⟨rfl,z.cps[i],by simp[pH],rfl⟩,Cy,fun b hb=>(hf b hb).1⟩⟩
 done:=by
  intro X hP hw hK hc i pins s σ H E I hf st hg;subst hP hw hK;obtain⟨f0,f1,f2,f3,f4,f5⟩:=hf it (by simp);have hle:z.cps.size<=i:=hg;exact wpAny_pyNext_ascii_end (I.ok.hd hc) st (by simp[hle]) fun h' eb=>⟨rfl,I.turned (t':=s.toks) (fun b o hb e=>eb b o hb e) f0 f1 f3 f4 f5⟩
 self:=fun _ _ _ _ _ st h=>wpAny_pyIter_striter_ascii st h
theorem Ig(z:Str)(t:Tok)(it:zc9):Turn P w K tg (Q1 z) [it] it (fun i h=>h.IsStrIter it "str_iterator" z t i) where
 mem:=by simp
 obj:=fun i h st b hb=>by
  have e:b=it:=by simpa using hb
  subst e;obtain⟨o,e,c,d⟩:=st;exact⟨o,e,fun v y=>by rw[d] at y;cases y⟩
 keep:=fun i h h' st k=>let ⟨o,ho,r⟩:=st;⟨o,k it (by simp) o ho,r⟩
 item:=by
  intro X hP hw hK hc i pins s σ H E I hf st hg;subst hP hw hK;obtain⟨f0,f1,f2,f3,f4,f5⟩:=hf it (by simp);have pH:i<z.cps.size:=hg;refine wpAny_pyNext_wide_item st (c:=z.cps[i]) (by simp[pH]) fun h' Cy sb=>?_;have I1:Inv X pins σ H {s with heap:=h',toks:=s.toks+1}:=I.turned (fun b o hb e=>(sb.2 b hb).trans e) f0 f1 f3 f4 f5;obtain⟨o,e,c,d⟩:=id Cy;exact⟨_,rfl,Ge (s:={s with heap:=h',toks:=s.toks+1}) e c d (by decide) ⟨.str ⟨#[z.cps[i]]⟩,H,I1,⟨_,rfl⟩,⟨rfl,z.cps[i],by simp[pH],rfl⟩,Cy,fun b hb=>(hf b hb).1⟩⟩
 done:=by
  intro X hP hw hK hc i pins s σ H E I hf st hg;subst hP hw hK;obtain⟨f0,f1,f2,f3,f4,f5⟩:=hf it (by simp);have hle:z.cps.size<=i:=hg;exact wpAny_pyNext_wide_end (I.ok.hd hc) st (by simp[hle]) fun h' eb=>⟨rfl,I.turned (t':=s.toks) (fun b o hb e=>eb b o hb e) f0 f1 f3 f4 f5⟩
 self:=fun _ _ _ _ _ st h=>wpAny_pyIter_striter_wide st h
end
section
variable{X:Cx}{tg:Expr}
def Q2 (tl:TE):TI:=fun σ H R=>tl σ H fun x H1=>∃z,x=.str z/\R (Q1 z) H1
theorem Lg{l:Expr}{tl:TE}(hl:PE X l tl):PI X tg l (Q2 tl):=by
 intro pins s σ H R I h;refine eI (hl pins s σ H _ I h) fun v s1 zqz=>?_;obtain⟨x,H1,I1,r1,q1⟩:=zqz;obtain⟨z,e,q⟩:=q1;subst e;obtain⟨t,rfl⟩:=r1;have fp:∀b∈[s1.heap.objs.size],rM X pins H1 b:=fun b hb=>by
  have e:b=s1.heap.objs.size:=by simpa using hb
  subst e;exact I1.JX (zai _) (I1.dD.fresh (zai _))
 cases ha:z.cps.all (·<128) with
 |false=>exact wpAny_pyIter_wide ha ⟨s1.heap.objs.size,[s1.heap.objs.size],_,_,H1,rfl,I1.kept (t':=s1.toks) fun b o e=>Heap.get?_push_of_some _ e,Ig z t _,⟨_,Heap.get?_push_size _ rfl,rfl,rfl⟩,fp,q⟩
 |true=>exact wpAny_pyIter_ascii ha ⟨s1.heap.objs.size,[s1.heap.objs.size],_,_,H1,rfl,I1.kept (t':=s1.toks) fun b o e=>Heap.get?_push_of_some _ e,Ie z t _,⟨_,Heap.get?_push_size _ rfl,rfl,rfl⟩,fp,q⟩
end
theorem Oc{z:Str}{g:TG}{tb:TS}{D:Ends}{σ:St}{H:Hp}(Pv:Nat->St->Hp->Prop)(h0:Pv 0 σ H)
 (hs:∀i c σ H,z.cps.toList[i]?=some c->Pv i σ H->g (.str ⟨#[c]⟩) σ H fun σ2 H2=>tb {D with nx:=Pv (i+1),ct:=Pv (i+1),bk:=D.nx} σ2 H2) (hd:∀σ H,Pv z.length σ H->D.nx σ H) :
 ∃W:Nat->Nat->St->Hp->Prop,(∃m,W 0 m σ H)/\∀i m σ H,W i m σ H->
  ((Q1 z).stop i H/\D.nx σ H)\/((Q1 z).go i H/\∃N:St->Hp->Prop,(∀σ' H',N σ' H'->∃m',m'<m/\W (i+1) m' σ' H')/\∀x H',(Q1 z).HF i H x H'->g x σ H' fun σ2 H2=>tb {D with nx:=N,ct:=N,bk:=D.nx} σ2 H2):=by
 refine⟨fun i m σ H=>m=z.cps.size-i/\i<=z.cps.size/\Pv i σ H,⟨z.cps.size,by simp,za6 _,h0⟩,?_⟩
 rintro i m σ H ⟨rfl,hi,p⟩
 by_cases pH:i<z.cps.size
 ·refine .inr ⟨pH,Pv (i+1),fun σ' H' p'=>⟨z.cps.size-(i+1),by lia,rfl,pH,p'⟩,fun x H' y=>?_⟩;obtain⟨rfl,c,hc,rfl⟩:=y;exact hs i c σ _ (by simpa using hc) p
 ·have e:i=z.cps.size:=by lia
  subst e;exact .inl ⟨zai _,hd σ H p⟩
section
variable{X:Cx}
def zD (z:Str) (n:Nat):Str:=⟨(zan n z.cps).foldl (· ++ ·) #[]⟩
theorem iU:pN X (binaryOp .Mult) (fun x y H Q=>∃z n,x=.str z/\y=.int n/\-(2 ^ 63)<=n/\n<2 ^ 31/\z.length*n.toNat<=zdh/\Q (.str (zD z n.toNat)) H):=by
 intro pins s σ H x y v u Q I rx ry h;obtain⟨z,n,rfl,rfl,h1,h2,hz,q⟩:=h;obtain⟨t,rfl⟩:=rx;obtain⟨t',rfl⟩:=ry;have line:=pO;refine P.mul_str (by
  have e1:decide (n < -(2 ^ 63:Int))=false:=decide_eq_false (by lia);have e2:decide (n ≥ 2 ^ 63)=false:=decide_eq_false (by lia);rw[e1,e2,zcW]) (fun c _=>?_) (fun _ _=>?_) ?_
 ·have hn:0<n:=by lia
  have:(z.length:Int)<=(2 ^ 63-1)/n:=by
   apply Int.le_ediv_of_mul_le hn
   have e:(z.length:Int)*n=((z.length*n.toNat:Nat):Int):=by rw[Int.natCast_mul,zcb (by lia)]
   rw[e];lia
  lia
 ·unfold Builtin.Str.tooLong;simp only[gt_iff_lt,decide_eq_false_iff_not,Nat.not_lt];exact hz
 ·by_cases c1:n<1
  ·rw[if_pos c1];have e:n.toNat=0:=by lia
   rw[e] at q;exact⟨by decide,⟨.str Str.empty,H,I.tok _,⟨_,rfl⟩,q⟩⟩
  ·rw[if_neg c1];by_cases c2:(n==1 ||z.length==0)=true
   ·rw[if_pos c2];have e:zD z n.toNat=z:=by
     unfold zD;rcases zc0.mp c2 with c |c
     ·have e1:n.toNat=1:=by have:=beq_iff_eq.mp c;lia
      rw[e1];simp
     ·have e0:z.cps = #[]:=by
       have:z.cps.size=0:=beq_iff_eq.mp c;exact Array.eq_empty_of_size_eq_zero this
      have all:∀k:Nat,(zan k (#[]:Array Nat)).foldl (· ++ ·) #[] = #[]:=fun k=>by
       induction k with
       |zero=>rfl
       |succ k ih=>rw[zaQ,zbj];exact ih
      obtain⟨cps⟩:=z;simp only at e0;rw[e0,all]
    rw[e] at q;exact⟨.str z,H,I,⟨t,rfl⟩,q⟩
   ·rw[if_neg c2];refine⟨?_,⟨.str (zD z n.toNat),H,I.tok _,⟨_,rfl⟩,q⟩⟩;show (zD z n.toNat).length<=zdh;have len:∀(k:Nat) (acc:Array Nat),((zan k z.cps).foldl (· ++ ·) acc).size=acc.size+k*z.cps.size:=fun k=>by
     induction k with
     |zero=>intro acc;simp
     |succ k ih=>intro acc;rw[zaQ,zbj,ih,Array.size_append,Nat.succ_mul];lia
    show ((zan n.toNat z.cps).foldl (· ++ ·) #[]).size<=zdh;rw[len];have:n.toNat*z.cps.size=z.length*n.toNat:=Nat.mul_comm _ _;simp only[zaq,za3];lia
theorem tE:nM X (.type "int") (fun xs H Q=>∃z n,xs=[.str z]/\PySem.intText? z=some n/\z.length<=640/\Q (.int n) H):=by
 intro pins s σ H xs us Q I r h;obtain⟨z,n,rfl,hn,hl,q⟩:=h;obtain⟨u,rfl,ru⟩:=vals1 r;obtain⟨t,rfl⟩:=ru;exact PySem.W.KIN.call_text hn hl ⟨.int n,H,I.tok _,⟨_,rfl⟩,q⟩
theorem Lh(hc:X.calm=true):nM X (.builtin "all") (fun xs H Q=>∃(p:zc9) (bs:List Bool),xs=[.ref p]/\g8 X.K H p (bs.map V.bl)/\Q (.bl (bs.all id)) H):=by
 intro pins s σ H xs us Q I r h;obtain⟨p,bs,rfl,hl,q⟩:=h;obtain⟨u,rfl,ru⟩:=vals1 r;cases (show u=Value.ref p from ru);obtain⟨bt,rv,pl,_⟩:=I.list hl;have pH:p<s.heap.objs.size:=by
  obtain⟨o,_,e,_⟩:=pl;exact Heap.lt_size e
 refine call_all_walk (wpAny_pyIter_list pl.isList ?_);have ne:p≠s.heap.objs.size:=zaG pH;refine⟨s.heap.objs.size,_,_,_,_,_,fun i=>bs.getD i true,rfl,Walks.list (show X.A.in1.handled=none from I.ok.hd hc) _ p ne bt.toArray,⟨⟨_,Heap.get?_push_size _ rfl,rfl,rfl⟩,pl.isList.push _⟩,fun i v s' Q' E' hv hq=>?_,fun h' tk hk=>?_⟩
 ·have UJ:bt[i]?=some v:=by simpa using hv
  have hb:∃b,bs[i]?=some b:=by
   have:i<bs.length:=by
    have l1:=rv.length;rw[zae] at l1;have:=(zap.mp UJ).1;lia
   exact⟨bs[i],zag this⟩
  obtain⟨b,hb⟩:=hb;obtain⟨u,hu,ru⟩:=rv.get (i:=i) (x:=.bl b) (by rw[zaF,hb];rfl);rw[UJ] at hu;cases hu;cases (show v=Value.bool b from ru);have e:bs.getD i true=b:=by rw[zaA,hb];rfl
  have Nt:Q' (bs.getD i true) s':=hq;rw[e] at Nt;exact zdd Nt
 ·refine⟨.bl (bs.all id),H,I.kept (h':=h') (t':=tk) (fun b o e=>hk b o ?_ (Heap.get?_push_of_some _ e)),?_,q⟩
  ·have:b≠s.heap.objs.size:=zaG (Heap.lt_size e);simpa using this
  ·have ln:bt.toArray.size=bs.length:=by rw[zaq,<- rv.length,zae]
   show Value.bool ((zaV bt.toArray.size).all fun i=>bs.getD i true)=Value.bool (bs.all id);rw[ln]
   congr 1
   have key:∀l:List Bool,((zaV l.length).all fun i=>l.getD i true)=l.all id:=fun l=>by
    rw[zbh,za0,za0]
    constructor
    ·intro h x hx;obtain⟨i,hi,rfl⟩:=zcc hx;have:=h i (zbw.mpr hi);rw[zaA,zag hi] at this;exact this
    ·intro h i hi;have hi:=zbw.mp hi;rw[zaA,zag hi];exact h _ (zaT hi)
   exact key bs
end
theorem Li{J:It}{D:zc9}{tc:TT}{te:TE}{Q:VK}{r:St}{H:Hp}(xs:List V)(p:V->Bool)(f:V->V)(hl:xs.length<=16000000)
 (go:∀i ys,i<xs.length->J.go i (upd H D (.lst ys))) (HF:∀i ys x H',J.HF i (upd H D (.lst ys)) x H'->H'=upd H D (.lst ys)/\xs[i]?=some x) (stop:∀ys,J.stop xs.length (upd H D (.lst ys)))
 (test:∀x∈xs,∀ys (R:Bool->Hp->Prop),R (p x) (upd H D (.lst ys))->tc (some x::r) (upd H D (.lst ys)) R)
 (step:∀x∈xs,p x=true->∀ys (R:VK),R (f x) (upd H D (.lst ys))->te (some x::r) (upd H D (.lst ys)) R)
 (q:Q (.ref D) (upd H D (.lst ((xs.filter p).map f)))):vC J D (nJ 0) tc te Q (none::r) (upd H D (.lst [])):=by
 refine⟨fun i m τ H2=>m=xs.length-i/\i<=xs.length/\(∃x,τ=x::r)/\H2=upd H D (.lst (((xs.take i).filter p).map f)),⟨xs.length,by simp,za6 _,⟨none,rfl⟩,by simp⟩,?_⟩
 rintro i m τ H2 ⟨rfl,hi,⟨x,rfl⟩,rfl⟩
 by_cases pH:i<xs.length
 ·refine .inr ⟨go i _ pH,fun τ' H'=>(∃x,τ'=x::r)/\H'=upd H D (.lst (((xs.take (i+1)).filter p).map f)),fun τ' H' ⟨h1,h2⟩=>⟨xs.length-(i+1),by lia,rfl,pH,h1,h2⟩,fun y H' hy=>?_⟩;obtain⟨rfl,hz⟩:=HF i _ y H' hy;clear hy;have hy:=hz;rw[zag pH] at hy;cases hy;have mem:=zaT pH;simp only[nJ,zcx];refine test _ mem _ _ ?_;rw[zbn pH,List.filter_append,zat];cases hp:p xs[i] with
  |false=>
   rw[if_neg zad];refine⟨⟨_,rfl⟩,?_⟩;simp[hp]
  |true=>
   rw[if_pos rfl];refine step _ mem hp _ _ ⟨_,ae,?_,⟨_,rfl⟩,?_⟩
   ·have h1:(((xs.take i).filter p).map f).length<=i:=by
     rw[zae];exact zaB (zcP _ _) (by rw[zbb];lia)
    have:zdh=2 ^ 24:=rfl;lia
   ·rw[Be];simp[hp]
 ·have e:i=xs.length:=by lia
  subst e;refine .inl ⟨stop _,?_⟩;rw[zbF];exact q
theorem Lj{z:Str}{D:zc9}{tc:TT}{te:TE}{Q:VK}{r:St}{H:Hp}(p:Nat->Bool)(f:Nat->V)(hl:z.length<=16000000)
 (test:∀c∈z.cps.toList,∀ys (R:Bool->Hp->Prop),R (p c) (upd H D (.lst ys))->tc (some (.str ⟨#[c]⟩)::r) (upd H D (.lst ys)) R)
 (step:∀c∈z.cps.toList,p c=true->∀ys (R:VK),R (f c) (upd H D (.lst ys))->te (some (.str ⟨#[c]⟩)::r) (upd H D (.lst ys)) R)
 (q:Q (.ref D) (upd H D (.lst ((z.cps.toList.filter p).map f)))):vC (Q1 z) D (nJ 0) tc te Q (none::r) (upd H D (.lst [])):=by
 have code:∀(c:Nat),(match V.str ⟨#[c]⟩ with |.str y=>y.cps.toList.headD 0 |_=>0)=c:=fun c=>rfl;refine Li (z.cps.toList.map fun c=>V.str ⟨#[c]⟩) (fun x=>p (match x with |.str y=>y.cps.toList.headD 0 |_=>0)) (fun x=>f (match x with |.str y=>y.cps.toList.headD 0 |_=>0)) (by rw[zae];simpa[Str.length] using hl)
  (fun i ys hi=>?_) (fun i ys x H' hy=>?_) (fun ys=>?_) (fun x hx ys R hR=>?_) (fun x hx hp ys R hR=>?_) ?_
 ·show i<z.cps.size;simpa using hi
 ·obtain⟨rfl,c,hc,rfl⟩:=hy;refine⟨rfl,?_⟩;rw[zaF];have:z.cps.toList[i]?=some c:=by simpa using hc
  rw[this];rfl
 ·show z.cps.size<=_;simp
 ·obtain⟨c,hc,rfl⟩:=zaK.mp hx;exact test c hc ys R hR
 ·obtain⟨c,hc,rfl⟩:=zaK.mp hx;exact step c hc hp ys R hR
 ·rw[List.filter_map,zbL];exact q
abbrev W:=PM.W
def S (w:W):Str:=⟨w.toArray⟩
def sv (w:W):V:=.str (S w)
theorem Q3(w:W):(S w).cps.toList=w:=rfl
theorem eE(w:W):(S w).length=w.length:=by simp[S,Str.length]
theorem C1{a b:W}:S a=S b↔a=b:=⟨fun h=>by have:=congrArg (fun z:Str=>z.cps.toList) h;simpa[S] using this,fun h=>by rw[h]⟩
theorem AM(a b:W):S a++S b=S (a++b):=by
 show (⟨a.toArray++b.toArray⟩:Str)=_;simp[S]
theorem iV{a b:W}:sv a=sv b↔a=b:=by unfold sv;rw[V.str.injEq];exact C1
theorem Lk(c:Nat):(⟨#[c]⟩:Str)=S [c]:=rfl
def pE:PM.Tr->Dp
 |.num n=>.tup [.str "number",.int n]
 |.box x=>.tup [.str "box",.str (S x)]
 |.bin o l r=>.tup [.str (S o),pE l,pE r]
def kindS:Nat->Str
 |0=>"letter"
 |1=>"figure"
 |2=>"sign"
 |_=>""
def bN (p:zc9) (H H':Hp):Prop:=∀b o,b≠p->H b=some o->H' b=some o
theorem bN.refl(p:zc9)(H:Hp):bN p H H:=fun _ _ _ h=>h
theorem bN.trans{p:zc9}{H H1 H2:Hp}(a:bN p H H1)(b:bN p H1 H2):bN p H H2:=fun c o n h=>b c o n (a c o n h)
theorem bN.of{p:zc9}{H H':Hp}(s:ar H H'):bN p H H':=fun b o _ h=>s b o h
theorem bN.put{p:zc9}{H H1:Hp}(a:bN p H H1)(o:HO):bN p H (upd H1 p o):=fun b u n h=>by rw[aq n];exact a b u n h
theorem bN.new{p q:zc9}{H H1:Hp}(a:bN p H H1)(h:H1 q=none)(o:HO):bN p H (upd H1 q o):=fun b u n e=>by rw[aq (aI (a b u n e) h)];exact a b u n e
theorem bN.same{p:zc9}{H H':Hp}(a:bN p H H')(h:H p=none):ar H H':=fun b o e=>a b o (aI e h) e
structure sT(CP:zc9)(H:Hp)(p l dx:zc9)(ps:List W)(k:Nat):Prop where
 ins:H p=some (.ins CP dx [("pieces",.ref l),("place",.int k)])
 own:H dx=some (.own p)
 lst:H l=some (.lst (ps.map sv))
 le:k<=ps.length
 pos:∀q∈ps,q≠[]
 len:∀q∈ps,q.length<=60
 many:ps.length<=60
theorem sT.nd{CP p l dx:zc9}{H:Hp}{ps:List W}{k:Nat}(o:sT CP H p l dx ps k):dx≠p:=dC o.own o.ins (by intro z;cases z)
theorem sT.nl{CP p l dx:zc9}{H:Hp}{ps:List W}{k:Nat}(o:sT CP H p l dx ps k):l≠p:=dC o.lst o.ins (by intro z;cases z)
theorem sT.at{CP p l dx:zc9}{H H':Hp}{ps:List W}{k j:Nat}(o:sT CP H p l dx ps k)(u:bN p H H')(e:H' p=some (.ins CP dx [("pieces",.ref l),("place",.int j)]))(hj:j<=ps.length):sT CP H' p l dx ps j:=
 ⟨e,u _ _ o.nd o.own,u _ _ o.nl o.lst,hj,o.pos,o.len,o.many⟩
theorem Rep.nP{K:zac}{H H':Hp}{p C dx:zc9}{fs:List (Str×V)}(hp:H p=some (.ins C dx fs))(u:bN p H H'):(∀(d:Dp) (v:V),Rep K H d v->Rep K H' d v)/\∀(ds:List Dp) (vs:List V),bf K H ds vs->bf K H' ds vs:=by
 have st:∀a xs,eS K H a xs->eS K H' a xs:=fun a xs h=>by
  rcases h with (h |⟨o,h⟩) |h
  ·exact .inl (.inl (u _ _ (dC h hp (by intro z;cases z)) h))
  ·exact .inl (.inr ⟨o,u _ _ (dC h hp (by intro z;cases z)) h⟩)
  ·exact .inr h
 have sl:∀a xs,g8 K H a xs->g8 K H' a xs:=fun a xs h=>by
  rcases h with (h |⟨o,h⟩) |h
  ·exact .inl (.inl (u _ _ (dC h hp (by intro z;cases z)) h))
  ·exact .inl (.inr ⟨o,u _ _ (dC h hp (by intro z;cases z)) h⟩)
  ·exact .inr h
 refine⟨fun d=>?_,fun ds=>?_⟩
 ·exact Dp.rec (motive_1:=fun d=>∀v,Rep K H d v->Rep K H' d v) (motive_2:=fun ds=>∀vs,bf K H ds vs->bf K H' ds vs)
   (fun v h=>by rw[Rep.tq] at h ⊢;exact h) (fun b v h=>by rw[Rep.uG] at h ⊢;exact h) (fun i v h=>by rw[Rep.dG] at h ⊢;exact h) (fun x v h=>by rw[Rep.bh] at h ⊢;exact h)
   (fun l ih v h=>by rw[Rep.cq] at h ⊢;obtain⟨a,xs,e,q,r⟩:=h;exact⟨a,xs,e,st a xs q,ih xs r⟩)
   (fun l ih v h=>by rw[Rep.ic] at h ⊢;obtain⟨a,xs,e,q,r⟩:=h;exact⟨a,xs,e,sl a xs q,ih xs r⟩)
   (fun vs h=>by rw[bf.cj] at h ⊢;exact h)
   (fun d ds i1 i2 vs h=>by rw[bf.bP] at h ⊢;obtain⟨v,r,e,x,y⟩:=h;exact⟨v,r,e,i1 v x,i2 r y⟩) d
 ·exact Dp.rec_1 (motive_1:=fun d=>∀v,Rep K H d v->Rep K H' d v) (motive_2:=fun ds=>∀vs,bf K H ds vs->bf K H' ds vs)
   (fun v h=>by rw[Rep.tq] at h ⊢;exact h) (fun b v h=>by rw[Rep.uG] at h ⊢;exact h) (fun i v h=>by rw[Rep.dG] at h ⊢;exact h) (fun x v h=>by rw[Rep.bh] at h ⊢;exact h)
   (fun l ih v h=>by rw[Rep.cq] at h ⊢;obtain⟨a,xs,e,q,r⟩:=h;exact⟨a,xs,e,st a xs q,ih xs r⟩)
   (fun l ih v h=>by rw[Rep.ic] at h ⊢;obtain⟨a,xs,e,q,r⟩:=h;exact⟨a,xs,e,sl a xs q,ih xs r⟩)
   (fun vs h=>by rw[bf.cj] at h ⊢;exact h)
   (fun d ds i1 i2 vs h=>by rw[bf.bP] at h ⊢;obtain⟨v,r,e,x,y⟩:=h;exact⟨v,r,e,i1 v x,i2 r y⟩) ds
section
variable(K:zac)(CP CN:zc9)
def Ff (ok:Nat->Bool) (signs:Str):Sp:=fun vs H Q _=>∃w:W,vs=[sv w,.str signs]/\w.length<=1000/\(∀c,decide (c∈signs.cps.toList)=ok c)/\∀H',ar H H'->Q (.bl (w.all ok)) H'
def xv:Sp:=fun vs H Q _=>∃w:W,vs=[sv w]/\w.length<=16000000/\∀H',ar H H'->Q (.bl (PM.isName w)) H'
def rQ:Sp:=fun vs H Q _=>∃w:W,vs=[sv w]/\w.length<=16000000/\∀H',ar H H'->Q (.bl (PM.isNumber w)) H'
def C2:Sp:=fun vs H Q _=>∃c:Nat,vs=[sv [c]]/\Q (.str (kindS (PM.kind c))) H
def xw:Sp:=fun vs H Q _=>∃w:W,vs=[sv w]/\w.length<=60/\∀l H',ar H H'->H l=none->H' l=some (.lst ((PM.pieces w).map sv))->Q (.ref l) H'
def Ll:Sp:=fun vs H Q _=>∃(p dx:zc9) (w:W),vs=[.ref p,sv w]/\H p=some (.ins CP dx [])/\H dx=some (.own p)/\w.length<=60/\∀l H',bN p H H'->sT CP H' p l dx (PM.pieces w) 0->Q .dB H'
def tF:Sp:=fun vs H Q _=>∃(p l dx:zc9) (ps:List W) (k:Nat),vs=[.ref p]/\sT CP H p l dx ps k/\Q (sv ((ps.drop k).headD [])) H
def uI:Sp:=fun vs H Q E=>∃(p l dx:zc9) (ps:List W) (k:Nat),vs=[.ref p]/\sT CP H p l dx ps k/\
 match ps.drop k with
 |[]=>E (.ref CN) none H
 |q::_=>∀H',bN p H H'->sT CP H' p l dx ps (k+1)->Q (sv q) H'
def pW (f:PM.P) (d:Int):Sp:=fun vs H Q E=>∃(p l dx:zc9) (ps:List W) (k:Nat),vs=[.ref p,.int d]/\sT CP H p l dx ps k/\
 match f (ps.drop k) with
 |none=>∀H',bN p H H'->E (.ref CN) none H'
 |some (t,r)=>∀v H' j,bN p H H'->sT CP H' p l dx ps j->ps.drop j=r->Rep K H' (pE t) v->Q v H'
def UU:Nat->PM.P
 |0=>fun _=>none
 |n+1=>fun ps=>match PM.rO (PM.factor n) ps with
  |some (e,q::r)=>if q=[41] then some (e,r) else none
  |_=>none
def uJ (n:Nat) (d:Int):Sp:=pW K CP CN (UU n) d
def Q4:Sp:=fun vs H Q E=>∃w:W,vs=[sv w]/\w.length<=16000000/\
 match PM.expr w with
 |none=>∀H',ar H H'->E (.ref CN) none H'
 |some t=>∀v H',ar H H'->Rep K H' (pE t) v->Q v H'
end
theorem C3(n:Nat)(y:W)(r:List W):PM.factor n (y::r)=if PM.isNumber y then some (.num (PM.oC y),r) else if PM.isName y then some (.box y,r) else if y=[40] then UU n r else none:=by
 cases n with
 |zero=>
  show PM.vE _ _=_;rw[PM.kY];rfl
 |succ n=>
  show PM.vE _ _=_;rw[PM.kY];rfl
theorem C4{y:W}(h:PM.isNumber y=true):PySem.intText? (S y)=some (PM.oC y):=by
 simp only[PM.isNumber,zaJ,decide_eq_true_eq] at h;obtain⟨⟨⟨h1,h2⟩,h3⟩,_⟩:=h;have Q5:∀c∈y,48<=c/\c<=57:=fun c hc=>by
  have:=za0.mp h3 c hc;simpa[PM.jL] using this
 have ne:y≠[]:=by rintro rfl;simp at h1
 have:=PySem.intText_digits (x:=S y) Q5 ne (by rw[eE];lia);rw[this]
 congr 1
 have key:∀(l:W),(∀c∈l,48<=c/\c<=57)->∀a:Nat,((l.foldl (fun a c=>a*10+(c-48)) a:Nat):Int)=l.foldl (fun (a:Int) (c:Nat)=>a*10+((c:Int)-48)) (a:Int):=by
  intro l
  induction l with
  |nil=>intro _ a;rfl
  |cons c r ih=>
   intro hc a;rw[zbj,zbj,ih (fun x hx=>hc x (by simp[hx]))]
   congr 1
   have:=(hc c (by simp)).1;lia
 exact key y Q5 0
section
variable{P:zdl}{w:zdb}{K:zac}{mg:Str->Option zda}{base:Heap}
theorem Co.Cq{x qual:Str}{st:Stmt}{f:zc9}{fd:zdi}{N ps:List Str}{k:Nat}{sp:Sp}(F:Co K x qual st f fd)(S:a8 N ps (aB st))(len:∀vs H Q E,sp vs H Q E->vs.length=ps.length)
 (xn:∀(eA:zda) (A:zdk) (outer:List Env) (s:zdj) (H:Hp) (vs:List V) (Q:VK) (E:XK),gi k (A.deeper (envOfC qual (aB st) s.heap.objs.size f eA))->sp vs H Q E->
  ∃t σ,EI (j5 (kO P w) P w K mg base N qual (aB st) f eA A outer s H E) (bb st) t/\L2.start N vs=σ/\t {nx:=fun _ H'=>Q .dB H',rt:=Q} σ H):bB P w K mg base (kO P w) (k+1) f fd ps sp:=by
 obtain⟨oc,od,kV,doc,pm,an,eA,ct,Ke,rfl,lk,HE⟩:=F.ex;refine O5 lk HE S len fun A outer s H vs Q E hr HS=>?_;obtain⟨t,σ,h,e,q⟩:=xn eA A outer s H vs Q E hr HS;exact⟨t,h,by rw[e];exact q⟩
end
mutual
def Dp.py:Dp->PyData
 |.dB=>.none
 |.bl b=>.bool b
 |.int i=>.int i
 |.str x=>.str x
 |.tup l=>.tuple (Dp.Od l)
 |.lst l=>.list (Dp.Od l)
def Dp.Od:List Dp->List PyData
 |[]=>[]
 |d::r=>d.py::Dp.Od r
end
section
variable{X:Cx}{pins:List (zc9×Obj)}{σ:St}{H:Hp}{s:zdj}
mutual
theorem pX(I:Inv X pins σ H s):∀ {d:Dp} {v:V} {u:zda},Rep X.K H d v->RelV v u->∃as,Reads s.heap u d.py as
 |.dB,v,u,h,r=>by rw[Rep.tq] at h;subst h;cases (show u=Value.none from r);exact⟨_,.none⟩
 |.bl b,v,u,h,r=>by rw[Rep.uG] at h;subst h;cases (show u=Value.bool b from r);exact⟨_,.bool b⟩
 |.int i,v,u,h,r=>by rw[Rep.dG] at h;subst h;obtain⟨t,rfl⟩:=(show ∃t,u=Value.int i t from r);exact⟨_,.int i t⟩
 |.str x,v,u,h,r=>by rw[Rep.bh] at h;subst h;obtain⟨t,rfl⟩:=(show ∃t,u=Value.str x t from r);exact⟨_,.str x t⟩
 |.tup l,v,u,h,r=>by
  rw[Rep.cq] at h;obtain⟨p,xs,rfl,q,w⟩:=h;cases (show u=Value.ref p from r);obtain⟨bt,v1,t1,_⟩:=I.tuple q;obtain⟨as,ra⟩:=uK I w v1;obtain⟨o,h1,h2,n,h3⟩:=t1;unfold Dp.py;exact⟨as,.tuple h1 h2 h3 (by simpa using ra)⟩
 |.lst l,v,u,h,r=>by
  rw[Rep.ic] at h;obtain⟨p,xs,rfl,q,w⟩:=h;cases (show u=Value.ref p from r);obtain⟨bt,v1,t1,_⟩:=I.list q;obtain⟨as,ra⟩:=uK I w v1;obtain⟨o,h1,h2,n,h3⟩:=t1.isList;unfold Dp.py;exact⟨_,.list h1 h2 h3 (by simpa using ra)⟩
theorem uK(I:Inv X pins σ H s):∀ {ds:List Dp} {vs:List V} {us:List zda},bf X.K H ds vs->Vals vs us->∃as,ReadsAll s.heap us (Dp.Od ds) as
 |[],_,_,h,r=>by rw[bf.cj] at h;subst h;cases r;unfold Dp.Od;exact⟨_,.nil⟩
 |d::ds,_,_,h,r=>by
  rw[bf.bP] at h;obtain⟨v,vs,rfl,x,y⟩:=h;cases r with
  |cons r1 r2=>
   obtain⟨a,ra⟩:=pX I x r1;obtain⟨b,rb⟩:=uK I y r2;unfold Dp.Od;exact⟨_,.cons ra rb⟩
end
end
section
variable{X:Cx}
def Tn (K:zac) (neg:Bool):R2:=fun x y H Q=>∃d e,Rep K H d x/\Rep K H e y/\SeqAt.shaped d.py=true/\SeqAt.shaped e.py=true/\Q (.bl (if neg then !PyData.eqv d.py e.py else PyData.eqv d.py e.py)) H
theorem Q6(hu:X.A.units+64<cLine):pN X (compareOp .Eq) (Tn X.K false):=by
 intro pins s σ H x y v u Q I rx ry h;obtain⟨d,e,h1,h2,s1,s2,q⟩:=h;obtain⟨as,ra⟩:=pX I h1 rx;obtain⟨bs,rb⟩:=pX I h2 ry;exact eq_dataH ra rb s1 s2 hu ⟨.bl (PyData.eqv d.py e.py),H,I,rfl,q⟩
theorem Q7(hu:X.A.units+64<cLine):pN X (compareOp .NotEq) (Tn X.K true):=by
 intro pins s σ H x y v u Q I rx ry h;obtain⟨d,e,h1,h2,s1,s2,q⟩:=h;obtain⟨as,ra⟩:=pX I h1 rx;obtain⟨bs,rb⟩:=pX I h2 ry;exact ne_dataH ra rb s1 s2 hu ⟨.bl (!PyData.eqv d.py e.py),H,I,rfl,q⟩
theorem tG:nM X (.type "str") (fun xs H Q=>(∃i,xs=[.int i]/\i.natAbs.log2<1920/\Q (.str (toString i)) H)\/∃x,xs=[.str x]/\Q (.str x) H):=by
 intro pins s σ H xs us Q I r h;rcases h with h |⟨x,rfl,q⟩
 ·exact Bh pins s σ H xs us Q I r h
 ·obtain⟨u,rfl,ru⟩:=vals1 r;obtain⟨t,rfl⟩:=ru;exact P.str_of_str ⟨.str x,H,I,⟨t,rfl⟩,q⟩
end
mutual
theorem eqv_refl:∀d:Dp,PyData.eqv d.py d.py=true
 |.dB=>rfl
 |.bl b=>by simp[Dp.py,PyData.eqv]
 |.int i=>by simp[Dp.py,PyData.eqv]
 |.str x=>by simp[Dp.py,PyData.eqv]
 |.tup l=>by simp only[Dp.py,PyData.eqv];exact uL l
 |.lst l=>by simp only[Dp.py,PyData.eqv];exact uL l
theorem uL:∀l:List Dp,PyData.eqvAll (Dp.Od l) (Dp.Od l)=true
 |[]=>rfl
 |d::r=>by simp only[Dp.Od,PyData.eqvAll,eqv_refl d,uL r,Bool.and_true]
end
theorem aC{t u:TS}{D:Ends}{σ:St}{H:Hp}(h:∀U:St->Hp->Prop,(∀σ' H',U σ' H'↔u D σ' H')->t {D with nx:=U} σ H):JR t u D σ H:=h (u D) fun _ _=>Iff.rfl
def C5 (es:List Expr):Stmt->Stmt
 |.Assign ts (.List _ p) q=>.Assign ts (.List es p) q
 |s=>s
def Lm:Stmt->List Expr
 |.Assign _ (.List es _) _=>es
 |_=>[]
theorem To{A:zdk}{k:Nat}(hr:gi k A):A.units+64<cLine:=hr.units
end L2
namespace L2
open PySem
def stir (cell k:Int):Int:=if 10 ^ 18<=cell then ((cell-10 ^ 18)/2 ^ (28*k).toNat)%2 ^ 28 else
 ((((cell+1013*k+1)*16807%2147483647)*((cell+1013*k+1)*16807%2147483647)%2147483629)*39373%2147483587)/8
theorem xx(cell k:Int):0<=stir cell k/\stir cell k<2 ^ 28:=by
 unfold stir;split
 ·have:=zbt ((cell-10 ^ 18)/2 ^ (28*k).toNat) (show (2 ^ 28:Int)≠0 by decide);have:=zbe ((cell-10 ^ 18)/2 ^ (28*k).toNat) (show (0:Int)<2 ^ 28 by decide);lia
 ·generalize ((((cell+1013*k+1)*16807%2147483647)*((cell+1013*k+1)*16807%2147483647)%2147483629)*39373)=z;lia
def Q8:Sp:=fun vs H Q _=>∃cell k:Int,vs=[.int cell,.int k]/\0<=k/\k<=100000/\Q (.int (stir cell k)) H
def GN (K:zac):Sp:=fun vs H Q _=>∃(a:zc9) (ns:List Int),vs=[.ref a]/\g8 K H a (ns.map .int)/\ns.length<=63/\∀H',Q (.bl true) H'
open PyProof.Rows PySem.Spec
section
variable{X:Cx}{pins:List (zc9×Obj)}{σ:St}{H:Hp}{s:zdj}{h':Heap}
theorem Inv.AN{t':Nat}{fp:List zc9}(I:Inv X pins σ H s)(k:∀b o,b ∉ fp->s.heap.get? b=some o->h'.get? b=some o)(hf:∀b∈fp,rM X pins H b):Inv X pins σ H {s with heap:=h',toks:=t' }:=by
 have Sr:∀b u,H b=some u->b ∉ fp:=fun b u e z=>by rw[(hf b z).1] at e;cases e
 refine I.step (g':=s.gens) (d':=s.drawn) (ch:=fp) (fun b hb=>?_) (fun b o _ _ hc e _=>k b o hc e) (fun b o _ _ hc e _=>⟨o.slots,k b o hc e⟩) (fun _ _ _ _ n=>n)
  (fun b o hc e=>⟨o,k b o hc e⟩) (fun _ _ e=>e) (fun _ _ _ e=>e) (fun b ps e=>⟨#[],by rw[e];simp⟩) (fun m hm=>?_) (fun b u e=>?_) I.bare
 ·obtain⟨_,f1,_,f3,f4,f5⟩:=hf b hb;exact⟨f3,f1,f4,f5⟩
 ·obtain⟨o,es,ep,ho,r⟩:=hm;exact⟨o,es,ep,k _ o (fun z=>(hf _ z).2.1 rfl) ho,r⟩
 ·refine(I.dD b u e).qU (fun c v hc q=>k c v ?_ q) (fun _ q=>q) fun _ _ q=>q;rcases hc with z |z
  ·rw[z];exact Sr b u e
  ·exact Sr c _ z
end
theorem mD{X:Cx}:nM X (.type "int") (fun xs H Q=>∃b:Bool,xs=[.bl b]/\Q (.int (if b then 1 else 0)) H):=by
 intro pins s σ H xs us Q I r h;obtain⟨b,rfl,q⟩:=h;obtain⟨u,rfl,ru⟩:=vals1 r;cases (show u=Value.bool b from ru);exact PySem.call_int_bool ⟨.int (if b then 1 else 0),H,I.tok _,⟨_,rfl⟩,q⟩
section
variable{prog:zdl}{w:zdb}{A:zdk}{E:zda->zdj->Prop}{s:zdj}
theorem C6{it l:zc9}{bt:Array zda}(EJ:l≠it):∀(n i:Nat) (s:zdj) (Q:List zda->zdj->Prop),s.heap.IsListIter it l i->s.heap.IsList l bt->i+n<=bt.size->
 (∀h',h'.IsListIter it l (i+n)->Heap.SameBut it s.heap h'->Q ((bt.toList.drop i).take n) {s with heap:=h' })->wpAny (model prog w) A (draw (.ref it) n) Q E s
 |0,i,s,Q,a,_,_,q=>by
  show wpAny _ _ (pure []) Q E s;exact zdd (by simpa using q s.heap a (Heap.SameBut.refl ..))
 |n+1,i,s,Q,a,b,le,q=>by
  have lt:i<bt.size:=by lia
  show wpAny _ _ (pyNext (.ref it) >>= _) Q E s;refine zdc (wpAny_pyNext_list_item a b (x:=bt[i]) (by simp[lt]) fun h1 a1 s1=>?_);have b1:h1.IsList l bt:=by
   obtain⟨o,ho,r⟩:=b;exact⟨o,(s1.2 l EJ).trans ho,r⟩
  refine zdc (zde (C6 EJ n (i+1) _ _ a1 b1 (by lia) fun h2 a2 s2=>zdd ?_));have e:bt.toList.drop i=bt[i]::bt.toList.drop (i+1):=by simp[zbB,lt]
  have z:=q h2 (by rw[show i+(n+1)=i+1+n by lia];exact a2) (s1.trans s2);rw[e,List.take_succ_cons] at z;exact z
theorem Fg{l:zc9}{bt:Array zda}{ts:List (Bool×(zda->Sem Unit))}{Q:Unit->zdj->Prop}(hh:A.handled=none)(b:s.heap.IsList l bt)(hn:ts.length=bt.size)(JV:ts.findIdx? (·.1)=none)
 (h:∀h',Heap.ExtBut s.heap.objs.size s.heap h'->wpAny (model prog w) A (assignInOrder (ts.map (·.2)) bt.toList) Q E {s with heap:=h' }):wpAny (model prog w) A (unpack (.ref l) ts) Q E s:=by
 have lt:l≠s.heap.objs.size:=by obtain⟨o,ho,_⟩:=b;exact zaG (Heap.lt_size ho)
 unfold unpack;rw[hn,JV];refine zdc (zde ?_);unfold unpackItems;refine zdc ?_;unfold notIterableAtAll;refine zdc (wpAny_specialOf b.typeIs slot_list_iter.lookup ?_);refine zdd ?_;simp only[zbc,if_false];refine zdc (zde (wpAny_pyIter_list b ?_));have qU:∀ {h1 h2:Heap},Heap.ExtBut s.heap.objs.size h1 h2->h1.IsList l bt->h2.IsList l bt:=fun {h1 h2} e x=>by
  obtain⟨o,ho,r⟩:=x;exact⟨o,e l o lt ho,r⟩
 have b0:(s.heap.push {cls:=.type "list_iterator",data:=.fields #[.ref l,.int 0 0]}).IsList l bt:=by
  obtain⟨o,ho,r⟩:=b;exact⟨o,Heap.get?_push_of_some _ ho,r⟩
 refine zdc (zde (C6 lt bt.size 0 _ _ ⟨_,Heap.get?_push_size _ rfl,rfl,rfl⟩ b0 (by lia) fun h1 a1 s1=>?_));have all:List.take bt.size (List.drop 0 bt.toList)=bt.toList:=by
  rw[zcQ];exact zbm (by simp)
 rw[all,if_neg (by simp)];have b1:h1.IsList l bt:=qU s1.extBut b0;refine zdc (zde (wpAny_pyNext_list_end hh a1 b1 (by simp) fun h2 e2=>?_));simp only[Option.isSome_none,zbc,if_false];exact zdd (h h2 fun c o hc e=>e2 c o hc (s1.extBut c o hc (Heap.get?_push_of_some _ e)))
end
def Q9 (K:zac) (n:Nat) (t:NJ):TG:=fun v σ H Q=>∃a xs,v=.ref a/\g8 K H a xs/\xs.length=n/\t xs σ H Q
theorem Bt{X:Cx}{es:List Expr}{k}{pos:Pos}{t:NJ}{n:Nat}(hc:X.calm=true)(h:Sx X es t)
 (hn:(assignEach es X.env).length=n:=by rfl) (JV:(assignEach es X.env).findIdx? (·.1)=none:=by rfl):PG X (.Tuple es k pos) (Q9 X.K n t):=by
 intro pins s σ H v u Q I r hw;obtain⟨a,xs,rfl,hq,hl,hw⟩:=hw;cases r;obtain⟨bt,rv,hp,_⟩:=I.list hq;rw[assign_Tuple];refine zdc (wpAny_standAt (Fg (I.ok.hd hc) hp.isList (by simp[hn,<- hl,rv.length]) JV fun h' hx=>?_));have I1:Inv X pins σ H {s with heap:=h' }:=I.kept (t':=s.toks) fun b o e=>hx b o (zaG (Heap.lt_size e)) e;exact h pins _ σ H xs _ Q I1 (by simpa using rv) hw
open PySem.SeqAt
theorem AO{X:Cx}(hu:X.A.units+1<cLine):pN X (compareOp .NotEq) (fun x y H Q=>∃a b xs,x=.ref a/\y=.ref b/\g8 X.K H a xs/\g8 X.K H b []/\Q (.bl (!xs.isEmpty)) H):=by
 intro pins s σ H x y v u Q I rx ry h;obtain⟨a,b,xs,rfl,rfl,h1,h2,q⟩:=h;cases (show v=Value.ref a from rx);cases (show u=Value.ref b from ry);obtain⟨bt,v1,p1,_⟩:=I.list h1;obtain⟨its',v2,p2,_⟩:=I.list h2;cases v2;cases xs with
 |nil=>
  cases v1;exact(RcNeAt.lists (e:=fun _=>true) p1.isList p2.isList rfl (by lia) (fun j h1=>absurd h1 (by simp))) _ _ _ _ ⟨.bl false,H,I,rfl,q⟩
 |cons z zs=>
  cases v1;exact(RcNeAt.lists_lengths p1.isList p2.isList (by simp) (by lia)) _ _ _ _ ⟨.bl true,H,I,rfl,q⟩
theorem C7(z:Str)(n:Nat):(zD z n).length=z.length*n:=by
 have key:∀(n:Nat) (a:Array Nat),((zan n z.cps).foldl (· ++ ·) a).size=a.size+z.cps.size*n:=by
  intro n
  induction n with
  |zero=>intro a;simp
  |succ n ih=>
   intro a;rw[zaQ,zbj,ih,Array.size_append,Nat.mul_succ];lia
 show ((zan n z.cps).foldl (· ++ ·) #[]).size=z.cps.size*n;rw[key];simp
def rR (val:W->Int):PM.Tr->Int
 |.num n=>n
 |.box x=>val x
 |.bin o l r=>if o=[43] then rR val l+rR val r else if o=[45] then rR val l-rR val r else rR val l*rR val r
theorem xy:∀ {L:List W} {us:List zda},Vals (L.map sv) us->∃l:List (Str×Tok),us=strValues l/\l.map (·.1)=L.map S
 |[],us,h=>by
  cases h;exact⟨[],rfl,rfl⟩
 |w::L,us,h=>by
  cases h with
  |cons r t=>
   obtain⟨tk,rfl⟩:=(show ∃t,_=Value.str (S w) t from r)
   obtain⟨l,rfl,e⟩:=xy t;exact⟨(S w,tk)::l,rfl,by rw[zaw,zaw,e]⟩
theorem Bu(k:Int)(h:0<=k):V.str (zaa (toString k))=sv (PM.dig k.toNat):=by
 unfold sv
 congr 1
 have hk:k=((k.toNat:Nat):Int):=by lia
 rw[Str.ofString_eq_toList]
 conv=>lhs;rw[hk]
 show (⟨((toString ((k.toNat:Nat):Int)).toList.map Char.toNat).toArray⟩:Str)=S ((zcw 10 k.toNat).map Char.toNat);have e2:(toString ((k.toNat:Nat):Int)).toList=zcw 10 k.toNat:=by
  show (Nat.repr k.toNat).toList=_;unfold Nat.repr;exact String.toList_ofList
 rw[e2];rfl
theorem C8{K:zac}{tl:TE}{g:TG}{tb:TS}{D:Ends}{σ:St}{H:Hp} (h:∀U:zc9->Hp->Prop,(∀a H1,(∃W:Nat->Nat->St->Hp->Prop,(∃m,W 0 m σ H1)/\∀i m σ H,W i m σ H->
 ((Nr K a).stop i H/\D.nx σ H)\/((Nr K a).go i H/\∃N:St->Hp->Prop,(∀σ' H',N σ' H'->∃m',m'<m/\W (i+1) m' σ' H')/\∀x H',(Nr K a).HF i H x H'->g x σ H' fun σ2 H2=>tb {D with nx:=N,ct:=N,bk:=D.nx} σ2 H2))->U a H1)->
 tl σ H fun x H1=>∃a,x=.ref a/\(∃xs,g8 K H1 a xs)/\U a H1):SD (Gf K tl) g tb D σ H:=h _ fun _ _ x=>x
theorem GO{a:Option V}{r:St}{H:Hp}{Q:VK}:(e8 10 (a::r) H Q)=(e8 9 r H Q):=rfl
theorem GP{a:Option V}{r:St}{H:Hp}{Q:VK}:(e8 11 (a::r) H Q)=(e8 10 r H Q):=rfl
theorem GQ{a:Option V}{r:St}{H:Hp}{Q:VK}:(e8 12 (a::r) H Q)=(e8 11 r H Q):=rfl
theorem AQ{J:It}{D:zc9}{tc:TT}{te:TE}{Q:VK}{r:St}{H:Hp}(xs:List V)(p:V->Bool)(f:V->V)(hl:xs.length<=16000000)
 (go:∀i ys,i<xs.length->J.go i (upd H D (.lst ys))) (HF:∀i ys x H',i<xs.length->J.HF i (upd H D (.lst ys)) x H'->H'=upd H D (.lst ys)/\xs[i]?=some x) (stop:∀ys,J.stop xs.length (upd H D (.lst ys)))
 (test:∀x∈xs,∀ys (R:Bool->Hp->Prop),R (p x) (upd H D (.lst ys))->tc (some x::r) (upd H D (.lst ys)) R)
 (step:∀x∈xs,p x=true->∀ys (R:VK),R (f x) (upd H D (.lst ys))->te (some x::r) (upd H D (.lst ys)) R)
 (q:Q (.ref D) (upd H D (.lst ((xs.filter p).map f)))):vC J D (nJ 0) tc te Q (none::r) (upd H D (.lst [])):=by
 refine⟨fun i m τ H2=>m=xs.length-i/\i<=xs.length/\(∃x,τ=x::r)/\H2=upd H D (.lst (((xs.take i).filter p).map f)),⟨xs.length,by simp,za6 _,⟨none,rfl⟩,by simp⟩,?_⟩
 rintro i m τ H2 ⟨rfl,hi,⟨x,rfl⟩,rfl⟩
 by_cases pH:i<xs.length
 ·refine .inr ⟨go i _ pH,fun τ' H'=>(∃x,τ'=x::r)/\H'=upd H D (.lst (((xs.take (i+1)).filter p).map f)),fun τ' H' ⟨h1,h2⟩=>⟨xs.length-(i+1),by lia,rfl,pH,h1,h2⟩,fun y H' hy=>?_⟩;obtain⟨rfl,hz⟩:=HF i _ y H' pH hy;clear hy;have hy:=hz;rw[zag pH] at hy;cases hy;have mem:=zaT pH;simp only[nJ,zcx];refine test _ mem _ _ ?_;rw[zbn pH,List.filter_append,zat];cases hp:p xs[i] with
  |false=>
   rw[if_neg zad];refine⟨⟨_,rfl⟩,?_⟩;simp[hp]
  |true=>
   rw[if_pos rfl];refine step _ mem hp _ _ ⟨_,ae,?_,⟨_,rfl⟩,?_⟩
   ·have h1:(((xs.take i).filter p).map f).length<=i:=by
     rw[zae];exact zaB (zcP _ _) (by rw[zbb];lia)
    have:zdh=2 ^ 24:=rfl;lia
   ·rw[Be];simp[hp]
 ·have e:i=xs.length:=by lia
  subst e;refine .inl ⟨stop _,?_⟩;rw[zbF];exact q
theorem Ln{n:Nat}{D:zc9}{te:TE}{Q:VK}{r:St}{H:Hp}(f:Nat->V)(hl:n<=16000000)
 (step:∀i,i<n->∀ys (R:VK),R (f i) (upd H D (.lst ys))->te (some (.int (i:Nat))::r) (upd H D (.lst ys)) R)
 (q:Q (.ref D) (upd H D (.lst ((zaV n).map f)))):vC (SA 0 n) D (nJ 0) Kt te Q (none::r) (upd H D (.lst [])):=by
 refine AQ ((zaV n).map fun i=>V.int (i:Nat)) (fun _=>true) (fun x=>f (match x with |.int i=>i.toNat |_=>0)) (by simpa using hl)
  (fun i ys hi=>?_) (fun i ys x H' hi hy=>?_) (fun ys=>?_) (fun x hx ys R hR=>hR) (fun x hx _ ys R hR=>?_) ?_
 ·show i<n;simpa using hi
 ·obtain⟨rfl,rfl⟩:=hy;refine⟨rfl,?_⟩;have O8:i<n:=by simpa using hi
  rw[zaF,List.getElem?_range O8];simp
 ·show n<=_;simp
 ·obtain⟨i,hi,rfl⟩:=zaK.mp hx;exact step i (zbw.mp hi) ys R hR
 ·rw[zc1.mpr (fun _ _=>rfl),zbL];exact q
def Wj (z:Str):Prop:=PM.Te z.cps.toList
theorem Wj.one{a:Str}(ha:Wj a){c:Nat}(hc:c∈a.cps.toList):Wj ⟨#[c]⟩:=fun x hx=>by
 have:x=c:=by simpa using hx
 rw[this];exact ha c hc
theorem qP{X:Cx}(hu:X.A.units+1<cLine):pN X (compareOp .Eq) (fun x y H Q=>∃a b xs,x=.ref a/\y=.ref b/\g8 X.K H a xs/\g8 X.K H b []/\Q (.bl xs.isEmpty) H):=by
 intro pins s σ H x y v u Q I rx ry h;obtain⟨a,b,xs,rfl,rfl,h1,h2,q⟩:=h;cases (show v=Value.ref a from rx);cases (show u=Value.ref b from ry);obtain⟨bt,v1,p1,_⟩:=I.list h1;obtain⟨its',v2,p2,_⟩:=I.list h2;cases v2;cases xs with
 |nil=>
  cases v1;exact(RcAt.lists (e:=fun _=>true) p1.isList p2.isList rfl (by lia) (fun j h1=>absurd h1 (by simp))) _ _ _ _ ⟨.bl true,H,I,rfl,q⟩
 |cons z zs=>
  cases v1;exact(RcAt.lists_lengths p1.isList p2.isList (by simp) (by lia)) _ _ _ _ ⟨.bl false,H,I,rfl,q⟩
end L2
namespace PG
open PM (W Tr)
structure iQ where
 name:W
 size:Int
 first:Int
inductive de where
 |ask (k:Int) (b:W)
 |put (k:Int) (b:W) (e:Tr)
 |say (k:Int) (e:Tr)
 |iW (k:Int) (sg:W) (l r:Tr)
 |stop (k:Int)
 |ifs (k:Int) (sg:W) (l r:Tr) (a b:List de)
 |nQ (k:Int) (sg:W) (l r:Tr) (a:List de)
def de.row:de->Int
 |.ask k _=>k |.put k _ _=>k |.say k _=>k |.iW k _ _ _=>k |.stop k=>k |.ifs k _ _ _ _ _=>k |.nQ k _ _ _ _=>k
inductive Wd where
 |ask |put |say |iW |stop |ifs |nQ |Tp |fin
 deriving DecidableEq
def de.wd:de->Wd
 |.ask _ _=>.ask |.put _ _ _=>.put |.say _ _=>.say |.iW _ _ _ _=>.iW |.stop _=>.stop |.ifs _ _ _ _ _ _=>.ifs |.nQ _ _ _ _ _=>.nQ
def Tq:Nat->Int->Int
 |0,c=>c
 |n+1,c=>Tq n (c/1000003)
def next (sc:List Int) (p:Nat):Int:=
 let many:=max 1 sc.length
 let cell:=if sc=[] then 0 else sc.getD (p%many) 0
 if cell ≥ 10 ^ 18 then Tq (min 60 (p/many)) cell%1000003 else
  let a:=(cell%2147483629+51437*((p:Int)+1)*((p:Int)+3)+1409)%2147483629
  let b:=a*a%2147483587
  let c:=(b*69621+401*(p:Int)+7)%2147483579
  c*c%2147483563/16
def pick {α:Type} (d:α) (l:List α) (n:Int):α:=l.getD n.toNat d
def zE (sc:List Int) (bs:List iQ):Nat->Nat->Tr×Nat
 |0,p=>
  let kind:=next sc p%7
  if bs≠[]/\kind<5 then (.box (pick ⟨[],0,0⟩ bs (next sc (p+1)%bs.length)).name,p+2) else (.num (next sc (p+1)%pick 1 [3,12,1000] (next sc (p+2)%3)),p+3)
 |d+1,p=>
  let kind:=next sc p%7
  if kind<3 then
   let one:=zE sc bs d (p+1)
   let two:=zE sc bs d one.2
   (.bin (pick [] [[43],[45],[42]] kind) one.1 two.1,two.2)
  else if bs≠[]/\kind<5 then (.box (pick ⟨[],0,0⟩ bs (next sc (p+1)%bs.length)).name,p+2) else (.num (next sc (p+1)%pick 1 [3,12,1000] (next sc (p+2)%3)),p+3)
def Lo:List W:=[[99],[98,98],[97,97,97],[98,111,120,101,115]]
def xA (sc:List Int) (Ts:Int):Nat->Nat->Nat->List iQ×Nat
 |0,_,p=>([],p)
 |n+1,k,p=>
  let size:=2+next sc p%3
  let r:=xA sc Ts n (k+1) (p+2)
  (⟨pick [] Lo (((k:Int)-Ts)%4),size,next sc (p+1)%size⟩::r.1,r.2)
def R9:List W:=[[60],[61]]
def Lp (sc:List Int) (bs:List iQ) (k:Int) (p:Nat):de×Nat:=
 let kind:=next sc p%10
 if bs≠[]/\kind<3 then (.ask k (pick ⟨[],0,0⟩ bs (next sc (p+1)%bs.length)).name,p+2)
 else if bs≠[]/\kind<6 then
  let e:=zE sc bs 2 (p+2)
  (.put k (pick ⟨[],0,0⟩ bs (next sc (p+1)%bs.length)).name e.1,e.2)
 else if kind=6 then
  let l:=zE sc bs 1 (p+2)
  let r:=zE sc bs 1 l.2
  (.iW k (pick [] R9 (next sc (p+1)%2)) l.1 r.1,r.2)
 else if kind=7 then
  if next sc (p+1)%3=0 then (.stop k,p+2) else
   let e:=zE sc bs 2 (p+2)
   (.say k e.1,e.2)
 else
  let e:=zE sc bs 2 (p+1)
  (.say k e.1,e.2)
structure Frame where
 kind:Nat
 body:List de
 k:Int:=0
 sg:W:=[]
 l:Tr:=.num 0
 r:Tr:=.num 0
 first:List de:=[]
def Frame.told (f:Frame):de:=if f.kind=1 then .ifs f.k f.sg f.l f.r f.body [] else if f.kind=2 then .ifs f.k f.sg f.l f.r f.first f.body else .nQ f.k f.sg f.l f.r f.body
def close:List Frame->List Frame
 |f::g::r=>{g with body:=g.body++[f.told]}::r
 |fs=>fs
abbrev Row:=Int×Wd
def number (n:Nat) (rows:List Row) (mode:Int):Int:=
 if mode=2 then n+1+20*rows.length else if mode=3 then n+1+(rows.filter fun r=>r.2≠.Tp/\r.2≠.fin).length else n+1+rows.length
structure Walk where
 p:Nat
 j6:List Frame
 rows:List Row
def turn (sc:List Int) (bs:List iQ) (mode:Int) (w:Walk):Walk:=
 let k:=number bs.length w.rows mode
 let way:=next sc w.p%12
 if way<2/\w.j6.length>1 then ⟨w.p+1,close w.j6,w.rows++[(k,.fin)]⟩
 else match w.j6 with
 |[]=>w
 |f::r=>
  if way=2/\f.kind=1 then ⟨w.p+1,{f with kind:=2,body:=[],first:=f.body}::r,w.rows++[(k,.Tp)]⟩
  else if way<6/\w.j6.length<4 then
   let l:=zE sc bs 1 (w.p+2)
   let e:=zE sc bs 1 l.2
   let kd:=pick 1 [1,1,3] (way%3)
   ⟨e.2,{kind:=kd,body:=[],k:=k,sg:=pick [] R9 (next sc (w.p+1)%2),l:=l.1,r:=e.1}::w.j6,w.rows++[(k,if kd=3 then .nQ else .ifs)]⟩
  else
   let s:=Lp sc bs k (w.p+1)
   ⟨s.2,{f with body:=f.body++[s.1]}::r,w.rows++[(k,s.1.wd)]⟩
def turns (sc:List Int) (bs:List iQ) (mode:Int):Nat->Walk->Walk
 |0,w=>w
 |n+1,w=>turns sc bs mode n (turn sc bs mode w)
def ends (n:Nat) (mode:Int):Nat->Walk->Walk
 |0,w=>w
 |m+1,w=>if w.j6.length>1 then ends n mode m ⟨w.p,close w.j6,w.rows++[(number n w.rows mode,.fin)]⟩ else w
structure Prog where
 cu:List iQ
 body:List de
def GR (sc:List Int) (many:Nat) (p:Nat):Prog×List Row:=
 let bs:=xA sc (next sc p%4) (next sc (p+1)%4).toNat 0 (p+2)
 let w:=ends bs.1.length (next sc bs.2%4) 4 (turns sc bs.1 (next sc bs.2%4) many ⟨bs.2+1,[{kind:=0,body:=[]}],[]⟩)
 (⟨bs.1,(w.j6.head?.map (·.body)).getD []⟩,w.rows)
end PG
namespace PG
open PM (W Tr)
mutual
def xB:de->List Row
 |.ifs k _ _ _ a b=>(k,.ifs)::(tH a++tH b)
 |.nQ k _ _ _ a=>(k,.nQ)::tH a
 |.ask k _=>[(k,.ask)]
 |.put k _ _=>[(k,.put)]
 |.say k _=>[(k,.say)]
 |.iW k _ _ _=>[(k,.iW)]
 |.stop k=>[(k,.stop)]
def tH:List de->List Row
 |[]=>[]
 |s::r=>xB s++tH r
end
end PG
namespace PG
open PM (W Tr)
abbrev wJ:=Int×Wd×List Int
def gj:List de->Int->Int
 |[],x=>x
 |s::_,_=>s.row
mutual
def hJ:de->Int->List wJ
 |.ifs k _ _ _ a b,x=>(k,.ifs,[gj a x,gj b x])::(cI a x++cI b x)
 |.nQ k _ _ _ a,x=>(k,.nQ,[gj a k,x])::cI a k
 |.ask k _,x=>[(k,.ask,[x])]
 |.put k _ _,x=>[(k,.put,[x])]
 |.say k _,x=>[(k,.say,[x])]
 |.iW k _ _ _,x=>[(k,.iW,[x])]
 |.stop k,_=>[(k,.stop,[0])]
def cI:List de->Int->List wJ
 |[],_=>[]
 |s::r,x=>hJ s (gj r x)++cI r x
end
mutual
theorem Ih:∀(s:de) (x:Int),(hJ s x).map (fun r=>(r.1,r.2.1))=xB s
 |.ifs k _ _ _ a b,x=>by simp[hJ,xB,nR a x,nR b x]
 |.nQ k _ _ _ a,x=>by simp[hJ,xB,nR a k]
 |.ask k _,x=>rfl
 |.put k _ _,x=>rfl
 |.say k _,x=>rfl
 |.iW k _ _ _,x=>rfl
 |.stop k,_=>rfl
theorem nR:∀(b:List de) (x:Int),(cI b x).map (fun r=>(r.1,r.2.1))=tH b
 |[],_=>rfl
 |s::r,x=>by simp[cI,tH,Ih s _,nR r x]
end
inductive Tg where
 |row (k:Int) |side (k:Int) (b:Bool) |iW (k:Int) |fin
 deriving DecidableEq
end PG
namespace PG
open PM (W Tr)
mutual
def Pk:de->List Row->Prop
 |.ifs k _ _ _ a b,rs=>(∃ra n,oZ a ra/\b=[]/\rs=(k,.ifs)::(ra++[(n,.fin)]))\/(∃ra rb n m,oZ a ra/\oZ b rb/\rs=(k,.ifs)::(ra++(n,.Tp)::(rb++[(m,.fin)])))
 |.nQ k _ _ _ a,rs=>∃ra n,oZ a ra/\rs=(k,.nQ)::(ra++[(n,.fin)])
 |.ask k _,rs=>rs=[(k,.ask)]
 |.put k _ _,rs=>rs=[(k,.put)]
 |.say k _,rs=>rs=[(k,.say)]
 |.iW k _ _ _,rs=>rs=[(k,.iW)]
 |.stop k,rs=>rs=[(k,.stop)]
def oZ:List de->List Row->Prop
 |[],rs=>rs=[]
 |s::r,rs=>∃r1 r2,Pk s r1/\oZ r r2/\rs=r1++r2
end
theorem oZ.one{s:de}{rs:List Row}(h:Pk s rs):oZ [s] rs:=by
 rw[oZ];exact⟨rs,[],h,by rw[oZ],by simp⟩
theorem oZ.nil:oZ [] []:=by rw[oZ]
def vH (n:Nat) (w:Walk):Prop:=(∀f∈w.j6,f.body.length<=n)/\w.rows.length<=n
theorem Lq(sc:List Int)(bs:List iQ)(mode:Int){n:Nat}{w:Walk}(h:vH n w):vH (n+1) (turn sc bs mode w):=by
 obtain⟨p,j6,rows⟩:=w;obtain⟨h1,h2⟩:=h;simp only at h1 h2;have up:∀f∈j6,f.body.length<=n+1:=fun f hf=>zbK (h1 f hf);have cl:∀l:List Frame,(∀f∈l,f.body.length<=n)->∀f∈close l,f.body.length<=n+1:=by
  intro l hl f hf
  match l,hl,hf with
  |[],_,hf=>cases hf
  |[x],hl,hf=>exact zbK (hl f hf)
  |x::y::r,hl,hf=>
   rcases zaj.mp hf with rfl |hf
   ·simp;have:=hl y (by simp);lia
   ·exact zbK (hl f (by simp[hf]))
 unfold turn;simp only;split
 ·exact⟨cl j6 h1,by simp;lia⟩
 ·cases j6 with
  |nil=>exact⟨up,by simp only;lia⟩
  |cons f r=>
   simp only;split
   ·refine⟨fun x hx=>?_,by simp;lia⟩;rcases zaj.mp hx with rfl |hx
    ·simp
    ·exact up x (by simp[hx])
   ·split
    ·refine⟨fun x hx=>?_,by simp;lia⟩;rcases zaj.mp hx with rfl |hx
     ·simp
     ·exact up x hx
    ·refine⟨fun x hx=>?_,by simp;lia⟩;rcases zaj.mp hx with rfl |hx
     ·have:=h1 f (by simp);simp;lia
     ·exact up x (by simp[hx])
theorem Ii{n:Nat}{w:Walk}(h:vH n w)(k:Int):vH (n+1) ⟨w.p,close w.j6,w.rows++[(k,.fin)]⟩:=by
 obtain⟨h1,h2⟩:=h;refine⟨?_,by simp;lia⟩;intro f hf;obtain⟨p,j6,rows⟩:=w;simp only at h1 hf
 match j6,h1,hf with
 |[],_,hf=>cases hf
 |[x],hl,hf=>exact zbK (hl f hf)
 |x::y::r,hl,hf=>
  rcases zaj.mp hf with rfl |hf
  ·have:=hl y (by simp);simp;lia
  ·exact zbK (hl f (by simp[hf]))
mutual
def v9:de->Nat
 |.ifs _ _ _ _ a b=>max (uM a) (uM b)+1
 |.nQ _ _ _ _ a=>uM a+1
 |_=>0
def uM:List de->Nat
 |[]=>0
 |s::r=>max (v9 s) (uM r)
end
end PG
namespace PG
open PM (W Tr)
section
variable(nm:W->Prop)(ex:Tr->Prop)(sg:W->Prop)
mutual
def Oe:de->Prop
 |.ask _ b=>nm b
 |.put _ b e=>nm b/\ex e
 |.say _ e=>ex e
 |.iW _ s l r=>sg s/\ex l/\ex r
 |.stop _=>True
 |.ifs _ s l r a b=>sg s/\ex l/\ex r/\Pl a/\Pl b
 |.nQ _ s l r a=>sg s/\ex l/\ex r/\Pl a
def Pl:List de->Prop
 |[]=>True
 |s::r=>Oe s/\Pl r
end
end
section
variable{nm:W->Prop}{ex:Tr->Prop}{sg:W->Prop}
section
end
end
def xC:Tr->Nat
 |.bin _ l r=>max (xC l) (xC r)+1
 |_=>0
theorem AR(sc:List Int)(bs:List iQ)(mode:Int):∀(n m:Nat) {w:Walk},vH m w->vH (m+n) (turns sc bs mode n w)
 |0,m,_,h=>h
 |n+1,m,_,h=>by
  have:=AR sc bs mode n (m+1) (Lq sc bs mode h);rw[show m+(n+1)=m+1+n by lia];exact this
theorem C9(n:Nat)(mode:Int):∀(k m:Nat) {w:Walk},vH m w->(ends n mode k w).rows.length<=m+k
 |0,m,w,h=>h.2
 |k+1,m,w,h=>by
  unfold ends;split
  ·have:=C9 n mode k (m+1) (Ii h (number n w.rows mode));lia
  ·have:=h.2;lia
theorem xD(sc:List Int)(many p:Nat):(GR sc many p).2.length<=many+4:=by
 unfold GR;simp only;generalize xA sc (next sc p%4) (next sc (p+1)%4).toNat 0 (p+2)=bs;have h0:vH 0 ⟨bs.2+1,[{kind:=0,body:=[]}],[]⟩:=⟨fun f hf=>by rw[zal.mp hf];exact zai _,zai _⟩
 have:=C9 bs.1.length (next sc bs.2%4) 4 _ (AR sc bs.1 (next sc bs.2%4) many 0 h0);lia
end PG
namespace PG
open PM (W Tr)
inductive Mt where
 |op (Tp fin:Option Nat)
 |back (i:Nat)
 deriving DecidableEq
abbrev Mm:=Nat->Option Mt
def Mm.set (m:Mm) (i:Nat) (x:Mt):Mm:=fun j=>if j=i then some x else m j
end PG
namespace PG
open PM (W Tr)
def At (R:List Row) (i:Nat) (rs:List Row):Prop:=∀j,j<rs.length->R[i+j]?=rs[j]?
theorem At.head{R:List Row}{i:Nat}{x:Row}{b:List Row}(h:At R i (x::b)):R[i]?=some x:=by
 have:=h 0 (by simp);simpa using this
end PG
namespace PG
open PM (W Tr)
mutual
def ij:de->List de
 |.ifs k sg l r a b=>.ifs k sg l r a b::(bO a++bO b)
 |.nQ k sg l r a=>.nQ k sg l r a::bO a
 |s=>[s]
def bO:List de->List de
 |[]=>[]
 |s::r=>ij s++bO r
end
mutual
theorem Ij:∀s:de,(ij s).map (fun x=>(x.row,x.wd))=xB s
 |.ifs k sg l r a b=>by
  rw[ij,xB,zaw,zat,nT a,nT b];rfl
 |.nQ k sg l r a=>by
  rw[ij,xB,zaw,nT a];rfl
 |.ask k _=>rfl
 |.put k _ _=>rfl
 |.say k _=>rfl
 |.iW k _ _ _=>rfl
 |.stop k=>rfl
theorem nT:∀b:List de,(bO b).map (fun x=>(x.row,x.wd))=tH b
 |[]=>rfl
 |s::r=>by simp[bO,tH,Ij s,nT r]
end
end PG
namespace PG
open PM (W Tr)
section
variable{nm:W->Prop}{ex:Tr->Prop}{sg:W->Prop}
mutual
theorem Of:∀(s x:de),Oe nm ex sg s->x∈ij s->Oe nm ex sg x
 |.ifs k s l r a b,x,h,m=>by
  rw[ij] at m;rcases zaj.mp m with rfl |m
  ·exact h
  ·rw[Oe] at h;rcases zay.mp m with m |m
   ·exact qQ a x h.2.2.2.1 m
   ·exact qQ b x h.2.2.2.2 m
 |.nQ k s l r a,x,h,m=>by
  rw[ij] at m;rcases zaj.mp m with rfl |m
  ·exact h
  ·rw[Oe] at h;exact qQ a x h.2.2.2 m
 |.ask k b,x,h,m=>by simp only[ij,zal] at m;subst m;exact h
 |.put k b e,x,h,m=>by simp only[ij,zal] at m;subst m;exact h
 |.say k e,x,h,m=>by simp only[ij,zal] at m;subst m;exact h
 |.iW k s l r,x,h,m=>by simp only[ij,zal] at m;subst m;exact h
 |.stop k,x,h,m=>by simp only[ij,zal] at m;subst m;exact h
theorem qQ:∀(b:List de) (x:de),Pl nm ex sg b->x∈bO b->Oe nm ex sg x
 |[],x,_,m=>by simp[bO] at m
 |s::r,x,h,m=>by
  rw[bO] at m;rw[Pl] at h;rcases zay.mp m with m |m
  ·exact Of s x h.1 m
  ·exact qQ r x h.2 m
end
end
end PG
namespace PG
open PM (W Tr)
def Dc (bs:List iQ):Tr->Prop
 |.num n=>0<=n/\n<1000
 |.box x=>x∈bs.map (·.name)
 |.bin o l r=>o∈([[43],[45],[42]]:List W)/\Dc bs l/\Dc bs r
end PG
namespace PG
def oF (r:wJ):Prop:=0<r.2.2.length/\(r.2.1=.ifs\/r.2.1=.nQ->1<r.2.2.length)
mutual
theorem Ik:∀(s:de) (x:Int),∀r∈hJ s x,oF r
 |.ifs k sg l r a b,x,y,h=>by
  rw[hJ] at h;simp only[zaj,zay] at h;rcases h with rfl |h |h
  ·simp[oF]
  ·exact nU a x y h
  ·exact nU b x y h
 |.nQ k sg l r a,x,y,h=>by
  rw[hJ] at h;simp only[zaj] at h;rcases h with rfl |h
  ·simp[oF]
  ·exact nU a k y h
 |.ask k _,x,y,h=>by simp[hJ] at h;subst h;simp[oF]
 |.put k _ _,x,y,h=>by simp[hJ] at h;subst h;simp[oF]
 |.say k _,x,y,h=>by simp[hJ] at h;subst h;simp[oF]
 |.iW k _ _ _,x,y,h=>by simp[hJ] at h;subst h;simp[oF]
 |.stop k,x,y,h=>by simp[hJ] at h;subst h;simp[oF]
theorem nU:∀(b:List de) (x:Int),∀r∈cI b x,oF r
 |[],x,y,h=>by simp[cI] at h
 |s::r,x,y,h=>by
  rw[cI,zay] at h;rcases h with h |h
  ·exact Ik s _ y h
  ·exact nU r x y h
end
end PG
namespace PG
theorem pY:∀(b:List de) (x:Int),gj b x=x\/∃t∈bO b,t.row=gj b x
 |[],x=>.inl rfl
 |s::r,x=>.inr ⟨s,by rw[bO];exact zbg _ (by cases s<;>simp[ij]),rfl⟩
mutual
theorem Lr:∀(s:de) (x:Int),∀r∈hJ s x,∀w∈r.2.2,w=0\/w=x\/∃t∈ij s,t.row=w
 |.ifs k sg l r a b,x,y,h,w,hw=>by
  rw[hJ] at h;simp only[zaj,zay] at h;rw[ij];rcases h with rfl |h |h
  ·simp only[zaj,List.mem_nil_iff,or_false] at hw;rcases hw with rfl |rfl
   ·rcases pY a x with e |⟨t,ht,e⟩
    ·exact .inr (.inl e)
    ·exact .inr (.inr ⟨t,by simp[ht],e⟩)
   ·rcases pY b x with e |⟨t,ht,e⟩
    ·exact .inr (.inl e)
    ·exact .inr (.inr ⟨t,by simp[ht],e⟩)
  ·rcases pZ a x y h w hw with e |e |⟨t,ht,e⟩
   ·exact .inl e
   ·exact .inr (.inl e)
   ·exact .inr (.inr ⟨t,by simp[ht],e⟩)
  ·rcases pZ b x y h w hw with e |e |⟨t,ht,e⟩
   ·exact .inl e
   ·exact .inr (.inl e)
   ·exact .inr (.inr ⟨t,by simp[ht],e⟩)
 |.nQ k sg l r a,x,y,h,w,hw=>by
  rw[hJ] at h;simp only[zaj] at h;rw[ij];have self:w=k->∃t∈(de.nQ k sg l r a::bO a),t.row=w:=fun e=>⟨_,zaE ..,e.symm⟩
  rcases h with rfl |h
  ·simp only[zaj,List.mem_nil_iff,or_false] at hw;rcases hw with rfl |rfl
   ·rcases pY a k with e |⟨t,ht,e⟩
    ·exact .inr (.inr (self e))
    ·exact .inr (.inr ⟨t,by simp[ht],e⟩)
   ·exact .inr (.inl rfl)
  ·rcases pZ a k y h w hw with e |e |⟨t,ht,e⟩
   ·exact .inl e
   ·exact .inr (.inr (self e))
   ·exact .inr (.inr ⟨t,by simp[ht],e⟩)
 |.ask k _,x,y,h,w,hw=>by simp[hJ] at h;subst h;simp at hw;exact .inr (.inl hw)
 |.put k _ _,x,y,h,w,hw=>by simp[hJ] at h;subst h;simp at hw;exact .inr (.inl hw)
 |.say k _,x,y,h,w,hw=>by simp[hJ] at h;subst h;simp at hw;exact .inr (.inl hw)
 |.iW k _ _ _,x,y,h,w,hw=>by simp[hJ] at h;subst h;simp at hw;exact .inr (.inl hw)
 |.stop k,x,y,h,w,hw=>by simp[hJ] at h;subst h;simp at hw;exact .inl hw
theorem pZ:∀(b:List de) (x:Int),∀r∈cI b x,∀w∈r.2.2,w=0\/w=x\/∃t∈bO b,t.row=w
 |[],x,y,h,_,_=>by simp[cI] at h
 |s::r,x,y,h,w,hw=>by
  rw[cI,zay] at h;rw[bO];rcases h with h |h
  ·rcases Lr s _ y h w hw with e |e |⟨t,ht,e⟩
   ·exact .inl e
   ·rcases pY r x with e2 |⟨t,ht,e2⟩
    ·exact .inr (.inl (e.trans e2))
    ·exact .inr (.inr ⟨t,zaP _ ht,e2.trans e.symm⟩)
   ·exact .inr (.inr ⟨t,zbg _ ht,e⟩)
  ·rcases pZ r x y h w hw with e |e |⟨t,ht,e⟩
   ·exact .inl e
   ·exact .inr (.inl e)
   ·exact .inr (.inr ⟨t,zaP _ ht,e⟩)
end
def Og (b:List de) (row:Int):Nat:=(bO b).findIdx (fun s=>s.row==row)
theorem GS{b:List de}(pw:(bO b).Pairwise (fun a b=>a.row<b.row))(i:Nat)(hi:i<(bO b).length):Og b (bO b)[i].row=i:=by
 unfold Og;rw[List.findIdx_eq hi];refine⟨by simp,fun j hj=>?_⟩;have:=zcp.mp pw j i (by lia) hi hj;simp only[beq_eq_false_iff_ne,ne_eq];lia
inductive kZ where
 |on |out |iW (row:Int) |fin
deriving DecidableEq
structure XB where
 rows:List Int
 Wl:List Int
 fin:kZ
section
variable(ask:Int->Bool)(step:Int->List Int->Int->Option (Int×List Int)×Option Int)
def take1 (a:Bool) (pF:List Int):Option (Int×List Int):=if a then (match pF with |[]=>none |f::r=>some (f,r)) else some (0,pF)
end
end PG
namespace L2
open PySem
def JD:PG.Wd->Str
 |.ask=>"ask" |.put=>"put" |.say=>"say" |.iW=>"must" |.stop=>"stop" |.ifs=>"if" |.nQ=>"while" |.Tp=>"else" |.fin=>"end"
mutual
def Fh:PG.de->Dp
 |.ask k b=>.tup [.str "ask",.int k,.str (S b)]
 |.put k b e=>.tup [.str "put",.int k,.str (S b),pE e]
 |.say k e=>.tup [.str "say",.int k,pE e]
 |.iW k sg l r=>.tup [.str "must",.int k,.str (S sg),pE l,pE r]
 |.stop k=>.tup [.str "stop",.int k]
 |.ifs k sg l r a b=>.tup [.str "if",.int k,.str (S sg),pE l,pE r,.lst (Oh a),.lst (Oh b)]
 |.nQ k sg l r a=>.tup [.str "while",.int k,.str (S sg),pE l,pE r,.lst (Oh a)]
def Oh:List PG.de->List Dp
 |[]=>[]
 |s::r=>Fh s::Oh r
end
def Dd (b:PG.iQ):Dp:=.tup [.str (S b.name),.int b.size,.int b.first]
def Tu (r:PG.Row):Dp:=.lst [.int r.1,.str (JD r.2)]
def Tv:PG.Tg->Dp
 |.row k=>.tup [.str "row",.int k]
 |.side k b=>.tup [.str "side",.int k,.bl b]
 |.iW k=>.tup [.str "must",.int k]
 |.fin=>.tup [.str "end"]
def bG (O:zc9->Prop) (H H':Hp):Prop:=∀b o,¬O b->H b=some o->H' b=some o
def Fix (K:zac) (O:zc9->Prop) (H:Hp) (d:Dp) (v:V):Prop:=∀H',bG O H H'->Rep K H' d v
def fW (K:zac) (O:zc9->Prop) (H:Hp) (ds:List Dp) (vs:List V):Prop:=∀H',bG O H H'->bf K H' ds vs
section
variable{K:zac}{O O':zc9->Prop}{H H1 H2:Hp}{d:Dp}{ds:List Dp}{v:V}{vs:List V}{p:zc9}{o:HO}
theorem bG.refl:bG O H H:=fun _ _ _ e=>e
theorem bG.trans(a:bG O H H1)(b:bG O H1 H2):bG O H H2:=fun c u n e=>b c u n (a c u n e)
theorem bG.of(s:ar H H1):bG O H H1:=fun b u _ e=>s b u e
theorem bG.mono(a:bG O H H1)(i:∀b,O b->O' b):bG O' H H1:=fun b u n e=>a b u (fun z=>n (i b z)) e
theorem bG.one(a:bN p H H1)(hp:O p):bG O H H1:=fun b u n e=>a b u (fun z=>n (by rw[z];exact hp)) e
theorem bG.put(a:bG O H H1)(hp:O p)(u:HO):bG O H (upd H1 p u):=fun b w n e=>by rw[aq (fun z=>n (by rw[z];exact hp))];exact a b w n e
theorem bG.new(a:bG O H H1)(hp:H1 p=none)(u:HO):bG O H (upd H1 p u):=fun b w n e=>by rw[aq (aI (a b w n e) hp)];exact a b w n e
theorem Fix.up(f:Fix K O H d v)(u:bG O H H1):Fix K O H1 d v:=fun H2 u2=>f H2 (u.trans u2)
theorem fW.up(f:fW K O H ds vs)(u:bG O H H1):fW K O H1 ds vs:=fun H2 u2=>f H2 (u.trans u2)
theorem fW.Wm(f:fW K O H ds vs):bf K H ds vs:=f H .refl
theorem Fix.sub(f:Fix K O H d v)(i:∀b,O' b->O b):Fix K O' H d v:=fun H2 u=>f H2 (u.mono i)
theorem fW.sub(f:fW K O H ds vs)(i:∀b,O' b->O b):fW K O' H ds vs:=fun H2 u=>f H2 (u.mono i)
theorem fW.nil:fW K O H [] []:=fun _ _=>.nil
theorem fW.cons(a:Fix K O H d v)(b:fW K O H ds vs):fW K O H (d::ds) (v::vs):=fun H2 u=>.cons (a H2 u) (b H2 u)
theorem fW.snoc(b:fW K O H ds vs)(a:Fix K O H d v):fW K O H (ds++[d]) (vs++[v]):=fun H2 u=>(b H2 u).append (.cons (a H2 u) .nil)
theorem Fix.int{i:Int}:Fix K O H (.int i) (.int i):=fun _ _=>Rep.dG.mpr rfl
theorem Fix.str{x:Str}:Fix K O H (.str x) (.str x):=fun _ _=>Rep.bh.mpr rfl
theorem Fix.tup(h:H p=some (.tup vs))(n:¬O p)(f:fW K O H ds vs):Fix K O H (.tup ds) (.ref p):=fun H2 u=>Rep.cq.mpr ⟨p,vs,rfl,.of (u p _ n h),f H2 u⟩
theorem Fix.lst(h:H p=some (.lst vs))(n:¬O p)(f:fW K O H ds vs):Fix K O H (.lst ds) (.ref p):=fun H2 u=>Rep.ic.mpr ⟨p,vs,rfl,.of (u p _ n h),f H2 u⟩
end
structure Ls(K:zac)(H:Hp)(D S:zc9)(sc:List Int)(p:Nat):Prop where
 rS:H D=some (.lst [.ref S,.int p])
 Fi:H S=some (.lst (sc.map .int))
 ne:S≠D
 len:sc.length<=63
end L2
namespace L2
open PySem
theorem Ls.same{K:zac}{H H':Hp}{D S:zc9}{sc:List Int}{p:Nat}(d:Ls K H D S sc p)(s:ar H H'):Ls K H' D S sc p:=⟨s _ _ d.rS,s _ _ d.Fi,d.ne,d.len⟩
theorem g8.nP{K:zac}{H H':Hp}{D a:zc9}{xs:List V}(h:g8 K H a xs)(u:bN D H H')(n:a≠D):g8 K H' a xs:=by
 rcases h with (h |⟨o,h⟩) |h
 ·exact .inl (.inl (u _ _ n h))
 ·exact .inl (.inr ⟨o,u _ _ n h⟩)
 ·exact .inr h
theorem GU{a:Option V}{r:St}{H:Hp}{Q:VK}:(e8 13 (a::r) H Q)=(e8 12 r H Q):=rfl
theorem GV{a:Option V}{r:St}{H:Hp}{Q:VK}:(e8 14 (a::r) H Q)=(e8 13 r H Q):=rfl
def vI (K:zac) (O:zc9->Prop) (H:Hp) (B:zc9) (bs:List PG.iQ):Prop:=Fix K O H (.lst (bs.map Dd)) (.ref B)/\bs.length<=10
def Own (K:zac) (H0 H:Hp) (d:Dp) (v:V):Prop:=∀O:zc9->Prop,(∀b,O b->H0 b≠none)->Fix K O H d v
section
variable{K:zac}{O:zc9->Prop}{H0 H H1:Hp}{d:Dp}{v:V}{D B:zc9}{bs:List PG.iQ}
theorem Own.up(f:Own K H0 H d v)(u:bN D H H1)(hD:H0 D≠none):Own K H0 H1 d v:=fun O hO=>by
 have:=f (fun b=>O b\/b=D) (fun b hb=>hb.elim (hO b) (fun e=>e▸hD));exact(this.up (bG.one u (.inr rfl))).sub fun b hb=>.inl hb
theorem Own.same(f:Own K H0 H d v)(s:ar H H1):Own K H0 H1 d v:=fun O hO=>(f O hO).up (.of s)
theorem vI.up(f:vI K (·=D) H B bs)(u:bN D H H1):vI K (·=D) H1 B bs:=⟨f.1.up (bG.one u rfl),f.2⟩
theorem vI.same(f:vI K (·=D) H B bs)(s:ar H H1):vI K (·=D) H1 B bs:=⟨f.1.up (.of s),f.2⟩
theorem bN.Oi(u:bN D H H1)(hD:H1 D≠none):∀b,H b≠none->H1 b≠none:=fun b hb=>by
 by_cases e:b=D
 ·rw[e];exact hD
 ·cases z:H b with
  |none=>exact absurd z hb
  |some o=>rw[u b o e z];simp
end
def rT (K:zac) (H0 H:Hp) (ds:List Dp) (vs:List V):Prop:=∀O:zc9->Prop,(∀b,O b->H0 b≠none)->fW K O H ds vs
section
variable{K:zac}{H0 H H1:Hp}{d:Dp}{v:V}{ds:List Dp}{vs:List V}{D p:zc9}
theorem rT.nil:rT K H0 H [] []:=fun _ _=>fW.nil
theorem rT.cons(a:Own K H0 H d v)(b:rT K H0 H ds vs):rT K H0 H (d::ds) (v::vs):=fun O h=>fW.cons (a O h) (b O h)
theorem Own.int{i:Int}:Own K H0 H (.int i) (.int i):=fun _ _=>Fix.int
theorem rT.same(f:rT K H0 H ds vs)(s:ar H H1):rT K H0 H1 ds vs:=fun O hO=>(f O hO).up (.of s)
end
theorem rT.up{K:zac}{H0 H H1:Hp}{ds:List Dp}{vs:List V}{D:zc9}(f:rT K H0 H ds vs)(u:bN D H H1)(hD:H0 D≠none):rT K H0 H1 ds vs:=fun O hO=>by
 have:=f (fun b=>O b\/b=D) (fun b hb=>hb.elim (hO b) (fun e=>e▸hD));exact(this.up (bG.one u (.inr rfl))).sub fun b hb=>.inl hb
theorem rT.snoc{K:zac}{H0 H:Hp}{d:Dp}{v:V}{ds:List Dp}{vs:List V}(b:rT K H0 H ds vs)(a:Own K H0 H d v):rT K H0 H (ds++[d]) (vs++[v]):=fun O h=>fW.snoc (b O h) (a O h)
def Zj:Nat->Str
 |0=>"all"
 |1=>"if"
 |2=>"else"
 |_=>"while"
structure mE(K:zac)(Oo:zc9->Prop)(H:Hp)(f:PG.Frame)(a b:zc9)(hd fi:V)(xs:List V):Prop where
 fr:H a=some (.lst [.str (Zj f.kind),.ref b,hd,fi])
 bd:H b=some (.lst xs)
 ok:fW K Oo H (f.body.map Fh) xs
 Tw:f.kind≠0->∃c ys,hd=.ref c/\H c=some (.tup ys)/\¬Oo c/\fW K Oo H [.str (if f.kind=3 then "while" else "if"),.int f.k,.str (S f.sg),pE f.l,pE f.r] ys
 Tz:f.kind=2->Fix K Oo H (.lst (f.first.map Fh)) fi
 len:xs.length=f.body.length
abbrev UW:=PG.Frame×zc9×zc9
def AS (D P R:zc9) (fM:List UW):List zc9:=D::P::R::fM.flatMap fun x=>[x.2.1,x.2.2]
def O (D P R:zc9) (fM:List UW) (E:List zc9):zc9->Prop:=fun b=>b∈AS D P R fM\/b∈E
structure Cr(K:zac)(H:Hp)(D S:zc9)(sc:List Int)(p:Nat)(B:zc9)(bs:List PG.iQ)(P R:zc9)(fM:List UW)(rows:List PG.Row)(E:List zc9):Prop where
 rS:Ls K H D S sc p
 box:Fix K (O D P R fM E) H (.lst (bs.map Dd)) (.ref B)
 Nu:bs.length<=10
 j6:H P=some (.lst (fM.reverse.map fun x=>.ref x.2.1))
 frames:∀x∈fM,∃hd fi xs,mE K (O D P R fM E) H x.1 x.2.1 x.2.2 hd fi xs
 rows:∃JE,H R=some (.lst JE)/\fW K (O D P R fM E) H (rows.map Tu) JE/\JE.length=rows.length
 nd:(AS D P R fM).Nodup
 nS:S ∉ AS D P R fM
section
variable{K:zac}{H H':Hp}{D S B P R:zc9}{sc:List Int}{p p':Nat}{bs:List PG.iQ}{fM:List UW}{rows:List PG.Row}{E E':List zc9}
theorem mE.up{Oo:zc9->Prop}{f:PG.Frame}{a b:zc9}{hd fi:V}{xs:List V}(x:mE K Oo H f a b hd fi xs)(u:bG Oo H H')(ha:H' a=H a)(hb:H' b=H b):mE K Oo H' f a b hd fi xs:=
 ⟨ha.trans x.fr,hb.trans x.bd,x.ok.up u,fun z=>let ⟨c,ys,e,h,n,g⟩:=x.Tw z;⟨c,ys,e,u _ _ n h,n,g.up u⟩,fun z=>(x.Tz z).up u,x.len⟩
theorem mE.sub{O1 O2:zc9->Prop}{f:PG.Frame}{a b:zc9}{hd fi:V}{xs:List V}(x:mE K O1 H f a b hd fi xs)(i:∀c,O2 c->O1 c):mE K O2 H f a b hd fi xs:=
 ⟨x.fr,x.bd,x.ok.sub i,fun z=>let ⟨c,ys,e,h,n,g⟩:=x.Tw z;⟨c,ys,e,h,fun w=>n (i c w),g.sub i⟩,fun z=>(x.Tz z).sub i,x.len⟩
theorem Cr.ne(s:Cr K H D S sc p B bs P R fM rows E):D≠P/\D≠R/\P≠R/\∀x∈fM,x.2.1≠D/\x.2.2≠D/\x.2.1≠P/\x.2.2≠P/\x.2.1≠R/\x.2.2≠R:=by
 have nd:=s.nd;unfold AS at nd;rw[zbi,zbi,zbi] at nd;obtain⟨h1,h2,h3,h4⟩:=nd;simp only[zaj,not_or] at h1 h2;refine⟨h1.1,h1.2.1,h2.1,fun x hx=>?_⟩;have m1:x.2.1∈fM.flatMap fun x=>[x.2.1,x.2.2]:=zcy.mpr ⟨x,hx,by simp⟩;have m2:x.2.2∈fM.flatMap fun x=>[x.2.1,x.2.2]:=zcy.mpr ⟨x,hx,by simp⟩;exact⟨fun e=>h1.2.2 (e▸m1),fun e=>h1.2.2 (e▸m2),fun e=>h2.2 (e▸m1),fun e=>h2.2 (e▸m2),fun e=>h3 (e▸m1),fun e=>h3 (e▸m2)⟩
theorem Cr.Oi(s:Cr K H D S sc p B bs P R fM rows E):∀b,b∈AS D P R fM->H b≠none:=fun b hb=>by
 unfold AS at hb;simp only[zaj,zcy] at hb;rcases hb with rfl |rfl |rfl |⟨x,hx,hb⟩
 ·rw[s.rS.rS];simp
 ·rw[s.j6];simp
 ·obtain⟨JE,h,_⟩:=s.rows;rw[h];simp
 ·obtain⟨hd,fi,xs,fa⟩:=s.frames x hx;simp only[za4,or_false] at hb;rcases hb with rfl |rfl
  ·rw[fa.fr];simp
  ·rw[fa.bd];simp
theorem Cr.draw(s:Cr K H D S sc p B bs P R fM rows E)(u:bN D H H')(dk:Ls K H' D S sc p'):Cr K H' D S sc p' B bs P R fM rows E:=by
 obtain⟨n1,n2,n3,n4⟩:=s.ne;have uS:bG (O D P R fM E) H H':=bG.one u (.inl (by simp[AS]));refine⟨dk,s.box.up uS,s.Nu,u _ _ n1.symm s.j6,fun x hx=>?_,?_,s.nd,s.nS⟩
 ·obtain⟨hd,fi,xs,fa⟩:=s.frames x hx;obtain⟨m1,m2,_⟩:=n4 x hx;exact⟨hd,fi,xs,fa.up uS ((u _ _ m1 fa.fr).trans fa.fr.symm) ((u _ _ m2 fa.bd).trans fa.bd.symm)⟩
 ·obtain⟨JE,h,f,l⟩:=s.rows;exact⟨JE,u _ _ n2.symm h,f.up uS,l⟩
theorem Cr.same(s:Cr K H D S sc p B bs P R fM rows E)(e:ar H H'):Cr K H' D S sc p B bs P R fM rows E:=s.draw (.of e) (s.rS.same e)
theorem Cr.cu(s:Cr K H D S sc p B bs P R fM rows E):vI K (·=D) H B bs:=⟨s.box.sub fun b hb=>.inl (by rw[show b=D from hb];simp[AS]),s.Nu⟩
theorem Cr.row(s:Cr K H D S sc p B bs P R fM rows E){JE:List V}(hR:H R=some (.lst JE)){k:Int}{w:PG.Wd}{q:zc9}(hq:H q=some (.lst [.int k,.str (JD w)]))(nq:¬O D P R fM E q):Cr K (upd H R (.lst (JE++[.ref q]))) D S sc p B bs P R fM (rows++[(k,w)]) E:=by
 obtain⟨n1,n2,n3,n4⟩:=s.ne;have mR:R∈AS D P R fM:=by simp[AS]
 have uS:bG (O D P R fM E) H (upd H R (.lst (JE++[.ref q]))):=bG.refl.put (.inl mR) _;have Zk:S≠R:=fun e=>s.nS (by rw[e];exact mR);refine⟨⟨by rw[aq n2];exact s.rS.rS,by rw[aq Zk];exact s.rS.Fi,s.rS.ne,s.rS.len⟩,s.box.up uS,s.Nu,by rw[aq n3];exact s.j6,fun x hx=>?_,?_,s.nd,s.nS⟩
 ·obtain⟨hd,fi,xs,fa⟩:=s.frames x hx;obtain⟨_,_,_,_,m1,m2⟩:=n4 x hx;exact⟨hd,fi,xs,fa.up uS (aq m1) (aq m2)⟩
 ·obtain⟨Zl,h,f,l⟩:=s.rows;rw[hR] at h;cases h;refine⟨_,ae,?_,by simp[l]⟩;rw[zat];exact(f.up uS).snoc (Fix.lst (by rw[aq (fun e=>nq (.inl (by rw[e];exact mR)))];exact hq) nq (.cons .int (.cons .str .nil)))
theorem Cr.push(s:Cr K H D S sc p B bs P R fM rows E){f:PG.Frame}{a b:zc9}{hd fi:V}{xs:List V}(fa:mE K (O D P R fM E) H f a b hd fi xs)(ha:a ∉ AS D P R fM)(hb:b ∉ AS D P R fM)(Zm:a≠b)(Zn:S≠a)(Zo:S≠b)(ea:a∈E)(eb:b∈E) :
 Cr K (upd H P (.lst ((fM.reverse.map fun x=>.ref x.2.1)++[.ref a]))) D S sc p B bs P R ((f,a,b)::fM) rows E:=by
 obtain⟨n1,n2,n3,n4⟩:=s.ne;have mP:P∈AS D P R fM:=by simp[AS]
 have uS:bG (O D P R fM E) H (upd H P (.lst ((fM.reverse.map fun x=>.ref x.2.1)++[.ref a]))):=bG.refl.put (.inl mP) _;have j:∀c,O D P R ((f,a,b)::fM) E c->O D P R fM E c:=fun c hc=>by
  simp only[O,AS,zaj,zcm,zaZ,za2] at hc ⊢;rcases hc with (h |h |h |h |h |h) |h
  ·exact .inl (.inl h)
  ·exact .inl (.inr (.inl h))
  ·exact .inl (.inr (.inr (.inl h)))
  ·exact .inr (by rw[h];exact ea)
  ·exact .inr (by rw[h];exact eb)
  ·exact .inl (.inr (.inr (.inr h)))
  ·exact .inr h
 have Zp:S≠P:=fun e=>s.nS (by rw[e];exact mP);unfold AS at ha hb;simp only[zaj,not_or] at ha hb;have nd:=s.nd;unfold AS at nd;simp only[zbi,zaj,not_or] at nd;obtain⟨⟨d1,d2,d5⟩,⟨p1,p4⟩,r3,fl⟩:=nd;have nS:=s.nS;unfold AS at nS;simp only[zaj,not_or] at nS;refine⟨⟨by rw[aq n1];exact s.rS.rS,by rw[aq Zp];exact s.rS.Fi,s.rS.ne,s.rS.len⟩,(s.box.up uS).sub j,s.Nu,by rw[ae,zbT,zat];rfl,fun x hx=>?_,?_,?_,?_⟩
 ·rcases zaj.mp hx with rfl |hx
  ·exact⟨hd,fi,xs,(fa.up uS (aq ha.2.1) (aq hb.2.1)).sub j⟩
  ·obtain⟨hd,fi,Zq,fa⟩:=s.frames x hx;obtain⟨_,_,k3,k4,_,_⟩:=n4 x hx;exact⟨hd,fi,Zq,(fa.up uS (aq k3) (aq k4)).sub j⟩
 ·obtain⟨JE,h,g,l⟩:=s.rows;exact⟨JE,by rw[aq n3.symm];exact h,(g.up uS).sub j,l⟩
 ·unfold AS;rw[zcm];simp only[zaZ,za2,zbi,zaj,not_or];exact⟨⟨d1,d2,fun e=>ha.1 e.symm,fun e=>hb.1 e.symm,d5⟩,⟨p1,fun e=>ha.2.1 e.symm,fun e=>hb.2.1 e.symm,p4⟩,⟨fun e=>ha.2.2.1 e.symm,fun e=>hb.2.2.1 e.symm,r3⟩,⟨Zm,ha.2.2.2⟩,hb.2.2.2,fl⟩
 ·unfold AS;rw[zcm];simp only[zaZ,za2,zaj,not_or];exact⟨nS.1,nS.2.1,nS.2.2.1,Zn,Zo,nS.2.2.2⟩
end
theorem Lu{X:Cx}{K:zac}(h:X.K=K):R4 X (Ki K):=h▸aU
theorem Oj{X:Cx}{K:zac}(h:X.K=K):R4 X (NR K):=h▸dP
theorem Il{X:Cx}{K:zac}(h:X.K=K):pN X (compareOp .NotIn) (VQ K true):=h▸kH
def Kept (D:zc9) (H H':Hp):Prop:=bN D H H'/\∀b,H b≠none->H' b≠none
theorem Kept.up{D:zc9}{H H1 H2:Hp}(k:Kept D H H1)(u:bN D H1 H2)(hD:H2 D≠none):Kept D H H2:=⟨k.1.trans u,fun b hb=>u.Oi hD b (k.2 b hb)⟩
theorem Kept.same{D:zc9}{H H1 H2:Hp}(k:Kept D H H1)(s:ar H1 H2):Kept D H H2:=⟨k.1.trans (.of s),fun b hb=>by
 have:=k.2 b hb;cases z:H1 b with
 |none=>exact absurd z this
 |some o=>rw[s _ _ z];simp⟩
theorem Kept.put{D q:zc9}{H H1:Hp}(k:Kept D H H1)(hq:H q=none)(o:HO):Kept D H (upd H1 q o):=⟨fun b u n e=>by rw[aq (aI e hq)];exact k.1 b u n e,fun b hb=>by
 by_cases z:b=q
 ·rw[z,ae];simp
 ·rw[aq z];exact k.2 b hb⟩
def Ra (r:PG.wJ):Dp:=.tup [.int r.1,.str (JD r.2.1),.tup (r.2.2.map .int)]
theorem Im{K:zac}{H:Hp}:∀(s:PG.de) {v:V},Rep K H (Fh s) v->∃a ys,v=.ref a/\eS K H a (.str (JD s.wd) :: .int s.row::ys):=by
 intro s v h;have key:∃ds,Fh s=.tup (.str (JD s.wd) :: .int s.row::ds):=by
  cases s<;>exact⟨_,by rw[Fh];rfl⟩
 obtain⟨ds,e⟩:=key;rw[e,Rep.cq] at h;obtain⟨a,xs,rfl,q,r⟩:=h;rw[bf.bP] at r;obtain⟨v1,t1,rfl,e1,r⟩:=r;rw[bf.bP] at r;obtain⟨v2,t2,rfl,e2,_⟩:=r;rw[Rep.bh] at e1;rw[Rep.dG] at e2;subst e1 e2;exact⟨a,t2,rfl,q⟩
structure Wn(K:zac)(H H2:Hp)(tl:zc9)(H3:Hp)(us:List V)(pre:List PG.Tg):Prop where
 s:ar H H3
 u:bG (·=tl) H2 H3
 y:H3 tl=some (.lst us)
 f:fW K (·=tl) H3 (pre.map Tv) us
 l:us.length=pre.length
section
variable{K:zac}{H H2 H3 H4:Hp}{tl p:zc9}{us vs:List V}{pre:List PG.Tg}{ds:List Dp}{g:PG.Tg}
theorem Wn.same(a:Wn K H H2 tl H3 us pre)(s:ar H3 H4):Wn K H H2 tl H4 us pre:=⟨a.s.trans s,a.u.trans (.of s),s _ _ a.y,a.f.up (.of s),a.l⟩
end
def TB:Option Nat->V
 |none=>.dB
 |some e=>.int e
def Zr (A:Nat->zc9) (p:Nat):Option PG.Mt->Option V
 |none=>none
 |some (.back q)=>some (.int q)
 |some (.op _ _)=>some (.ref (A p))
structure Pm(H:Hp)(d:zc9)(m:PG.Mm)(A:Nat->zc9)(Hx:Hp)(bg:List (Key×V)):Prop where
 s:ar H Hx
 dn:H d=none
 dd:Hx d=some (.dK bg)
 at_:∀p:Nat,eB bg (.inl (p:Int))=Zr A p (m p)
 ls:∀p e f,m p=some (.op e f)->Hx (A p)=some (.lst [TB e,TB f])/\H (A p)=none
 inj:∀p q e f e' f',m p=some (.op e f)->m q=some (.op e' f')->A p=A q->p=q
section
variable{H Hx H':Hp}{d b:zc9}{m:PG.Mm}{A:Nat->zc9}{bg:List (Key×V)}{o:HO}
theorem Pm.ne(t:Pm H d m A Hx bg){p:Nat}{e f:Option Nat}(h:m p=some (.op e f)):A p≠d:=dC (t.ls p e f h).1 t.dd (by intro z;cases z)
theorem Pm.same(t:Pm H d m A Hx bg)(s:ar Hx H'):Pm H d m A H' bg:=⟨t.s.trans s,t.dn,s _ _ t.dd,t.at_,fun p e f h=>⟨s _ _ (t.ls p e f h).1,(t.ls p e f h).2⟩,t.inj⟩
theorem Pm.put(t:Pm H d m A Hx bg)(hb:H b=none)(nd:b≠d)(nl:∀p e f,m p=some (.op e f)->A p≠b)(o:HO):Pm H d m A (upd Hx b o) bg:=
 ⟨fun z u e=>by rw[aq (aI e hb)];exact t.s z u e,t.dn,by rw[aq nd.symm];exact t.dd,t.at_,fun p e f h=>⟨by rw[aq (nl p e f h)];exact(t.ls p e f h).1,(t.ls p e f h).2⟩,t.inj⟩
end
structure xE(K:zac)(H:Hp)(tl:zc9)(H3:Hp)(us:List V)(ds:List Dp):Prop where
 s:ar H H3
 y:H3 tl=some (.lst us)
 f:fW K (·=tl) H3 ds us
 l:us.length=ds.length
section
variable{K:zac}{H H3 H4:Hp}{tl p p1 p2:zc9}{us vs:List V}{ds es:List Dp}{d:Dp}{v:V}
theorem xE.new(h:H tl=none):xE K H tl (upd H tl (.lst [])) [] []:=⟨ar.new h _,ae,.nil,rfl⟩
theorem xE.same(a:xE K H tl H3 us ds)(s:ar H3 H4):xE K H tl H4 us ds:=⟨a.s.trans s,s _ _ a.y,a.f.up (.of s),a.l⟩
theorem xE.push(a:xE K H tl H3 us ds)(ht:H tl=none)(fv:Fix K (·=tl) H3 d v):xE K H tl (upd H3 tl (.lst (us++[v]))) (us++[v]) (ds++[d]):=by
 have uu:bG (·=tl) H3 (upd H3 tl (.lst (us++[v]))):=bG.refl.put (O:=(·=tl)) rfl _;exact⟨fun z o e=>by rw[aq (aI e ht)];exact a.s z o e,ae,(a.f.snoc fv).up uu,by simp[a.l]⟩
theorem xE.row(a:xE K H tl H3 us ds)(ht:H tl=none){k:Int}{w:PG.Wd}{ws:List Int}(h1:H3 p1=none)(h2:(upd H3 p1 (.tup (ws.map V.int))) p2=none) :
 (upd (upd H3 p1 (.tup (ws.map V.int))) p2 (.tup [.int k,.str (JD w),.ref p1])) tl=some (.lst us)/\
 xE K H tl (upd (upd (upd H3 p1 (.tup (ws.map V.int))) p2 (.tup [.int k,.str (JD w),.ref p1])) tl (.lst (us++[.ref p2]))) (us++[.ref p2]) (ds++[Ra (k,w,ws)]):=by
 have s1:=ar.new h1 (.tup (ws.map V.int));have a1:=a.same s1;have t1:(upd H3 p1 (.tup (ws.map V.int))) p1=some (.tup (ws.map V.int)):=ae;have n1:p1≠tl:=(aI a.y h1).symm;generalize upd H3 p1 (.tup (ws.map V.int))=H5 at *;have s2:=ar.new h2 (.tup [.int k,.str (JD w),.ref p1]);have a2:=a1.same s2;have t2:(upd H5 p2 (.tup [.int k,.str (JD w),.ref p1])) p2=some (.tup [.int k,.str (JD w),.ref p1]):=ae;have n2:p2≠tl:=(aI a1.y h2).symm;have t1:=s2 _ _ t1;generalize upd H5 p2 (.tup [.int k,.str (JD w),.ref p1])=H6 at *;refine⟨a2.y,a2.push ht (Fix.tup t2 n2 (.cons .int (.cons .str (.cons (Fix.tup t1 n1 ?_) .nil))))⟩;have allI:∀l:List Int,fW K (·=tl) H6 (l.map Dp.int) (l.map V.int):=fun l=>by
  induction l with
  |nil=>exact .nil
  |cons i r ih=>exact .cons .int ih
 exact allI ws
end
def xF (ss:List PG.de) (vs:List V):List (Key×V):=zc7 (fun s v=>(Sum.inl s.row,v)) ss vs
theorem De:∀(ss:List PG.de) (vs:List V),vs.length=ss.length->ss.Pairwise (fun a b=>a.row<b.row)->∀i (hi:i<ss.length) v,vs[i]?=some v->eB (xF ss vs) (.inl ss[i].row)=some v
 |[],_,_,_,i,hi,_,_=>by simp at hi
 |_::_,[],h,_,_,_,_,_=>by simp at h
 |s::ss,v::vs,h,hp,0,hi,u,hu=>by
  simp at hu;subst hu;show eB ((_,v)::xF ss vs) _=_;exact dE rfl
 |s::ss,v::vs,h,hp,i+1,hi,u,hu=>by
  rw[List.pairwise_cons] at hp;have lt:=hp.1 (ss[i]'(by simpa using hi)) (zaT _);show eB ((.inl s.row,v)::xF ss vs) (.inl (ss[i]'(by simpa using hi)).row)=_;rw[dF (fun e=>by have e:=Sum.inl.inj e;lia)];exact De ss vs (by simpa using h) hp.2 i (by simpa using hi) u (by simpa using hu)
def nV {α β γ:Type} (R:α->β->γ->Prop):List α->List β->List γ->Prop
 |[],[],[]=>True
 |a::as,b::bs,c::cs=>R a b c/\nV R as bs cs
 |_,_,_=>False
section
variable{α β γ:Type}{R S:α->β->γ->Prop}
theorem nV.cj{bs:List β}{cs:List γ}:nV R [] bs cs↔bs=[]/\cs=[]:=by
 cases bs<;>cases cs<;>simp[nV]
theorem nV.bP{a:α}{as:List α}{bs:List β}{cs:List γ}:nV R (a::as) bs cs↔∃b TC c TF,bs=b::TC/\cs=c::TF/\R a b c/\nV R as TC TF:=by
 constructor
 ·intro h;cases bs with
  |nil=>simp[nV] at h
  |cons b bs=>
   cases cs with
   |nil=>simp[nV] at h
   |cons c cs=>exact⟨b,bs,c,cs,rfl,rfl,h.1,h.2⟩
 ·rintro ⟨b,TC,c,TF,rfl,rfl,h1,h2⟩
  exact⟨h1,h2⟩
theorem nV.length:∀ {as:List α} {bs:List β} {cs:List γ},nV R as bs cs->bs.length=as.length/\cs.length=as.length
 |[],_,_,h=>by obtain⟨rfl,rfl⟩:=nV.cj.mp h;exact⟨rfl,rfl⟩
 |a::as,_,_,h=>by
  obtain⟨b,TC,c,TF,rfl,rfl,_,h2⟩:=nV.bP.mp h;have:=nV.length h2;simp[this]
theorem nV.snoc:∀ {as:List α} {bs:List β} {cs:List γ} {a:α} {b:β} {c:γ},nV R as bs cs->R a b c->nV R (as++[a]) (bs++[b]) (cs++[c])
 |[],_,_,a,b,c,h,r=>by obtain⟨rfl,rfl⟩:=nV.cj.mp h;exact⟨r,trivial⟩
 |x::as,_,_,a,b,c,h,r=>by
  obtain⟨b',TC,c',TF,rfl,rfl,h1,h2⟩:=nV.bP.mp h;exact⟨h1,nV.snoc h2 r⟩
end
theorem Fj{K:zac}{a D:zc9}{xs:List V}{te:TE}{Q:VK}{r:St}{H:Hp}(Pv:Nat->List V->Hp->Prop)(hS:g8 K H a xs)(hl:xs.length<=16000000)(hD:H D=none)(h0:Pv 0 [] (upd H D (.lst [])))
 (step:∀i x ys H2,xs[i]?=some x->ar H H2->H2 D=some (.lst ys)->ys.length=i->Pv i ys H2->∀R:VK,(∀v H3,ar H2 H3->Pv (i+1) (ys++[v]) (upd H3 D (.lst (ys++[v])))->R v H3)->te (some x::r) H2 R)
 (q:∀ys H2,ar H H2->H2 D=some (.lst ys)->Pv xs.length ys H2->Q (.ref D) H2):vC (Nr K a) D (nJ 0) Kt te Q (none::r) (upd H D (.lst [])):=by
 refine⟨fun i m τ H2=>m=xs.length-i/\i<=xs.length/\(∃x,τ=x::r)/\ar H H2/\∃ys,H2 D=some (.lst ys)/\ys.length=i/\Pv i ys H2,⟨xs.length,by simp,za6 _,⟨none,rfl⟩,ar.new hD _,[],ae,rfl,h0⟩,?_⟩
 rintro i m τ H2 ⟨rfl,hi,⟨x,rfl⟩,s2,ys,h2,ly,p2⟩
 by_cases pH:i<xs.length
 ·refine .inr ⟨⟨xs,xs[i],s2.seq hS,by simp[pH]⟩,fun τ' H'=>(∃x,τ'=x::r)/\ar H H'/\∃ys,H' D=some (.lst ys)/\ys.length=i+1/\Pv (i+1) ys H',fun τ' H' ⟨h1,h3,h4⟩=>⟨xs.length-(i+1),by lia,rfl,pH,h1,h3,h4⟩,fun y H' hy=>?_⟩;obtain⟨rfl,hy⟩:=hy;have ey:=hy _ (s2.seq hS);simp only[nJ,zcx,Kt];rw[if_pos trivial];refine step i y ys _ ey s2 h2 ly p2 _ fun v H3 s3 p3=>⟨ys,s3 _ _ h2,?_,⟨_,rfl⟩,?_,ys++[v],ae,by simp[ly],p3⟩
  ·have:zdh=2 ^ 24:=rfl;lia
  ·intro b o e;rw[aq (aI e hD)];exact s3 _ _ (s2 _ _ e)
 ·have e:i=xs.length:=by lia
  subst e;exact .inl ⟨⟨xs,s2.seq hS,zai _⟩,q ys H2 s2 h2 p2⟩
section
variable{K:zac}{H H':Hp}{p C dx:zc9}{fs:List (Str×V)}
mutual
theorem Ol(h:H p=some (.ins C dx fs))(u:bG (·=p) H H'):∀(d:Dp) (v:V),Rep K H d v->Rep K H' d v
 |.dB,v,r=>by rw[Rep.tq] at r ⊢;exact r
 |.bl b,v,r=>by rw[Rep.uG] at r ⊢;exact r
 |.int b,v,r=>by rw[Rep.dG] at r ⊢;exact r
 |.str b,v,r=>by rw[Rep.bh] at r ⊢;exact r
 |.lst l,v,r=>by
  rw[Rep.ic] at r ⊢;obtain⟨a,ys,rfl,q,rs⟩:=r;refine⟨a,ys,rfl,?_,tI h u l ys rs⟩;rcases q with (q |⟨o,q⟩) |q
  ·exact .inl (.inl (u _ _ (dC q h (by intro z;cases z)) q))
  ·exact .inl (.inr ⟨o,u _ _ (dC q h (by intro z;cases z)) q⟩)
  ·exact .inr q
 |.tup l,v,r=>by
  rw[Rep.cq] at r ⊢;obtain⟨a,ys,rfl,q,rs⟩:=r;refine⟨a,ys,rfl,?_,tI h u l ys rs⟩;rcases q with (q |⟨o,q⟩) |q
  ·exact .inl (.inl (u _ _ (dC q h (by intro z;cases z)) q))
  ·exact .inl (.inr ⟨o,u _ _ (dC q h (by intro z;cases z)) q⟩)
  ·exact .inr q
theorem tI(h:H p=some (.ins C dx fs))(u:bG (·=p) H H'):∀(ds:List Dp) (vs:List V),bf K H ds vs->bf K H' ds vs
 |[],vs,r=>by rw[bf.cj] at r ⊢;exact r
 |d::ds,vs,r=>by
  rw[bf.bP] at r ⊢;obtain⟨v,t,rfl,r1,r2⟩:=r;exact⟨v,t,rfl,Ol h u d v r1,tI h u ds t r2⟩
end
end
theorem AU{K:zac}{a D:zc9}{xs:List V}{te:TE}{Q:VK}{r:St}{H:Hp}(f:Nat->V)(hS:g8 K H a xs)(hl:xs.length<=16000000)(hD:H D=none)
 (step:∀i x H2,xs[i]?=some x->ar H H2->∀R:VK,R (f i) H2->te (some x::r) H2 R)
 (q:∀H2,ar H H2->H2 D=some (.lst ((zaV xs.length).map f))->Q (.ref D) H2):vC (Nr K a) D (nJ 0) Kt te Q (none::r) (upd H D (.lst [])):=by
 refine Fj (K:=K) (fun i ys H2=>ys=(zaV i).map f) hS hl hD rfl ?_ ?_
 ·rintro i x ys H2 hx s2 XC ly rfl R hR
  exact step i x H2 hx s2 R (hR _ _ (ar.refl _) (by rw[List.range_succ,zat];rfl))
 ·rintro ys H2 s2 XC rfl
  exact q H2 s2 XC
structure JF(K:zac)(C:zc9)(H:Hp)(p:zc9)(pr:PG.Prog):Prop where
 at_:∃(dx nl sd fa va st wy:zc9) (us ws:List V),H p=some (.ins C dx [("names",.ref nl),("sizes",.ref sd),("first",.ref fa),("statements",.ref st),("ways",.ref wy)])/\H dx=some (.own p)/\
  H nl=some (.lst (pr.cu.map fun b=>.str (S b.name)))/\H sd=some (.dK (pr.cu.map fun b=>(.inr (S b.name),.int b.size)))/\
  H fa=some (.tup [.int (PG.gj pr.body 0),.ref va])/\H va=some (.tup (pr.cu.map fun b=>.int b.first))/\
  us.length=(PG.bO pr.body).length/\H st=some (.dK (xF (PG.bO pr.body) us))/\bf K H ((PG.bO pr.body).map Fh) us/\
  ws.length=(PG.cI pr.body 0).length/\H wy=some (.dK (zc7 (fun r v=>(Sum.inl r.1,v)) (PG.cI pr.body 0) ws))/\∀i (hi:i<(PG.cI pr.body 0).length),∃q,ws[i]?=some (.ref q)/\eS K H q ((PG.cI pr.body 0)[i].2.2.map V.int)
end L2
namespace L2
open PySem
def Zs (bg:List (Key×V)) (x:W):Int:=match eB bg (.inr (S x)) with
 |some (.int i)=>i
 |_=>0
theorem JF.mono{K:zac}{C p:zc9}{H H':Hp}{pr:PG.Prog}(c:JF K C H p pr)(s:ar H H'):JF K C H' p pr:=by
 obtain⟨dx,nl,sd,fa,va,st,wy,us,ws,h1,h2,h3,h4,h5,h6,h7,h8,h9,JG,TH,TJ⟩:=c.at_;exact⟨⟨dx,nl,sd,fa,va,st,wy,us,ws,s _ _ h1,s _ _ h2,s _ _ h3,s _ _ h4,s _ _ h5,s _ _ h6,h7,s _ _ h8,h9.mono s,JG,s _ _ TH,fun i hi=>let ⟨q,e,r⟩:=TJ i hi;⟨q,e,s.kU r⟩⟩⟩
def Rb (bs:List PG.iQ) (vs:List V):List (Key×V):=zc7 (fun b v=>(Sum.inr (S b.name),v)) bs vs
def TK:PG.de->Option (W×PM.Tr×PM.Tr)
 |.iW _ sg l r=>some (sg,l,r)
 |.ifs _ sg l r _ _=>some (sg,l,r)
 |.nQ _ sg l r _=>some (sg,l,r)
 |_=>none
def Rc (sg:W) (a b:Int):Bool:=if sg=[60] then decide (a<b) else decide (a=b)
def wv (bs:List PG.iQ) (vals:List Int) (e:PM.Tr):Int:=rR (Zs (Rb bs (vals.map V.int))) e
def jO (K:zac) (H:Hp) (sa:zc9) (row:Int) (vals:List Int):Prop:=∃va,eS K H sa [.int row,.ref va]/\eS K H va (vals.map V.int)
theorem jO.mono{K:zac}{H H':Hp}{sa:zc9}{row:Int}{vals:List Int}(h:jO K H sa row vals)(s:ar H H'):jO K H' sa row vals:=by obtain⟨va,h1,h2⟩:=h;exact⟨va,s.kU h1,s.kU h2⟩
structure Rf(pr:PG.Prog):Prop where
 pw:(PG.bO pr.body).Pairwise (fun a b=>a.row<b.row)
 nb:(pr.cu.map (·.name)).Nodup
 Nu:pr.cu.length<=10
 pos:∀s∈PG.bO pr.body,0<s.row
theorem xG(b:List PG.de)(i:Nat)(hi:i<(PG.bO b).length):∃hf:i<(PG.cI b 0).length,(PG.cI b 0)[i].1=(PG.bO b)[i].row/\(PG.cI b 0)[i].2.1=(PG.bO b)[i].wd:=by
 have e:((PG.cI b 0).map fun r=>(r.1,r.2.1))=(PG.bO b).map fun x=>(x.row,x.wd):=by rw[PG.nR,PG.nT]
 have l:=congrArg zbE e;rw[zae,zae] at l;have hf:i<(PG.cI b 0).length:=by lia
 refine⟨hf,?_⟩;have h1:((PG.cI b 0).map fun r=>(r.1,r.2.1))[i]?=((PG.bO b).map fun x=>(x.row,x.wd))[i]?:=by rw[e]
 rw[zaF,zaF,zag hf,zag hi] at h1;have h1:=zav.inj h1;exact⟨congrArg Prod.fst h1,congrArg Prod.snd h1⟩
def Lv (K:zac) (H:Hp):Option (Int×List Int)->V->Prop
 |none,v=>v=.dB
 |some x,v=>∃a,v=.ref a/\jO K H a x.1 x.2
def qa (bs:List PG.iQ) (st:PG.de) (ws:List Int) (vals:List Int):Option (Int×List Int):=match TK st with
 |none=>none
 |some (sg,l,r)=>if Rc sg (wv bs vals l) (wv bs vals r) then some (ws.getD 0 0,vals) else if st.wd=.iW then none else some (ws.getD 1 0,vals)
open PyProof.Rows
def AV (bs:List PG.iQ) (x:W):Nat:=(bs.map (·.name)).idxOf x
def Bv (bs:List PG.iQ) (vals:List Int) (x:W) (v:Int):List Int:=vals.set (AV bs x) v
def o5 (bs:List PG.iQ) (x:W):Int:=((bs[AV bs x]?).map (·.size)).getD 1
def kX (bs:List PG.iQ) (st:PG.de) (ws vals:List Int) (Q5:Int):Option (Int×List Int)×Option Int:=match st with
 |.ask _ b=>(some (ws.getD 0 0,Bv bs vals b (Q5%o5 bs b)),none)
 |.put _ b e=>(some (ws.getD 0 0,Bv bs vals b (wv bs vals e%o5 bs b)),none)
 |.say _ e=>(some (ws.getD 0 0,vals),some (wv bs vals e))
 |.stop _=>(some (ws.getD 0 0,vals),none)
 |st=>(qa bs st ws vals,none)
theorem Dg{bs:List PG.iQ}{x:W}(h:x∈bs.map (·.name)):∃hi:AV bs x<bs.length,bs[AV bs x].name=x:=by
 have l:AV bs x<(bs.map (·.name)).length:=List.idxOf_lt_length_iff.mpr h;have e:(bs.map (·.name))[AV bs x]=x:=List.getElem_idxOf l;rw[zae] at l;rw[zbZ] at e;exact⟨l,e⟩
theorem dR{H H':Hp}{b:zc9}(s:ar H H')(h:H' b=none):H b=none:=by
 cases z:H b with
 |none=>rfl
 |some o=>rw[s _ _ z] at h;cases h
theorem eS.nP{K:zac}{H H':Hp}{D a:zc9}{xs ys:List V}(h:eS K H a xs)(hD:H D=some (.lst ys))(u:bN D H H'):eS K H' a xs:=by
 rcases h with (q |⟨o,q⟩) |q
 ·exact .inl (.inl (u _ _ (dC q hD (by intro z;cases z)) q))
 ·exact .inl (.inr ⟨o,u _ _ (dC q hD (by intro z;cases z)) q⟩)
 ·exact .inr q
theorem Lv.keep{K:zac}{H H':Hp}{o:Option (Int×List Int)}{v:V}(h:Lv K H o v)(s:ar H H'):Lv K H' o v:=by
 cases o with
 |none=>exact h
 |some x=>obtain⟨a,e,sa⟩:=h;exact⟨a,e,sa.mono s⟩
section
variable{K:zac}{H H':Hp}{p C dx a:zc9}{fs:List (Str×V)}{xs:List V}
theorem eS.ins(h:eS K H a xs)(hp:H p=some (.ins C dx fs))(u:bN p H H'):eS K H' a xs:=by
 rcases h with (q |⟨o,q⟩) |q
 ·exact .inl (.inl (u _ _ (dC q hp (by intro z;cases z)) q))
 ·exact .inl (.inr ⟨o,u _ _ (dC q hp (by intro z;cases z)) q⟩)
 ·exact .inr q
theorem g8.ins(h:g8 K H a xs)(hp:H p=some (.ins C dx fs))(u:bN p H H'):g8 K H' a xs:=by
 rcases h with (q |⟨o,q⟩) |q
 ·exact .inl (.inl (u _ _ (dC q hp (by intro z;cases z)) q))
 ·exact .inl (.inr ⟨o,u _ _ (dC q hp (by intro z;cases z)) q⟩)
 ·exact .inr q
theorem jO.ins{row:Int}{vals:List Int}(h:jO K H a row vals)(hp:H p=some (.ins C dx fs))(u:bN p H H'):jO K H' a row vals:=by obtain⟨va,h1,h2⟩:=h;exact⟨va,h1.ins hp u,h2.ins hp u⟩
theorem JF.ins{CC ch:zc9}{pr:PG.Prog}(c:JF K CC H ch pr)(hp:H p=some (.ins C dx fs))(n:ch≠p)(u:bN p H H'):JF K CC H' ch pr:=by
 obtain⟨dx,nl,sd,fa,va,st,wy,us,ws,h1,h2,h3,h4,h5,h6,h7,h8,h9,JG,TH,TJ⟩:=c.at_;have k:∀ {b:zc9} {o:HO},H b=some o->(∀C dx fs,o≠.ins C dx fs)->H' b=some o:=fun e no=>u _ _ (dC e hp (no _ _ _)) e;exact⟨⟨dx,nl,sd,fa,va,st,wy,us,ws,u _ _ n h1,k h2 (by intro _ _ _ z;cases z),k h3 (by intro _ _ _ z;cases z),k h4 (by intro _ _ _ z;cases z),k h5 (by intro _ _ _ z;cases z),k h6 (by intro _ _ _ z;cases z),h7,k h8 (by intro _ _ _ z;cases z),tI hp (bG.one u rfl) _ _ h9,JG,k TH (by intro _ _ _ z;cases z),fun i hi=>let ⟨q,e,r⟩:=TJ i hi;⟨q,e,r.ins hp u⟩⟩⟩
end
def TL:PG.kZ->List V
 |.on=>[.str "on"]
 |.out=>[.str "out"]
 |.iW r=>[.str "must",.int r]
 |.fin=>[.str "end"]
def xH (K:zac) (H:Hp):Option PG.kZ->V->Prop
 |none,v=>v=.dB
 |some e,v=>∃a,v=.ref a/\eS K H a (TL e)
theorem xH.mono{K:zac}{H H':Hp}{e:Option PG.kZ}{v:V}(h:xH K H e v)(s:ar H H'):xH K H' e v:=by
 cases e with
 |none=>exact h
 |some x=>obtain⟨a,e,q⟩:=h;exact⟨a,e,s.kU q⟩
theorem xH.ins{K:zac}{H H':Hp}{p C dx:zc9}{fs:List (Str×V)}{e:Option PG.kZ}{v:V}(h:xH K H e v)(hp:H p=some (.ins C dx fs))(u:bN p H H'):xH K H' e v:=by
 cases e with
 |none=>exact h
 |some x=>obtain⟨a,e,q⟩:=h;exact⟨a,e,q.ins hp u⟩
def UX (ch fl:zc9) (n:Nat) (sa:zc9) (ev:V):List (Str×V):=[("chart",.ref ch),("figures",.ref fl),("taken",.int n),("standing",.ref sa),("end",ev)]
structure JH(K:zac)(CC CW:zc9)(H:Hp)(wk ch fl:zc9)(pr:PG.Prog)(pF:List Int)(n:Nat)(row:Int)(vals:List Int)(e:Option PG.kZ):Prop where
 at_:∃(dx sa:zc9) (ev:V),H wk=some (.ins CW dx (UX ch fl n sa ev))/\jO K H sa row vals/\xH K H e ev
 XD:JF K CC H ch pr
 XE:g8 K H fl (pF.map V.int)
 TM:ch≠wk
theorem JH.mono{K:zac}{CC CW:zc9}{H H':Hp}{wk ch fl:zc9}{pr:PG.Prog}{pF:List Int}{n:Nat}{row:Int}{vals:List Int}{e:Option PG.kZ}(h:JH K CC CW H wk ch fl pr pF n row vals e)(s:ar H H'):JH K CC CW H' wk ch fl pr pF n row vals e:=
 let ⟨dx,sa,ev,h1,h2,h3⟩:=h.at_
 ⟨⟨dx,sa,ev,s _ _ h1,h2.mono s,h3.mono s⟩,h.XD.mono s,s.seq h.XE,h.TM⟩
theorem JH.put{K:zac}{CC CW:zc9}{H:Hp}{wk ch fl dx sa UY:zc9}{pr:PG.Prog}{pF:List Int}{n n':Nat}{row TN:Int}{vals Pn:List Int}{e e':Option PG.kZ}{ev UZ:V}(h:JH K CC CW H wk ch fl pr pF n row vals e)(hw:H wk=some (.ins CW dx (UX ch fl n sa ev)))
 (hs:jO K H UY TN Pn) (he:xH K H e' UZ):JH K CC CW (upd H wk (.ins CW dx (UX ch fl n' UY UZ))) wk ch fl pr pF n' TN Pn e':=by
 have u:bN wk H (upd H wk (.ins CW dx (UX ch fl n' UY UZ))):=(bN.refl _ _).put _;exact⟨⟨dx,UY,UZ,ae,hs.ins hw u,he.ins hw u⟩,h.XD.ins hw h.TM u,h.XE.ins hw u,h.TM⟩
theorem JH.lst{K:zac}{CC CW:zc9}{H H':Hp}{wk ch fl rl:zc9}{pr:PG.Prog}{pF:List Int}{n:Nat}{row:Int}{vals:List Int}{e:Option PG.kZ}{xs:List V}(h:JH K CC CW H wk ch fl pr pF n row vals e)(hr:H rl=some (.lst xs))(u:bN rl H H')(c:JF K CC H' ch pr)(f:g8 K H' fl (pF.map V.int)):JH K CC CW H' wk ch fl pr pF n row vals e:=by
 obtain⟨dx,sa,ev,h1,⟨va,h2,h3⟩,h4⟩:=h.at_;refine⟨⟨dx,sa,ev,u _ _ (dC h1 hr (by intro z;cases z)) h1,⟨va,h2.nP hr u,h3.nP hr u⟩,?_⟩,c,f,h.TM⟩;cases e with
 |none=>exact h4
 |some x=>obtain⟨a,e,q⟩:=h4;exact⟨a,e,q.nP hr u⟩
def mZ (b:List PG.de) (row:Int):PG.de:=((PG.bO b)[PG.Og b row]?).getD (.stop 0)
def Rh (b:List PG.de) (row:Int):List Int:=(((PG.cI b 0)[PG.Og b row]?).map (·.2.2)).getD []
def Wo (b:List PG.de) (row:Int):Bool:=decide ((mZ b row).wd=.ask)
def GW (pr:PG.Prog) (row:Int) (vals:List Int) (f:Int):Option (Int×List Int)×Option Int:=kX pr.cu (mZ pr.body row) (Rh pr.body row) vals f
theorem Om{b:List PG.de}(pw:(PG.bO b).Pairwise (fun a b=>a.row<b.row))(i:Nat)(hi:i<(PG.bO b).length):mZ b (PG.bO b)[i].row=(PG.bO b)[i]:=by
 unfold mZ;rw[PG.GS pw i hi,zag hi];rfl
theorem Oq{b:List PG.de}(pw:(PG.bO b).Pairwise (fun a b=>a.row<b.row))(i:Nat)(hi:i<(PG.bO b).length)(hf:i<(PG.cI b 0).length):Rh b (PG.bO b)[i].row=(PG.cI b 0)[i].2.2:=by
 unfold Rh;rw[PG.GS pw i hi,zag hf];rfl
structure Dh(pr:PG.Prog)(row:Int)(vals:List Int):Prop where
 row:row=0\/∃i,∃hi:i<(PG.bO pr.body).length,(PG.bO pr.body)[i].row=row
 len:vals.length=pr.cu.length
 small:∀v∈vals,v.natAbs<=2 ^ 12
structure Bw(pr:PG.Prog):Prop where
 ok:Rf pr
 dep:PG.uM pr.body<=3
 Nu:(PG.tH pr.body).length<=1000
 own:PG.Pl (·∈pr.cu.map (·.name)) (fun e=>PG.Dc pr.cu e/\PG.xC e<=2) (·∈PG.R9) pr.body
 size:∀b∈pr.cu,2<=b.size/\b.size<=10/\0<=b.first/\b.first<b.size
theorem GX{pr:PG.Prog}{w:Int}(h:w=0\/w=0\/∃t∈PG.bO pr.body,t.row=w):w=0\/∃i,∃hi:i<(PG.bO pr.body).length,(PG.bO pr.body)[i].row=w:=by
 rcases h with h |h |⟨t,ht,e⟩
 ·exact .inl h
 ·exact .inl h
 ·obtain⟨i,hi,e2⟩:=zb3.mp ht;exact .inr ⟨i,hi,by rw[e2];exact e⟩
theorem Bw.first{pr:PG.Prog}(d:Bw pr):Dh pr (PG.gj pr.body 0) (pr.cu.map (·.first)):=by
 refine⟨GX (.inr ?_),by simp,fun v hv=>?_⟩
 ·rcases PG.pY pr.body 0 with e |e
  ·exact .inl e
  ·exact .inr e
 ·obtain⟨b,hb,rfl⟩:=zaK.mp hv;have:=d.size b hb;lia
theorem Di{pr:PG.Prog}(d:Bw pr){x:W}(h:x∈pr.cu.map (·.name)):2<=o5 pr.cu x/\o5 pr.cu x<=10:=by
 obtain⟨hx,_⟩:=Dg h;unfold o5;rw[zag hx];have:=d.size _ (zaT hx);exact⟨this.1,this.2.1⟩
theorem Dh.step{pr:PG.Prog}(d:Bw pr){i:Nat}(hi:i<(PG.bO pr.body).length)(hf:i<(PG.cI pr.body 0).length){vals:List Int}{f:Int}(lv:vals.length=pr.cu.length)(sm:∀v∈vals,v.natAbs<=2 ^ 12){x:Int×List Int}{s:Option Int}
 (h:kX pr.cu (PG.bO pr.body)[i] (PG.cI pr.body 0)[i].2.2 vals f=(some x,s)):Dh pr x.1 x.2:=by
 have Lw:=PG.qQ pr.body _ d.own (zaT hi);obtain⟨w0,w1⟩:=PG.nU pr.body 0 _ (zaT hf);have Zt:=PG.pZ pr.body 0 _ (zaT hf);obtain⟨_,_,ew⟩:=xG pr.body i hi;rw[ew] at w1;generalize (PG.cI pr.body 0)[i].2.2=ws at *;generalize (PG.bO pr.body)[i]=st at *;have r0:∀j,j<ws.length->ws.getD j 0=0\/∃i,∃hi:i<(PG.bO pr.body).length,(PG.bO pr.body)[i].row=ws.getD j 0:=fun j hj=>by
  rw[zaA,zag hj];exact GX (Zt _ (zaT hj))
 have set:∀(b:W) (z:Int),b∈pr.cu.map (·.name)->(Bv pr.cu vals b (z%o5 pr.cu b)).length=pr.cu.length/\∀v∈Bv pr.cu vals b (z%o5 pr.cu b),v.natAbs<=2 ^ 12:=fun b z hb=>by
  unfold Bv;refine⟨by rw[zbs];exact lv,fun v hv=>?_⟩;rcases zcq hv with hv |rfl
  ·exact sm v hv
  ·have:=Di d hb;have m1:=zbt z (b:=o5 pr.cu b) (by lia);have m2:=zbe z (b:=o5 pr.cu b) (by lia);lia
 have cs:qa pr.cu st ws vals=some x->(st.wd=.iW\/st.wd=.ifs\/st.wd=.nQ)->Dh pr x.1 x.2:=by
  intro e hw;unfold qa at e;split at e
  ·cases e
  ·split at e
   ·cases e;exact⟨r0 0 w0,lv,sm⟩
   ·split at e
    ·cases e
    ·rename_i nm;cases e;exact⟨r0 1 (w1 (hw.resolve_left nm)),lv,sm⟩
 have TQ:∀(y:Int×List Int) (s':Option Int),(some y,s')=(some x,s)->Dh pr y.1 y.2->Dh pr x.1 x.2:=fun y s' e h=>by cases e;exact h
 cases st<;>rw[PG.Oe] at Lw
 ·exact TQ _ _ h ⟨r0 0 w0,(set _ _ Lw).1,(set _ _ Lw).2⟩
 ·exact TQ _ _ h ⟨r0 0 w0,(set _ _ Lw.1).1,(set _ _ Lw.1).2⟩
 ·exact TQ _ _ h ⟨r0 0 w0,lv,sm⟩
 ·exact cs (congrArg Prod.fst h) (.inl rfl)
 ·exact TQ _ _ h ⟨r0 0 w0,lv,sm⟩
 ·exact cs (congrArg Prod.fst h) (.inr (.inl rfl))
 ·exact cs (congrArg Prod.fst h) (.inr (.inr rfl))
section
variable(K:zac)(CC CW:zc9)
def Lx (H:Hp) (q:zc9) (o:PG.XB):Prop:=∃(r s e:zc9),eS K H q [.ref r,.ref s,.ref e]/\H r=some (.lst (o.rows.map V.int))/\H s=some (.lst (o.Wl.map V.int))/\r≠s/\eS K H e (TL o.fin)
end
theorem jO.nP{K:zac}{H H':Hp}{D a:zc9}{ys:List V}{row:Int}{vals:List Int}(h:jO K H a row vals)(hD:H D=some (.lst ys))(u:bN D H H'):jO K H' a row vals:=by obtain⟨va,h1,h2⟩:=h;exact⟨va,h1.nP hD u,h2.nP hD u⟩
theorem Lx.mono{K:zac}{H H':Hp}{q:zc9}{o:PG.XB}(h:Lx K H q o)(s:ar H H'):Lx K H' q o:=by obtain⟨r,t,e,h1,h2,h3,h4,h5⟩:=h;exact⟨r,t,e,s.kU h1,s _ _ h2,s _ _ h3,h4,s.kU h5⟩
section
variable{sa sb sc:Int}{a b c g:Int}{l:List Int}
def dS (sa:Nat):List Int:=[6,7]++(zan sa [8,9]).flatten++[8,11]
end
section
variable{K:zac}{H H1:Hp}{p:zc9}{vs:List V}{ds:List Dp}
theorem gL(e:upd H p (.lst vs)=H1)(hp:H p=none):ar H H1:=e▸ar.new hp _
theorem Nv(e:upd H p (.lst vs)=H1):H1 p=some (.lst vs):=e▸ae
end
section
variable{prog:zdl}{w:zdb}
def Ri (prog:zdl) (w:zdb) (h:Heap) (x:Key×List Key) (a:zc9):Prop:=∃(o:Obj) (n:Nat) (u:zda) (b:zc9),h.get? a=some o/\o.cls=.type "tuple"/\o.data=.seq #[u,.ref b] n/\wV x.1 u=true/\IsTupleKey (eU prog w) h x.2 b
theorem Ri.one{h:Heap}{a:zc9}{x y:Key×List Key}(hx:Ri prog w h x a)(hy:Ri prog w h y a):x=y:=by
 obtain⟨o,n,u,b,e,_,d,i,t⟩:=hx;obtain⟨o',n',u',b',e',_,d',i',t'⟩:=hy;rw[e] at e';cases e';rw[d] at d'
 injection d' with d1 _
 have d1:=congrArg Array.toList d1;simp only[List.cons.injEq,Value.ref.injEq,and_true] at d1;obtain⟨rfl,rfl⟩:=d1;exact Prod.ext ((eU prog w).inj _ _ _ i i') (t.inj t')
variable{A:zdk}{E:zda->zdj->Prop}{s:zdj}
end
structure KH(κ:Type)[DecidableEq κ] where
 knd:∀(P:zdl) (w:zdb),HeapKind P w κ
 on:zac->Hp->κ->zc9->Prop
 up:∀ {K:zac} {H H':Hp} {x:κ} {a:zc9},(∀b ys,eS K H b ys->eS K H' b ys)->on K H x a->on K H' x a
 of:∀ {X:Cx} {pins:List (zc9×Obj)} {σ:St} {H:Hp} {s:zdj} {x:κ} {a:zc9},Inv X pins σ H s->on X.K H x a->(knd X.prog X.w).is s.heap x a
 room:∀ {P:zdl} {w:zdb} {A:zdk},A.units+16<cLine->(knd P w).room A.in1
section
variable{κ:Type}[DecidableEq κ](J:KH κ)
def Po (P:zdl) (w:zdb) (a:zc9) (xs:List (κ×zc9×zda)):Heap->Prop:=fun h=>∃o es ep,h.get? a=some o/\o.ExactDict/\o.data=.dict es ep/\es.toList=xs.map (entryOfKey (J.knd P w))
abbrev KS (K:zac) (H:Hp):List (κ×V)->List (κ×zc9×zda)->Prop:=Paired fun p q=>p.1=q.1/\J.on K H p.1 q.2.1/\RelV p.2 q.2.2
structure DS(P:zdl)(w:zdb)(K:zac)(H:Hp)(a:zc9)(bg:List (κ×V)):Prop where
 len:bg.length<=zdh
 sys:(a==sysModules)=false
 at_:∃xs,H a=some (.ext (Po J P w a xs))/\KS J K H bg xs/\(xs.map (·.1)).Nodup
variable{J}
section
variable{K:zac}{H H':Hp}{bg:List (κ×V)}{xs:List (κ×zc9×zda)}
theorem KS.val(r:KS J K H bg xs)(k:κ):pK (eB bg k) ((atKey xs k).map (·.2)):=by
 induction r with
 |nil=>exact True.intro
 |@cons p q ps qs h t ih=>
  by_cases e:p.1=k
  ·rw[dE e,show atKey (q::qs) k=some q.2 by simp[atKey,h.1.symm.trans e]];exact h.2.2
  ·have e':¬q.1=k:=fun z=>e (h.1.trans z);rw[dF e,show atKey (q::qs) k=atKey qs k by simp[atKey,e']];exact ih
theorem KS.put(r:KS J K H bg xs)(k:κ){b:zc9}{y:V}{u:zda}(hb:J.on K H k b)(ry:RelV y u):KS J K H (putK bg k y) (storedH xs k b u):=by
 have e:(bg.any fun kv=>decide (kv.1=k))=(atKey xs k).isSome:=by rw[nO,(r.val k).AJ,Option.isSome_map]
 unfold putK storedH;rw[e];by_cases q:(atKey xs k).isSome=true
 ·rw[if_pos q,if_pos q];clear e q
  induction r with
  |nil=>exact .nil
  |@cons p q ps qs h t ih=>
   refine .cons ?_ ih;dsimp only;unfold putAt;by_cases e:p.1=k
   ·rw[if_pos e];rw[if_pos (h.1.symm.trans e)];exact⟨h.1,h.2.1,ry⟩
   ·rw[if_neg e];rw[if_neg fun z=>e (h.1.trans z)];exact h
 ·rw[if_neg q,if_neg q];exact Paired.snoc r ⟨rfl,hb,ry⟩
theorem KS.up(r:KS J K H bg xs)(t:∀b ys,eS K H b ys->eS K H' b ys):KS J K H' bg xs:=Paired.NC r fun _ _ z=>⟨z.1,J.up t z.2.1,z.2.2⟩
end
section
variable{X:Cx}{pins:List (zc9×Obj)}{σ:St}{H:Hp}{s:zdj}{a b:zc9}{v:V}{u r:zda}{A:zdk}{E:zda->zdj->Prop}{bg:List (κ×V)}{k:κ}
theorem eS.ext{K:zac}{H:Hp}{a c:zc9}{φ:Heap->Prop}{o:HO}{ys:List V}(h:eS K H c ys)(e:H a=some (.ext φ)):eS K (upd H a o) c ys:=by
 rcases h with (q |⟨o',q⟩) |q
 ·exact .inl (.inl (by rw[aq (dC q e (by intro z;cases z))];exact q))
 ·exact .inl (.inr ⟨o',by rw[aq (dC q e (by intro z;cases z))];exact q⟩)
 ·exact .inr q
end
theorem DS.Wq{P:zdl}{w:zdb}{K:zac}{H H':Hp}{a:zc9}{bg:List (κ×V)}(d:DS J P w K H a bg)(e:∀o,H a=some o->H' a=some o)(t:∀b ys,eS K H b ys->eS K H' b ys):DS J P w K H' a bg:=⟨d.len,d.sys,let ⟨xs,h,r,nd⟩:=d.at_;⟨xs,e _ h,r.up t,nd⟩⟩
theorem DS.mono{P:zdl}{w:zdb}{K:zac}{H H':Hp}{a:zc9}{bg:List (κ×V)}(d:DS J P w K H a bg)(s:ar H H'):DS J P w K H' a bg:=d.Wq (fun o h=>s _ _ h) fun b ys q=>s.kU q
section
variable{X:Cx}{o i value:Expr}{pos pos':Pos}{td ty tv:TE}
def Ly (J:KH κ) (P:zdl) (w:zdb):TE:=fun _ H Q=>∀p,H p=none->(p==sysModules)=false->Q (.ref p) (upd H p (.ext (Po J P w p [])))
def Lz (J:KH κ) (P:zdl) (w:zdb) (K:zac) (td ty tv:TE):TS:=fun D σ H=>tv σ H fun v H1=>td σ H1 fun x H2=>ty σ H2 fun y H3=>∃(a b:zc9) (bg:List (κ×V)) (k:κ),x=.ref a/\y=.ref b/\DS J P w K H3 a bg/\J.on K H3 k b/\bg.length<zdh/\
 ∀H4,DS J P w K H4 a (putK bg k v)->(∃φ,H4=upd H3 a (.ext φ))->D.nx σ H4
def LD (J:KH κ) (P:zdl) (w:zdb) (K:zac) (td ty:TE):TE:=fun σ H Q=>td σ H fun x H1=>ty σ H1 fun y H2=>∃(a b:zc9) (bg:List (κ×V)) (k:κ) (v:V),x=.ref a/\y=.ref b/\DS J P w K H2 a bg/\J.on K H2 k b/\eB bg k=some v/\Q v H2
end
end
abbrev Io:=Key×List Key
def LF (h:Heap) (d:zc9) (es:Array DictEntry) (ep:Nat):Prop:=∃o,h.get? d=some o/\o.ExactDict/\o.data=.dict es ep
section
variable{prog:zdl}{w:zdb}{A:zdk}{E:zda->zdj->Prop}{s:zdj}{d it:zc9}{es:Array DictEntry}{ep i:Nat}
theorem LF.Wq{h h':Heap}(x:LF h d es ep)(e:∀o,h.get? d=some o->h'.get? d=some o):LF h' d es ep:=by obtain⟨o,g,r⟩:=x;exact⟨o,e _ g,r⟩
end
end L2
namespace PG
section
variable{β:Type}(ask:Int->Bool)(step:Int->List Int->Int->Option (Int×List Int)×Option Int)(tg:Int×List Int->List β)
abbrev oq:=Int×List Int
def Cp (x:oq×List Int):Option (oq×List Int):=if x.1.1=0 then none else match take1 (ask x.1.1) x.2 with
 |none=>none
 |some (f,r)=>(step x.1.1 x.1.2 f).1.map fun y=>(y,r)
inductive Met:oq×List Int->β->Prop
 |here {s t}:t∈tg s.1->Met s t
 |on {s s' t}:Cp ask step s=some s'->Met s' t->Met s t
variable{ask step tg}
theorem uN{s:oq}{l:List Int}(h0:s.1≠0)(ha:ask s.1=false):Cp ask step (s,l)=(step s.1 s.2 0).1.map fun y=>(y,l):=by
 unfold Cp;rw[if_neg h0];simp only[take1,ha,zbc,if_false]
theorem Ot{s:oq}{f:Int}{l:List Int}(h0:s.1≠0)(ha:ask s.1=true):Cp ask step (s,f::l)=(step s.1 s.2 f).1.map fun y=>(y,l):=by
 unfold Cp;rw[if_neg h0];simp only[take1,ha,if_true]
theorem LG{s:oq}{l:List Int}(h0:s.1=0):Cp ask step (s,l)=none:=by
 unfold Cp;rw[if_pos h0]
structure MI(ask:Int->Bool)(step:Int->List Int->Int->Option (Int×List Int)×Option Int)(tg:Int×List Int->List β)(s0:oq×List Int)(ms:List β)(seen:List oq)(s:oq×List Int):Prop where
 a:∀t,Met ask step tg s0 t->t∈ms\/Met ask step tg s t
 b:∀t∈ms,Met ask step tg s0 t
 c:∀t,Met ask step tg s t->Met ask step tg s0 t
 d:∀x∈seen,(∀t∈tg x,t∈ms)/\x.1≠0/\ask x.1=false/\∀y,(step x.1 x.2 0).1=some y->y∈seen\/y=s.1
variable{s0 s s':oq×List Int}{ms Rj:List β}{seen:List oq}
theorem Ou(h:Cp ask step s=none){t:β}(m:Met ask step tg s t):t∈tg s.1:=by
 cases m with
 |here m=>exact m
 |on e _=>rw[h] at e;cases e
theorem MI.fin(h:MI ask step tg s0 ms seen s)(hm:∀t,t∈Rj↔t∈ms\/t∈tg s.1)(he:Cp ask step s=none\/s.1∈seen)(t:β):t∈Rj↔Met ask step tg s0 t:=by
 rw[hm];refine⟨fun z=>z.elim (h.b t) fun z=>h.c t (.here z),fun z=>?_⟩;rcases h.a t z with z |z
 ·exact .inl z
 rcases he with he |he
 ·exact .inr (Ou he z)
 ·have key:∀s' t,Met ask step tg s' t->s'.1∈seen->t∈ms:=by
   intro s' t m
   induction m with
   |here m=>exact fun q=>(h.d _ q).1 _ m
   |@on a b t e _ ih=>
    intro q;obtain⟨_,h0,ha,hs⟩:=h.d _ q;obtain⟨a1,a2⟩:=a;rw[uN h0 ha] at e;obtain⟨y,hy,rfl⟩:=za7.mp e;rcases hs y hy with q2 |rfl
    ·exact ih q2
    ·exact ih he
  exact .inl (key _ _ z he)
theorem MI.next(h:MI ask step tg s0 ms seen s)(hm:∀t,t∈Rj↔t∈ms\/t∈tg s.1)(hn:Cp ask step s=some s'\/Cp ask step s=none/\s'=s) :
 (∀t,Met ask step tg s0 t->t∈Rj\/Met ask step tg s' t)/\(∀t∈Rj,Met ask step tg s0 t)/\∀t,Met ask step tg s' t->Met ask step tg s0 t:=by
 refine⟨fun t m=>?_,fun t m=>?_,fun t m=>?_⟩
 ·rw[hm];rcases h.a t m with z |z
  ·exact .inl (.inl z)
  ·rcases hn with hn |⟨hn,rfl⟩
   ·cases z with
    |here z=>exact .inl (.inr z)
    |on e z=>rw[hn] at e;cases e;exact .inr z
   ·exact .inr z
 ·rcases(hm t).mp m with z |z
  ·exact h.b t z
  ·exact h.c t (.here z)
 ·rcases hn with hn |⟨hn,rfl⟩
  ·exact h.c t (.on hn m)
  ·exact h.c t m
structure Seg(ask:Int->Bool)(step:Int->List Int->Int->Option (Int×List Int)×Option Int)(s:oq)(g:List oq):Prop where
 head:g[0]?=some s
 mid:∀i (h:i+1<g.length),g[i].1≠0/\ask g[i].1=false/\(step g[i].1 g[i].2 0).1=some g[i+1]
 last:∀x,g.getLast?=some x->x.1=0\/ask x.1=true\/(step x.1 x.2 0).1=none\/∃y∈g,(step x.1 x.2 0).1=some y
section
variable{s:oq}{g:List oq}{l:List Int}
theorem Seg.nx(h:Seg ask step s g)(i:Nat)(hi:i+1<g.length):Cp ask step (g[i],l)=some (g[i+1],l):=by
 obtain⟨h0,ha,e⟩:=h.mid i hi;rw[uN h0 ha,e];rfl
theorem Seg.up(h:Seg ask step s g):∀(i:Nat) (hi:i<g.length) (t:β),Met ask step tg (g[i],l) t->Met ask step tg (s,l) t
 |0,hi,t,m=>by
  have:=h.head;rw[zag hi] at this;cases this;exact m
 |i+1,hi,t,m=>h.up i (by lia) t (.on (h.nx i hi) m)
theorem Seg.met(h:Seg ask step s g){x:oq}(hx:x∈g){t:β}(ht:t∈tg x):Met ask step tg (s,l) t:=by
 obtain⟨i,hi,rfl⟩:=zb3.mp hx;exact h.up i hi t (.here ht)
theorem Seg.wK{x:oq}(hx:g.getLast?=some x):∃hi:g.length-1<g.length,g[g.length-1]=x:=by
 rw[za1] at hx;exact zap.mp hx
theorem Seg.all(h:Seg ask step s g){t:β}(m:Met ask step tg (s,l) t):(∃x∈g,t∈tg x)\/∃x s',g.getLast?=some x/\x.1≠0/\ask x.1=true/\Cp ask step (x,l)=some s'/\Met ask step tg s' t:=by
 have key:∀s' t,Met ask step tg s' t->s'.2=l->s'.1∈g->(∃x∈g,t∈tg x)\/∃x s',g.getLast?=some x/\x.1≠0/\ask x.1=true/\Cp ask step (x,l)=some s'/\Met ask step tg s' t:=by
  intro s' t m
  induction m with
  |here m=>exact fun _ q=>.inl ⟨_,q,m⟩
  |@on a b t e mm ih=>
   intro el q;obtain⟨a1,a2⟩:=a;simp only at el q;subst el;obtain⟨i,hi,rfl⟩:=zb3.mp q;by_cases hl:i+1<g.length
   ·rw[h.nx i hl] at e;cases e;exact ih rfl (zaT hl)
   ·have ei:g.length-1=i:=by lia
    have hx:g.getLast?=some g[i]:=by rw[za1,ei,zag hi]
    by_cases h0:g[i].1=0
    ·rw[LG h0] at e;cases e
    cases ha:ask g[i].1 with
    |true=>exact .inr ⟨_,_,hx,h0,ha,e,mm⟩
    |false=>
     rw[uN h0 ha] at e;rcases h.last _ hx with z |z |z |⟨y,hy,z⟩
     ·exact absurd z h0
     ·rw[ha] at z;cases z
     ·rw[z] at e;cases e
     ·rw[z] at e;cases e;exact ih rfl hy
 refine key _ _ m rfl ?_;exact List.mem_iff_getElem?.mpr ⟨0,h.head⟩
end
structure LI(ask:Int->Bool)(step:Int->List Int->Int->Option (Int×List Int)×Option Int)(tg:Int×List Int->List β)(s0:oq×List Int)(ms:List β)(o:Option oq)(l:List Int):Prop where
 a:∀t,Met ask step tg s0 t->t∈ms\/∃s,o=some s/\Met ask step tg (s,l) t
 b:∀t∈ms,Met ask step tg s0 t
 c:∀s t,o=some s->Met ask step tg (s,l) t->Met ask step tg s0 t
theorem LI.fin{l:List Int}(h:LI ask step tg s0 ms none l)(t:β):t∈ms↔Met ask step tg s0 t:=⟨h.b t,fun z=>(h.a t z).elim (fun z=>z) fun ⟨_,e,_⟩=>by cases e⟩
section
variable{s x y:oq}{g:List oq}{l r:List Int}{f:Int}
theorem LI.on(h:LI ask step tg s0 ms (some s) l)(q:Seg ask step s g)(hm:∀t,t∈Rj↔t∈ms\/∃x∈g,t∈tg x)(hx:g.getLast?=some x)(h0:x.1≠0)(ha:ask x.1=true)(hl:l=f::r)(hy:(step x.1 x.2 f).1=some y):LI ask step tg s0 Rj (some y) r:=by
 subst hl;have e:Cp ask step (x,f::r)=some (y,r):=by rw[Ot h0 ha,hy];rfl
 refine⟨fun t m=>?_,fun t m=>?_,fun s' t e' m=>?_⟩
 ·rw[hm];rcases h.a t m with z |⟨_,z,m⟩
  ·exact .inl (.inl z)
  ·cases z;rcases q.all m with z |⟨x',s',XF,_,_,e',m'⟩
   ·exact .inl (.inr z)
   ·rw[hx] at XF;cases XF;rw[e] at e';cases e';exact .inr ⟨y,rfl,m'⟩
 ·rcases(hm t).mp m with z |⟨x,hx,ht⟩
  ·exact h.b t z
  ·exact h.c _ t rfl (q.met hx ht)
 ·cases e';obtain⟨hi,e1⟩:=Seg.wK hx;exact h.c _ t rfl (q.up _ hi t (by rw[e1];exact .on e m))
end
structure TI(ask:Int->Bool)(step:Int->List Int->Int->Option (Int×List Int)×Option Int)(s:oq)(g:List oq)(o:Option oq):Prop where
 nil:g=[]->o=some s
 head:g≠[]->g[0]?=some s
 mid:∀i (h:i+1<g.length),g[i].1≠0/\ask g[i].1=false/\(step g[i].1 g[i].2 0).1=some g[i+1]
 last:∀x,g.getLast?=some x->x.1≠0/\ask x.1=false/\(step x.1 x.2 0).1=o
section
variable{s x:oq}{g:List oq}{o:Option oq}
theorem TI.TR(h:TI ask step s g (some x)):(g++[x])[0]?=some s/\∀i (hi:i+1<(g++[x]).length),(g++[x])[i].1≠0/\ask (g++[x])[i].1=false/\(step (g++[x])[i].1 (g++[x])[i].2 0).1=some (g++[x])[i+1]:=by
 refine⟨?_,fun i hi=>?_⟩
 ·cases g with
  |nil=>exact h.nil rfl
  |cons a r=>exact h.head (by simp)
 ·simp only[zaf,zau] at hi;have l1:i<g.length:=by lia
  rw[zbQ l1];by_cases hl:i+1<g.length
  ·rw[zbQ hl];exact h.mid i hl
  ·have ei:g.length-1=i:=by lia
   have hx:g.getLast?=some g[i]:=by rw[za1,ei,zag l1]
   obtain⟨a,b,c⟩:=h.last _ hx;refine⟨a,b,?_⟩;rw[c,zcr (by lia)];simp
theorem TI.push(h:TI ask step s g (some x))(h0:x.1≠0)(ha:ask x.1=false):TI ask step s (g++[x]) (step x.1 x.2 0).1:=
 ⟨fun e=>(by simp at e),fun _=>h.TR.1,h.TR.2,fun y hy=>by simp only[List.getLast?_append,List.getLast?_singleton,Option.some_or,zav.injEq] at hy;subst hy;exact⟨h0,ha,rfl⟩⟩
theorem TI.fin(h:TI ask step s g o)(ho:o=zc8\/∃x∈g,o=some x):Seg ask step s g:=by
 have ne:g≠[]:=fun e=>by
  have:=h.nil e;subst e;rcases ho with rfl |⟨x,hx,_⟩
  ·cases this
  ·cases hx
 refine⟨h.head ne,h.mid,fun y hy=>.inr (.inr ?_)⟩;obtain⟨_,_,c⟩:=h.last y hy;rcases ho with rfl |⟨x,hx,rfl⟩
 ·exact .inl c
 ·exact .inr ⟨x,hx,c⟩
end
end
def rV:List Int->List Int->Prop
 |[],[]=>True
 |s::r,v::t=>(0<=v/\v<s)/\rV r t
 |[],_::_=>False
 |_::_,[]=>False
theorem rV.len:∀ {ss vs:List Int},rV ss vs->vs.length=ss.length
 |[],[],_=>rfl
 |s::r,v::t,h=>by
  rw[rV] at h;simp[h.2.len]
 |[],v::t,h=>by rw[rV] at h;exact h.elim
 |s::r,[],h=>by rw[rV] at h;exact h.elim
theorem rV.set:∀ {ss vs:List Int} (i:Nat) (v:Int),rV ss vs->(∀s,ss[i]?=some s->0<=v/\v<s)->rV ss (vs.set i v)
 |[],[],i,v,h,_=>h
 |s::r,u::t,0,v,h,q=>by
  rw[rV] at h;rw[List.set_cons_zero,rV];exact⟨q s rfl,h.2⟩
 |s::r,u::t,i+1,v,h,q=>by
  rw[rV] at h;rw[List.set_cons_succ,rV];exact⟨h.1,h.2.set i v fun z hz=>q z (by simpa using hz)⟩
 |[],u::t,i,v,h,q=>by rw[rV] at h;exact h.elim
 |s::r,[],i,v,h,q=>by rw[rV] at h;exact h.elim
end PG
namespace L2
open PySem
def FH (K:zac) (x:Str) (st:Stmt) (f:zc9):Prop:=zar K zdg x=some (some (.ref f))/\∃fd,Co K x x st f fd
theorem FH.of{K:zac}{x:Str}{st:Stmt}{f:zc9}{oc:zda}{od an:Option zc9}{Ke:Array (Option zda)}{kV doc pm eA ct:zda}(a:zar K zdg x=some (some (.ref f)))(l:K.lookup f=some ⟨oc,od,.func (zaL x x (cT st) (bb st) (aB st) .none kV doc pm an eA ct),Ke⟩)
 (c:za8 K eA x=true) (k:zaS K (.ref f)=true):FH K x st f:=⟨a,_,pT l c k⟩
theorem vJ{α:Type}{P:List α->Prop}(h:∀a,P [a])(us:List α)(e:us.length=1):P us:=match us,e with |[a],_=>h a
theorem Ip{α:Type}{P:List α->Prop}(h:∀a b,P [a,b])(us:List α)(e:us.length=2):P us:=match us,e with |[a,b],_=>h a b
theorem Wr{α:Type}{P:List α->Prop}(h:∀a b c,P [a,b,c])(us:List α)(e:us.length=3):P us:=match us,e with |[a,b,c],_=>h a b c
theorem qb{K:zac}{mg:Str->Option zda}{h:Heap}{x:Str}{st:Stmt}{f:zc9}{ps:List Str}(X:K.In h)(G:h.Ns zdg mg)(q:FH K x st f)
 (b:∀(kV doc pm:zda) (an:Option zc9) (eA ct:zda) (us:List zda),us.length=ps.length->bindArgs (zaL x x (cT st) (bb st) (aB st) .none kV doc pm an eA ct) ⟨us,[]⟩=pure (ps.zip us)):∃fd,cH K mg x st ps f fd:=
 let ⟨a,fd,F⟩:=q
 ⟨fd,F,F.binds b,zax X G a⟩
theorem LH{CX:E1}{P:zdl}{w:zdb}{K:zac}{mg:Str->Option zda}{base:Heap}{N:List Str}{qual:Str}{scope:Scope}{f:zc9}{cd:zda}{A:zdk}{outer:List Env}{s:zdj}{H:Hp}{E:XK}:(j5 CX P w K mg base N qual scope f cd A outer s H E).prog=P:=rfl
theorem LJ{CX:E1}{P:zdl}{w:zdb}{K:zac}{mg:Str->Option zda}{base:Heap}{N:List Str}{qual:Str}{scope:Scope}{f:zc9}{cd:zda}{A:zdk}{outer:List Env}{s:zdj}{H:Hp}{E:XK}:(j5 CX P w K mg base N qual scope f cd A outer s H E).w=w:=rfl
def Iq (s:PG.oq):Io:=(.inl s.1,s.2.map .inl)
theorem LK{a b:PG.oq}(h:Iq a=Iq b):a=b:=by
 obtain⟨a1,a2⟩:=a;obtain⟨b1,b2⟩:=b;simp only[Iq,Prod.mk.injEq,Sum.inl.injEq] at h;obtain⟨rfl,h⟩:=h;have h:=(List.map_inj_right (fun x y (e:(Sum.inl x:Key)=.inl y)=>Sum.inl.inj e)).mp h;rw[h]
section
variable{κ:Type}[DecidableEq κ]{J:KH κ}{P:zdl}{w:zdb}{K:zac}{H H':Hp}{a b p C dx:zc9}{bg:List (κ×V)}{φ:Heap->Prop}{fs:List (Str×V)}{xs:List V}
theorem DS.Ws(d:DS J P w K H a bg):∃φ,H a=some (.ext φ):=by obtain⟨xs,h,_⟩:=d.at_;exact⟨_,h⟩
theorem DS.ins(d:DS J P w K H a bg)(hp:H p=some (.ins C dx fs))(u:bN p H H'):DS J P w K H' a bg:=by
 obtain⟨φ,e⟩:=d.Ws;exact d.Wq (fun o h=>u _ _ (dC e hp (by intro z;cases z)) h) fun b ys q=>q.ins hp u
theorem eS.LL(h:eS K H a xs)(hb:H b=some (.ext φ))(u:bN b H H'):eS K H' a xs:=by
 rcases h with (q |⟨o',q⟩) |q
 ·exact .inl (.inl (u _ _ (dC q hb (by intro z;cases z)) q))
 ·exact .inl (.inr ⟨o',u _ _ (dC q hb (by intro z;cases z)) q⟩)
 ·exact .inr q
theorem jO.ext{row:Int}{vals:List Int}(h:jO K H a row vals)(hb:H b=some (.ext φ))(u:bN b H H'):jO K H' a row vals:=by obtain⟨va,h1,h2⟩:=h;exact⟨va,h1.LL hb u,h2.LL hb u⟩
theorem xH.ext{e:Option PG.kZ}{v:V}(h:xH K H e v)(hb:H b=some (.ext φ))(u:bN b H H'):xH K H' e v:=by
 cases e with
 |none=>exact h
 |some x=>obtain⟨a,e,q⟩:=h;exact⟨a,e,q.LL hb u⟩
theorem JH.ext{CC CW wk ch fl:zc9}{pr:PG.Prog}{pF:List Int}{n:Nat}{row:Int}{vals:List Int}{e:Option PG.kZ}(h:JH K CC CW H wk ch fl pr pF n row vals e)(hb:H b=some (.ext φ))(u:bN b H H')(c:JF K CC H' ch pr)(f:g8 K H' fl (pF.map V.int)):JH K CC CW H' wk ch fl pr pF n row vals e:=by
 obtain⟨dx,sa,ev,h1,h2,h3⟩:=h.at_;exact⟨⟨dx,sa,ev,u _ _ (dC h1 hb (by intro z;cases z)) h1,h2.ext hb u,h3.ext hb u⟩,c,f,h.TM⟩
end
def rW (pr:PG.Prog):List Int:=pr.cu.map (·.size)
structure Dj(pr:PG.Prog)(s:PG.oq):Prop where
 ok:Dh pr s.1 s.2
 inv:PG.rV (rW pr) s.2
theorem rV.first:∀ {bs:List PG.iQ},(∀b∈bs,2<=b.size/\b.size<=10/\0<=b.first/\b.first<b.size)->PG.rV (bs.map (·.size)) (bs.map (·.first))
 |[],_=>trivial
 |b::r,h=>by
  simp only[zaw,PG.rV];have:=h b (zaE ..);exact⟨⟨by lia,by lia⟩,rV.first fun x hx=>h x (zas _ hx)⟩
theorem Dj.first{pr:PG.Prog}(d:Bw pr):Dj pr (PG.gj pr.body 0,pr.cu.map (·.first)):=⟨d.first,rV.first d.size⟩
theorem rV.Bv{pr:PG.Prog}(d:Bw pr){vals:List Int}(h:PG.rV (rW pr) vals){b:W}(hb:b∈pr.cu.map (·.name))(z:Int):PG.rV (rW pr) (Bv pr.cu vals b (z%o5 pr.cu b)):=by
 refine h.set _ _ fun s hs=>?_;obtain⟨hx,_⟩:=Dg hb;have e:o5 pr.cu b=s:=by
  unfold o5;rw[rW,zaF,zag hx] at hs;rw[zag hx];exact zav.inj hs
 have:=Di d hb;rw[e] at this ⊢;exact⟨zbt z (by lia),zbe z (by lia)⟩
theorem rV.step{pr:PG.Prog}(d:Bw pr){st:PG.de}(ok:PG.Oe (·∈pr.cu.map (·.name)) (fun e=>PG.Dc pr.cu e/\PG.xC e<=2) (·∈PG.R9) st){ws vals:List Int}{f:Int}(h:PG.rV (rW pr) vals){x:PG.oq}(e:(kX pr.cu st ws vals f).1=some x):PG.rV (rW pr) x.2:=by
 have cs:qa pr.cu st ws vals=some x->PG.rV (rW pr) x.2:=by
  intro e;unfold qa at e;split at e
  ·cases e
  ·split at e
   ·cases e;exact h
   ·split at e
    ·cases e
    ·cases e;exact h
 cases st<;>rw[PG.Oe] at ok
 ·cases e;exact rV.Bv d h ok _
 ·cases e;exact rV.Bv d h ok.1 _
 ·cases e;exact h
 ·exact cs e
 ·cases e;exact h
 ·exact cs e
 ·exact cs e
theorem LM{pr:PG.Prog}(ok:Rf pr){i:Nat}(hi:i<(PG.bO pr.body).length)(hf:i<(PG.cI pr.body 0).length)(vals:List Int)(f:Int):GW pr (PG.bO pr.body)[i].row vals f=kX pr.cu (PG.bO pr.body)[i] (PG.cI pr.body 0)[i].2.2 vals f:=by
 unfold GW;rw[Om ok.pw i hi,Oq ok.pw i hi hf]
theorem Dj.next{pr:PG.Prog}(d:Bw pr){s x:PG.oq}(h:Dj pr s)(h0:s.1≠0){f:Int}(e:(GW pr s.1 s.2 f).1=some x):Dj pr x:=by
 obtain⟨row,vals⟩:=s;obtain⟨i,hi,rfl⟩:=h.ok.row.resolve_left h0;obtain⟨hf,_,_⟩:=xG pr.body i hi;rw[LM d.ok hi hf] at e;refine⟨?_,rV.step d (PG.qQ pr.body _ d.own (zaT hi)) h.inv e⟩;rcases hs:kX pr.cu (PG.bO pr.body)[i] (PG.cI pr.body 0)[i].2.2 vals f with ⟨o,sd⟩
 rw[hs] at e;exact Dh.step d hi hf h.ok.len h.ok.small (by rw[hs];exact congrArg (·,sd) e)
theorem Dj.nx{pr:PG.Prog}(d:Bw pr){s s':PG.oq×List Int}(h:Dj pr s.1)(e:PG.Cp (Wo pr.body) (GW pr) s=some s'):Dj pr s'.1:=by
 unfold PG.Cp at e;split at e
 ·cases e
 ·rename_i h0;split at e
  ·cases e
  ·obtain⟨y,hy,rfl⟩:=za7.mp e;exact h.next d h0 hy
structure xI(K:zac)(H:Hp)(md:zc9)(pr:PG.Prog):Prop where
 at_:∃(B d8 wy fa:zc9) (us:List V) (bg:List (Key×V)),g8 K H md [.ref B,.ref d8,.ref wy,.ref fa]/\Rep K H (.lst (pr.cu.map Dd)) (.ref B)/\H d8=some (.dK (xF (PG.bO pr.body) us))/\us.length=(PG.bO pr.body).length/\bf K H ((PG.bO pr.body).map Fh) us/\
  H wy=some (.dK bg)/\(∀i (hi:i<(PG.cI pr.body 0).length),∃y,eB bg (.inl (PG.cI pr.body 0)[i].1)=some (.ref y)/\eS K H y ((PG.cI pr.body 0)[i].2.2.map V.int))/\jO K H fa (PG.gj pr.body 0) (pr.cu.map (·.first))
theorem xI.mono{K:zac}{H H':Hp}{md:zc9}{pr:PG.Prog}(m:xI K H md pr)(s:ar H H'):xI K H' md pr:=by
 obtain⟨B,d8,wy,fa,us,bg,h1,h2,h3,h4,h5,h6,h7,h8⟩:=m.at_;exact⟨⟨B,d8,wy,fa,us,bg,s.seq h1,h2.mono s,s _ _ h3,h4,h5.mono s,s _ _ h6,fun i hi=>let ⟨y,e,k⟩:=h7 i hi;⟨y,e,s.kU k⟩,h8.mono s⟩⟩
theorem xI.row{K:zac}{H:Hp}{md:zc9}{pr:PG.Prog}(m:xI K H md pr)(ok:Rf pr){i:Nat}(hi:i<(PG.bO pr.body).length)(hf:i<(PG.cI pr.body 0).length) :
 ∃(B d8 wy fa ta y:zc9) (us ys:List V) (bg:List (Key×V)),g8 K H md [.ref B,.ref d8,.ref wy,.ref fa]/\Rep K H (.lst (pr.cu.map Dd)) (.ref B)/\H d8=some (.dK (xF (PG.bO pr.body) us))/\eB (xF (PG.bO pr.body) us) (.inl (PG.bO pr.body)[i].row)=some (.ref ta)/\Rep K H (Fh (PG.bO pr.body)[i]) (.ref ta)/\eS K H ta (.str (JD (PG.bO pr.body)[i].wd)::ys)/\
  H wy=some (.dK bg)/\eB bg (.inl (PG.bO pr.body)[i].row)=some (.ref y)/\eS K H y ((PG.cI pr.body 0)[i].2.2.map V.int):=by
 obtain⟨B,d8,wy,fa,us,bg,h1,h2,h3,h4,h5,h6,h7,h8⟩:=m.at_;obtain⟨v,hv,rv⟩:=h5.get (i:=i) (d:=Fh (PG.bO pr.body)[i]) (by rw[zaF,zag hi];rfl);have g:=De _ _ h4 ok.pw i hi v hv;obtain⟨ta,ys,rfl,Zu⟩:=Im _ rv;obtain⟨y,e,k⟩:=h7 i hf;obtain⟨_,e1,_⟩:=xG pr.body i hi;rw[e1] at e;exact⟨B,d8,wy,fa,ta,y,us,_,bg,h1,h2,h3,g,rv,Zu,h6,e,k⟩
section
variable(P:zdl)(w:zdb)(K:zac)(CC:zc9)
def LN (H:Hp) (l:zc9) (us:List V) (ts:List PG.Tg):Prop:=H l=some (.lst us)/\bf K H (ts.map Tv) us
def LO (H:Hp) (g:List PG.oq) (us:List V):Prop:=Paired (fun (s:PG.oq) v=>∃a,v=.ref a/\jO K H a s.1 s.2) g us
end
theorem LO.mono{K:zac}{H H':Hp}{g:List PG.oq}{us:List V}(h:LO K H g us)(s:ar H H'):LO K H' g us:=Paired.NC h fun _ _ ⟨a,e,q⟩=>⟨a,e,q.mono s⟩
theorem LN.mono{K:zac}{H H':Hp}{l:zc9}{us:List V}{ts:List PG.Tg}(h:LN K H l us ts)(s:ar H H'):LN K H' l us ts:=⟨s _ _ h.1,h.2.mono s⟩
open PyProof.Rows PySem.Spec
def EK (a:zc9) (o:Obj):HO:=.ext fun h=>h.get? a=some o
def wo (H:Hp) (a:zc9):Hp:=fun b=>if b=a then none else H b
theorem wL{H:Hp}{a:zc9}:wo H a a=none:=if_pos rfl
theorem xJ{H:Hp}{a b:zc9}(h:b≠a):wo H a b=H b:=if_neg h
section
variable{P:zdl}{w:zdb}{H:Hp}{h:Heap}{a:zc9}{o:Obj}
theorem EK.get(x:sS P w H h)(e:H a=some (EK a o)):h.get? a=some o:=(x a _ e).1
theorem EK.ok{H':Hp}(e:h.get? a=some o):dN P w H' h a (EK a o):=⟨e,⟨o,e⟩,fun _ _ p k=>k _ p⟩
end
def TU (y name qual:Str) (params:Arguments) (body:Expr) (scope:Scope) (H:Hp) (fo cc:zc9) (Rk:Obj) (vc:V):Prop:=
 ∃(c':zc9) (pm Wt uc:zda) (oc:Obj) (vs:Array zda) (tk:Nat),H fo=some (EK fo (PySem.W.kla_obj name qual params body scope [(y,cc)] pm c' Wt))/\H c'=some (EK c' oc)/\oc.data=.fields vs/\vs[1]?=some (.str qual tk)/\
  H cc=some (EK cc Rk)/\Rk.data=.cell (some uc)/\RelV vc uc
def Rm (H:Hp) (P:zc9) (ps:Array zda) (c':zc9) (oc:Obj) (fo:zc9) (ob:Obj):Hp:=upd (upd (upd H P (.NB ps)) c' (EK c' oc)) fo (EK fo ob)
section
variable{H:Hp}{P:zc9}{ps:Array zda}{c':zc9}{oc:Obj}{fo:zc9}{ob:Obj}
theorem Rm.keep(hF:H fo=none)(hc:H c'=some (EK c' oc)\/H c'=none){b:zc9}{o:HO}(n:b≠P)(e:H b=some o):Rm H P ps c' oc fo ob b=some o:=by
 unfold Rm;rw[aq (aI e hF)];by_cases z:b=c'
 ·subst z;rcases hc with q |q
  ·rw[ae,<- q,e]
  ·rw[q] at e;cases e
 ·rw[aq z,aq n,e]
end
def TV (te:TE):TE:=fun σ H Q=>∃c xs,H c=some (.lst xs)/\∀o,te σ (upd H c (EK c o)) fun v H'=>H' c=some (EK c o)/\Q v (upd H' c (.lst xs))
theorem Rn{X:Cx}{e:Expr}{te:TE}(he:PE X e te):PE X e (TV te):=by
 intro pins s σ H Q I h;obtain⟨c,xs,hc,q⟩:=h;obtain⟨hl,bt,n,hv,hg⟩:=(show dN X.prog X.w H s.heap c (.lst xs) from I.dD c _ hc)
 have I2:Inv X pins σ (upd H c (EK c {cls:=.type "list",data:=.seq bt.toArray n})) s:=Gw (h':=s.heap) (t':=s.toks) I (by rw[hc];exact True.intro) ⟨rfl,fun _ _=>rfl⟩ ⟨_,hg⟩ (EK.ok hg);refine eI (he pins s σ _ _ I2 (q _)) fun v s1 zqz=>?_;obtain⟨x,H1,I1,r1,hx,q1⟩:=zqz;obtain⟨XG, -⟩:=(show dN X.prog X.w H1 s1.heap c (EK c {cls:=.type "list",data:=.seq bt.toArray n}) from I1.dD c _ hx)
 exact⟨x,_,Gw (h':=s1.heap) (t':=s1.toks) I1 (by rw[hx];exact True.intro) ⟨rfl,fun _ _=>rfl⟩ ⟨_,XG⟩ (show dN X.prog X.w _ _ _ (.lst xs) from ⟨hl,bt,n,hv,XG⟩),r1,q1⟩
def Ro:Expr->Arguments
 |.Lambda p _ _ _=>p
 |_=>{posonlyargs:=[],args:=[],vararg:=none,kwonlyargs:=[],kw_defaults:=[],kwarg:=none,defaults:=[]}
def Ov:Expr->Expr
 |.Lambda _ b _ _=>b
 |e=>e
def LP:Expr->Scope
 |.Lambda _ _ s _=>s
 |_=>{kind:=.function,names:=[],isGenerator:=false,isCoroutine:=false}
def Rp (y qual:Str) (l:Expr) (H:Hp) (fo cc:zc9) (Rk:Obj) (vc:V):Prop:=TU y "<lambda>" qual (Ro l) (Ov l) (LP l) H fo cc Rk vc
abbrev Va:=List (PG.oq×List Int)
def vK (K:zac) (H:Hp) (f:Va) (bg:List (Io×V)):Prop:=Paired (fun (x:PG.oq×List Int) (kv:Io×V)=>kv.1=Iq x.1/\∃a,kv.2=.ref a/\eS K H a (x.2.map V.int)) f bg
section
variable{K:zac}{H H':Hp}
theorem vK.Wu:∀ {f:Va} {bg:List (Io×V)},vK K H f bg->∀s:PG.oq,(eB bg (Iq s)).isSome=decide (s∈f.map (·.1))
 |[],_,h,s=>by cases h;rfl
 |x::r,_,h,s=>by
  cases h with
  |@cons _ kv _ _ a b=>
   obtain⟨k,v⟩:=kv;obtain⟨e,_⟩:=a;simp only at e;subst e;by_cases z:x.1=s
   ·rw[dE (by rw[z]),zaw,z];simp
   ·rw[dF (fun y=>z (LK y)),vK.Wu b s,zaw];simp[Ne.symm z]
theorem vK.len{f:Va}{bg:List (Io×V)}(h:vK K H f bg):bg.length=f.length:=(Paired.length h).symm
theorem vK.put{f:Va}{bg:List (Io×V)}(h:vK K H f bg){s:PG.oq}{g:List Int}{a:zc9}(n:s ∉ f.map (·.1))(q:eS K H a (g.map V.int)):vK K H (f++[(s,g)]) (putK bg (Iq s) (.ref a)):=by
 unfold putK;rw[nO,h.Wu,decide_eq_false n,if_neg zad];exact Paired.snoc h ⟨rfl,a,rfl,q⟩
end
theorem Rp.mono{y qual:Str}{l:Expr}{H H':Hp}{fo cc:zc9}{Rk:Obj}{vc:V}(h:Rp y qual l H fo cc Rk vc)(s:ar H H'):Rp y qual l H' fo cc Rk vc:=by
 obtain⟨c',pm,Wt,uc,oc,vs,tk,g1,g2,d2,q2,g3,d3,rc⟩:=h;exact⟨c',pm,Wt,uc,oc,vs,tk,s _ _ g1,s _ _ g2,d2,q2,s _ _ g3,d3,rc⟩
theorem Rq{H H':Hp}{D:zc9}(u:bN D H H'):ar (wo H D) H':=fun b o e=>by
 by_cases z:b=D
 ·subst z;rw[wL] at e;cases e
 ·rw[xJ z] at e;exact u b o z e
theorem Rr{H:Hp}{D:zc9}{o:HO}:wo (upd H D o) D=wo H D:=funext fun b=>by
 by_cases z:b=D
 ·subst z;rw[wL,wL]
 ·rw[xJ z,xJ z,aq z]
theorem Ow{H H':Hp}{D:zc9}(s:ar H H'):ar (wo H D) (wo H' D):=fun b o e=>by
 by_cases z:b=D
 ·subst z;rw[wL] at e;cases e
 ·rw[xJ z] at e ⊢;exact s b o e
theorem TX{H:Hp}{D:zc9}:ar (wo H D) H:=Rq (.refl _ _)
section
variable{K:zac}{H H':Hp}{p:zc9}{φ:Heap->Prop}
mutual
theorem Ox(h:H p=some (.ext φ))(u:bN p H H'):∀(d:Dp) (v:V),Rep K H d v->Rep K H' d v
 |.dB,v,r=>by rw[Rep.tq] at r ⊢;exact r
 |.bl b,v,r=>by rw[Rep.uG] at r ⊢;exact r
 |.int b,v,r=>by rw[Rep.dG] at r ⊢;exact r
 |.str b,v,r=>by rw[Rep.bh] at r ⊢;exact r
 |.lst l,v,r=>by
  rw[Rep.ic] at r ⊢;obtain⟨a,ys,rfl,q,rs⟩:=r;refine⟨a,ys,rfl,?_,tJ h u l ys rs⟩;rcases q with (q |⟨o,q⟩) |q
  ·exact .inl (.inl (u _ _ (dC q h (by intro z;cases z)) q))
  ·exact .inl (.inr ⟨o,u _ _ (dC q h (by intro z;cases z)) q⟩)
  ·exact .inr q
 |.tup l,v,r=>by
  rw[Rep.cq] at r ⊢;obtain⟨a,ys,rfl,q,rs⟩:=r;exact⟨a,ys,rfl,q.LL h u,tJ h u l ys rs⟩
theorem tJ(h:H p=some (.ext φ))(u:bN p H H'):∀(ds:List Dp) (vs:List V),bf K H ds vs->bf K H' ds vs
 |[],vs,r=>by rw[bf.cj] at r ⊢;exact r
 |d::ds,vs,r=>by
  rw[bf.bP] at r ⊢;obtain⟨v,t,rfl,r1,r2⟩:=r;exact⟨v,t,rfl,Ox h u d v r1,tJ h u ds t r2⟩
end
theorem JF.ext{C ch:zc9}{pr:PG.Prog}(c:JF K C H ch pr)(h:H p=some (.ext φ))(u:bN p H H'):JF K C H' ch pr:=by
 obtain⟨dx,nl,sd,fa,va,st,wy,us,ws,h1,h2,h3,h4,h5,h6,h7,h8,h9,JG,TH,TJ⟩:=c.at_;have k:∀ {b:zc9} {o:HO},H b=some o->(∀ψ,o≠.ext ψ)->H' b=some o:=fun {b o} e n=>u _ _ (dC e h (n φ)) e;exact⟨⟨dx,nl,sd,fa,va,st,wy,us,ws,k h1 (fun _ z=>by cases z),k h2 (fun _ z=>by cases z),k h3 (fun _ z=>by cases z),k h4 (fun _ z=>by cases z),k h5 (fun _ z=>by cases z),k h6 (fun _ z=>by cases z),h7,k h8 (fun _ z=>by cases z),tJ h u _ _ h9,JG,k TH (fun _ z=>by cases z),fun i hi=>let ⟨q,e,r⟩:=TJ i hi;⟨q,e,r.LL h u⟩⟩⟩
end
end L2
namespace PG
open PM (W Tr)
abbrev Rg:=Int×Int
end PG
namespace L2
open PySem
def rX (K:zac) (H:Hp) (v:V) (r:PG.Rg):Prop:=∃a,v=.ref a/\eS K H a [.int r.1,.int r.2]
theorem rX.mono{K:zac}{H H':Hp}{v:V}{r:PG.Rg}(h:rX K H v r)(s:ar H H'):rX K H' v r:=by obtain⟨a,e,q⟩:=h;exact⟨a,e,s.kU q⟩
theorem rX.new{K:zac}{H H':Hp}{p:zc9}{r:PG.Rg}(e:upd H p (.tup [.int r.1,.int r.2])=H'):rX K H' (.ref p) r:=⟨p,rfl,.of (e▸ae)⟩
def Wv (k:Nat) (r:PG.Rg):Prop:=r.1.natAbs<=k/\r.2.natAbs<=k
def LQ (K:zac) (H:Hp) (bg:List (Key×V)) (f:W->PG.Rg):PM.Tr->Prop
 |.num n=>n.natAbs<=2 ^ 12
 |.box x=>(∃v,eB bg (.inr (S x))=some v/\rX K H v (f x))/\Wv (2 ^ 12) (f x)
 |.bin o l r=>(o=[43]\/o=[45]\/o=[42])/\LQ K H bg f l/\LQ K H bg f r
theorem LQ.mono{K:zac}{H H':Hp}{bg:List (Key×V)}{f:W->PG.Rg}(s:ar H H'):∀ {t:PM.Tr},LQ K H bg f t->LQ K H' bg f t
 |.num n,h=>h
 |.box x,h=>let ⟨⟨v,e,r⟩,b⟩:=h;⟨⟨v,e,r.mono s⟩,b⟩
 |.bin o l r,h=>⟨h.1,LQ.mono s h.2.1,LQ.mono s h.2.2⟩
def Vb (f:W->PG.Rg):PM.Tr->Prop
 |.num n=>n.natAbs<=2 ^ 12
 |.box x=>Wv (2 ^ 12) (f x)
 |.bin _ l r=>Vb f l/\Vb f r
theorem LQ.u{K:zac}{H:Hp}{bg:List (Key×V)}{f:W->PG.Rg}:∀ {t:PM.Tr},LQ K H bg f t->Vb f t
 |.num n,h=>h
 |.box x,h=>h.2
 |.bin o l r,h=>⟨LQ.u h.2.1,LQ.u h.2.2⟩
end L2
namespace L3
open PySem PyProof.Rows
abbrev tA (h:Heap) (l:zc9):Heap:=h.push {cls:=.type "tuple_iterator",data:=.fields #[.ref l,.int 0 0]}
abbrev tB (h:Heap) (l tp:zc9):Heap:=(tA h l).push {cls:=.type "tuple_iterator",data:=.fields #[.ref tp,.int 0 0]}
abbrev tC (h:Heap) (l tp:zc9):Heap:=(tB h l tp).push {cls:=.type "tuple",data:=.seq #[.ref h.objs.size,.ref (tA h l).objs.size]}
end L3
namespace PG
open PM (W Tr)
def zF (bs:List iQ) (x:W):Nat:=bs.findIdx fun b=>decide (b.name=x)
def zG (bs:List iQ) (rs:List Rg) (x:W):Rg:=rs.getD (zF bs x) (0,0)
def xK (bs:List iQ) (rs:List Rg) (x:W) (r:Rg):List Rg:=rs.set (zF bs x) r
theorem xM{bs:List iQ}(nb:(bs.map (·.name)).Nodup){i:Nat}(hi:i<bs.length):zF bs bs[i].name=i:=by
 unfold zF;rw[List.findIdx_eq (by simpa using hi)];refine⟨by simp,fun j hj=>?_⟩;have h:=zcp.mp nb j i (by simp;lia) (by simp;lia) hj;exact decide_eq_false (by simpa using h)
end PG
namespace L2
open PySem
def Pp (K:zac) (H:Hp) (bs:List PG.iQ) (bg:List (Key×V)) (rs:List PG.Rg):Prop:=rs.length=bs.length/\∀i (hi:i<bs.length),∃v,eB bg (.inr (S bs[i].name))=some v/\∃r,rs[i]?=some r/\rX K H v r
theorem Pp.mono{K:zac}{H H':Hp}{bs:List PG.iQ}{bg:List (Key×V)}{rs:List PG.Rg}(h:Pp K H bs bg rs)(s:ar H H'):Pp K H' bs bg rs:=
 ⟨h.1,fun i hi=>let ⟨v,e,r,er,q⟩:=h.2 i hi;⟨v,e,r,er,q.mono s⟩⟩
def Sa (bs:List PG.iQ) (rs:List PG.Rg):PM.Tr->Prop
 |.num n=>n.natAbs<=2 ^ 12
 |.box x=>x∈bs.map (·.name)/\Wv (2 ^ 12) (PG.zG bs rs x)
 |.bin o l r=>(o=[43]\/o=[45]\/o=[42])/\Sa bs rs l/\Sa bs rs r
theorem Pp.at_{K:zac}{H:Hp}{bs:List PG.iQ}{bg:List (Key×V)}{rs:List PG.Rg}(h:Pp K H bs bg rs)(nb:(bs.map (·.name)).Nodup){x:W}(hx:x∈bs.map (·.name)):∃v,eB bg (.inr (S x))=some v/\rX K H v (PG.zG bs rs x):=by
 obtain⟨b,hb,rfl⟩:=zaK.mp hx;obtain⟨i,hi,rfl⟩:=zcc hb;obtain⟨v,e,r,er,q⟩:=h.2 i hi;refine⟨v,e,?_⟩;unfold PG.zG;rw[PG.xM nb hi,zaA,er];exact q
theorem Pp.put{K:zac}{H:Hp}{bs:List PG.iQ}{bg:List (Key×V)}{rs:List PG.Rg}(h:Pp K H bs bg rs)(nb:(bs.map (·.name)).Nodup){x:W}(hx:x∈bs.map (·.name)){v:V}{r:PG.Rg}(hv:rX K H v r):Pp K H bs (putK bg (.inr (S x)) v) (PG.xK bs rs x r):=by
 obtain⟨b,hb,rfl⟩:=zaK.mp hx;obtain⟨j,hj,rfl⟩:=zcc hb;unfold PG.xK;rw[PG.xM nb hj];refine⟨by rw[zbs];exact h.1,fun i hi=>?_⟩;by_cases e:i=j
 ·subst e;exact⟨v,by rw[CM,if_pos rfl],r,by rw[zbl (by rw[h.1];exact hi)],hv⟩
 ·obtain⟨u,e1,r1,er,q⟩:=h.2 i hi;refine⟨u,?_,r1,by rw[zbq (Ne.symm e)];exact er,q⟩;rw[CM,if_neg fun z=>e ?_]
  ·exact e1
  ·have z:=C1.mp (Sum.inr.inj z);have l:i<(bs.map (·.name)).length:=by simpa using hi
   have:=PG.xM nb hi;rw[<- PG.xM nb hi,<- PG.xM nb hj,z]
def Fl (K:zac) (H:Hp) (us:List V) (rs:List PG.Rg):Prop:=us.length=rs.length/\∀i (hi:i<us.length),∃r,rs[i]?=some r/\rX K H us[i] r
theorem Fl.mono{K:zac}{H H':Hp}{us:List V}{rs:List PG.Rg}(h:Fl K H us rs)(s:ar H H'):Fl K H' us rs:=⟨h.1,fun i hi=>let ⟨r,e,q⟩:=h.2 i hi;⟨r,e,q.mono s⟩⟩
def xN (K:zac) (H:Hp) (v:V) (rs:List PG.Rg):Prop:=∃a us,v=.ref a/\eS K H a us/\Fl K H us rs
theorem xN.mono{K:zac}{H H':Hp}{v:V}{rs:List PG.Rg}(h:xN K H v rs)(s:ar H H'):xN K H' v rs:=by obtain⟨a,us,e,q,r⟩:=h;exact⟨a,us,e,s.kU q,r.mono s⟩
def LR (K:zac) (H:Hp) (v:V):Option (List PG.Rg)->Prop
 |none=>v=.dB
 |some rs=>xN K H v rs
theorem LR.mono{K:zac}{H H':Hp}{v:V}:∀ {o:Option (List PG.Rg)},LR K H v o->ar H H'->LR K H' v o
 |none,h,_=>h
 |some _,h,s=>xN.mono h s
theorem rX.nP{K:zac}{H H':Hp}{D:zc9}{v:V}{r:PG.Rg}{ys:List V}(h:rX K H v r)(hD:H D=some (.lst ys))(u:bN D H H'):rX K H' v r:=by obtain⟨a,e,q⟩:=h;exact⟨a,e,q.nP hD u⟩
theorem xN.nP{K:zac}{H H':Hp}{D:zc9}{v:V}{rs:List PG.Rg}{ys:List V}(h:xN K H v rs)(hD:H D=some (.lst ys))(u:bN D H H'):xN K H' v rs:=
 let ⟨a,us,e,q,l,r⟩:=h;⟨a,us,e,q.nP hD u,l,fun i hi=>let ⟨r1,e1,q1⟩:=r i hi;⟨r1,e1,q1.nP hD u⟩⟩
def zH (K:zac) (H:Hp) (v:V) (w:Int×List PG.Rg):Prop:=∃a u,v=.ref a/\eS K H a [.int w.1,u]/\xN K H u w.2
theorem zH.mono{K:zac}{H H':Hp}{v:V}{w:Int×List PG.Rg}(h:zH K H v w)(s:ar H H'):zH K H' v w:=by obtain⟨a,u,e,q,r⟩:=h;exact⟨a,u,e,s.kU q,r.mono s⟩
theorem zH.nP{K:zac}{H H':Hp}{D:zc9}{v:V}{w:Int×List PG.Rg}{ys:List V}(h:zH K H v w)(hD:H D=some (.lst ys))(u:bN D H H'):zH K H' v w:=by obtain⟨a,x,e,q,r⟩:=h;exact⟨a,x,e,q.nP hD u,r.nP hD u⟩
inductive xO(K:zac)(H:Hp):List V->List (Int×List PG.Rg)->Prop
 |nil:xO K H [] []
 |cons {v w us ws}:zH K H v w->xO K H us ws->xO K H (v::us) (w::ws)
theorem xO.map{K:zac}{H H':Hp}{us:List V}{ws:List (Int×List PG.Rg)}(h:xO K H us ws)(f:∀v w,zH K H v w->zH K H' v w):xO K H' us ws:=by
 induction h with
 |nil=>exact .nil
 |cons a _ ih=>exact .cons (f _ _ a) ih
theorem xO.snoc{K:zac}{H:Hp}{us:List V}{ws:List (Int×List PG.Rg)}{v:V}{w:Int×List PG.Rg}(h:xO K H us ws)(q:zH K H v w):xO K H (us++[v]) (ws++[w]):=by
 induction h with
 |nil=>exact .cons q .nil
 |cons a _ ih=>exact .cons a ih
theorem xO.len{K:zac}{H:Hp}{us:List V}{ws:List (Int×List PG.Rg)}(h:xO K H us ws):us.length=ws.length:=by
 induction h with
 |nil=>rfl
 |cons a _ ih=>simp[ih]
def Pq (H:Hp) (s:zc9):Prop:=∃n m:Int,H s=some (.lst [.int n,.int m])
theorem Pq.same{H H':Hp}{s:zc9}(h:Pq H s)(e:ar H H'):Pq H' s:=by obtain⟨n,m,q⟩:=h;exact⟨n,m,e _ _ q⟩
def LS (bs:List PG.iQ):PM.Tr->Prop
 |.num n=>0<=n/\n<1000
 |.box x=>x∈bs.map (·.name)
 |.bin o l r=>(o=[43]\/o=[45]\/o=[42])/\LS bs l/\LS bs r
def Ww (bs:List PG.iQ) (sg:W) (l r:PM.Tr):Prop:=(sg=[60]\/sg=[61])/\LS bs l/\LS bs r/\PG.xC l<=2/\PG.xC r<=2
def XH (row:Int) (b:List PG.de):Prop:=b=[]\/b=[.say (row+1) (.num 1)]
def Zv (row:Int) (b:List PG.de):Prop:=b=[]\/b=[.stop (row+3)]
def TY (bs:List PG.iQ) (row:Int):PG.de->Prop
 |.ask k b=>k=row/\b∈bs.map (·.name)
 |.put k b e=>k=row/\b∈bs.map (·.name)/\LS bs e/\PG.xC e<=2
 |.say k e=>k=row/\LS bs e/\PG.xC e<=2
 |.stop k=>k=row
 |.iW k sg l r=>k=row/\Ww bs sg l r
 |.nQ k sg l r a=>k=row/\Ww bs sg l r/\XH row a
 |.ifs k sg l r a b=>k=row/\Ww bs sg l r/\XH row a/\Zv row b
def TZ (K:zac) (s:zc9) (H:Hp) (B:zc9) (bs:List PG.iQ):Prop:=B≠s/\bs.length<=10/\∃xs,H B=some (.lst xs)/\fW K (·=s) H (bs.map Dd) xs
theorem TZ.cu{K:zac}{s B:zc9}{H:Hp}{bs:List PG.iQ}(h:TZ K s H B bs):vI K (·=s) H B bs:=by obtain⟨n,l,xs,e,f⟩:=h;exact⟨Fix.lst e n f,l⟩
theorem TZ.up{K:zac}{s B:zc9}{H H1:Hp}{bs:List PG.iQ}(h:TZ K s H B bs)(u:bN s H H1):TZ K s H1 B bs:=by obtain⟨n,l,xs,e,f⟩:=h;exact⟨n,l,xs,u _ _ n e,f.up (bG.one u rfl)⟩
section
variable(K:zac)(C:zc9)
def Ir:PM.Tr->List PM.Tr
 |.bin o l r=>.bin o l r::(Ir l++Ir r)
 |t=>[t]
end
open PyProof.Rows
theorem Pq.ne{H:Hp}{s p:zc9}(h:Pq H s)(hp:H p=none):p≠s:=by
 obtain⟨n,m,e⟩:=h;exact(aI e hp).symm
theorem Pq.new{H:Hp}{s p:zc9}(h:Pq H s)(hp:H p=none)(o:HO):Pq (upd H p o) s:=h.same (ar.new hp o)
theorem Sa.u{bs:List PG.iQ}{rs:List PG.Rg}:∀ {t:PM.Tr},Sa bs rs t->Vb (PG.zG bs rs) t
 |.num n,h=>h
 |.box x,h=>h.2
 |.bin o l r,h=>⟨Sa.u h.2.1,Sa.u h.2.2⟩
theorem xN.get{K:zac}{H:Hp}{bs:List PG.iQ}{rs:List PG.Rg}{rv:V}(h:xN K H rv rs)(ll:rs.length=bs.length){x:W}(hx:x∈bs.map (·.name)){Q:VK}(q:∀u,rX K H u (PG.zG bs rs x)->Q u H):NR K rv (.int (PG.zF bs x)) H Q:=by
 obtain⟨a,us,rfl,hS,l,g⟩:=h;have lt:PG.zF bs x<bs.length:=by
  unfold PG.zF;rw[List.findIdx_lt_length];obtain⟨b,hb,e⟩:=zaK.mp hx;exact⟨b,hb,by simp[e]⟩
 obtain⟨r,er,hr⟩:=g (PG.zF bs x) (by lia);refine cE hS (v:=us[PG.zF bs x]) (aG (zag (by lia))) (q _ ?_);unfold PG.zG;rw[zaA,er];exact hr
theorem LU(xs:List V){x:Int}(h:0<=x):uE xs none (some x)=xs.take x.toNat:=by
 obtain⟨j,rfl⟩:∃j:Nat,x=j:=⟨x.toNat,by lia⟩
 unfold uE;rw[HT.xo,HT.Gn,zcQ,Nat.sub_zero,Int.toNat_natCast];by_cases h:j<=xs.length
 ·rw[Nat.min_eq_left h]
 ·rw[Nat.min_eq_right (by lia),zbF,zbm (by lia)]
theorem LV(xs:List V)(j:Nat):uE xs (some (j:Int)) none=xs.drop j:=by
 unfold uE;rw[HT.xo,HT.Gn];by_cases h:j<=xs.length
 ·rw[Nat.min_eq_left h,zbm (by rw[zaY];lia)]
 ·rw[Nat.min_eq_right (by lia),zcJ (by lia),zcJ (by lia),List.take_nil]
structure xP(H:Hp)(ps:List zc9)(rs:List PG.Rg):Prop where
 l:ps.length=rs.length
 nd:ps.Nodup
 at_:∀j (hj:j<ps.length),∃r,rs[j]?=some r/\H ps[j]=some (.lst [.int r.1,.int r.2])
theorem xP.up{H H':Hp}{ps:List zc9}{rs:List PG.Rg}(h:xP H ps rs)(u:∀p o,p∈ps->H p=some o->H' p=some o):xP H' ps rs:=
 ⟨h.l,h.nd,fun j hj=>let ⟨r,e,q⟩:=h.at_ j hj;⟨r,e,u _ _ (zaT hj) q⟩⟩
theorem xP.put{H H':Hp}{ps:List zc9}{rs:List PG.Rg}(h:xP H ps rs){j:Nat}(hj:j<ps.length){r:PG.Rg}(u:bN ps[j] H H')(e:H' ps[j]=some (.lst [.int r.1,.int r.2])):xP H' ps (rs.set j r):=by
 refine⟨by rw[zbs];exact h.l,h.nd,fun i hi=>?_⟩;have lj:j<rs.length:=by rw[<- h.l];exact hj
 by_cases z:i=j
 ·subst z;exact⟨r,by rw[zbl lj],e⟩
 ·obtain⟨r1,e1,q1⟩:=h.at_ i hi;refine⟨r1,by rw[zbq (Ne.symm z)];exact e1,u _ _ (fun y=>z ?_) q1⟩;exact(List.getElem_inj h.nd).mp y
theorem xP.snoc{H:Hp}{ps:List zc9}{rs:List PG.Rg}(h:xP H ps rs){p:zc9}{r:PG.Rg}(np:p ∉ ps)(e:H p=some (.lst [.int r.1,.int r.2])):xP H (ps++[p]) (rs++[r]):=by
 refine⟨by simp[h.l],List.nodup_append.mpr ⟨h.nd,by simp,fun a ha b hb=>?_⟩,fun i hi=>?_⟩
 ·rw[zal.mp hb];exact fun z=>np (z▸ha)
 ·by_cases z:i<ps.length
  ·obtain⟨r1,e1,q1⟩:=h.at_ i z;exact⟨r1,by rw[zbp (by rw[<- h.l];exact z)];exact e1,by rw[zbQ z];exact q1⟩
  ·have:i=ps.length:=by simp at hi;lia
   subst this;exact⟨r,by rw[za5 (by rw[h.l];exact zai _),h.l];simp,by rw[zcr (zai _)];simp only[zb4,List.getElem_singleton];exact e⟩
theorem Fl.put{K:zac}{H:Hp}{us:List V}{rs:List PG.Rg}(h:Fl K H us rs){j:Nat}{v:V}{r:PG.Rg}(g:rX K H v r):Fl K H (us.set j v) (rs.set j r):=by
 refine⟨by rw[zbs,zbs];exact h.1,fun i hi=>?_⟩;rw[zbs] at hi;by_cases z:j=i
 ·subst z;exact⟨r,by rw[zbl (by rw[<- h.1];exact hi)],by rw[List.getElem_set_self];exact g⟩
 ·obtain⟨r1,e1,q1⟩:=h.2 i hi;exact⟨r1,by rw[zbq z];exact e1,by rw[List.getElem_set_ne z];exact q1⟩
theorem xP.nil{H:Hp}:xP H [] []:=⟨rfl,List.nodup_nil,fun j hj=>by simp at hj⟩
theorem TY.Wu{bs:List PG.iQ}{row:Int}{st:PG.de}(h:TY bs row st):∃r,PG.ij st=st::r/\(∀s∈r,row<s.row/\s.row<=row+3)/\r.Pairwise (fun a b=>a.row<b.row)/\r.length<=2/\PG.v9 st<=1:=by
 cases st with
 |nQ k sg a b i=>
  obtain⟨rfl,_,hi⟩:=h;rcases hi with rfl |rfl
  ·exact⟨[],by simp[PG.ij,PG.bO],by simp,by simp,by simp,by simp[PG.v9,PG.uM]⟩
  ·exact⟨_,by simp[PG.ij,PG.bO];rfl,by simp[PG.de.row];lia,by simp,by simp,by simp[PG.v9,PG.uM]⟩
 |ifs k sg a b i e=>
  obtain⟨rfl,_,hi,he⟩:=h;rcases hi with rfl |rfl<;>rcases he with rfl |rfl
  ·exact⟨[],by simp[PG.ij,PG.bO],by simp,by simp,by simp,by simp[PG.v9,PG.uM]⟩
  ·exact⟨_,by simp[PG.ij,PG.bO];rfl,by simp[PG.de.row];lia,by simp,by simp,by simp[PG.v9,PG.uM]⟩
  ·exact⟨_,by simp[PG.ij,PG.bO];rfl,by simp[PG.de.row];lia,by simp,by simp,by simp[PG.v9,PG.uM]⟩
  ·exact⟨[.say (k+1) (.num 1),.stop (k+3)],by simp[PG.ij,PG.bO],by simp[PG.de.row];lia,by simp[PG.de.row],by simp,by simp[PG.v9,PG.uM]⟩
 |_=>exact⟨[],by simp[PG.ij],by simp,by simp,by simp,by simp[PG.v9]⟩
theorem LS.sub{bs:List PG.iQ}:∀ {t:PM.Tr},LS bs t->∀x∈Ir t,LS bs x/\PG.xC x<=PG.xC t/\∀o l r,x=.bin o l r->S o≠"box"/\S o≠"number"
 |.num n,h,x,hx=>by
  rw[Ir,zal] at hx
  ·subst hx;exact⟨h,zai _,fun o l r e=>by cases e⟩
  ·intro o l r z;cases z
 |.box n,h,x,hx=>by
  rw[Ir,zal] at hx
  ·subst hx;exact⟨h,zai _,fun o l r e=>by cases e⟩
  ·intro o l r z;cases z
 |.bin o l r,h,x,hx=>by
  rw[Ir,zaj,zay] at hx;rcases hx with rfl |hx |hx
  ·refine⟨h,zai _,fun o' l' r' e=>?_⟩;cases e;rcases h.1 with rfl |rfl |rfl<;>exact⟨by decide +kernel,by decide +kernel⟩
  ·obtain⟨a,b,c⟩:=LS.sub h.2.1 x hx;exact⟨a,by rw[PG.xC];lia,c⟩
  ·obtain⟨a,b,c⟩:=LS.sub h.2.2 x hx;exact⟨a,by rw[PG.xC];lia,c⟩
end L2
namespace PG
open PM (W Tr)
inductive wa where
 |nQ (k:Int) (sg:W) (l r:Tr)
 |if1 (k:Int) (sg:W) (l r:Tr)
 |if2 (k:Int) (sg:W) (l r:Tr) (a:List de)
def wa.fill:wa->List de->de
 |.nQ k sg l r,b=>.nQ k sg l r b
 |.if1 k sg l r,b=>.ifs k sg l r b []
 |.if2 k sg l r a,b=>.ifs k sg l r a b
def m6:List (List de×wa)->List de->List de
 |[],b=>b
 |(s,h)::o,b=>m6 o (s++[h.fill b])
def dS (b:List de):List Int:=(bO b).map (·.row)
theorem xQ:∀a b:List de,bO (a++b)=bO a++bO b
 |[],b=>by simp[bO]
 |s::r,b=>by
  show bO (s::(r++b))=_;rw[bO,bO,xQ r b,zbA]
theorem nW(a b:List de):dS (a++b)=dS a++dS b:=by unfold dS;rw[xQ,zat]
theorem Iu(h:wa)(a b:List de):dS [h.fill (a++b)]=dS [h.fill a]++dS b:=by
 cases h<;>simp[wa.fill,dS,bO,ij,xQ,de.row]
theorem Fn:∀(o:List (List de×wa)) (a b:List de),dS (m6 o (a++b))=dS (m6 o a)++dS b
 |[],a,b=>nW a b
 |(s,h)::o,a,b=>by
  rw[m6,m6];have gen:∀(o:List (List de×wa)) (x y:List de) (c:List Int),dS x=dS y++c->dS (m6 o x)=dS (m6 o y)++c:=by
   intro o
   induction o with
   |nil=>exact fun x y c h=>h
   |cons q o ih=>
    intro x y c e;obtain⟨s,h⟩:=q;rw[m6,m6];refine ih _ _ _ ?_;rw[nW,nW,zbA]
    congr 1
    cases h<;>simp only[wa.fill,dS,bO,ij,zaR,zaw,zat]<;>(unfold dS at e;rw[e];simp[de.row])
  refine gen o _ _ _ ?_;rw[nW,nW,zbA,Iu]
theorem Dk:∀ {l:List Int} {a b:Int},l.Pairwise (· < ·)->(∀x∈l,a<x/\x<=b)->(l.length:Int)<=max 0 (b-a)
 |[],a,b,_,_=>by simp;lia
 |x::r,a,b,p,h=>by
  rw[List.pairwise_cons] at p;have h1:=h x (zaE ..);have:=Dk (a:=x) (b:=b) p.2 fun y hy=>⟨p.1 y hy,(h y (zas _ hy)).2⟩
  rw[zah];lia
structure Vc(nm:W->Prop)(ex:Tr->Prop)(sg:W->Prop)(r0 row:Int)(body:List de):Prop where
 ok:Pl nm ex sg body
 rise:(dS body).Pairwise (· < ·)
 rows:∀x∈dS body,r0<x/\x<=row
 dep:uM body<=4
 le:r0<=row
theorem Vc.nil{nm:W->Prop}{ex:Tr->Prop}{sg:W->Prop}{r0:Int}:Vc nm ex sg r0 r0 []:=⟨trivial,by simp[dS,bO],by simp[dS,bO],by simp[uM],Int.le_refl _⟩
theorem Fo{st:de}(h:∀k s l r a b,st≠.ifs k s l r a b)(h2:∀k s l r a,st≠.nQ k s l r a):dS [st]=[st.row]/\v9 st=0:=by
 cases st with
 |ifs k s l r a b=>exact absurd rfl (h _ _ _ _ _ _)
 |nQ k s l r a=>exact absurd rfl (h2 _ _ _ _ _)
 |_=>exact⟨by simp[dS,bO,ij],by simp[v9]⟩
end PG
namespace L2
open PySem PySem.Spec PyProof.Rows
def Sb (P:zdl) (w:zdb) (K:zac) (a:zc9) (bg:List (Key×V)):Prop:=∀h:Heap,K.In h->bg.length<=zdh/\(a==sysModules)=false/\∃vs,KV bg vs/\h.DictOf (eU P w) a vs
def T1 (P:zdl) (w:zdb) (K:zac) (x y:V) (o:Option V):Prop:=∃a bg k,x=.ref a/\Sb P w K a bg/\y=kV k/\o=eB bg k
def LW (P:zdl) (w:zdb) (K:zac) (td ty:TE):TE:=fun σ H Q=>td σ H fun x H1=>ty σ H1 fun y H2=>∃v,T1 P w K x y (some v)/\Q v H2
def Bx (P:zdl) (w:zdb) (K:zac) (td ty tx:TE):TE:=fun σ H Q=>td σ H fun x H1=>∃a bg,x=.ref a/\Sb P w K a bg/\ty σ H1 fun y H2=>tx σ H2 fun z H3=>∃k,y=kV k/\Q ((eB bg k).getD z) H3
section
variable{X:Cx}{o i e f:Expr}{pos apos iP:Pos}{td ty tx:TE}
theorem Iv(ho:PE X o td)(he:PE X e ty)(hf:PE X f tx)(m:M2 X o "get" apos e f iP):PE X (.Call (.Attribute o "get" apos) [e,f] [] iP) (Bx X.prog X.w X.K td ty tx):=by
 intro pins s σ H Q I h;refine wpAny_Call_method m.base m.Nu m.line PySem.F.plainAttrs_dict zcS PySem.F.type_dict_get (eI (ho pins s σ H _ I h) fun u s1 zqz=>?_);obtain⟨x,H1,I1,rx,a,bg,ex,dc,q1⟩:=zqz;subst ex;obtain rfl:u=Value.ref a:=rx;obtain⟨_,_,vs,_,dd⟩:=dc _ I1.zy;have UL:=dd;obtain⟨ob,es,ep,g1,g2,_⟩:=UL;refine⟨dd.typeIs,fun b q=>by cases q;exact⟨ob,g1,g2.2.1⟩,?_⟩;rw[m.trees];refine Calls.callWith_builtin rfl (Calls.evalArgs_plain (Calls.spliced_cons (eI (he pins s1 σ H1 _ I1 q1) fun iv s2 ⟨y,H2,I2,ry,q2⟩=>Calls.spliced_cons (eI (hf pins s2 σ H2 _ I2 q2) fun fv s3 ⟨z,H3,I3,rz,k,ey,q3⟩=>Calls.spliced_nil ?_))));subst ey;obtain⟨_,hd,vs,rel,dd⟩:=dc _ I3.zy;refine call_meetsIn zcS dd.typeIs PySem.F.entry_dict_get (PySem.F.args_dict_get_3 _ _ _) (meets_dict_get_default (eU X.prog X.w) a (Kq ry) hd fv) ⟨_,dd.mapOf,_,H3,I3.tok _,?_,q3⟩;exact(rel.val k).getD rz
end
inductive Rt(P:zdl)(w:zdb):List (Key×V)->List DictEntry->Prop
 |nil:Rt P w [] []
 |cons {k v e bg es}:e.hash=(eU P w).hash k->RelV (kV k) e.key->RelV v e.val->Rt P w bg es->Rt P w ((k,v)::bg) (e::es)
theorem Rt.of{P:zdl}{w:zdb}{bg:List (Key×V)}{es:List DictEntry}(h:Rt P w bg es):∃vs,KV bg vs/\Pairs (eU P w) es vs/\∀e∈es,∃k,(eU P w).is k e.key=true/\e.hash=(eU P w).hash k:=by
 induction h with
 |nil=>exact⟨[],.nil,.nil,fun e he=>by cases he⟩
 |@cons k v e bg es a b c _ ih=>
  obtain⟨vs,h1,h2,h3⟩:=ih;refine⟨(k,e.val)::vs,.cons ⟨rfl,c⟩ h1,(.cons (Kq b) rfl h2),fun x hx=>?_⟩;rcases zaj.mp hx with rfl |hx
  ·exact⟨k,Kq b,a⟩
  ·exact h3 x hx
theorem Sb.mk{P:zdl}{w:zdb}{K:zac}{a:zc9}{bg:List (Key×V)}{es:Array DictEntry}{ep:Nat}(l:K.lookup a=some ⟨.type "dict",none,.dict es ep, #[]⟩)(ha:(a==sysModules)=false)(hd:Rt P w bg es.toList)(nd:(bg.map (·.1)).Nodup)(len:bg.length<=zdh):Sb P w K a bg:=fun h hK=>by
 obtain⟨vs,h1,h2,h3⟩:=hd.of;refine⟨len,ha,vs,h1,_,es,ep,hK _ _ l,⟨rfl,rfl,rfl⟩,rfl,fun e he=>h3 e (by simpa using he),h2,?_⟩;have ek:∀ {l:List (Key×V)} {m:List (Key×zda)},KV l m->l.map (·.1)=m.map (·.1):=by
  intro l m r;unfold KV at r
  induction r with
  |nil=>rfl
  |cons a _ ih=>rw[zaw,zaw,ih,a.1]
 rw[<- ek h1];exact nd
open PG
open PM (W Tr)
def In (r:Rg) (v:Int):Prop:=r.1<=v/\v<=r.2
def T2 (rs:List Rg) (vals:List Int):Prop:=vals.length=rs.length/\∀(i:Nat) (v:Int) (r:Rg),vals[i]?=some v->rs[i]?=some r->In r v
theorem AW{bs:List iQ}{x:W}(h:x∈bs.map (·.name)):zF bs x<bs.length:=by
 unfold zF;obtain⟨b,hb,rfl⟩:=zaK.mp h;exact List.findIdx_lt_length_of_exists ⟨b,hb,by simp⟩
theorem T2.at_{bs:List iQ}{rs:List Rg}{vals:List Int}{x:W}(h:T2 rs vals)(l:vals.length=bs.length)(hx:x∈bs.map (·.name)):In (zG bs rs x) (vals.getD (zF bs x) 0):=by
 have hi:=AW hx;have l2:=h.1;unfold zG;rw[zaA,zaA,zag (show zF bs x<vals.length by lia),zag (show zF bs x<rs.length by lia)];exact h.2 _ _ _ (zag (by lia)) (zag (by lia))
end L2
namespace L2
open PySem PG
open PM (W Tr)
def one (vals:List Int):List Rg:=vals.map fun v=>(v,v)
end L2
namespace L2
open PySem PG
open PM (W Tr)
def Vd (b:iQ) (r:Rg):Prop:=0<=r.1/\r.2<=b.size-1
def Sd (bs:List iQ) (rs:List Rg):Prop:=rs.length=bs.length/\∀(i:Nat) (r:Rg) (b:iQ),rs[i]?=some r->bs[i]?=some b->Vd b r
structure Ru(bs:List iQ)(rs:List Rg):Prop where
 bd:Sd bs rs
 le:∀r∈rs,r.1<=r.2
theorem Sd.at_{bs:List iQ}{rs:List Rg}(h:Sd bs rs){x:W}(hx:x∈bs.map (·.name)):Vd (bs[zF bs x]'(AW hx)) (zG bs rs x):=by
 have hi:=AW hx;have l:=h.1;refine h.2 (zF bs x) _ _ ?_ (zag hi);unfold zG;rw[zaA,zag (show zF bs x<rs.length by lia)];rfl
theorem Sd.put{bs:List iQ}{rs:List Rg}(h:Sd bs rs){x:W}(hx:x∈bs.map (·.name)){r:Rg}(hr:Vd (bs[zF bs x]'(AW hx)) r):Sd bs (xK bs rs x r):=by
 refine⟨by unfold xK;rw[zbs];exact h.1,fun i q b e1 e2=>?_⟩;unfold xK at e1;rw[List.getElem?_set] at e1;by_cases c:zF bs x=i
 ·rw[if_pos c] at e1;subst c;by_cases d:zF bs x<rs.length
  ·rw[if_pos d] at e1;cases e1;rw[zag (AW hx)] at e2;cases e2;exact hr
  ·rw[if_neg d] at e1;cases e1
 ·rw[if_neg c] at e1;exact h.2 i q b e1 e2
theorem Ru.put{bs:List iQ}{rs:List Rg}(h:Ru bs rs){x:W}(hx:x∈bs.map (·.name)){r:Rg}(hr:Vd (bs[zF bs x]'(AW hx)) r)(hl:r.1<=r.2):Ru bs (xK bs rs x r):=⟨h.bd.put hx hr,fun q hq=>by
 unfold xK at hq;rcases zcq hq with hq |rfl
 ·exact h.le q hq
 ·exact hl⟩
end L2
namespace L2
open PySem PyProof.Rows
section
variable{K:zac}{D D' O:zc9->Prop}{H0 H H1:Hp}{d:Dp}{v:V}{s p:zc9}
theorem Own.tup{ds:List Dp}{vs:List V}(h:rT K H0 H ds vs)(dm:∀b,H0 b≠none->H b≠none)(hp:H p=none):Own K H0 (upd H p (.tup vs)) (.tup ds) (.ref p):=fun O hO=>Fix.tup ae (fun z=>dm p (hO p z) hp) ((h O hO).up (.of (ar.new hp _)))
theorem ar.Oi(h:ar H H1):∀b,H b≠none->H1 b≠none:=fun b hb=>by
 cases z:H b with
 |none=>exact absurd z hb
 |some o=>rw[h b o z];simp
end
abbrev Wx (bs:List PG.iQ) (e:PM.Tr):Prop:=PG.Dc bs e/\PG.xC e<=2
def Plain:PG.de->Prop
 |.ifs ..=>False
 |.nQ ..=>False
 |_=>True
theorem Plain.rows{st:PG.de}(h:Plain st):PG.dS [st]=[st.row]/\PG.v9 st=0:=PG.Fo (fun _ _ _ _ _ _ z=>by rw[z] at h;exact h) (fun _ _ _ _ _ z=>by rw[z] at h;exact h)
abbrev Zw (bs:List PG.iQ):Int->Int->List PG.de->Prop:=PG.Vc (·∈bs.map (·.name)) (Wx bs) (·∈PG.R9)
section
variable(K:zac)(D:zc9->Prop)(H:Hp)
inductive pG:List (List PG.de×PG.wa)->zc9->List zc9->List V->Prop
 |root {p:zc9}:pG [] p [] [.dB]
 |nQ {o Pr k sg l r p q c ps ss vs vl vr}:H q=some (.lst (vs++[.ref c]))->fW K D H (Pr.map Fh) vs->¬D c->H c=some (.tup [.str "while",.int k,.str (S sg),vl,vr,.ref p])->Fix K D H (pE l) vl->Fix K D H (pE r) vr->pG o q ps ss->pG ((Pr,.nQ k sg l r)::o) p (q::ps) (.dB::ss)
 |if1 {o Pr k sg l r p q c b ps ss vs vl vr}:H q=some (.lst (vs++[.ref c]))->fW K D H (Pr.map Fh) vs->¬D c->H c=some (.tup [.str "if",.int k,.str (S sg),vl,vr,.ref p,.ref b])->Fix K D H (pE l) vl->Fix K D H (pE r) vr->H b=some (.lst [])->pG o q ps ss->pG ((Pr,.if1 k sg l r)::o) p (q::ps) (.ref b::ss)
 |if2 {o Pr k sg l r a p q c va ps ss vs vl vr}:H q=some (.lst (vs++[.ref c]))->fW K D H (Pr.map Fh) vs->¬D c->H c=some (.tup [.str "if",.int k,.str (S sg),vl,vr,va,.ref p])->Fix K D H (pE l) vl->Fix K D H (pE r) vr->Fix K D H (.lst (a.map Fh)) va->pG o q ps ss->pG ((Pr,.if2 k sg l r a)::o) p (q::ps) (.dB::ss)
end
section
variable{K:zac}{D D':zc9->Prop}{H H1:Hp}{o:List (List PG.de×PG.wa)}{p:zc9}{ps:List zc9}{ss:List V}
theorem pG.len(h:pG K D H o p ps ss):ps.length=o.length/\ss.length=o.length+1:=by
 induction h with
 |root=>exact⟨rfl,rfl⟩
 |nQ _ _ _ _ _ _ _ ih=>exact⟨by rw[zah,zah,ih.1],by rw[zah,zah,ih.2]⟩
 |if1 _ _ _ _ _ _ _ _ ih=>exact⟨by rw[zah,zah,ih.1],by rw[zah,zah,ih.2]⟩
 |if2 _ _ _ _ _ _ _ _ ih=>exact⟨by rw[zah,zah,ih.1],by rw[zah,zah,ih.2]⟩
theorem pG.up(h:pG K D H o p ps ss)(u:bG D H H1)(h1:∀q∈ps,H1 q=H q)(h2:∀b,V.ref b∈ss->H1 b=H b):pG K D H1 o p ps ss:=by
 induction h with
 |root=>exact .root
 |nQ a b c d e f g ih=>exact .nQ (by rw[h1 _ (zaE ..)];exact a) (b.up u) c (u _ _ c d) (e.up u) (f.up u) (ih (fun q hq=>h1 q (zas _ hq)) fun b hb=>h2 b (zas _ hb))
 |if1 a b c d e f x g ih=>exact .if1 (by rw[h1 _ (zaE ..)];exact a) (b.up u) c (u _ _ c d) (e.up u) (f.up u) (by rw[h2 _ (zaE ..)];exact x) (ih (fun q hq=>h1 q (zas _ hq)) fun b hb=>h2 b (zas _ hb))
 |if2 a b c d e f x g ih=>exact .if2 (by rw[h1 _ (zaE ..)];exact a) (b.up u) c (u _ _ c d) (e.up u) (f.up u) (x.up u) (ih (fun q hq=>h1 q (zas _ hq)) fun b hb=>h2 b (zas _ hb))
theorem pG.Oi(h:pG K D H o p ps ss):(∀q∈ps,H q≠none)/\∀b,V.ref b∈ss->H b≠none:=by
 have nn:∀ {q:zc9} {u:HO},H q=some u->H q≠none:=fun e z=>by rw[e] at z;cases z
 induction h with
 |root=>exact⟨fun q hq=>(by cases hq),fun b hb=>(by simp at hb)⟩
 |nQ a _ _ _ _ _ _ ih=>exact⟨fun q hq=>(zaj.mp hq).elim (fun e=>e▸nn a) (ih.1 q),fun b hb=>(zaj.mp hb).elim (fun e=>by cases e) (ih.2 b)⟩
 |if1 a _ _ _ _ _ x _ ih=>exact⟨fun q hq=>(zaj.mp hq).elim (fun e=>e▸nn a) (ih.1 q),fun b hb=>(zaj.mp hb).elim (fun e=>by cases e;exact nn x) (ih.2 b)⟩
 |if2 a _ _ _ _ _ _ _ ih=>exact⟨fun q hq=>(zaj.mp hq).elim (fun e=>e▸nn a) (ih.1 q),fun b hb=>(zaj.mp hb).elim (fun e=>by cases e) (ih.2 b)⟩
theorem pG.same(h:pG K D H o p ps ss)(s:ar H H1):pG K D H1 o p ps ss:=by
 have e:∀ {q:zc9},H q≠none->H1 q=H q:=fun {q} n=>by
  cases z:H q with
  |none=>exact absurd z n
  |some u=>exact s _ _ z
 exact h.up (.of s) (fun q hq=>e (h.Oi.1 q hq)) fun b hb=>e (h.Oi.2 b hb)
def rootOf (p:zc9):List zc9->zc9
 |[]=>p
 |q::ps=>rootOf q ps
end
def Ve (ss:List V):List zc9:=ss.filterMap fun v=>match v with |.ref b=>some b |_=>none
theorem Oy{ss:List V}{b:zc9}:b∈Ve ss↔V.ref b∈ss:=by
 unfold Ve;rw[zbO]
 constructor
 ·rintro ⟨v,hv,e⟩
  cases v with
  |ref c=>cases e;exact hv
  |_=>cases e
 ·exact fun h=>⟨_,h,rfl⟩
def Pt (pl sc p:zc9) (ps:List zc9) (ss:List V):List zc9:=pl::sc::p::(ps++Ve ss)
theorem GY{pl sc p a:zc9}{ps:List zc9}{ss:List V}:a∈Pt pl sc p ps ss↔a=pl\/a=sc\/a=p\/a∈ps\/V.ref a∈ss:=by
 unfold Pt;simp only[zaj,zay,Oy]
structure PZ(K:zac)(bs:List PG.iQ)(r0 row:Int)(R pl sc:zc9)(H0 H:Hp)(o:List (List PG.de×PG.wa))(cur:List PG.de)(p:zc9)(ps:List zc9)(ss vs:List V):Prop where
 Cn:H pl=some (.lst ((p::ps).reverse.map V.ref))
 Vf:H sc=some (.lst ss.reverse)
 hp:H p=some (.lst vs)
 nd:(Pt pl sc p ps ss).Nodup
 fx:fW K (·∈Pt pl sc p ps ss) H (cur.map Fh) vs
 pa:pG K (·∈Pt pl sc p ps ss) H o p ps ss
 rt:rootOf p ps=R
 zk:Zw bs r0 row (PG.m6 o cur)
 len:o.length<=4
 sm:ar H0 H
 fr:∀a∈Pt pl sc p ps ss,H0 a=none
section
variable{K:zac}{bs:List PG.iQ}{r0 row:Int}{R pl sc:zc9}{H0 H H1:Hp}{o:List (List PG.de×PG.wa)}{cur:List PG.de}{p:zc9}{ps:List zc9}{ss vs:List V}
theorem PZ.Oi(h:PZ K bs r0 row R pl sc H0 H o cur p ps ss vs):∀a∈Pt pl sc p ps ss,H a≠none:=fun a ha=>by
 rcases GY.mp ha with rfl |rfl |rfl |ha |ha
 ·rw[h.Cn];simp
 ·rw[h.Vf];simp
 ·rw[h.hp];simp
 ·exact h.pa.Oi.1 a ha
 ·exact h.pa.Oi.2 a ha
theorem PZ.same(h:PZ K bs r0 row R pl sc H0 H o cur p ps ss vs)(s:ar H H1):PZ K bs r0 row R pl sc H0 H1 o cur p ps ss vs:=
 ⟨s _ _ h.Cn,s _ _ h.Vf,s _ _ h.hp,h.nd,h.fx.up (.of s),h.pa.same s,h.rt,h.zk,h.len,h.sm.trans s,h.fr⟩
theorem xD:∀b:List PG.de,b.length<=(PG.dS b).length
 |[]=>za6 _
 |s::r=>by
  have ih:=xD r;unfold PG.dS at ih ⊢;rw[zae] at ih ⊢;rw[PG.bO,zaf,zah];have:0<(PG.ij s).length:=by cases s<;>simp[PG.ij]
  lia
theorem PZ.Nu(h:PZ K bs r0 row R pl sc H0 H o cur p ps ss vs):(vs.length:Int)<=max 0 (row-r0):=by
 have h1:=PG.Dk h.zk.rise h.zk.rows;have h2:=PG.Fn o [] cur;rw[za2] at h2;have h3:=congrArg zbE h2;rw[zaf] at h3;have h4:=xD cur;have h5:=h.fx.Wm.length;rw[zae] at h5;lia
theorem PZ.one(hR:H0 R=none)(Cn:H0 pl=none)(Vf:H0 sc=none)(n1:pl≠sc)(n2:pl≠R)(n3:sc≠R)(s:ar H0 H)(e1:H R=some (.lst []))(e2:H pl=some (.lst [.ref R]))(e3:H sc=some (.lst [.dB])):PZ K bs r0 r0 R pl sc H0 H [] [] R [] [.dB] []:=
 ⟨e2,e3,e1,by unfold Pt;simp[Ve,n1,n2,n3],.nil,.root,rfl,PG.Vc.nil,by simp,s,fun a ha=>by
  rcases GY.mp ha with rfl |rfl |rfl |h |h
  ·exact Cn
  ·exact Vf
  ·exact hR
  ·cases h
  ·simp at h⟩
end
open Builtin Builtin.Str PySem.Spec PySem.StrLaws
def ba (c:Nat):W->List W
 |[]=>[[]]
 |x::r=>if x=c then []::ba c r else match ba c r with
  |[]=>[[x]]
  |h::t=>(x::h)::t
def rY (c:Nat):Nat->W->List Nat
 |_,[]=>[]
 |k,x::r=>if x=c then k::rY c (k+1) r else rY c (k+1) r
theorem iX(c:Nat):∀w,ba c w≠[]
 |[]=>by simp[ba]
 |x::r=>by
  unfold ba;split
  ·simp
  ·split<;>simp
theorem Rv(c:Nat)(w:W):∀(r pre:W) (acc:Array Nat) (fr:Nat),w=pre++r->acc.size<=pre.length->fr<=pre.length->
 (forIn (List.range' pre.length (r.length+1)) (acc,fr) (occBody (S w) (S [c]) w.length (w.length+1))).run.fst.toList=acc.toList++rY c pre.length r:=by
 intro r
 induction r with
 |nil=>
  intro pre acc fr e ha hf;subst e;rw[za3,Nat.zero_add,List.range'_one,zcH];unfold occBody;rw[if_neg (fun z=>by have q:pre.length+1<=(pre++[]).length:=z.1.2;rw[zaR] at q;lia)];simp[rY]
 |cons x r ih=>
  intro pre acc fr e ha hf;have hw:w.length=pre.length+(r.length+1):=by rw[e,zaf,zah]
  rw[zah,List.range'_succ,zcH];have e2:w=(pre++[x])++r:=by rw[e];simp
  have Oz:=ih (pre++[x]);rw[zaf,zau] at Oz;have OA:subAt (S w) (S [c]) pre.length=decide (x=c):=by
   unfold subAt;show (w.toArray.extract pre.length (pre.length+1) == #[c])=_;rw[zcU,e];simp[List.extract];by_cases hx:x=c<;>simp[hx]
  unfold rY;by_cases hx:x=c
  ·unfold occBody;rw[if_pos ⟨⟨⟨by show acc.size<w.length+1;lia,hf⟩,by show pre.length+1<=w.length;lia⟩,by rw[OA,hx];simp⟩,if_pos hx];show (forIn _ (acc.push pre.length,pre.length+1) (occBody (S w) (S [c]) w.length (w.length+1))).run.fst.toList=_;rw[Oz _ _ e2 (by rw[Array.size_push];lia) (zai _)];simp
  ·unfold occBody;rw[if_neg (fun z=>hx (by have:=z.2;rw[OA] at this;simpa using this)),if_neg hx];exact Oz _ _ e2 (by lia) (by lia)
theorem Iw(c:Nat)(w:W):occurrences (S w) (S [c]) 0 (S w).length ((S w).length+1)=rY c 0 w:=by
 rw[occ_eq];have h:=Rv c w w [] #[] 0 rfl (zai _) (zai _);rw[eE];simpa using h
theorem LX(c:Nat):∀(r pre:W) (k0:Nat),k0<=pre.length->
 ((k0::(rY c pre.length r).map (·+1)).zip (rY c pre.length r++[(pre++r).length])).map (fun p=>((pre++r).drop p.1).take (p.2-p.1))=((pre.drop k0)++(ba c r).headD [])::(ba c r).tail:=by
 intro r
 induction r with
 |nil=>
  intro pre k0 h;simp only[rY,ba,zcu,za2,zaR,List.zip_cons_cons,List.zip_nil_right,zaw,zbI,List.tail_cons];rw[zbm (by rw[zaY];exact zai _)]
 |cons x r ih=>
  intro pre k0 h;have e2:pre++x::r=(pre++[x])++r:=by simp
  by_cases hx:x=c
  ·have Oz:=ih (pre++[x]) (pre.length+1) (by simp);unfold rY ba;rw[if_pos hx,if_pos hx];rw[zaf,zau] at Oz;rw[zaw,zaZ,List.zip_cons_cons,zaw,e2,Oz];simp only[zbI,zaR,List.tail_cons]
   congr 1
   ·rw[<- e2,zb9 h,List.take_append_of_le_length (by rw[zaY];exact zai _)];exact zbm (by rw[zaY];exact zai _)
   ·have hn:=iX c r;cases hs:ba c r with
    |nil=>exact absurd hs hn
    |cons a b=>simp
  ·have Oz:=ih (pre++[x]) k0 (by rw[zaf];lia);unfold rY ba;rw[if_neg hx,if_neg hx];rw[zaf,zau] at Oz;rw[e2,Oz];have hn:=iX c r;cases hs:ba c r with
   |nil=>exact absurd hs hn
   |cons a b=>
    simp[zb9 h]
theorem Dl(c:Nat)(w:W)(h1:c<256):Txt.split (S w) (S [c])=(ba c w).map S:=by
 have key:(if (occurrences (S w) (S [c]) 0 (S w).length ((S w).length+1)).isEmpty=true then [S w] else partsBetween (S w) (occurrences (S w) (S [c]) 0 (S w).length ((S w).length+1)) (S [c]).length)=(ba c w).map S:=by
  rw[Iw];have pg:=LX c w [] 0 (zai _);have hb:partsBetween (S w) (rY c 0 w) (S [c]).length=(ba c w).map S:=by
   have hn:=iX c w;have e3:(ba c w).headD []::(ba c w).tail=ba c w:=by
    cases hs:ba c w with
    |nil=>exact absurd hs hn
    |cons a b=>rfl
   rw[List.drop_nil,za2,za2,e3] at pg;rw[<- pg];unfold partsBetween;rw[zbL];show zce _ (List.zip (0::zce (fun x=>x+1) (rY c 0 w)) (rY c 0 w++[w.length]))=_;refine List.map_congr_left fun p hp=>?_;obtain⟨i,j⟩:=p;show strSub (S w) i j=S _;unfold strSub S;rw[zcU]
  split
  ·rename_i hi;have O8:rY c 0 w=[]:=by simpa using hi
   rw[<- hb,O8];show [S w]=[strSub (S w) 0 (S w).length];unfold strSub
   congr 1
   unfold S Str.length;simp
  ·exact hb
 unfold Txt.split;rw[key];split
 ·rename_i hk;have hz:w.length<1\/Builtin.Str.strKind (S w)<Builtin.Str.strKind (S [c]):=by
   rcases zc0.mp hk with z |z
   ·exact .inl (of_decide_eq_true z)
   ·exact .inr (of_decide_eq_true z)
  rcases hz with hz |hz
  ·have:w=[]:=zaU.mp (by lia);subst this;rfl
  ·exfalso
   have e1:Builtin.Str.strKind (S [c])=1:=by unfold Builtin.Str.strKind;rw[if_pos (by simp[S,h1])]
   have e2:1<=Builtin.Str.strKind (S w):=by unfold Builtin.Str.strKind;split<;>(try split)<;>lia
   lia
 ·rfl
theorem AX:∀(L:List W) (k:Nat),Vals (L.map sv) (strsFrom k (L.map S))
 |[],_=>.nil
 |w::L,k=>.cons ⟨k,rfl⟩ (AX L (k+1))
theorem xR(c:Nat):∀w:W,(ba c w).length<=w.length+1
 |[]=>by simp[ba]
 |x::r=>by
  have ih:=xR c r;unfold ba;split
  ·rw[zah,zah];lia
  ·split
   ·simp
   ·rename_i h t e;rw[e] at ih;rw[zah] at ih ⊢;rw[zah];lia
theorem Dm{X:Cx}:R5 X "str.split" (fun x vs H Q=>∃(w:W) (c:Nat),x=sv w/\vs=[sv [c]]/\c<256/\w.length<=4000000/\∀a,H a=none->Q (.ref a) (upd H a (.lst ((ba c w).map sv)))):=by
 intro pins s σ H x vs v us Q I rx rv h;obtain⟨w,c,rfl,rfl,hc,hl,q⟩:=h;obtain⟨t,rfl⟩:=(show ∃t,v=Value.str (S w) t from rx)
 obtain⟨u,rfl,ru⟩:=vals1 rv;obtain⟨tu,rfl⟩:=(show ∃t,u=Value.str (S [c]) t from ru)
 have line:zdh=2 ^ 24:=rfl;have HS:=Dl c w hc;have hll:=xR c w;have hw:(S w).length<=zdh:=by rw[eE];lia
 have hy:((S [c]).length==0)=false:=rfl;have fin:∀(bt:List zda) (k:Nat),Vals ((ba c w).map sv) bt->EP X pins σ Q (.ref s.heap.objs.size) {s with heap:=s.heap.push {cls:=.type "list",data:=.seq bt.toArray},toks:=k}:=fun bt k r=>
  ⟨.ref s.heap.objs.size,_,I.laid (t':=k) (fun b o e=>Heap.get?_push_of_some _ e) (zai _) (show dN X.prog X.w _ _ _ (.lst ((ba c w).map sv)) from ⟨by rw[zae];lia,bt,0,r,Heap.get?_push_size _ rfl⟩),rfl,q _ (I.dD.fresh (zai _))⟩
 have self:Txt.split (S w) (S [c])=[S w]->Vals ((ba c w).map sv) [Value.str (S w) t]:=fun e=>by
  have e1:(ba c w).map S=[S w]:=HS.symm.trans e;have e2:ba c w=[w]:=by
   cases hs:ba c w with
   |nil=>exact absurd hs (iX c w)
   |cons a b=>
    rw[hs,zaw] at e1;have z1:=C1.mp (List.head_eq_of_cons_eq e1);have z2:=zbH.mp (List.tail_eq_of_cons_eq e1);rw[z1,z2]
  rw[e2];exact .cons ⟨t,rfl⟩ .nil
 rcases zcz (decide ((S w).length<(S [c]).length) ||decide (Builtin.Str.strKind (S w)<Builtin.Str.strKind (S [c]))) with h1 |h1
 ·refine call_meets F.slot_str_split (typeIs_str _ _ _) F.entry_str_split (F.args_str_split_2 _ _) (meets_str_split_cannot_occur (S w) (S [c]) t tu h1) ?_;exact fin _ s.toks (self (if_pos h1))
 ·rcases zcz (occurrences (S w) (S [c]) 0 (S w).length ((S w).length+1)).isEmpty with hf |hf
  ·refine call_meets F.slot_str_split (typeIs_str _ _ _) F.entry_str_split (F.args_str_split_2 _ _) (meets_str_split_not_found (S w) (S [c]) t tu h1 hy hf) ?_;exact fin _ s.toks (self ((if_neg (ne_true_of_eq_false h1)).trans (if_pos hf)))
  ·have e1:partsBetween (S w) (occurrences (S w) (S [c]) 0 (S w).length ((S w).length+1)) (S [c]).length=(ba c w).map S:=
    ((if_neg (ne_true_of_eq_false h1)).trans (if_neg (ne_true_of_eq_false hf))).symm.trans HS
   refine call_meets F.slot_str_split (typeIs_str _ _ _) F.entry_str_split (F.args_str_split_2 _ _) (meets_str_split_sep (S w) (S [c]) t tu h1 hy hf hw (by rw[e1,zae];lia)) ?_;rw[e1];exact fin _ _ (AX _ _)
def dJ (c:Nat):List W->W
 |[]=>[]
 |w::L=>w++(L.map fun x=>c::x).flatten
theorem Dn(c:Nat):∀L:List W,(dJ c L).length<=L.flatten.length+L.length
 |[]=>zai _
 |w::L=>by
  have:∀L:List W,((L.map fun x=>c::x).flatten).length=L.flatten.length+L.length:=fun L=>by
   induction L with
   |nil=>rfl
   |cons a b ih=>simp only[zaw,zaN,zaf,zah,ih];lia
  unfold dJ;rw[zaf,this,zaN,zaf,zah];lia
theorem rZ{c:Nat}:∀ {L:List W},L≠[]->(∀w∈L,c ∉ w)->ba c (dJ c L)=L:=by
 have one:∀(w r:W),c ∉ w->ba c (w++c::r)=w::ba c r:=fun w r h=>by
  induction w with
  |nil=>simp[ba]
  |cons x w ih=>
   have hx:x≠c:=fun z=>h (z▸zaE);rw[zaZ]
   conv=>lhs;unfold ba
   rw[if_neg hx,ih fun z=>h (zas _ z)]
 have last:∀w:W,c ∉ w->ba c w=[w]:=fun w h=>by
  induction w with
  |nil=>rfl
  |cons x w ih=>
   have hx:x≠c:=fun z=>h (z▸zaE);unfold ba;rw[if_neg hx,ih fun z=>h (zas _ z)]
 have all:∀(L:List W) (w:W),c ∉ w->(∀w∈L,c ∉ w)->ba c (w++(L.map fun x=>c::x).flatten)=w::L:=fun L=>by
  induction L with
  |nil=>intro w h _;rw[zcu,zcv,zaR];exact last w h
  |cons a b ih=>
   intro w h hL;rw[zaw,zaN,zaZ,one _ _ h,ih a (hL a zaE) fun z hz=>hL z (zas _ hz)]
 intro L h0 h
 match L,h0 with
 |w::L,_=>exact all L w (h w zaE) fun z hz=>h z (zas _ hz)
theorem Fp(c:Nat):∀L:List W,Builtin.Str.glued (S [c]) (L.map S)=S (dJ c L)
 |[]=>rfl
 |w::L=>by
  have key:∀(L:List W) (acc:W),((L.map S).foldl (fun acc p=>acc++(S [c]).cps++p.cps) acc.toArray)=(acc++(L.map fun x=>c::x).flatten).toArray:=by
   intro L
   induction L with
   |nil=>intro acc;simp
   |cons x r ih=>
    intro acc;rw[zaw,zbj];have e:acc.toArray++(S [c]).cps++(S x).cps=(acc++c::x).toArray:=by
     show acc.toArray ++ #[c]++x.toArray=_;simp
    rw[e,ih];simp
  show (⟨(L.map S).foldl (fun acc p=>acc++(S [c]).cps++p.cps) (S w).cps⟩:Str)=_;rw[show (S w).cps=w.toArray from rfl,key L w];rfl
theorem LY{X:Cx}:R5 X "str.join" (fun x vs H Q=>∃(a:zc9) (L:List W) (c:Nat),x=sv [c]/\vs=[.ref a]/\g8 X.K H a (L.map sv)/\L.flatten.length+L.length<=4000000/\Q (sv (dJ c L)) H):=by
 intro pins s σ H x vs v us Q I rx rv h;obtain⟨a,L,c,rfl,rfl,hS,hl,q⟩:=h;obtain⟨t,rfl⟩:=(show ∃t,v=Value.str (S [c]) t from rx)
 obtain⟨u,rfl,ru⟩:=vals1 rv;cases (show u=Value.ref a from ru);obtain⟨bt,r,p,_⟩:=I.list hS;obtain⟨l,rfl,el⟩:=xy r;have line:zdh=2 ^ 24:=rfl;have fold:∀(xs:List Str) (n:Nat),xs.foldl (fun a x=>a+x.length+(S [c]).length) n=n+((xs.map (·.length)).sum+xs.length):=by
  intro xs
  induction xs with
  |nil=>intro n;simp
  |cons y ys ih=>intro n;rw[zbj,ih,zaw,List.sum_cons,zah,show (S [c]).length=1 from rfl];lia
 have Zx:((L.map S).map (·.length)).sum=L.flatten.length:=by
  rw[zbL,List.length_flatten]
  congr 1
 have hlen:Builtin.Str.tooLong ((l.map (·.1)).toArray.foldl (· + ·.length+(S [c]).length) 0)=false:=by
  rw[List.foldl_toArray,el,fold,Zx,zae];unfold Builtin.Str.tooLong;rw[decide_eq_false_iff_not];lia
 have fit:(S (dJ c L)).length<=zdh:=by
  rw[eE];have:=Dn c L;lia
 refine call_meets F.slot_str_join (typeIs_str s _ _) F.entry_str_join (F.args_str_join_2 _ _) (meets_str_join_list (S [c]) t a l hlen) ⟨p.isList,?_⟩;have JV:∀tk,EP X pins σ Q (.str (S (dJ c L)) tk) {s with toks:=s.toks+1}:=fun tk=>⟨sv (dJ c L),H,I.tok _,⟨_,rfl⟩,q⟩
 have Wy:∀tk,EP X pins σ Q (.str (S (dJ c L)) tk) s:=fun tk=>⟨sv (dJ c L),H,I,⟨_,rfl⟩,q⟩
 have eg:Builtin.Str.glued (S [c]) (l.map (·.1))=S (dJ c L):=by rw[el,Fp]
 match l,el,eg with
 |[],el,eg=>
  refine⟨?_,?_⟩
  ·show (Builtin.Str.glued (S [c]) []).length<=zdh;have Pu:Builtin.Str.glued (S [c]) []=S (dJ c L):=eg;rw[Pu];exact fit
  ·have Pu:Builtin.Str.glued (S [c]) []=S (dJ c L):=eg;show wants _ _ (.ok (.ret (.str (Builtin.Str.glued (S [c]) []) _))) _;rw[Pu];exact JV _
 |[x],el,eg=>
  have Pu:Builtin.Str.glued (S [c]) [x.1]=S (dJ c L):=eg;have e1:Builtin.Str.glued (S [c]) [x.1]=x.1:=rfl;have e2:x.1=S (dJ c L):=e1.symm.trans Pu;simp only[joinMade,Made.post];have:=Wy x.2;rw[<- e2] at this;exact this
 |x::y::r,el,eg=>
  have Pu:Builtin.Str.glued (S [c]) ((x::y::r).map (·.1))=S (dJ c L):=eg;refine⟨?_,?_⟩
  ·show (Builtin.Str.glued (S [c]) ((x::y::r).map (·.1))).length<=zdh;rw[Pu];exact fit
  ·show wants _ _ (.ok (.ret (.str (Builtin.Str.glued (S [c]) ((x::y::r).map (·.1))) _))) _;rw[Pu];exact JV _
def Pw (te:TE):TE:=fun σ H Q=>te σ H fun x H1=>(∃i:Int,x=.int i/\i.natAbs<2 ^ 64/\Q (.str (zaa (toString i))) H1)\/∃z,x=.str z/\z.length<=zdh/\Q (.str z) H1
def T3:List TE->St->Str->Hp->(Str->Hp->Prop)->Prop
 |[],_,acc,H,R=>R acc H
 |t::ts,σ,acc,H,R=>t σ H fun x H1=>∃y,x=.str y/\(acc++y).length<=zdh/\T3 ts σ (acc++y) H1 R
def Wz (ts:List TE):TE:=fun σ H Q=>T3 ts σ Str.empty H fun z H1=>Q (.str z) H1
inductive T4(X:Cx):List Expr->List TE->Prop
 |nil:T4 X [] []
 |cons {e es t ts}:PE X e t->T4 X es ts->T4 X (e::es) (t::ts)
section
variable{X:Cx}{e e2:Expr}{es:List Expr}{te:TE}{ts:List TE}{pos:Pos}
theorem tK(he:PE X e te):PE X (.FormattedValue e (-1) none pos) (Pw te):=by
 intro pins s σ H Q I h;refine wpAny_FormattedValue_plain (eI (he pins s σ H _ I h) fun v s1 zq=>?_);obtain⟨x,H1,I1,r,q⟩:=zq;rcases q with ⟨i,rfl,hi,q⟩ |⟨z,rfl,hz,q⟩
 ·obtain⟨t,rfl⟩:=(show ∃t,v=Value.int i t from r)
  have hl:i.natAbs.log2<1920:=by
   by_cases h0:i.natAbs=0
   ·rw[h0];decide
   ·exact Nat.lt_trans ((Nat.log2_lt h0).mpr hi) (by decide)
  exact wpAny_formatField_int hl ⟨.str (zaa (toString i)),H1,(I1.tok _).tok _,⟨_,rfl⟩,q⟩
 ·obtain⟨t,rfl⟩:=(show ∃t,v=Value.str z t from r)
  exact wpAny_formatField_str ⟨.str z,H1,I1,⟨_,rfl⟩,q⟩ ⟨.str z,H1,I1.tok _,⟨_,rfl⟩,q⟩ hz
theorem LZ(h:T4 X es ts):∀(pins:List (zc9×Obj)) (s:zdj) (σ:St) (H:Hp) (acc:Str) (R:Str->Hp->Prop),Inv X pins σ H s->acc.length<=zdh->T3 ts σ acc H R->
 Joins (model X.prog X.w) X.A X.xe (evalEach es X.env) acc (fun out s1=>out.length<=zdh/\∃H1,Inv X pins σ H1 s1/\R out H1) s:=by
 induction h with
 |nil=>intro pins s σ H acc R I ha h;exact⟨ha,H,I,h⟩
 |cons h1 _ ih=>
  intro pins s σ H acc R I ha h;refine eI (h1 pins s σ H _ I h) fun v s1 zq=>?_;obtain⟨x,H1,I1,r,y,rfl,hy,q⟩:=zq;obtain⟨t,rfl⟩:=(show ∃t,v=Value.str y t from r)
  exact⟨y,t,rfl,hy,ih pins s1 σ H1 _ R I1 hy q⟩
theorem xS{M:Model}{A:zdk}{E:zda->zdj->Prop}{Q Q':Str->zdj->Prop}(h:∀z s,Q z s->Q' z s):∀(l:List (Sem zda)) (acc:Str) (s:zdj),Joins M A E l acc Q s->Joins M A E l acc Q' s
 |[],_,_,q=>h _ _ q
 |x::l,acc,s,q=>wpAny_mono q (fun v s1 ⟨y,t,e,hy,z⟩=>⟨y,t,e,hy,xS h l _ s1 z⟩) fun _ _ z=>z
theorem mF{ts:List TE}(h:T4 X (e::e2::es) ts):PE X (.JoinedStr (e::e2::es) pos) (Wz ts):=by
 intro pins s σ H Q I hq;refine wpAny_JoinedStr (xS (fun z s1 zq=>?_) _ _ _ (LZ h pins s σ H Str.empty _ I (by decide) hq));obtain⟨hz,H1,I1,q⟩:=zq;exact⟨hz,.str z,H1,I1.tok _,⟨_,rfl⟩,q⟩
end
open AutoSeq1 (wpAny_loadPart')
set_option maxHeartbeats 1000000 in
theorem Iy(l:zc9)(items:Array zda)(n:Nat)(WA:Option zc9)(sl:Array (Option zda))(t:PySem.Tok) :
 Meets (Builtin.«enumerate.__new__» ⟨[.type "enumerate",.ref l],[("start",.int 1 t)]⟩) (fun _ R s=>s.heap.get? l=some {cls:=.type "list",dict:=WA,data:=.seq items n,slots:=sl}/\
  R (.ok (.ret (.ref (s.heap.push {cls:=.type "list_iterator",data:=.fields #[.ref l,.int 0 0]}).objs.size)))
   {s with heap:=(s.heap.push {cls:=.type "list_iterator",data:=.fields #[.ref l,.int 0 0]}).push {cls:=.type "enumerate",data:=.fields #[.none,.bool false,.ref s.heap.objs.size,rawInt 1,.none,.none]} }):=by
 refine .of_wp fun prog w A R s h=>?_;obtain⟨hp,g,d,tk,os⟩:=s;obtain⟨hl,h⟩:=h;have OA:=sub_enumerate;have hL:Heap.IsList (Shared.heap ⟨hp,g,d,tk,os⟩) l items:=⟨_,hl,rfl,n,rfl⟩
 wp_walk using wpAny_loadPart' hl
 refine wpAny_stack_any fun st=>zdd ?_;split
 ·rename_i c _ _ _ _ _;cases (c==Value.type "enumerate")
  ·wp_walk using wpAny_loadPart' hl,wpAny_pyIter_list hL
   exact⟨_,rfl,h⟩
  ·wp_walk using wpAny_loadPart' hl,wpAny_pyIter_list hL
   exact⟨_,rfl,h⟩
 ·wp_walk using wpAny_loadPart' hl,wpAny_pyIter_list hL
  exact⟨_,rfl,h⟩
theorem Iz{self a:zda}{kw:List (Str×zda)}(hl:typeLookup (.type "enumerate") "__init__"=pure (some (.builtin "object.__init__")))(hm:Bind.madeBy (.type "enumerate")=pure (some "enumerate.__new__")) :
 Meets (Builtin.«object.__init__» ⟨[self,a],kw⟩) (fun _ R s=>s.TypeIs self "enumerate"/\R (.ok (.ret .none)) s):=by
 refine Meets.of_wp fun prog w A R s hs=>?_;obtain⟨hT,hq⟩:=hs;have EJ:(some "enumerate.__new__" != some "object.__new__")=true:=by decide
 repeat (any_goals (first |assumption |wp_step))
 exact⟨_,rfl,hq⟩
theorem L0(a v:zda):checkTypeCall "enumerate" ⟨[a],[("start",v)]⟩=pure ():=by kernel_rfl
theorem L5(a v:zda):checkBuiltinCall "enumerate.__new__" ⟨[.type "enumerate",a],[("start",v)]⟩=pure ():=by kernel_rfl
theorem L6(a b v:zda):argsOk "object.__init__" ⟨[a,b],[("start",v)]⟩:=by
 unfold argsOk;rw[signature?_of (id:="object.__init__") (n:=['_', '_', 't', 'i', 'n', 'i', '_', '_']) (o:=['t', 'c', 'e', 'j', 'b', 'o']) (by kernel_rfl) F.owner_object]
 kernel_rfl
section
variable{prog:zdl}{w:zdb}{A:zdk}{E:zda->zdj->Prop}{s:zdj}
theorem Fq{l:zc9}{items:Array zda}{t:PySem.Tok}{Q:zda->zdj->Prop}(hL:s.heap.IsList l items)
 (h:∀h',IsEnum h' (s.heap.objs.size+1) s.heap.objs.size 1 .none->h'.IsListIter s.heap.objs.size l 0->h'.objs.size=s.heap.objs.size+2->
  (∀b o,s.heap.get? b=some o->h'.get? b=some o)->Q (.ref (s.heap.objs.size+1)) {s with heap:=h' }) :
 wpAny (model prog w) A (call (.type "enumerate") [.ref l] [("start",.int 1 t)]) Q E s:=by
 obtain⟨⟨c,WA,dt,sl⟩,hl,hc,n,hd⟩:=hL;replace hc:c=.type "list":=hc;replace hd:dt=.seq items n:=hd;subst hc hd;have ft:=F.called_enumerate;obtain⟨c,tl,Zy⟩:=ft.mro;have XI:=ft.made;have OA:=ft.sub;have hct:=L0 (.ref l) (.int 1 t);refine wpAny_call (codeAny_of_tree ?_);show wpAny _ _ (callAny (.type "enumerate") _) _ _ _;refine zdd ⟨Code.quiet_builtin _ (by decide +kernel),codeAny_builtin F.entry_type_call ?_⟩;rw[Around.under_plain (weight_type_call_type "enumerate" [.ref l] _) (units_type_call_type "enumerate" [.ref l] _)];have h1:=ft.notType;have h2:=ft.canCreate
 repeat (any_goals (first |assumption |wp_step))
 have hz:(s.heap.push {cls:=.type "list_iterator",data:=.fields #[.ref l,.int 0 0]}).objs.size=s.heap.objs.size+1:=Heap.size_push ..;have he:IsEnum ((s.heap.push {cls:=.type "list_iterator",data:=.fields #[.ref l,.int 0 0]}).push
  {cls:=.type "enumerate",data:=.fields #[.none,.bool false,.ref s.heap.objs.size,rawInt 1,.none,.none]}) (s.heap.objs.size+1) s.heap.objs.size 1 .none:=by
  have:=Heap.get?_push_size (s.heap.push {cls:=.type "list_iterator",data:=.fields #[.ref l,.int 0 0]})
   (o:={cls:=.type "enumerate",data:=.fields #[.none,.bool false,.ref s.heap.objs.size,rawInt 1,.none,.none]}) rfl
  rw[hz] at this;exact this
 have WB:=h _ he ⟨_,Heap.get?_push_of_some _ (Heap.get?_push_size _ rfl),rfl,rfl⟩ (by rw[Heap.size_push,hz]) fun b o x=>Heap.get?_push_of_some _ (Heap.get?_push_of_some _ x);refine codeAny_mono (codeAny_call_builtin ft.plain F.entry_enumerate_new (wpAny_of_eq (L5 _ _) (Iy l items n WA sl t prog w A.in1 (wants (fun obj s1=>obj=.ref (s.heap.objs.size+1)/\s1.TypeIs obj "enumerate"/\Q obj s1) E) s ⟨hl,?_⟩))) fun r s1 hr=>?_
 ·rw[hz];exact⟨rfl,⟨_,he,rfl⟩,WB⟩
 cases r with
 |error e=>exact hr
 |ok fl=>
  cases fl with
  |ret obj=>
   obtain⟨rfl,hT,hq⟩:=hr;have hli:=ft.init.lookup;have hbi:=ft.init.bind (.ref (s.heap.objs.size+1))
   repeat (any_goals (first |assumption |wp_step))
   refine codeAny_mono (codeAny_call_builtin ft.init.plain F.entry_object_init (ft.init.check _ _ _ _ _ _ _ _ hT (L6 _ _ _) (Iz ft.init.lookup ft.made prog w A.in1 (wants (fun r s2=>r=.none/\Q (.ref (s.heap.objs.size+1)) s2) E) s1 ⟨hT,rfl,hq⟩))) fun r2 s2 WC=>?_;cases r2 with
   |error e=>exact WC
   |ok Zz=>
    cases Zz with
    |ret r=>
     obtain⟨rfl,hq⟩:=WC
     repeat (any_goals (first |assumption |wp_step))
    |_=>exact WC.elim
  |_=>exact hr.elim
end
theorem GZ{prog:zdl}{w:zdb}{A:zdk}{it:zc9}{fp:List zc9}{n:Nat}{P:Nat->zda->Prop}{St:Nat->Heap->Prop}(D:Draws prog w A it fp n P St) :
 Draws prog w A it fp (n+1) (fun j x=>∃i,j=i+1/\P i x) (fun j h=>∃i,j=i+1/\St i h) where
 live:=fun j h z=>by obtain⟨i,_,s⟩:=z;exact D.live i h s
 frame:=fun j h h' z k=>by obtain⟨i,e,s⟩:=z;exact⟨i,e,D.frame i h h' s k⟩
 item:=fun j s Q E hj z hQ=>by
  obtain⟨i,e,st⟩:=z;subst e;exact D.item i s Q E (by lia) st fun x h' tk p Cy sb=>hQ x h' tk ⟨i,rfl,p⟩ ⟨i+1,rfl,Cy⟩ sb
 done:=fun s Q E z hE=>by
  obtain⟨i,e,st⟩:=z;cases e;exact D.done s Q E st hE
def L7 (K:zac) (a:zc9):It:=
 ⟨fun i H=>∃xs x,g8 K H a xs/\xs[i]?=some x,fun i H x H'=>∃p y,x=.ref p/\H p=none/\H'=upd H p (.tup [.int ((i+1:Nat):Int),y])/\∀xs,g8 K H a xs->xs[i]?=some y,fun i H=>∃xs,g8 K H a xs/\i=xs.length⟩
theorem Fs{P:zdl}{w:zdb}{K:zac}{elts:List Expr}{x1}{pos:Pos}(a e it:zc9)(EJ:e≠it) :
 Turn P w K (.Tuple elts x1 pos) (L7 K a) [e,it] e (fun i h=>(∃old,IsEnum h e it ((i+1:Nat):Int) old)/\h.IsListIter it a i) where
 mem:=by simp
 obj:=fun i h st b hb=>by
  obtain⟨⟨old,he⟩,o,eo,c,d⟩:=st;rcases zaj.mp hb with rfl |hb
  ·exact⟨_,he,fun v z=>by cases (show Data.fields _=Data.cell v from z)⟩
  ·have z:b=it:=by simpa using hb
   subst z;exact⟨o,eo,fun v z=>by rw[d] at z;cases z⟩
 keep:=fun i h h' st k=>⟨st.1.elim fun old he=>⟨old,k e (by simp) _ he⟩,st.2.at fun o x=>k it (by simp) o x⟩
 item:=by
  intro X hP hw hK hc i pins s σ H E I hf st hg;subst hP hw hK;obtain⟨xs,x,hq,hx⟩:=hg;obtain⟨⟨old,he⟩,hit⟩:=st;obtain⟨bt,rv,p,hz⟩:=I.list hq;obtain⟨u,hu,ru⟩:=rv.get hx;have hil:i<bt.length:=(zap.mp hu).1;have WD:a≠it:=fun z=>by
   subst z;obtain⟨o,h1,h2,_⟩:=p.isList;obtain⟨o',h3,h4,_⟩:=hit;rw[h1] at h3;cases h3;rw[h2] at h4;exact absurd h4 (by decide)
  have ZA:e≠a:=fun z=>by
   subst z;obtain⟨o,h1,h2,_⟩:=p.isList;have h3:=zav.inj (h1.symm.trans he);rw[h3] at h2;exact absurd (show Value.type "enumerate"=Value.type "list" from h2) (by decide)
  have DD:=GZ (Draws.list (prog:=X.prog) (w:=X.w) (A:=X.A.in1) (I.ok.hd hc) it a WD bt.toArray);refine wpAny_pyNext_enum_itemD (i:=i+1) DD he ⟨i,rfl,hit,p.isList⟩ (by simp;lia) EJ (by simp[EJ,ZA]) fun u' h' tk ZC ho Cy hT J8 hk=>?_;obtain⟨i',ei,ZD⟩:=ZC;obtain⟨i2,ZE,WE,_⟩:=Cy;cases ei;cases ZE;have eu:u'=u:=by
   have z:bt.toArray[i]?=some u':=ZD;rw[List.getElem?_toArray,hu] at z;exact(zav.inj z).symm
  subst eu;refine⟨_,rfl,?_⟩;refine wpAny_letOwnedTupleGo_enum ho fun h2 ZF sb=>?_;have T5:e<s.heap.objs.size:=Heap.lt_size he;have T6:it<s.heap.objs.size:=by obtain⟨_,x,_⟩:=hit;exact Heap.lt_size x
  have I1:Inv X pins σ H {s with heap:=h2,toks:=tk+1}:=I.AN (t':=tk+1) (fun b o hb q=>(sb.2 b fun z=>hb (by simp[z])).trans (hk b o (fun z=>hb (by simp[z])) (fun z=>hb (by simp[z])) q)) hf;have fr:H s.heap.objs.size=none:=I.dD.fresh (zai _);obtain⟨g0,g1,g2,g3,g4,g5⟩:=I.JX (zai _) fr;have WG:h2.get? s.heap.objs.size=some {cls:=.type "tuple",data:=.seq #[.int ((i+1:Nat):Int) tk,u']}:=(sb.2 _ (zc6 T5)).trans hT;have I2:=I1.told (o:=.tup [.int ((i+1:Nat):Int),x]) fr I.sz g1 g4 g5 ⟨(show (2:Nat)<=zdh by decide),[.int ((i+1:Nat):Int) tk,u'],.cons ⟨_,rfl⟩ (.cons ru .nil),⟨_,WG,rfl,_,rfl⟩⟩;refine⟨.ref s.heap.objs.size,_,I2,rfl,⟨_,x,rfl,fr,rfl,fun ys hy=>by rw[I.Cv hy hq];exact hx⟩,⟨⟨_,by exact_mod_cast ZF⟩,WE.at fun o q=>(sb.2 it (Ne.symm EJ)).trans q⟩,fun b hb=>?_⟩;rw[aq ?_]
  ·exact(hf b hb).1
  ·rcases zaj.mp hb with rfl |hb
   ·exact zaG T5
   ·have z:b=it:=by simpa using hb
    subst z;exact zaG T6
 done:=by
  intro X hP hw hK hc i pins s σ H E I hf st hg;subst hP hw hK;obtain⟨xs,hq,hx⟩:=hg;obtain⟨⟨old,he⟩,hit⟩:=st;obtain⟨bt,rv,p,hz⟩:=I.list hq;have hl:=rv.length;have WD:a≠it:=fun z=>by
   subst z;obtain⟨o,h1,h2,_⟩:=p.isList;obtain⟨o',h3,h4,_⟩:=hit;rw[h1] at h3;cases h3;rw[h2] at h4;exact absurd h4 (by decide)
  have DD:=GZ (Draws.list (prog:=X.prog) (w:=X.w) (A:=X.A.in1) (I.ok.hd hc) it a WD bt.toArray);refine wpAny_pyNext_enum_endD DD he ⟨i,?_,hit,p.isList⟩ fun h' eb=>⟨rfl,I.AN (t':=s.toks) (fun b o hb q=>eb b o (fun z=>hb (by simp[z])) q) hf⟩
  rw[zaq,hx,hl]
 self:=fun _ _ _ _ _ st h=>st.1.elim fun _ he=>wpAny_pyIter_enum he h
def Ft (K:zac) (ta:TA):TI:=fun σ H R=>ta σ H fun vs H1=>∃a,vs=[.ref a]/\(∃xs,g8 K H1 a xs)/\R (L7 K a) H1
theorem L8{M:Model}{A:zdk}{E:zda->zdj->Prop}{s:zdj}{env:Env}{pos:Pos}{T:String}{e:Expr}{rest:List Expr}{Se:List Keyword}{Q:zda->zdj->Prop}
 (h:wpAny M A (spliced (backTo pos (zdf (e::rest) env))) (fun vs s1=>wpAny M A (evalAll ((backToKw pos (keywordEach Se env)).map (·.2)))
  (fun bg s2=>wpAny M A (call (.type T) vs (((backToKw pos (keywordEach Se env)).filterMap (·.1)).zip bg)) Q E s2) E s1) E s)
 (he:backTo pos (zdf (e::rest) env)=(false,eval e env)::backTo pos (zdf rest env):=by rfl)
 (xq:(backTo pos (zdf (e::rest) env)).any (·.1)=false:=by rfl)
 (QQ:(backToKw pos (keywordEach Se env)).all (·.1.isSome)=true:=by rfl)
 (ZG:(backToKw pos (keywordEach Se env)).any (·.1.isNone)=false:=by rfl) :
 wpAny M A (callWith pos (.type T) [] (backTo pos (zdf (e::rest) env)) (backToKw pos (keywordEach Se env))) Q E s:=by
 have h0:wpAny M A (evalArgs (.type T) true (backTo pos (zdf (e::rest) env)) (backToKw pos (keywordEach Se env))) (fun a s1=>wpAny M A (call (.type T) ([]++a.pos) a.kw) Q E s1) E s:=by
  rw[he] at h ⊢;exact evalArgs_kwB QQ h
 unfold callWith;refine zdc (zde (wpAny_mono h0 (fun a s1 h1=>zdc (wpAny_standAt ?_)) fun _ _ x=>x));simp only[xq,ZG,zcW];refine zdc (zdd ?_);exact zdc (wpAny_mono h1 (fun r s2 hr=>zdc (zde (wpAny_point (zdd hr)))) fun _ _ x=>x)
theorem L9{X:Cx}{elts:List Expr}{x1}{tp:Pos}{a:Expr}{ta:TA}{p pos kp np:Pos}{k}(hg:Gl X "enumerate")(hm:X.mg "enumerate"=none)(ha:PA X [a] ta)(hs:zdf [a] X.env=[(false,eval a X.env)]:=by rfl) :
 PI X (.Tuple elts x1 tp) (.Call (.Name "enumerate" p) [a] [⟨some "start",.Constant (.int 1) k np,kp⟩] pos) (Ft X.K ta):=by
 intro pins s σ H R I h;refine wpAny_Call_Name_kw (wZ I hg hm PyProof.Rows.Boot.«enumerate» (L8 (eI (ha pos pins s σ H _ I h) fun us s1 zq=>?_) (by rw[hs];rfl) (by rw[hs];rfl)));obtain⟨vs,H1,I1,r1,l,e,⟨xs,hq⟩,q⟩:=zq;subst e;cases r1 with
 |cons r rr=>
  cases rr;cases (show _=Value.ref l from r);refine kws_cons (wpAny_Constant_int ?_);refine kws_nil ?_;obtain⟨bt,rv,p,hz⟩:=I1.list hq;refine Fq p.isList fun h' he hit J8 hk=>?_;refine wpAny_pyIter_enum he ?_;have fr:∀b,s1.heap.objs.size<=b->H1 b=none:=fun b hb=>I1.dD.fresh hb;refine⟨s1.heap.objs.size+1,[s1.heap.objs.size+1,s1.heap.objs.size],_,_,H1,rfl,I1.kept (t':=s1.toks+1) hk,Fs l _ _ (Nat.succ_ne_self _),⟨⟨_,he⟩,hit⟩,fun b hb=>?_,q⟩;have G0:s1.heap.objs.size<=b:=by
   rcases zaj.mp hb with rfl |hb
   ·exact Nat.le_succ _
   ·have z:b=s1.heap.objs.size:=by simpa using hb
    rw[z];exact zai _
  exact I1.JX G0 (fr b G0)
theorem IA{K:zac}{a:zc9}{xs:List V}{g:TG}{tb:TS}{D:Ends}{σ:St}{H:Hp}(Pv:Nat->St->Hp->Prop)(h0:Pv 0 σ H)(hl:∀i σ H,i<=xs.length->Pv i σ H->g8 K H a xs)
 (hs:∀i x σ H p,xs[i]?=some x->Pv i σ H->H p=none->g (.ref p) σ (upd H p (.tup [.int ((i+1:Nat):Int),x])) fun σ2 H2=>tb {D with nx:=Pv (i+1),ct:=Pv (i+1),bk:=D.nx} σ2 H2) (hd:∀σ H,Pv xs.length σ H->D.nx σ H) :
 ∃W:Nat->Nat->St->Hp->Prop,(∃m,W 0 m σ H)/\∀i m σ H,W i m σ H->
  ((L7 K a).stop i H/\D.nx σ H)\/((L7 K a).go i H/\∃N:St->Hp->Prop,(∀σ' H',N σ' H'->∃m',m'<m/\W (i+1) m' σ' H')/\∀x H',(L7 K a).HF i H x H'->g x σ H' fun σ2 H2=>tb {D with nx:=N,ct:=N,bk:=D.nx} σ2 H2):=by
 refine⟨fun i m σ H=>m=xs.length-i/\i<=xs.length/\Pv i σ H,⟨xs.length,by simp,za6 _,h0⟩,?_⟩
 rintro i m σ H ⟨rfl,hi,p⟩
 have q:=hl i σ H hi p;by_cases pH:i<xs.length
 ·refine .inr ⟨⟨xs,xs[i],q,by simp[pH]⟩,Pv (i+1),fun σ' H' p'=>⟨xs.length-(i+1),by lia,rfl,pH,p'⟩,fun x H' y=>?_⟩;obtain⟨pp,v,rfl,hn,rfl,y⟩:=y;exact hs i v σ H pp (y xs q) p hn
 ·have e:i=xs.length:=by lia
  subst e;exact .inl ⟨⟨xs,q,rfl⟩,hd σ H p⟩
end L2
namespace PM
def jP:Tr->List W
 |.num _=>[]
 |.box x=>[x]
 |.bin _ l r=>jP l++jP r
def JI:Tr->Prop
 |.bin o l r=>(o=[42]\/o=[43]\/o=[45])/\JI l/\JI r
 |.box x=>isName x=true
 |.num _=>True
theorem JI.names:∀ {e:Tr},JI e->∀x∈jP e,isName x=true
 |.num _,_,x,hx=>by cases hx
 |.box y,h,x,hx=>by cases zal.mp hx;exact h
 |.bin o l r,h,x,hx=>by
  rcases zay.mp hx with z |z
  ·exact JI.names h.2.1 x z
  ·exact JI.names h.2.2 x z
def Dq (f:P):Prop:=∀ps e r,f ps=some (e,r)->PG.xC e+r.length<ps.length/\(jP e).length+r.length<=ps.length/\JI e
theorem uO{ops:List W}{f:P}(h:Dq f)(ho:∀p∈ops,p=[42]\/p=[43]\/p=[45]):∀k e ps e' r,jM ops f k e ps=some (e',r)->JI e->PG.xC e'+r.length<=PG.xC e+ps.length/\(jP e').length+r.length<=(jP e).length+ps.length/\JI e'
 |0,e,ps,e',r,q,hp=>by simp only[jM,zav.injEq,Prod.mk.injEq] at q;rw[<- q.1,<- q.2];exact⟨zai _,zai _,hp⟩
 |k+1,e,[],e',r,q,hp=>by simp only[jM,zav.injEq,Prod.mk.injEq] at q;rw[<- q.2,<- q.1];exact⟨zai _,zai _,hp⟩
 |k+1,e,p::t,e',r,q,hp=>by
  unfold jM at q;split at q
  ·rename_i QF;split at q
   ·cases q
   ·rename_i e2 r' hf;obtain⟨h1,h2,h0⟩:=h _ _ _ hf;obtain⟨h3,h4,h5⟩:=uO h ho k _ _ _ _ q ⟨ho p QF,hp,h0⟩;have e1:PG.xC (.bin p e e2)=max (PG.xC e) (PG.xC e2)+1:=rfl;have e3:(jP (.bin p e e2)).length=(jP e).length+(jP e2).length:=by show (jP e++jP e2).length=_;rw[zaf]
    rw[e1] at h3;rw[e3] at h4;rw[zah];exact⟨by lia,by lia,h5⟩
  ·simp only[zav.injEq,Prod.mk.injEq] at q;rw[<- q.2,<- q.1];exact⟨zai _,zai _,hp⟩
theorem AY{f:P}(h:Dq f):Dq (hG f):=fun ps e r q=>by
 unfold hG at q;split at q
 ·cases q
 ·rename_i e1 r1 hf;obtain⟨h1,h2,h0⟩:=h _ _ _ hf;obtain⟨h3,h4,h5⟩:=uO h (fun p hp=>.inl (zal.mp hp)) _ _ _ _ _ q h0;exact⟨by lia,by lia,h5⟩
theorem Dr{f:P}(h:Dq f):Dq (rO f):=fun ps e r q=>by
 unfold rO at q;split at q
 ·cases q
 ·rename_i e1 r1 hf;obtain⟨h1,h2,h0⟩:=AY h _ _ _ hf;obtain⟨h3,h4,h5⟩:=uO (AY h) (fun p hp=>.inr (by simpa using hp)) _ _ _ _ _ q h0;exact⟨by lia,by lia,h5⟩
theorem Ds{sub:P}(h:Dq sub):Dq (vE sub):=fun ps e r q=>by
 cases ps with
 |nil=>cases q
 |cons p t=>
  rw[kY] at q;rw[zah];split at q
  ·simp only[zav.injEq,Prod.mk.injEq] at q;rw[<- q.2,<- q.1];exact⟨by show 0+t.length<_;lia,by show 0+t.length<=_;lia,trivial⟩
  ·split at q
   ·rename_i Tt;simp only[zav.injEq,Prod.mk.injEq] at q;rw[<- q.2,<- q.1];exact⟨by show 0+t.length<_;lia,by show 1+t.length<=_;lia,Tt⟩
   ·split at q
    ·split at q
     ·rename_i e1 q1 r1 hf;split at q
      ·simp only[zav.injEq,Prod.mk.injEq] at q;rw[<- q.2,<- q.1];obtain⟨h1,h2,h0⟩:=h _ _ _ hf;rw[zah] at h1 h2;exact⟨by lia,by lia,h0⟩
      ·cases q
     ·cases q
    ·cases q
theorem vL:∀n,Dq (factor n)
 |0=>Ds fun _ _ _ q=>by cases q
 |n+1=>Ds (Dr (vL n))
theorem r9{w:W}{t:Tr}(h:expr w=some t):PG.xC t<60/\(jP t).length<=60/\JI t:=by
 unfold expr at h;split at h
 ·cases h
 ·rename_i hl;split at h
  ·rename_i e q;obtain⟨h1,h2,h0⟩:=Dr (vL 5) _ _ _ q;cases h;have:=rP w;rw[za3] at h1 h2;exact⟨by lia,by lia,h0⟩
  ·cases h
inductive Fm where
 |box (n:W) (a b:Int) |ask (n:W) |put (n:W) (e:Tr) |say (e:Tr) |cond (k sg:W) (l r:Tr) |one (k:W)
 deriving DecidableEq
def cQ:W:=[98,111,120]
def uP:W:=[97,115,107]
def uQ:W:=[112,117,116]
def qW:W:=[115,97,121]
def e9:W:=[109,117,115,116]
def cZ:W:=[105,102]
def cg:W:=[101,108,115,101]
def aM:W:=[119,104,105,108,101]
def dU:W:=[101,110,100]
def dW:W:=[115,116,111,112]
def zI (k:W):Nat:=if k=cQ then 4 else if k=uP then 2 else if k=uQ then 3 else if k=qW then 2 else if k=e9 then 4 else if k=cZ then 4 else if k=cg then 1 else if k=aM then 4 else if k=dU then 1 else if k=dW then 1 else 0
def xT (w:W):Option W:=if isName w then some w else none
def IB (w:W):Option Int:=if isNumber w then some (oC w) else none
def IC (ws:List W):Option Fm:=(xT (ws.getD 1 [])).bind fun n=>(IB (ws.getD 2 [])).bind fun a=>(IB (ws.getD 3 [])).map (.box n a)
def Dt (ws:List W):Option Fm:=if ws.getD 2 []=[60]\/ws.getD 2 []=[61] then (expr (ws.getD 1 [])).bind fun l=>(expr (ws.getD 3 [])).map (.cond (ws.headD []) (ws.getD 2 []) l) else none
def gk (ws:List W):Option Fm:=
 if zI (ws.headD [])≠ws.length then none
 else if ws.headD []=cQ then IC ws
 else if ws.headD []=uP then (xT (ws.getD 1 [])).map .ask
 else if ws.headD []=uQ then (xT (ws.getD 1 [])).bind fun n=>(expr (ws.getD 2 [])).map (.put n)
 else if ws.headD []=qW then (expr (ws.getD 1 [])).map .say
 else if ws.headD []=e9\/ws.headD []=cZ\/ws.headD []=aM then Dt ws
 else some (.one (ws.headD []))
def T7 (e:Tr):Prop:=JI e/\PG.xC e<60/\(jP e).length<=60
theorem wM{w:W}{t:Tr}(h:expr w=some t):T7 t:=⟨(r9 h).2.2,(r9 h).1,(r9 h).2.1⟩
def Px:Fm->Prop
 |.box _ _ _=>False
 |.ask n=>isName n=true
 |.put n e=>isName n=true/\T7 e
 |.say e=>T7 e
 |.cond k _ l r=>(k=e9\/k=cZ\/k=aM)/\T7 l/\T7 r
 |.one k=>k=dW
def Py:Fm->Prop
 |.box _ _ _=>True
 |.one k=>k=cg\/k=dU\/k=dW
 |f=>Px f
theorem Du{w n:W}(h:xT w=some n):n=w/\isName n=true:=by
 unfold xT at h;split at h
 ·rename_i z;cases h;exact⟨rfl,z⟩
 ·cases h
theorem G6{ws:List W}{f:Fm}(hw:ws≠[])(h:gk ws=some f):Py f:=by
 unfold gk at h;split at h
 ·cases h
 rename_i hc;split at h
 ·unfold IC at h;cases hx:xT (ws.getD 1 []) with
  |none=>rw[hx] at h;cases h
  |some n=>
   rw[hx] at h;cases hy:IB (ws.getD 2 []) with
   |none=>rw[hy] at h;cases h
   |some a=>
    rw[hy] at h;cases hz:IB (ws.getD 3 []) with
    |none=>rw[hz] at h;cases h
    |some b=>rw[hz] at h;cases h;exact trivial
 rename_i nb;split at h
 ·cases hx:xT (ws.getD 1 []) with
  |none=>rw[hx] at h;cases h
  |some n=>rw[hx] at h;cases h;exact(Du hx).2
 rename_i na;split at h
 ·cases hx:xT (ws.getD 1 []) with
  |none=>rw[hx] at h;cases h
  |some n=>
   rw[hx] at h;cases hy:expr (ws.getD 2 []) with
   |none=>rw[hy] at h;cases h
   |some e=>rw[hy] at h;cases h;exact⟨(Du hx).2,wM hy⟩
 rename_i np;split at h
 ·cases hy:expr (ws.getD 1 []) with
  |none=>rw[hy] at h;cases h
  |some e=>rw[hy] at h;cases h;exact wM hy
 rename_i ns;split at h
 ·rename_i hk;unfold Dt at h;split at h
  ·cases hx:expr (ws.getD 1 []) with
   |none=>rw[hx] at h;cases h
   |some l=>
    rw[hx] at h;cases hy:expr (ws.getD 3 []) with
    |none=>rw[hy] at h;cases h
    |some r=>rw[hy] at h;cases h;exact⟨hk,wM hx,wM hy⟩
  ·cases h
 rename_i nk;cases h;have hp:zI (ws.headD [])≠0:=fun z=>hc (by rw[z];intro q;exact hw (zaU.mp q.symm));show ws.headD []=cg\/ws.headD []=dU\/ws.headD []=dW;generalize ws.headD []=k at *;unfold zI at hp;rw[if_neg nb,if_neg na,if_neg np,if_neg ns,if_neg (fun z=>nk (.inl z)),if_neg (fun z=>nk (.inr (.inl z)))] at hp;by_cases h1:k=cg
 ·exact .inl h1
 rw[if_neg h1,if_neg (fun z=>nk (.inr (.inr z)))] at hp;by_cases h2:k=dU
 ·exact .inr (.inl h2)
 rw[if_neg h2] at hp;by_cases h3:k=dW
 ·exact .inr (.inr h3)
 rw[if_neg h3] at hp;exact absurd rfl hp
inductive Er where
 |rm |qR |qS |wN |qT |twice |xU |full |G7
 deriving DecidableEq
structure Df where
 j1:List W
 Dv:Bool
 fV:List Bool
def wb:Fm->List W
 |.ask n=>[n]
 |.put n e=>n::jP e
 |.say e=>jP e
 |.cond _ _ l r=>jP l++jP r
 |_=>[]
def By (d:Df) (n:W) (a b:Int):Except Er Df:=
 if d.Dv then .error .qR else if ¬(2<=a/\a<=10/\b<a) then .error .qT else if n∈d.j1 then .error .twice else if d.j1.length=4 then .error .full else .ok {d with j1:=d.j1++[n]}
def o7 (d:Df):Except Er Df:=if d.fV.getLast?=some true then .ok {d with fV:=d.fV.dropLast++[false]} else .error .qR
def xV (d:Df):Except Er Df:=if d.fV=[] then .error .qR else .ok {d with fV:=d.fV.dropLast}
def opens:Fm->Option Bool
 |.cond k _ _ _=>if k=cZ then some true else if k=aM then some false else none
 |_=>none
def mZ (d:Df) (f:Fm):Except Er Df:=
 if (opens f).isSome/\d.fV.length=5 then .error .wN else if ∀n∈wb f,n∈d.j1 then .ok {d with Dv:=true,fV:=d.fV++(opens f).toList} else .error .G7
def kC (d:Df):Fm->Except Er Df
 |.box n a b=>By d n a b
 |.one k=>if k=cg then o7 d else if k=dU then xV d else mZ d (.one k)
 |f=>mZ d f
def eK:Df->List W->Except Er Df
 |d,[]=>.ok d
 |d,r::rs=>match gk (L2.ba 32 r) with
  |none=>.error .rm
  |some f=>match kC d f with
   |.error e=>.error e
   |.ok d'=>eK d' rs
def nX (rows:List W):Option Er:=if 80<rows.length then some .qS else match eK ⟨[],false,[]⟩ rows with
 |.error e=>some e
 |.ok d=>if d.fV=[] then none else some .xU
end PM
namespace L2
open PySem PySem.Spec PyProof.Rows
def Dw:PM.Fm->Dp
 |.box n a b=>.tup [.str "box",.str (S n),.int a,.int b]
 |.ask n=>.tup [.str "ask",.str (S n)]
 |.put n e=>.tup [.str "put",.str (S n),pE e]
 |.say e=>.tup [.str "say",pE e]
 |.cond k sg l r=>.tup [.str (S k),.str (S sg),pE l,pE r]
 |.one k=>.tup [.str (S k)]
section
variable(K:zac)(CN:zc9)
def OB:Sp:=fun vs H Q E=>∃w:W,vs=[sv w]/\w.length<=4000000/\match PM.xT w with
 |none=>∀H',ar H H'->E (.ref CN) none H'
 |some _=>∀H',ar H H'->Q (sv w) H'
def Rw:Sp:=fun vs H Q E=>∃w:W,vs=[sv w]/\w.length<=4000000/\match PM.IB w with
 |none=>∀H',ar H H'->E (.ref CN) none H'
 |some n=>∀H',ar H H'->Q (.int n) H'
inductive Bz(f:List W->Option PM.Fm)(vs:List V)(H:Hp)(Q:VK)(E:XK):Prop
 |mk (a:zc9) (ws:List W):vs=[.ref a]->H a=some (.lst (ws.map sv))->(∀w∈ws,w.length<=4000000)->ws.length=4->(f ws=none->∀H',ar H H'->E (.ref CN) none H')->(∀fm,f ws=some fm->∀v H',ar H H'->Rep K H' (Dw fm) v->Q v H')->Bz f vs H Q E
inductive Ma(vs:List V)(H:Hp)(Q:VK)(E:XK):Prop
 |mk (row:W):vs=[sv row]->row.length<=3000000->(PM.gk (ba 32 row)=none->∀H',ar H H'->E (.ref CN) none H')->(∀fm,PM.gk (ba 32 row)=some fm->∀v H',ar H H'->Rep K H' (Dw fm) v->Q v H')->Ma vs H Q E
inductive nY(n:Nat)(vs:List V)(H:Hp)(Q:VK)(E:XK):Prop
 |mk (v:V) (e:PM.Tr):vs=[v]->Rep K H (pE e) v->PM.JI e->PG.xC e<n->(PM.jP e).length<=100->(∀l H',ar H H'->H l=none->H' l=some (.lst ((PM.jP e).map sv))->Q (.ref l) H')->nY n vs H Q E
end
theorem oG(c:Nat):∀w:W,∀x∈ba c w,x.length<=w.length
 |[],x,h=>by
  cases zal.mp h;exact zai _
 |y::r,x,h=>by
  have ih:=oG c r;unfold ba at h;rw[zah];split at h
  ·rcases zaj.mp h with rfl |h
   ·exact za6 _
   ·have:=ih x h;lia
  ·split at h
   ·cases zal.mp h;exact Nat.succ_le_succ (za6 _)
   ·rename_i a b e;rcases zaj.mp h with rfl |h
    ·have:=ih a (by rw[e];exact zaE);rw[zah];lia
    ·have:=ih x (by rw[e];exact zas _ h);lia
def G8:List (W×Nat)->W->Nat
 |[],_=>0
 |p::l,k=>if k=p.1 then p.2 else G8 l k
theorem Dx(k:W):∀l:List (W×Nat),((eB (κ:=Key) (l.map fun p=>((.inr (S p.1):Key),V.int p.2)) (.inr (S k))).getD (.int 0))=V.int (G8 l k)
 |[]=>rfl
 |p::l=>by
  have ih:=Dx k l;unfold eB at ih ⊢;rw[zaw,zby];unfold G8;by_cases h:k=p.1
  ·rw[if_pos h];have:decide ((Sum.inr (S p.1):Key)=Sum.inr (S k))=true:=decide_eq_true (by rw[h]);simp only[this];rfl
  ·rw[if_neg h];have:decide ((Sum.inr (S p.1):Key)=Sum.inr (S k))=false:=decide_eq_false fun z=>h (C1.mp (Sum.inr.inj z)).symm;simp only[this];exact ih
theorem bz{k:W}{x:Str}{u:W}(e:x=S u):(sv k=V.str x)↔k=u:=by
 rw[e];exact iV
def WH:List (W×Nat):=[(PM.cQ,4),(PM.uP,2),(PM.uQ,3),(PM.qW,2),(PM.e9,4),(PM.cZ,4),(PM.cg,1),(PM.aM,4),(PM.dU,1),(PM.dW,1)]
theorem Mb(k:W):G8 WH k=PM.zI k:=rfl
theorem jQ:zaa "box"=S PM.cQ:=by decide +kernel
theorem Mc:zaa "ask"=S PM.uP:=by decide +kernel
theorem Md:zaa "put"=S PM.uQ:=by decide +kernel
theorem Me:zaa "say"=S PM.qW:=by decide +kernel
theorem Pz:zaa "must"=S PM.e9:=by decide +kernel
theorem zJ:zaa "if"=S PM.cZ:=by decide +kernel
theorem lh:zaa "else"=S PM.cg:=by decide +kernel
theorem dI:zaa "while"=S PM.aM:=by decide +kernel
theorem wc:zaa "end"=S PM.dU:=by decide +kernel
theorem G9:zaa "stop"=S PM.dW:=by decide +kernel
def BA {α:Type} (F:α->V->Prop) (l:List α) (us:List V):Prop:=us.length=l.length/\∀(i:Nat) x u,l[i]?=some x->us[i]?=some u->F x u
section
variable{α:Type}{F G:α->V->Prop}{l:List α}{us:List V}
theorem BA.nil:BA F [] []:=⟨rfl,fun i x u h=>by cases h⟩
theorem BA.imp(h:BA F l us)(f:∀x u,F x u->G x u):BA G l us:=⟨h.1,fun i x u h1 h2=>f x u (h.2 i x u h1 h2)⟩
theorem BA.snoc{x:α}{u:V}(h:BA F l us)(f:F x u):BA F (l++[x]) (us++[u]):=by
 refine⟨by rw[zaf,zaf,h.1];rfl,fun i y v h1 h2=>?_⟩;by_cases hi:i<l.length
 ·rw[zbp hi] at h1;rw[zbp (by rw[h.1];exact hi)] at h2;exact h.2 i y v h1 h2
 ·have h3:i<(l++[x]).length:=(zap.mp h1).1;rw[zaf,zau] at h3;have e:i=l.length:=by lia
  subst e;rw[za5 (zai _),zb4] at h1;rw[za5 (by rw[h.1];exact zai _),h.1,zb4] at h2;cases h1;cases h2;exact f
theorem BA.drop(h:BA F l us):BA F l.dropLast us.dropLast:=by
 refine⟨by rw[zaW,zaW,h.1],fun i x u h1 h2=>?_⟩;have k1:i<l.dropLast.length:=(zap.mp h1).1;have k2:i<us.dropLast.length:=(zap.mp h2).1;rw[zaW] at k1 k2;rw[zcK,if_pos k1] at h1;rw[zcK,if_pos k2] at h2;exact h.2 i x u h1 h2
theorem BA.last{x:α}(h:BA F l us)(hx:l.getLast?=some x):∃u,us.getLast?=some u/\F x u:=by
 rw[za1] at hx;have k:l.length-1<l.length:=(zap.mp hx).1;have k2:us.length-1<us.length:=by rw[h.1];exact k
 refine⟨us[us.length-1],by rw[za1];exact zag k2,?_⟩;exact h.2 (l.length-1) x _ hx (by rw[<- h.1];exact zag k2)
end
def Sf (O:zc9->Prop) (bx ns L:zc9):Prop:=O L/\L≠bx/\L≠ns
def Fu (K:zac) (H:Hp) (O:zc9->Prop) (bx ns:zc9) (k:Bool) (u:V):Prop:=∃a L x,u=.ref a/\eS K H a [.ref L,x]/\Sf O bx ns L/\if k=true then ∃L2,x=.ref L2/\Sf O bx ns L2 else x=.dB
def Mf (K:zac) (H:Hp) (n:W) (u:V):Prop:=∃a r,u=.ref a/\eS K H a (sv n::r)
structure uv(K:zac)(CD:zc9)(O:zc9->Prop)(H:Hp)(p bx bd ns:zc9)(d:PM.Df)(m:Nat):Prop where
 own:∀b,O b->∃zs,H b=some (.lst zs)/\zs.length<=m
 EL:O bx
 Nw:O bd
 AZ:O ns
 d1:bx≠bd
 d2:bx≠ns
 d3:bd≠ns
 ins:∃dx,H p=some (.ins CD dx [("boxes",.ref bx),("body",.ref bd),("nest",.ref ns)])
 box:∃us,H bx=some (.lst us)/\BA (Mf K H) d.j1 us
 Ny:∃ys,H bd=some (.lst ys)/\(ys=[]↔d.Dv=false)
 EM:∃us,H ns=some (.lst us)/\BA (Fu K H O bx ns) d.fV us
 nb:d.fV≠[]->d.Dv=true
section
variable{K:zac}{CD:zc9}{O:zc9->Prop}{H H':Hp}{p bx bd ns:zc9}{d:PM.Df}{m:Nat}
theorem Fu.imp{O':zc9->Prop}{k:Bool}{u:V}(h:Fu K H O bx ns k u)(t:∀a xs,eS K H a xs->eS K H' a xs)(i:∀b,O b->O' b):Fu K H' O' bx ns k u:=by
 obtain⟨a,L,x,e,h1,h2,h3⟩:=h;refine⟨a,L,x,e,t _ _ h1,⟨i _ h2.1,h2.2⟩,?_⟩;cases k with
 |false=>exact h3
 |true=>
  obtain⟨L2,e2,h4⟩:=h3;exact⟨L2,e2,i _ h4.1,h4.2⟩
theorem Mf.imp{n:W}{u:V}(h:Mf K H n u)(t:∀a xs,eS K H a xs->eS K H' a xs):Mf K H' n u:=by
 obtain⟨a,r,e,h1⟩:=h;exact⟨a,r,e,t _ _ h1⟩
theorem uv.mono(h:uv K CD O H p bx bd ns d m)(s:ar H H'):uv K CD O H' p bx bd ns d m where
 own:=fun b hb=>by obtain⟨zs,e,l⟩:=h.own b hb;exact⟨zs,s _ _ e,l⟩
 EL:=h.EL
 Nw:=h.Nw
 AZ:=h.AZ
 d1:=h.d1
 d2:=h.d2
 d3:=h.d3
 ins:=by obtain⟨dx,e⟩:=h.ins;exact⟨dx,s _ _ e⟩
 box:=by obtain⟨us,e,i⟩:=h.box;exact⟨us,s _ _ e,i.imp fun _ _ z=>z.imp fun _ _=>s.kU⟩
 Ny:=by obtain⟨us,e,i⟩:=h.Ny;exact⟨us,s _ _ e,i⟩
 EM:=by obtain⟨us,e,i⟩:=h.EM;exact⟨us,s _ _ e,i.imp fun _ _ z=>z.imp (fun _ _=>s.kU) fun _ z=>z⟩
 nb:=h.nb
theorem uv.more{k:Nat}(h:uv K CD O H p bx bd ns d m)(l:m<=k):uv K CD O H p bx bd ns d k:=
 {h with own:=fun b hb=>by obtain⟨zs,e,z⟩:=h.own b hb;exact⟨zs,e,zaB z l⟩}
theorem uv.j3(h:uv K CD O H p bx bd ns d m){L:zc9}(hL:O L){zs:List V}{a:zc9}{xs:List V}(q:eS K H a xs):eS K (upd H L (.lst zs)) a xs:=by
 obtain⟨ys,e,_⟩:=h.own L hL;exact q.nP e ((bN.refl _ _).put _)
theorem uv.T8(h:uv K CD O H p bx bd ns d m){L:zc9}(hL:O L):p≠L:=fun z=>by
 obtain⟨zs,e,_⟩:=h.own L hL;obtain⟨dx,e2⟩:=h.ins;rw[z,e] at e2;cases e2
theorem uv.BB(h:uv K CD O H p bx bd ns d m){L:zc9}(hL:Sf O bx ns L)(hd:d.fV=[]->L=bd){zs:List V}{x:V}(e:H L=some (.lst zs)):uv K CD O (upd H L (.lst (zs++[x]))) p bx bd ns {d with Dv:=true} (m+1) where
 own:=fun b hb=>by
  by_cases z:b=L
  ·subst z;obtain⟨ys,e2,l⟩:=h.own b hb;rw[e] at e2;cases e2;exact⟨_,ae,by rw[zaf,zau];lia⟩
  ·obtain⟨ys,e2,l⟩:=h.own b hb;exact⟨ys,by rw[aq z];exact e2,by lia⟩
 EL:=h.EL
 Nw:=h.Nw
 AZ:=h.AZ
 d1:=h.d1
 d2:=h.d2
 d3:=h.d3
 ins:=by obtain⟨dx,e2⟩:=h.ins;exact⟨dx,by rw[aq (h.T8 hL.1)];exact e2⟩
 box:=by obtain⟨us,e2,i⟩:=h.box;exact⟨us,by rw[aq (Ne.symm hL.2.1)];exact e2,i.imp fun _ _ z=>z.imp fun _ _=>h.j3 hL.1⟩
 Ny:=by
  obtain⟨us,e2,i⟩:=h.Ny;by_cases z:bd=L
  ·subst z;exact⟨_,ae,by simp⟩
  ·refine⟨us,by rw[aq z];exact e2,?_⟩;have:d.Dv=true:=h.nb fun q=>z (hd q).symm;rw[this] at i;exact i
 EM:=by obtain⟨us,e2,i⟩:=h.EM;exact⟨us,by rw[aq (Ne.symm hL.2.2)];exact e2,i.imp fun _ _ z=>z.imp (fun _ _=>h.j3 hL.1) fun _ z=>z⟩
 nb:=fun _=>rfl
theorem uv.boxed(h:uv K CD O H p bx bd ns d m){us:List V}{n:W}{x:V}(e:H bx=some (.lst us))(hx:Mf K H n x):uv K CD O (upd H bx (.lst (us++[x]))) p bx bd ns {d with j1:=d.j1++[n]} (m+1) where
 own:=fun b hb=>by
  by_cases z:b=bx
  ·subst z;obtain⟨ys,e2,l⟩:=h.own b hb;rw[e] at e2;cases e2;exact⟨_,ae,by rw[zaf,zau];lia⟩
  ·obtain⟨ys,e2,l⟩:=h.own b hb;exact⟨ys,by rw[aq z];exact e2,by lia⟩
 EL:=h.EL
 Nw:=h.Nw
 AZ:=h.AZ
 d1:=h.d1
 d2:=h.d2
 d3:=h.d3
 ins:=by obtain⟨dx,e2⟩:=h.ins;exact⟨dx,by rw[aq (h.T8 h.EL)];exact e2⟩
 box:=by
  obtain⟨vs,e2,i⟩:=h.box;rw[e] at e2;cases e2;exact⟨_,ae,(i.snoc hx).imp fun _ _ z=>z.imp fun _ _=>h.j3 h.EL⟩
 Ny:=by obtain⟨us,e2,i⟩:=h.Ny;exact⟨us,by rw[aq (Ne.symm h.d1)];exact e2,i⟩
 EM:=by obtain⟨us,e2,i⟩:=h.EM;exact⟨us,by rw[aq (Ne.symm h.d2)];exact e2,i.imp fun _ _ z=>z.imp (fun _ _=>h.j3 h.EL) fun _ z=>z⟩
 nb:=h.nb
theorem uv.j6{O':zc9->Prop}(h:uv K CD O H p bx bd ns d m)(io:∀b,O b->O' b)(no:∀b,O' b->O b\/H b=some (.lst [])){us:List V}{ks:List Bool}(l:us.length<=m+1)(i:BA (Fu K H O' bx ns) ks us)(nb:ks≠[]->d.Dv=true):uv K CD O' (upd H ns (.lst us)) p bx bd ns {d with fV:=ks} (m+1) where
 own:=fun b hb=>by
  by_cases z:b=ns
  ·subst z;exact⟨_,ae,l⟩
  ·rcases no b hb with q |q
   ·obtain⟨ys,e2,l⟩:=h.own b q;exact⟨ys,by rw[aq z];exact e2,by lia⟩
   ·exact⟨[],by rw[aq z];exact q,za6 _⟩
 EL:=io _ h.EL
 Nw:=io _ h.Nw
 AZ:=io _ h.AZ
 d1:=h.d1
 d2:=h.d2
 d3:=h.d3
 ins:=by obtain⟨dx,e2⟩:=h.ins;exact⟨dx,by rw[aq (h.T8 h.AZ)];exact e2⟩
 box:=by obtain⟨us,e2,i⟩:=h.box;exact⟨us,by rw[aq h.d2];exact e2,i.imp fun _ _ z=>z.imp fun _ _=>h.j3 h.AZ⟩
 Ny:=by obtain⟨us,e2,i⟩:=h.Ny;exact⟨us,by rw[aq h.d3];exact e2,i⟩
 EM:=⟨us,ae,i.imp fun _ _ z=>z.imp (fun _ _=>h.j3 h.AZ) fun _ z=>z⟩
 nb:=nb
end
def Rx (K:zac) (CD:zc9) (ce:PM.Er->zc9) (O:zc9->Prop) (H:Hp) (p bx bd ns:zc9) (m:Nat) (Q:VK) (E:XK):Except PM.Er PM.Df->Prop
 |.error e=>∀H',bG O H H'->E (.ref (ce e)) none H'
 |.ok d'=>∀O' H',(∀b,O' b->O b\/H b=none)->bG O H H'->uv K CD O' H' p bx bd ns d' (m+2)->Q .dB H'
section
variable(K:zac)(CD:zc9)(ce:PM.Er->zc9)
inductive Hd(vs:List V)(H:Hp)(Q:VK)(E:XK):Prop
 |mk (O:zc9->Prop) (p bx bd ns:zc9) (d:PM.Df) (m:Nat):vs=[.ref p]->uv K CD O H p bx bd ns d m->(∀L,Sf O bx ns L->(d.fV=[]->L=bd)->Q (.ref L) H)->Hd vs H Q E
inductive Dy(vs:List V)(H:Hp)(Q:VK)(E:XK):Prop
 |mk (O:zc9->Prop) (p bx bd ns:zc9) (d:PM.Df) (m:Nat):vs=[.ref p]->uv K CD O H p bx bd ns d m->(d.fV.getLast?=some true->∀L,Sf O bx ns L->Q (.ref L) H)->(d.fV.getLast?≠some true->Q .dB H)->Dy vs H Q E
inductive xW(vs:List V)(H:Hp)(Q:VK)(E:XK):Prop
 |mk (O:zc9->Prop) (p bx bd ns:zc9) (d:PM.Df) (m:Nat):vs=[.ref p]->uv K CD O H p bx bd ns d m->m<=1000->(∀l H',ar H H'->H l=none->H' l=some (.lst (d.j1.map sv))->Q (.ref l) H')->xW vs H Q E
inductive Dz(vs:List V)(H:Hp)(Q:VK)(E:XK):Prop
 |mk (p dx:zc9):vs=[.ref p]->H p=some (.ins CD dx [])->H dx=some (.own p)->(∀(O:zc9->Prop) bx bd ns H',(∀b,O b->H b=none)->bN p H H'->uv K CD O H' p bx bd ns ⟨[],false,[]⟩ 0->Q .dB H')->Dz vs H Q E
inductive He(vs:List V)(H:Hp)(Q:VK)(E:XK):Prop
 |mk (O:zc9->Prop) (p bx bd ns:zc9) (d:PM.Df) (m:Nat) (k:Int) (v:V) (n:W) (a b:Int):vs=[.ref p,.int k,v]->uv K CD O H p bx bd ns d m->m<=1000->(0<=k/\k<=1000)->Rep K H (.tup [.str (S n),.int a,.int b]) v->Rx K CD ce O H p bx bd ns m Q E (PM.By d n a b)->He vs H Q E
inductive xX(f:PM.Df->Except PM.Er PM.Df)(vs:List V)(H:Hp)(Q:VK)(E:XK):Prop
 |mk (O:zc9->Prop) (p bx bd ns:zc9) (d:PM.Df) (m:Nat) (k:Int):vs=[.ref p,.int k]->uv K CD O H p bx bd ns d m->m<=1000->(0<=k/\k<=1000)->Rx K CD ce O H p bx bd ns m Q E (f d)->xX f vs H Q E
inductive Hg(ok:PM.Fm->Prop)(f:PM.Df->PM.Fm->Except PM.Er PM.Df)(vs:List V)(H:Hp)(Q:VK)(E:XK):Prop
 |mk (O:zc9->Prop) (p bx bd ns:zc9) (d:PM.Df) (m:Nat) (k:Int) (v:V) (fm:PM.Fm):vs=[.ref p,.int k,v]->uv K CD O H p bx bd ns d m->m<=1000->(0<=k/\k<=1000)->Rep K H (Dw fm) v->ok fm->Rx K CD ce O H p bx bd ns m Q E (f d fm)->Hg ok f vs H Q E
end
theorem wO{k:Int}(h:0<=k/\k<=1000):(zaa (toString k)).length<=10:=by
 have e:=V.str.inj (Bu k h.1);rw[e,eE];exact(PM.K9 k.toNat (by lia)).2
theorem se{C:zc9}{E:XK}{D:Ends}{x0:Option V}{r:St}{H:Hp}{a b:Str}{k:Int}(hk:0<=k/\k<=1000)(ha:a.length<=1000)(hb:b.length<=1000)(q:E (.ref C) none H) :
 Fc C E (Gk (Wz [tC (.str a),Pw (e8 1),tC (.str b)]) HP) D (x0::some (.int k)::r) H:=by
 have line:zdh=2 ^ 24:=rfl;have ld:=wO hk;have l0:Str.empty.length=0:=rfl;refine⟨a,rfl,by rw[strLen_append,l0];lia,.inl ⟨k,rfl,by lia,zaa (toString k),rfl,by rw[strLen_append,strLen_append,l0];lia,b,rfl,by rw[strLen_append,strLen_append,strLen_append,l0];lia,(show 1<=zdh by decide),q⟩⟩
theorem Ry{C:zc9}{E:XK}{D:Ends}{σ:St}{i:Nat}{H:Hp}{a b c n:Str}{k:Int}(hk:0<=k/\k<=1000)(ha:a.length<=1000)(hb:b.length<=1000)(hc:c.length<=1000)(hn:n.length<=1000)
 (h1:∀H Q,Q (.int k) H->e8 1 σ H Q) (h2:∀H Q,Q (.str n) H->e8 i σ H Q) (q:E (.ref C) none H) :
 Fc C E (Gk (Wz [tC (.str a),Pw (e8 1),tC (.str b),Pw (e8 i),tC (.str c)]) HP) D σ H:=by
 have line:zdh=2 ^ 24:=rfl;have ld:=wO hk;have l0:Str.empty.length=0:=rfl;refine⟨a,rfl,by rw[strLen_append,l0];lia,?_⟩;rw[T3,Pw];refine h1 _ _ ?_;refine .inl ⟨k,rfl,by lia,zaa (toString k),rfl,by rw[strLen_append,strLen_append,l0];lia,b,rfl,by rw[strLen_append,strLen_append,strLen_append,l0];lia,?_⟩;rw[T3,Pw];refine h2 _ _ ?_;exact .inr ⟨n,rfl,by lia,n,rfl,by rw[strLen_append,strLen_append,strLen_append,strLen_append,l0];lia,c,rfl,by rw[strLen_append,strLen_append,strLen_append,strLen_append,strLen_append,l0];lia,(show 1<=zdh by decide),q⟩
section
variable(K:zac)
inductive DA(vs:List V)(H:Hp)(Q:VK)(E:XK):Prop
 |mk (v:V) (f:PM.Fm):vs=[v]->Rep K H (Dw f) v->PM.Px f->(∀l H',ar H H'->H l=none->H' l=some (.lst ((PM.wb f).map sv))->Q (.ref l) H')->DA vs H Q E
def T9 (k:W):Nat:=if k=PM.cZ then 2 else if k=PM.aM then 1 else 0
inductive Mg(vs:List V)(H:Hp)(Q:VK)(E:XK):Prop
 |mk (k:W):vs=[sv k]->(∀(bs:List zc9) l H',ar H H'->H l=none->H' l=some (.lst (bs.map V.ref))->bs.length=T9 k->(∀b∈bs,H b=none/\H' b=some (.lst []))->Q (.ref l) H')->Mg vs H Q E
end
def xY:PM.Fm->W
 |.box _ _ _=>PM.cQ
 |.ask _=>PM.uP
 |.put _ _=>PM.uQ
 |.say _=>PM.qW
 |.cond k _ _ _=>k
 |.one k=>k
theorem A0{K:zac}{H:Hp}{f:PM.Fm}{v:V}(h:Rep K H (Dw f) v):∃a ys,v=.ref a/\eS K H a (sv (xY f)::ys)/\ys.length<=3:=by
 cases f with
 |box n i j=>
  unfold Dw at h;simp only[Rep.cq,bf.bP,bf.cj,Rep.bh] at h;obtain⟨a,xs,rfl,hS,_,_,rfl,rfl,_,_,rfl,_,_,_,rfl,_,_,_,rfl,_,rfl⟩:=h;rw[jQ] at hS;exact⟨a,_,rfl,hS,by simp⟩
 |ask n=>
  unfold Dw at h;simp only[Rep.cq,bf.bP,bf.cj,Rep.bh] at h;obtain⟨a,xs,rfl,hS,_,_,rfl,rfl,_,_,rfl,_,rfl⟩:=h;rw[Mc] at hS;exact⟨a,_,rfl,hS,by simp⟩
 |put n e=>
  unfold Dw at h;simp only[Rep.cq,bf.bP,bf.cj,Rep.bh] at h;obtain⟨a,xs,rfl,hS,_,_,rfl,rfl,_,_,rfl,_,_,_,rfl,_,rfl⟩:=h;rw[Md] at hS;exact⟨a,_,rfl,hS,by simp⟩
 |say e=>
  unfold Dw at h;simp only[Rep.cq,bf.bP,bf.cj,Rep.bh] at h;obtain⟨a,xs,rfl,hS,_,_,rfl,rfl,_,_,rfl,_,rfl⟩:=h;rw[Me] at hS;exact⟨a,_,rfl,hS,by simp⟩
 |cond k sg x y=>
  unfold Dw at h;simp only[Rep.cq,bf.bP,bf.cj,Rep.bh] at h;obtain⟨a,xs,rfl,hS,_,_,rfl,rfl,_,_,rfl,_,_,_,rfl,_,_,_,rfl,_,rfl⟩:=h;exact⟨a,_,rfl,hS,by simp⟩
 |one k=>
  unfold Dw at h;simp only[Rep.cq,bf.bP,bf.cj,Rep.bh] at h;obtain⟨a,xs,rfl,hS,_,_,rfl,rfl,rfl⟩:=h;exact⟨a,_,rfl,hS,by simp⟩
theorem Mh{f:PM.Fm}(h:PM.Px f):PM.opens f=if xY f=PM.cZ then some true else if xY f=PM.aM then some false else none:=by
 cases f with
 |box n i j=>exact h.elim
 |cond k sg x y=>rfl
 |one k=>
  cases (show k=PM.dW from h);decide
 |ask n=>show none=if PM.uP=PM.cZ then some true else if PM.uP=PM.aM then some false else none;decide
 |put n e=>show none=if PM.uQ=PM.cZ then some true else if PM.uQ=PM.aM then some false else none;decide
 |say e=>show none=if PM.qW=PM.cZ then some true else if PM.qW=PM.aM then some false else none;decide
theorem Fv{f:PM.Fm}(h:PM.Px f):∀n∈PM.wb f,PM.isName n=true:=by
 intro n hn;cases f with
 |box n i j=>exact h.elim
 |one k=>cases hn
 |ask x=>cases zal.mp hn;exact h
 |put x e=>
  rcases zaj.mp hn with rfl |hn
  ·exact h.1
  ·exact h.2.1.names n hn
 |say e=>exact h.1.names n hn
 |cond k sg x y=>
  rcases zay.mp hn with z |z
  ·exact h.2.1.1.names n z
  ·exact h.2.2.1.names n z
theorem xZ{f:PM.Fm}(h:PM.Px f):(PM.wb f).length<=200:=by
 cases f with
 |box n i j=>exact h.elim
 |one k=>show 0<=_;lia
 |ask x=>show 1<=_;lia
 |put x e=>have:=h.2.2.2;show (PM.jP e).length+1<=_;lia
 |say e=>have:=h.2.2;show (PM.jP e).length<=_;lia
 |cond k sg x y=>have a:=h.2.1.2.2;have b:=h.2.2.2.2;show (PM.jP x++PM.jP y).length<=_;rw[zaf];lia
theorem Mi{n:W}(h:PM.isName n=true):n.length<=8:=by
 unfold PM.isName at h;simp only[zaJ,decide_eq_true_eq] at h;exact h.1.1.2
theorem DB{K:zac}{H:Hp}{a b:zc9}{xs ys:List V}{Q:VK}(h1:eS K H a xs)(h2:eS K H b ys)(ne:xs≠[])(hl:xs.length+ys.length<=zdh)(q:∀c H',ar H H'->eS K H' c (xs++ys)->Q (.ref c) H'):O6 K (.ref a) (.ref b) H Q:=by
 refine⟨a,b,xs,ys,rfl,rfl,h1,h2,ne,hl,fun e=>?_,fun _ p hp=>q p _ (ar.new hp _) (.of ae)⟩;refine q a H (ar.refl _) ?_;rw[e,zaR];exact h1
theorem DC{K:zac}{H:Hp}{a:zc9}{x:V}{xs:List V}{Q:VK}(h:eS K H a (x::xs))(q:∀c H',ar H H'->eS K H' c xs->Q (.ref c) H'):SV K (.ref a) (some 1) none H Q:=by
 refine⟨a,_,rfl,h,fun z=>?_,fun p hp=>q p _ (ar.new hp _) (.of ?_)⟩
 ·have e:=z.1;unfold HT.iS at e;simp at e
 ·rw[ae,show (1:Int)=((1:Nat):Int) from rfl,LV];rfl
inductive Ud(ce:PM.Er->zc9)(vs:List V)(H:Hp)(Q:VK)(E:XK):Prop
 |mk (text:W):vs=[sv text]->text.length<=3000000->(∀e,PM.nX (ba 10 text)=some e->∀H',ar H H'->E (.ref (ce e)) none H')->(PM.nX (ba 10 text)=none->∀v H',ar H H'->Q v H')->Ud ce vs H Q E
end L2
namespace PM
def bS:Er->Nat
 |.rm=>0
 |.qR=>1
 |.qS=>2
 |.wN=>3
 |.qT=>4
 |.twice=>5
 |.xU=>6
 |.full=>7
 |.G7=>8
def aT:W:=[112,108,97,105,110]
def aD:Fm->W
 |.box _ _ _=>cQ
 |.cond k _ _ _=>if k=e9 then aT else k
 |.one k=>if k=dW then aT else k
 |_=>aT
def wQ:Fm->List W
 |.box n _ _=>[n]
 |f=>wb f
def OC:Fm->Bool
 |.box _ a b=>decide (2<=a/\a<=10/\b<a)
 |_=>true
theorem uR:∀(a b:List W) (d:Df),eK d (a++b)=(eK d a).bind fun d'=>eK d' b
 |[],b,d=>rfl
 |r::a,b,d=>by
  rw[zaZ,eK,eK];cases hf:gk (L2.ba 32 r) with
  |none=>rfl
  |some f=>
   cases ht:kC d f with
   |error e=>simp only[ht];rfl
   |ok d'=>simp only[ht];exact uR a b d'
theorem DE{a b:List W}{d d':Df}(h:eK d a=.ok d'):eK d (a++b)=eK d' b:=by rw[uR,h];rfl
theorem ID{a b:List W}{d:Df}{e:Er}(h:eK d a=.error e):eK d (a++b)=.error e:=by rw[uR,h];rfl
theorem A9{r:W}{f:Fm}{d:Df}(h:gk (L2.ba 32 r)=some f):eK d [r]=kC d f:=by
 rw[eK,h];cases ht:kC d f<;>simp only[ht]<;>rfl
theorem IE:gk (L2.ba 32 dW)=some (.one dW):=by decide +kernel
end PM
namespace L2
open PySem PySem.Spec PyProof.Rows
def uT (z:Str) (kd:W) (ns:List W):Bool:=match PM.gk (ba 32 z.cps.toList) with
 |some f=>decide (PM.aD f=kd)&&decide (PM.wQ f=ns)&&PM.OC f&&decide (z.cps.toList.length<=60)&&decide (10 ∉ z.cps.toList)
 |none=>false
theorem Mj{z:Str}{kd:W}{ns:List W}(h:uT z kd ns=true):∃f,PM.gk (ba 32 z.cps.toList)=some f/\PM.aD f=kd/\PM.wQ f=ns/\PM.OC f=true/\z.cps.toList.length<=60/\10 ∉ z.cps.toList:=by
 unfold uT at h;cases hf:PM.gk (ba 32 z.cps.toList) with
 |none=>rw[hf] at h;cases h
 |some f=>
  rw[hf] at h;simp only[zaJ,decide_eq_true_eq] at h;exact⟨f,rfl,h.1.1.1.1,h.1.1.1.2,h.1.1.2,h.1.2,h.2⟩
def uU (e:Option PM.Er):List V:=match e with
 |none=>[]
 |some e=>(zaV 14).map fun i=>.bl (decide (i=PM.bS e))
section
variable(K:zac)
inductive Ml(vs:List V)(H:Hp)(Q:VK)(E:XK):Prop
 |mk (a:zc9) (rows:List W):vs=[.ref a]->g8 K H a (rows.map sv)->rows≠[]->(∀r∈rows,10 ∉ r)->rows.flatten.length+rows.length<=2900000->(∀l H',ar H H'->H' l=some (.lst (uU (PM.nX rows)))->Q (.ref l) H')->Ml vs H Q E
def Mn (_:zac) (H:Hp) (a:zc9) (w:W) (f:PM.Fm):Prop:=∃n,H a=some (.lst [sv w,sv (PM.aD f),.ref n,.bl (PM.OC f)])/\H n=some (.lst ((PM.wQ f).map sv))
def OD (w:W) (f:PM.Fm):Prop:=PM.gk (ba 32 w)=some f/\w.length<=60/\10 ∉ w
def Ue:Sp:=fun vs H Q _=>∃c:Int,vs=[.int c]/\∀l w f H',ar H H'->OD w f->Mn K H' l w f->Q (.ref l) H'
end
theorem Mo{X:Cx}{K:zac}(hK:X.K=K):R5 X "str.join" (fun x vs H Q=>∃(a:zc9) (L:List W) (c:Nat),x=sv [c]/\vs=[.ref a]/\g8 K H a (L.map sv)/\L.flatten.length+L.length<=4000000/\Q (sv (dJ c L)) H):=by
 subst hK;exact LY
theorem Rz{X:Cx}{K:zac}{o e:Expr}{es:List Expr}{to:TE}{t:TA}{name:Str}{apos iP:Pos}{T id:String}{r:V->List V->Hp->VK->Prop}(hK:X.K=K)(pa:PlainAttrs T)(slot:Slot T name id)(SX:typeOf (.builtin id)=pure (.type "method_descriptor"))(hm:R5 X id r)(ho:PE X o to)(ha:PA X (e::es) t)
 (CI:attributeBase o name X.env (eval o X.env)=eval o X.env:=by rfl)
 (QO:((backTo iP (zdf (e::es) X.env)).all (fun x=>!x.1)&&(backToKw iP (keywordEach [] X.env)).all (fun x=>x.1.isSome)&&decide ((e::es).length+([]:List Keyword).length+(if ([]:List Keyword).isEmpty then 0 else 1)<30))=true:=by rfl)
 (CJ:(apos.endLine==iP.line)=true:=by rfl) (hs:zdf (e::es) X.env=(false,eval e X.env)::zdf es X.env:=by rfl) (xq:(backTo iP (zdf es X.env)).any (·.1)=false:=by rfl) :
 PE X (.Call (.Attribute o name apos) (e::es) [] iP) (UO K T r to t):=by
 subst hK;exact kT pa slot SX hm ho ha CI QO CJ hs xq
structure OE(H:Hp)(st o n b:zc9)(op:List W)(d:PM.Df)(c:Nat):Prop where
 at_:H st=some (.lst [.ref o,.ref n,.ref b])
 yo:H o=some (.lst (op.map sv))
 yn:H n=some (.lst (d.j1.map sv))
 yb:∃bs:List W,H b=some (.lst (bs.map sv))/\(bs=[]↔d.Dv=false)/\bs.length<=c
 ek:d.fV=op.map fun w=>decide (w=PM.cZ)
 on:o≠n
 ob:o≠b
 nb:n≠b
 so:st≠o
 sn:st≠n
 sb:st≠b
 l5:op.length<=5
 ow:∀w∈op,w=PM.cZ\/w=PM.aM\/w=PM.cg
 l4:d.j1.length<=4
theorem OE.mono{H H':Hp}{st o n b:zc9}{op:List W}{d:PM.Df}{c:Nat}(h:OE H st o n b op d c)(s:ar H H'):OE H' st o n b op d c:=
 {h with at_:=s _ _ h.at_,yo:=s _ _ h.yo,yn:=s _ _ h.yn,yb:=by obtain⟨bs,y,z⟩:=h.yb;exact⟨bs,s _ _ y,z⟩}
def uV (d:PM.Df) (f:PM.Fm):Int:=match PM.kC d f with
 |.error e=>PM.bS e
 |.ok _=>0
section
variable(K:zac)
inductive Mp(vs:List V)(H:Hp)(Q:VK)(E:XK):Prop
 |mk (st o n b r:zc9) (op:List W) (d:PM.Df) (c:Nat) (w:W) (f:PM.Fm):vs=[.ref st,.ref r]->OE H st o n b op d c->Mn K H r w f->PM.Py f->(∀H',ar H H'->Q (.int (uV d f)) H')->Mp vs H Q E
end
theorem Mq{f:PM.Fm}(pI:PM.Py f){d:PM.Df}(l5:d.fV.length<=5):uV d f =
 if (PM.aD f=PM.cQ/\d.Dv=true)\/(PM.aD f=PM.cg/\d.fV.getLast?≠some true) then 1
 else if PM.aD f=PM.dU/\d.fV=[] then 1
 else if (PM.aD f=PM.cZ\/PM.aD f=PM.aM)/\4<d.fV.length then 3
 else if PM.aD f=PM.cQ/\PM.OC f=false then 4
 else if PM.aD f=PM.cQ then (if (PM.wQ f).headD []∈d.j1 then 5 else if d.j1.length=4 then 7 else 0)
 else if ∀n∈PM.wQ f,n∈d.j1 then 0 else 8:=by
 have BB:∀g:PM.Fm,PM.kC d g=PM.mZ d g->PM.wQ g=PM.wb g->(PM.opens g).isSome=decide (PM.aD g=PM.cZ\/PM.aD g=PM.aM)->PM.aD g≠PM.cQ->PM.aD g≠PM.cg->PM.aD g≠PM.dU->uV d g =
  if (PM.aD g=PM.cQ/\d.Dv=true)\/(PM.aD g=PM.cg/\d.fV.getLast?≠some true) then 1
  else if PM.aD g=PM.dU/\d.fV=[] then 1
  else if (PM.aD g=PM.cZ\/PM.aD g=PM.aM)/\4<d.fV.length then 3
  else if PM.aD g=PM.cQ/\PM.OC g=false then 4
  else if PM.aD g=PM.cQ then (if (PM.wQ g).headD []∈d.j1 then 5 else if d.j1.length=4 then 7 else 0)
  else if ∀n∈PM.wQ g,n∈d.j1 then 0 else 8:=by
  intro g h1 h2 h3 nb ne nn;have ZH:(4<d.fV.length)↔d.fV.length=5:=by lia
  have Ug:((PM.opens g).isSome=true)↔(PM.aD g=PM.cZ\/PM.aD g=PM.aM):=by rw[h3,decide_eq_true_eq]
  simp only[ZH,h2];unfold uV;rw[h1];unfold PM.mZ;by_cases hk:PM.aD g=PM.cZ\/PM.aD g=PM.aM
  ·by_cases h5:d.fV.length=5
   ·simp[Ug,hk,h5,nb,ne,nn,PM.bS]
   ·by_cases ha:∀n∈PM.wb g,n∈d.j1
    ·simp only[Ug,hk,h5,nb,ne,nn,and_false,false_and,or_self,if_false,if_pos ha]
    ·simp only[Ug,hk,h5,nb,ne,nn,and_false,false_and,or_self,if_false,if_neg ha];rfl
  ·by_cases ha:∀n∈PM.wb g,n∈d.j1
   ·simp only[Ug,hk,nb,ne,nn,and_false,false_and,or_self,if_false,if_pos ha]
   ·simp only[Ug,hk,nb,ne,nn,and_false,false_and,or_self,if_false,if_neg ha];rfl
 have pl:∀u,u=PM.cQ\/u=PM.cg\/u=PM.dU\/u=PM.cZ\/u=PM.aM->PM.aT≠u:=fun u h=>by rcases h with rfl |rfl |rfl |rfl |rfl<;>decide
 cases f with
 |ask n=>exact BB _ rfl rfl (by show false=decide (PM.aT=PM.cZ\/PM.aT=PM.aM);decide) (pl _ (by simp)) (pl _ (by simp)) (pl _ (by simp))
 |put n e=>exact BB _ rfl rfl (by show false=decide (PM.aT=PM.cZ\/PM.aT=PM.aM);decide) (pl _ (by simp)) (pl _ (by simp)) (pl _ (by simp))
 |say e=>exact BB _ rfl rfl (by show false=decide (PM.aT=PM.cZ\/PM.aT=PM.aM);decide) (pl _ (by simp)) (pl _ (by simp)) (pl _ (by simp))
 |cond k sg x y=>
  have hk:k=PM.e9\/k=PM.cZ\/k=PM.aM:=pI.1;have ek:PM.aD (.cond k sg x y)=if k=PM.e9 then PM.aT else k:=rfl
  have eo:PM.opens (.cond k sg x y)=if k=PM.cZ then some true else if k=PM.aM then some false else none:=rfl
  refine BB _ rfl rfl ?_ ?_ ?_ ?_
  all_goals (first |rw[ek] |skip)
  all_goals (try rw[eo])
  all_goals (rcases hk with h |h |h<;>subst h<;>decide)
 |one k=>
  have hk:k=PM.cg\/k=PM.dU\/k=PM.dW:=pI;have et:PM.kC d (.one k)=if k=PM.cg then PM.o7 d else if k=PM.dU then PM.xV d else PM.mZ d (.one k):=rfl
  rcases hk with h |h |h
  ·subst h;unfold uV;rw[et,if_pos rfl];unfold PM.o7;have ek:PM.aD (.one PM.cg)=PM.cg:=by decide
   have el:PM.wQ (.one PM.cg)=[]:=rfl;have n1:¬PM.cg=PM.cQ:=by decide
   have n2:¬PM.cg=PM.dU:=by decide
   have n3:¬PM.cg=PM.cZ:=by decide
   have n4:¬PM.cg=PM.aM:=by decide
   by_cases hl:d.fV.getLast?=some true
   ·simp[ek,el,n1,n2,n3,n4,hl]
   ·simp[ek,el,n1,n2,n3,n4,hl,PM.bS]
  ·subst h;unfold uV;rw[et,if_neg (by decide),if_pos rfl];unfold PM.xV;have ek:PM.aD (.one PM.dU)=PM.dU:=by decide
   have el:PM.wQ (.one PM.dU)=[]:=rfl;have n1:¬PM.dU=PM.cQ:=by decide
   have n2:¬PM.dU=PM.cg:=by decide
   have n3:¬PM.dU=PM.cZ:=by decide
   have n4:¬PM.dU=PM.aM:=by decide
   by_cases hl:d.fV=[]
   ·simp[ek,el,n1,n2,n3,n4,hl,PM.bS]
   ·simp[ek,el,n1,n2,n3,n4,hl]
  ·subst h;exact BB _ (by rw[et,if_neg (by decide),if_neg (by decide)]) rfl (by decide) (by decide) (by decide) (by decide)
 |box n a b=>
  unfold uV;rw[show PM.kC d (.box n a b)=PM.By d n a b from rfl];unfold PM.By;have ek:PM.aD (.box n a b)=PM.cQ:=rfl;have eo:PM.OC (.box n a b)=decide (2<=a/\a<=10/\b<a):=rfl;have el:(PM.wQ (.box n a b)).headD []=n:=rfl;have n2:¬PM.cQ=PM.dU:=by decide
  have n3:¬PM.cQ=PM.cZ:=by decide
  have n4:¬PM.cQ=PM.aM:=by decide
  have n5:¬PM.cQ=PM.cg:=by decide
  rw[ek,eo,el];cases hb:d.Dv with
  |true=>simp[PM.bS]
  |false=>
   by_cases hm:2<=a/\a<=10/\b<a
   ·by_cases h1:n∈d.j1
    ·simp[n2,n3,n4,n5,hm,h1,PM.bS]
    ·by_cases h4:d.j1.length=4
     ·simp[n2,n3,n4,n5,hm,h1,h4,PM.bS]
     ·simp[n2,n3,n4,n5,hm,h1,h4]
   ·rw[decide_eq_false hm];simp only[n2,n3,n4,n5,hm,zbc,if_false,not_false_eq_true,if_true,and_false,false_and,or_self,and_self];rfl
section
variable(K:zac)
inductive PB(vs:List V)(H:Hp)(Q:VK)(E:XK):Prop
 |mk (st o n b r:zc9) (op:List W) (d d':PM.Df) (c:Nat) (w:W) (f:PM.Fm):vs=[.ref st,.ref r]->OE H st o n b op d c->c<=1000->Mn K H r w f->PM.Py f->PM.kC d f=.ok d'->(∀Qz H',(∀x u,x≠o->x≠n->x≠b->H x=some u->H' x=some u)->OE H' st o n b Qz d' (c+1)->Q .dB H')->PB vs H Q E
end
def Mr (z:Str):Bool:=(PM.gk (ba 32 z.cps.toList)).isNone&&decide (z.cps.toList.length<=5100)&&decide (10 ∉ z.cps.toList)
def strOf:V->Str
 |.str z=>z
 |_=>zaa ""
def zK (w:W):Prop:=PM.gk (ba 32 w)=none/\w.length<=5100/\10 ∉ w
theorem BC{z:Str}(h:Mr z=true):zK z.cps.toList:=by
 unfold Mr at h;simp only[zaJ,decide_eq_true_eq,Option.isNone_iff_eq_none] at h;exact⟨h.1.1,h.1.2,h.2⟩
theorem df{H:Hp}{s:zc9}{L:List Str}{vs:List V}{R:V->Hp->Prop}{n:Nat}(k:Nat)(hs:H s=some (.lst (L.map V.str)))(hL:∀z∈L,zK z.cps.toList)(l:L.length=n)(e:vs=(vs.map strOf).map V.str)(hM:∀v∈vs,zK (strOf v).cps.toList)(lM:n+vs.length=k)(lk:k<=1000)
 (q:∀(p:zc9) (H':Hp) (L':List Str),ar H H'->H' p=some (.lst (L'.map V.str))->(∀z∈L',zK z.cps.toList)->L'.length=k->R (.ref p) H'):∀p,H p=none->QP (.ref s) (.ref p) (upd H p (.lst vs)) R:=fun p fp=>by
 have s1:=ar.new fp (.lst vs);have line:zdh=2 ^ 24:=rfl;refine⟨s,p,L.map V.str,vs,rfl,rfl,s1 _ _ hs,ae,by rw[zae];lia,fun p2 f2=>?_⟩;refine q p2 _ (L++vs.map strOf) (s1.trans (ar.new f2 _)) (by rw[ae,zat,<- e]) (fun z hz=>?_) (by rw[zaf,zae,l,lM]);rcases zay.mp hz with h |h
 ·exact hL z h
 ·obtain⟨v,hv,rfl⟩:=zaK.mp h;exact hM v hv
theorem eG{vs:List V}(h:vs.all (fun v=>Mr (strOf v))=true):∀v∈vs,zK (strOf v).cps.toList:=fun v hv=>BC (za0.mp h v hv)
theorem Ms{z:W}(h:32 ∉ z)(l:60<z.length):PM.gk (ba 32 ([115,97,121,32]++z))=none:=by
 have e:([115,97,121,32]++z:W)=dJ 32 [PM.qW,z]:=by unfold dJ;simp[PM.qW]
 rw[e,rZ (by simp) (fun w hw=>by
  simp only[zaj,za4,or_false] at hw;rcases hw with rfl |rfl
  ·decide
  ·exact h)]
 have e2:PM.gk [PM.qW,z]=(PM.expr z).map .say:=rfl;rw[e2];unfold PM.expr;rw[if_pos l];rfl
theorem Ba:∀(L:List W) (k:Nat),(∀r∈L,r.length<=k)->L.flatten.length<=k*L.length
 |[],_,_=>za6 _
 |r::L,k,h=>by
  have ih:=Ba L k fun x hx=>h x (zas _ hx);have:=h r zaE;rw[zaN,zaf,zah,Nat.mul_succ];lia
theorem BD{K:zac}{H:Hp}:∀bs:List Bool,bf K H (bs.map Dp.bl) (bs.map V.bl)
 |[]=>.nil
 |b::r=>.cons (Rep.uG.mpr rfl) (BD r)
theorem Hh{α β:Type}(f:α->β)(L:List α):∀k:Nat,(zan k (L.map f)).flatten=((zan k L).flatten).map f
 |0=>rfl
 |k+1=>by rw[zaQ,zaQ,zaN,zaN,zat,Hh f L k]
def tL:W:=[98,97,100]
inductive RowW(K:zac)(H:Hp)(v:V)(w:W):Prop
 |bad (l n:zc9):v=.ref l->H l=some (.lst [sv w,sv tL,.ref n,.bl true])->zK w->RowW K H v w
 |good (l:zc9) (f:PM.Fm):v=.ref l->Mn K H l w f->OD w f->RowW K H v w
theorem DF{K:zac}{H:Hp}{l n:zc9}{z:Str}{kd:W}{ns:List W}(c:uT z kd ns=true)(yl:H l=some (.lst [.str z,sv kd,.ref n,.bl true]))(yn:H n=some (.lst (ns.map sv))):RowW K H (.ref l) z.cps.toList:=by
 obtain⟨f,e1,e2,e3,e4,e5,e6⟩:=Mj c;refine .good l f rfl ⟨n,?_,by rw[yn,e3]⟩ ⟨e1,e5,e6⟩;rw[yl,e2,e4];rfl
theorem Hi{α:Type}(x:α):∀k:Nat,(zan k [x]).flatten=zan k x
 |0=>rfl
 |k+1=>by rw[zaQ,zaN,Hi x k];rfl
theorem RowW.mono{K:zac}{H H':Hp}{v:V}{w:W}(h:RowW K H v w)(s:ar H H'):RowW K H' v w:=by
 cases h with
 |bad l n e y b=>exact .bad l n e (s _ _ y) b
 |good l f e y b=>obtain⟨n,y1,y2⟩:=y;exact .good l f e ⟨n,s _ _ y1,s _ _ y2⟩ b
theorem RowW.text{K:zac}{H:Hp}{v:V}{w:W}(h:RowW K H v w):∃l x y z,v=.ref l/\H l=some (.lst [sv w,x,y,z])/\w.length<=5100/\10 ∉ w:=by
 cases h with
 |bad l n e y b=>exact⟨l,_,_,_,e,y,b.2.1,b.2.2⟩
 |good l f e y b=>obtain⟨n,y1,y2⟩:=y;exact⟨l,_,_,_,e,y1,by have:=b.2.1;lia,b.2.2⟩
def Mu:Option PM.Er->Int
 |none=>-1
 |some e=>PM.bS e
section
variable(K:zac)
inductive PC(vs:List V)(H:Hp)(Q:VK)(E:XK):Prop
 |mk (c:Int):vs=[.int c]->(∀w H',ar H H'->zK w->Q (sv w) H')->PC vs H Q E
inductive PD(vs:List V)(H:Hp)(Q:VK)(E:XK):Prop
 |mk (a:zc9) (ps:List (V×W)):vs=[.ref a]->g8 K H a (ps.map (·.1))->(∀p∈ps,RowW K H p.1 p.2)->ps.length<=400->(∀H',ar H H'->Q (.int (Mu (PM.nX (ps.map (·.2))))) H')->PD vs H Q E
end
theorem IF{f:PM.Fm}(h:PM.Py f):PM.aD f≠tL:=by
 cases f with
 |box n a b=>show PM.cQ≠tL;decide
 |ask n=>show PM.aT≠tL;decide
 |put n e=>show PM.aT≠tL;decide
 |say e=>show PM.aT≠tL;decide
 |cond k sg x y=>
  have hk:k=PM.e9\/k=PM.cZ\/k=PM.aM:=h.1;show (if k=PM.e9 then PM.aT else k)≠tL;rcases hk with h |h |h<;>subst h<;>decide
 |one k=>
  have hk:k=PM.cg\/k=PM.dU\/k=PM.dW:=h;show (if k=PM.dW then PM.aT else k)≠tL;rcases hk with h |h |h<;>subst h<;>decide
end L2
section
set_option maxHeartbeats 4000000
namespace RA
open PySem L2
def top (i:Nat):Stmt:=PySem.Challenge.pw_everyrow_k09_faults_together.main.body.getD i (.Pass ⟨0,0,0,0⟩)
abbrev BE:Stmt:=top 23
abbrev uW:Stmt:=top 24
abbrev qc:Stmt:=top 25
abbrev oH:Stmt:=top 26
abbrev sf:Stmt:=top 27
abbrev qd:Stmt:=top 29
abbrev uX:Stmt:=top 30
abbrev si:Stmt:=top 31
abbrev lx:Stmt:=top 32
abbrev m8:Stmt:=top 33
abbrev lA:Stmt:=top 34
abbrev Fw:Stmt:=top 42
abbrev uY:Stmt:=top 44
abbrev sj:Stmt:=top 45
abbrev iY:Stmt:=top 46
abbrev qf:Stmt:=top 47
abbrev nc:Stmt:=top 48
abbrev sk:Stmt:=top 49
abbrev sq:Stmt:=top 50
abbrev ng:Stmt:=top 51
abbrev qg:Stmt:=top 52
abbrev sr:Stmt:=top 53
abbrev iZ:Stmt:=top 54
abbrev j7:Stmt:=top 55
abbrev oI:Stmt:=top 56
abbrev lB:Stmt:=top 58
abbrev qh:Stmt:=top 59
abbrev lC:Stmt:=top 60
abbrev bp:Stmt:=top 61
abbrev lD:Stmt:=top 62
abbrev lE:Stmt:=top 63
abbrev su:Stmt:=top 64
abbrev uZ:Stmt:=top 65
abbrev nh:Stmt:=top 66
abbrev Mv:Stmt:=top 67
abbrev cL:Stmt:=inClass (top 28) 0
abbrev cA:Stmt:=inClass (top 28) 1
abbrev cM:Stmt:=inClass (top 28) 2
abbrev cX:Stmt:=inClass (top 43) 0
abbrev bV:Stmt:=inClass (top 43) 1
abbrev bH:Stmt:=inClass (top 43) 2
abbrev bW:Stmt:=inClass (top 43) 3
theorem DG:a8 ["word", "signs"] ["word", "signs"] (aB BE):=⟨rfl,rfl,rfl,by decide +kernel,rfl,by decide +kernel,by decide +kernel⟩
theorem x5:a8 ["word"] ["word"] (aB uW):=⟨rfl,rfl,rfl,by decide +kernel,rfl,by decide +kernel,by decide +kernel⟩
theorem tM:a8 ["word"] ["word"] (aB qc):=⟨rfl,rfl,rfl,by decide +kernel,rfl,by decide +kernel,by decide +kernel⟩
theorem rq:a8 ["word", "pieces", "e"] ["word"] (aB oH):=⟨rfl,rfl,rfl,by decide +kernel,rfl,by decide +kernel,by decide +kernel⟩
theorem vM:a8 ["e"] ["e"] (aB sf):=⟨rfl,rfl,rfl,by decide +kernel,rfl,by decide +kernel,by decide +kernel⟩
theorem tN:a8 ["word", "pieces", "before", "sign", "kind"] ["word"] (aB qd):=⟨rfl,rfl,rfl,by decide +kernel,rfl,by decide +kernel,by decide +kernel⟩
theorem x6:a8 ["sign"] ["sign"] (aB uX):=⟨rfl,rfl,rfl,by decide +kernel,rfl,by decide +kernel,by decide +kernel⟩
theorem vN:a8 ["pieces", "depth", "e", "sign"] ["pieces", "depth"] (aB si):=⟨rfl,rfl,rfl,by decide +kernel,rfl,by decide +kernel,by decide +kernel⟩
theorem o8:a8 ["pieces", "depth", "e", "sign"] ["pieces", "depth"] (aB lx):=⟨rfl,rfl,rfl,by decide +kernel,rfl,by decide +kernel,by decide +kernel⟩
theorem qi:a8 ["pieces", "depth", "piece"] ["pieces", "depth"] (aB m8):=⟨rfl,rfl,rfl,by decide +kernel,rfl,by decide +kernel,by decide +kernel⟩
theorem gu:a8 ["pieces", "depth", "e"] ["pieces", "depth"] (aB lA):=⟨rfl,rfl,rfl,by decide +kernel,rfl,by decide +kernel,by decide +kernel⟩
theorem Hj:a8 ["text", "rows", "draft", "number", "row"] ["text"] (aB Fw):=⟨rfl,rfl,rfl,by decide +kernel,rfl,by decide +kernel,by decide +kernel⟩
theorem x8:a8 ["row", "words", "word"] ["row"] (aB uY):=⟨rfl,rfl,rfl,by decide +kernel,rfl,by decide +kernel,by decide +kernel⟩
theorem vO:a8 ["words"] ["words"] (aB sj):=⟨rfl,rfl,rfl,by decide +kernel,rfl,by decide +kernel,by decide +kernel⟩
theorem mG:a8 ["words"] ["words"] (aB iY):=⟨rfl,rfl,rfl,by decide +kernel,rfl,by decide +kernel,by decide +kernel⟩
theorem tO:a8 ["word"] ["word"] (aB qf):=⟨rfl,rfl,rfl,by decide +kernel,rfl,by decide +kernel,by decide +kernel⟩
theorem qj:a8 ["word"] ["word"] (aB nc):=⟨rfl,rfl,rfl,by decide +kernel,rfl,by decide +kernel,by decide +kernel⟩
theorem vP:a8 ["draft", "number", "form", "word"] ["draft", "number", "form"] (aB sk):=⟨rfl,rfl,rfl,by decide +kernel,rfl,by decide +kernel,by decide +kernel⟩
theorem vQ:a8 ["draft", "number", "box"] ["draft", "number", "box"] (aB sq):=⟨rfl,rfl,rfl,by decide +kernel,rfl,by decide +kernel,by decide +kernel⟩
theorem qk:a8 ["size", "first"] ["size", "first"] (aB ng):=⟨rfl,rfl,rfl,by decide +kernel,rfl,by decide +kernel,by decide +kernel⟩
theorem tP:a8 ["draft", "number", "second"] ["draft", "number"] (aB qg):=⟨rfl,rfl,rfl,by decide +kernel,rfl,by decide +kernel,by decide +kernel⟩
theorem vR:a8 ["draft", "number"] ["draft", "number"] (aB sr):=⟨rfl,rfl,rfl,by decide +kernel,rfl,by decide +kernel,by decide +kernel⟩
theorem mH:a8 ["draft", "number", "form", "word", "names", "name", "bodies"] ["draft", "number", "form"] (aB iZ):=⟨rfl,rfl,rfl,by decide +kernel,rfl,by decide +kernel,by decide +kernel⟩
theorem nZ:a8 ["form", "word"] ["form"] (aB j7):=⟨rfl,rfl,rfl,by decide +kernel,rfl,by decide +kernel,by decide +kernel⟩
theorem rA:a8 ["word"] ["word"] (aB oI):=⟨rfl,rfl,rfl,by decide +kernel,rfl,by decide +kernel,by decide +kernel⟩
theorem o9:a8 ["script", "k"] ["script", "k"] (aB lB):=⟨rfl,rfl,rfl,by decide +kernel,rfl,by decide +kernel,by decide +kernel⟩
theorem tQ:a8 ["cell", "k", "number"] ["cell", "k"] (aB qh):=⟨rfl,rfl,rfl,by decide +kernel,rfl,by decide +kernel,by decide +kernel⟩
theorem pd:a8 ["rows", "told", "e"] ["rows"] (aB lC):=⟨rfl,rfl,rfl,by decide +kernel,rfl,by decide +kernel,by decide +kernel⟩
theorem vS:a8 ["cell", "some", "barred", "word"] ["cell"] (aB bp):=⟨rfl,rfl,rfl,by decide +kernel,rfl,by decide +kernel,by decide +kernel⟩
theorem pe:a8 ["number", "name", "size", "first"] ["number"] (aB lD):=⟨rfl,rfl,rfl,by decide +kernel,rfl,by decide +kernel,by decide +kernel⟩
theorem pf:a8 ["cell", "number", "far", "kind", "one", "other", "some", "row", "names", "sign"] ["cell"] (aB lE):=⟨rfl,rfl,rfl,by decide +kernel,rfl,by decide +kernel,by decide +kernel⟩
theorem vT:a8 ["state", "row", "opened", "names", "begun"] ["state", "row"] (aB su):=⟨rfl,rfl,rfl,by decide +kernel,rfl,by decide +kernel,by decide +kernel⟩
theorem x9:a8 ["state", "row", "opened", "names", "begun"] ["state", "row"] (aB uZ):=⟨rfl,rfl,rfl,by decide +kernel,rfl,by decide +kernel,by decide +kernel⟩
theorem ql:a8 ["rows", "state", "row", "code"] ["rows"] (aB nh):=⟨rfl,rfl,rfl,by decide +kernel,rfl,by decide +kernel,by decide +kernel⟩
theorem Mw:a8 ["script", "head", "rows", "cell", "many", "due", "found"] ["script"] (aB Mv):=⟨rfl,rfl,rfl,by decide +kernel,rfl,by decide +kernel,by decide +kernel⟩
theorem qm:a8 ["self", "word"] ["self", "word"] (aB cL):=⟨rfl,rfl,rfl,by decide +kernel,rfl,by decide +kernel,by decide +kernel⟩
theorem ph:a8 ["self"] ["self"] (aB cA):=⟨rfl,rfl,rfl,by decide +kernel,rfl,by decide +kernel,by decide +kernel⟩
theorem qp:a8 ["self", "piece"] ["self"] (aB cM):=⟨rfl,rfl,rfl,by decide +kernel,rfl,by decide +kernel,by decide +kernel⟩
theorem rB:a8 ["self"] ["self"] (aB cX):=⟨rfl,rfl,rfl,by decide +kernel,rfl,by decide +kernel,by decide +kernel⟩
theorem lF:a8 ["self"] ["self"] (aB bV):=⟨rfl,rfl,rfl,by decide +kernel,rfl,by decide +kernel,by decide +kernel⟩
theorem jR:a8 ["self"] ["self"] (aB bH):=⟨rfl,rfl,rfl,by decide +kernel,rfl,by decide +kernel,by decide +kernel⟩
theorem lG:a8 ["self"] ["self"] (aB bW):=⟨rfl,rfl,rfl,by decide +kernel,rfl,by decide +kernel,by decide +kernel⟩
@[irreducible] def zL:List Expr:=Lm ((bb bp).getD 0 (.Pass ⟨0,0,0,0⟩))
@[irreducible] def yc:List Expr:=Lm ((bb bp).getD 14 (.Pass ⟨0,0,0,0⟩))
theorem DH:bb bp=[C5 zL ((bb bp).getD 0 (.Pass ⟨0,0,0,0⟩)),(bb bp).getD 1 (.Pass ⟨0,0,0,0⟩),(bb bp).getD 2 (.Pass ⟨0,0,0,0⟩),(bb bp).getD 3 (.Pass ⟨0,0,0,0⟩),(bb bp).getD 4 (.Pass ⟨0,0,0,0⟩),(bb bp).getD 5 (.Pass ⟨0,0,0,0⟩),(bb bp).getD 6 (.Pass ⟨0,0,0,0⟩),(bb bp).getD 7 (.Pass ⟨0,0,0,0⟩),(bb bp).getD 8 (.Pass ⟨0,0,0,0⟩),(bb bp).getD 9 (.Pass ⟨0,0,0,0⟩),(bb bp).getD 10 (.Pass ⟨0,0,0,0⟩),(bb bp).getD 11 (.Pass ⟨0,0,0,0⟩),(bb bp).getD 12 (.Pass ⟨0,0,0,0⟩),(bb bp).getD 13 (.Pass ⟨0,0,0,0⟩),C5 yc ((bb bp).getD 14 (.Pass ⟨0,0,0,0⟩)),(bb bp).getD 15 (.Pass ⟨0,0,0,0⟩),(bb bp).getD 16 (.Pass ⟨0,0,0,0⟩),(bb bp).getD 17 (.Pass ⟨0,0,0,0⟩),(bb bp).getD 18 (.Pass ⟨0,0,0,0⟩)]:=by kernel_rfl
set_option genInjectivity false in
structure Ad where
 oJ:zc9
 n8:zdi
 i0:zc9
 i3:zdi
 fc:zc9
 fQ:zdi
 ik:zc9
 jG:zdi
 gA:zc9
 hV:zdi
 hX:zc9
 il:zdi
 kP:zc9
 lH:zdi
 ff:zc9
 fh:zdi
 dX:zc9
 eL:zdi
 eO:zc9
 fj:zdi
 dg:zc9
 dv:zdi
 ye:zc9
 wR:zdi
 n9:zc9
 oK:zdi
 lI:zc9
 mI:zdi
 dY:zc9
 eV:zdi
 jS:zc9
 kI:zdi
 gm:zc9
 ip:zdi
 lJ:zc9
 mJ:zdi
 lK:zc9
 mK:zdi
 gn:zc9
 iq:zdi
 jT:zc9
 kJ:zdi
 lL:zc9
 mL:zdi
 dZ:zc9
 eW:zdi
 eM:zc9
 fS:zdi
 iu:zc9
 jH:zdi
 fk:zc9
 gv:zdi
 jU:zc9
 kK:zdi
 fq:zc9
 gw:zdi
 lN:zc9
 mM:zdi
 fw:zc9
 gx:zdi
 fz:zc9
 gy:zdi
 lO:zc9
 mO:zdi
 oa:zc9
 oM:zdi
 gp:zc9
 iw:zdi
 Hk:zc9
 u5:zdi
 cz:zc9
 iy:zdi
 bK:zc9
 cU:zdi
 bL:zc9
 cR:zdi
 cY:zc9
 ni:zdi
 bX:zc9
 gB:zdi
 bI:zc9
 fA:zdi
 bY:zc9
 gC:zdi
 aQ:zc9
 bj:zc9
 aN:zc9
 aw:zc9
 az:zc9
 ax:zc9
 ay:zc9
 ak:zc9
 aK:zc9
 aX:zc9
 aL:zc9
 aY:zc9
 bE:zc9
 bZ:zc9
 bF:zc9
 bq:zc9
 fB:zc9
 c5:zc9
set_option genInjectivity false in
structure Tx(K:zac)(mg:Str->Option zda)(t:Ad):Prop where
 kL:cH K mg "is_of" BE ["word", "signs"] t.oJ t.n8
 fT:cH K mg "is_name" uW ["word"] t.i0 t.i3
 dH:cH K mg "is_number" qc ["word"] t.fc t.fQ
 bR:cH K mg "expression" oH ["word"] t.ik t.jG
 bC:cH K mg "names_in" sf ["e"] t.gA t.hV
 hZ:cH K mg "pieces_of" qd ["word"] t.hX t.il
 kQ:cH K mg "kind_of" uX ["sign"] t.kP t.lH
 cV:cH K mg "sum_from" si ["pieces", "depth"] t.ff t.fh
 cB:cH K mg "product_from" lx ["pieces", "depth"] t.dX t.eL
 cN:cH K mg "factor_from" m8 ["pieces", "depth"] t.eO t.fj
 dh:cH K mg "bracket_from" lA ["pieces", "depth"] t.dg t.dv
 u6:cH K mg "read" Fw ["text"] t.ye t.wR
 kR:cH K mg "form_of" uY ["row"] t.n9 t.oK
 i4:cH K mg "box_form" sj ["words"] t.lI t.mI
 c7:cH K mg "condition_form" iY ["words"] t.dY t.eV
 cD:cH K mg "name_from" qf ["word"] t.jS t.kI
 cO:cH K mg "number_from" nc ["word"] t.gm t.ip
 i5:cH K mg "take_row" sk ["draft", "number", "form"] t.lJ t.mJ
 ja:cH K mg "take_box" sq ["draft", "number", "box"] t.lK t.mK
 eP:cH K mg "is_measured" ng ["size", "first"] t.gn t.iq
 ib:cH K mg "take_else" qg ["draft", "number"] t.jT t.kJ
 jb:cH K mg "take_end" sr ["draft", "number"] t.lL t.mL
 c8:cH K mg "take_statement" iZ ["draft", "number", "form"] t.dZ t.eW
 dw:cH K mg "names_of_form" j7 ["form"] t.eM t.fS
 fU:cH K mg "bodies_for" oI ["word"] t.iu t.jH
 d0:cH K mg "_law_cell_at" lB ["script", "k"] t.fk t.gv
 aZ:cH K mg "_law_stir" qh ["cell", "k"] t.jU t.kK
 d4:cH K mg "_law_refused" lC ["rows"] t.fq t.gw
 jc:cH K mg "_law_bad" bp ["cell"] t.lN t.mM
 d6:cH K mg "_law_any_box" lD ["number"] t.fw t.gx
 d7:cH K mg "_law_any_row" lE ["cell"] t.fz t.gy
 jd:cH K mg "_law_due" su ["state", "row"] t.lO t.mO
 kS:cH K mg "_law_do" uZ ["state", "row"] t.oa t.oM
 eQ:cH K mg "_law_judged" nh ["rows"] t.gp t.iw
 Hl:cH K mg "law" Mv ["script"] t.Hk t.u5
 jI:Co K "__init__" "Pieces.__init__" cL t.cz t.iy
 zM:Binds K t.iy ["self", "word"] []
 iz:Co K "ahead" "Pieces.ahead" cA t.bK t.cU
 iA:Binds K t.cU ["self"] []
 iB:Meth K t.aQ "ahead" t.bK
 jJ:Co K "take" "Pieces.take" cM t.bL t.cR
 gq:Binds K t.cR ["self"] []
 gr:Meth K t.aQ "take" t.bL
 kM:Co K "__init__" "Draft.__init__" cX t.cY t.ni
 BF:Binds K t.ni ["self"] []
 eX:Co K "innermost" "Draft.innermost" bV t.bX t.gB
 tR:Binds K t.gB ["self"] []
 tS:Meth K t.bj "innermost" t.bX
 dM:Co K "second_body" "Draft.second_body" bH t.bI t.fA
 qX:Binds K t.fA ["self"] []
 qY:Meth K t.bj "second_body" t.bI
 eY:Co K "box_names" "Draft.box_names" bW t.bY t.gC
 mQ:Binds K t.gC ["self"] []
 mS:Meth K t.bj "box_names" t.bY
 cC:Ka K t.aQ
 IG:mg "Pieces"=some (.ref t.aQ)
 u9:Mk K t.aQ t.cz
 d9:j4 K t.aQ "pieces"
 dy:j4 K t.aQ "place"
 bQ:Ka K t.bj
 Mx:mg "Draft"=some (.ref t.bj)
 yf:Mk K t.bj t.cY
 di:j4 K t.bj "boxes"
 eR:j4 K t.bj "body"
 bD:j4 K t.bj "nest"
 DI:mg "RowError"=some (.ref t.aN)
 vb:v8 K t.aw
 yh:zao K (.ref t.aw) (.ref t.aw)=some true
 yi:mg "TooLong"=some (.ref t.aw)
 eZ:v8 K t.az
 DJ:zao K (.ref t.az) (.ref t.az)=some true
 ez:mg "NoRow"=some (.ref t.az)
 og:v8 K t.ax
 yj:zao K (.ref t.ax) (.ref t.ax)=some true
 oN:mg "NoPlace"=some (.ref t.ax)
 vd:v8 K t.ay
 yk:zao K (.ref t.ay) (.ref t.ay)=some true
 yt:mg "TooDeep"=some (.ref t.ay)
 qr:v8 K t.ak
 tT:zao K (.ref t.ak) (.ref t.ak)=some true
 tU:mg "NoMeasure"=some (.ref t.ak)
 BG:v8 K t.aK
 DK:zao K (.ref t.aK) (.ref t.aK)=some true
 DL:mg "Twice"=some (.ref t.aK)
 Fx:v8 K t.aX
 Ho:zao K (.ref t.aX) (.ref t.aX)=some true
 Hq:mg "Full"=some (.ref t.aX)
 BH:v8 K t.aL
 DM:zao K (.ref t.aL) (.ref t.aL)=some true
 DN:mg "NoBox"=some (.ref t.aL)
 Fy:v8 K t.aY
 Hr:zao K (.ref t.aY) (.ref t.aY)=some true
 Hs:mg "Open"=some (.ref t.aY)
 Fz:mg "TooMany"=some (.ref t.bE)
 IH:mg "NoForm"=some (.ref t.bZ)
 FA:mg "NoneYet"=some (.ref t.bF)
 DO:mg "NoTarget"=some (.ref t.bq)
 yu:zao K (.ref t.az) (.ref t.aN)=some true
 My:Bs K t.az
 yv:zab K (.ref t.az) (.type "ValueError")=some true
 mT:zab K (.ref t.az) (.ref t.aN)=some true
 je:zab K (.ref t.az) (.ref t.aw)=some false
 lP:zab K (.ref t.az) (.ref t.az)=some true
 jf:zab K (.ref t.az) (.ref t.ax)=some false
 jg:zab K (.ref t.az) (.ref t.ay)=some false
 gD:zab K (.ref t.az) (.ref t.ak)=some false
 lQ:zab K (.ref t.az) (.ref t.aK)=some false
 nj:zab K (.ref t.az) (.ref t.aX)=some false
 lS:zab K (.ref t.az) (.ref t.aL)=some false
 nr:zab K (.ref t.az) (.ref t.aY)=some false
 jh:zab K (.ref t.az) (.ref t.bE)=some false
 j8:zab K (.ref t.az) (.ref t.bZ)=some false
 ji:zab K (.ref t.az) (.ref t.bF)=some false
 iC:zab K (.ref t.az) (.ref t.bq)=some false
 sA:zao K (.ref t.ax) (.ref t.aN)=some true
 FC:Bs K t.ax
 sC:zab K (.ref t.ax) (.type "ValueError")=some true
 kD:zab K (.ref t.ax) (.ref t.aN)=some true
 gE:zab K (.ref t.ax) (.ref t.aw)=some false
 jj:zab K (.ref t.ax) (.ref t.az)=some false
 gF:zab K (.ref t.ax) (.ref t.ax)=some true
 gG:zab K (.ref t.ax) (.ref t.ay)=some false
 fC:zab K (.ref t.ax) (.ref t.ak)=some false
 jk:zab K (.ref t.ax) (.ref t.aK)=some false
 j9:zab K (.ref t.ax) (.ref t.aX)=some false
 jl:zab K (.ref t.ax) (.ref t.aL)=some false
 ka:zab K (.ref t.ax) (.ref t.aY)=some false
 gH:zab K (.ref t.ax) (.ref t.bE)=some false
 iD:zab K (.ref t.ax) (.ref t.bZ)=some false
 gI:zab K (.ref t.ax) (.ref t.bF)=some false
 fX:zab K (.ref t.ax) (.ref t.bq)=some false
 sD:zao K (.ref t.aw) (.ref t.aN)=some true
 FD:Bs K t.aw
 sE:zab K (.ref t.aw) (.type "ValueError")=some true
 kE:zab K (.ref t.aw) (.ref t.aN)=some true
 gJ:zab K (.ref t.aw) (.ref t.aw)=some true
 jm:zab K (.ref t.aw) (.ref t.az)=some false
 gK:zab K (.ref t.aw) (.ref t.ax)=some false
 gM:zab K (.ref t.aw) (.ref t.ay)=some false
 fD:zab K (.ref t.aw) (.ref t.ak)=some false
 jn:zab K (.ref t.aw) (.ref t.aK)=some false
 kb:zab K (.ref t.aw) (.ref t.aX)=some false
 jo:zab K (.ref t.aw) (.ref t.aL)=some false
 kc:zab K (.ref t.aw) (.ref t.aY)=some false
 gN:zab K (.ref t.aw) (.ref t.bE)=some false
 iE:zab K (.ref t.aw) (.ref t.bZ)=some false
 gO:zab K (.ref t.aw) (.ref t.bF)=some false
 fY:zab K (.ref t.aw) (.ref t.bq)=some false
 sF:zao K (.ref t.ay) (.ref t.aN)=some true
 FE:Bs K t.ay
 sG:zab K (.ref t.ay) (.type "ValueError")=some true
 kF:zab K (.ref t.ay) (.ref t.aN)=some true
 gP:zab K (.ref t.ay) (.ref t.aw)=some false
 jq:zab K (.ref t.ay) (.ref t.az)=some false
 gQ:zab K (.ref t.ay) (.ref t.ax)=some false
 gR:zab K (.ref t.ay) (.ref t.ay)=some true
 fE:zab K (.ref t.ay) (.ref t.ak)=some false
 jr:zab K (.ref t.ay) (.ref t.aK)=some false
 ke:zab K (.ref t.ay) (.ref t.aX)=some false
 js:zab K (.ref t.ay) (.ref t.aL)=some false
 kf:zab K (.ref t.ay) (.ref t.aY)=some false
 gS:zab K (.ref t.ay) (.ref t.bE)=some false
 iF:zab K (.ref t.ay) (.ref t.bZ)=some false
 gT:zab K (.ref t.ay) (.ref t.bF)=some false
 fZ:zab K (.ref t.ay) (.ref t.bq)=some false
 oO:zao K (.ref t.ak) (.ref t.aN)=some true
 BI:Bs K t.ak
 oP:zab K (.ref t.ak) (.type "ValueError")=some true
 iR:zab K (.ref t.ak) (.ref t.aN)=some true
 fF:zab K (.ref t.ak) (.ref t.aw)=some false
 gU:zab K (.ref t.ak) (.ref t.az)=some false
 fG:zab K (.ref t.ak) (.ref t.ax)=some false
 fH:zab K (.ref t.ak) (.ref t.ay)=some false
 eH:zab K (.ref t.ak) (.ref t.ak)=some true
 gV:zab K (.ref t.ak) (.ref t.aK)=some false
 iG:zab K (.ref t.ak) (.ref t.aX)=some false
 gW:zab K (.ref t.ak) (.ref t.aL)=some false
 iH:zab K (.ref t.ak) (.ref t.aY)=some false
 fI:zab K (.ref t.ak) (.ref t.bE)=some false
 f7:zab K (.ref t.ak) (.ref t.bZ)=some false
 fJ:zab K (.ref t.ak) (.ref t.bF)=some false
 eT:zab K (.ref t.ak) (.ref t.bq)=some false
 yw:zao K (.ref t.aK) (.ref t.aN)=some true
 Mz:Bs K t.aK
 yy:zab K (.ref t.aK) (.type "ValueError")=some true
 mU:zab K (.ref t.aK) (.ref t.aN)=some true
 jt:zab K (.ref t.aK) (.ref t.aw)=some false
 lT:zab K (.ref t.aK) (.ref t.az)=some false
 ju:zab K (.ref t.aK) (.ref t.ax)=some false
 jv:zab K (.ref t.aK) (.ref t.ay)=some false
 gX:zab K (.ref t.aK) (.ref t.ak)=some false
 lU:zab K (.ref t.aK) (.ref t.aK)=some true
 nt:zab K (.ref t.aK) (.ref t.aX)=some false
 lV:zab K (.ref t.aK) (.ref t.aL)=some false
 nu:zab K (.ref t.aK) (.ref t.aY)=some false
 jw:zab K (.ref t.aK) (.ref t.bE)=some false
 kg:zab K (.ref t.aK) (.ref t.bZ)=some false
 jx:zab K (.ref t.aK) (.ref t.bF)=some false
 iI:zab K (.ref t.aK) (.ref t.bq)=some false
 BJ:zao K (.ref t.aY) (.ref t.aN)=some true
 OF:Bs K t.aY
 BK:zab K (.ref t.aY) (.type "ValueError")=some true
 oh:zab K (.ref t.aY) (.ref t.aN)=some true
 kh:zab K (.ref t.aY) (.ref t.aw)=some false
 nv:zab K (.ref t.aY) (.ref t.az)=some false
 ki:zab K (.ref t.aY) (.ref t.ax)=some false
 kj:zab K (.ref t.aY) (.ref t.ay)=some false
 iJ:zab K (.ref t.aY) (.ref t.ak)=some false
 nA:zab K (.ref t.aY) (.ref t.aK)=some false
 oQ:zab K (.ref t.aY) (.ref t.aX)=some false
 nB:zab K (.ref t.aY) (.ref t.aL)=some false
 oS:zab K (.ref t.aY) (.ref t.aY)=some true
 kl:zab K (.ref t.aY) (.ref t.bE)=some false
 lW:zab K (.ref t.aY) (.ref t.bZ)=some false
 km:zab K (.ref t.aY) (.ref t.bF)=some false
 jy:zab K (.ref t.aY) (.ref t.bq)=some false
 BL:zao K (.ref t.aX) (.ref t.aN)=some true
 OG:Bs K t.aX
 BM:zab K (.ref t.aX) (.type "ValueError")=some true
 oj:zab K (.ref t.aX) (.ref t.aN)=some true
 kn:zab K (.ref t.aX) (.ref t.aw)=some false
 nC:zab K (.ref t.aX) (.ref t.az)=some false
 kq:zab K (.ref t.aX) (.ref t.ax)=some false
 kr:zab K (.ref t.aX) (.ref t.ay)=some false
 iK:zab K (.ref t.aX) (.ref t.ak)=some false
 nD:zab K (.ref t.aX) (.ref t.aK)=some false
 oT:zab K (.ref t.aX) (.ref t.aX)=some true
 nE:zab K (.ref t.aX) (.ref t.aL)=some false
 oU:zab K (.ref t.aX) (.ref t.aY)=some false
 ku:zab K (.ref t.aX) (.ref t.bE)=some false
 lX:zab K (.ref t.aX) (.ref t.bZ)=some false
 kx:zab K (.ref t.aX) (.ref t.bF)=some false
 jz:zab K (.ref t.aX) (.ref t.bq)=some false
 yA:zao K (.ref t.aL) (.ref t.aN)=some true
 MA:Bs K t.aL
 yB:zab K (.ref t.aL) (.type "ValueError")=some true
 mV:zab K (.ref t.aL) (.ref t.aN)=some true
 jA:zab K (.ref t.aL) (.ref t.aw)=some false
 lY:zab K (.ref t.aL) (.ref t.az)=some false
 jB:zab K (.ref t.aL) (.ref t.ax)=some false
 jC:zab K (.ref t.aL) (.ref t.ay)=some false
 gY:zab K (.ref t.aL) (.ref t.ak)=some false
 lZ:zab K (.ref t.aL) (.ref t.aK)=some false
 nF:zab K (.ref t.aL) (.ref t.aX)=some false
 ma:zab K (.ref t.aL) (.ref t.aL)=some true
 nG:zab K (.ref t.aL) (.ref t.aY)=some false
 jD:zab K (.ref t.aL) (.ref t.bE)=some false
 ky:zab K (.ref t.aL) (.ref t.bZ)=some false
 jE:zab K (.ref t.aL) (.ref t.bF)=some false
 iL:zab K (.ref t.aL) (.ref t.bq)=some false
 yC:∃u,mg "LETTERS"=some u/\RelV (.str "abcdefghijklmnopqrstuvwxyz") u
 yE:∃u,mg "FIGURES"=some u/\RelV (.str "0123456789") u
 DP:mg "NO_NAMES"=some (.ref t.fB)
 oV:∀H:Hp,eS K H t.fB [.str "box",.str "ask",.str "put",.str "say",.str "if",.str "else",.str "while",.str "must",.str "stop",.str "end"]
 we:∃u,mg "MOST_LETTERS"=some u/\RelV (.int 8) u
 wg:∃u,mg "MOST_FIGURES"=some u/\RelV (.int 3) u
 zN:∃u,mg "MOST_SIGNS"=some u/\RelV (.int 60) u
 om:∃u,mg "MOST_BRACKETS"=some u/\RelV (.int 5) u
 BN:∃u,mg "MOST_ROWS"=some u/\RelV (.int 80) u
 zO:∃u,mg "MOST_BOXES"=some u/\RelV (.int 4) u
 BO:∃u,mg "MOST_DEEP"=some u/\RelV (.int 5) u
 zP:∃u,mg "LEAST_SIZE"=some u/\RelV (.int 2) u
 BP:∃u,mg "MOST_SIZE"=some u/\RelV (.int 10) u
 yF:mg "WORD_COUNTS"=some (.ref t.c5)
 me:mg "len"=none
 BQ:mg "range"=none
 vU:mg "int"=none
 Ht:mg "str"=none
 BR:mg "tuple"=none
 MB:mg "all"=none
 MC:mg "max"=none
 bJ:mg "isinstance"=none
 qt:mg "enumerate"=none
 oW:mg "ValueError"=none
structure Cd(P:zdl)(w:zdb)(K:zac)(t:Ad):Prop where
 zQ:Sb P w K t.c5 [(.inr "box",.int 4),(.inr "ask",.int 2),(.inr "put",.int 3),(.inr "say",.int 2),(.inr "must",.int 4),(.inr "if",.int 4),(.inr "else",.int 1),(.inr "while",.int 4),(.inr "end",.int 1),(.inr "stop",.int 1)]
end RA
end
section
set_option maxHeartbeats 4000000
namespace RA
open PySem L2
local macro_rules | `(tactic|walk_at "rd")=>`(tactic|((try dsimp only[EU,Gm,JO,Ql,JP,Xf,Qk,JT,Sz,UO,QN,VM,Kg,Bk,Kb,QB,QC,Bj,Gj,VF,rU,Q2,Gf,JZ,O0,OZ,JS,OY,Qq,JU,Qp,Qs,O9,JR,NI,Gz,Pa,Kw,Kx,Ky,Kz,KA,KC,KD,KG,KI,KJ,GO,GP,GQ,GU,GV,Q9,Ta,Qn,JQ,NK,nJ,Pb,Pc,zcx,GA,GB,KN,GG,GH,CQ,Ly,Lz,LD,LW,Bx,Pw,Ft,GI,Pe,Tc,KZ,KO,KP,Vy,za2,zaZ,zah,za3,KQ,KR,LH,LJ,GD]);(try simp only[EU,Gm,JO,Ql,JP,Xf,Qk,JT,Sz,UO,QN,VM,Kg,Bk,Kb,QB,QC,Bj,Gj,VF,rU,Q2,Gf,JZ,O0,OZ,JS,OY,QV,QW,Qq,JU,Qp,Qs,O9,JR,NI,Gz,Pa,Kw,Kx,Ky,Kz,KA,KC,KD,KG,KI,KJ,GO,GP,GQ,GU,GV,Q9,Ta,Qn,JQ,NK,nJ,S9,V7,Pb,Pc,Tb,NZ,KL,QX,QY,zcx,GA,GB,KN,GG,GH,CQ,Ly,Lz,LD,LW,Bx,Pw,Ft,GI,Pe,Tc,KZ,KO,KP,Vy,zaR,za2,zaZ,N0,N1,true_and,and_true,zah,za3,N2,KQ,KR,LH,LJ,GD,Int.reduceLT,Int.reduceLE,Nat.reduceLeDiff,Nat.reduceAdd,and_self])))
section
variable{P:zdl}{w:zdb}{K:zac}{mg:Str->Option zda}{base:Heap}{t:Ad}
theorem DQ(T:Tx K mg t)(ok:Nat->Bool)(signs:Str):bB P w K mg base kN 1 t.oJ t.n8 ["word", "signs"] (Ff ok signs):=by
 refine T.kL.F.v7 DG (fun vs H Q E h=>?_) (fun eA A outer s H vs Q E hr h=>?_)
 ·obtain⟨_,rfl,_⟩:=h;rfl
 obtain⟨wd,rfl,hl,dD,q⟩:=h;have nd:=DG.nd;refine⟨_,[some (sv wd),some (.str signs)],(aj (aV (bA (Lh rfl) rfl T.MB PyProof.Rows.Boot.«all» (aa (tm (own:=["sign"]) (ix:=[1]) rfl (by rfl) (by rfl) (Lg (pv 0)) (fun _ _ _ _=>(cJ (i:=0) (by show List.Nodup (["sign", "signs"]:List Str);decide +kernel) rfl (zam rfl))) (fun _ _ _ _=>wG) (fun _ _ _ _=>(fN uB (pv 0) (pv 1) rfl))) af GF)))),rfl,?_⟩;walk_at "rd";refine⟨S wd,rfl,fun D hD=>?_⟩;refine Lj (r:=[some (.str signs)]) (fun _=>true) (fun c=>V.bl (ok c)) (by rw[eE];lia) (fun c _ ys R hR=>hR) (fun c hc _ ys R hR=>?_) ?_
 ·walk_at "rd";refine⟨_,_,rfl,rfl,?_⟩;rw[zbS,dD];exact hR
 ·refine⟨D,wd.map ok,rfl,.of ?_,?_⟩
  ·rw[ae,Q3,zc1.mpr (fun _ _=>rfl),zbL];rfl
  ·rw[zb5];exact q _ (ar.new hD _)
theorem yG(c:Nat):decide (c∈(("abcdefghijklmnopqrstuvwxyz":Str)).cps.toList)=PM.isLetter c:=by
 have e:(("abcdefghijklmnopqrstuvwxyz":Str)).cps.toList=(zaV 26).map (97 + ·):=by decide +kernel
 rw[e,zbh,decide_eq_true_eq,zaK];simp only[PM.isLetter,zaJ,decide_eq_true_eq]
 constructor
 ·rintro ⟨a,ha,rfl⟩
  have:=zbw.mp ha;lia
 ·rintro ⟨h1,h2⟩
  exact⟨c-97,zbw.mpr (by lia),by lia⟩
theorem yH(c:Nat):decide (c∈(("0123456789":Str)).cps.toList)=PM.jL c:=by
 have e:(("0123456789":Str)).cps.toList=(zaV 10).map (48 + ·):=by decide +kernel
 rw[e,zbh,decide_eq_true_eq,zaK];simp only[PM.jL,zaJ,decide_eq_true_eq]
 constructor
 ·rintro ⟨a,ha,rfl⟩
  have:=zbw.mp ha;lia
 ·rintro ⟨h1,h2⟩
  exact⟨c-48,zbw.mpr (by lia),by lia⟩
theorem FF(T:Tx K mg t):bB P w K mg base kN 1 t.kP t.lH ["sign"] C2:=by
 refine T.kQ.F.v7 x6 (fun vs H Q E h=>?_) (fun eA A outer s H vs Q E hr h=>?_)
 ·obtain⟨_,rfl,_⟩:=h;rfl
 obtain⟨c,rfl,q⟩:=h;have nd:=x6.nd;obtain⟨II,vf,vg⟩:=T.yC;obtain⟨IJ,vh,vi⟩:=T.yE;refine⟨_,[some (sv [c])],(ag (bc (aH uB (pv 0) (bU rfl vf vg) rfl)
 (aj (aV ao))
 aO)
 (ag (bc (aH uB (pv 0) (bU rfl vh vi) rfl)
 (aj (aV ao))
 aO)
 (aj (aV ao)))),rfl,?_⟩
 walk_at "rd";refine⟨S [c],_,rfl,rfl,?_⟩;rw[<- Lk,zbS,yG];unfold PM.kind at q;refine bu (fun hc=>?_) (fun hc=>?_)
 ·rw[if_pos hc] at q;exact q
 rw[if_neg hc] at q;refine⟨S [c],_,rfl,rfl,?_⟩;rw[<- Lk,zbS,yH];refine bu (fun hc=>?_) (fun hc=>?_)
 ·rw[if_pos hc] at q;exact q
 ·rw[if_neg hc] at q;exact q
theorem oo{w:W}(h:¬(1<=w.length/\w.length<=8)):PM.isName w=false:=by
 unfold PM.isName;by_cases h1:1<=w.length
 ·by_cases h2:w.length<=8
  ·exact absurd ⟨h1,h2⟩ h
  ·simp[h2]
 ·simp[h1]
theorem in_words(x:W)(l:List W):JC (sv x) (l.map sv)=l.contains x:=by
 unfold JC;rw[List.any_map,zbh,List.any_eq_true,zaz]
 constructor
 ·rintro ⟨y,hy,e⟩
  have e':decide (S y=S x)=true:=e;rw[decide_eq_true_eq,C1] at e';rw[<- e'];exact hy
 ·intro h;exact⟨x,h,(show decide (S x=S x)=true from decide_eq_true rfl)⟩
theorem yI(T:Tx K mg t):bB P w K mg base kN 2 t.i0 t.i3 ["word"] xv:=by
 have BS:bB P w K mg base kN 1 t.oJ t.n8 ["word", "signs"] (Ff PM.isLetter "abcdefghijklmnopqrstuvwxyz"):=DQ T _ _;refine T.fT.F.v7 x5 (fun vs H Q E h=>?_) (fun eA A outer s H vs Q E hr h=>?_)
 ·obtain⟨_,rfl,_⟩:=h;rfl
 obtain⟨wd,rfl,hl,q⟩:=h;have nd:=x5.nd;obtain⟨II,vf,vg⟩:=T.yC;obtain⟨MD,yJ,yK⟩:=T.we;refine⟨_,[some (sv wd)],(aj (aV (uy (sW vv vv ah (bA oA rfl T.me PyProof.Rows.Boot.«len» (aa (pv 0) af ai)) (bU rfl yJ yK)) (uy (aS BS (hr.mono (by first|decide|omega)) rfl T.kL.m T.kL.F.kp T.kL.b .nil cn (aa (pv 0) (aa (bU rfl vf vg) af ai) ai)) (w6 (fN kH (pv 0) (bU (v:=.ref t.fB) rfl T.DP rfl) rfl)))))),rfl,?_⟩;walk_at "rd";have line:zdh=2 ^ 24:=rfl;refine⟨S wd,rfl,by rw[eE];lia,?_⟩;rw[eE];refine bu (fun h1=>?_) (fun h1=>?_)
 ·refine bu (fun h2=>?_) (fun h2=>?_)
  ·refine⟨wd,rfl,by lia,yG,fun H1 s1=>⟨_,rfl,?_⟩⟩;cases ha:wd.all PM.isLetter with
   |false=>
    rw[if_neg zad];have e:PM.isName wd=false:=by unfold PM.isName;rw[ha];simp
    rw[<- e];exact q _ s1
   |true=>
    rw[if_pos rfl];refine⟨t.fB,_,rfl,.inr (T.oV H1),rfl,rfl,?_⟩;have e:PM.isName wd = !PM.wI.contains wd:=by
     unfold PM.isName;rw[ha,decide_eq_true (show 1<=wd.length by lia),decide_eq_true (show wd.length<=8 by lia)];rfl
    have m:JC (sv wd) [.str "box",.str "ask",.str "put",.str "say",.str "if",.str "else",.str "while",.str "must",.str "stop",.str "end"]=PM.wI.contains wd:=by
     have l:([.str "box",.str "ask",.str "put",.str "say",.str "if",.str "else",.str "while",.str "must",.str "stop",.str "end"]:List V)=PM.wI.map sv:=by decide +kernel
     rw[l];exact in_words wd _
    have q':=q _ s1;rw[e] at q';rw[m];exact q'
  ·have:=oo (w:=wd) (by lia);have q':=q _ (ar.refl _);rw[this] at q';exact q'
 ·rw[if_neg zad];have:=oo (w:=wd) (by lia);have q':=q _ (ar.refl _);rw[this] at q';exact q'
theorem tV(T:Tx K mg t):bB P w K mg base kN 2 t.fc t.fQ ["word"] rQ:=by
 have BS:bB P w K mg base kN 1 t.oJ t.n8 ["word", "signs"] (Ff PM.jL "0123456789"):=DQ T _ _;refine T.dH.F.v7 tM (fun vs H Q E h=>?_) (fun eA A outer s H vs Q E hr h=>?_)
 ·obtain⟨_,rfl,_⟩:=h;rfl
 obtain⟨wd,rfl,hl,q⟩:=h;have nd:=tM.nd;obtain⟨IJ,vh,vi⟩:=T.yE;obtain⟨ME,yM,yN⟩:=T.wg;refine⟨_,[some (sv wd)],(aj (aV (uy (sW vv vv ah (bA oA rfl T.me PyProof.Rows.Boot.«len» (aa (pv 0) af ai)) (bU rfl yM yN)) (uy (aS BS (hr.mono (by first|decide|omega)) rfl T.kL.m T.kL.F.kp T.kL.b .nil cn (aa (pv 0) (aa (bU rfl vh vi) af ai) ai)) (w6 (Sv (fN cy (pv 0) ao (aW _)) (w6 (fN xf (a9 Kj (pv 0) ah aJ) ao (aW _))))))))),rfl,?_⟩;walk_at "rd";have line:zdh=2 ^ 24:=rfl;refine⟨S wd,rfl,by rw[eE];lia,?_⟩;rw[eE];refine bu (fun h1=>?_) (fun h1=>?_)
 ·refine bu (fun h2=>?_) (fun h2=>?_)
  ·refine⟨wd,rfl,by lia,yH,fun H1 s1=>⟨_,rfl,?_⟩⟩;have q':=q _ s1;cases ha:wd.all PM.jL with
   |false=>
    rw[if_neg zad];have e:PM.isNumber wd=false:=by unfold PM.isNumber;rw[ha];simp
    rw[e] at q';exact q'
   |true=>
    rw[if_pos rfl];have e:PM.isNumber wd=(decide (wd=[48]) || !decide (wd.head?=some 48)):=by
     unfold PM.isNumber;rw[ha,decide_eq_true (show 1<=wd.length by lia),decide_eq_true (show wd.length<=3 by lia)];rfl
    rw[e] at q';have z:(V.str (zaa "0"))=sv [48]:=by decide +kernel
    refine⟨rfl,?_⟩;rw[z];refine bu (fun hz=>?_) (fun hz=>?_)
    ·rw[iV.mp hz] at q';exact q'
    ·rw[decide_eq_false (fun e=>hz (iV.mpr e)),Bool.false_or] at q';cases wd with
     |nil=>simp at h1
     |cons c r=>
      refine⟨S (c::r),0,c,rfl,rfl,by rw[eE];lia,aG (j:=0) rfl,rfl,?_⟩;rw[Lk];have e2:decide (V.str (S [c])=sv [48])=decide ((c::r).head?=some 48):=by
       rw[decide_eq_decide];show sv [c]=sv [48]↔_;rw[iV];simp
      rw[e2];exact q'
  ·have e:PM.isNumber wd=false:=by unfold PM.isNumber;simp[show ¬wd.length<=3 by lia]
   have q':=q _ (ar.refl _);rw[e] at q';exact q'
 ·rw[if_neg zad];have e:PM.isNumber wd=false:=by unfold PM.isNumber;simp[show ¬1<=wd.length by lia]
  have q':=q _ (ar.refl _);rw[e] at q';exact q'
theorem Bb{a b:Nat}(ha:a<=3)(hb:b<=3):kindS a=kindS b↔a=b:=by
 have all:∀(a b:Fin 4),kindS a.1=kindS b.1↔a.1=b.1:=by decide +kernel
 exact all ⟨a,by lia⟩ ⟨b,by lia⟩
theorem BU(T:Tx K mg t):bB P w K mg base kN 2 t.hX t.il ["word"] xw:=by
 have IK:bB P w K mg base kN 1 t.kP t.lH ["sign"] C2:=FF T;refine T.hZ.F.v7 tN (fun vs H Q E h=>?_) (fun eA A outer s H vs Q E hr h=>?_)
 ·obtain⟨_,rfl,_⟩:=h;rfl
 obtain⟨wd,rfl,hl,q⟩:=h;have nd:=tN.nd;refine⟨_,[some (sv wd),none,none,none,none],(ag (aR (i:=1) nd rfl (zam rfl) (aA af))
 (ag (aR (i:=2) nd rfl (zam rfl) ao)
 (ag (w9 PassesOwn.never rfl (Lg (pv 0)) (cJ (i:=3) nd rfl (zam rfl))
 (ag (aR (i:=4) nd rfl (zam rfl) (aS IK (hr.mono (by first|decide|omega)) rfl T.kQ.m T.kQ.F.kp T.kQ.b .nil cn (aa (pv 3) af ai)))
 (ag (bc (PW.pt (pw_and (aH xf (pv 4) ao (aW _)) (pw_and1 (aH cy (pv 4) (pv 2) (aW _)))))
 (aj (uz (aF aE (a9 aU (pv 1) (xb rN ah) KU) (pv 3)) (JW (pv 1) (xb rN ah) set_list)))
 (aj (cF (kT zaC zaH zaI c6 (pv 1) (aa (pv 3) af ai)))))
 (aj (aR (i:=2) nd rfl (zam rfl) (pv 4))))))
 (aj (aV (pv 1)))))),rfl,?_⟩
 walk_at "rd";intro l MF;refine⟨S wd,rfl,Oc (z:=S wd) (fun i σ H2=>∃a b:Option V,σ=[some (sv wd),some (.ref l),some (.str (kindS (PM.cv (wd.take i)).2)),a,b]/\ar H H2/\H2 l=some (.lst ((PM.cv (wd.take i)).1.map sv)))
  ⟨none,none,rfl,ar.new MF _,ae⟩ ?_ ?_⟩
 ·rintro i c σ H2 hi ⟨a,b,rfl,s2,h2⟩
  have O8:wd[i]?=some c:=hi;obtain⟨pH,ZI⟩:=zap.mp O8;have tk:wd.take (i+1)=wd.take i++[c]:=by rw[zbn pH,ZI]
  have st:PM.cv (wd.take (i+1))=PM.kX (PM.cv (wd.take i)) c:=by rw[tk,PM.Br]
  have ok:=PM.N6 (wd.take i);have Uh:(PM.cv (wd.take i)).1.length<=60:=zaB (PM.rP (wd.take i)) (by rw[zbb];lia);have WI:∀p∈(PM.cv (wd.take i)).1,p.length<=60:=fun p hp=>zaB (PM.AL (w:=wd.take i) hp) (by rw[zbb];lia);have k3:(PM.cv (wd.take i)).2<=3:=by
   by_cases e:wd.take i=[]
   ·rw[e];decide
   ·have key:∀w:W,(PM.cv w).2<=3:=PM.CU (by decide) fun w c ih=>by
     rw[PM.Br];unfold PM.kX;have:=PM.kind_le c;split<;>(show PM.kind c<=3;lia)
    exact key _
  generalize PM.cv (wd.take i)=ZJ at *;generalize PM.cv (wd.take (i+1))=TQ at *;subst st;obtain⟨ps,b0⟩:=ZJ;have k2:=PM.kind_le c;have e1:(kindS (PM.kind c)=zaa "sign")↔PM.kind c=2:=by
   have:zaa "sign"=kindS 2:=rfl;rw[this];exact Bb (by lia) (by lia)
  have e2:(kindS (PM.kind c)=kindS b0)↔PM.kind c=b0:=Bb (by lia) k3;have h2:H2 l=some (.lst (ps.map sv)):=h2;have Uh:ps.length<=60:=Uh;have qU:∀o,ar H (upd H2 l o):=fun o b u e=>by rw[aq (aI e MF)];exact s2 b u e
  have app:¬(PM.kind c≠2/\PM.kind c=b0)->PM.kX (ps,b0) c=(ps++[[c]],PM.kind c):=fun h=>by unfold PM.kX;rw[if_neg h]
  have sz:(ps.map sv).length<zdh:=AH (by rw[zae];lia);walk_at "rd";refine⟨c,rfl,rfl,?_⟩;refine bu (fun h=>?_) (fun h=>?_)
  ·have hk:=e1.mp (V.str.inj h);rw[if_neg zad,app (by lia)];refine⟨.inl ⟨rfl,_,.of h2⟩,l,_,_,rfl,rfl,h2,sz,_,_,rfl,qU _,?_⟩;rw[ae,zat];rfl
  have hn:PM.kind c≠2:=fun e=>h (by rw[e1.mpr e]);refine⟨rfl,?_⟩;refine bu (fun h'=>?_) (fun h'=>?_)
  ·have hk:=e2.mp (V.str.inj h');have EJ:ps≠[]:=ok.last (by show b0<2;lia);obtain⟨p,hp,_⟩:=ok.mark EJ;have es:=PM.xu hp;have Cn:p.length<=60:=WI p (by show p∈ps;rw[show ps=(ps,b0).1 from rfl,es];simp);have eD:ps.getLastD []=p:=by rw[zco,hp];rfl
   have ZK:PM.kX (ps,b0) c=(ps.dropLast++[p++[c]],PM.kind c):=by unfold PM.kX;rw[if_pos ⟨hn,hk⟩,eD]
   have Sq:ps=ps.dropLast++[p]:=es;have em:ps.map sv=ps.dropLast.map sv++[sv p]:=(congrArg (zce sv) Sq).trans (by rw[zat];rfl);rw[ZK];refine⟨1,rfl,l,ps.map sv,_,sv p,rfl,rfl,.of h2,?_,S p,_,rfl,rfl,?_,1,rfl,?_⟩
   ·rw[em];exact CG _ _
   ·rw[eE];exact GC (by show p.length+1<=1000;lia)
   ·refine⟨l,ps.map sv,_,(ps.dropLast.map sv).length,rfl,rfl,h2,?_,_,_,rfl,qU _,?_⟩
    ·rw[em,zaf];have:(ps.dropLast.map sv).length<=60:=by rw[zae,zaW];lia
     unfold JB;rw[if_neg (by decide),if_pos (by simp only[zah,za3];lia)]
     congr 1
     simp only[zah,za3];lia
    ·rw[ae,em,zat,zcR _ _ (zai _),zb4];simp only[zcx,zaw,zcu];rw[show (⟨#[c]⟩:Str)=S [c] from rfl,AM];rfl
  ·have hk:PM.kind c≠b0:=fun e=>h' (by rw[e2.mpr e]);rw[app (by lia)];refine⟨.inl ⟨rfl,_,.of h2⟩,l,_,_,rfl,rfl,h2,sz,_,_,rfl,qU _,?_⟩;rw[ae,zat];rfl
 ·rintro σ H2 ⟨a,b,rfl,s2,h2⟩
  walk_at "rd";refine q l H2 s2 MF ?_;rw[h2,eE,zbF];rfl
theorem yO(T:Tx K mg t):bB P w K mg base kN 3 t.cz t.iy ["self", "word"] (Ll t.aQ):=by
 have DR:bB P w K mg base kN 2 t.hX t.il ["word"] xw:=BU T;refine T.jI.v7 qm (fun vs H Q E h=>?_) (fun eA A outer s H vs Q E hr h=>?_)
 ·obtain⟨_,_,_,rfl,_⟩:=h;rfl
 obtain⟨p,dx,wd,rfl,hp,Vg,hl,q⟩:=h;have nd:=qm.nd;refine⟨_,[some (.ref p),some (sv wd)],(ag (xm (pv 0) (aS DR (hr.mono (by first|decide|omega)) rfl T.hZ.m T.hZ.F.kp T.hZ.b .nil cn (aa (pv 1) af ai)) rfl)
 (aj (xm (pv 0) ah rfl))),rfl,?_⟩
 walk_at "rd";refine⟨wd,rfl,hl,fun l H1 s1 MF h1=>?_⟩;have np:p≠l:=aI hp MF;refine⟨p,_,dx,[],rfl,s1 _ _ hp,T.cC,T.d9,(by decide),p,_,dx,_,rfl,ae,T.cC,T.dy,(by show 1<1000;decide),?_⟩;rw[Be];have pk:=PM.N6 wd;refine q l _ (fun b o n e=>by rw[aq n];exact s1 b o e) ⟨ae,?_,?_,za6 _,pk.GL,fun x hx=>zaB (PM.AL hx) hl,zaB (PM.rP wd) hl⟩
 ·rw[aq (dC Vg hp (by intro z;cases z))];exact s1 _ _ Vg
 ·rw[aq (Ne.symm np)];exact h1
theorem gz(T:Tx K mg t):bB P w K mg base kN 1 t.bK t.cU ["self"] (tF t.aQ):=by
 refine T.iz.v7 ph (fun vs H Q E h=>?_) (fun eA A outer s H vs Q E hr h=>?_)
 ·obtain⟨_,_,_,_,_,rfl,_⟩:=h;rfl
 obtain⟨p,l,dx,ps,k,rfl,o,q⟩:=h;have nd:=ph.nd;refine⟨_,[some (.ref p)],(ag (bc (aH cy (da (pv 0) rfl) (bA cK rfl T.me PyProof.Rows.Boot.«len» (aa (da (pv 0) rfl) af tw)) (aW _))
 (aj (aV ao))
 aO)
 (aj (aV (a9 aU (da (pv 0) rfl) (da (pv 0) rfl) N4)))),rfl,?_⟩
 walk_at "rd";refine⟨p,_,dx,_,.int k,rfl,o.ins,T.cC,T.dy,rfl,p,_,dx,_,.ref l,rfl,o.ins,T.cC,T.d9,rfl,l,_,rfl,.inl (.of o.lst),rfl,?_⟩;rw[zae];have le:=o.le;refine bu (fun h=>?_) (fun h=>?_)
 ·have e:k=ps.length:=by have:=V.int.inj h;lia
  rw[e,List.drop_length] at q;exact q
 ·have hk:k<ps.length:=by
   have:¬k=ps.length:=fun e=>h (by rw[e]);lia
  refine⟨p,_,dx,_,.ref l,rfl,o.ins,T.cC,T.d9,rfl,p,_,dx,_,.int k,rfl,o.ins,T.cC,T.dy,rfl,?_⟩;refine aP (.of o.lst) (aG (by rw[zaF,zag hk];rfl)) ?_;rw[zbB hk] at q;exact q
theorem fK(T:Tx K mg t):bB P w K mg base (kO P w) 2 t.bL t.cR ["self"] (uI t.aQ t.az):=by
 have dj:bB P w K mg base kN 1 t.bK t.cU ["self"] (tF t.aQ):=gz T;refine T.jJ.Cq qp (fun vs H Q E h=>?_) (fun eA A outer s H vs Q E hr h=>?_)
 ·obtain⟨_,_,_,_,_,rfl,_⟩:=h;rfl
 obtain⟨p,l,dx,ps,k,rfl,o,q⟩:=h;have nd:=qp.nd;refine⟨_,[some (.ref p),none],(ag (aR (i:=1) nd rfl (zam rfl) (dO (pv 0) T.cC T.iB dj (hr.mono (by first|decide|omega)) T.iA .nil cn))
 (ag (bc (aH cy (pv 1) ao (aW _))
 (aj (cm du T.eZ rfl T.ez rfl (aa ao af au)))
 aO)
 (ag (HN (pv 0) ah QG)
 (aj (aV (pv 1)))))),rfl,?_⟩
 walk_at "rd";refine⟨p,dx,_,rfl,o.ins,rfl,p,l,dx,ps,k,rfl,o,rfl,?_⟩;have le:=o.le;cases hd:ps.drop k with
 |nil=>
  rw[hd] at q;refine(if_pos (show sv ([].headD [])=V.str (zaa "") from rfl)).mpr ?_;exact⟨by decide,q⟩
 |cons y r=>
  rw[hd] at q;have hk:k<ps.length:=by
   have:=congrArg zbE hd;rw[zaY,zah] at this;lia
  have hy:y∈ps:=zcV (i:=k) (by rw[hd];simp);have ne:¬sv y=V.str (zaa ""):=by
   have:V.str (zaa "")=sv []:=rfl;rw[this,iV];exact o.pos y hy
  rw[zbI,if_neg ne];refine⟨p,_,dx,_,.int k,rfl,o.ins,T.cC,T.dy,rfl,?_⟩;refine⟨k,1,rfl,rfl,dx,_,o.ins,(by show 2<1000;decide),?_⟩;have e:nN (zaa "place") (V.int ((k:Int)+1)) ([("pieces",V.ref l),("place",V.int k)]:List (Str×V))=([("pieces",V.ref l),("place",V.int ((k+1:Nat):Int))]:List (Str×V)):=by
   have d:¬zaa "pieces"=zaa "place":=by decide +kernel
   unfold nN;rw[if_neg d];unfold nN;rw[if_pos rfl];rfl
  rw[e];exact q _ ((bN.refl _ _).put _) (o.at ((bN.refl _ _).put _) ae (by lia))
theorem sT.qu{CP p l dx:zc9}{H:Hp}{ps:List W}{k:Nat}{y:W}{r:List W}(o:sT CP H p l dx ps k)(hd:ps.drop k=y::r):k<ps.length/\y∈ps/\ps.drop (k+1)=r:=by
 have hk:k<ps.length:=by
  have:=congrArg zbE hd;rw[zaY,zah] at this;lia
 refine⟨hk,zcV (i:=k) (by rw[hd];simp),?_⟩;rw[zbB hk] at hd;exact(List.cons.inj hd).2
theorem qv(T:Tx K mg t){n:Nat}{d:Int}(yP:bB P w K mg base (kO P w) (4*n+4) t.dg t.dv ["pieces", "depth"] (uJ K t.aQ t.az n (d+1))) :
 bB P w K mg base (kO P w) (4*n+5) t.eO t.fj ["pieces", "depth"] (pW K t.aQ t.az (PM.factor n) d):=by
 have cP:bB P w K mg base (kO P w) 2 t.bL t.cR ["self"] (uI t.aQ t.az):=fK T;have qw:bB P w K mg base kN 2 t.fc t.fQ ["word"] rQ:=tV T;have vj:bB P w K mg base kN 2 t.i0 t.i3 ["word"] xv:=yI T;refine T.cN.F.Cq qi (fun vs H Q E h=>?_) (fun eA A outer s H vs Q E hr h=>?_)
 ·obtain⟨_,_,_,_,_,rfl,_⟩:=h;rfl
 obtain⟨p,l,dx,ps,k,rfl,o,q⟩:=h;have nd:=qi.nd;refine⟨_,[some (.ref p),some (.int d),none],(ag (aR (i:=2) nd rfl (zam rfl) (dO (pv 0) T.cC T.gr cP (hr.mono (by first|decide|omega)) T.gq .nil dq))
 (ag (bc (ux (aS qw (hr.mono (by first|decide|omega)) rfl T.dH.m T.dH.F.kp T.dH.b .nil cn (aa (pv 2) af ai)))
 (aj (aV (eF (aa ao (aa (fO tE rfl T.vU PyProof.Rows.Boot.«int» (aa (pv 2) af ai)) af bT) au))))
 aO)
 (ag (bc (ux (aS vj (hr.mono (by first|decide|omega)) rfl T.fT.m T.fT.F.kp T.fT.b .nil cn (aa (pv 2) af ai)))
 (aj (aV (eF (aa ao (aa (pv 2) af ai) au))))
 aO)
 (ag (bc (aH xf (pv 2) ao (aW _))
 (aj (cm du T.eZ rfl T.ez rfl (aa ao af au)))
 aO)
 (aj (aV (aS yP (hr.mono (by first|decide|omega)) rfl T.dh.m T.dh.F.kp T.dh.b .nil dq (aa (pv 0) (aa (aF uA (pv 1) ah) af cG) ai)))))))),rfl,?_⟩
 walk_at "rd";refine⟨p,dx,_,rfl,o.ins,rfl,p,l,dx,ps,k,rfl,o,?_⟩;cases hd:ps.drop k with
 |nil=>
  rw[hd] at q;have e:PM.factor n []=none:=by cases n<;>rfl
  rw[e] at q;exact q H (bN.refl _ _)
 |cons y r=>
  rw[hd,C3] at q;obtain⟨hk,hy,DT⟩:=sT.qu o hd;intro H1 u1 o1;have yl:=o.len y hy;refine⟨y,rfl,by lia,fun H2 s2=>⟨_,rfl,?_⟩⟩;have u2:bN p H H2:=u1.trans (.of s2);have o2:sT t.aQ H2 p l dx ps (k+1):=o1.at (.of s2) (s2 _ _ o1.ins) o1.le;refine bu (fun c1=>?_) (fun c1=>?_)
  ·rw[if_pos c1] at q;refine⟨S y,_,rfl,C4 c1,by rw[eE];lia,fun a ha=>?_⟩;refine q _ _ (k+1) (u2.new ha _) (o2.at ((bN.refl _ _).new ha _) (by rw[aq (aI o2.ins ha)];exact o2.ins) o2.le) DT ?_;exact Rep.new ha (.cons (Rep.bh.mpr rfl) (.cons (Rep.dG.mpr rfl) .nil))
  rw[if_neg c1] at q;refine⟨y,rfl,by lia,fun H3 s3=>⟨_,rfl,?_⟩⟩;have u3:bN p H H3:=u2.trans (.of s3);have o3:sT t.aQ H3 p l dx ps (k+1):=o2.at (.of s3) (s3 _ _ o2.ins) o2.le;refine bu (fun c2=>?_) (fun c2=>?_)
  ·rw[if_pos c2] at q;intro a ha;refine q _ _ (k+1) (u3.new ha _) (o3.at ((bN.refl _ _).new ha _) (by rw[aq (aI o3.ins ha)];exact o3.ins) o3.le) DT ?_;exact Rep.new ha (.cons (Rep.bh.mpr rfl) (.cons (Rep.bh.mpr rfl) .nil))
  rw[if_neg c2] at q;refine⟨rfl,?_⟩;have z:V.str (zaa "(")=sv [40]:=by decide +kernel
  rw[z];refine bu (fun c3=>?_) (fun c3=>?_)
  ·rw[if_pos (iV.mp c3)] at q;refine⟨p,l,dx,ps,k+1,rfl,o3,?_⟩;rw[DT]
   revert q
   cases UU n r with
   |none=>exact fun q H' u=>q H' (u3.trans u)
   |some x=>exact fun q v H' j u=>q v H' j (u3.trans u)
  ·rw[if_neg (fun e=>c3 (iV.mpr e))] at q;exact⟨by decide,q H3 u3⟩
theorem FG{p l dx CP a:zc9}{H:Hp}{ps:List W}{k:Nat}{o':HO}(o:sT CP H p l dx ps k)(ha:H a=none):sT CP (upd H a o') p l dx ps k:=
 o.at ((bN.refl _ _).new ha _) (by rw[aq (aI o.ins ha)];exact o.ins) o.le
theorem pj(T:Tx K mg t){n:Nat}{d:Int}(rC:bB P w K mg base (kO P w) (4*n+5) t.eO t.fj ["pieces", "depth"] (pW K t.aQ t.az (PM.factor n) d)) :
 bB P w K mg base (kO P w) (4*n+6) t.dX t.eL ["pieces", "depth"] (pW K t.aQ t.az (PM.hG (PM.factor n)) d):=by
 have cP:bB P w K mg base (kO P w) 2 t.bL t.cR ["self"] (uI t.aQ t.az):=fK T;have dj:bB P w K mg base kN 1 t.bK t.cU ["self"] (tF t.aQ):=gz T;refine T.cB.F.Cq o8 (fun vs H Q E h=>?_) (fun eA A outer s H vs Q E hr h=>?_)
 ·obtain⟨_,_,_,_,_,rfl,_⟩:=h;rfl
 obtain⟨p,l,dx,ps,k,rfl,o,q⟩:=h;have nd:=o8.nd;refine⟨_,[some (.ref p),some (.int d),none,none],(ag (aR (i:=2) nd rfl (zam rfl) (aS rC (hr.mono (by first|decide|omega)) rfl T.cN.m T.cN.F.kp T.cN.b .nil dq (aa (pv 0) (aa (pv 1) af ai) ai)))
 (ag (Cw N8 (aH cy (dO (pv 0) T.cC T.iB dj (hr.mono (by first|decide|omega)) T.iA .nil cn) ao (aW _))
 (ag (aR (i:=3) nd rfl (zam rfl) (dO (pv 0) T.cC T.gr cP (hr.mono (by first|decide|omega)) T.gq .nil dq))
 (aj (aR (i:=2) nd rfl (zam rfl) (eF (aa (pv 3) (aa (pv 2) (aa (aS rC (hr.mono (by first|decide|omega)) rfl T.cN.m T.cN.F.kp T.cN.b .nil dq (aa (pv 0) (aa (pv 1) af ai) ai)) af bT) ai) ai))))))
 (aj (aV (pv 2))))),rfl,?_⟩
 walk_at "rd";refine⟨p,l,dx,ps,k,rfl,o,?_⟩;rw[PM.CT] at q;cases hf:PM.factor n (ps.drop k) with
 |none=>
  rw[hf] at q;exact q
 |some x=>
  obtain⟨e0,r0⟩:=x;rw[hf] at q;intro v0 H0 j0 u0 o0 Sg rep0;refine⟨fun m σ H2=>∃(ve:V) (j:Nat) (x:Option V) (e:PM.Tr),m=ps.length-j/\σ=[some (.ref p),some (.int d),some ve,x]/\bN p H H2/\sT t.aQ H2 p l dx ps j/\Rep K H2 (pE e) ve/\
   PM.loop [[42]] (PM.factor n) e0 r0=PM.loop [[42]] (PM.factor n) e (ps.drop j),⟨_,v0,j0,none,e0,rfl,rfl,u0,o0,rep0,by rw[Sg]⟩,?_⟩
  rintro m σ H2 ⟨ve,j,x,e,rfl,rfl,u2,o2,rep2,OH⟩
  have qq:match PM.loop [[42]] (PM.factor n) e (ps.drop j) with
   |none=>∀H',bN p H H'->E (Value.ref t.az) none H'
   |some (t',r)=>∀v H' j,bN p H H'->sT t.aQ H' p l dx ps j->ps.drop j=r->Rep K H' (pE t') v->Q v H':=by
   rw[<- OH];exact q
  walk_at "rd";refine⟨p,dx,_,rfl,o2.ins,rfl,p,l,dx,ps,j,rfl,o2,rfl,?_⟩;have z:V.str (zaa "*")=sv [42]:=by decide +kernel
  rw[z];cases hd:ps.drop j with
  |nil=>
   refine(if_neg (fun e=>absurd (iV.mp e) (by decide))).mpr ?_;rw[hd,PM.CS] at qq;exact qq ve H2 j u2 o2 hd rep2
  |cons y r=>
   obtain⟨hk,hy,DT⟩:=sT.qu o2 hd;rw[zbI];refine bu (fun c=>?_) (fun c=>?_)
   ·have QF:y∈([[42]]:List W):=by rw[iV.mp c];simp
    refine⟨fun σ' H'=>∃(ve:V) (j':Nat) (x:Option V) (e:PM.Tr),ps.length-j'<ps.length-j/\σ'=[some (.ref p),some (.int d),some ve,x]/\bN p H H'/\sT t.aQ H' p l dx ps j'/\Rep K H' (pE e) ve/\
     PM.loop [[42]] (PM.factor n) e0 r0=PM.loop [[42]] (PM.factor n) e (ps.drop j'),?_,?_⟩
    ·rintro σ' H' ⟨ve,j',x,e,a1,a2,a3,a4,a5,a6⟩
     exact⟨_,a1,ve,j',x,e,rfl,a2,a3,a4,a5,a6⟩
    refine⟨p,dx,_,rfl,o2.ins,rfl,p,l,dx,ps,j,rfl,o2,?_⟩;rw[hd];intro H3 u3 o3;refine⟨p,l,dx,ps,j+1,rfl,o3,?_⟩;rw[DT];rw[hd,PM.GJ (PM.ie n) QF] at qq OH;have uu:bN p H H3:=u2.trans u3;cases RB:(PM.factor n) r with
    |none=>
     rw[RB] at qq;exact fun H' u=>qq H' (uu.trans u)
    |some z=>
     obtain⟨e2,r2⟩:=z;rw[RB] at qq OH;intro v2 H4 j2 u4 o4 Ui RC a ha;have rv:Rep K H4 (pE e) ve:=(Rep.nP o2.ins (u3.trans u4)).1 _ _ rep2;have sh:=(PM.ie n) _ _ _ RB;refine⟨.ref a,j2,_,.bin y e e2,?_,rfl,(uu.trans u4).new ha _,FG o4 ha,?_,?_⟩
     ·have e1:=congrArg zbE Ui;have e2:=congrArg zbE DT;rw[zaY] at e1 e2;have:=o4.le;lia
     ·exact Rep.new ha (.cons (Rep.bh.mpr rfl) (.cons rv (.cons RC .nil)))
     ·rw[OH,Ui]
   ·rw[hd,PM.uH (by rw[zal];exact fun e=>c (iV.mpr e))] at qq;exact qq ve H2 j u2 o2 hd rep2
theorem vV(T:Tx K mg t){n:Nat}{d:Int}(qx:bB P w K mg base (kO P w) (4*n+6) t.dX t.eL ["pieces", "depth"] (pW K t.aQ t.az (PM.hG (PM.factor n)) d)) :
 bB P w K mg base (kO P w) (4*n+7) t.ff t.fh ["pieces", "depth"] (pW K t.aQ t.az (PM.rO (PM.factor n)) d):=by
 have cP:bB P w K mg base (kO P w) 2 t.bL t.cR ["self"] (uI t.aQ t.az):=fK T;have dj:bB P w K mg base kN 1 t.bK t.cU ["self"] (tF t.aQ):=gz T;refine T.cV.F.Cq vN (fun vs H Q E h=>?_) (fun eA A outer s H vs Q E hr h=>?_)
 ·obtain⟨_,_,_,_,_,rfl,_⟩:=h;rfl
 obtain⟨p,l,dx,ps,k,rfl,o,q⟩:=h;have nd:=vN.nd;refine⟨_,[some (.ref p),some (.int d),none,none],(ag (aR (i:=2) nd rfl (zam rfl) (aS qx (hr.mono (by first|decide|omega)) rfl T.cB.m T.cB.F.kp T.cB.b .nil dq (aa (pv 0) (aa (pv 1) af ai) ai)))
 (ag (Cw N8 (aH g9 (dO (pv 0) T.cC T.iB dj (hr.mono (by first|decide|omega)) T.iA .nil cn) (eF (br (vs:=[.str "+",.str "-"]) (by kernel_rfl))) rfl)
 (ag (aR (i:=3) nd rfl (zam rfl) (dO (pv 0) T.cC T.gr cP (hr.mono (by first|decide|omega)) T.gq .nil dq))
 (aj (aR (i:=2) nd rfl (zam rfl) (eF (aa (pv 3) (aa (pv 2) (aa (aS qx (hr.mono (by first|decide|omega)) rfl T.cB.m T.cB.F.kp T.cB.b .nil dq (aa (pv 0) (aa (pv 1) af ai) ai)) af bT) ai) ai))))))
 (aj (aV (pv 2))))),rfl,?_⟩
 walk_at "rd";refine⟨p,l,dx,ps,k,rfl,o,?_⟩;rw[PM.GK] at q;cases hf:PM.hG (PM.factor n) (ps.drop k) with
 |none=>
  rw[hf] at q;exact q
 |some x=>
  obtain⟨e0,r0⟩:=x;rw[hf] at q;intro v0 H0 j0 u0 o0 Sg rep0;refine⟨fun m σ H2=>∃(ve:V) (j:Nat) (x:Option V) (e:PM.Tr),m=ps.length-j/\σ=[some (.ref p),some (.int d),some ve,x]/\bN p H H2/\sT t.aQ H2 p l dx ps j/\Rep K H2 (pE e) ve/\
   PM.loop [[43],[45]] (PM.hG (PM.factor n)) e0 r0=PM.loop [[43],[45]] (PM.hG (PM.factor n)) e (ps.drop j),⟨_,v0,j0,none,e0,rfl,rfl,u0,o0,rep0,by rw[Sg]⟩,?_⟩
  rintro m σ H2 ⟨ve,j,x,e,rfl,rfl,u2,o2,rep2,OH⟩
  have qq:match PM.loop [[43],[45]] (PM.hG (PM.factor n)) e (ps.drop j) with
   |none=>∀H',bN p H H'->E (Value.ref t.az) none H'
   |some (t',r)=>∀v H' j,bN p H H'->sT t.aQ H' p l dx ps j->ps.drop j=r->Rep K H' (pE t') v->Q v H':=by
   rw[<- OH];exact q
  walk_at "rd";refine⟨p,dx,_,rfl,o2.ins,rfl,p,l,dx,ps,j,rfl,o2,?_⟩;intro a1 WJ;have Sh:=FG (o':=.tup [V.str (zaa "+"),V.str (zaa "-")]) o2 WJ;have Vh:=u2.new WJ (.tup [V.str (zaa "+"),V.str (zaa "-")]);have Hu:Rep K (upd H2 a1 (.tup [V.str (zaa "+"),V.str (zaa "-")])) (pE e) ve:=rep2.mono (ar.new WJ _);have z:([V.str (zaa "+"),V.str (zaa "-")]:List V)=([[43],[45]]:List W).map sv:=by decide +kernel
  refine⟨a1,_,rfl,.inr (.of ae),rfl,rfl,_,rfl,?_⟩;rw[z] at Sh Vh Hu;rw[if_neg zad,z,in_words];generalize upd H2 a1 (.tup (([[43],[45]]:List W).map sv))=XJ at *;cases hd:ps.drop j with
  |nil=>
   refine(if_neg (by decide)).mpr ?_;rw[hd,PM.CS] at qq;exact qq ve XJ j Vh Sh hd Hu
  |cons y r=>
   obtain⟨hk,hy,DT⟩:=sT.qu o2 hd;rw[zbI];refine bu (fun c=>?_) (fun c=>?_)
   ·have QF:y∈([[43],[45]]:List W):=zaz.mp c;refine⟨fun σ' H'=>∃(ve:V) (j':Nat) (x:Option V) (e:PM.Tr),ps.length-j'<ps.length-j/\σ'=[some (.ref p),some (.int d),some ve,x]/\bN p H H'/\sT t.aQ H' p l dx ps j'/\Rep K H' (pE e) ve/\
     PM.loop [[43],[45]] (PM.hG (PM.factor n)) e0 r0=PM.loop [[43],[45]] (PM.hG (PM.factor n)) e (ps.drop j'),?_,?_⟩
    ·rintro σ' H' ⟨ve,j',x,e,a1,a2,a3,a4,a5,a6⟩
     exact⟨_,a1,ve,j',x,e,rfl,a2,a3,a4,a5,a6⟩
    refine⟨p,dx,_,rfl,Sh.ins,rfl,p,l,dx,ps,j,rfl,Sh,?_⟩;rw[hd];intro H3 u3 o3;refine⟨p,l,dx,ps,j+1,rfl,o3,?_⟩;rw[DT];rw[hd,PM.GJ (PM.oE (PM.ie n)) QF] at qq OH;have uu:bN p H H3:=Vh.trans u3;cases RB:(PM.hG (PM.factor n)) r with
    |none=>
     rw[RB] at qq;exact fun H' u=>qq H' (uu.trans u)
    |some z=>
     obtain⟨e2,r2⟩:=z;rw[RB] at qq OH;intro v2 H4 j2 u4 o4 Ui RC a ha;have rv:Rep K H4 (pE e) ve:=(Rep.nP Sh.ins (u3.trans u4)).1 _ _ Hu;have sh:=(PM.oE (PM.ie n)) _ _ _ RB;refine⟨.ref a,j2,_,.bin y e e2,?_,rfl,(uu.trans u4).new ha _,FG o4 ha,?_,?_⟩
     ·have e1:=congrArg zbE Ui;have e2:=congrArg zbE DT;rw[zaY] at e1 e2;have:=o4.le;lia
     ·exact Rep.new ha (.cons (Rep.bh.mpr rfl) (.cons rv (.cons RC .nil)))
     ·rw[OH,Ui]
   ·rw[hd,PM.uH (fun e=>c (zaz.mpr e))] at qq;exact qq ve XJ j Vh Sh hd Hu
theorem BV(T:Tx K mg t):bB P w K mg base (kO P w) 4 t.dg t.dv ["pieces", "depth"] (uJ K t.aQ t.az 0 6):=by
 have cP:bB P w K mg base (kO P w) 2 t.bL t.cR ["self"] (uI t.aQ t.az):=fK T;have mf:bB P w K mg base (kO P w) 0 t.ff t.fh ["pieces", "depth"] (fun _ _ _ _=>False):=⟨fun vs H Q E h=>h.elim,fun A outer s H args us vs Q E _ _ _ _ h=>h.elim⟩
 refine T.dh.F.Cq gu (fun vs H Q E h=>?_) (fun eA A outer s H vs Q E hr h=>?_)
 ·obtain⟨_,_,_,_,_,rfl,_⟩:=h;rfl
 obtain⟨p,l,dx,ps,k,rfl,o,q⟩:=h;have nd:=gu.nd;obtain⟨wj,kz,kA⟩:=T.om;refine⟨_,[some (.ref p),some (.int 6),none],(ag (bc (aH xh (pv 1) (bU rfl kz kA) (aW _))
 (aj (cm du T.eZ rfl T.ez rfl (aa ao af au)))
 aO)
 (ag (aR (i:=2) nd rfl (zam rfl) (aS mf (hr.mono (by first|decide|omega)) rfl T.cV.m T.cV.F.kp T.cV.b .nil dq (aa (pv 0) (aa (pv 1) af ai) ai)))
 (ag (bc (aH xf (dO (pv 0) T.cC T.gr cP (hr.mono (by first|decide|omega)) T.gq .nil dq) ao (aW _))
 (aj (cm du T.eZ rfl T.ez rfl (aa ao af au)))
 aO)
 (aj (aV (pv 2)))))),rfl,?_⟩
 walk_at "rd";exact(if_pos (by decide)).mpr ⟨by decide,q H (bN.refl _ _)⟩
theorem MG(n:Nat)(ps:List W):UU (n+1) ps=match PM.rO (PM.factor n) ps with
 |some (e,q::r)=>if q=[41] then some (e,r) else none
 |_=>none:=rfl
theorem wm(T:Tx K mg t){n:Nat}{d:Int}(hd:d+n=5)(mf:bB P w K mg base (kO P w) (4*n+7) t.ff t.fh ["pieces", "depth"] (pW K t.aQ t.az (PM.rO (PM.factor n)) d)) :
 bB P w K mg base (kO P w) (4*n+8) t.dg t.dv ["pieces", "depth"] (uJ K t.aQ t.az (n+1) d):=by
 have cP:bB P w K mg base (kO P w) 2 t.bL t.cR ["self"] (uI t.aQ t.az):=fK T;refine T.dh.F.Cq gu (fun vs H Q E h=>?_) (fun eA A outer s H vs Q E hr h=>?_)
 ·obtain⟨_,_,_,_,_,rfl,_⟩:=h;rfl
 obtain⟨p,l,dx,ps,k,rfl,o,q⟩:=h;have nd:=gu.nd;obtain⟨wj,kz,kA⟩:=T.om;refine⟨_,[some (.ref p),some (.int d),none],(ag (bc (aH xh (pv 1) (bU rfl kz kA) (aW _))
 (aj (cm du T.eZ rfl T.ez rfl (aa ao af au)))
 aO)
 (ag (aR (i:=2) nd rfl (zam rfl) (aS mf (hr.mono (by first|decide|omega)) rfl T.cV.m T.cV.F.kp T.cV.b .nil dq (aa (pv 0) (aa (pv 1) af ai) ai)))
 (ag (bc (aH xf (dO (pv 0) T.cC T.gr cP (hr.mono (by first|decide|omega)) T.gq .nil dq) ao (aW _))
 (aj (cm du T.eZ rfl T.ez rfl (aa ao af au)))
 aO)
 (aj (aV (pv 2)))))),rfl,?_⟩
 walk_at "rd";rw[if_neg (by lia)];refine⟨p,l,dx,ps,k,rfl,o,?_⟩;rw[MG] at q;cases hf:PM.rO (PM.factor n) (ps.drop k) with
 |none=>
  rw[hf] at q;exact q
 |some x=>
  obtain⟨e0,r0⟩:=x;rw[hf] at q;intro v0 H0 j0 u0 o0 Sg rep0;refine⟨p,dx,_,rfl,o0.ins,rfl,p,l,dx,ps,j0,rfl,o0,?_⟩;rw[Sg];cases r0 with
  |nil=>exact q H0 u0
  |cons y r=>
   obtain⟨hk,hy,DT⟩:=sT.qu o0 Sg;intro H1 u1 o1;have z:V.str (zaa ")")=sv [41]:=by decide +kernel
   refine⟨rfl,?_⟩;rw[z];refine bu (fun c=>?_) (fun c=>?_)
   ·rw[iV.mp c] at q;exact q v0 H1 (j0+1) (u0.trans u1) o1 DT ((Rep.nP o0.ins u1).1 _ _ rep0)
   ·simp only[if_neg (fun e=>c (iV.mpr e))] at q;exact⟨by decide,q H1 (u0.trans u1)⟩
theorem yQ(T:Tx K mg t):∀(n:Nat) (d:Int),d+n=5->bB P w K mg base (kO P w) (4*n+7) t.ff t.fh ["pieces", "depth"] (pW K t.aQ t.az (PM.rO (PM.factor n)) d)
 |0,d,h=>by
  have e:d=5:=by lia
  subst e;exact vV T (pj T (qv T (n:=0) (BV T)))
 |n+1,d,h=>vV T (pj T (qv T (wm T (d:=d+1) (by lia) (yQ T n (d+1) (by lia)))))
theorem rD(T:Tx K mg t):bB P w K mg base (kO P w) 28 t.ik t.jG ["word"] (Q4 K t.az):=by
 have mf:=yQ (P:=P) (w:=w) (base:=base) T 5 0 rfl;have dj:bB P w K mg base kN 1 t.bK t.cU ["self"] (tF t.aQ):=gz T;have zR:bB P w K mg base kN 3 t.cz t.iy ["self", "word"] (Ll t.aQ):=yO T;refine T.bR.F.Cq rq (fun vs H Q E h=>?_) (fun eA A outer s H vs Q E hr h=>?_)
 ·obtain⟨_,rfl,_⟩:=h;rfl
 obtain⟨wd,rfl,hl,q⟩:=h;have nd:=rq.nd;obtain⟨OI,BW,BX⟩:=T.zN;refine⟨_,[some (sv wd),none,none],(ag (bc (aH xh (bA oA rfl T.me PyProof.Rows.Boot.«len» (aa (pv 0) af ai)) (bU rfl BW BX) (aW _))
 (aj (cm du T.eZ rfl T.ez rfl (aa ao af au)))
 aO)
 (ag (aR (i:=1) nd rfl (zam rfl) (NP T.u9 zR (hr.mono (by first|decide|omega)) rfl T.IG T.zM .nil cn (aa (pv 0) af ai)))
 (ag (aR (i:=2) nd rfl (zam rfl) (aS mf (hr.mono (by first|decide|omega)) rfl T.cV.m T.cV.F.kp T.cV.b .nil dq (aa (pv 1) (aa ah af au) ai)))
 (ag (bc (aH xf (dO (pv 1) T.cC T.iB dj (hr.mono (by first|decide|omega)) T.iA .nil cn) ao (aW _))
 (aj (cm du T.eZ rfl T.ez rfl (aa ao af au)))
 aO)
 (aj (aV (pv 2))))))),rfl,?_⟩
 walk_at "rd";have line:zdh=2 ^ 24:=rfl;refine⟨S wd,rfl,by rw[eE];lia,?_⟩;rw[eE];unfold PM.expr at q;refine bu (fun c=>?_) (fun c=>?_)
 ·rw[if_pos (by lia)] at q;exact⟨by decide,q H (ar.refl _)⟩
 rw[if_neg (by lia)] at q;intro x dx hx Vg ne;have hx1:(upd H dx (.own x)) x=none:=by rw[aq (Ne.symm ne)];exact hx
 refine⟨x,dx,wd,rfl,ae,by rw[aq ne];exact ae,by lia,fun l H1 u1 o1=>⟨rfl,?_⟩⟩;have sm:∀ {H':Hp},bN x (upd (upd H dx (.own x)) x (.ins t.aQ dx [])) H'->ar H H':=fun u b o' e=>by
  have n1:b≠x:=aI e hx;have n2:b≠dx:=aI e Vg;refine u b o' n1 ?_;rw[aq n1,aq n2];exact e
 refine⟨x,l,dx,PM.pieces wd,0,rfl,o1,?_⟩;rw[zcQ];cases hf:PM.rO (PM.factor 5) (PM.pieces wd) with
 |none=>
  rw[hf] at q;exact fun H' u=>q H' (sm (u1.trans u))
 |some z=>
  obtain⟨e0,r0⟩:=z;rw[hf] at q;intro v H2 j u2 o2 hj rep;refine⟨x,dx,_,rfl,o2.ins,rfl,x,l,dx,_,j,rfl,o2,rfl,?_⟩;rw[hj];have z:V.str (zaa "")=sv []:=rfl;cases r0 with
  |nil=>exact(if_pos rfl).mpr (q v H2 (sm (u1.trans u2)) rep)
  |cons y r=>
   obtain⟨_,hy,_⟩:=sT.qu o2 hj;refine(if_neg (fun e=>o2.pos y hy (iV.mp (e.trans z)))).mpr ?_;exact⟨by decide,q H2 (sm (u1.trans u2))⟩
theorem tW(T:Tx K mg t):bB P w K mg base (kO P w) 3 t.jS t.kI ["word"] (OB t.az):=by
 have vj:bB P w K mg base kN 2 t.i0 t.i3 ["word"] xv:=yI T;refine T.cD.F.Cq tO (fun vs H Q E h=>?_) (fun eA A outer s H vs Q E hr h=>?_)
 ·obtain⟨_,rfl,_⟩:=h;rfl
 obtain⟨wd,rfl,hl,q⟩:=h;have nd:=tO.nd;refine⟨_,[some (sv wd)],(ag (bc (w5 (ux (aS vj (hr.mono (by first|decide|omega)) rfl T.fT.m T.fT.F.kp T.fT.b .nil cn (aa (pv 0) af ai))))
 (aj (cm du T.eZ rfl T.ez rfl (aa ao af au)))
 aO)
 (aj (aV (pv 0)))),rfl,?_⟩
 walk_at "rd";refine⟨wd,rfl,by lia,fun H2 s2=>⟨_,rfl,?_⟩⟩;unfold PM.xT at q;cases hn:PM.isName wd with
 |true=>
  rw[hn] at q;exact q H2 s2
 |false=>
  rw[hn] at q;exact⟨by decide,q H2 s2⟩
theorem yS(T:Tx K mg t):bB P w K mg base (kO P w) 3 t.gm t.ip ["word"] (Rw t.az):=by
 have qw:bB P w K mg base kN 2 t.fc t.fQ ["word"] rQ:=tV T;refine T.cO.F.Cq qj (fun vs H Q E h=>?_) (fun eA A outer s H vs Q E hr h=>?_)
 ·obtain⟨_,rfl,_⟩:=h;rfl
 obtain⟨wd,rfl,hl,q⟩:=h;have nd:=qj.nd;refine⟨_,[some (sv wd)],(ag (bc (w5 (ux (aS qw (hr.mono (by first|decide|omega)) rfl T.dH.m T.dH.F.kp T.dH.b .nil cn (aa (pv 0) af ai))))
 (aj (cm du T.eZ rfl T.ez rfl (aa ao af au)))
 aO)
 (aj (aV (fO tE rfl T.vU PyProof.Rows.Boot.«int» (aa (pv 0) af ai))))),rfl,?_⟩
 walk_at "rd";refine⟨wd,rfl,by lia,fun H2 s2=>⟨_,rfl,?_⟩⟩;unfold PM.IB at q;cases hn:PM.isNumber wd with
 |true=>
  rw[hn] at q;have hl3:wd.length<=3:=by
   unfold PM.isNumber at hn;simp only[zaJ,decide_eq_true_eq] at hn;exact hn.1.1.2
  exact⟨S wd,_,rfl,C4 hn,by rw[eE];lia,q H2 s2⟩
 |false=>
  rw[hn] at q;exact⟨by decide,q H2 s2⟩
theorem DU(T:Tx K mg t):bB P w K mg base (kO P w) 4 t.lI t.mI ["words"] (Bz K t.az PM.IC):=by
 have mW:=tW (P:=P) (w:=w) (base:=base) T;have rE:=yS (P:=P) (w:=w) (base:=base) T;refine T.i4.F.Cq vO (fun vs H Q E h=>?_) (fun eA A outer s H vs Q E hr h=>?_)
 ·obtain⟨_,_,rfl,_⟩:=h;rfl
 obtain⟨a,ws,rfl,ya,lw,l4,qn,qs⟩:=h;have nd:=vO.nd;refine⟨_,[some (.ref a)],(aj (aV (eF (aa ao (aa (aS mW (hr.mono (by first|decide|omega)) rfl T.cD.m T.cD.F.kp T.cD.b .nil dq (aa (a9 aU (pv 0) ah aJ) af cw)) (aa (aS rE (hr.mono (by first|decide|omega)) rfl T.cO.m T.cO.F.kp T.cO.b .nil dq (aa (a9 aU (pv 0) ah aJ) af cw)) (aa (aS rE (hr.mono (by first|decide|omega)) rfl T.cO.m T.cO.F.kp T.cO.b .nil dq (aa (a9 aU (pv 0) ah aJ) af cw)) af bT) bT) bT) au)))),rfl,?_⟩
 match ws,l4 with
 |[k,x,y,z],_=>
  have eb:PM.IC [k,x,y,z]=(PM.xT x).bind fun n=>(PM.IB y).bind fun a=>(PM.IB z).map (.box n a):=rfl;walk_at "rd";refine aP (.of ya) (v:=sv x) (aG (j:=1) rfl) ⟨x,rfl,lw x (by simp),?_⟩;cases hx:PM.xT x with
  |none=>exact qn (by rw[eb,hx];rfl)
  |some n=>
   have en:n=x:=by
    unfold PM.xT at hx;split at hx
    ·exact(zav.inj hx).symm
    ·cases hx
   subst en;intro H1 s1;refine aP (.of (s1 _ _ ya)) (v:=sv y) (aG (j:=2) rfl) ⟨y,rfl,lw y (by simp),?_⟩;cases hy:PM.IB y with
   |none=>exact fun H2 s2=>qn (by rw[eb,hx,hy];rfl) H2 (s1.trans s2)
   |some i=>
    intro H2 s2;refine aP (.of (s2 _ _ (s1 _ _ ya))) (v:=sv z) (aG (j:=3) rfl) ⟨z,rfl,lw z (by simp),?_⟩;cases hz:PM.IB z with
    |none=>exact fun H3 s3=>qn (by rw[eb,hx,hy,hz];rfl) H3 (s1.trans (s2.trans s3))
    |some j=>
     intro H3 s3 p hp;refine qs (.box n i j) (by rw[eb,hx,hy,hz];rfl) _ _ ((s1.trans (s2.trans s3)).trans (ar.new hp _)) ?_;exact Rep.new hp (.cons (Rep.bh.mpr rfl) (.cons (Rep.bh.mpr rfl) (.cons (Rep.dG.mpr rfl) (.cons (Rep.dG.mpr rfl) .nil))))
theorem tX(T:Tx K mg t):bB P w K mg base (kO P w) 29 t.dY t.eV ["words"] (Bz K t.az PM.Dt):=by
 have iM:=rD (P:=P) (w:=w) (base:=base) T;refine T.c7.F.Cq mG (fun vs H Q E h=>?_) (fun eA A outer s H vs Q E hr h=>?_)
 ·obtain⟨_,_,rfl,_⟩:=h;rfl
 obtain⟨a,ws,rfl,ya,lw,l4,qn,qs⟩:=h;have nd:=mG.nd;refine⟨_,[some (.ref a)],(ag (bc (aH kH (a9 aU (pv 0) ah aJ) (eF (br (vs:=[.str "<",.str "="]) (by kernel_rfl))) rfl)
 (aj (cm du T.eZ rfl T.ez rfl (aa ao af au)))
 aO)
 (aj (aV (eF (aa (a9 aU (pv 0) ah aJ) (aa (a9 aU (pv 0) ah aJ) (aa (aS iM (hr.mono (by first|decide|omega)) rfl T.bR.m T.bR.F.kp T.bR.b .nil dq (aa (a9 aU (pv 0) ah aJ) af cw)) (aa (aS iM (hr.mono (by first|decide|omega)) rfl T.bR.m T.bR.F.kp T.bR.b .nil dq (aa (a9 aU (pv 0) ah aJ) af cw)) af bT) bT) cw) cw))))),rfl,?_⟩
 match ws,l4 with
 |[k,x,y,z],_=>
  have eb:PM.Dt [k,x,y,z]=if y=[60]\/y=[61] then (PM.expr x).bind fun l=>(PM.expr z).map (.cond k y l) else none:=rfl
  walk_at "rd";refine aP (.of ya) (v:=sv y) (aG (j:=2) rfl) fun p hp=>?_;have sp:=ar.new hp (.tup [V.str (zaa "<"),V.str (zaa "=")]);have hl:([V.str (zaa "<"),V.str (zaa "=")]:List V)=[[60],[61]].map sv:=by decide +kernel
  have iT:eS K (upd H p (.tup [V.str (zaa "<"),V.str (zaa "=")])) p [V.str (zaa "<"),V.str (zaa "=")]:=.of ae;generalize upd H p (.tup [V.str (zaa "<"),V.str (zaa "=")])=H0 at *;refine⟨p,_,rfl,.inr iT,rfl,rfl,_,rfl,?_⟩;rw[hl,in_words];by_cases hy:y=[60]\/y=[61]
  ·have hc:([[60],[61]]:List W).contains y=true:=by rw[zaz];simpa using hy
   rw[hc];rw[if_pos hy] at eb;rw[if_neg (show ¬((if true=true then !true else true)=true) by decide)];refine aP (.of (sp _ _ ya)) (v:=sv k) (aG (j:=0) rfl) (aP (.of (sp _ _ ya)) (v:=sv y) (aG (j:=2) rfl) (aP (.of (sp _ _ ya)) (v:=sv x) (aG (j:=1) rfl) ⟨x,rfl,zaB (lw x (by simp)) (by decide),?_⟩));cases hx:PM.expr x with
   |none=>exact fun H1 s1=>qn (by rw[eb,hx];rfl) H1 (sp.trans s1)
   |some e1=>
    intro v1 H1 s1 r1;refine aP (.of (s1 _ _ (sp _ _ ya))) (v:=sv z) (aG (j:=3) rfl) ⟨z,rfl,zaB (lw z (by simp)) (by decide),?_⟩;cases hz:PM.expr z with
    |none=>exact fun H2 s2=>qn (by rw[eb,hx,hz];rfl) H2 (sp.trans (s1.trans s2))
    |some e2=>
     intro v2 H2 s2 r2 p2 Uj;refine qs (.cond k y e1 e2) (by rw[eb,hx,hz];rfl) _ _ ((sp.trans (s1.trans s2)).trans (ar.new Uj _)) ?_;exact Rep.new Uj (.cons (Rep.bh.mpr rfl) (.cons (Rep.bh.mpr rfl) (.cons (r1.mono s2) (.cons r2 .nil))))
  ·have hc:([[60],[61]]:List W).contains y=false:=by rw[zbJ];intro z;exact hy (by rw[zaz] at z;simpa using z)
   rw[hc];rw[if_neg hy] at eb;rw[if_pos (show (if true=true then !false else false)=true by decide)];exact⟨by decide,qn eb H0 sp⟩
theorem FI(T:Tx K mg t)(C:Cd P w K t):bB P w K mg base (kO P w) 30 t.n9 t.oK ["row"] (Ma K t.az):=by
 have iM:=rD (P:=P) (w:=w) (base:=base) T;have mW:=tW (P:=P) (w:=w) (base:=base) T;have FJ:=DU (P:=P) (w:=w) (base:=base) T;have vk:=tX (P:=P) (w:=w) (base:=base) T;refine T.kR.F.Cq x8 (fun vs H Q E h=>?_) (fun eA A outer s H vs Q E hr h=>?_)
 ·obtain⟨_,rfl,_⟩:=h;rfl
 obtain⟨row,rfl,lr,qn,qs⟩:=h;have nd:=x8.nd;refine⟨_,[some (sv row),none,none],(ag (aR (i:=1) nd rfl (zam rfl) (kT zbW zcN zcO Dm (pv 0) (aa ao af au)))
 (ag (aR (i:=2) nd rfl (zam rfl) (a9 aU (pv 1) ah aJ))
 (ag (bc (aH xf (Iv (bU (v:=.ref t.c5) rfl T.yF rfl) (pv 2) ah ⟨rfl,rfl,rfl,rfl⟩) (bA cK rfl T.me PyProof.Rows.Boot.«len» (aa (pv 1) af ai)) (aW _))
 (aj (cm du T.eZ rfl T.ez rfl (aa ao af au)))
 aO)
 (ag (bc (aH cy (pv 2) ao (aW _))
 (aj (aV (aS FJ (hr.mono (by first|decide|omega)) rfl T.i4.m T.i4.F.kp T.i4.b .nil dq (aa (pv 1) af ai))))
 aO)
 (ag (bc (aH cy (pv 2) ao (aW _))
 (aj (aV (eF (aa ao (aa (aS mW (hr.mono (by first|decide|omega)) rfl T.cD.m T.cD.F.kp T.cD.b .nil dq (aa (a9 aU (pv 1) ah aJ) af cw)) af bT) au))))
 aO)
 (ag (bc (aH cy (pv 2) ao (aW _))
 (aj (aV (eF (aa ao (aa (aS mW (hr.mono (by first|decide|omega)) rfl T.cD.m T.cD.F.kp T.cD.b .nil dq (aa (a9 aU (pv 1) ah aJ) af cw)) (aa (aS iM (hr.mono (by first|decide|omega)) rfl T.bR.m T.bR.F.kp T.bR.b .nil dq (aa (a9 aU (pv 1) ah aJ) af cw)) af bT) bT) au))))
 aO)
 (ag (bc (aH cy (pv 2) ao (aW _))
 (aj (aV (eF (aa ao (aa (aS iM (hr.mono (by first|decide|omega)) rfl T.bR.m T.bR.F.kp T.bR.b .nil dq (aa (a9 aU (pv 1) ah aJ) af cw)) af bT) au))))
 aO)
 (ag (bc (aH g9 (pv 2) (eF (br (vs:=[.str "must",.str "if",.str "while"]) (by kernel_rfl))) rfl)
 (aj (aV (aS vk (hr.mono (by first|decide|omega)) rfl T.c7.m T.c7.F.kp T.c7.b .nil dq (aa (pv 1) af ai))))
 aO)
 (aj (aV (eF (aa (pv 2) af ai)))))))))))),rfl,?_⟩
 walk_at "rd";refine⟨rfl,row,32,rfl,rfl,by decide,by lia,fun a ha=>?_⟩;have EJ:=iX 32 row;have ZL:=oG 32 row;generalize ba 32 row=ws at *;have s0:=ar.new ha (.lst (ws.map sv));have ya:(upd H a (.lst (ws.map sv))) a=some (.lst (ws.map sv)):=ae;generalize upd H a (.lst (ws.map sv))=H0 at *
 match ws,EJ with
 |k::r,_=>
  have wl:∀x∈k::r,x.length<=4000000:=fun x hx=>zaB (ZL x hx) (by lia);have ev:((eB (κ:=Key) [(.inr "box",.int 4),(.inr "ask",.int 2),(.inr "put",.int 3),(.inr "say",.int 2),(.inr "must",.int 4),(.inr "if",.int 4),(.inr "else",.int 1),(.inr "while",.int 4),(.inr "end",.int 1),(.inr "stop",.int 1)] (.inr (S k))).getD (.int 0))=V.int (PM.zI k):=by
   rw[<- Mb,<- Dx,jQ,Mc,Md,Me,Pz,zJ,lh,dI,wc,G9];rfl
  have ef:PM.gk (k::r)=if PM.zI k≠r.length+1 then none else if k=PM.cQ then PM.IC (k::r) else if k=PM.uP then (PM.xT (r.getD 0 [])).map .ask else if k=PM.uQ then (PM.xT (r.getD 0 [])).bind fun n=>(PM.expr (r.getD 1 [])).map (.put n) else if k=PM.qW then (PM.expr (r.getD 0 [])).map .say else if k=PM.e9\/k=PM.cZ\/k=PM.aM then PM.Dt (k::r) else some (.one k):=rfl
  refine aP (.of ya) (v:=sv k) (aG (j:=0) rfl) ⟨_,_,rfl,C.zQ,.inr (S k),rfl,a,_,rfl,.inl (.of ya),?_⟩;rw[ev,zae,zah];refine⟨rfl,bu (fun hc=>?_) (fun hc=>⟨by decide,qn (by rw[ef,if_pos (fun z=>hc (by rw[z]))]) H0 s0⟩)⟩;have R3:PM.zI k=r.length+1:=by have:=V.int.inj hc;lia
  rw[if_neg (fun z=>z R3)] at ef;refine⟨rfl,bu (fun h1=>?_) (fun h1=>?_)⟩
  ·have e1:=(bz jQ).mp h1;rw[if_pos e1] at ef;have l4:(k::r).length=4:=by rw[zah,<- R3,e1];rfl
   exact⟨a,k::r,rfl,ya,wl,l4,fun z H1 s1=>qn (ef.trans z) H1 (s0.trans s1),fun fm z v H1 s1 rv=>qs fm (ef.trans z) v H1 (s0.trans s1) rv⟩
  have n1:k≠PM.cQ:=fun z=>h1 ((bz jQ).mpr z);rw[if_neg n1] at ef;refine⟨rfl,bu (fun h2=>?_) (fun h2=>?_)⟩
  ·have e2:=(bz Mc).mp h2;rw[if_pos e2] at ef;have l2:r.length=1:=by
    have z:PM.zI k=2:=by rw[e2];rfl
    lia
   match r,l2 with
   |[x],_=>
    refine aP (.of ya) (v:=sv x) (aG (j:=1) rfl) ⟨x,rfl,wl x (by simp),?_⟩;have OJ:PM.gk [k,x]=(PM.xT x).map .ask:=ef;cases hx:PM.xT x with
    |none=>exact fun H1 s1=>qn (by rw[OJ,hx];rfl) H1 (s0.trans s1)
    |some n=>
     intro H1 s1 p hp;refine qs (.ask x) (by rw[OJ,hx];unfold PM.xT at hx;split at hx<;>cases hx;rfl) _ _ ((s0.trans s1).trans (ar.new hp _)) ?_;exact Rep.new hp (.cons (Rep.bh.mpr rfl) (.cons (Rep.bh.mpr rfl) .nil))
  have n2:k≠PM.uP:=fun z=>h2 ((bz Mc).mpr z);rw[if_neg n2] at ef;refine⟨rfl,bu (fun h3=>?_) (fun h3=>?_)⟩
  ·have e3:=(bz Md).mp h3;rw[if_pos e3] at ef;have l3:r.length=2:=by
    have z:PM.zI k=3:=by rw[e3];rfl
    lia
   match r,l3 with
   |[x,y],_=>
    refine aP (.of ya) (v:=sv x) (aG (j:=1) rfl) ⟨x,rfl,wl x (by simp),?_⟩;have OJ:PM.gk [k,x,y]=(PM.xT x).bind fun n=>(PM.expr y).map (.put n):=ef;cases hx:PM.xT x with
    |none=>exact fun H1 s1=>qn (by rw[OJ,hx];rfl) H1 (s0.trans s1)
    |some n=>
     intro H1 s1;refine aP (.of (s1 _ _ ya)) (v:=sv y) (aG (j:=2) rfl) ⟨y,rfl,zaB (wl y (by simp)) (by decide),?_⟩;cases hy:PM.expr y with
     |none=>exact fun H2 s2=>qn (by rw[OJ,hx,hy];rfl) H2 (s0.trans (s1.trans s2))
     |some e=>
      intro v H2 s2 rv p hp;refine qs (.put x e) (by rw[OJ,hx,hy];unfold PM.xT at hx;split at hx<;>cases hx;rfl) _ _ ((s0.trans (s1.trans s2)).trans (ar.new hp _)) ?_;exact Rep.new hp (.cons (Rep.bh.mpr rfl) (.cons (Rep.bh.mpr rfl) (.cons rv .nil)))
  have n3:k≠PM.uQ:=fun z=>h3 ((bz Md).mpr z);rw[if_neg n3] at ef;refine⟨rfl,bu (fun h4=>?_) (fun h4=>?_)⟩
  ·have e4:=(bz Me).mp h4;rw[if_pos e4] at ef;have l2:r.length=1:=by
    have z:PM.zI k=2:=by rw[e4];rfl
    lia
   match r,l2 with
   |[x],_=>
    refine aP (.of ya) (v:=sv x) (aG (j:=1) rfl) ⟨x,rfl,zaB (wl x (by simp)) (by decide),?_⟩;have OJ:PM.gk [k,x]=(PM.expr x).map .say:=ef;cases hx:PM.expr x with
    |none=>exact fun H1 s1=>qn (by rw[OJ,hx];rfl) H1 (s0.trans s1)
    |some e=>
     intro v H1 s1 rv p hp;refine qs (.say e) (by rw[OJ,hx];rfl) _ _ ((s0.trans s1).trans (ar.new hp _)) ?_;exact Rep.new hp (.cons (Rep.bh.mpr rfl) (.cons rv .nil))
  have n4:k≠PM.qW:=fun z=>h4 ((bz Me).mpr z);rw[if_neg n4] at ef;intro p hp;have sp:=ar.new hp (.tup [V.str (zaa "must"),V.str (zaa "if"),V.str (zaa "while")]);have iT:eS K (upd H0 p (.tup [V.str (zaa "must"),V.str (zaa "if"),V.str (zaa "while")])) p [V.str (zaa "must"),V.str (zaa "if"),V.str (zaa "while")]:=.of ae;have hl:([V.str (zaa "must"),V.str (zaa "if"),V.str (zaa "while")]:List V)=[PM.e9,PM.cZ,PM.aM].map sv:=by rw[Pz,zJ,dI];rfl
  generalize upd H0 p (.tup [V.str (zaa "must"),V.str (zaa "if"),V.str (zaa "while")])=H1 at *;refine⟨p,_,rfl,.inr iT,rfl,rfl,_,rfl,?_⟩;rw[hl,in_words];by_cases hk:k=PM.e9\/k=PM.cZ\/k=PM.aM
  ·have WK:([PM.e9,PM.cZ,PM.aM]:List W).contains k=true:=by rw[zaz];simpa using hk
   rw[WK,if_neg zad,if_pos rfl];rw[if_pos hk] at ef;have l4:(k::r).length=4:=by
    rw[zah,<- R3];rcases hk with z |z |z<;>(rw[z];rfl)
   exact⟨a,k::r,rfl,sp _ _ ya,wl,l4,fun z H2 s2=>qn (ef.trans z) H2 (s0.trans (sp.trans s2)),fun fm z v H2 s2 rv=>qs fm (ef.trans z) v H2 (s0.trans (sp.trans s2)) rv⟩
  ·have WK:([PM.e9,PM.cZ,PM.aM]:List W).contains k=false:=by rw[zbJ];intro z;exact hk (by rw[zaz] at z;simpa using z)
   rw[WK,if_neg zad,if_neg zad];rw[if_neg hk] at ef;intro p2 Uj;exact qs (.one k) ef _ _ ((s0.trans sp).trans (ar.new Uj _)) (Rep.new Uj (.cons (Rep.bh.mpr rfl) .nil))
theorem MH(T:Tx K mg t){n:Nat}(gZ:bB P w K mg base kN n t.gA t.hV ["e"] (nY K n)) :
 bB P w K mg base kN (n+1) t.gA t.hV ["e"] (nY K (n+1)):=by
 refine T.bC.F.v7 vM (fun vs H Q E h=>?_) (fun eA A outer s H vs Q E hr h=>?_)
 ·obtain⟨_,_,rfl,_⟩:=h;rfl
 obtain⟨v,tr,rfl,hv,op,ht,hl,q⟩:=h;have nd:=vM.nd;refine⟨_,[some v],(ag (bc (aH cy (a9 dP (pv 0) ah aJ) ao (aW _))
 (aj (aV (aA af)))
 aO)
 (ag (bc (aH cy (a9 dP (pv 0) ah aJ) ao (aW _))
 (aj (aV (aA (aa (a9 dP (pv 0) ah aJ) af cw))))
 aO)
 (aj (aV (aF cW (aS gZ (hr.mono (by first|decide|omega)) rfl T.bC.m T.bC.F.kp T.bC.b .nil cn (aa (a9 dP (pv 0) ah aJ) af cw)) (aS gZ (hr.mono (by first|decide|omega)) rfl T.bC.m T.bC.F.kp T.bC.b .nil cn (aa (a9 dP (pv 0) ah aJ) af cw))))))),rfl,?_⟩
 have n1:¬("box":Str) = "number":=by decide +kernel
 cases tr with
 |num m=>
  unfold pE at hv;simp only[Rep.cq,bf.bP,bf.cj,Rep.bh,Rep.dG] at hv;obtain⟨a,xs,rfl,hS,_,_,rfl,rfl,_,_,rfl,rfl,rfl⟩:=hv;walk_at "rd";refine cE hS rfl ?_;walk_at "rd";rw[if_pos trivial];intro l MF;exact q l _ (ar.new MF _) MF ae
 |box x=>
  unfold pE at hv;simp only[Rep.cq,bf.bP,bf.cj,Rep.bh,Rep.dG] at hv;obtain⟨a,xs,rfl,hS,_,_,rfl,rfl,_,_,rfl,rfl,rfl⟩:=hv;walk_at "rd";refine cE hS rfl ?_;walk_at "rd";rw[if_neg n1];refine cE hS rfl ?_;walk_at "rd";rw[if_pos trivial];refine cE hS rfl fun l MF=>?_;exact q l _ (ar.new MF _) MF ae
 |bin o l r=>
  unfold pE at hv;simp only[Rep.cq,bf.bP,bf.cj,Rep.bh,Rep.dG] at hv;obtain⟨a,xs,rfl,hS,_,_,rfl,rfl,vl,_,rfl,ZM,vr,_,rfl,DT,rfl⟩:=hv;obtain⟨ho,ol,or'⟩:=op;have n2:¬S o = "number":=by rcases ho with rfl |rfl |rfl<;>decide +kernel
  have n3:¬S o = "box":=by rcases ho with rfl |rfl |rfl<;>decide +kernel
  have eN:PM.jP (.bin o l r)=PM.jP l++PM.jP r:=rfl;rw[eN] at q hl;rw[zaf] at hl;rw[PG.xC] at ht;walk_at "rd";refine cE hS rfl ?_;walk_at "rd";rw[if_neg n2];refine cE hS rfl ?_;walk_at "rd";rw[if_neg n3];refine cE hS rfl ⟨vl,l,rfl,ZM,ol,by lia,by lia,fun l1 H1 s1 f1 y1=>?_⟩;refine cE (s1.kU hS) rfl ⟨vr,r,rfl,DT.mono s1,or',by lia,by lia,fun l2 H2 s2 f2 y2=>?_⟩;refine⟨l1,l2,_,_,rfl,rfl,s2 _ _ y1,y2,by rw[zae,zae];exact zaB hl (by decide),fun l3 f3=>?_⟩;refine q l3 _ ((s1.trans s2).trans (ar.new f3 _)) (dR (s1.trans s2) f3) ?_;rw[ae,zat]
theorem Bc(T:Tx K mg t):∀n,bB P w K mg base kN n t.gA t.hV ["e"] (nY K n)
 |0=>by
  have no:∀vs H Q E,¬nY K 0 vs H Q E:=fun vs H Q E h=>by cases h;lia
  exact⟨fun vs H Q E h=>(no vs H Q E h).elim,fun _ _ _ _ _ _ _ _ _ _ _ _ _ h=>(no _ _ _ _ h).elim⟩
 |n+1=>MH T (Bc T n)
theorem zS(T:Tx K mg t):bB P w K mg base kN 1 t.cY t.ni ["self"] (Dz K t.bj):=by
 refine T.kM.v7 rB (fun vs H Q E h=>?_) (fun eA A outer s H vs Q E hr h=>?_)
 ·obtain⟨_,_,rfl,_⟩:=h;rfl
 obtain⟨p,dx,rfl,yp,yd,q⟩:=h;have nd:=rB.nd;refine⟨_,[some (.ref p)],(ag (xm (pv 0) (aA af) rfl)
 (ag (xm (pv 0) (aA af) rfl)
 (aj (xm (pv 0) (aA af) rfl)))),rfl,?_⟩
 walk_at "rd";intro bx fx;have n1:p≠bx:=aI yp fx;refine⟨p,_,dx,[],rfl,by rw[aq n1];exact yp,T.bQ,T.di,by decide,fun bd fb=>?_⟩;have n2:bd≠p:=fun z=>by rw[z,ae] at fb;cases fb
 have f2:upd H bx (.lst []) bd=none:=by rw[aq n2] at fb;exact fb
 have n3:bd≠bx:=fun z=>by rw[z,ae] at f2;cases f2
 have f3:H bd=none:=by rw[aq n3] at f2;exact f2
 refine⟨p,_,dx,[("boxes",.ref bx)],rfl,by rw[aq (Ne.symm n2),ae];rfl,T.bQ,T.eR,by show 1<1000;decide,fun ns fn=>?_⟩;have n4:ns≠p:=fun z=>by rw[z,ae] at fn;cases fn
 rw[aq n4] at fn;have n5:ns≠bd:=fun z=>by rw[z,ae] at fn;cases fn
 rw[aq n5,aq n4] at fn;have n6:ns≠bx:=fun z=>by rw[z,ae] at fn;cases fn
 rw[aq n6] at fn;refine⟨p,_,dx,[("boxes",.ref bx),("body",.ref bd)],rfl,by rw[aq (Ne.symm n4),ae];rfl,T.bQ,T.bD,by show 2<1000;decide,?_⟩;generalize hF:upd _ p _=Hf;have up:bN p H Hf:=fun b o nb e=>by rw[<- hF,aq nb,aq (aI e fn),aq nb,aq (aI e f3),aq nb,aq (aI e fx)];exact e
 have y1:Hf bx=some (.lst []):=by rw[<- hF,aq (Ne.symm n1),aq (Ne.symm n6),aq (Ne.symm n1),aq (Ne.symm n3),aq (Ne.symm n1),ae]
 have y2:Hf bd=some (.lst []):=by rw[<- hF,aq n2,aq (Ne.symm n5),aq n2,ae]
 have y3:Hf ns=some (.lst []):=by rw[<- hF,aq n4,ae]
 have y4:Hf p=some (.ins t.bj dx [("boxes",.ref bx),("body",.ref bd),("nest",.ref ns)]):=by rw[<- hF,ae];rfl
 refine q (fun b=>b=bx\/b=bd\/b=ns) bx bd ns _ (fun b hb=>by rcases hb with rfl |rfl |rfl<;>assumption) up ?_;exact {own:=fun b hb=>by rcases hb with rfl |rfl |rfl<;>exact⟨[],by assumption,zai _⟩,EL:=.inl rfl,Nw:=.inr (.inl rfl),AZ:=.inr (.inr rfl),d1:=Ne.symm n3,d2:=Ne.symm n6,d3:=Ne.symm n5,ins:=⟨dx,y4⟩,box:=⟨[],y1,BA.nil⟩,Ny:=⟨[],y2,by simp⟩,EM:=⟨[],y3,BA.nil⟩,nb:=fun z=>absurd rfl z}
theorem wK{α:Type}{l:List α}{x:α}(h:l.getLast?=some x):Gs l (-1)=some x:=by
 obtain⟨ys,e⟩:=zbC.mp h;rw[e];exact CG _ _
theorem sI(T:Tx K mg t):bB P w K mg base kN 1 t.bX t.gB ["self"] (Hd K t.bj):=by
 refine T.eX.v7 lF (fun vs H Q E h=>?_) (fun eA A outer s H vs Q E hr h=>?_)
 ·obtain⟨_,_,_,_,_,_,_,rfl,_⟩:=h;rfl
 obtain⟨O,p,bx,bd,ns,d,m,rfl,dr,q⟩:=h;have nd:=lF.nd;refine⟨_,[some (.ref p)],(ag (bc (pP (da (pv 0) rfl) (fun _=>rfl))
 (aj (aV (a9 dP (a9 aU (da (pv 0) rfl) (xb rN ah) KU) ah aJ)))
 aO)
 (aj (aV (da (pv 0) rfl)))),rfl,?_⟩
 walk_at "rd";obtain⟨dx,yp⟩:=dr.ins;obtain⟨us,yn,ix⟩:=dr.EM;refine⟨p,_,dx,_,.ref ns,rfl,yp,T.bQ,T.bD,rfl,_,.inl ⟨us,.of yn,rfl⟩,?_⟩;cases hk:d.fV.getLast? with
 |none=>
  have ek:d.fV=[]:=zba.mp hk;have eu:us=[]:=zaU.mp (by rw[ix.1,ek];rfl);subst eu;exact⟨p,_,dx,_,.ref bd,rfl,yp,T.bQ,T.eR,rfl,q bd ⟨dr.Nw,Ne.symm dr.d1,dr.d3⟩ fun _=>rfl⟩
 |some k=>
  obtain⟨u,hu,a,L,x,rfl,hS,hL,_⟩:=ix.last hk;have eu:us.isEmpty=false:=by cases us with
   |nil=>cases hu
   |cons=>rfl
  rw[eu];refine⟨p,_,dx,_,.ref ns,rfl,yp,T.bQ,T.bD,rfl,1,rfl,aP (.of yn) (v:=.ref a) (wK hu) (cE hS rfl (q L hL fun z=>?_))⟩;rw[z] at hk;cases hk
theorem wq(T:Tx K mg t):bB P w K mg base kN 1 t.bI t.fA ["self"] (Dy K t.bj):=by
 refine T.dM.v7 jR (fun vs H Q E h=>?_) (fun eA A outer s H vs Q E hr h=>?_)
 ·obtain⟨_,_,_,_,_,_,_,rfl,_⟩:=h;rfl
 obtain⟨O,p,bx,bd,ns,d,m,rfl,dr,q1,q2⟩:=h;have nd:=jR.nd;refine⟨_,[some (.ref p)],(ag (bc (pP (da (pv 0) rfl) (fun _=>rfl))
 (aj (aV (a9 dP (a9 aU (da (pv 0) rfl) (xb rN ah) KU) ah aJ)))
 aO)
 (aj (aV wY))),rfl,?_⟩
 walk_at "rd";obtain⟨dx,yp⟩:=dr.ins;obtain⟨us,yn,ix⟩:=dr.EM;refine⟨p,_,dx,_,.ref ns,rfl,yp,T.bQ,T.bD,rfl,_,.inl ⟨us,.of yn,rfl⟩,?_⟩;cases hk:d.fV.getLast? with
 |none=>
  have ek:d.fV=[]:=zba.mp hk;have eu:us=[]:=zaU.mp (by rw[ix.1,ek];rfl);subst eu;exact q2 (by rw[hk];intro z;cases z)
 |some k=>
  obtain⟨u,hu,a,L,x,rfl,hS,hL,hx⟩:=ix.last hk;have eu:us.isEmpty=false:=by cases us with
   |nil=>cases hu
   |cons=>rfl
  rw[eu];refine⟨p,_,dx,_,.ref ns,rfl,yp,T.bQ,T.bD,rfl,1,rfl,aP (.of yn) (v:=.ref a) (wK hu) (cE hS rfl ?_)⟩;cases k with
  |true=>
   obtain⟨L2,rfl,h2⟩:=hx;exact q1 hk L2 h2
  |false=>
   cases (show x=.dB from hx);exact q2 (by rw[hk];intro z;cases z)
theorem qy(T:Tx K mg t):bB P w K mg base kN 1 t.bY t.gC ["self"] (xW K t.bj):=by
 refine T.eY.v7 lG (fun vs H Q E h=>?_) (fun eA A outer s H vs Q E hr h=>?_)
 ·obtain⟨_,_,_,_,_,_,_,rfl,_⟩:=h;rfl
 obtain⟨O,p,bx,bd,ns,d,m,rfl,dr,lm,q⟩:=h;have nd:=lG.nd;refine⟨_,[some (.ref p)],(aj (aV (tm (own:=["box"]) (ix:=[]) rfl (by rfl) (by rfl) (qO (da (pv 0) rfl)) (fun _ _ _ _=>(cJ (i:=0) (by show List.Nodup (["box"]:List Str);decide +kernel) rfl (zam rfl))) (fun _ _ _ _=>wG) (fun _ _ _ _=>(a9 (Oj (K:=K) rfl) (pv 0) ah aJ))))),rfl,?_⟩;walk_at "rd";obtain⟨dx,yp⟩:=dr.ins;obtain⟨us,yb,ix⟩:=dr.box;have lu:us.length<=m:=by
  obtain⟨zs,e,l⟩:=dr.own _ dr.EL;rw[yb] at e;cases e;exact l
 refine⟨p,_,dx,_,.ref bx,rfl,yp,T.bQ,T.di,rfl,?_⟩;refine⟨bx,rfl,⟨us,.of yb⟩,fun D hD=>?_⟩;refine AU (K:=K) (fun i=>sv (d.j1.getD i [])) (.of yb) (by lia) hD (fun i x H2 hx s2 R hR=>?_) (fun H2 s2 y2=>q D H2 s2 hD ?_)
 ·have li:i<us.length:=(zap.mp hx).1;have XM:i<d.j1.length:=by rw[<- ix.1];exact li
  obtain⟨a,r,rfl,hS⟩:=ix.2 i d.j1[i] x (zag XM) hx;walk_at "rd";refine cE (s2.kU hS) (v:=sv d.j1[i]) (aG (j:=0) rfl) ?_;rw[zaA,zag XM] at hR;exact hR
 ·rw[y2]
  congr 2
  refine List.ext_getElem (by simp[ix.1]) fun i h1 h2=>?_;simp at h1 h2 ⊢;rw[zag h2];rfl
def MJ (t:Ad):PM.Er->zc9
 |.rm=>t.az
 |.qR=>t.ax
 |.qS=>t.aw
 |.wN=>t.ay
 |.qT=>t.ak
 |.twice=>t.aK
 |.xU=>t.aY
 |.full=>t.aX
 |.G7=>t.aL
def RD:Sp:=fun vs H Q _=>∃a b:Int,vs=[.int a,.int b]/\Q (.bl (decide (2<=a/\a<=10/\b<a))) H
theorem yT(T:Tx K mg t):bB P w K mg base kN 1 t.gn t.iq ["size", "first"] RD:=by
 refine T.eP.F.v7 qk (fun vs H Q E h=>?_) (fun eA A outer s H vs Q E hr h=>?_)
 ·obtain⟨_,_,rfl,_⟩:=h;rfl
 obtain⟨a,b,rfl,q⟩:=h;have nd:=qk.nd;obtain⟨OK,BY,BZ⟩:=T.zP;obtain⟨PF,DV,DW⟩:=T.BP;refine⟨_,[some (.int a),some (.int b)],(aj (aV (uy (sW vv vv (bU rfl BY BZ) (pv 0) (bU rfl DV DW)) (w6 (fN xg (pv 1) (pv 0) (aW _)))))),rfl,?_⟩;walk_at "rd";by_cases h1:2<=a
 ·rw[if_pos h1];by_cases h2:a<=10
  ·rw[if_pos h2];have e:decide (2<=a/\a<=10/\b<a)=decide (b<a):=by simp[h1,h2]
   rw[e] at q;exact q
  ·rw[if_neg h2];rw[decide_eq_false (fun z=>h2 z.2.1)] at q;exact q
 ·rw[if_neg h1,if_neg zad];rw[decide_eq_false (fun z=>h1 z.1)] at q;exact q
theorem DX(T:Tx K mg t):bB P w K mg base (kO P w) 2 t.lK t.mK ["draft", "number", "box"] (He K t.bj (MJ t)):=by
 have zT:=yT (P:=P) (w:=w) (base:=base) T;have iN:=qy (P:=P) (w:=w) (base:=base) T;refine T.ja.F.Cq vQ (fun vs H Q E h=>?_) (fun eA A outer s H vs Q E hr h=>?_)
 ·obtain⟨_,_,_,_,_,_,_,_,_,_,_,_,rfl,_⟩:=h;rfl
 obtain⟨O,p,bx,bd,ns,d,m,k,v,n,a,b,rfl,dr,lm,lk,rv,q⟩:=h;have nd:=vQ.nd;obtain⟨OL,B0,B1⟩:=T.zO;refine⟨_,[some (.ref p),some (.int k),some v],(ag (bc (pP (da (pv 0) rfl) (fun _=>rfl))
 (aj (cm du T.og rfl T.oN rfl (aa (mF (.cons ao (.cons (tK (pv 1)) (.cons ao .nil)))) af mC)))
 aO)
 (ag (bc (w5 (ux (aS zT (hr.mono (by first|decide|omega)) rfl T.eP.m T.eP.F.kp T.eP.b .nil cn (aa (a9 dP (pv 2) ah aJ) (aa (a9 dP (pv 2) ah aJ) af cw) cw))))
 (aj (cm du T.qr rfl T.tU rfl (aa (mF (.cons ao (.cons (tK (pv 1)) (.cons ao .nil)))) af mC)))
 aO)
 (ag (bc (aH g9 (a9 dP (pv 2) ah aJ) (dO (pv 0) T.bQ T.mS iN (hr.mono (by first|decide|omega)) T.mQ .nil cn) rfl)
 (aj (cm du T.BG rfl T.DL rfl (aa (mF (.cons ao (.cons (tK (pv 1)) (.cons ao .nil)))) af mC)))
 aO)
 (ag (bc (aH cy (bA cK rfl T.me PyProof.Rows.Boot.«len» (aa (da (pv 0) rfl) af tw)) (bU rfl B0 B1) (aW _))
 (aj (cm du T.Fx rfl T.Hq rfl (aa (mF (.cons ao (.cons (tK (pv 1)) (.cons ao .nil)))) af mC)))
 aO)
 (aj (cF (kT zaC zaH zaI c6 (da (pv 0) rfl) (aa (pv 2) af ai)))))))),rfl,?_⟩
 walk_at "rd";obtain⟨dx,yp⟩:=dr.ins;obtain⟨ys,yb,hb⟩:=dr.Ny;simp only[Rep.cq,bf.bP,bf.cj,Rep.bh,Rep.dG] at rv;obtain⟨va,xs,rfl,hS,_,_,rfl,rfl,_,_,rfl,rfl,_,_,rfl,rfl,rfl⟩:=rv;refine⟨p,_,dx,_,.ref bd,rfl,yp,T.bQ,T.eR,rfl,_,.inl ⟨ys,.of yb,rfl⟩,?_⟩;unfold PM.By at q;cases zU:d.Dv with
 |true=>
  have e:ys.isEmpty=false:=by
   cases ys with
   |nil=>exact absurd (hb.mp rfl) (by rw[zU];decide)
   |cons=>rfl
  rw[e,if_pos (show (!false)=true from rfl)];rw[zU] at q;exact se lk (by decide) (by decide) (q H bG.refl)
 |false=>
  cases hb.mpr zU;rw[zU,if_neg zad] at q;rw[if_neg (show ¬(!([]:List V).isEmpty)=true by decide)];refine cE hS (v:=.int a) (aG (j:=1) rfl) (cE hS (v:=.int b) (aG (j:=2) rfl) ⟨a,b,rfl,_,rfl,?_⟩);by_cases hm:2<=a/\a<=10/\b<a
  ·rw[decide_eq_true hm,if_neg (show ¬(!true)=true by decide)];rw[if_neg (fun z=>z hm)] at q;refine cE hS (v:=sv n) (aG (j:=0) rfl) ?_;refine⟨p,dx,_,rfl,yp,rfl,O,p,bx,bd,ns,d,m,rfl,dr,lm,fun l H2 s2 fl yl=>?_⟩;refine⟨l,_,rfl,.inl (.of yl),rfl,by rw[zb5];exact za0.mpr fun _ _=>rfl,_,rfl,?_⟩;rw[if_neg zad,in_words];have u2:bG O H H2:=.of s2;by_cases hn:n∈d.j1
   ·rw[if_pos hn] at q;rw[if_pos (zaz.mpr hn)];exact se lk (by decide) (by decide) (q H2 u2)
   rw[if_neg hn] at q;rw[if_neg (fun z=>hn (zaz.mp z))];have Si:=dr.mono s2;obtain⟨us,yx,ix⟩:=Si.box;have lu:us.length<=m:=by
    obtain⟨zs,e,l⟩:=Si.own _ dr.EL;rw[yx] at e;cases e;exact l
   refine⟨p,_,dx,_,.ref bx,rfl,s2 _ _ yp,T.bQ,T.di,rfl,bx,us,rfl,.inl (.of yx),?_⟩;rw[ix.1];by_cases h4:d.j1.length=4
   ·rw[if_pos h4] at q;rw[if_pos (by rw[h4];rfl)];exact se lk (by decide) (by decide) (q H2 u2)
   rw[if_neg h4] at q;rw[if_neg (fun z=>h4 (by lia))];have line:zdh=2 ^ 24:=rfl;refine⟨p,_,dx,_,.ref bx,rfl,s2 _ _ yp,T.bQ,T.di,rfl,.inl ⟨rfl,_,.of yx⟩,bx,us,.ref va,rfl,rfl,yx,by lia,?_⟩;refine q O _ (fun b z=>.inl z) (u2.put dr.EL _) ?_;have z:=(Si.boxed yx (n:=n) (x:=.ref va) ⟨va,_,rfl,s2.kU hS⟩).more (k:=m+2) (by lia);rw[zU] at z;exact z
  ·rw[decide_eq_false hm,if_pos (show (!false)=true from rfl)];rw[if_pos hm] at q;exact se lk (by decide) (by decide) (q H bG.refl)
theorem DY(T:Tx K mg t):bB P w K mg base (kO P w) 2 t.lL t.mL ["draft", "number"] (xX K t.bj (MJ t) PM.xV):=by
 refine T.jb.F.Cq vR (fun vs H Q E h=>?_) (fun eA A outer s H vs Q E hr h=>?_)
 ·obtain⟨_,_,_,_,_,_,_,_,rfl,_⟩:=h;rfl
 obtain⟨O,p,bx,bd,ns,d,m,k,rfl,dr,lm,lk,q⟩:=h;have nd:=vR.nd;refine⟨_,[some (.ref p),some (.int k)],(ag (bc (w5 (pP (da (pv 0) rfl) (fun _=>rfl)))
 (aj (cm du T.og rfl T.oN rfl (aa (mF (.cons ao (.cons (tK (pv 1)) (.cons ao .nil)))) af mC)))
 aO)
 (aj (cF (E6 zaC zb0 zb1 E8 (da (pv 0) rfl))))),rfl,?_⟩
 walk_at "rd";obtain⟨dx,yp⟩:=dr.ins;obtain⟨us,yn,ix⟩:=dr.EM;have lu:us.length<=m:=by
  obtain⟨zs,e,l⟩:=dr.own _ dr.AZ;rw[yn] at e;cases e;exact l
 refine⟨p,_,dx,_,.ref ns,rfl,yp,T.bQ,T.bD,rfl,_,.inl ⟨us,.of yn,rfl⟩,?_⟩;unfold PM.xV at q;cases hk:d.fV.getLast? with
 |none=>
  have ek:d.fV=[]:=zba.mp hk;have eu:us=[]:=zaU.mp (by rw[ix.1,ek];rfl);subst eu;rw[if_pos ek] at q;rw[if_pos (show (!(!([]:List V).isEmpty))=true from rfl)];exact se lk (by decide) (by decide) (q H bG.refl)
 |some b=>
  obtain⟨u,hu,fu⟩:=ix.last hk;have ek:d.fV≠[]:=fun z=>by rw[z] at hk;cases hk
  rw[if_neg ek] at q;have ee:us.isEmpty=false:=by cases us with
   |nil=>cases hu
   |cons=>rfl
  rw[ee,if_neg (show ¬(!(!false))=true by decide)];refine⟨p,_,dx,_,.ref ns,rfl,yp,T.bQ,T.bD,rfl,.inl ⟨rfl,_,.of yn⟩,ns,us,u,rfl,rfl,yn,by rw[<- za1];exact hu,?_⟩;refine q O _ (fun b z=>.inl z) (bG.refl.put dr.AZ _) ?_;exact(dr.j6 (fun _ z=>z) (fun _ z=>.inl z) (by rw[zaW];lia) ix.drop (fun _=>dr.nb ek)).more (by lia)
theorem B2(T:Tx K mg t):bB P w K mg base (kO P w) 2 t.jT t.kJ ["draft", "number"] (xX K t.bj (MJ t) PM.o7):=by
 have qZ:=wq (P:=P) (w:=w) (base:=base) T;refine T.ib.F.Cq tP (fun vs H Q E h=>?_) (fun eA A outer s H vs Q E hr h=>?_)
 ·obtain⟨_,_,_,_,_,_,_,_,rfl,_⟩:=h;rfl
 obtain⟨O,p,bx,bd,ns,d,m,k,rfl,dr,lm,lk,q⟩:=h;have nd:=tP.nd;refine⟨_,[some (.ref p),some (.int k),none],(ag (aR (i:=2) nd rfl (zam rfl) (dO (pv 0) T.bQ T.qY qZ (hr.mono (by first|decide|omega)) T.qX .nil cn))
 (ag (bc (aH Qy (pv 2) wY (aW _))
 (aj (cm du T.og rfl T.oN rfl (aa (mF (.cons ao (.cons (tK (pv 1)) (.cons ao .nil)))) af mC)))
 aO)
 (ag (cF (E6 zaC zb0 zb1 E8 (da (pv 0) rfl)))
 (aj (cF (kT zaC zaH zaI c6 (da (pv 0) rfl) (aa (eF (aa (pv 2) (aa wY af au) ai)) af Fb))))))),rfl,?_⟩
 walk_at "rd";obtain⟨dx,yp⟩:=dr.ins;obtain⟨us,yn,ix⟩:=dr.EM;have lu:us.length<=m:=by
  obtain⟨zs,e,l⟩:=dr.own _ dr.AZ;rw[yn] at e;cases e;exact l
 refine⟨p,dx,_,rfl,yp,rfl,O,p,bx,bd,ns,d,m,rfl,dr,fun hk L hL=>?_,fun hk=>?_⟩
 ·unfold PM.o7 at q;rw[if_pos hk] at q;obtain⟨u,hu,fu⟩:=ix.last hk;have ek:d.fV≠[]:=fun z=>by rw[z] at hk;cases hk
  have line:zdh=2 ^ 24:=rfl;rw[if_neg (fun z=>by cases z)];refine⟨p,_,dx,_,.ref ns,rfl,yp,T.bQ,T.bD,rfl,.inl ⟨rfl,_,.of yn⟩,ns,us,u,rfl,rfl,yn,by rw[<- za1];exact hu,?_⟩;have ZN:=dr.j6 (fun _ z=>z) (fun _ z=>.inl z) (us:=us.dropLast) (by rw[zaW];lia) ix.drop (fun _=>dr.nb ek);have u1:bG O H (upd H ns (.lst us.dropLast)):=bG.refl.put dr.AZ _;have ZO:(upd H ns (.lst us.dropLast)) p=some (.ins t.bj dx [("boxes",.ref bx),("body",.ref bd),("nest",.ref ns)]):=by rw[aq (dr.T8 dr.AZ)];exact yp
  have WL:(upd H ns (.lst us.dropLast)) ns=some (.lst us.dropLast):=ae;generalize upd H ns (.lst us.dropLast)=H1 at *;refine⟨p,_,dx,_,.ref ns,rfl,ZO,T.bQ,T.bD,rfl,.inl ⟨rfl,_,.of WL⟩,fun g hg=>?_⟩;have sg:=ar.new hg (.tup [V.ref L,V.dB]);have ig:eS K (upd H1 g (.tup [V.ref L,V.dB])) g [V.ref L,V.dB]:=.of ae;have u2:=u1.new hg (.tup [V.ref L,V.dB]);generalize upd H1 g (.tup [V.ref L,V.dB])=H2 at *;have Si:=ZN.mono sg;obtain⟨us2,y2,ZP⟩:=Si.EM;rw[sg _ _ WL] at y2;cases y2;refine⟨ns,us.dropLast,.ref g,rfl,rfl,sg _ _ WL,by rw[zaW];lia,?_⟩;refine q O _ (fun b z=>.inl z) (u2.put dr.AZ _) ?_;exact Si.j6 (fun _ z=>z) (fun _ z=>.inl z) (by rw[zaf,zaW,zau];lia) (ZP.snoc ⟨g,L,.dB,rfl,ig,hL,rfl⟩) (fun _=>dr.nb ek)
 ·unfold PM.o7 at q;rw[if_neg hk] at q;rw[if_pos rfl];exact se lk (by decide) (by decide) (q H bG.refl)
theorem zV(T:Tx K mg t):bB P w K mg base kN 1 t.iu t.jH ["word"] Mg:=by
 refine T.fU.F.v7 rA (fun vs H Q E h=>?_) (fun eA A outer s H vs Q E hr h=>?_)
 ·obtain⟨_,rfl,_⟩:=h;rfl
 obtain⟨k,rfl,q⟩:=h;have nd:=rA.nd;refine⟨_,[some (sv k)],(ag (bc (aH cy (pv 0) ao (aW _))
 (aj (aV (aA (aa (aA af) (aa (aA af) af bM) bM))))
 aO)
 (ag (bc (aH cy (pv 0) ao (aW _))
 (aj (aV (aA (aa (aA af) af bM))))
 aO)
 (aj (aV (aA af))))),rfl,?_⟩
 walk_at "rd";refine⟨rfl,bu (fun h1=>?_) (fun h1=>?_)⟩
 ·have e1:=(bz zJ).mp h1;intro b f1 c f2 l f3;have s1:=ar.new f1 (.lst []);have s2:=ar.new f2 (.lst []);have s3:=ar.new f3 (.lst [V.ref b,V.ref c]);have y1:(upd H b (.lst [])) b=some (.lst []):=ae;have y2:(upd (upd H b (.lst [])) c (.lst [])) c=some (.lst []):=ae;refine q [b,c] l _ (s1.trans (s2.trans s3)) (dR (s1.trans s2) f3) ae (by unfold T9;rw[if_pos e1];rfl) fun x hx=>?_;rcases zaj.mp hx with rfl |hx
  ·exact⟨f1,s3 _ _ (s2 _ _ y1)⟩
  ·cases zal.mp hx;exact⟨dR s1 f2,s3 _ _ y2⟩
 have n1:k≠PM.cZ:=fun z=>h1 ((bz zJ).mpr z);refine⟨rfl,bu (fun h2=>?_) (fun h2=>?_)⟩
 ·have e2:=(bz dI).mp h2;intro b f1 l f3;have s1:=ar.new f1 (.lst []);have s3:=ar.new f3 (.lst [V.ref b]);have y1:(upd H b (.lst [])) b=some (.lst []):=ae;refine q [b] l _ (s1.trans s3) (dR s1 f3) ae (by unfold T9;rw[if_neg n1,if_pos e2];rfl) fun x hx=>?_;cases zal.mp hx;exact⟨f1,s3 _ _ y1⟩
 have n2:k≠PM.aM:=fun z=>h2 ((bz dI).mpr z);intro l f3;exact q [] l _ (ar.new f3 _) f3 ae (by unfold T9;rw[if_neg n1,if_neg n2];rfl) fun x hx=>by cases hx
theorem vm(T:Tx K mg t):bB P w K mg base kN 61 t.eM t.fS ["form"] (DA K):=by
 have gZ:=Bc (P:=P) (w:=w) (base:=base) T 60;refine T.dw.F.v7 nZ (fun vs H Q E h=>?_) (fun eA A outer s H vs Q E hr h=>?_)
 ·obtain⟨_,_,rfl,_⟩:=h;rfl
 obtain⟨v,f,rfl,rv,pI,q⟩:=h;have nd:=nZ.nd;refine⟨_,[some v,none],(ag (aR (i:=1) nd rfl (zam rfl) (a9 dP (pv 0) ah aJ))
 (ag (bc (aH cy (pv 1) ao (aW _))
 (aj (aV (aA (aa (a9 dP (pv 0) ah aJ) af cw))))
 aO)
 (ag (bc (aH cy (pv 1) ao (aW _))
 (aj (aV (aF cW (aA (aa (a9 dP (pv 0) ah aJ) af cw)) (aS gZ (hr.mono (by first|decide|omega)) rfl T.bC.m T.bC.F.kp T.bC.b .nil cn (aa (a9 dP (pv 0) ah aJ) af cw)))))
 aO)
 (ag (bc (aH cy (pv 1) ao (aW _))
 (aj (aV (aS gZ (hr.mono (by first|decide|omega)) rfl T.bC.m T.bC.F.kp T.bC.b .nil cn (aa (a9 dP (pv 0) ah aJ) af cw))))
 aO)
 (ag (bc (aH cy (pv 1) ao (aW _))
 (aj (aV (aA af)))
 aO)
 (aj (aV (aF cW (aS gZ (hr.mono (by first|decide|omega)) rfl T.bC.m T.bC.F.kp T.bC.b .nil cn (aa (a9 dP (pv 0) ah aJ) af cw)) (aS gZ (hr.mono (by first|decide|omega)) rfl T.bC.m T.bC.F.kp T.bC.b .nil cn (aa (a9 dP (pv 0) ah aJ) af cw)))))))))),rfl,?_⟩
 have line:zdh=2 ^ 24:=rfl;walk_at "rd";cases f with
 |box n a b=>exact pI.elim
 |ask n=>
  unfold Dw at rv;simp only[Rep.cq,bf.bP,bf.cj,Rep.bh] at rv;obtain⟨a,xs,rfl,hS,_,_,rfl,rfl,_,_,rfl,rfl,rfl⟩:=rv;refine cE hS rfl ⟨rfl,?_⟩;rw[if_pos rfl];exact cE hS rfl fun l fl=>q l _ (ar.new fl _) fl ae
 |put n e=>
  unfold Dw at rv;simp only[Rep.cq,bf.bP,bf.cj,Rep.bh] at rv;obtain⟨a,xs,rfl,hS,_,_,rfl,rfl,_,_,rfl,rfl,ve,_,rfl,re,rfl⟩:=rv;obtain⟨_,o1,o2,o3⟩:=pI;refine cE hS rfl ⟨rfl,?_⟩;rw[if_neg (by decide +kernel)];refine⟨rfl,?_⟩;rw[if_pos rfl];refine cE hS rfl fun l1 f1=>?_;have s1:=ar.new f1 (.lst [V.str (S n)]);have y1:(upd H l1 (.lst [V.str (S n)])) l1=some (.lst [V.str (S n)]):=ae;generalize upd H l1 (.lst [V.str (S n)])=H1 at *;refine cE (s1.kU hS) rfl ⟨ve,e,rfl,re.mono s1,o1,o2,by lia,fun l2 H2 s2 f2 y2=>?_⟩;refine⟨l1,l2,_,_,rfl,rfl,s2 _ _ y1,y2,by rw[zae];show 1+_<=_;lia,fun l3 f3=>?_⟩;exact q l3 _ ((s1.trans s2).trans (ar.new f3 _)) (dR (s1.trans s2) f3) ae
 |say e=>
  unfold Dw at rv;simp only[Rep.cq,bf.bP,bf.cj,Rep.bh] at rv;obtain⟨a,xs,rfl,hS,_,_,rfl,rfl,ve,_,rfl,re,rfl⟩:=rv;obtain⟨o1,o2,o3⟩:=pI;refine cE hS rfl ⟨rfl,?_⟩;rw[if_neg (by decide +kernel)];refine⟨rfl,?_⟩;rw[if_neg (by decide +kernel)];refine⟨rfl,?_⟩;rw[if_pos rfl];exact cE hS rfl ⟨ve,e,rfl,re,o1,o2,by lia,q⟩
 |one k=>
  unfold Dw at rv;simp only[Rep.cq,bf.bP,bf.cj,Rep.bh] at rv;obtain⟨a,xs,rfl,hS,_,_,rfl,rfl,rfl⟩:=rv;cases (show k=PM.dW from pI);rw[<- G9] at hS;refine cE hS rfl ⟨rfl,?_⟩;rw[if_neg (by decide +kernel)];refine⟨rfl,?_⟩;rw[if_neg (by decide +kernel)];refine⟨rfl,?_⟩;rw[if_neg (by decide +kernel)];refine⟨rfl,?_⟩;rw[if_pos rfl];exact fun l fl=>q l _ (ar.new fl _) fl ae
 |cond k sg x y=>
  unfold Dw at rv;simp only[Rep.cq,bf.bP,bf.cj,Rep.bh] at rv;obtain⟨a,xs,rfl,hS,_,_,rfl,rfl,_,_,rfl,rfl,vx,_,rfl,rx,vy,_,rfl,ry,rfl⟩:=rv;obtain⟨hk,⟨o1,o2,o3⟩,p1,p2,p3⟩:=pI;have no:∀ {z:Str} {u:W},z=S u->u≠PM.e9->u≠PM.cZ->u≠PM.aM->¬V.str (S k)=V.str z:=fun e a b c q=>by
   have:=(bz (k:=k) e).mp q;rcases hk with h |h |h<;>rw[h] at this
   ·exact a this.symm
   ·exact b this.symm
   ·exact c this.symm
  refine cE hS rfl ⟨rfl,?_⟩;rw[if_neg (no Mc (by decide) (by decide) (by decide))];refine⟨rfl,?_⟩;rw[if_neg (no Md (by decide) (by decide) (by decide))];refine⟨rfl,?_⟩;rw[if_neg (no Me (by decide) (by decide) (by decide))];refine⟨rfl,?_⟩;rw[if_neg (no G9 (by decide) (by decide) (by decide))];refine cE hS rfl ⟨vx,x,rfl,rx,o1,o2,by lia,fun l1 H1 s1 f1 y1=>?_⟩;refine cE (s1.kU hS) rfl ⟨vy,y,rfl,ry.mono s1,p1,p2,by lia,fun l2 H2 s2 f2 y2=>?_⟩;refine⟨l1,l2,_,_,rfl,rfl,s2 _ _ y1,y2,by rw[zae,zae];lia,fun l3 f3=>?_⟩;refine q l3 _ ((s1.trans s2).trans (ar.new f3 _)) (dR (s1.trans s2) f3) ?_;rw[ae,<- zat];rfl
theorem tY(T:Tx K mg t):bB P w K mg base (kO P w) 62 t.dZ t.eW ["draft", "number", "form"] (Hg K t.bj (MJ t) PM.Px PM.mZ):=by
 have iN:=qy (P:=P) (w:=w) (base:=base) T;have tZ:=sI (P:=P) (w:=w) (base:=base) T;have wt:=vm (P:=P) (w:=w) (base:=base) T;have B3:=zV (P:=P) (w:=w) (base:=base) T;refine T.c8.F.Cq mH (fun vs H Q E h=>?_) (fun eA A outer s H vs Q E hr h=>?_)
 ·obtain⟨_,_,_,_,_,_,_,_,_,_,rfl,_⟩:=h;rfl
 obtain⟨O,p,bx,bd,ns,d,m,k,v,f,rfl,dr,lm,lk,rv,pI,q⟩:=h;have nd:=mH.nd;obtain⟨PH,DZ,D0⟩:=T.BO;refine⟨_,[some (.ref p),some (.int k),some v,none,none,none,none],(ag (aR (i:=3) nd rfl (zam rfl) (a9 dP (pv 2) ah aJ))
 (ag (bc (PW.pt (pw_and (aH g9 (pv 3) (eF (br (vs:=[.str "if",.str "while"]) (by kernel_rfl))) rfl) (pw_and1 (aH cy (bA cK rfl T.me PyProof.Rows.Boot.«len» (aa (da (pv 0) rfl) af tw)) (bU rfl DZ D0) (aW _)))))
 (aj (cm du T.vd rfl T.yt rfl (aa (mF (.cons ao (.cons (tK (pv 1)) (.cons ao .nil)))) af mC)))
 aO)
 (ag (aR (i:=4) nd rfl (zam rfl) (dO (pv 0) T.bQ T.mS iN (hr.mono (by first|decide|omega)) T.mQ .nil cn))
 (ag (w9 N8 rfl (qO (aS wt (hr.mono (by first|decide|omega)) rfl T.dw.m T.dw.F.kp T.dw.b .nil cn (aa (pv 2) af ai))) (cJ (i:=5) nd rfl (zam rfl))
 (aj (bc (aH kH (pv 5) (pv 4) rfl)
 (aj (cm du T.BH rfl T.DN rfl (aa (mF (.cons ao (.cons (tK (pv 1)) (.cons ao (.cons (tK (pv 5)) (.cons ao .nil)))))) af mC)))
 aO)))
 (ag (aR (i:=6) nd rfl (zam rfl) (aS B3 (hr.mono (by first|decide|omega)) rfl T.fU.m T.fU.F.kp T.fU.b .nil cn (aa (pv 3) af ai)))
 (ag (cF (kT zaC zaH zaI c6 (dO (pv 0) T.bQ T.tS tZ (hr.mono (by first|decide|omega)) T.tR .nil cn) (aa (aF Gr (aF Gr (eF (aa (pv 3) (aa (pv 1) af ai) ai)) (pQ Kh (pv 2) (sZ ah) sY)) (fO zC rfl T.BR PyProof.Rows.Boot.«tuple» (aa (pv 6) af ai))) af cG)))
 (aj (bc (aH cy (pv 3) ao (aW _))
 (aj (cF (kT zaC zaH zaI c6 (da (pv 0) rfl) (aa (eF (aa (a9 aU (pv 6) ah aJ) (aa (a9 aU (pv 6) ah aJ) af cw) cw)) af Fb))))
 (aj (bc (aH cy (pv 3) ao (aW _))
 (aj (cF (kT zaC zaH zaI c6 (da (pv 0) rfl) (aa (eF (aa (a9 aU (pv 6) ah aJ) (aa wY af au) cw)) af Fb))))
 aO)))))))))),rfl,?_⟩
 have line:zdh=2 ^ 24:=rfl;obtain⟨va,ys,rfl,hS,ly⟩:=A0 rv;obtain⟨dx,yp⟩:=dr.ins;obtain⟨us,yn,ix⟩:=dr.EM;have lu:us.length<=m:=by
  obtain⟨zs,e,l⟩:=dr.own _ dr.AZ;rw[yn] at e;cases e;exact l
 refine aC fun U1 vW=>?_;walk_at "rd";refine cE hS (v:=sv (xY f)) (aG (j:=0) rfl) ((vW _ _).mpr (aC fun U2 pJ=>?_));clear vW;have ow:=Mh pI;unfold PM.mZ at q;have rest:∀H1,ar H H1->¬((PM.opens f).isSome/\d.fV.length=5)->U2 [some (.ref p),some (.int k),some (.ref va),some (sv (xY f)),none,none,none] H1:=by
  intro H1 s1 WM;rw[if_neg WM] at q;refine(pJ _ _).mpr (aC fun U3 pq=>?_);clear pJ;walk_at "rd";refine⟨p,dx,_,rfl,s1 _ _ yp,rfl,O,p,bx,bd,ns,d,m,rfl,dr.mono s1,lm,fun nl H2 s2 f2 y2=>?_⟩;refine(pq _ _).mpr (aC fun U4 t9=>?_);clear pq;walk_at "rd";have FK:=s1.trans s2;refine⟨.ref va,f,rfl,rv.mono FK,pI,fun l H3 s3 f3 y3=>⟨l,rfl,⟨_,.of y3⟩,xa (K:=K) (a:=l) (xs:=(PM.wb f).map sv) (fun i σ H4=>∃x:Option V,σ=[some (.ref p),some (.int k),some (.ref va),some (sv (xY f)),some (.ref nl),x,none]/\ar H3 H4/\∀n∈(PM.wb f).take i,n∈d.j1) ⟨none,rfl,ar.refl _,fun n hn=>by cases hn⟩ (fun i σ H4 _ z=>by obtain⟨_,_,s4,_⟩:=z;exact .of (s4 _ _ y3)) ?_ ?_⟩⟩
  ·intro i x σ H4 hx z;obtain⟨x0,rfl,s4,R8⟩:=z;rw[zaF] at hx;obtain⟨n,hn,rfl⟩:=za7.mp hx;have hi:i<(PM.wb f).length:=(zap.mp hn).1;have Uk:n∈PM.wb f:=zbr hn;walk_at "rd";refine⟨nl,_,rfl,.inl (.of (s4 _ _ (s3 _ _ y2))),rfl,by rw[zb5];exact za0.mpr fun _ _=>rfl,_,rfl,?_⟩;rw[if_pos rfl,in_words];by_cases hc:n∈d.j1
   ·rw[if_neg (by rw[zaz.mpr hc];decide)];refine⟨_,rfl,s4,fun y hy=>?_⟩;rw[zbn hi] at hy;rcases zay.mp hy with z |z
    ·exact R8 y z
    ·have e:=zal.mp z;rw[(zap.mp hn).2] at e;rw[e];exact hc
   ·have hf:d.j1.contains n=false:=by rw[zbJ];intro z;exact hc (zaz.mp z)
    rw[if_pos (by rw[hf];rfl)];rw[if_neg (fun z=>hc (z n Uk))] at q;have hl8:=Mi (Fv pI n Uk);refine Ry (n:=S n) lk (by decide) (by decide) (by decide) (by rw[eE];lia) (fun _ _ z=>z) (fun _ _ z=>z) (q H4 (.of (FK.trans (s3.trans s4))))
  ·intro σ H4 z;obtain⟨x0,rfl,s4,R8⟩:=z;rw[zae,zbF] at R8;rw[if_pos R8] at q;have Sj:=FK.trans (s3.trans s4);refine(t9 _ _).mpr (aC fun U5 ua=>?_);clear t9;walk_at "rd";refine⟨xY f,rfl,fun bs bl H5 s5 f5 y5 lb hb=>?_⟩;refine(ua _ _).mpr (aC fun U6 FL=>?_);clear ua;walk_at "rd";have PJ:=Sj.trans s5;refine⟨p,dx,_,rfl,PJ _ _ yp,rfl,O,p,bx,bd,ns,d,m,rfl,dr.mono PJ,fun L hL hd=>?_⟩;have WN:=dr.mono PJ;obtain⟨zs,yL,lz⟩:=WN.own L hL.1;refine⟨.inl ⟨rfl,_,.of yL⟩,fun g1 h1=>⟨1,rfl,?_⟩⟩;have s6:=ar.new h1 (.tup [sv (xY f),V.int k]);have i6:eS K (upd H5 g1 (.tup [sv (xY f),V.int k])) g1 [sv (xY f),V.int k]:=.of ae;generalize upd H5 g1 (.tup [sv (xY f),V.int k])=H6 at *;refine DC ((PJ.trans s6).kU hS) fun g2 H7 s7 i7=>?_;refine DB (s7.kU i6) i7 (by intro z;cases z) (by show 2+_<=_;lia) fun g3 H8 s8 i8=>?_;refine⟨bl,bs.map V.ref,rfl,.inl ⟨.of ((s6.trans (s7.trans s8)) _ _ y5),fun g4 h4=>?_⟩⟩;have s9:=ar.new h4 (.tup (bs.map V.ref));have i9:eS K (upd H8 g4 (.tup (bs.map V.ref))) g4 (bs.map V.ref):=.of ae;generalize upd H8 g4 (.tup (bs.map V.ref))=H9 at *;have lb2:bs.length<=2:=by rw[lb];unfold T9;split<;>(try split)<;>lia
   refine DB (s9.kU i8) i9 (by intro z;cases z) (by rw[zae,zaf];show 2+_+_<=_;lia) fun g5 Ha sa ia=>?_;have Sk:=s6.trans (s7.trans (s8.trans (s9.trans sa)));refine⟨L,zs,.ref g5,rfl,rfl,Sk _ _ yL,by lia,(FL _ _).mpr ?_⟩;clear FL;have WO:=PJ.trans Sk;have WQ:=(WN.mono Sk).BB hL hd (x:=.ref g5) (Sk _ _ yL);have ub:bG O H (upd Ha L (.lst (zs++[.ref g5]))):=(bG.of WO).put hL.1 _;have ZQ:p≠L:=WN.T8 hL.1;have Hv:(upd Ha L (.lst (zs++[.ref g5]))) p=some (.ins t.bj dx [("boxes",.ref bx),("body",.ref bd),("nest",.ref ns)]):=by rw[aq ZQ];exact WO _ _ yp
   have keep:∀b o,b≠L->Ha b=some o->(upd Ha L (.lst (zs++[.ref g5]))) b=some o:=fun b o nb e=>by rw[aq nb];exact e
   have nL:∀b,H b=none->b≠L:=fun b hb z=>by
    obtain⟨zs',e,_⟩:=dr.own L hL.1;rw[<- z,hb] at e;cases e
   have RE:(upd Ha L (.lst (zs++[.ref g5]))) bl=some (.lst (bs.map V.ref)):=keep _ _ (nL _ (dR Sj f5)) (Sk _ _ y5);have Ul:(upd Ha L (.lst (zs++[.ref g5]))) ns=some (.lst us):=keep _ _ (Ne.symm hL.2.2) (WO _ _ yn);have R6:∀b∈bs,H b=none/\(upd Ha L (.lst (zs++[.ref g5]))) b=some (.lst []):=fun b G0=>⟨dR Sj (hb b G0).1,keep _ _ (nL _ (dR Sj (hb b G0).1)) (Sk _ _ (hb b G0).2)⟩
   generalize upd Ha L (.lst (zs++[.ref g5]))=Hb at *;obtain⟨us',y',ZR⟩:=WQ.EM;rw[Ul] at y';cases y';have WR:∀b∈bs,Sf (fun x=>O x\/x∈bs) bx ns b:=fun b G0=>⟨.inr G0,(fun z=>by have:=(R6 b G0).1;obtain⟨_,e,_⟩:=dr.own _ dr.EL;rw[z,e] at this;cases this),(fun z=>by have:=(R6 b G0).1;rw[z,yn] at this;cases this)⟩
   have io:∀x,O x->O x\/x∈bs:=fun _ z=>.inl z;have ZS:BA (Fu K Hb (fun x=>O x\/x∈bs) bx ns) d.fV us:=ZR.imp fun _ _ z=>z.imp (fun _ _ z=>z) io;have push:∀(o:Bool) (gt:zc9) (Hc:Hp),PM.opens f=some o->ar Hb Hc->Fu K Hc (fun x=>O x\/x∈bs) bx ns o (.ref gt)->Q .dB (upd Hc ns (.lst (us++[.ref gt]))):=by
    intro o gt Hc ho sc hn;refine q (fun x=>O x\/x∈bs) _ (fun b G0=>G0.elim .inl fun z=>.inr (R6 b z).1) ((ub.trans (.of sc)).put dr.AZ _) ?_;have e:=(WQ.mono sc).j6 (O':=fun x=>O x\/x∈bs) io (fun b G0=>G0.elim .inl fun z=>.inr (sc _ _ (R6 b z).2)) (us:=us++[.ref gt]) (ks:=d.fV++[o]) (by rw[zaf,zau];lia) ((ZS.imp fun _ _ z=>z.imp (fun _ _=>sc.kU) fun _ z=>z).snoc hn) fun _=>rfl;rw[ho];exact e
   walk_at "rd";refine⟨rfl,bu (fun w1=>?_) (fun w1=>?_)⟩
   ·have e1:=(bz zJ).mp w1;rw[e1,if_pos rfl] at ow;have l2:bs.length=2:=by rw[lb,e1];rfl
    match bs,l2 with
    |[b1,b2],_=>
     refine⟨p,_,dx,_,.ref ns,rfl,Hv,T.bQ,T.bD,rfl,.inl ⟨rfl,_,.of Ul⟩,?_⟩;refine aP (.of RE) (v:=.ref b1) (aG (j:=0) rfl) (aP (.of RE) (v:=.ref b2) (aG (j:=1) rfl) fun gt ht=>?_);have st:=ar.new ht (.tup [V.ref b1,V.ref b2]);refine⟨ns,us,.ref gt,rfl,rfl,st _ _ Ul,by lia,push true gt _ ow st ⟨gt,b1,.ref b2,rfl,.of ae,WR b1 (by simp),b2,rfl,WR b2 (by simp)⟩⟩
   have n1:xY f≠PM.cZ:=fun z=>w1 ((bz zJ).mpr z);refine⟨rfl,bu (fun w2=>?_) (fun w2=>?_)⟩
   ·have e2:=(bz dI).mp w2;rw[if_neg n1,e2,if_pos rfl] at ow;have l2:bs.length=1:=by rw[lb,e2];rfl
    match bs,l2 with
    |[b1],_=>
     refine⟨p,_,dx,_,.ref ns,rfl,Hv,T.bQ,T.bD,rfl,.inl ⟨rfl,_,.of Ul⟩,?_⟩;refine aP (.of RE) (v:=.ref b1) (aG (j:=0) rfl) fun gt ht=>?_;have st:=ar.new ht (.tup [V.ref b1,V.dB]);refine⟨ns,us,.ref gt,rfl,rfl,st _ _ Ul,by lia,push false gt _ ow st ⟨gt,b1,.dB,rfl,.of ae,WR b1 (by simp),rfl⟩⟩
   have n2:xY f≠PM.aM:=fun z=>w2 ((bz dI).mpr z);rw[if_neg n1,if_neg n2] at ow;rw[ow,Option.toList_none,zaR] at q;exact q O Hb (fun b z=>.inl z) ub (WQ.more (by lia))
 walk_at "rd";intro g hg;have sg:=ar.new hg (.tup [V.str (zaa "if"),V.str (zaa "while")]);have iT:eS K (upd H g (.tup [V.str (zaa "if"),V.str (zaa "while")])) g [V.str (zaa "if"),V.str (zaa "while")]:=.of ae;have hl:([V.str (zaa "if"),V.str (zaa "while")]:List V)=[PM.cZ,PM.aM].map sv:=by rw[zJ,dI];rfl
 generalize upd H g (.tup [V.str (zaa "if"),V.str (zaa "while")])=H0 at *;refine⟨g,_,rfl,.inr iT,rfl,rfl,_,rfl,?_⟩;rw[hl,in_words,if_neg zad,if_neg zad];have oi:(PM.opens f).isSome=true↔([PM.cZ,PM.aM]:List W).contains (xY f)=true:=by
  rw[ow,zaz];by_cases h1:xY f=PM.cZ
  ·rw[if_pos h1];simp[h1]
  ·rw[if_neg h1];by_cases h2:xY f=PM.aM
   ·rw[if_pos h2];simp[h2]
   ·rw[if_neg h2];simp[h1,h2]
 refine bu (fun hc=>?_) (fun hc=>rest H0 sg fun z=>hc (oi.mp z.1));refine⟨p,_,dx,_,.ref ns,rfl,sg _ _ yp,T.bQ,T.bD,rfl,ns,us,rfl,.inl (.of (sg _ _ yn)),?_⟩;rw[ix.1];by_cases h5:d.fV.length=5
 ·rw[if_pos (by rw[h5];rfl)];rw[if_pos ⟨oi.mpr hc,h5⟩] at q;exact se lk (by decide) (by decide) (q H0 (.of sg))
 ·rw[if_neg (fun z=>h5 (by lia))];exact rest H0 sg fun z=>h5 z.2
theorem wU{CD:zc9}{ce:PM.Er->zc9}{O:zc9->Prop}{H:Hp}{p bx bd ns:zc9}{m:Nat}{Q:VK}{E:XK}{r:Except PM.Er PM.Df}(h:Rx K CD ce O H p bx bd ns m Q E r):Rx K CD ce O H p bx bd ns m (fun _ H1=>Q .dB H1) E r:=by
 cases r<;>exact h
theorem MK{CD:zc9}{ce:PM.Er->zc9}{O:zc9->Prop}{H H1:Hp}{p bx bd ns:zc9}{m:Nat}{Q:VK}{E:XK}{r:Except PM.Er PM.Df}(h:Rx K CD ce O H p bx bd ns m Q E r)(s:ar H H1):Rx K CD ce O H1 p bx bd ns m Q E r:=by
 cases r with
 |error e=>exact fun H' u=>h H' ((bG.of s).trans u)
 |ok d=>exact fun O' H' i u dr=>h O' H' (fun b hb=>(i b hb).imp id fun z=>dR s z) ((bG.of s).trans u) dr
theorem D1(T:Tx K mg t):bB P w K mg base (kO P w) 63 t.lJ t.mJ ["draft", "number", "form"] (Hg K t.bj (MJ t) PM.Py PM.kC):=by
 have vn:=tY (P:=P) (w:=w) (base:=base) T;have FN:=DX (P:=P) (w:=w) (base:=base) T;have D3:=B2 (P:=P) (w:=w) (base:=base) T;have FO:=DY (P:=P) (w:=w) (base:=base) T;refine T.i5.F.Cq vP (fun vs H Q E h=>?_) (fun eA A outer s H vs Q E hr h=>?_)
 ·obtain⟨_,_,_,_,_,_,_,_,_,_,rfl,_⟩:=h;rfl
 obtain⟨O,p,bx,bd,ns,d,m,k,v,f,rfl,dr,lm,lk,rv,pI,q⟩:=h;have nd:=vP.nd;refine⟨_,[some (.ref p),some (.int k),some v,none],(ag (aR (i:=3) nd rfl (zam rfl) (a9 dP (pv 2) ah aJ))
 (aj (bc (aH cy (pv 3) ao (aW _))
 (aj (cF (aS FN (hr.mono (by first|decide|omega)) rfl T.ja.m T.ja.F.kp T.ja.b .nil dq (aa (pv 0) (aa (pv 1) (aa (pQ Kh (pv 2) (sZ ah) sY) af cw) ai) ai))))
 (aj (bc (aH cy (pv 3) ao (aW _))
 (aj (cF (aS D3 (hr.mono (by first|decide|omega)) rfl T.ib.m T.ib.F.kp T.ib.b .nil dq (aa (pv 0) (aa (pv 1) af ai) ai))))
 (aj (bc (aH cy (pv 3) ao (aW _))
 (aj (cF (aS FO (hr.mono (by first|decide|omega)) rfl T.jb.m T.jb.F.kp T.jb.b .nil dq (aa (pv 0) (aa (pv 1) af ai) ai))))
 (aj (cF (aS vn (hr.mono (by first|decide|omega)) rfl T.c8.m T.c8.F.kp T.c8.b .nil dq (aa (pv 0) (aa (pv 1) (aa (pv 2) af ai) ai) ai))))))))))),rfl,?_⟩
 walk_at "rd";obtain⟨va,ys,rfl,hS,ly⟩:=A0 rv;refine cE hS (v:=sv (xY f)) (aG (j:=0) rfl) ⟨rfl,?_⟩;have BB:PM.Px f->PM.kC d f=PM.mZ d f->xY f≠PM.cg->xY f≠PM.dU->Cz (sv (xY f)) (V.str (zaa "else"))=true/\
  if sv (xY f)=V.str (zaa "else") then xX K t.bj (MJ t) PM.o7 [V.ref p,V.int k] H (fun x H1=>Q V.dB H1) E
  else Cz (sv (xY f)) (V.str (zaa "end"))=true/\
   if sv (xY f)=V.str (zaa "end") then xX K t.bj (MJ t) PM.xV [V.ref p,V.int k] H (fun x H1=>Q V.dB H1) E
   else Hg K t.bj (MJ t) PM.Px PM.mZ [V.ref p,V.int k,V.ref va] H (fun x H1=>Q V.dB H1) E:=fun h1 h2 n1 n2=>by
  refine⟨rfl,?_⟩;rw[if_neg (fun z=>n1 ((bz lh).mp z))];refine⟨rfl,?_⟩;rw[if_neg (fun z=>n2 ((bz wc).mp z))];rw[h2] at q;exact⟨O,p,bx,bd,ns,d,m,k,.ref va,f,rfl,dr,lm,lk,rv,h1,wU q⟩
 cases f with
 |box n a b=>
  refine bu (fun _=>?_) fun z=>absurd ((bz jQ).mpr rfl) z;refine⟨1,rfl,?_⟩;unfold Dw at rv;simp only[Rep.cq,bf.bP,bf.cj,Rep.bh,Rep.dG] at rv;obtain⟨_,xs,e,ZT,_,_,rfl,rfl,_,_,rfl,rfl,_,_,rfl,rfl,_,_,rfl,rfl,rfl⟩:=rv;cases e;refine DC ZT fun c H1 s1 i1=>⟨O,p,bx,bd,ns,d,m,k,.ref c,n,a,b,rfl,dr.mono s1,lm,lk,?_,wU (MK q s1)⟩
  rw[Rep.cq];exact⟨c,_,rfl,i1,.cons (Rep.bh.mpr rfl) (.cons (Rep.dG.mpr rfl) (.cons (Rep.dG.mpr rfl) .nil))⟩
 |ask n=>
  refine bu (fun z=>absurd ((bz jQ).mp z) (show PM.uP≠PM.cQ by decide)) fun _=>?_;exact BB pI rfl (show PM.uP≠PM.cg by decide) (show PM.uP≠PM.dU by decide)
 |put n e=>
  refine bu (fun z=>absurd ((bz jQ).mp z) (show PM.uQ≠PM.cQ by decide)) fun _=>?_;exact BB pI rfl (show PM.uQ≠PM.cg by decide) (show PM.uQ≠PM.dU by decide)
 |say e=>
  refine bu (fun z=>absurd ((bz jQ).mp z) (show PM.qW≠PM.cQ by decide)) fun _=>?_;exact BB pI rfl (show PM.qW≠PM.cg by decide) (show PM.qW≠PM.dU by decide)
 |cond c sg x y=>
  have hc:c=PM.e9\/c=PM.cZ\/c=PM.aM:=pI.1;have ne:∀u,u≠PM.e9->u≠PM.cZ->u≠PM.aM->c≠u:=fun u a b e z=>by
   rcases hc with h |h |h<;>rw[h] at z
   ·exact a z.symm
   ·exact b z.symm
   ·exact e z.symm
  refine bu (fun z=>absurd ((bz jQ).mp z) (ne PM.cQ (by decide) (by decide) (by decide))) fun _=>?_;exact BB pI rfl (ne PM.cg (by decide) (by decide) (by decide)) (ne PM.dU (by decide) (by decide) (by decide))
 |one c=>
  have hc:c=PM.cg\/c=PM.dU\/c=PM.dW:=pI;have et:PM.kC d (.one c)=if c=PM.cg then PM.o7 d else if c=PM.dU then PM.xV d else PM.mZ d (.one c):=rfl
  rcases hc with h |h |h
  ·subst h;refine bu (fun z=>absurd ((bz jQ).mp z) (show PM.cg≠PM.cQ by decide)) fun _=>?_;refine⟨rfl,?_⟩;refine bu (fun _=>?_) fun z=>absurd ((bz lh).mpr rfl) z;rw[et,if_pos rfl] at q;exact⟨O,p,bx,bd,ns,d,m,k,rfl,dr,lm,lk,wU q⟩
  ·subst h;refine bu (fun z=>absurd ((bz jQ).mp z) (show PM.dU≠PM.cQ by decide)) fun _=>?_;refine⟨rfl,?_⟩;refine bu (fun z=>absurd ((bz lh).mp z) (show PM.dU≠PM.cg by decide)) fun _=>?_;refine⟨rfl,?_⟩;refine bu (fun _=>?_) fun z=>absurd ((bz wc).mpr rfl) z;rw[et,if_neg (by decide),if_pos rfl] at q;exact⟨O,p,bx,bd,ns,d,m,k,rfl,dr,lm,lk,wU q⟩
  ·subst h;refine bu (fun z=>absurd ((bz jQ).mp z) (show PM.dW≠PM.cQ by decide)) fun _=>?_;exact BB rfl (by rw[et,if_neg (by decide),if_neg (by decide)]) (show PM.dW≠PM.cg by decide) (show PM.dW≠PM.dU by decide)
theorem OM(T:Tx K mg t)(C:Cd P w K t):bB P w K mg base (kO P w) 64 t.ye t.wR ["text"] (Ud (MJ t)):=by
 have IL:=FI (P:=P) (w:=w) (base:=base) T C;have FP:=D1 (P:=P) (w:=w) (base:=base) T;have B4:=zS (P:=P) (w:=w) (base:=base) T;refine T.u6.F.Cq Hj (fun vs H Q E h=>?_) (fun eA A outer s H vs Q E hr h=>?_)
 ·obtain⟨_,rfl,_⟩:=h;rfl
 obtain⟨text,rfl,lt,qe,qo⟩:=h;have nd:=Hj.nd;obtain⟨PK,D4,D5⟩:=T.BN;refine⟨_,[some (sv text),none,none,none,none],(ag (aR (i:=1) nd rfl (zam rfl) (kT zbW zcN zcO Dm (pv 0) (aa ao af au)))
 (ag (bc (aH xh (bA cK rfl T.me PyProof.Rows.Boot.«len» (aa (pv 1) af ai)) (bU rfl D4 D5) (aW _))
 (aj (cm du T.vb rfl T.yi rfl (aa ao af au)))
 aO)
 (ag (aR (i:=2) nd rfl (zam rfl) (Kd T.yf B4 (hr.mono (by first|decide|omega)) rfl T.Mx T.BF .nil cn))
 (ag (w9 N8 rfl (L9 rfl T.qt (aa (pv 1) af ai)) (Qr rfl (eJ (cJ (i:=3) nd rfl (zam rfl)) (eJ (cJ (i:=4) nd rfl (zam rfl)) sV)))
 (aj (cF (aS FP (hr.mono (by first|decide|omega)) rfl T.i5.m T.i5.F.kp T.i5.b .nil dq (aa (pv 2) (aa (pv 3) (aa (aS IL (hr.mono (by first|decide|omega)) rfl T.kR.m T.kR.F.kp T.kR.b .nil dq (aa (pv 4) af ai)) af bT) ai) ai)))))
 (ag (bc (pP (da (pv 2) rfl) (fun _=>rfl))
 (aj (cm du T.Fy rfl T.Hs rfl (aa ao af au)))
 aO)
 (aj (aV (eF (aa (da (pv 2) rfl) (aa (da (pv 2) rfl) af tw) tw))))))))),rfl,?_⟩
 have line:zdh=2 ^ 24:=rfl;walk_at "rd";refine⟨rfl,text,10,rfl,rfl,by decide,by lia,fun R fR=>?_⟩;generalize Um:ba 10 text=rows at *;have ZU:∀r∈rows,r.length<=3000000:=fun r hr=>by rw[<- Um] at hr;exact zaB (oG 10 text r hr) lt
 have sR:=ar.new fR (.lst (rows.map sv));have yR:(upd H R (.lst (rows.map sv))) R=some (.lst (rows.map sv)):=ae;generalize upd H R (.lst (rows.map sv))=H0 at *;refine⟨R,_,rfl,.inl (.of yR),?_⟩;rw[zae];unfold PM.nX at qe qo;by_cases Vi:80<rows.length
 ·rw[if_pos (by lia)];exact⟨(show 1<=zdh by decide),qe .qS (by rw[if_pos Vi]) H0 sR⟩
 rw[if_neg (by lia)];rw[if_neg Vi] at qe qo;intro p dx fp XN ne;have fp1:(upd H0 dx (.own p)) p=none:=by rw[aq (Ne.symm ne)];exact fp
 refine⟨p,dx,rfl,ae,by rw[aq ne];exact ae,fun O bx bd ns H1 hO u1 dr=>⟨rfl,?_⟩⟩;have sm:ar H0 H1:=fun b o e=>by
  have n1:b≠p:=aI e fp;have n2:b≠dx:=aI e XN;refine u1 b o n1 ?_;rw[aq n1,aq n2];exact e
 have ZV:∀b,O b->H0 b=none:=fun b hb=>by
  have z:=hO b hb;by_cases n1:b=p
  ·rw[n1];exact fp
  ·rw[aq n1] at z;by_cases n2:b=dx
   ·rw[n2];exact XN
   ·rw[aq n2] at z;exact z
 clear hO u1;refine⟨R,rfl,⟨_,.of (sm _ _ yR)⟩,IA (K:=K) (a:=R) (xs:=rows.map sv) (fun i σ Hx=>∃(x3 x4:Option V) (O:zc9->Prop) (d:PM.Df),σ=[some (sv text),some (.ref R),some (.ref p),x3,x4]/\ar H0 Hx/\(∀b,O b->H0 b=none)/\uv K t.bj O Hx p bx bd ns d (2*i)/\PM.eK ⟨[],false,[]⟩ rows=PM.eK d (rows.drop i)) ⟨none,none,O,_,rfl,sm,ZV,dr,rfl⟩ (fun i σ Hx _ z=>by obtain⟨_,_,_,_,_,sx,_⟩:=z;exact .of (sx _ _ yR)) ?_ ?_⟩
 ·intro i x σ Hx g hx z hg;obtain⟨x3,x4,O,d,rfl,sx,ox,Vj,er⟩:=z;rw[zaF] at hx;obtain⟨r,DT,rfl⟩:=za7.mp hx;have hi:i<rows.length:=(zap.mp DT).1;have ed:rows.drop i=r::rows.drop (i+1):=by rw[zbB hi,(zap.mp DT).2]
  rw[ed] at er;have sg:=ar.new hg (.tup [V.int ((i+1:Nat):Int),sv r]);have ig:eS K (upd Hx g (.tup [V.int ((i+1:Nat):Int),sv r])) g [V.int ((i+1:Nat):Int),sv r]:=.of ae;generalize upd Hx g (.tup [V.int ((i+1:Nat):Int),sv r])=Hy at *;walk_at "rd";have sy:=sx.trans sg;refine⟨g,_,rfl,ig,rfl,_,_,rfl,_,_,rfl,rfl,r,rfl,ZU r (zbr DT),fun hf H2 s2=>?_,fun f hf v H2 s2 rv=>?_⟩
  ·refine qe .rm ?_ H2 (sR.trans (sy.trans s2));rw[er,PM.eK,hf]
  have XO:=sy.trans s2;have keep:∀ {Hz:Hp},bG O H2 Hz->ar H0 Hz:=fun u b o e=>u b o (fun z=>by rw[ox b z] at e;cases e) (XO _ _ e);refine⟨O,p,bx,bd,ns,d,2*i,((i+1:Nat):Int),v,f,rfl,Vj.mono (sg.trans s2),by lia,⟨by lia,by lia⟩,rv,PM.G6 (iX _ _) hf,?_⟩;rw[PM.eK,hf] at er;cases ht:PM.kC d f with
  |error e=>exact fun Hz u=>qe e (by rw[er];simp only[ht]) Hz (sR.trans (keep u))
  |ok d'=>exact fun O' Hz io u ZW=>⟨_,_,O',d',rfl,keep u,fun b hb=>(io b hb).elim (ox b) fun z=>dR XO z,ZW,by rw[er];simp only[ht]⟩
 ·intro σ Hx z;obtain⟨x3,x4,O,d,rfl,sx,ox,Vj,er⟩:=z;rw[zae,List.drop_length,PM.eK] at er;walk_at "rd";obtain⟨QD,yp⟩:=Vj.ins;obtain⟨us,yn,ix⟩:=Vj.EM;refine⟨p,_,QD,_,.ref ns,rfl,yp,T.bQ,T.bD,rfl,_,.inl ⟨us,.of yn,rfl⟩,?_⟩;rw[er] at qe qo;by_cases hk:d.fV=[]
  ·have eu:us=[]:=zaU.mp (by rw[ix.1,hk];rfl);subst eu;refine⟨p,_,QD,_,.ref bx,rfl,yp,T.bQ,T.di,rfl,p,_,QD,_,.ref bd,rfl,yp,T.bQ,T.eR,rfl,fun g hg=>qo ?_ _ _ (sR.trans (sx.trans (ar.new hg _)))⟩;simp only[hk,if_true]
  ·have eu:us.isEmpty=false:=by
    cases us with
    |nil=>exact absurd (zaU.mp ix.1.symm) hk
    |cons=>rfl
   rw[eu,if_pos (show (!false)=true from rfl)];exact⟨(show 1<=zdh by decide),qe .xU (by simp only[hk,if_false]) Hx (sR.trans sx)⟩
theorem B5(T:Tx K mg t):bB P w K mg base kN 1 t.jU t.kK ["cell", "k"] Q8:=by
 refine T.aZ.F.v7 tQ (fun vs H Q E h=>?_) (fun eA A outer s H vs Q E hr h=>?_)
 ·obtain⟨cell,k,rfl,_⟩:=h;rfl
 obtain⟨cell,k,rfl,h0,h1,q⟩:=h;have nd:=tQ.nd;refine⟨_,[some (V.int cell),some (V.int k),none],(ag (bc (aH SJ (pv 0) (aF ET ah ah) (aW _))
 (aj (aV (aF c9 (aF Qx (aF ES (pv 0) (aF ET ah ah)) (aF xc ah (pv 1))) (aF ET ah ah))))
 aO)
 (ag (aR (i:=2) nd rfl (zam rfl) (aF c9 (aF xc (aF uA (aF uA (pv 0) (aF xc ah (pv 1))) ah) ah) ah))
 (ag (aR (i:=2) nd rfl (zam rfl) (aF c9 (aF xc (pv 2) (pv 2)) ah))
 (aj (aV (aF jF (aF c9 (aF xc (pv 2) ah) ah) ah)))))),rfl,?_⟩
 walk_at "rd";have Vk:Qw 10 18:=⟨by decide,by decide,by decide⟩
 have ZX:Qw 2 28:=⟨by decide,by decide,by decide⟩
 refine⟨Vk,?_⟩;unfold stir at q;have ZY:(10:Int) ^ Int.toNat 18=10 ^ 18:=rfl;have ZZ:(2:Int) ^ Int.toNat 28=2 ^ 28:=rfl;rw[ZY,ZZ];refine bu (fun hc=>?_) (fun hc=>?_)
 ·rw[if_pos hc] at q;exact⟨Vk,mulL (by decide) (by decide),by lia,ZX,by decide,q⟩
 ·rw[if_neg hc] at q;have b1:=zbt ((cell+1013*k+1)*16807) (show (2147483647:Int)≠0 by decide);have b2:=zbe ((cell+1013*k+1)*16807) (show (0:Int)<2147483647 by decide);have c1:HJ ((cell+1013*k+1)*16807%2147483647) ((cell+1013*k+1)*16807%2147483647):=by
   generalize (cell+1013*k+1)*16807%2147483647=z at b1 b2 ⊢;exact mulL (by lia) (by lia)
  exact⟨mulL (by decide) (by decide),mulR (by decide) (by decide),c1,mulR (by decide) (by decide),q⟩
structure CF(K:zac)(t:Ad)(C:zc9)(c:Nat):Prop where
 xi:Bs K C
 xr:zao K (.ref C) (.ref t.aN)=some true
 kv:zab K (.ref C) (.type "ValueError")=some true
 k0:zab K (.ref C) (.ref t.az)=some (decide (0=c))
 k1:zab K (.ref C) (.ref t.ax)=some (decide (1=c))
 k2:zab K (.ref C) (.ref t.aw)=some (decide (2=c))
 k3:zab K (.ref C) (.ref t.ay)=some (decide (3=c))
 k4:zab K (.ref C) (.ref t.ak)=some (decide (4=c))
 k5:zab K (.ref C) (.ref t.aK)=some (decide (5=c))
 k6:zab K (.ref C) (.ref t.aY)=some (decide (6=c))
 k7:zab K (.ref C) (.ref t.aX)=some (decide (7=c))
 k8:zab K (.ref C) (.ref t.aL)=some (decide (8=c))
 k9:zab K (.ref C) (.ref t.bZ)=some (decide (9=c))
 Z0:zab K (.ref C) (.ref t.bF)=some (decide (10=c))
 Z1:zab K (.ref C) (.ref t.bq)=some (decide (11=c))
 WS:zab K (.ref C) (.ref t.bE)=some (decide (12=c))
theorem Uo(T:Tx K mg t)(e:PM.Er):CF K t (MJ t e) (PM.bS e):=by
 cases e with
 |rm=>exact⟨T.My,T.yu,T.yv,T.lP,T.jf,T.je,T.jg,T.gD,T.lQ,T.nr,T.nj,T.lS,T.j8,T.ji,T.iC,T.jh⟩
 |qR=>exact⟨T.FC,T.sA,T.sC,T.jj,T.gF,T.gE,T.gG,T.fC,T.jk,T.ka,T.j9,T.jl,T.iD,T.gI,T.fX,T.gH⟩
 |qS=>exact⟨T.FD,T.sD,T.sE,T.jm,T.gK,T.gJ,T.gM,T.fD,T.jn,T.kc,T.kb,T.jo,T.iE,T.gO,T.fY,T.gN⟩
 |wN=>exact⟨T.FE,T.sF,T.sG,T.jq,T.gQ,T.gP,T.gR,T.fE,T.jr,T.kf,T.ke,T.js,T.iF,T.gT,T.fZ,T.gS⟩
 |qT=>exact⟨T.BI,T.oO,T.oP,T.gU,T.fG,T.fF,T.fH,T.eH,T.gV,T.iH,T.iG,T.gW,T.f7,T.fJ,T.eT,T.fI⟩
 |twice=>exact⟨T.Mz,T.yw,T.yy,T.lT,T.ju,T.jt,T.jv,T.gX,T.lU,T.nu,T.nt,T.lV,T.kg,T.jx,T.iI,T.jw⟩
 |xU=>exact⟨T.OF,T.BJ,T.BK,T.nv,T.ki,T.kh,T.kj,T.iJ,T.nA,T.oS,T.oQ,T.nB,T.lW,T.km,T.jy,T.kl⟩
 |full=>exact⟨T.OG,T.BL,T.BM,T.nC,T.kq,T.kn,T.kr,T.iK,T.nD,T.oU,T.oT,T.nE,T.lX,T.kx,T.jz,T.ku⟩
 |G7=>exact⟨T.MA,T.yA,T.yB,T.lY,T.jB,T.jA,T.jC,T.gY,T.lZ,T.nG,T.nF,T.ma,T.ky,T.jE,T.iL,T.jD⟩
theorem FQ(T:Tx K mg t):bB P w K mg base kN 1 t.fk t.gv ["script", "k"] (fun vs H Q _=>∃(a:zc9) (ns:List Int) (k:Nat),vs=[.ref a,.int k]/\g8 K H a (ns.map .int)/\∀i,Q (.int i) H):=by
 refine T.d0.F.v7 o9 (fun vs H Q E h=>?_) (fun eA A outer s H vs Q E hr h=>?_)
 ·obtain⟨_,_,_,rfl,_⟩:=h;rfl
 obtain⟨a,ns,k,rfl,hS,q⟩:=h;have nd:=o9.nd;refine⟨_,[some (.ref a),some (.int k)],(ag (bc (aH xg (pv 1) (bA cK rfl T.me PyProof.Rows.Boot.«len» (aa (pv 0) af ai)) (aW _))
 (aj (aV (a9 aU (pv 0) (pv 1) N3)))
 aO)
 (aj (aV ah))),rfl,?_⟩
 walk_at "rd";refine⟨a,_,rfl,.inl hS,?_⟩;refine bu (fun c=>?_) (fun c=>q 0);rw[zae] at c;have hk:k<ns.length:=by lia
 exact aP hS (v:=.int ns[k]) (aG (by rw[zaF,zag hk];rfl)) (q _)
theorem Bd{l b:zc9}{xs zs:List V}{H:Hp}{Q:VK}(h1:H l=some (.lst xs))(h2:H b=some (.lst zs))(hl:xs.length+zs.length<=zdh)(q:∀p,H p=none->Q (.ref p) (upd H p (.lst (xs++zs)))):QP (.ref l) (.ref b) H Q:=⟨l,b,xs,zs,rfl,rfl,h1,h2,hl,q⟩
theorem ON(T:Tx K mg t)(C:Cd P w K t):bB P w K mg base kN 65 t.fq t.gw ["rows"] (Ml K):=by
 have RG:=OM (P:=P) (w:=w) (base:=base) T C;refine T.d4.F.v7 pd (fun vs H Q E h=>?_) (fun eA A outer s H vs Q E hr h=>?_)
 ·obtain⟨_,_,rfl,_⟩:=h;rfl
 obtain⟨ra,rows,rfl,hS,ne,nl,lr,q⟩:=h;have nd:=pd.nd;refine⟨_,[some (.ref ra),none,none],(ag (aR (i:=1) nd rfl (zam rfl) (aA af))
 (ag (Ld (i:=2) nd rfl rfl rfl RG (hr.mono (by first|decide|omega)) rfl T.u6.m T.u6.F.kp T.u6.b (fun _ _=>(aa (Rz (K:=K) rfl zbW PySem.F.slot_str_join PySem.F.type_str_join (Mo (K:=K) rfl) ao (aa (pv 0) af ai)) af bT)) rfl rfl rfl T.DI (fun _=>(ag (aR (i:=1) nd rfl (zam rfl) (aA (aa (bA (dQ (K:=K) rfl) rfl T.bJ PyProof.Rows.Boot.«isinstance» (aa (pv 2) (aa (bU (v:=.ref t.az) rfl T.ez rfl) af ai) ai)) (aa (bA (dQ (K:=K) rfl) rfl T.bJ PyProof.Rows.Boot.«isinstance» (aa (pv 2) (aa (bU (v:=.ref t.ax) rfl T.oN rfl) af ai) ai)) (aa (bA (dQ (K:=K) rfl) rfl T.bJ PyProof.Rows.Boot.«isinstance» (aa (pv 2) (aa (bU (v:=.ref t.aw) rfl T.yi rfl) af ai) ai)) (aa (bA (dQ (K:=K) rfl) rfl T.bJ PyProof.Rows.Boot.«isinstance» (aa (pv 2) (aa (bU (v:=.ref t.ay) rfl T.yt rfl) af ai) ai)) af bT) bT) bT) bT)))
 (ag (aR (i:=1) nd rfl (zam rfl) (aF cW (pv 1) (aA (aa (bA (dQ (K:=K) rfl) rfl T.bJ PyProof.Rows.Boot.«isinstance» (aa (pv 2) (aa (bU (v:=.ref t.ak) rfl T.tU rfl) af ai) ai)) (aa (bA (dQ (K:=K) rfl) rfl T.bJ PyProof.Rows.Boot.«isinstance» (aa (pv 2) (aa (bU (v:=.ref t.aK) rfl T.DL rfl) af ai) ai)) (aa (bA (dQ (K:=K) rfl) rfl T.bJ PyProof.Rows.Boot.«isinstance» (aa (pv 2) (aa (bU (v:=.ref t.aY) rfl T.Hs rfl) af ai) ai)) (aa (bA (dQ (K:=K) rfl) rfl T.bJ PyProof.Rows.Boot.«isinstance» (aa (pv 2) (aa (bU (v:=.ref t.aX) rfl T.Hq rfl) af ai) ai)) af bT) bT) bT) bT))))
 (ag (aR (i:=1) nd rfl (zam rfl) (aF cW (pv 1) (aA (aa (bA (dQ (K:=K) rfl) rfl T.bJ PyProof.Rows.Boot.«isinstance» (aa (pv 2) (aa (bU (v:=.ref t.aL) rfl T.DN rfl) af ai) ai)) (aa (bA (dQ (K:=K) rfl) rfl T.bJ PyProof.Rows.Boot.«isinstance» (aa (pv 2) (aa (bU (v:=.ref t.bZ) rfl T.IH rfl) af ai) ai)) (aa (bA (dQ (K:=K) rfl) rfl T.bJ PyProof.Rows.Boot.«isinstance» (aa (pv 2) (aa (bU (v:=.ref t.bF) rfl T.FA rfl) af ai) ai)) (aa (bA (dQ (K:=K) rfl) rfl T.bJ PyProof.Rows.Boot.«isinstance» (aa (pv 2) (aa (bU (v:=.ref t.bq) rfl T.DO rfl) af ai) ai)) af bT) bT) bT) bT))))
 (aj (aR (i:=1) nd rfl (zam rfl) (aF cW (pv 1) (aA (aa (bA (dQ (K:=K) rfl) rfl T.bJ PyProof.Rows.Boot.«isinstance» (aa (pv 2) (aa (bU (v:=.ref t.bE) rfl T.Fz rfl) af ai) ai)) (aa (Qm (bA (Ib (K:=K) rfl) rfl T.bJ PyProof.Rows.Boot.«isinstance» (aa (pv 2) (aa (NH (v:=.ty "ValueError") rfl T.oW PyProof.Rows.Boot.«ValueError» rfl) af ai) ai))) af Pd) bT))))))))))
 (aj (aV (pv 1))))),rfl,?_⟩
 have line:zdh=2 ^ 24:=rfl;refine aC fun U1 vW=>?_;walk_at "rd";intro p hp;have s1:=ar.new hp (.lst []);have y1:(upd H p (.lst [])) p=some (.lst []):=ae;generalize upd H p (.lst [])=H1 at *;refine(vW _ _).mpr (aC fun U2 pJ=>?_);clear vW;simp only[Lc];walk_at "rd";refine⟨rfl,ra,rows,10,rfl,rfl,s1.seq hS,by lia,?_⟩;have eg:ba 10 (dJ 10 rows)=rows:=rZ ne nl;have lg:=Dn 10 rows;refine⟨dJ 10 rows,rfl,by lia,fun e he H2 s2=>?_,fun he v H2 s2=>?_⟩
 ·rw[eg] at he;rw[he] at q;have cf:=Uo T e;have Z2:uU (some e)=((([V.bl (decide (0=PM.bS e)),V.bl (decide (1=PM.bS e)),V.bl (decide (2=PM.bS e)),V.bl (decide (3=PM.bS e))]++[V.bl (decide (4=PM.bS e)),V.bl (decide (5=PM.bS e)),V.bl (decide (6=PM.bS e)),V.bl (decide (7=PM.bS e))])++[V.bl (decide (8=PM.bS e)),V.bl (decide (9=PM.bS e)),V.bl (decide (10=PM.bS e)),V.bl (decide (11=PM.bS e))])++[V.bl (decide (12=PM.bS e)),V.bl false]):=by
   have Z3:decide (13=PM.bS e)=false:=by cases e<;>rfl
   unfold uU;show [V.bl (decide (0=PM.bS e)),V.bl (decide (1=PM.bS e)),V.bl (decide (2=PM.bS e)),V.bl (decide (3=PM.bS e)),V.bl (decide (4=PM.bS e)),V.bl (decide (5=PM.bS e)),V.bl (decide (6=PM.bS e)),V.bl (decide (7=PM.bS e)),V.bl (decide (8=PM.bS e)),V.bl (decide (9=PM.bS e)),V.bl (decide (10=PM.bS e)),V.bl (decide (11=PM.bS e)),V.bl (decide (12=PM.bS e)),V.bl (decide (13=PM.bS e))]=_;rw[Z3];rfl
  generalize PM.bS e=c at *;generalize MJ t e=CX at *;refine⟨cf.xr,_,rfl,fun y hy=>?_⟩;have s3:=(s1.trans s2).CO hy (tD y CX);have h3:(upd H2 y (tD y CX)) y=some (tD y CX):=ae;generalize upd H2 y (tD y CX)=H3 at *;refine⟨y,_,_,_,rfl,h3,cf.xi,cf.k0,?_⟩;refine⟨y,_,_,_,rfl,h3,cf.xi,cf.k1,?_⟩;refine⟨y,_,_,_,rfl,h3,cf.xi,cf.k2,?_⟩;refine⟨y,_,_,_,rfl,h3,cf.xi,cf.k3,?_⟩;obtain⟨L1,e1⟩:∃L1:List V,L1=[V.bl (decide (0=c)),V.bl (decide (1=c)),V.bl (decide (2=c)),V.bl (decide (3=c))]:=⟨_,rfl⟩
  obtain⟨L2,e2⟩:∃L2:List V,L2=[V.bl (decide (4=c)),V.bl (decide (5=c)),V.bl (decide (6=c)),V.bl (decide (7=c))]:=⟨_,rfl⟩
  obtain⟨L3,e3⟩:∃L3:List V,L3=[V.bl (decide (8=c)),V.bl (decide (9=c)),V.bl (decide (10=c)),V.bl (decide (11=c))]:=⟨_,rfl⟩
  obtain⟨L4,e4⟩:∃L4:List V,L4=[V.bl (decide (12=c)),V.bl false]:=⟨_,rfl⟩
  have le:L1.length=4/\L2.length=4/\L3.length=4/\L4.length=2:=by rw[e1,e2,e3,e4];exact⟨rfl,rfl,rfl,rfl⟩
  have eq:uU (some e)=(((L1++L2)++L3)++L4):=by rw[e1,e2,e3,e4];exact Z2
  rw[<- e1];intro p4 XQ;have s4:=s3.CO XQ (.lst L1);have h4:=ar.new XQ (.lst L1) _ _ h3;have l4:(upd H3 p4 (.lst L1)) p4=some (.lst L1):=ae;generalize upd H3 p4 (.lst L1)=H4 at *;refine⟨y,_,_,_,rfl,h4,cf.xi,cf.k4,?_⟩;refine⟨y,_,_,_,rfl,h4,cf.xi,cf.k5,?_⟩;refine⟨y,_,_,_,rfl,h4,cf.xi,cf.k6,?_⟩;refine⟨y,_,_,_,rfl,h4,cf.xi,cf.k7,?_⟩;rw[<- e2];intro p5 WT;have s5:=s4.CO WT (.lst L2);have h5:=ar.new WT (.lst L2) _ _ h4;have l5:=ar.new WT (.lst L2) _ _ l4;have m5:(upd H4 p5 (.lst L2)) p5=some (.lst L2):=ae;generalize upd H4 p5 (.lst L2)=H5 at *;refine Bd l5 m5 (by lia) fun p6 XR=>?_;have s6:=s5.CO XR (.lst (L1++L2));have h6:=ar.new XR (.lst (L1++L2)) _ _ h5;have l6:(upd H5 p6 (.lst (L1++L2))) p6=some (.lst (L1++L2)):=ae;generalize upd H5 p6 (.lst (L1++L2))=H6 at *;refine⟨y,_,_,_,rfl,h6,cf.xi,cf.k8,?_⟩;refine⟨y,_,_,_,rfl,h6,cf.xi,cf.k9,?_⟩;refine⟨y,_,_,_,rfl,h6,cf.xi,cf.Z0,?_⟩;refine⟨y,_,_,_,rfl,h6,cf.xi,cf.Z1,?_⟩;rw[<- e3];intro p7 WU;have s7:=s6.CO WU (.lst L3);have h7:=ar.new WU (.lst L3) _ _ h6;have l7:=ar.new WU (.lst L3) _ _ l6;have m7:(upd H6 p7 (.lst L3)) p7=some (.lst L3):=ae;generalize upd H6 p7 (.lst L3)=H7 at *;refine Bd l7 m7 (by rw[zaf];lia) fun p8 XS=>?_;have s8:=s7.CO XS (.lst (L1++L2++L3));have h8:=ar.new XS (.lst (L1++L2++L3)) _ _ h7;have l8:(upd H7 p8 (.lst (L1++L2++L3))) p8=some (.lst (L1++L2++L3)):=ae;generalize upd H7 p8 (.lst (L1++L2++L3))=H8 at *;refine⟨y,_,_,_,rfl,h8,cf.xi,cf.WS,?_⟩;refine⟨y,_,_,_,rfl,h8,cf.xi,cf.kv,?_⟩;rw[show (!true)=false from rfl,<- e4];intro p9 XT;have s9:=s8.CO XT (.lst L4);have l9:=ar.new XT (.lst L4) _ _ l8;have m9:(upd H8 p9 (.lst L4)) p9=some (.lst L4):=ae;generalize upd H8 p9 (.lst L4)=H9 at *;refine Bd l9 m9 (by rw[zaf,zaf];lia) fun pa Z4=>?_;show U2 [some (V.ref ra),some (V.ref pa),none] _;refine(pJ _ _).mpr ?_;walk_at "rd";exact q _ _ (s9.CO Z4 _) (by rw[ae,eq])
 ·rw[eg] at he;rw[he] at q;refine(pJ _ _).mpr ?_;walk_at "rd";exact q p H2 (s1.trans s2) (s2 _ _ y1)
theorem iO{α:Type}{L:List α}{n:Nat}(hn:L.length=n)(h0:0<n)(c:Int):∃v∈L,Gs L (c%n)=some v:=by
 have h1:=zbt c (show (n:Int)≠0 by lia);have h2:=zbe c (show (0:Int)<n by lia);obtain⟨j,hj⟩:=Int.eq_ofNat_of_zero_le h1;rw[hj] at h2 ⊢;have hl:j<L.length:=by lia
 exact⟨L[j],zaT hl,aG (zag hl)⟩
theorem D6{nm:W}{a b:Int}(hn:PM.isName nm=true)(WV:32 ∉ nm)(WW:10 ∉ nm)(ln:nm.length<=8)(ha:0<=a/\a<1000)(hb:0<=b/\b<1000):OD (dJ 32 [PM.cQ,nm,PM.dig a.toNat,PM.dig b.toNat]) (.box nm a b):=by
 obtain⟨a1,a2⟩:=PM.K8 a.toNat (by lia);obtain⟨b1,b2⟩:=PM.K8 b.toNat (by lia);have Q5:∀ {x:W},PM.isNumber x=true->x.length<=3/\∀c∈x,48<=c/\c<=57:=fun {x} h=>by
  unfold PM.isNumber at h;simp only[zaJ,decide_eq_true_eq,za0] at h;refine⟨h.1.1.2,fun c hc=>?_⟩;have:=h.1.2 c hc;unfold PM.jL at this;simpa using this
 obtain⟨la,fa⟩:=Q5 a1;obtain⟨lb,fb⟩:=Q5 b1;have na:∀c,c<48->c ∉ PM.dig a.toNat:=fun c h z=>by have:=fa c z;lia
 have nb:∀c,c<48->c ∉ PM.dig b.toNat:=fun c h z=>by have:=fb c z;lia
 have lg:(dJ 32 [PM.cQ,nm,PM.dig a.toNat,PM.dig b.toNat])=PM.cQ++([32]++nm++([32]++PM.dig a.toNat)++([32]++PM.dig b.toNat)):=by
  unfold dJ;simp
 refine⟨?_,?_,?_⟩
 ·rw[rZ (by simp) (fun w hw=>by
   simp only[zaj,za4,or_false] at hw;rcases hw with rfl |rfl |rfl |rfl
   ·decide
   ·exact WV
   ·exact na 32 (by decide)
   ·exact nb 32 (by decide))]
  have e:PM.gk [PM.cQ,nm,PM.dig a.toNat,PM.dig b.toNat]=PM.IC [PM.cQ,nm,PM.dig a.toNat,PM.dig b.toNat]:=rfl;rw[e];show ((PM.xT nm).bind fun n=>(PM.IB (PM.dig a.toNat)).bind fun x=>(PM.IB (PM.dig b.toNat)).map (PM.Fm.box n x))=_;unfold PM.xT PM.IB;rw[if_pos hn,if_pos a1,if_pos b1,a2,b2,zcb ha.1,zcb hb.1];rfl
 ·rw[lg];simp only[zaf,zah,za3];have:PM.cQ.length=3:=rfl;lia
 ·rw[lg];intro z;simp only[zay,zaj,za4,or_false] at z;rcases z with z |(((z |z) |(z |z)) |(z |z))
  ·revert z;decide
  ·cases z
  ·exact WW z
  ·cases z
  ·exact na 10 (by decide) z
  ·cases z
  ·exact nb 10 (by decide) z
theorem FR(T:Tx K mg t):bB P w K mg base kN 1 t.fw t.gx ["number"] (fun vs H Q E=>∃c:Int,vs=[.int c]/\0<=c/\∀l w f H',ar H H'->OD w f->Mn K H' l w f->Q (.ref l) H'):=by
 refine T.d6.F.v7 pe (fun vs H Q E h=>?_) (fun eA A outer s H vs Q E hr h=>?_)
 ·obtain⟨_,rfl,_⟩:=h;rfl
 obtain⟨c,rfl,hc,q⟩:=h;have nd:=pe.nd;refine⟨_,[some (.int c),none,none,none],(ag (aR (i:=1) nd rfl (zam rfl) (a9 aU (aA (br (vs:=[.str "a",.str "ab",.str "abc",.str "b",.str "c",.str "d"]) (by kernel_rfl))) (aF c9 (pv 0) ah) kW))
 (ag (aR (i:=2) nd rfl (zam rfl) (a9 aU (aA (aa ah (aa ah (aa ah (aa ah (aa (aF uA ah (aF c9 (aF jF (pv 0) ah) ah)) (aa (aF uA ah (aF c9 (aF jF (pv 0) ah) ah)) (aa ah (aa ah af au) au) cG) cG) au) au) au) au)) (aF c9 (aF jF (pv 0) ah) ah) kW))
 (ag (aR (i:=3) nd rfl (zam rfl) (a9 aU (aA (aa ah (aa (bA (HK rfl) rfl T.MC PyProof.Rows.Boot.«max» (aa ah (aa (aF ES (pv 2) ah) af cG) au)) (aa (pv 2) (aa (aF c9 (aF jF (pv 0) ah) ah) af cG) ai) bT) au)) (aF c9 (aF jF (pv 0) ah) ah) kW))
 (aj (aV (aA (aa (aF aE (aF aE (aF aE (aF aE (aF aE ao (pv 1)) ao) (fO tG rfl T.Ht PyProof.Rows.Boot.«str» (aa (pv 2) af ai))) ao) (fO tG rfl T.Ht PyProof.Rows.Boot.«str» (aa (pv 3) af ai))) (aa ao (aa (aA (aa (pv 1) af ai)) (aa (uy (sW vv vv ah (pv 2) ah) (w6 (fN xg (pv 3) (pv 2) (aW _)))) af N5) bM) au) cG))))))),rfl,?_⟩
 have line:zdh=2 ^ 24:=rfl;have m9:=zbt (c/6) (show (9:Int)≠0 by decide);have m9':=zbe (c/6) (show (0:Int)<9 by decide);have m12:=zbt (c/480) (show (12:Int)≠0 by decide);have Z5:=zbe (c/480) (show (0:Int)<12 by decide);refine aC fun U1 vW=>?_;walk_at "rd";intro g1 f1;obtain⟨v1,OO,a1⟩:=iO (L:=[V.str (zaa "a"),V.str (zaa "ab"),V.str (zaa "abc"),V.str (zaa "b"),V.str (zaa "c"),V.str (zaa "d")]) (n:=6) rfl (by decide) c;have el:([V.str (zaa "a"),V.str (zaa "ab"),V.str (zaa "abc"),V.str (zaa "b"),V.str (zaa "c"),V.str (zaa "d")]:List V)=([[97],[97,98],[97,98,99],[98],[99],[100]]:List W).map sv:=by decide +kernel
 have Up:=OO;rw[el] at Up;obtain⟨nm,Tt,rfl⟩:=zaK.mp Up;have pn:PM.isName nm=true/\32 ∉ nm/\10 ∉ nm/\nm.length<=8:=by
  revert Tt
  have all:∀n∈([[97],[97,98],[97,98,99],[98],[99],[100]]:List W),PM.isName n=true/\32 ∉ n/\10 ∉ n/\n.length<=8:=by decide +kernel
  exact all nm
 obtain⟨hn,WV,WW,ln⟩:=pn;refine aP (.of ae) a1 ((vW _ _).mpr (aC fun U2 pJ=>?_));clear vW;have s1:=ar.new f1 (.lst [V.str (zaa "a"),V.str (zaa "ab"),V.str (zaa "abc"),V.str (zaa "b"),V.str (zaa "c"),V.str (zaa "d")]);generalize upd H g1 _=H1 at *;walk_at "rd";intro g2 f2;obtain⟨v2,Sl,a2⟩:=iO (L:=[V.int 1,V.int 2,V.int 10,V.int 11,V.int (2+c/6%9),V.int (2+c/6%9),V.int 0,V.int 999]) (n:=8) rfl (by decide) (c/60);obtain⟨sz,rfl,J8⟩:∃i,v2=V.int i/\0<=i/\i<1000:=by
  simp only[zaj,za4,or_false] at Sl;rcases Sl with rfl |rfl |rfl |rfl |rfl |rfl |rfl |rfl<;>exact⟨_,rfl,by lia,by lia⟩
 refine aP (.of ae) a2 ((pJ _ _).mpr (aC fun U3 pq=>?_));clear pJ;have s2:=s1.trans (ar.new f2 (.lst [V.int 1,V.int 2,V.int 10,V.int 11,V.int (2+c/6%9),V.int (2+c/6%9),V.int 0,V.int 999]));generalize upd H1 g2 _=H2 at *;walk_at "rd";refine⟨0,sz-1,rfl,fun g3 f3=>?_⟩;obtain⟨v3,XU,a3⟩:=iO (L:=[V.int 0,V.int (if sz-1>0 then sz-1 else 0),V.int sz,V.int (c/480%12)]) (n:=4) rfl (by decide) (c/6000);obtain⟨fi,rfl,Vl⟩:∃i,v3=V.int i/\0<=i/\i<1000:=by
  simp only[zaj,za4,or_false] at XU;rcases XU with rfl |rfl |rfl |rfl
  ·exact⟨_,rfl,by lia,by lia⟩
  ·refine⟨_,rfl,?_,?_⟩<;>split<;>lia
  ·exact⟨_,rfl,J8⟩
  ·exact⟨_,rfl,by lia,by lia⟩
 refine aP (.of ae) a3 ((pq _ _).mpr ?_);clear pq;have s3:=s2.trans (ar.new f3 (.lst [V.int 0,V.int (if sz-1>0 then sz-1 else 0),V.int sz,V.int (c/480%12)]));generalize upd H2 g3 _=H3 at *;walk_at "rd";have ok:=D6 hn WV WW ln J8 Vl;have d1:=wO (k:=sz) (by lia);have d2:=wO (k:=fi) (by lia);have lm:(S nm).length<=8:=by rw[eE];exact ln
 have l4:(zaa "box ").length=4:=by decide +kernel
 have l1:(zaa " ").length=1:=by decide +kernel
 have PL:∀ {i:Int},0<=i->i<1000->i.natAbs.log2<1920:=fun {i} h1 h2=>by
  by_cases h0:i.natAbs=0
  ·rw[h0];decide
  ·exact Nat.lt_trans ((Nat.log2_lt h0).mpr (show i.natAbs<2 ^ 64 by lia)) (by decide)
 refine⟨_,S nm,rfl,rfl,by lia,_,_,rfl,rfl,by rw[strLen_append];lia,.inl ⟨sz,rfl,PL J8.1 J8.2,_,_,rfl,rfl,by rw[strLen_append,strLen_append];lia,_,_,rfl,rfl,by rw[strLen_append,strLen_append,strLen_append];lia,.inl ⟨fi,rfl,PL Vl.1 Vl.2,_,_,rfl,rfl,by rw[strLen_append,strLen_append,strLen_append,strLen_append];lia,?_⟩⟩⟩;have et:V.str (zaa "box "++S nm++zaa " "++zaa (toString sz)++zaa " "++zaa (toString fi))=sv (dJ 32 [PM.cQ,nm,PM.dig sz.toNat,PM.dig fi.toNat]):=by
  rw[V.str.inj (Bu sz J8.1),V.str.inj (Bu fi Vl.1),show zaa "box "=S [98,111,120,32] by decide +kernel,show zaa " "=S [32] by decide +kernel,AM,AM,AM,AM,AM];unfold sv dJ
  congr 2
  simp[PM.cQ]
 rw[et];intro g4 f4;have s4:=s3.trans (ar.new f4 (.lst [sv nm]));have y4:(upd H3 g4 (.lst [sv nm])) g4=some (.lst [sv nm]):=ae;generalize upd H3 g4 (.lst [sv nm])=H4 at *;have fin:∀b:Bool,b=decide (2<=sz/\sz<=10/\fi<sz)->∀g5,H4 g5=none->Q (.ref g5) (upd H4 g5 (.lst [sv (dJ 32 [PM.cQ,nm,PM.dig sz.toNat,PM.dig fi.toNat]),V.str (zaa "box"),V.ref g4,V.bl b])):=fun b eb g5 f5=>by
  have s5:=ar.new f5 (.lst [sv (dJ 32 [PM.cQ,nm,PM.dig sz.toNat,PM.dig fi.toNat]),V.str (zaa "box"),V.ref g4,V.bl b]);refine q g5 _ _ _ (s4.trans s5) ok ⟨g4,?_,s5 _ _ y4⟩;rw[ae,eb,jQ];rfl
 by_cases h2:2<=sz
 ·rw[if_pos h2];by_cases JG:sz<=10
  ·rw[if_pos JG];exact fin _ (by simp[h2,JG])
  ·rw[if_neg JG];exact fin _ (by simp[JG])
 ·rw[if_neg h2,if_neg zad];exact fin _ (by simp[h2])
def ud:List W:=[[97],[97,98],[98],[97],[97,98],[98],[122,122],[97,98,99,100]]
def sJ:List W:=[[97],[97,98,99],[98],[97],[97],[98],[99],[97,97]]
def gg (H:Hp) (kd:W) (v:V):Prop:=∃p z n ns,v=.ref p/\H p=some (.lst [.str z,.ref n])/\H n=some (.lst (ns.map sv))/\uT z kd ns=true
theorem gg.mono{H H':Hp}{kd:W}{v:V}(h:gg H kd v)(s:ar H H'):gg H' kd v:=by
 obtain⟨p,z,n,ns,e,h1,h2,h3⟩:=h;exact⟨p,z,n,ns,e,s _ _ h1,s _ _ h2,h3⟩
theorem FT(T:Tx K mg t):bB P w K mg base kN 2 t.fz t.gy ["cell"] (Ue K):=by
 have cS:=B5 (P:=P) (w:=w) (base:=base) T;have yU:=FR (P:=P) (w:=w) (base:=base) T;refine T.d7.F.v7 pf (fun vs H Q E h=>?_) (fun eA A outer s H vs Q E hr h=>?_)
 ·obtain⟨_,rfl,_⟩:=h;rfl
 obtain⟨c,rfl,q⟩:=h;have nd:=pf.nd;refine⟨_,[some (.int c),none,none,none,none,none,none,none,none,none],(@ag _ _ _ _ _ (@aR _ _ 1 _ _ _ _ nd rfl (zam rfl) (@aS _ _ _ _ _ _ _ _ _ _ _ _ _ _ _ _ cS (hr.mono (by first|decide|omega)) rfl T.aZ.m T.aZ.F.kp T.aZ.b .nil cn (@aa _ _ _ _ _ (pv 0) (@aa _ _ _ _ _ (@ah _ _ _ _) (@af _) (@au _ _ _ _ _)) (@ai _ _ _ _)) (by first |rfl |exact .inl rfl |exact .inr rfl |decide |(intro _;rfl) |assumption) (by first |rfl |exact .inl rfl |exact .inr rfl |decide |(intro _;rfl) |assumption) (by first |rfl |exact .inl rfl |exact .inr rfl |decide |(intro _;rfl) |assumption)) (by first |rfl |exact .inl rfl |exact .inr rfl |decide |(intro _;rfl) |assumption) (by first |rfl |exact .inl rfl |exact .inr rfl |decide |(intro _;rfl) |assumption)) (@ag _ _ _ _ _ (@aR _ _ 2 _ _ _ _ nd rfl (zam rfl) (@aS _ _ _ _ _ _ _ _ _ _ _ _ _ _ _ _ cS (hr.mono (by first|decide|omega)) rfl T.aZ.m T.aZ.F.kp T.aZ.b .nil cn (@aa _ _ _ _ _ (pv 0) (@aa _ _ _ _ _ (@ah _ _ _ _) (@af _) (@au _ _ _ _ _)) (@ai _ _ _ _)) (by first |rfl |exact .inl rfl |exact .inr rfl |decide |(intro _;rfl) |assumption) (by first |rfl |exact .inl rfl |exact .inr rfl |decide |(intro _;rfl) |assumption) (by first |rfl |exact .inl rfl |exact .inr rfl |decide |(intro _;rfl) |assumption)) (by first |rfl |exact .inl rfl |exact .inr rfl |decide |(intro _;rfl) |assumption) (by first |rfl |exact .inl rfl |exact .inr rfl |decide |(intro _;rfl) |assumption)) (@ag _ _ _ _ _ (@aR _ _ 3 _ _ _ _ nd rfl (zam rfl) (@aF _ _ _ _ _ _ _ _ (@c9 _) (pv 1) (@ah _ _ _ _)) (by first |rfl |exact .inl rfl |exact .inr rfl |decide |(intro _;rfl) |assumption) (by first |rfl |exact .inl rfl |exact .inr rfl |decide |(intro _;rfl) |assumption)) (@ag _ _ _ _ _ (@aR _ _ 4 _ _ _ _ nd rfl (zam rfl) (@a9 _ _ _ _ _ _ _ (@aU _) (@aA _ _ _ _ (@br _ _ ([.str "a",.str "ab",.str "b",.str "a",.str "ab",.str "b",.str "zz",.str "abcd"]) (by kernel_rfl))) (@aF _ _ _ _ _ _ _ _ (@c9 _) (pv 2) (@ah _ _ _ _)) (@kW _ _ _ _)) (by first |rfl |exact .inl rfl |exact .inr rfl |decide |(intro _;rfl) |assumption) (by first |rfl |exact .inl rfl |exact .inr rfl |decide |(intro _;rfl) |assumption)) (@ag _ _ _ _ _ (@aR _ _ 5 _ _ _ _ nd rfl (zam rfl) (@a9 _ _ _ _ _ _ _ (@aU _) (@aA _ _ _ _ (@br _ _ ([.str "a",.str "abc",.str "b",.str "a",.str "a",.str "b",.str "c",.str "aa"]) (by kernel_rfl))) (@aF _ _ _ _ _ _ _ _ (@c9 _) (@aF _ _ _ _ _ _ _ _ (@jF _) (pv 2) (@ah _ _ _ _)) (@ah _ _ _ _)) (@kW _ _ _ _)) (by first |rfl |exact .inl rfl |exact .inr rfl |decide |(intro _;rfl) |assumption) (by first |rfl |exact .inl rfl |exact .inr rfl |decide |(intro _;rfl) |assumption)) (@ag _ _ _ _ _ (@bc _ _ _ _ _ _ _ _ (@aH _ _ _ _ _ _ _ _ (@xg _) (pv 3) (@ah _ _ _ _) (aW _)) (@aj _ _ _ (@aV _ _ _ _ (@aS _ _ _ _ _ _ _ _ _ _ _ _ _ _ _ _ yU (hr.mono (by first|decide|omega)) rfl T.d6.m T.d6.F.kp T.d6.b .nil cn (@aa _ _ _ _ _ (pv 2) (@af _) (@ai _ _ _ _)) (by first |rfl |exact .inl rfl |exact .inr rfl |decide |(intro _;rfl) |assumption) (by first |rfl |exact .inl rfl |exact .inr rfl |decide |(intro _;rfl) |assumption) (by first |rfl |exact .inl rfl |exact .inr rfl |decide |(intro _;rfl) |assumption)))) (@aO _)) (@ag _ _ _ _ _ (@bc _ _ _ _ _ _ _ _ (@aH _ _ _ _ _ _ _ _ (@xg _) (pv 3) (@ah _ _ _ _) (aW _)) (@ag _ _ _ _ _ (@aR _ _ 6 _ _ _ _ nd rfl (zam rfl) (@aA _ _ _ _ (@aa _ _ _ _ _ (@aA _ _ _ _ (@aa _ _ _ _ _ (@ao _ _ _ _) (@aa _ _ _ _ _ (@aA _ _ _ _ (@af _)) (@af _) (@bM _ _ _ _)) (@au _ _ _ _ _))) (@aa _ _ _ _ _ (@aA _ _ _ _ (@aa _ _ _ _ _ (@aF _ _ _ _ _ _ _ _ aE (@ao _ _ _ _) (pv 5)) (@aa _ _ _ _ _ (@aA _ _ _ _ (@aa _ _ _ _ _ (pv 5) (@af _) (@ai _ _ _ _))) (@af _) (@bM _ _ _ _)) (@cG _ _ _ _ _ _))) (@af _) (@bM _ _ _ _)) (@bM _ _ _ _))) (by first |rfl |exact .inl rfl |exact .inr rfl |decide |(intro _;rfl) |assumption) (by first |rfl |exact .inl rfl |exact .inr rfl |decide |(intro _;rfl) |assumption)) (@ag _ _ _ _ _ (@cF _ _ _ _ (@kT _ _ _ _ _ _ _ _ _ _ _ _ zaC zaH zaI c6 (pv 6) (@aa _ _ _ _ _ (@aA _ _ _ _ (@aa _ _ _ _ _ (@aF _ _ _ _ _ _ _ _ aE (@aF _ _ _ _ _ _ _ _ aE (@aF _ _ _ _ _ _ _ _ aE (@aF _ _ _ _ _ _ _ _ aE (@ao _ _ _ _) (pv 4)) (@ao _ _ _ _)) (pv 5)) (@ao _ _ _ _)) (@aa _ _ _ _ _ (@aA _ _ _ _ (@aa _ _ _ _ _ (pv 4) (@aa _ _ _ _ _ (pv 5) (@af _) (@ai _ _ _ _)) (@ai _ _ _ _))) (@af _) (@bM _ _ _ _)) (@cG _ _ _ _ _ _))) (@af _) (@bM _ _ _ _)) (by first |rfl |exact .inl rfl |exact .inr rfl |decide |(intro _;rfl) |assumption) (by first |rfl |exact .inl rfl |exact .inr rfl |decide |(intro _;rfl) |assumption) (by first |rfl |exact .inl rfl |exact .inr rfl |decide |(intro _;rfl) |assumption) (by first |rfl |exact .inl rfl |exact .inr rfl |decide |(intro _;rfl) |assumption) (by first |rfl |exact .inl rfl |exact .inr rfl |decide |(intro _;rfl) |assumption)) (by first |rfl |exact .inl rfl |exact .inr rfl |decide |(intro _;rfl) |assumption)) (@ag _ _ _ _ _ (@uz _ _ _ _ _ _ (@a9 _ _ _ _ _ _ _ (@aU _) (pv 6) (@aF _ _ _ _ _ _ _ _ (@c9 _) (@aF _ _ _ _ _ _ _ _ (@jF _) (pv 2) (@ah _ _ _ _)) (@ah _ _ _ _)) (@kW _ _ _ _)) (@Bt _ _ _ _ _ _ rfl (@eJ _ _ _ _ _ (@cJ _ _ 7 _ nd rfl (zam rfl) (by first |rfl |exact .inl rfl |exact .inr rfl |decide |(intro _;rfl) |assumption)) (@eJ _ _ _ _ _ (@cJ _ _ 8 _ nd rfl (zam rfl) (by first |rfl |exact .inl rfl |exact .inr rfl |decide |(intro _;rfl) |assumption)) (@sV _) (by first |rfl |exact .inl rfl |exact .inr rfl |decide |(intro _;rfl) |assumption)) (by first |rfl |exact .inl rfl |exact .inr rfl |decide |(intro _;rfl) |assumption)) (by first |rfl |exact .inl rfl |exact .inr rfl |decide |(intro _;rfl) |assumption) (by first |rfl |exact .inl rfl |exact .inr rfl |decide |(intro _;rfl) |assumption)) (by first |rfl |exact .inl rfl |exact .inr rfl |decide |(intro _;rfl) |assumption) (by first |rfl |exact .inl rfl |exact .inr rfl |decide |(intro _;rfl) |assumption) (by first |rfl |exact .inl rfl |exact .inr rfl |decide |(intro _;rfl) |assumption)) (@aj _ _ _ (@aV _ _ _ _ (@aA _ _ _ _ (@aa _ _ _ _ _ (pv 7) (@aa _ _ _ _ _ (@ao _ _ _ _) (@aa _ _ _ _ _ (pv 8) (@aa _ _ _ _ _ (@rk _ _ _ _) (@af _) (@au _ _ _ _ _)) (@ai _ _ _ _)) (@au _ _ _ _ _)) (@ai _ _ _ _)))))))) (@aO _)) (@ag _ _ _ _ _ (@bc _ _ _ _ _ _ _ _ (@aH _ _ _ _ _ _ _ _ (@cy _) (pv 3) (@ah _ _ _ _) (aW _)) (@ag _ _ _ _ _ (@aR _ _ 9 _ _ _ _ nd rfl (zam rfl) (@a9 _ _ _ _ _ _ _ (@Kj _) (@ao _ _ _ _) (@aF _ _ _ _ _ _ _ _ (@c9 _) (@aF _ _ _ _ _ _ _ _ (@jF _) (pv 2) (@ah _ _ _ _)) (@ah _ _ _ _)) (@kW _ _ _ _)) (by first |rfl |exact .inl rfl |exact .inr rfl |decide |(intro _;rfl) |assumption) (by first |rfl |exact .inl rfl |exact .inr rfl |decide |(intro _;rfl) |assumption)) (@aj _ _ _ (@aV _ _ _ _ (@aA _ _ _ _ (@aa _ _ _ _ _ (@aF _ _ _ _ _ _ _ _ aE (@aF _ _ _ _ _ _ _ _ aE (@aF _ _ _ _ _ _ _ _ aE (@aF _ _ _ _ _ _ _ _ aE (@aF _ _ _ _ _ _ _ _ aE (@aF _ _ _ _ _ _ _ _ aE (@ao _ _ _ _) (pv 4)) (@ao _ _ _ _)) (pv 9)) (@ao _ _ _ _)) (pv 5)) (@ao _ _ _ _)) (@aa _ _ _ _ _ (@ao _ _ _ _) (@aa _ _ _ _ _ (@aA _ _ _ _ (@aa _ _ _ _ _ (pv 4) (@aa _ _ _ _ _ (pv 5) (@af _) (@ai _ _ _ _)) (@ai _ _ _ _))) (@aa _ _ _ _ _ (@rk _ _ _ _) (@af _) (@au _ _ _ _ _)) (@bM _ _ _ _)) (@au _ _ _ _ _)) (@cG _ _ _ _ _ _)))))) (@aO _)) (@ag _ _ _ _ _ (@bc _ _ _ _ _ _ _ _ (@aH _ _ _ _ _ _ _ _ (@cy _) (pv 3) (@ah _ _ _ _) (aW _)) (@aj _ _ _ (@aV _ _ _ _ (@aA _ _ _ _ (@aa _ _ _ _ _ (@ao _ _ _ _) (@aa _ _ _ _ _ (@ao _ _ _ _) (@aa _ _ _ _ _ (@aA _ _ _ _ (@af _)) (@aa _ _ _ _ _ (@rk _ _ _ _) (@af _) (@au _ _ _ _ _)) (@bM _ _ _ _)) (@au _ _ _ _ _)) (@au _ _ _ _ _))))) (@aO _)) (@ag _ _ _ _ _ (@bc _ _ _ _ _ _ _ _ (@aH _ _ _ _ _ _ _ _ (@xg _) (pv 3) (@ah _ _ _ _) (aW _)) (@aj _ _ _ (@aV _ _ _ _ (@aA _ _ _ _ (@aa _ _ _ _ _ (@ao _ _ _ _) (@aa _ _ _ _ _ (@ao _ _ _ _) (@aa _ _ _ _ _ (@aA _ _ _ _ (@af _)) (@aa _ _ _ _ _ (@rk _ _ _ _) (@af _) (@au _ _ _ _ _)) (@bM _ _ _ _)) (@au _ _ _ _ _)) (@au _ _ _ _ _))))) (@aO _)) (@ag _ _ _ _ _ (@aR _ _ 6 _ _ _ _ nd rfl (zam rfl) (@aA _ _ _ _ (@aa _ _ _ _ _ (@aA _ _ _ _ (@aa _ _ _ _ _ (@aF _ _ _ _ _ _ _ _ aE (@ao _ _ _ _) (pv 4)) (@aa _ _ _ _ _ (@aA _ _ _ _ (@aa _ _ _ _ _ (pv 4) (@af _) (@ai _ _ _ _))) (@af _) (@bM _ _ _ _)) (@cG _ _ _ _ _ _))) (@aa _ _ _ _ _ (@aA _ _ _ _ (@aa _ _ _ _ _ (@aF _ _ _ _ _ _ _ _ aE (@aF _ _ _ _ _ _ _ _ aE (@aF _ _ _ _ _ _ _ _ aE (@aF _ _ _ _ _ _ _ _ aE (@ao _ _ _ _) (pv 4)) (@ao _ _ _ _)) (pv 5)) (@ao _ _ _ _)) (@aa _ _ _ _ _ (@aA _ _ _ _ (@aa _ _ _ _ _ (pv 4) (@aa _ _ _ _ _ (pv 5) (@af _) (@ai _ _ _ _)) (@ai _ _ _ _))) (@af _) (@bM _ _ _ _)) (@cG _ _ _ _ _ _))) (@aa _ _ _ _ _ (@aA _ _ _ _ (@aa _ _ _ _ _ (@ao _ _ _ _) (@aa _ _ _ _ _ (@aA _ _ _ _ (@af _)) (@af _) (@bM _ _ _ _)) (@au _ _ _ _ _))) (@aa _ _ _ _ _ (@aA _ _ _ _ (@aa _ _ _ _ _ (@ao _ _ _ _) (@aa _ _ _ _ _ (@aA _ _ _ _ (@af _)) (@af _) (@bM _ _ _ _)) (@au _ _ _ _ _))) (@af _) (@bM _ _ _ _)) (@bM _ _ _ _)) (@bM _ _ _ _)) (@bM _ _ _ _))) (by first |rfl |exact .inl rfl |exact .inr rfl |decide |(intro _;rfl) |assumption) (by first |rfl |exact .inl rfl |exact .inr rfl |decide |(intro _;rfl) |assumption)) (@ag _ _ _ _ _ (@aR _ _ 6 _ _ _ _ nd rfl (zam rfl) (@aF _ _ _ _ _ _ _ _ (@cW _) (pv 6) (@aA _ _ _ _ (@aa _ _ _ _ _ (@aA _ _ _ _ (@aa _ _ _ _ _ (@aF _ _ _ _ _ _ _ _ aE (@aF _ _ _ _ _ _ _ _ aE (@aF _ _ _ _ _ _ _ _ aE (@ao _ _ _ _) (pv 4)) (@ao _ _ _ _)) (pv 5)) (@aa _ _ _ _ _ (@aA _ _ _ _ (@aa _ _ _ _ _ (pv 4) (@aa _ _ _ _ _ (pv 5) (@af _) (@ai _ _ _ _)) (@ai _ _ _ _))) (@af _) (@bM _ _ _ _)) (@cG _ _ _ _ _ _))) (@aa _ _ _ _ _ (@aA _ _ _ _ (@aa _ _ _ _ _ (@aF _ _ _ _ _ _ _ _ aE (@aF _ _ _ _ _ _ _ _ aE (@aF _ _ _ _ _ _ _ _ aE (@ao _ _ _ _) (pv 4)) (@ao _ _ _ _)) (pv 5)) (@aa _ _ _ _ _ (@aA _ _ _ _ (@aa _ _ _ _ _ (pv 4) (@aa _ _ _ _ _ (pv 5) (@af _) (@ai _ _ _ _)) (@ai _ _ _ _))) (@af _) (@bM _ _ _ _)) (@cG _ _ _ _ _ _))) (@af _) (@bM _ _ _ _)) (@bM _ _ _ _)))) (by first |rfl |exact .inl rfl |exact .inr rfl |decide |(intro _;rfl) |assumption) (by first |rfl |exact .inl rfl |exact .inr rfl |decide |(intro _;rfl) |assumption)) (@ag _ _ _ _ _ (@aR _ _ 6 _ _ _ _ nd rfl (zam rfl) (@aF _ _ _ _ _ _ _ _ (@cW _) (pv 6) (@aA _ _ _ _ (@aa _ _ _ _ _ (@aA _ _ _ _ (@aa _ _ _ _ _ (@aF _ _ _ _ _ _ _ _ aE (@aF _ _ _ _ _ _ _ _ aE (@aF _ _ _ _ _ _ _ _ aE (@aF _ _ _ _ _ _ _ _ aE (@ao _ _ _ _) (pv 4)) (@ao _ _ _ _)) (pv 5)) (@ao _ _ _ _)) (@aa _ _ _ _ _ (@aA _ _ _ _ (@aa _ _ _ _ _ (pv 4) (@aa _ _ _ _ _ (pv 5) (@af _) (@ai _ _ _ _)) (@ai _ _ _ _))) (@af _) (@bM _ _ _ _)) (@cG _ _ _ _ _ _))) (@aa _ _ _ _ _ (@aA _ _ _ _ (@aa _ _ _ _ _ (@aF _ _ _ _ _ _ _ _ aE (@aF _ _ _ _ _ _ _ _ aE (@ao _ _ _ _) (pv 4)) (@ao _ _ _ _)) (@aa _ _ _ _ _ (@aA _ _ _ _ (@aa _ _ _ _ _ (pv 4) (@af _) (@ai _ _ _ _))) (@af _) (@bM _ _ _ _)) (@cG _ _ _ _ _ _))) (@af _) (@bM _ _ _ _)) (@bM _ _ _ _)))) (by first |rfl |exact .inl rfl |exact .inr rfl |decide |(intro _;rfl) |assumption) (by first |rfl |exact .inl rfl |exact .inr rfl |decide |(intro _;rfl) |assumption)) (@ag _ _ _ _ _ (@uz _ _ _ _ _ _ (@a9 _ _ _ _ _ _ _ (@aU _) (pv 6) (@aF _ _ _ _ _ _ _ _ (@c9 _) (@aF _ _ _ _ _ _ _ _ (@jF _) (pv 2) (@ah _ _ _ _)) (@ah _ _ _ _)) (@kW _ _ _ _)) (@Bt _ _ _ _ _ _ rfl (@eJ _ _ _ _ _ (@cJ _ _ 7 _ nd rfl (zam rfl) (by first |rfl |exact .inl rfl |exact .inr rfl |decide |(intro _;rfl) |assumption)) (@eJ _ _ _ _ _ (@cJ _ _ 8 _ nd rfl (zam rfl) (by first |rfl |exact .inl rfl |exact .inr rfl |decide |(intro _;rfl) |assumption)) (@sV _) (by first |rfl |exact .inl rfl |exact .inr rfl |decide |(intro _;rfl) |assumption)) (by first |rfl |exact .inl rfl |exact .inr rfl |decide |(intro _;rfl) |assumption)) (by first |rfl |exact .inl rfl |exact .inr rfl |decide |(intro _;rfl) |assumption) (by first |rfl |exact .inl rfl |exact .inr rfl |decide |(intro _;rfl) |assumption)) (by first |rfl |exact .inl rfl |exact .inr rfl |decide |(intro _;rfl) |assumption) (by first |rfl |exact .inl rfl |exact .inr rfl |decide |(intro _;rfl) |assumption) (by first |rfl |exact .inl rfl |exact .inr rfl |decide |(intro _;rfl) |assumption)) (@aj _ _ _ (@aV _ _ _ _ (@aA _ _ _ _ (@aa _ _ _ _ _ (pv 7) (@aa _ _ _ _ _ (@ao _ _ _ _) (@aa _ _ _ _ _ (pv 8) (@aa _ _ _ _ _ (@rk _ _ _ _) (@af _) (@au _ _ _ _ _)) (@ai _ _ _ _)) (@au _ _ _ _ _)) (@ai _ _ _ _))))))))))))))))))),rfl,?_⟩;have line:zdh=2 ^ 24:=rfl;refine aC fun U1 vW=>?_;walk_at "rd";refine⟨c,80,rfl,by decide,by decide,(vW _ _).mpr (aC fun U2 pJ=>?_)⟩;clear vW;obtain⟨n0,_⟩:=xx c 80;generalize stir c 80=num at *;walk_at "rd";refine⟨c,81,rfl,by decide,by decide,(pJ _ _).mpr (aC fun U3 pq=>?_)⟩;clear pJ;obtain⟨Z6,_⟩:=xx c 81;generalize stir c 81=RH at *;walk_at "rd";refine(pq _ _).mpr (aC fun U4 t9=>?_);clear pq;generalize num%16=kd at *;walk_at "rd";intro g1 f1;have WX:([V.str (zaa "a"),V.str (zaa "ab"),V.str (zaa "b"),V.str (zaa "a"),V.str (zaa "ab"),V.str (zaa "b"),V.str (zaa "zz"),V.str (zaa "abcd")]:List V)=ud.map sv:=by decide +kernel
 rw[WX];obtain⟨v1,OO,a1⟩:=iO (L:=ud.map sv) (n:=8) rfl (by decide) RH;obtain⟨one,h1,rfl⟩:=zaK.mp OO;refine aP (.of ae) a1 ((t9 _ _).mpr (aC fun U5 ua=>?_));clear t9;have s1:=ar.new f1 (.lst (ud.map sv));generalize upd H g1 _=H1 at *;walk_at "rd";intro g2 f2;have Z7:([V.str (zaa "a"),V.str (zaa "abc"),V.str (zaa "b"),V.str (zaa "a"),V.str (zaa "a"),V.str (zaa "b"),V.str (zaa "c"),V.str (zaa "aa")]:List V)=sJ.map sv:=by decide +kernel
 rw[Z7];obtain⟨v2,Sl,a2⟩:=iO (L:=sJ.map sv) (n:=8) rfl (by decide) (RH/8);obtain⟨eC,h2,rfl⟩:=zaK.mp Sl;refine aP (.of ae) a2 ((ua _ _).mpr (aC fun U6 FL=>?_));clear ua;have s2:=s1.trans (ar.new f2 (.lst (sJ.map sv)));generalize upd H1 g2 _=H2 at *;have lo:one.length<=8:=by
  have all:∀n∈ud,n.length<=8:=by decide
  exact all one h1
 have lt:eC.length<=8:=by
  have all:∀n∈sJ,n.length<=8:=by decide
  exact all eC h2
 have fin:∀(z:Str) (k:W) (ns:List W) (n l:zc9) (H':Hp),ar H H'->uT z k ns=true->H' n=some (.lst (ns.map sv))->H' l=some (.lst [.str z,sv k,.ref n,.bl true])->Q (.ref l) H':=by
  intro z k ns n l H' s' hz yn yl;obtain⟨f,e1,e2,e3,e4,e5,e6⟩:=Mj hz;refine q l z.cps.toList f H' s' ⟨e1,e5,e6⟩ ⟨n,?_,?_⟩
  ·rw[yl,e2,e4];rfl
  ·rw[yn,e3]
 walk_at "rd";refine bu (fun k4=>?_) (fun k4=>?_)
 ·exact⟨RH,rfl,Z6,fun l w f H' s'=>q l w f H' (s2.trans s')⟩
 refine(FL _ _).mpr (aC fun U7 PN=>?_);clear FL;walk_at "rd";refine bu (fun k7=>?_) (fun k7=>?_)
 ·have c2:uT (zaa "if 0 < 1*"++S eC) PM.cZ [eC]=true:=by
   have all:∀b∈sJ,uT (zaa "if 0 < 1*"++S b) PM.cZ [b]=true:=by decide +kernel
   exact all eC h2
  have c3:uT (zaa "if "++S one++zaa " = 2*("++S eC++zaa "-1)") PM.cZ [one,eC]=true:=by
   have all:∀a∈ud,∀b∈sJ,uT (zaa "if "++S a++zaa " = 2*("++S b++zaa "-1)") PM.cZ [a,b]=true:=by decide +kernel
   exact all one h1 eC h2
  have l1:(S one).length<=8:=by rw[eE];exact lo
  have l2:(S eC).length<=8:=by rw[eE];exact lt
  have q1:(zaa "if 0 < 1*").length<=20:=by decide +kernel
  have q2:(zaa "if ").length<=20:=by decide +kernel
  have q3:(zaa " = 2*(").length<=20:=by decide +kernel
  have q4:(zaa "-1)").length<=20:=by decide +kernel
  intro ga Z8 gb Z9;have sga:=ar.new Z8 (.lst []);have XW:=ar.new Z9 (.lst [.str (zaa "if 1 < 2"),.ref ga]);have p3:gg (upd (upd H2 ga (.lst [])) gb (.lst [.str (zaa "if 1 < 2"),.ref ga])) PM.cZ (.ref gb):=⟨gb,_,ga,[],rfl,ae,XW _ _ ae,by decide +kernel⟩
  have s3:=sga.trans XW;generalize upd (upd H2 ga (.lst [])) gb (.lst [.str (zaa "if 1 < 2"),.ref ga])=H3 at *;refine⟨_,S eC,rfl,rfl,by lia,?_⟩;intro gc fgc gd fgd;have sgc:=ar.new fgc (.lst [sv eC]);have XX:=ar.new fgd (.lst [.str (zaa "if 0 < 1*"++S eC),.ref gc]);have p4:gg (upd (upd H3 gc (.lst [sv eC])) gd (.lst [.str (zaa "if 0 < 1*"++S eC),.ref gc])) PM.cZ (.ref gd):=⟨gd,_,gc,[eC],rfl,ae,XX _ _ ae,c2⟩
  have s4:=sgc.trans XX;generalize upd (upd H3 gc (.lst [sv eC])) gd (.lst [.str (zaa "if 0 < 1*"++S eC),.ref gc])=H4 at *;intro ge fe;have s5:=ar.new fe (.lst [.ref gb,.ref gd]);have y5:(upd H4 ge (.lst [.ref gb,.ref gd])) ge=some (.lst [.ref gb,.ref gd]):=ae;generalize upd H4 ge (.lst [.ref gb,.ref gd])=H5 at *;refine⟨.inl ⟨rfl,_,.of y5⟩,_,S one,rfl,rfl,by lia,_,_,rfl,rfl,by rw[strLen_append];lia,_,S eC,rfl,rfl,by rw[strLen_append,strLen_append];lia,_,_,rfl,rfl,by rw[strLen_append,strLen_append,strLen_append];lia,?_⟩;intro gf fgf gh fgh;have sgf:=ar.new fgf (.lst [sv one,sv eC]);have XY:=ar.new fgh (.lst [.str (zaa "if "++S one++zaa " = 2*("++S eC++zaa "-1)"),.ref gf]);have p6:gg (upd (upd H5 gf (.lst [sv one,sv eC])) gh (.lst [.str (zaa "if "++S one++zaa " = 2*("++S eC++zaa "-1)"),.ref gf])) PM.cZ (.ref gh):=⟨gh,_,gf,[one,eC],rfl,ae,XY _ _ ae,c3⟩
  have s6:=sgf.trans XY;generalize upd (upd H5 gf (.lst [sv one,sv eC])) gh (.lst [.str (zaa "if "++S one++zaa " = 2*("++S eC++zaa "-1)"),.ref gf])=H6 at *;have RI:∀v∈[V.ref gb,V.ref gd,V.ref gh],gg H6 PM.cZ v:=fun v hv=>by
   simp only[zaj,za4,or_false] at hv;rcases hv with rfl |rfl |rfl
   ·exact p3.mono (s4.trans (s5.trans s6))
   ·exact p4.mono (s5.trans s6)
   ·exact p6
  have y6:=s6 _ _ y5;refine⟨ge,_,_,rfl,rfl,y6,by show 2<zdh;decide,?_⟩;have u7:bN ge H6 (upd H6 ge (.lst ([V.ref gb,V.ref gd]++[V.ref gh]))):=(bN.refl _ _).put _;have y7:(upd H6 ge (.lst ([V.ref gb,V.ref gd]++[V.ref gh]))) ge=some (.lst ([V.ref gb,V.ref gd]++[V.ref gh])):=ae;generalize upd H6 ge (.lst ([V.ref gb,V.ref gd]++[V.ref gh]))=H7 at *;obtain⟨v,hv,av⟩:=iO (L:=[V.ref gb,V.ref gd]++[V.ref gh]) (n:=3) rfl (by decide) (RH/64);obtain⟨pp,z,n,ns,rfl,yp,yn,ck⟩:=RI v hv;have npp:pp≠ge:=fun e=>by
   rw[e,y6] at yp;cases yp
  have nn:n≠ge:=fun e=>by
   rw[e,y6] at yn;have z:=HO.lst.inj (zav.inj yn);cases ns with
   |nil=>cases z
   |cons a r=>exact V.noConfusion (List.cons.inj z).1
  have s7:ar H H7:=fun b o e=>u7 b o (aI ((s2.trans (s3.trans s4)) _ _ e) fe) ((s2.trans (s3.trans (s4.trans (s5.trans s6)))) _ _ e);show Ki K (V.ref ge) (V.int (RH/64%3)) H7 _;refine aP (.of y7) av ⟨pp,_,rfl,.of (u7 _ _ npp yp),rfl,_,_,rfl,_,_,rfl,rfl,fun p fp=>?_⟩;exact fin z PM.cZ ns n p _ (s7.trans (ar.new fp _)) ck (ar.new fp _ _ _ (u7 _ _ nn yn)) (by rw[ae,zJ];rfl)
 refine(PN _ _).mpr (aC fun U8 PQ=>?_);clear PN;walk_at "rd";refine bu (fun k8=>?_) (fun k8=>?_)
 ·have c2:∀sg∈([[60],[61]]:List W),uT (zaa "while "++S one++zaa " "++S sg++zaa " 1+"++S eC++zaa "+1") PM.aM [one,eC]=true:=by
   have all:∀a∈ud,∀b∈sJ,∀sg∈([[60],[61]]:List W),uT (zaa "while "++S a++zaa " "++S sg++zaa " 1+"++S b++zaa "+1") PM.aM [a,b]=true:=by decide +kernel
   exact all one h1 eC h2
  have l1:(S one).length<=8:=by rw[eE];exact lo
  have l2:(S eC).length<=8:=by rw[eE];exact lt
  have q1:(zaa "while ").length<=20:=by decide +kernel
  have q2:(zaa " ").length<=20:=by decide +kernel
  have q3:(zaa " 1+").length<=20:=by decide +kernel
  have q4:(zaa "+1").length<=20:=by decide +kernel
  have el:(zaa "<=").cps.toList=[60,61]:=by decide +kernel
  obtain⟨sg,Wk,asg⟩:=iO (L:=([60,61]:List Nat)) (n:=2) rfl (by decide) (RH/64);have l3:(⟨#[sg]⟩:Str).length<=20:=by show 1<=20;decide
  have ck:=c2 [sg] (by simpa using Wk);refine⟨_,_,sg,rfl,rfl,by decide +kernel,by rw[el];exact asg,?_⟩;refine⟨_,S one,rfl,rfl,by lia,_,_,rfl,rfl,by rw[strLen_append];lia,_,_,rfl,rfl,by rw[strLen_append,strLen_append];lia,_,_,rfl,rfl,by rw[strLen_append,strLen_append,strLen_append];lia,_,S eC,rfl,rfl,by rw[strLen_append,strLen_append,strLen_append,strLen_append];lia,_,_,rfl,rfl,by rw[strLen_append,strLen_append,strLen_append,strLen_append,strLen_append];lia,?_⟩;intro ga fa gb fb;have sb:=ar.new fb (.lst [V.str (zaa "while "++S one++zaa " "++⟨#[sg]⟩++zaa " 1+"++S eC++zaa "+1"),V.str (zaa "while"),V.ref ga,V.bl true]);exact fin _ PM.aM [one,eC] ga gb _ (s2.trans ((ar.new fa _).trans sb)) ck (sb _ _ ae) (by rw[ae,dI];rfl)
 refine(PQ _ _).mpr (aC fun U9 PR=>?_);clear PQ;walk_at "rd";refine bu (fun k9=>?_) (fun k9=>?_)
 ·intro ga fa gb fb;have sb:=ar.new fb (.lst [V.str (zaa "else"),V.str (zaa "else"),V.ref ga,V.bl true]);exact fin (zaa "else") PM.cg [] ga gb _ (s2.trans ((ar.new fa _).trans sb)) (by decide +kernel) (sb _ _ ae) (by rw[ae,lh];rfl)
 refine(PR _ _).mpr (aC fun U10 ML=>?_);clear PR;walk_at "rd";refine bu (fun WS=>?_) (fun WS=>?_)
 ·intro ga fa gb fb;have sb:=ar.new fb (.lst [V.str (zaa "end"),V.str (zaa "end"),V.ref ga,V.bl true]);exact fin (zaa "end") PM.dU [] ga gb _ (s2.trans ((ar.new fa _).trans sb)) (by decide +kernel) (sb _ _ ae) (by rw[ae,wc];rfl)
 refine(ML _ _).mpr (aC fun U11 MM=>?_);clear ML;walk_at "rd";have c20:uT (zaa "ask "++S one) PM.aT [one]=true:=by
  have all:∀a∈ud,∀b∈sJ,uT (zaa "ask "++S a) PM.aT [a]=true:=by decide +kernel
  exact all one h1 eC h2
 have c21:uT (zaa "put "++S one++zaa " 2*("++S eC++zaa "-1)") PM.aT [one,eC]=true:=by
  have all:∀a∈ud,∀b∈sJ,uT (zaa "put "++S a++zaa " 2*("++S b++zaa "-1)") PM.aT [a,b]=true:=by decide +kernel
  exact all one h1 eC h2
 have c22:uT (zaa "say 7") PM.aT []=true:=by
  have all:∀a∈ud,∀b∈sJ,uT (zaa "say 7") PM.aT []=true:=by decide +kernel
  exact all one h1 eC h2
 have c23:uT (zaa "stop") PM.aT []=true:=by
  have all:∀a∈ud,∀b∈sJ,uT (zaa "stop") PM.aT []=true:=by decide +kernel
  exact all one h1 eC h2
 have c24:uT (zaa "say "++S one++zaa "*"++S eC) PM.aT [one,eC]=true:=by
  have all:∀a∈ud,∀b∈sJ,uT (zaa "say "++S a++zaa "*"++S b) PM.aT [a,b]=true:=by decide +kernel
  exact all one h1 eC h2
 have c25:uT (zaa "must "++S one++zaa " = "++S eC) PM.aT [one,eC]=true:=by
  have all:∀a∈ud,∀b∈sJ,uT (zaa "must "++S a++zaa " = "++S b) PM.aT [a,b]=true:=by decide +kernel
  exact all one h1 eC h2
 have c26:uT (zaa "say "++S one++zaa "+1+"++S eC++zaa "*2") PM.aT [one,eC]=true:=by
  have all:∀a∈ud,∀b∈sJ,uT (zaa "say "++S a++zaa "+1+"++S b++zaa "*2") PM.aT [a,b]=true:=by decide +kernel
  exact all one h1 eC h2
 have c27:uT (zaa "must 1+("++S one++zaa "-2) < 3") PM.aT [one]=true:=by
  have all:∀a∈ud,∀b∈sJ,uT (zaa "must 1+("++S a++zaa "-2) < 3") PM.aT [a]=true:=by decide +kernel
  exact all one h1 eC h2
 have z0:(zaa " 2*(").length<=20:=by decide +kernel
 have z1:(zaa " = ").length<=20:=by decide +kernel
 have z2:(zaa "*").length<=20:=by decide +kernel
 have z3:(zaa "*2").length<=20:=by decide +kernel
 have z4:(zaa "+1+").length<=20:=by decide +kernel
 have z5:(zaa "-1)").length<=20:=by decide +kernel
 have z6:(zaa "-2) < 3").length<=20:=by decide +kernel
 have z7:(zaa "ask ").length<=20:=by decide +kernel
 have z8:(zaa "must ").length<=20:=by decide +kernel
 have z9:(zaa "must 1+(").length<=20:=by decide +kernel
 have z10:(zaa "put ").length<=20:=by decide +kernel
 have z11:(zaa "say ").length<=20:=by decide +kernel
 have z12:(zaa "say 7").length<=20:=by decide +kernel
 have z13:(zaa "stop").length<=20:=by decide +kernel
 have l1:(S one).length<=8:=by rw[eE];exact lo
 have l2:(S eC).length<=8:=by rw[eE];exact lt
 refine⟨_,S one,rfl,rfl,by lia,?_⟩;intro a0 fa0 b0 WY;have ta0:=ar.new fa0 (.lst [sv one]);have XZ:=ar.new WY (.lst [.str (zaa "ask "++S one),.ref a0]);have p0:gg (upd (upd H2 a0 (.lst [sv one])) b0 (.lst [.str (zaa "ask "++S one),.ref a0])) PM.aT (.ref b0):=⟨b0,_,a0,[one],rfl,ae,XZ _ _ ae,c20⟩
 have r0:=ta0.trans XZ;generalize upd (upd H2 a0 (.lst [sv one])) b0 (.lst [.str (zaa "ask "++S one),.ref a0])=K0 at *;refine⟨_,S one,rfl,rfl,by lia,_,_,rfl,rfl,by rw[strLen_append];lia,_,S eC,rfl,rfl,by rw[strLen_append,strLen_append];lia,_,_,rfl,rfl,by rw[strLen_append,strLen_append,strLen_append];lia,?_⟩;intro a1 fa1 b1 fb1;have ta1:=ar.new fa1 (.lst [sv one,sv eC]);have X0:=ar.new fb1 (.lst [.str (zaa "put "++S one++zaa " 2*("++S eC++zaa "-1)"),.ref a1]);have p1:gg (upd (upd K0 a1 (.lst [sv one,sv eC])) b1 (.lst [.str (zaa "put "++S one++zaa " 2*("++S eC++zaa "-1)"),.ref a1])) PM.aT (.ref b1):=⟨b1,_,a1,[one,eC],rfl,ae,X0 _ _ ae,c21⟩
 have r1:=ta1.trans X0;generalize upd (upd K0 a1 (.lst [sv one,sv eC])) b1 (.lst [.str (zaa "put "++S one++zaa " 2*("++S eC++zaa "-1)"),.ref a1])=K1 at *;intro a2 fa2 b2 fb2;have ta2:=ar.new fa2 (.lst []);have X1:=ar.new fb2 (.lst [.str (zaa "say 7"),.ref a2]);have p2:gg (upd (upd K1 a2 (.lst [])) b2 (.lst [.str (zaa "say 7"),.ref a2])) PM.aT (.ref b2):=⟨b2,_,a2,[],rfl,ae,X1 _ _ ae,c22⟩
 have r2:=ta2.trans X1;generalize upd (upd K1 a2 (.lst [])) b2 (.lst [.str (zaa "say 7"),.ref a2])=K2 at *;intro a3 fa3 b3 fb3;have ta3:=ar.new fa3 (.lst []);have X2:=ar.new fb3 (.lst [.str (zaa "stop"),.ref a3]);have p3:gg (upd (upd K2 a3 (.lst [])) b3 (.lst [.str (zaa "stop"),.ref a3])) PM.aT (.ref b3):=⟨b3,_,a3,[],rfl,ae,X2 _ _ ae,c23⟩
 have r3:=ta3.trans X2;generalize upd (upd K2 a3 (.lst [])) b3 (.lst [.str (zaa "stop"),.ref a3])=K3 at *;intro m1 fm1;have X3:=ar.new fm1 (.lst [.ref b0,.ref b1,.ref b2,.ref b3]);have ym1:(upd K3 m1 (.lst [.ref b0,.ref b1,.ref b2,.ref b3])) m1=some (.lst [.ref b0,.ref b1,.ref b2,.ref b3]):=ae;generalize upd K3 m1 (.lst [.ref b0,.ref b1,.ref b2,.ref b3])=M1 at *;refine(MM _ _).mpr (aC fun U12 MN=>?_);clear MM;walk_at "rd";refine⟨_,S one,rfl,rfl,by lia,_,_,rfl,rfl,by rw[strLen_append];lia,_,S eC,rfl,rfl,by rw[strLen_append,strLen_append];lia,?_⟩;intro a4 fa4 b4 fb4;have ta4:=ar.new fa4 (.lst [sv one,sv eC]);have X4:=ar.new fb4 (.lst [.str (zaa "say "++S one++zaa "*"++S eC),.ref a4]);have p4:gg (upd (upd M1 a4 (.lst [sv one,sv eC])) b4 (.lst [.str (zaa "say "++S one++zaa "*"++S eC),.ref a4])) PM.aT (.ref b4):=⟨b4,_,a4,[one,eC],rfl,ae,X4 _ _ ae,c24⟩
 have r4:=ta4.trans X4;generalize upd (upd M1 a4 (.lst [sv one,sv eC])) b4 (.lst [.str (zaa "say "++S one++zaa "*"++S eC),.ref a4])=K4 at *;refine⟨_,S one,rfl,rfl,by lia,_,_,rfl,rfl,by rw[strLen_append];lia,_,S eC,rfl,rfl,by rw[strLen_append,strLen_append];lia,?_⟩;intro a5 fa5 b5 fb5;have ta5:=ar.new fa5 (.lst [sv one,sv eC]);have X5:=ar.new fb5 (.lst [.str (zaa "must "++S one++zaa " = "++S eC),.ref a5]);have p5:gg (upd (upd K4 a5 (.lst [sv one,sv eC])) b5 (.lst [.str (zaa "must "++S one++zaa " = "++S eC),.ref a5])) PM.aT (.ref b5):=⟨b5,_,a5,[one,eC],rfl,ae,X5 _ _ ae,c25⟩
 have r5:=ta5.trans X5;generalize upd (upd K4 a5 (.lst [sv one,sv eC])) b5 (.lst [.str (zaa "must "++S one++zaa " = "++S eC),.ref a5])=K5 at *;intro m2 fm2;have WZ:=ar.new fm2 (.lst [.ref b4,.ref b5]);have ym2:(upd K5 m2 (.lst [.ref b4,.ref b5])) m2=some (.lst [.ref b4,.ref b5]):=ae;generalize upd K5 m2 (.lst [.ref b4,.ref b5])=M2 at *;refine Bd ((r4.trans (r5.trans WZ)) _ _ ym1) ym2 (by show 6<=zdh;decide) fun m3 fm3=>?_;have X6:=ar.new fm3 (.lst ([V.ref b0,V.ref b1,V.ref b2,V.ref b3]++[V.ref b4,V.ref b5]));have ym3:(upd M2 m3 (.lst ([V.ref b0,V.ref b1,V.ref b2,V.ref b3]++[V.ref b4,V.ref b5]))) m3=some (.lst ([V.ref b0,V.ref b1,V.ref b2,V.ref b3]++[V.ref b4,V.ref b5])):=ae;generalize upd M2 m3 (.lst ([V.ref b0,V.ref b1,V.ref b2,V.ref b3]++[V.ref b4,V.ref b5]))=M3 at *;refine(MN _ _).mpr (aC fun U13 MO=>?_);clear MN;walk_at "rd";refine⟨_,S one,rfl,rfl,by lia,_,_,rfl,rfl,by rw[strLen_append];lia,_,S eC,rfl,rfl,by rw[strLen_append,strLen_append];lia,_,_,rfl,rfl,by rw[strLen_append,strLen_append,strLen_append];lia,?_⟩;intro a6 fa6 b6 fb6;have ta6:=ar.new fa6 (.lst [sv one,sv eC]);have X7:=ar.new fb6 (.lst [.str (zaa "say "++S one++zaa "+1+"++S eC++zaa "*2"),.ref a6]);have p6:gg (upd (upd M3 a6 (.lst [sv one,sv eC])) b6 (.lst [.str (zaa "say "++S one++zaa "+1+"++S eC++zaa "*2"),.ref a6])) PM.aT (.ref b6):=⟨b6,_,a6,[one,eC],rfl,ae,X7 _ _ ae,c26⟩
 have r6:=ta6.trans X7;generalize upd (upd M3 a6 (.lst [sv one,sv eC])) b6 (.lst [.str (zaa "say "++S one++zaa "+1+"++S eC++zaa "*2"),.ref a6])=K6 at *;refine⟨_,S one,rfl,rfl,by lia,_,_,rfl,rfl,by rw[strLen_append];lia,?_⟩;intro a7 fa7 b7 fb7;have ta7:=ar.new fa7 (.lst [sv one]);have X8:=ar.new fb7 (.lst [.str (zaa "must 1+("++S one++zaa "-2) < 3"),.ref a7]);have p7:gg (upd (upd K6 a7 (.lst [sv one])) b7 (.lst [.str (zaa "must 1+("++S one++zaa "-2) < 3"),.ref a7])) PM.aT (.ref b7):=⟨b7,_,a7,[one],rfl,ae,X8 _ _ ae,c27⟩
 have r7:=ta7.trans X8;generalize upd (upd K6 a7 (.lst [sv one])) b7 (.lst [.str (zaa "must 1+("++S one++zaa "-2) < 3"),.ref a7])=K7 at *;intro m4 fm4;have W0:=ar.new fm4 (.lst [.ref b6,.ref b7]);have ym4:(upd K7 m4 (.lst [.ref b6,.ref b7])) m4=some (.lst [.ref b6,.ref b7]):=ae;generalize upd K7 m4 (.lst [.ref b6,.ref b7])=M4 at *;refine Bd ((r6.trans (r7.trans W0)) _ _ ym3) ym4 (by show 8<=zdh;decide) fun m5 fm5=>?_;have X9:=ar.new fm5 (.lst ([V.ref b0,V.ref b1,V.ref b2,V.ref b3]++[V.ref b4,V.ref b5]++[V.ref b6,V.ref b7]));have ym5:(upd M4 m5 (.lst ([V.ref b0,V.ref b1,V.ref b2,V.ref b3]++[V.ref b4,V.ref b5]++[V.ref b6,V.ref b7]))) m5=some (.lst ([V.ref b0,V.ref b1,V.ref b2,V.ref b3]++[V.ref b4,V.ref b5]++[V.ref b6,V.ref b7])):=ae;generalize upd M4 m5 (.lst ([V.ref b0,V.ref b1,V.ref b2,V.ref b3]++[V.ref b4,V.ref b5]++[V.ref b6,V.ref b7]))=M5 at *;refine(MO _ _).mpr ?_;clear MO;walk_at "rd";have e7:=r7.trans (W0.trans X9);have e6:=r6.trans e7;have e5:=r5.trans (WZ.trans (X6.trans e6));have e4:=r4.trans e5;have e3:=r3.trans (X3.trans e4);have e2:=r2.trans e3;have e1:=r1.trans e2;have e0:=r0.trans e1;have RI:∀v∈([V.ref b0,V.ref b1,V.ref b2,V.ref b3]++[V.ref b4,V.ref b5]++[V.ref b6,V.ref b7]),gg M5 PM.aT v:=fun v hv=>by
  simp only[zaZ,za2,zaj,za4,or_false] at hv;rcases hv with rfl |rfl |rfl |rfl |rfl |rfl |rfl |rfl
  ·exact p0.mono e1
  ·exact p1.mono e2
  ·exact p2.mono e3
  ·exact p3.mono (X3.trans e4)
  ·exact p4.mono e5
  ·exact p5.mono (WZ.trans (X6.trans e6))
  ·exact p6.mono e7
  ·exact p7.mono (W0.trans X9)
 obtain⟨v,hv,av⟩:=iO (L:=[V.ref b0,V.ref b1,V.ref b2,V.ref b3]++[V.ref b4,V.ref b5]++[V.ref b6,V.ref b7]) (n:=8) rfl (by decide) (RH/64);obtain⟨pp,z,n,ns,rfl,yp,yn,ck⟩:=RI v hv;refine aP (.of ym5) av ⟨pp,_,rfl,.of yp,rfl,_,_,rfl,_,_,rfl,rfl,fun p fp=>?_⟩;exact fin z PM.aT ns n p _ (s2.trans (e0.trans (ar.new fp _))) ck (ar.new fp _ _ _ yn) (by rw[ae,show zaa "plain"=S PM.aT by decide +kernel];rfl)
theorem RJ(T:Tx K mg t):bB P w K mg base kN 1 t.lO t.mO ["state", "row"] (Mp K):=by
 refine T.jd.F.v7 vT (fun vs H Q E h=>?_) (fun eA A outer s H vs Q E hr h=>?_)
 ·obtain⟨_,_,_,_,_,_,_,_,_,_,rfl,_⟩:=h;rfl
 obtain⟨st,o,n,b,r,op,d,c0,wd,f,rfl,sl,⟨nl,yr,PU⟩,pI,q⟩:=h;have nd:=vT.nd;refine⟨_,[some (.ref st),some (.ref r),none,none,none],(ag (uz (pv 0) (Bt rfl (eJ (cJ (i:=2) nd rfl (zam rfl)) (eJ (cJ (i:=3) nd rfl (Or.inr rfl)) (eJ (cJ (i:=4) nd rfl (zam rfl)) sV)))))
 (ag (bc (PW.pt (pw_or (PW.pt (pw_and (aH cy (a9 aU (pv 1) ah aJ) ao (aW _)) (pw_and1 (aH (AO (AG hr)) (pv 4) (aA af) (aW _))))) (pw_or1 (PW.pt (pw_and (aH cy (a9 aU (pv 1) ah aJ) ao (aW _)) (pw_and1 (aH (Q7 (To hr)) (pQ Bn (pv 2) (sZ (xb rN ah)) sY) (aA (aa ao af au)) (aW _))))))))
 (aj (aV ah))
 aO)
 (ag (bc (PW.pt (pw_and (aH cy (a9 aU (pv 1) ah aJ) ao (aW _)) (pw_and1 (aH (qP (AG hr)) (pv 2) (aA af) (aW _)))))
 (aj (aV ah))
 aO)
 (ag (bc (PW.pt (pw_and (aH g9 (a9 aU (pv 1) ah aJ) (aA (br (vs:=[.str "if",.str "while"]) (by kernel_rfl))) rfl) (pw_and1 (aH xh (bA cK rfl T.me PyProof.Rows.Boot.«len» (aa (pv 2) af ai)) ah (aW _)))))
 (aj (aV ah))
 aO)
 (ag (bc (PW.pt (pw_and (aH cy (a9 aU (pv 1) ah aJ) ao (aW _)) (pw_and1 (w5 (ux (a9 aU (pv 1) ah aJ))))))
 (aj (aV ah))
 aO)
 (ag (bc (aH cy (a9 aU (pv 1) ah aJ) ao (aW _))
 (aj (aV (a9 aU (aA (aa (a9 aU (aA (br (vs:=[.int 0,.int 7]) (by kernel_rfl))) (fO mD rfl T.vU PyProof.Rows.Boot.«int» (aa (fN cy (bA cK rfl T.me PyProof.Rows.Boot.«len» (aa (pv 3) af ai)) ah (aW _)) af Bp)) wH) (aa ah af au) cw)) (fO mD rfl T.vU PyProof.Rows.Boot.«int» (aa (fN g9 (a9 aU (a9 aU (pv 1) ah aJ) ah aJ) (pv 3) rfl) af Bp)) wH)))
 aO)
 (aj (aV (a9 aU (aA (br (vs:=[.int 8,.int 0]) (by kernel_rfl))) (fO mD rfl T.vU PyProof.Rows.Boot.«int» (aa (fN (qP (AG hr)) (tm (own:=["name"]) (ix:=[3]) rfl (by rfl) (by rfl) (qO (a9 aU (pv 1) ah aJ)) (fun _ _ _ _=>(cJ (i:=0) (by show List.Nodup (["name", "names"]:List Str);decide +kernel) rfl (zam rfl))) (fun _ _ _ _=>(NY (aH (Il (K:=K) rfl) (pv 0) (pv 1) rfl))) (fun _ _ _ _=>(pv 0))) (aA af) (aW _)) af Bp)) wH))))))))),rfl,?_⟩
 have line:zdh=2 ^ 24:=rfl;have lk:d.fV.length=op.length:=by rw[sl.ek,zae]
 have l5:=sl.l5;rw[Mq pI (by lia)] at q;obtain⟨bw,yb,Ya,lb⟩:=sl.yb;obtain⟨bs,W2⟩:∃bs:List V,bs=bw.map sv:=⟨_,rfl⟩
 rw[<- W2] at yb;have hb:bs=[]↔d.Dv=false:=by rw[W2,zbH];exact Ya
 clear Ya lb W2;have RK:∀ {H':Hp} {R:VK},ar H H'->R (sv (PM.aD f)) H'->Ki K (.ref r) (.int 1) H' R:=fun s q=>aP (.of (s _ _ yr)) (v:=sv (PM.aD f)) (aG (j:=1) rfl) q;refine aC fun U1 vW=>?_;walk_at "rd";refine⟨st,_,rfl,.of sl.at_,rfl,_,_,rfl,_,_,rfl,_,_,rfl,rfl,(vW _ _).mpr (aC fun U2 pJ=>?_)⟩;clear vW;have rest:∀H1,ar H H1->¬((PM.aD f=PM.cQ/\d.Dv=true)\/(PM.aD f=PM.cg/\d.fV.getLast?≠some true))->U2 [some (.ref st),some (.ref r),some (.ref o),some (.ref n),some (.ref b)] H1:=by
  intro H1 s1 n1;rw[if_neg n1] at q;refine(pJ _ _).mpr (aC fun U3 pq=>?_);clear pJ;have PV:∀H1,ar H H1->¬(PM.aD f=PM.dU/\d.fV=[])->U3 [some (.ref st),some (.ref r),some (.ref o),some (.ref n),some (.ref b)] H1:=by
   intro H1 s1 n2;rw[if_neg n2] at q;refine(pq _ _).mpr (aC fun U4 t9=>?_);clear pq;have PX:∀H1,ar H H1->¬((PM.aD f=PM.cZ\/PM.aD f=PM.aM)/\4<d.fV.length)->U4 [some (.ref st),some (.ref r),some (.ref o),some (.ref n),some (.ref b)] H1:=by
    intro H1 s1 n3;rw[if_neg n3] at q;refine(t9 _ _).mpr (aC fun U5 ua=>?_);clear t9;have PY:∀H1,ar H H1->¬(PM.aD f=PM.cQ/\PM.OC f=false)->U5 [some (.ref st),some (.ref r),some (.ref o),some (.ref n),some (.ref b)] H1:=by
     intro H1 s1 n4;rw[if_neg n4] at q;refine(ua _ _).mpr (aC fun U6 FL=>?_);clear ua;have W4:∀H1,ar H H1->PM.aD f≠PM.cQ->U6 [some (.ref st),some (.ref r),some (.ref o),some (.ref n),some (.ref b)] H1:=by
      intro H1 s1 n5;rw[if_neg n5] at q;refine(FL _ _).mpr ?_;clear FL;walk_at "rd";intro p fp;have sp:=ar.new fp (.lst [V.int 8,V.int 0]);have yp:(upd H1 p (.lst [V.int 8,V.int 0])) p=some (.lst [V.int 8,V.int 0]):=ae;generalize upd H1 p (.lst [V.int 8,V.int 0])=H2 at *;have s2:=s1.trans sp;refine⟨r,_,2,.ref nl,rfl,rfl,g8.of (s2 _ _ yr),rfl,nl,rfl,⟨_,.of (s2 _ _ PU)⟩,fun D hD=>?_⟩;have keep:∀ys,g8 K (upd H2 D (.lst ys)) nl ((PM.wQ f).map sv):=fun ys=>g8.of ((s2.trans (ar.new hD _)) _ _ PU);have Nu:(PM.wQ f).length<=300:=by
       cases f with
       |box n a b=>show 1<=300;decide
       |one k=>show 0<=300;decide
       |ask x=>show 1<=300;decide
       |put x e=>exact zaB (xZ (f:=.put x e) pI) (by decide)
       |say e=>exact zaB (xZ (f:=.say e) pI) (by decide)
       |cond k sg x y=>exact zaB (xZ (f:=.cond k sg x y) pI) (by decide)
      refine AQ ((PM.wQ f).map sv) (fun v=>!JC v (d.j1.map sv)) id (by rw[zae];lia) (fun i ys hi=>⟨_,_,keep ys,zag hi⟩) (fun i ys x H' hi y=>⟨y.1,y.2 _ (keep ys)⟩) (fun ys=>⟨_,keep ys,zai _⟩) (fun x hx ys R hR=>?_) (fun x hx _ ys R hR=>hR) ?_
      ·obtain⟨u,hu,rfl⟩:=zaK.mp hx;walk_at "rd";refine⟨n,_,rfl,.inl (.of ((s2.trans (ar.new hD _)) _ _ sl.yn)),rfl,by rw[zb5];exact za0.mpr fun _ _=>rfl,_,rfl,?_⟩;rw[if_pos rfl];exact hR
      ·have s3:=s2.trans (ar.new hD (.lst ((((PM.wQ f).map sv).filter fun v=>!JC v (d.j1.map sv)).map id)));have yD:(upd H2 D (.lst ((((PM.wQ f).map sv).filter fun v=>!JC v (d.j1.map sv)).map id))) D=some (.lst ((((PM.wQ f).map sv).filter fun v=>!JC v (d.j1.map sv)).map id)):=ae;have Yb:=ar.new hD (.lst ((((PM.wQ f).map sv).filter fun v=>!JC v (d.j1.map sv)).map id)) _ _ yp;generalize upd H2 D (.lst ((((PM.wQ f).map sv).filter fun v=>!JC v (d.j1.map sv)).map id))=H3 at *;intro g fg;have sg:=ar.new fg (.lst []);have yg:(upd H3 g (.lst [])) g=some (.lst []):=ae;generalize upd H3 g (.lst [])=H4 at *;refine⟨D,g,_,rfl,rfl,.of (sg _ _ yD),.of yg,_,rfl,?_⟩;have ei:((((PM.wQ f).map sv).filter fun v=>!JC v (d.j1.map sv)).map id).isEmpty=decide (∀x∈PM.wQ f,x∈d.j1):=by
        rw[List.map_id,zbh,zcA,List.filter_eq_nil_iff,decide_eq_true_eq]
        constructor
        ·intro h x hx;have:=h (sv x) (zaK.mpr ⟨x,hx,rfl⟩);rw[in_words] at this;exact zaz.mp (by simpa using this)
        ·intro h v hv;obtain⟨x,hx,rfl⟩:=zaK.mp hv;rw[in_words,zaz.mpr (h x hx)];decide
       rw[ei];have q4:=q H4 (s3.trans sg);by_cases ha:∀x∈PM.wQ f,x∈d.j1
       ·rw[if_pos ha] at q4;rw[if_pos (decide_eq_true ha)];exact aP (.of (sg _ _ Yb)) (v:=.int 0) rfl q4
       ·rw[if_neg ha] at q4;rw[if_neg (fun z=>ha (of_decide_eq_true z))];exact aP (.of (sg _ _ Yb)) (v:=.int 8) rfl q4
     walk_at "rd";refine RK s1 ⟨rfl,bu (fun h1=>?_) (fun h1=>W4 H1 s1 fun z=>h1 ((bz jQ).mpr z))⟩;have e1:=(bz jQ).mp h1;obtain⟨x,hx⟩:∃x,PM.wQ f=[x]:=by
      cases f with
      |box n a b=>exact⟨n,rfl⟩
      |ask n=>exact absurd (show PM.aT=PM.cQ from e1) (by decide)
      |put n e=>exact absurd (show PM.aT=PM.cQ from e1) (by decide)
      |say e=>exact absurd (show PM.aT=PM.cQ from e1) (by decide)
      |cond k sg x y=>
       have hk:k=PM.e9\/k=PM.cZ\/k=PM.aM:=pI.1;have e2:(if k=PM.e9 then PM.aT else k)=PM.cQ:=e1;rcases hk with h |h |h<;>subst h<;>exact absurd e2 (by decide)
      |one k=>
       have hk:k=PM.cg\/k=PM.dU\/k=PM.dW:=pI;have e2:(if k=PM.dW then PM.aT else k)=PM.cQ:=e1;rcases hk with h |h |h<;>subst h<;>exact absurd e2 (by decide)
     rw[hx] at PU;have qq:=q;rw[if_pos e1,hx] at qq;intro p fp;have sp:=ar.new fp (.lst [V.int 0,V.int 7]);have yp:(upd H1 p (.lst [V.int 0,V.int 7])) p=some (.lst [V.int 0,V.int 7]):=ae;generalize upd H1 p (.lst [V.int 0,V.int 7])=H2 at *;have s2:=s1.trans sp;refine⟨n,_,rfl,.inl (.of (s2 _ _ sl.yn)),_,rfl,?_⟩;rw[zae];obtain⟨c4,h4,a4⟩:∃c:Int,c=(if d.j1.length=4 then 7 else 0)/\Gs [V.int 0,V.int 7] (if decide ((d.j1.length:Int)=4)=true then 1 else 0)=some (V.int c):=by
      by_cases h:d.j1.length=4
      ·rw[if_pos h,if_pos (decide_eq_true (by rw[h];rfl))];exact⟨7,rfl,rfl⟩
      ·rw[if_neg h,if_neg (fun z=>h (by have:=of_decide_eq_true z;lia))];exact⟨0,rfl,rfl⟩
     refine aP (.of yp) a4 fun p2 W5=>?_;have Uq:=ar.new W5 (.lst [V.int c4,V.int 5]);have Vm:(upd H2 p2 (.lst [V.int c4,V.int 5])) p2=some (.lst [V.int c4,V.int 5]):=ae;generalize upd H2 p2 (.lst [V.int c4,V.int 5])=H3 at *;have s3:=s2.trans Uq;refine aP (.of (s3 _ _ yr)) (v:=.ref nl) (aG (j:=2) rfl) (aP (.of (s3 _ _ PU)) (v:=sv x) (aG (j:=0) rfl) ?_);refine⟨n,_,rfl,.inl (.of (s3 _ _ sl.yn)),rfl,by rw[zb5];exact za0.mpr fun _ _=>rfl,_,rfl,?_⟩;rw[if_neg zad,in_words];have q3:=qq H3 s3;rw[zbI] at q3;by_cases hn:x∈d.j1
     ·rw[if_pos hn] at q3;rw[if_pos (zaz.mpr hn)];exact aP (.of Vm) (v:=.int 5) rfl q3
     ·rw[if_neg hn,<- h4] at q3;rw[if_neg (fun z=>hn (zaz.mp z))];exact aP (.of Vm) (v:=.int c4) rfl q3
    walk_at "rd";refine RK s1 ⟨rfl,bu (fun h1=>?_) (fun h1=>?_)⟩
    ·refine aP (.of (s1 _ _ yr)) (v:=.bl (PM.OC f)) (aG (j:=3) rfl) ⟨_,rfl,?_⟩;cases hk:PM.OC f with
     |true=>
      rw[if_neg (show ¬(!true)=true by decide)];exact PY H1 s1 fun z=>by rw[hk] at z;exact absurd z.2 (by decide)
     |false=>
      rw[if_pos (show (!false)=true from rfl)];have:=q H1 s1;rw[if_pos ⟨(bz jQ).mp h1,hk⟩] at this;exact this
    ·rw[if_neg zad];exact PY H1 s1 fun z=>h1 ((bz jQ).mpr z.1)
   walk_at "rd";refine RK s1 fun p fp=>?_;have sp:=ar.new fp (.lst [V.str (zaa "if"),V.str (zaa "while")]);have yp:(upd H1 p (.lst [V.str (zaa "if"),V.str (zaa "while")])) p=some (.lst [V.str (zaa "if"),V.str (zaa "while")]):=ae;have hl:([V.str (zaa "if"),V.str (zaa "while")]:List V)=[PM.cZ,PM.aM].map sv:=by rw[zJ,dI];rfl
   generalize upd H1 p (.lst [V.str (zaa "if"),V.str (zaa "while")])=H2 at *;refine⟨p,_,rfl,.inl (.of yp),rfl,rfl,_,rfl,?_⟩;rw[hl,in_words,if_neg zad,if_neg zad];have FK:=s1.trans sp;refine bu (fun hc=>?_) (fun hc=>PX H2 FK fun z=>hc (by rw[zaz];simpa using z.1));refine⟨o,_,rfl,.inl (.of (FK _ _ sl.yo)),?_⟩;rw[zae];have hk:PM.aD f=PM.cZ\/PM.aD f=PM.aM:=by rw[zaz] at hc;simpa using hc
   refine bu (fun h4=>?_) (fun h4=>PX H2 FK fun z=>h4 (by have:=z.2;lia));have:=q H2 FK;rw[if_pos ⟨hk,by lia⟩] at this;exact this
  walk_at "rd";refine RK s1 ⟨rfl,bu (fun h1=>?_) (fun h1=>?_)⟩
  ·intro p fp;have sp:=ar.new fp (.lst []);have yp:(upd H1 p (.lst [])) p=some (.lst []):=ae;generalize upd H1 p (.lst [])=H2 at *;refine⟨o,p,_,rfl,rfl,.of (sp _ _ (s1 _ _ sl.yo)),.of yp,?_⟩;refine bu (fun he=>?_) (fun he=>PV H2 (s1.trans sp) fun z=>he (by rw[List.isEmpty_map];have z2:=z.2;rw[sl.ek,zbH] at z2;rw[z2];rfl));have e0:op=[]:=by rw[List.isEmpty_map,zcA] at he;exact he
   have:=q H2 (s1.trans sp);rw[if_pos ⟨(bz wc).mp h1,by rw[sl.ek,e0];rfl⟩] at this;exact this
  ·rw[if_neg zad];exact PV H1 s1 fun z=>h1 ((bz wc).mpr z.1)
 walk_at "rd";refine RK (ar.refl _) ⟨rfl,bu (fun h1=>?_) (fun h1=>?_)⟩
 ·have e1:=(bz jQ).mp h1;intro p fp;have sp:=ar.new fp (.lst []);have yp:(upd H p (.lst [])) p=some (.lst []):=ae;generalize upd H p (.lst [])=H1 at *;refine⟨b,p,bs,rfl,rfl,.of (sp _ _ yb),.of yp,?_⟩;cases zU:d.Dv with
  |true=>
   have e:bs.isEmpty=false:=by
    cases bs with
    |nil=>exact absurd (hb.mp rfl) (by rw[zU];decide)
    |cons=>rfl
   rw[e,if_pos (show (!false)=true from rfl),if_pos trivial];have:=q H1 sp;rw[if_pos (.inl ⟨e1,zU⟩)] at this;exact this
  |false=>
   cases hb.mpr zU;rw[if_neg (show ¬(!([]:List V).isEmpty)=true by decide)];refine RK sp ⟨rfl,bu (fun h2=>?_) (fun h2=>?_)⟩
   ·exact absurd (e1.symm.trans ((bz lh).mp h2)) (by decide)
   rw[if_neg zad];exact rest H1 sp fun z=>z.elim (fun z=>by rw[zU] at z;exact absurd z.2 (by decide)) fun z=>absurd (e1.symm.trans z.1) (by decide)
 rw[if_neg zad];have nb:PM.aD f≠PM.cQ:=fun z=>h1 ((bz jQ).mpr z);refine RK (ar.refl _) ⟨rfl,bu (fun h2=>?_) (fun h2=>?_)⟩
 ·have e2:=(bz lh).mp h2;refine⟨1,rfl, -1,rfl,o,_,rfl,.of sl.yo,fun p fp=>?_⟩;have ec:uE (op.map sv) (some (-1)) none=(op.drop (op.length-1)).map sv:=by
   unfold uE;have e1:HT.iS (op.map sv).length 0 (some (-1))=op.length-1:=by
    rw[zae];show (if (-1:Int)<0 then ((-1:Int)+(op.length:Int)).toNat else min (-1:Int).toNat op.length)=op.length-1;rw[if_pos (by decide)];lia
   rw[HT.xo,e1,<- List.map_drop,zbm (by rw[zae,zaY,zae];lia)]
  rw[ec];have sp:=ar.new fp (.lst ((op.drop (op.length-1)).map sv));have yp:(upd H p (.lst ((op.drop (op.length-1)).map sv))) p=some (.lst ((op.drop (op.length-1)).map sv)):=ae;generalize upd H p (.lst ((op.drop (op.length-1)).map sv))=H1 at *;intro p2 W5;have Uq:=ar.new W5 (.lst [V.str (zaa "if")]);have Vm:(upd H1 p2 (.lst [V.str (zaa "if")])) p2=some (.lst [V.str (zaa "if")]):=ae;generalize upd H1 p2 (.lst [V.str (zaa "if")])=H2 at *;have FK:=sp.trans Uq;have Yc:Rep K H2 (.lst [.str (zaa "if")]) (.ref p2):=Rep.ic.mpr ⟨p2,_,rfl,.of Vm,.cons (Rep.bh.mpr rfl) .nil⟩;cases hl:op.getLast? with
  |none=>
   have e0:op=[]:=zba.mp hl;subst e0;have rp:Rep K H2 (.lst []) (.ref p):=Rep.ic.mpr ⟨p,_,rfl,.of (Uq _ _ yp),.nil⟩;refine⟨_,_,rp,Yc,by decide +kernel,by decide +kernel,_,rfl,?_⟩;rw[show PyData.eqv (Dp.lst []).py (Dp.lst [Dp.str (zaa "if")]).py=false from rfl,if_pos rfl,if_pos (show (!false)=true from rfl)];have:=q H2 FK;rw[if_pos (.inr ⟨e2,by rw[sl.ek];intro z;cases z⟩)] at this;exact this
  |some u=>
   obtain⟨ys,ey⟩:=zbC.mp hl;have ed:op.drop (op.length-1)=[u]:=by
    rw[ey,zaf,zau,Nat.add_sub_cancel,List.drop_left]
   rw[ed] at yp;have rp:Rep K H2 (.lst [.str (S u)]) (.ref p):=Rep.ic.mpr ⟨p,_,rfl,.of (Uq _ _ yp),.cons (Rep.bh.mpr rfl) .nil⟩;have hw:=sl.ow u (by rw[ey];simp);refine⟨_,_,rp,Yc,by rcases hw with h |h |h<;>subst h<;>decide +kernel,by decide +kernel,_,rfl,?_⟩;have Vn:d.fV.getLast?=some (decide (u=PM.cZ)):=by rw[sl.ek,zbU,hl];rfl
   have ev:PyData.eqv (Dp.lst [Dp.str (S u)]).py (Dp.lst [Dp.str (zaa "if")]).py=decide (u=PM.cZ):=by
    rcases hw with h |h |h<;>subst h<;>decide +kernel
   rw[ev,if_pos rfl];by_cases hu:u=PM.cZ
   ·rw[decide_eq_true hu,if_neg (show ¬(!true)=true by decide)];rw[decide_eq_true hu] at Vn;exact rest H2 FK fun z=>z.elim (fun z=>nb z.1) fun z=>z.2 Vn
   ·rw[decide_eq_false hu,if_pos (show (!false)=true from rfl)];rw[decide_eq_false hu] at Vn;have:=q H2 FK;rw[if_pos (.inr ⟨e2,by rw[Vn];intro z;cases z⟩)] at this;exact this
 ·rw[if_neg zad];exact rest H (ar.refl _) fun z=>z.elim (fun z=>nb z.1) fun z=>h2 ((bz lh).mpr z.1)
theorem vo:zaa "plain"=S PM.aT:=by decide +kernel
theorem Ur(T:Tx K mg t):bB P w K mg base kN 1 t.oa t.oM ["state", "row"] (PB K):=by
 refine T.kS.F.v7 x9 (fun vs H Q E h=>?_) (fun eA A outer s H vs Q E hr h=>?_)
 ·obtain⟨_,_,_,_,_,_,_,_,_,_,_,rfl,_⟩:=h;rfl
 obtain⟨st,o,n,b,r,op,d,d',c0,wd,f,rfl,sl,lc,⟨nl,yr,PU⟩,pI,ht,q⟩:=h;have nd:=x9.nd;refine⟨_,[some (.ref st),some (.ref r),none,none,none],(ag (uz (pv 0) (Bt rfl (eJ (cJ (i:=2) nd rfl (zam rfl)) (eJ (cJ (i:=3) nd rfl (zam rfl)) (eJ (cJ (i:=4) nd rfl (zam rfl)) sV)))))
 (ag (bc (aH cy (a9 aU (pv 1) ah aJ) ao (aW _))
 (aj (cF (kT zaC zaH zaI c6 (pv 3) (aa (a9 aU (a9 aU (pv 1) ah aJ) ah aJ) af cw))))
 aO)
 (ag (bc (aH g9 (a9 aU (pv 1) ah aJ) (aA (br (vs:=[.str "if",.str "while",.str "plain"]) (by kernel_rfl))) rfl)
 (aj (cF (kT zaC zaH zaI c6 (pv 4) (aa (a9 aU (pv 1) ah aJ) af cw))))
 aO)
 (ag (bc (aH g9 (a9 aU (pv 1) ah aJ) (aA (br (vs:=[.str "if",.str "while"]) (by kernel_rfl))) rfl)
 (aj (cF (kT zaC zaH zaI c6 (pv 2) (aa (a9 aU (pv 1) ah aJ) af cw))))
 aO)
 (ag (bc (aH cy (a9 aU (pv 1) ah aJ) ao (aW _))
 (aj (uz ao (JW (pv 2) (xb rN ah) set_list)))
 aO)
 (aj (bc (aH cy (a9 aU (pv 1) ah aJ) ao (aW _))
 (aj (cF (E6 zaC zb0 zb1 E8 (pv 2))))
 aO))))))),rfl,?_⟩
 have line:zdh=2 ^ 24:=rfl;obtain⟨bs,yb,hb,lb⟩:=sl.yb;have l5:=sl.l5;have lk:d.fV.length=op.length:=by rw[sl.ek,zae]
 have ro:r≠o:=fun z=>by
  rw[z,sl.yo] at yr;have e:=HO.lst.inj (zav.inj yr);have l:=congrArg zcX e;rw[zbU] at l;cases hg:op.getLast? with
  |none=>rw[hg] at l;cases l
  |some u=>rw[hg] at l;exact V.noConfusion (zav.inj l)
 have rn:r≠n:=fun z=>by
  rw[z,sl.yn] at yr;have e:=HO.lst.inj (zav.inj yr);have l:=congrArg zcX e;rw[zbU] at l;cases hg:d.j1.getLast? with
  |none=>rw[hg] at l;cases l
  |some u=>rw[hg] at l;exact V.noConfusion (zav.inj l)
 have rb:r≠b:=fun z=>by
  rw[z,yb] at yr;have e:=HO.lst.inj (zav.inj yr);have l:=congrArg zcX e;rw[zbU] at l;cases hg:bs.getLast? with
  |none=>rw[hg] at l;cases l
  |some u=>rw[hg] at l;exact V.noConfusion (zav.inj l)
 refine aC fun U1 vW=>?_;walk_at "rd";refine⟨st,_,rfl,.of sl.at_,rfl,_,_,rfl,_,_,rfl,_,_,rfl,rfl,(vW _ _).mpr (aC fun U2 pJ=>?_)⟩;clear vW;have kinds:(PM.aD f=PM.cQ/\∃x,PM.wQ f=[x]/\d'={d with j1:=d.j1++[x]}/\d.j1.length≠4)\/(PM.aD f=PM.cg/\d'={d with fV:=d.fV.dropLast++[false]}/\op≠[])\/(PM.aD f=PM.dU/\d'={d with fV:=d.fV.dropLast}/\op≠[])\/((PM.aD f=PM.cZ\/PM.aD f=PM.aM\/PM.aD f=PM.aT)/\d'={d with Dv:=true,fV:=d.fV++(if PM.aD f=PM.cZ then [true] else if PM.aD f=PM.aM then [false] else [])}/\((PM.aD f=PM.cZ\/PM.aD f=PM.aM)->op.length≠5)):=by
  have BB:∀g:PM.Fm,PM.mZ d g=.ok d'->(PM.aD g=PM.cZ\/PM.aD g=PM.aM\/PM.aD g=PM.aT)->PM.opens g=(if PM.aD g=PM.cZ then some true else if PM.aD g=PM.aM then some false else none)->(PM.aD g=PM.cZ\/PM.aD g=PM.aM\/PM.aD g=PM.aT)/\d'={d with Dv:=true,fV:=d.fV++(if PM.aD g=PM.cZ then [true] else if PM.aD g=PM.aM then [false] else [])}/\((PM.aD g=PM.cZ\/PM.aD g=PM.aM)->op.length≠5):=by
   intro g h1 h2 h3;unfold PM.mZ at h1;split at h1
   ·cases h1
   ·rename_i WM;split at h1
    ·cases h1;refine⟨h2,?_,fun hk z=>WM ⟨?_,by rw[lk];exact z⟩⟩
     ·rw[h3];split<;>(try split)<;>rfl
     ·rw[h3];rcases hk with hk |hk
      ·rw[if_pos hk];rfl
      ·split
       ·rfl
       ·rfl
    ·cases h1
  cases f with
  |box x a b=>
   refine .inl ⟨rfl,x,rfl,?_⟩;have h1:PM.By d x a b=.ok d':=ht;unfold PM.By at h1;split at h1
   ·cases h1
   split at h1
   ·cases h1
   split at h1
   ·cases h1
   split at h1
   ·cases h1
   rename_i n4;cases h1;exact⟨rfl,n4⟩
  |ask x=>exact .inr (.inr (.inr (BB _ ht (.inr (.inr rfl)) (by show none=if PM.aT=PM.cZ then some true else if PM.aT=PM.aM then some false else none;decide))))
  |put x e=>exact .inr (.inr (.inr (BB _ ht (.inr (.inr rfl)) (by show none=if PM.aT=PM.cZ then some true else if PM.aT=PM.aM then some false else none;decide))))
  |say e=>exact .inr (.inr (.inr (BB _ ht (.inr (.inr rfl)) (by show none=if PM.aT=PM.cZ then some true else if PM.aT=PM.aM then some false else none;decide))))
  |cond k sg x y=>
   have hk:k=PM.e9\/k=PM.cZ\/k=PM.aM:=pI.1;have ek:PM.aD (.cond k sg x y)=if k=PM.e9 then PM.aT else k:=rfl
   have eo:PM.opens (.cond k sg x y)=if k=PM.cZ then some true else if k=PM.aM then some false else none:=rfl
   refine .inr (.inr (.inr (BB _ ht ?_ ?_)))
   ·rw[ek];rcases hk with h |h |h<;>subst h<;>decide
   ·rw[eo,ek];rcases hk with h |h |h<;>subst h<;>decide
  |one k=>
   have hk:k=PM.cg\/k=PM.dU\/k=PM.dW:=pI;have et:(if k=PM.cg then PM.o7 d else if k=PM.dU then PM.xV d else PM.mZ d (.one k))=.ok d':=ht;rcases hk with h |h |h
   ·subst h;rw[if_pos rfl] at et;unfold PM.o7 at et;split at et
    ·rename_i hl;cases et;refine .inr (.inl ⟨by decide,rfl,fun z=>?_⟩);rw[sl.ek,z] at hl;cases hl
    ·cases et
   ·subst h;rw[if_neg (by decide),if_pos rfl] at et;unfold PM.xV at et;split at et
    ·cases et
    ·rename_i hl;cases et;exact .inr (.inr (.inl ⟨by decide,rfl,fun z=>hl (by rw[sl.ek,z];rfl)⟩))
   ·subst h;rw[if_neg (by decide),if_neg (by decide)] at et;exact .inr (.inr (.inr (BB _ et (by decide) (by decide))))
 rcases kinds with ⟨ek,x,ex,ed,n4⟩ |⟨ek,ed,ne⟩ |⟨ek,ed,ne⟩ |⟨ek3,ed,h5⟩
 ·walk_at "rd";refine aP (.of yr) (v:=sv (PM.aD f)) (aG (j:=1) rfl) ⟨rfl,?_⟩;refine bu (fun _=>?_) fun z=>absurd ((bz jQ).mpr ek) z;refine⟨.inl ⟨rfl,_,.of sl.yn⟩,aP (.of yr) (v:=.ref nl) (aG (j:=2) rfl) (aP (.of PU) (v:=sv x) (aG (j:=0) (by rw[ex];rfl)) ⟨n,_,_,rfl,rfl,sl.yn,by rw[zae];have:=sl.l4;lia,?_⟩)⟩;have W6:∀y u,y≠n->H y=some u->(upd H n (.lst (d.j1.map sv++[sv x]))) y=some u:=fun y u ny e=>by rw[aq ny];exact e
  have yc1:(upd H n (.lst (d.j1.map sv++[sv x]))) n=some (.lst (d.j1.map sv++[sv x])):=ae;generalize upd H n (.lst (d.j1.map sv++[sv x]))=G1 at *;have Yd:=W6 _ _ rn yr;refine(pJ _ _).mpr (aC fun U3 pq=>?_);clear pJ;walk_at "rd";refine aP (.of Yd) (v:=sv (PM.aD f)) (aG (j:=1) rfl) fun pa MP=>?_;have vX:=ar.new MP (.lst [V.str (zaa "if"),V.str (zaa "while"),V.str (zaa "plain")]);have MQ:(upd G1 pa (.lst [V.str (zaa "if"),V.str (zaa "while"),V.str (zaa "plain")])) pa=some (.lst [V.str (zaa "if"),V.str (zaa "while"),V.str (zaa "plain")]):=ae;have MR:([V.str (zaa "if"),V.str (zaa "while"),V.str (zaa "plain")]:List V)=[PM.cZ,PM.aM,PM.aT].map sv:=by rw[zJ,dI,vo];rfl
  generalize upd G1 pa (.lst [V.str (zaa "if"),V.str (zaa "while"),V.str (zaa "plain")])=G2 at *;have D7:=vX _ _ Yd;refine⟨pa,_,rfl,.inl (.of MQ),rfl,rfl,_,rfl,?_⟩;rw[MR,in_words,if_neg zad];refine bu (fun z=>absurd z (show ¬ [PM.cZ,PM.aM,PM.aT].contains (PM.aD f)=true by rw[ek];decide)) fun _=>?_;refine(pq _ _).mpr (aC fun U4 t9=>?_);clear pq;walk_at "rd";refine aP (.of D7) (v:=sv (PM.aD f)) (aG (j:=1) rfl) fun pb MS=>?_;have vY:=ar.new MS (.lst [V.str (zaa "if"),V.str (zaa "while")]);have Hv:(upd G2 pb (.lst [V.str (zaa "if"),V.str (zaa "while")])) pb=some (.lst [V.str (zaa "if"),V.str (zaa "while")]):=ae;have MT:([V.str (zaa "if"),V.str (zaa "while")]:List V)=[PM.cZ,PM.aM].map sv:=by rw[zJ,dI];rfl
  generalize upd G2 pb (.lst [V.str (zaa "if"),V.str (zaa "while")])=G4 at *;have D8:=vY _ _ D7;refine⟨pb,_,rfl,.inl (.of Hv),rfl,rfl,_,rfl,?_⟩;rw[MT,in_words,if_neg zad];refine bu (fun z=>absurd z (show ¬ [PM.cZ,PM.aM].contains (PM.aD f)=true by rw[ek];decide)) fun _=>?_;refine(t9 _ _).mpr (aC fun U5 ua=>?_);clear t9;walk_at "rd";refine aP (.of D8) (v:=sv (PM.aD f)) (aG (j:=1) rfl) ⟨rfl,?_⟩;refine bu (fun z=>absurd (ek.symm.trans ((bz lh).mp z)) (by decide)) fun _=>?_;refine(ua _ _).mpr ?_;clear ua;walk_at "rd";refine aP (.of D8) (v:=sv (PM.aD f)) (aG (j:=1) rfl) ⟨rfl,?_⟩;refine bu (fun z=>absurd (ek.symm.trans ((bz wc).mp z)) (by decide)) fun _=>?_;have all:∀y u,y≠o->y≠n->y≠b->H y=some u->G4 y=some u:=fun y u _ ny _ e=>vY _ _ (vX _ _ (W6 _ _ ny e));have k4:∀y u,y≠n->H y=some u->G4 y=some u:=fun y u ny e=>vY _ _ (vX _ _ (W6 _ _ ny e));refine q op G4 all ?_;rw[ed];exact {sl with at_:=k4 _ _ sl.sn sl.at_,yo:=k4 _ _ sl.on sl.yo,yn:=by rw[vY _ _ (vX _ _ yc1),zat];rfl,yb:=⟨bs,k4 _ _ (Ne.symm sl.nb) yb,hb,by lia⟩,l4:=by show (d.j1++[x]).length<=4;rw[zaf,zau];have:=sl.l4;lia}
 ·walk_at "rd";refine aP (.of yr) (v:=sv (PM.aD f)) (aG (j:=1) rfl) ⟨rfl,?_⟩;refine bu (fun z=>absurd (ek.symm.trans ((bz jQ).mp z)) (by decide)) fun _=>?_;refine(pJ _ _).mpr (aC fun U3 pq=>?_);clear pJ;walk_at "rd";refine aP (.of yr) (v:=sv (PM.aD f)) (aG (j:=1) rfl) fun pa MP=>?_;have vX:=ar.new MP (.lst [V.str (zaa "if"),V.str (zaa "while"),V.str (zaa "plain")]);have MQ:(upd H pa (.lst [V.str (zaa "if"),V.str (zaa "while"),V.str (zaa "plain")])) pa=some (.lst [V.str (zaa "if"),V.str (zaa "while"),V.str (zaa "plain")]):=ae;have MR:([V.str (zaa "if"),V.str (zaa "while"),V.str (zaa "plain")]:List V)=[PM.cZ,PM.aM,PM.aT].map sv:=by rw[zJ,dI,vo];rfl
  generalize upd H pa (.lst [V.str (zaa "if"),V.str (zaa "while"),V.str (zaa "plain")])=G2 at *;have D7:=vX _ _ yr;refine⟨pa,_,rfl,.inl (.of MQ),rfl,rfl,_,rfl,?_⟩;rw[MR,in_words,if_neg zad];refine bu (fun z=>absurd z (show ¬ [PM.cZ,PM.aM,PM.aT].contains (PM.aD f)=true by rw[ek];decide)) fun _=>?_;refine(pq _ _).mpr (aC fun U4 t9=>?_);clear pq;walk_at "rd";refine aP (.of D7) (v:=sv (PM.aD f)) (aG (j:=1) rfl) fun pb MS=>?_;have vY:=ar.new MS (.lst [V.str (zaa "if"),V.str (zaa "while")]);have Hv:(upd G2 pb (.lst [V.str (zaa "if"),V.str (zaa "while")])) pb=some (.lst [V.str (zaa "if"),V.str (zaa "while")]):=ae;have MT:([V.str (zaa "if"),V.str (zaa "while")]:List V)=[PM.cZ,PM.aM].map sv:=by rw[zJ,dI];rfl
  generalize upd G2 pb (.lst [V.str (zaa "if"),V.str (zaa "while")])=G4 at *;have D8:=vY _ _ D7;refine⟨pb,_,rfl,.inl (.of Hv),rfl,rfl,_,rfl,?_⟩;rw[MT,in_words,if_neg zad];refine bu (fun z=>absurd z (show ¬ [PM.cZ,PM.aM].contains (PM.aD f)=true by rw[ek];decide)) fun _=>?_;refine(t9 _ _).mpr (aC fun U5 ua=>?_);clear t9;walk_at "rd";refine aP (.of D8) (v:=sv (PM.aD f)) (aG (j:=1) rfl) ⟨rfl,?_⟩;refine bu (fun _=>?_) fun z=>absurd ((bz lh).mpr ek) z;obtain⟨ys,u,ey⟩:∃ys u,op=ys++[u]:=by
   cases hg:op.getLast? with
   |none=>exact absurd (zba.mp hg) ne
   |some u=>obtain⟨ys,e⟩:=zbC.mp hg;exact⟨ys,u,e⟩
  have Nz:=vY _ _ (vX _ _ sl.yo);have k4:∀y u,H y=some u->G4 y=some u:=fun y u e=>vY _ _ (vX _ _ e);have es:(op.map sv).set ys.length (V.str (zaa "else"))=(ys++[PM.cg]).map sv:=by
   rw[ey,zat,zat,lh,zcR _ _ (by rw[zae];exact zai _),zae,zb4];rfl
  have ej:JB (op.map sv).length (-1)=some ys.length:=by
   rw[zae,ey,zaf,zau];unfold JB;rw[if_neg (by decide),if_pos (by lia)]
   congr 1
   lia
  refine⟨1,rfl,o,_, -1,ys.length,rfl,rfl,Nz,ej,?_⟩;rw[es];have JJ:∀y w,y≠o->G4 y=some w->(upd G4 o (.lst ((ys++[PM.cg]).map sv))) y=some w:=fun y w ny e=>by rw[aq ny];exact e
  have RL:(upd G4 o (.lst ((ys++[PM.cg]).map sv))) o=some (.lst ((ys++[PM.cg]).map sv)):=ae;generalize upd G4 o (.lst ((ys++[PM.cg]).map sv))=G5 at *;have RM:=JJ _ _ ro D8;have k5:∀y w,y≠o->H y=some w->G5 y=some w:=fun y w no e=>JJ _ _ no (k4 _ _ e);refine(ua _ _).mpr ?_;clear ua;walk_at "rd";refine aP (.of RM) (v:=sv (PM.aD f)) (aG (j:=1) rfl) ⟨rfl,?_⟩;refine bu (fun z=>absurd (ek.symm.trans ((bz wc).mp z)) (by decide)) fun _=>?_;refine q (ys++[PM.cg]) G5 (fun y w no _ _ e=>k5 y w no e) ?_;rw[ed];exact {sl with at_:=k5 _ _ sl.so sl.at_,yo:=RL,yn:=k5 _ _ (Ne.symm sl.on) sl.yn,yb:=⟨bs,k5 _ _ (Ne.symm sl.ob) yb,hb,by lia⟩,ek:=by show d.fV.dropLast++[false]=_;rw[sl.ek,ey,zat,zat,show (zce (fun w=>decide (w=PM.cZ)) ys++zce (fun w=>decide (w=PM.cZ)) [u]).dropLast=zce (fun w=>decide (w=PM.cZ)) ys from zb6];rfl,l5:=by rw[ey,zaf] at l5;rw[zaf];exact l5,ow:=fun w hw=>(zay.mp hw).elim (fun z=>sl.ow w (by rw[ey];exact zbg _ z)) fun z=>by rw[zal.mp z];decide}
 ·walk_at "rd";refine aP (.of yr) (v:=sv (PM.aD f)) (aG (j:=1) rfl) ⟨rfl,?_⟩;refine bu (fun z=>absurd (ek.symm.trans ((bz jQ).mp z)) (by decide)) fun _=>?_;refine(pJ _ _).mpr (aC fun U3 pq=>?_);clear pJ;walk_at "rd";refine aP (.of yr) (v:=sv (PM.aD f)) (aG (j:=1) rfl) fun pa MP=>?_;have vX:=ar.new MP (.lst [V.str (zaa "if"),V.str (zaa "while"),V.str (zaa "plain")]);have MQ:(upd H pa (.lst [V.str (zaa "if"),V.str (zaa "while"),V.str (zaa "plain")])) pa=some (.lst [V.str (zaa "if"),V.str (zaa "while"),V.str (zaa "plain")]):=ae;have MR:([V.str (zaa "if"),V.str (zaa "while"),V.str (zaa "plain")]:List V)=[PM.cZ,PM.aM,PM.aT].map sv:=by rw[zJ,dI,vo];rfl
  generalize upd H pa (.lst [V.str (zaa "if"),V.str (zaa "while"),V.str (zaa "plain")])=G2 at *;have D7:=vX _ _ yr;refine⟨pa,_,rfl,.inl (.of MQ),rfl,rfl,_,rfl,?_⟩;rw[MR,in_words,if_neg zad];refine bu (fun z=>absurd z (show ¬ [PM.cZ,PM.aM,PM.aT].contains (PM.aD f)=true by rw[ek];decide)) fun _=>?_;refine(pq _ _).mpr (aC fun U4 t9=>?_);clear pq;walk_at "rd";refine aP (.of D7) (v:=sv (PM.aD f)) (aG (j:=1) rfl) fun pb MS=>?_;have vY:=ar.new MS (.lst [V.str (zaa "if"),V.str (zaa "while")]);have Hv:(upd G2 pb (.lst [V.str (zaa "if"),V.str (zaa "while")])) pb=some (.lst [V.str (zaa "if"),V.str (zaa "while")]):=ae;have MT:([V.str (zaa "if"),V.str (zaa "while")]:List V)=[PM.cZ,PM.aM].map sv:=by rw[zJ,dI];rfl
  generalize upd G2 pb (.lst [V.str (zaa "if"),V.str (zaa "while")])=G4 at *;have D8:=vY _ _ D7;refine⟨pb,_,rfl,.inl (.of Hv),rfl,rfl,_,rfl,?_⟩;rw[MT,in_words,if_neg zad];refine bu (fun z=>absurd z (show ¬ [PM.cZ,PM.aM].contains (PM.aD f)=true by rw[ek];decide)) fun _=>?_;refine(t9 _ _).mpr (aC fun U5 ua=>?_);clear t9;walk_at "rd";refine aP (.of D8) (v:=sv (PM.aD f)) (aG (j:=1) rfl) ⟨rfl,?_⟩;refine bu (fun z=>absurd (ek.symm.trans ((bz lh).mp z)) (by decide)) fun _=>?_;refine(ua _ _).mpr ?_;clear ua;walk_at "rd";refine aP (.of D8) (v:=sv (PM.aD f)) (aG (j:=1) rfl) ⟨rfl,?_⟩;refine bu (fun _=>?_) fun z=>absurd ((bz wc).mpr ek) z;obtain⟨ys,u,ey⟩:∃ys u,op=ys++[u]:=by
   cases hg:op.getLast? with
   |none=>exact absurd (zba.mp hg) ne
   |some u=>obtain⟨ys,e⟩:=zbC.mp hg;exact⟨ys,u,e⟩
  have Nz:=vY _ _ (vX _ _ sl.yo);have k4:∀y u,H y=some u->G4 y=some u:=fun y u e=>vY _ _ (vX _ _ e);refine⟨.inl ⟨rfl,_,.of Nz⟩,o,_,sv u,rfl,rfl,Nz,by rw[ey,zat,zaf];simp,?_⟩;have JJ:∀y w,y≠o->G4 y=some w->(upd G4 o (.lst (op.map sv).dropLast)) y=some w:=fun y w ny e=>by rw[aq ny];exact e
  have RL:(upd G4 o (.lst (op.map sv).dropLast)) o=some (.lst (op.map sv).dropLast):=ae;generalize upd G4 o (.lst (op.map sv).dropLast)=G5 at *;have k5:∀y w,y≠o->H y=some w->G5 y=some w:=fun y w no e=>JJ _ _ no (k4 _ _ e);have e1:(op.map sv).dropLast=ys.map sv:=by rw[ey,zat];exact zb6
  refine q ys G5 (fun y w no _ _ e=>k5 y w no e) ?_;rw[ed];exact {sl with at_:=k5 _ _ sl.so sl.at_,yo:=by rw[RL,e1],yn:=k5 _ _ (Ne.symm sl.on) sl.yn,yb:=⟨bs,k5 _ _ (Ne.symm sl.ob) yb,hb,by lia⟩,ek:=by show d.fV.dropLast=_;rw[sl.ek,ey,zat];exact zb6,l5:=by rw[ey,zaf] at l5;lia,ow:=fun w hw=>sl.ow w (by rw[ey];exact zbg _ hw)}
 rcases ek3 with ek |ek |ek
 ·walk_at "rd";refine aP (.of yr) (v:=sv (PM.aD f)) (aG (j:=1) rfl) ⟨rfl,?_⟩;refine bu (fun z=>absurd (ek.symm.trans ((bz jQ).mp z)) (by decide)) fun _=>?_;refine(pJ _ _).mpr (aC fun U3 pq=>?_);clear pJ;walk_at "rd";refine aP (.of yr) (v:=sv (PM.aD f)) (aG (j:=1) rfl) fun pa MP=>?_;have vX:=ar.new MP (.lst [V.str (zaa "if"),V.str (zaa "while"),V.str (zaa "plain")]);have MQ:(upd H pa (.lst [V.str (zaa "if"),V.str (zaa "while"),V.str (zaa "plain")])) pa=some (.lst [V.str (zaa "if"),V.str (zaa "while"),V.str (zaa "plain")]):=ae;have MR:([V.str (zaa "if"),V.str (zaa "while"),V.str (zaa "plain")]:List V)=[PM.cZ,PM.aM,PM.aT].map sv:=by rw[zJ,dI,vo];rfl
  generalize upd H pa (.lst [V.str (zaa "if"),V.str (zaa "while"),V.str (zaa "plain")])=G2 at *;have D7:=vX _ _ yr;refine⟨pa,_,rfl,.inl (.of MQ),rfl,rfl,_,rfl,?_⟩;rw[MR,in_words,if_neg zad];refine bu (fun _=>?_) fun z=>absurd (show [PM.cZ,PM.aM,PM.aT].contains (PM.aD f)=true by rw[ek];decide) z;have P0:=vX _ _ yb;refine⟨.inl ⟨rfl,_,.of P0⟩,aP (.of D7) (v:=sv (PM.aD f)) (aG (j:=1) rfl) ⟨b,_,_,rfl,rfl,P0,by rw[zae];lia,?_⟩⟩;have NA:∀y u,y≠b->G2 y=some u->(upd G2 b (.lst (bs.map sv++[sv (PM.aD f)]))) y=some u:=fun y u ny e=>by rw[aq ny];exact e
  have Us:(upd G2 b (.lst (bs.map sv++[sv (PM.aD f)]))) b=some (.lst (bs.map sv++[sv (PM.aD f)])):=ae;generalize upd G2 b (.lst (bs.map sv++[sv (PM.aD f)]))=G3 at *;have Qa:=NA _ _ rb D7;refine(pq _ _).mpr (aC fun U4 t9=>?_);clear pq;walk_at "rd";refine aP (.of Qa) (v:=sv (PM.aD f)) (aG (j:=1) rfl) fun pb MS=>?_;have vY:=ar.new MS (.lst [V.str (zaa "if"),V.str (zaa "while")]);have Hv:(upd G3 pb (.lst [V.str (zaa "if"),V.str (zaa "while")])) pb=some (.lst [V.str (zaa "if"),V.str (zaa "while")]):=ae;have MT:([V.str (zaa "if"),V.str (zaa "while")]:List V)=[PM.cZ,PM.aM].map sv:=by rw[zJ,dI];rfl
  generalize upd G3 pb (.lst [V.str (zaa "if"),V.str (zaa "while")])=G4 at *;have D8:=vY _ _ Qa;refine⟨pb,_,rfl,.inl (.of Hv),rfl,rfl,_,rfl,?_⟩;rw[MT,in_words,if_neg zad];refine bu (fun _=>?_) fun z=>absurd (show [PM.cZ,PM.aM].contains (PM.aD f)=true by rw[ek];decide) z;have Nz:=vY _ _ (NA _ _ sl.ob (vX _ _ sl.yo));refine⟨.inl ⟨rfl,_,.of Nz⟩,aP (.of D8) (v:=sv (PM.aD f)) (aG (j:=1) rfl) ⟨o,_,_,rfl,rfl,Nz,by rw[zae];lia,?_⟩⟩;have JJ:∀y u,y≠o->G4 y=some u->(upd G4 o (.lst (op.map sv++[sv (PM.aD f)]))) y=some u:=fun y u ny e=>by rw[aq ny];exact e
  have RL:(upd G4 o (.lst (op.map sv++[sv (PM.aD f)]))) o=some (.lst (op.map sv++[sv (PM.aD f)])):=ae;generalize upd G4 o (.lst (op.map sv++[sv (PM.aD f)]))=G5 at *;have RM:=JJ _ _ ro D8;refine(t9 _ _).mpr (aC fun U5 ua=>?_);clear t9;walk_at "rd";refine aP (.of RM) (v:=sv (PM.aD f)) (aG (j:=1) rfl) ⟨rfl,?_⟩;refine bu (fun z=>absurd (ek.symm.trans ((bz lh).mp z)) (by decide)) fun _=>?_;refine(ua _ _).mpr ?_;clear ua;walk_at "rd";refine aP (.of RM) (v:=sv (PM.aD f)) (aG (j:=1) rfl) ⟨rfl,?_⟩;refine bu (fun z=>absurd (ek.symm.trans ((bz wc).mp z)) (by decide)) fun _=>?_;have k5:∀y u,y≠o->y≠b->H y=some u->G5 y=some u:=fun y u no nb e=>JJ _ _ no (vY _ _ (NA _ _ nb (vX _ _ e)));have n5:=h5 (by rw[ek];simp);refine q (op++[PM.aD f]) G5 (fun y u no _ nb e=>k5 y u no nb e) ?_;rw[ed,ek,if_pos rfl];exact {sl with at_:=k5 _ _ sl.so sl.sb sl.at_,yo:=by rw[RL,ek,zat];rfl,yn:=k5 _ _ (Ne.symm sl.on) sl.nb sl.yn,yb:=⟨bs++[PM.aD f],by rw[JJ _ _ (Ne.symm sl.ob) (vY _ _ Us),zat];rfl,by simp,by rw[zaf,zau];lia⟩,ek:=by show d.fV++_=_;rw[sl.ek,zat];rfl,l5:=by rw[zaf,zau];lia,ow:=fun w hw=>(zay.mp hw).elim (sl.ow w) fun z=>by rw[zal.mp z];decide}
 ·walk_at "rd";refine aP (.of yr) (v:=sv (PM.aD f)) (aG (j:=1) rfl) ⟨rfl,?_⟩;refine bu (fun z=>absurd (ek.symm.trans ((bz jQ).mp z)) (by decide)) fun _=>?_;refine(pJ _ _).mpr (aC fun U3 pq=>?_);clear pJ;walk_at "rd";refine aP (.of yr) (v:=sv (PM.aD f)) (aG (j:=1) rfl) fun pa MP=>?_;have vX:=ar.new MP (.lst [V.str (zaa "if"),V.str (zaa "while"),V.str (zaa "plain")]);have MQ:(upd H pa (.lst [V.str (zaa "if"),V.str (zaa "while"),V.str (zaa "plain")])) pa=some (.lst [V.str (zaa "if"),V.str (zaa "while"),V.str (zaa "plain")]):=ae;have MR:([V.str (zaa "if"),V.str (zaa "while"),V.str (zaa "plain")]:List V)=[PM.cZ,PM.aM,PM.aT].map sv:=by rw[zJ,dI,vo];rfl
  generalize upd H pa (.lst [V.str (zaa "if"),V.str (zaa "while"),V.str (zaa "plain")])=G2 at *;have D7:=vX _ _ yr;refine⟨pa,_,rfl,.inl (.of MQ),rfl,rfl,_,rfl,?_⟩;rw[MR,in_words,if_neg zad];refine bu (fun _=>?_) fun z=>absurd (show [PM.cZ,PM.aM,PM.aT].contains (PM.aD f)=true by rw[ek];decide) z;have P0:=vX _ _ yb;refine⟨.inl ⟨rfl,_,.of P0⟩,aP (.of D7) (v:=sv (PM.aD f)) (aG (j:=1) rfl) ⟨b,_,_,rfl,rfl,P0,by rw[zae];lia,?_⟩⟩;have NA:∀y u,y≠b->G2 y=some u->(upd G2 b (.lst (bs.map sv++[sv (PM.aD f)]))) y=some u:=fun y u ny e=>by rw[aq ny];exact e
  have Us:(upd G2 b (.lst (bs.map sv++[sv (PM.aD f)]))) b=some (.lst (bs.map sv++[sv (PM.aD f)])):=ae;generalize upd G2 b (.lst (bs.map sv++[sv (PM.aD f)]))=G3 at *;have Qa:=NA _ _ rb D7;refine(pq _ _).mpr (aC fun U4 t9=>?_);clear pq;walk_at "rd";refine aP (.of Qa) (v:=sv (PM.aD f)) (aG (j:=1) rfl) fun pb MS=>?_;have vY:=ar.new MS (.lst [V.str (zaa "if"),V.str (zaa "while")]);have Hv:(upd G3 pb (.lst [V.str (zaa "if"),V.str (zaa "while")])) pb=some (.lst [V.str (zaa "if"),V.str (zaa "while")]):=ae;have MT:([V.str (zaa "if"),V.str (zaa "while")]:List V)=[PM.cZ,PM.aM].map sv:=by rw[zJ,dI];rfl
  generalize upd G3 pb (.lst [V.str (zaa "if"),V.str (zaa "while")])=G4 at *;have D8:=vY _ _ Qa;refine⟨pb,_,rfl,.inl (.of Hv),rfl,rfl,_,rfl,?_⟩;rw[MT,in_words,if_neg zad];refine bu (fun _=>?_) fun z=>absurd (show [PM.cZ,PM.aM].contains (PM.aD f)=true by rw[ek];decide) z;have Nz:=vY _ _ (NA _ _ sl.ob (vX _ _ sl.yo));refine⟨.inl ⟨rfl,_,.of Nz⟩,aP (.of D8) (v:=sv (PM.aD f)) (aG (j:=1) rfl) ⟨o,_,_,rfl,rfl,Nz,by rw[zae];lia,?_⟩⟩;have JJ:∀y u,y≠o->G4 y=some u->(upd G4 o (.lst (op.map sv++[sv (PM.aD f)]))) y=some u:=fun y u ny e=>by rw[aq ny];exact e
  have RL:(upd G4 o (.lst (op.map sv++[sv (PM.aD f)]))) o=some (.lst (op.map sv++[sv (PM.aD f)])):=ae;generalize upd G4 o (.lst (op.map sv++[sv (PM.aD f)]))=G5 at *;have RM:=JJ _ _ ro D8;refine(t9 _ _).mpr (aC fun U5 ua=>?_);clear t9;walk_at "rd";refine aP (.of RM) (v:=sv (PM.aD f)) (aG (j:=1) rfl) ⟨rfl,?_⟩;refine bu (fun z=>absurd (ek.symm.trans ((bz lh).mp z)) (by decide)) fun _=>?_;refine(ua _ _).mpr ?_;clear ua;walk_at "rd";refine aP (.of RM) (v:=sv (PM.aD f)) (aG (j:=1) rfl) ⟨rfl,?_⟩;refine bu (fun z=>absurd (ek.symm.trans ((bz wc).mp z)) (by decide)) fun _=>?_;have k5:∀y u,y≠o->y≠b->H y=some u->G5 y=some u:=fun y u no nb e=>JJ _ _ no (vY _ _ (NA _ _ nb (vX _ _ e)));have n5:=h5 (by rw[ek];simp);refine q (op++[PM.aD f]) G5 (fun y u no _ nb e=>k5 y u no nb e) ?_;rw[ed,ek,if_neg (by decide),if_pos rfl];exact {sl with at_:=k5 _ _ sl.so sl.sb sl.at_,yo:=by rw[RL,ek,zat];rfl,yn:=k5 _ _ (Ne.symm sl.on) sl.nb sl.yn,yb:=⟨bs++[PM.aD f],by rw[JJ _ _ (Ne.symm sl.ob) (vY _ _ Us),zat];rfl,by simp,by rw[zaf,zau];lia⟩,ek:=by show d.fV++_=_;rw[sl.ek,zat];rfl,l5:=by rw[zaf,zau];lia,ow:=fun w hw=>(zay.mp hw).elim (sl.ow w) fun z=>by rw[zal.mp z];decide}
 ·walk_at "rd";refine aP (.of yr) (v:=sv (PM.aD f)) (aG (j:=1) rfl) ⟨rfl,?_⟩;refine bu (fun z=>absurd (ek.symm.trans ((bz jQ).mp z)) (by decide)) fun _=>?_;refine(pJ _ _).mpr (aC fun U3 pq=>?_);clear pJ;walk_at "rd";refine aP (.of yr) (v:=sv (PM.aD f)) (aG (j:=1) rfl) fun pa MP=>?_;have vX:=ar.new MP (.lst [V.str (zaa "if"),V.str (zaa "while"),V.str (zaa "plain")]);have MQ:(upd H pa (.lst [V.str (zaa "if"),V.str (zaa "while"),V.str (zaa "plain")])) pa=some (.lst [V.str (zaa "if"),V.str (zaa "while"),V.str (zaa "plain")]):=ae;have MR:([V.str (zaa "if"),V.str (zaa "while"),V.str (zaa "plain")]:List V)=[PM.cZ,PM.aM,PM.aT].map sv:=by rw[zJ,dI,vo];rfl
  generalize upd H pa (.lst [V.str (zaa "if"),V.str (zaa "while"),V.str (zaa "plain")])=G2 at *;have D7:=vX _ _ yr;refine⟨pa,_,rfl,.inl (.of MQ),rfl,rfl,_,rfl,?_⟩;rw[MR,in_words,if_neg zad];refine bu (fun _=>?_) fun z=>absurd (show [PM.cZ,PM.aM,PM.aT].contains (PM.aD f)=true by rw[ek];decide) z;have P0:=vX _ _ yb;refine⟨.inl ⟨rfl,_,.of P0⟩,aP (.of D7) (v:=sv (PM.aD f)) (aG (j:=1) rfl) ⟨b,_,_,rfl,rfl,P0,by rw[zae];lia,?_⟩⟩;have NA:∀y u,y≠b->G2 y=some u->(upd G2 b (.lst (bs.map sv++[sv (PM.aD f)]))) y=some u:=fun y u ny e=>by rw[aq ny];exact e
  have Us:(upd G2 b (.lst (bs.map sv++[sv (PM.aD f)]))) b=some (.lst (bs.map sv++[sv (PM.aD f)])):=ae;generalize upd G2 b (.lst (bs.map sv++[sv (PM.aD f)]))=G3 at *;have Qa:=NA _ _ rb D7;refine(pq _ _).mpr (aC fun U4 t9=>?_);clear pq;walk_at "rd";refine aP (.of Qa) (v:=sv (PM.aD f)) (aG (j:=1) rfl) fun pb MS=>?_;have vY:=ar.new MS (.lst [V.str (zaa "if"),V.str (zaa "while")]);have Hv:(upd G3 pb (.lst [V.str (zaa "if"),V.str (zaa "while")])) pb=some (.lst [V.str (zaa "if"),V.str (zaa "while")]):=ae;have MT:([V.str (zaa "if"),V.str (zaa "while")]:List V)=[PM.cZ,PM.aM].map sv:=by rw[zJ,dI];rfl
  generalize upd G3 pb (.lst [V.str (zaa "if"),V.str (zaa "while")])=G4 at *;have D8:=vY _ _ Qa;refine⟨pb,_,rfl,.inl (.of Hv),rfl,rfl,_,rfl,?_⟩;rw[MT,in_words,if_neg zad];refine bu (fun z=>absurd z (show ¬ [PM.cZ,PM.aM].contains (PM.aD f)=true by rw[ek];decide)) fun _=>?_;refine(t9 _ _).mpr (aC fun U5 ua=>?_);clear t9;walk_at "rd";refine aP (.of D8) (v:=sv (PM.aD f)) (aG (j:=1) rfl) ⟨rfl,?_⟩;refine bu (fun z=>absurd (ek.symm.trans ((bz lh).mp z)) (by decide)) fun _=>?_;refine(ua _ _).mpr ?_;clear ua;walk_at "rd";refine aP (.of D8) (v:=sv (PM.aD f)) (aG (j:=1) rfl) ⟨rfl,?_⟩;refine bu (fun z=>absurd (ek.symm.trans ((bz wc).mp z)) (by decide)) fun _=>?_;have k4:∀y u,y≠b->H y=some u->G4 y=some u:=fun y u ny e=>vY _ _ (NA _ _ ny (vX _ _ e));refine q op G4 (fun y u _ _ ny e=>k4 y u ny e) ?_;rw[ed,ek,if_neg (by decide),if_neg (by decide),zaR];exact {sl with at_:=k4 _ _ sl.sb sl.at_,yo:=k4 _ _ sl.ob sl.yo,yn:=k4 _ _ sl.nb sl.yn,yb:=⟨bs++[PM.aD f],by rw[vY _ _ Us,zat];rfl,by simp,by rw[zaf,zau];lia⟩}
theorem MU{d:PM.Df}{f:PM.Fm}(pI:PM.Py f)(l5:d.fV.length<=5):(uV d f=0/\∃d',PM.kC d f=.ok d')\/∃e,uV d f=PM.bS e/\PM.bS e≠0/\PM.kC d f=.error e:=by
 have h:=Mq pI l5;cases ht:PM.kC d f with
 |ok d'=>exact .inl ⟨by unfold uV;rw[ht],d',rfl⟩
 |error e=>
  have e1:uV d f=PM.bS e:=by unfold uV;rw[ht]
  refine .inr ⟨e,e1,fun z=>?_,rfl⟩;have:e=.rm:=by cases e<;>first |rfl |cases z
  subst this;have no:∀g,PM.mZ d g≠.error .rm:=fun g=>by
   unfold PM.mZ;split
   ·intro q;cases q
   ·split<;>(intro q;cases q)
  cases f with
  |box x a b=>
   have h1:PM.By d x a b=.error .rm:=ht;unfold PM.By at h1;split at h1
   ·cases h1
   split at h1
   ·cases h1
   split at h1
   ·cases h1
   split at h1
   ·cases h1
   ·cases h1
  |ask x=>exact no _ ht
  |put x e=>exact no _ ht
  |say e=>exact no _ ht
  |cond k sg x y=>exact no _ ht
  |one k=>
   have h1:(if k=PM.cg then PM.o7 d else if k=PM.dU then PM.xV d else PM.mZ d (.one k))=.error .rm:=ht;split at h1
   ·unfold PM.o7 at h1;split at h1<;>cases h1
   ·split at h1
    ·unfold PM.xV at h1;split at h1<;>cases h1
    ·exact no _ h1
theorem RN(T:Tx K mg t):bB P w K mg base kN 2 t.gp t.iw ["rows"] (PD K):=by
 have FU:=RJ (P:=P) (w:=w) (base:=base) T;have IM:=Ur (P:=P) (w:=w) (base:=base) T;refine T.eQ.F.v7 ql (fun vs H Q E h=>?_) (fun eA A outer s H vs Q E hr h=>?_)
 ·obtain⟨_,_,rfl,_⟩:=h;rfl
 obtain⟨a,ps,rfl,hS,hp,hl,q⟩:=h;have nd:=ql.nd;refine⟨_,[some (.ref a),none,none,none],(ag (aR (i:=1) nd rfl (zam rfl) (aA (aa (aA af) (aa (aA af) (aa (aA af) af bM) bM) bM)))
 (ag (bc (aH xh (bA cK rfl T.me PyProof.Rows.Boot.«len» (aa (pv 0) af ai)) ah (aW _))
 (aj (aV ah))
 aO)
 (ag (w9 PassesOwn.never rfl (qO (pv 0)) (cJ (i:=2) nd rfl (zam rfl))
 (ag (bc (aH cy (a9 aU (pv 2) ah aJ) ao (aW _))
 (aj (aV ah))
 aO)
 (ag (aR (i:=3) nd rfl (zam rfl) (aS FU (hr.mono (by first|decide|omega)) rfl T.jd.m T.jd.F.kp T.jd.b .nil cn (aa (pv 1) (aa (pv 2) af ai) ai)))
 (ag (bc (aH xh (pv 3) ah (aW _))
 (aj (aV (pv 3)))
 aO)
 (aj (cF (aS IM (hr.mono (by first|decide|omega)) rfl T.kS.m T.kS.F.kp T.kS.b .nil cn (aa (pv 1) (aa (pv 2) af ai) ai))))))))
 (aj (aV (a9 aU (aA (aa (xb rN ah) (aa ah af au) Pd)) (fO mD rfl T.vU PyProof.Rows.Boot.«int» (aa (fN (AO (AG hr)) (a9 aU (pv 1) ah aJ) (aA af) (aW _)) af Bp)) wH)))))),rfl,?_⟩
 have line:zdh=2 ^ 24:=rfl;refine aC fun U1 vW=>?_;walk_at "rd";intro o fo n fn b fb st fst;refine(vW _ _).mpr (aC fun U2 pJ=>?_);clear vW;have no:n≠o:=fun z=>by rw[z,ae] at fn;cases fn
 have bn:b≠n:=fun z=>by rw[z,ae] at fb;cases fb
 have bo:b≠o:=fun z=>by rw[z,aq (Ne.symm no),ae] at fb;cases fb
 have sn:st≠b:=fun z=>by rw[z,ae] at fst;cases fst
 have so:st≠o:=fun z=>by rw[z,aq (Ne.symm bo),aq (Ne.symm no),ae] at fst;cases fst
 have Ye:st≠n:=fun z=>by rw[z,aq (Ne.symm bn),ae] at fst;cases fst
 have fo0:=fo;have fn0:H n=none:=by rw[aq no] at fn;exact fn
 have WY:H b=none:=by rw[aq bn,aq bo] at fb;exact fb
 have s0:=(ar.new fo (.lst [])).trans ((ar.new fn (.lst [])).trans ((ar.new fb (.lst [])).trans (ar.new fst (.lst [V.ref o,V.ref n,V.ref b]))));have sl0:OE (upd (upd (upd (upd H o (.lst [])) n (.lst [])) b (.lst [])) st (.lst [V.ref o,V.ref n,V.ref b])) st o n b [] ⟨[],false,[]⟩ 0:=
  {at_:=ae,yo:=by rw[aq (Ne.symm so),aq (Ne.symm bo),aq (Ne.symm no),ae];rfl,yn:=by rw[aq (Ne.symm Ye),aq (Ne.symm bn),ae];rfl,yb:=⟨[],by rw[aq (Ne.symm sn),ae];rfl,by simp,zai _⟩,ek:=rfl,on:=Ne.symm no,ob:=Ne.symm bo,nb:=Ne.symm bn,so:=so,sn:=Ye,sb:=sn,l5:=by decide,ow:=(fun w hw=>by cases hw),l4:=by decide}
 generalize upd (upd (upd (upd H o (.lst [])) n (.lst [])) b (.lst [])) st (.lst [V.ref o,V.ref n,V.ref b])=H0 at *;have sb:tL=tL:=rfl;have OP:zaa "bad"=S tL:=by decide +kernel
 have lz:(ps.map (·.2)).length=ps.length:=zae _;walk_at "rd";refine⟨a,_,rfl,.inl (s0.seq hS),?_⟩;rw[zae];refine bu (fun Vi=>?_) (fun Vi=>?_)
 ·have e:PM.nX (ps.map (·.2))=some .qS:=by
   unfold PM.nX;rw[if_pos (by rw[lz];lia)]
  rw[e] at q;exact q _ s0
 refine(pJ _ _).mpr (aC fun U3 pq=>?_);clear pJ;have rd:∀x,PM.eK ⟨[],false,[]⟩ (ps.map (·.2))=x->PM.nX (ps.map (·.2))=match x with |.error e=>some e |.ok d=>if d.fV=[] then none else some .xU:=fun x h=>by
  unfold PM.nX;rw[if_neg (by rw[lz];lia),h]
  all_goals (cases x<;>rfl)
 refine C8 fun U6 FL=>?_;walk_at "rd";refine⟨⟨_,s0.seq hS⟩,FL _ _ (xa (K:=K) (a:=a) (xs:=ps.map (·.1)) (fun i σ Hx=>∃(op:List W) (d:PM.Df) (x2 x3:Option V),σ=[some (.ref a),some (.ref st),x2,x3]/\OE Hx st o n b op d i/\ar H Hx/\PM.eK ⟨[],false,[]⟩ ((ps.map (·.2)).take i)=.ok d) ⟨[],_,none,none,rfl,sl0,s0,rfl⟩ (fun i σ Hx _ z=>by obtain⟨_,_,_,_,_,_,sH,_⟩:=z;exact sH.seq hS) ?_ ?_)⟩
 ·intro i x σ Hx hx z;obtain⟨op,d,x2,x3,rfl,sl,sH,er⟩:=z;rw[zaF] at hx;obtain⟨pr,hc,rfl⟩:=za7.mp hx;have hi:i<ps.length:=(zap.mp hc).1;have mem:pr∈ps:=zbr hc;obtain⟨v,wd⟩:=pr;have rw_:=(hp _ mem).mono sH;have esp:ps.map (·.2)=(ps.map (·.2)).take i++wd::(ps.map (·.2)).drop (i+1):=by
   have hg:(ps.map (·.2))[i]'(by rw[lz];exact hi)=wd:=by
    rw[zbZ];rw[zag hi] at hc;rw[zav.inj hc]
   rw[<- hg,List.getElem_cons_drop,List.take_append_drop]
  have etk:(ps.map (·.2)).take (i+1)=(ps.map (·.2)).take i++[wd]:=by
   rw[List.take_succ,zaF,hc];rfl
  have all:∀e,PM.eK d [wd]=.error e->PM.nX (ps.map (·.2))=some e:=fun e h=>by
   have h2:PM.eK ⟨[],false,[]⟩ (ps.map (·.2))=.error e:=by
    rw[esp,PM.DE er,show wd::(ps.map (·.2)).drop (i+1)=[wd]++(ps.map (·.2)).drop (i+1) from rfl,PM.ID h]
   rw[rd _ h2]
  obtain⟨Nx,Ut⟩:∃Nx:St->Hp->Prop,∀σ H',Nx σ H'↔∃(op:List W) (d:PM.Df) (x2 x3:Option V),σ=[some (.ref a),some (.ref st),x2,x3]/\OE H' st o n b op d (i+1)/\ar H H'/\PM.eK ⟨[],false,[]⟩ ((ps.map (·.2)).take (i+1))=.ok d:=⟨_,fun _ _=>Iff.rfl⟩
  simp only[<- Ut];show JR _ _ _ _ _;refine aC fun V1 Yf=>?_;walk_at "rd";cases rw_ with
  |bad l nn e y bw=>
   subst e;refine aP (.of y) (v:=sv tL) (aG (j:=1) rfl) ⟨rfl,?_⟩;refine bu (fun _=>?_) fun z=>absurd ((bz OP).mpr rfl) z;have e:=all .rm (by rw[PM.eK,bw.1]);rw[e] at q;exact q _ sH
  |good l f e rat Uu=>
   subst e;have pI:PM.Py f:=PM.G6 (iX _ _) Uu.1;have RO:=rat;obtain⟨nl,yr,PU⟩:=RO;refine aP (.of yr) (v:=sv (PM.aD f)) (aG (j:=1) rfl) ⟨rfl,?_⟩;refine bu (fun z=>absurd ((bz OP).mp z) (IF pI)) fun _=>?_;refine(Yf _ _).mpr (aC fun V2 Yg=>?_);clear Yf;walk_at "rd";have lk:d.fV.length=op.length:=by rw[sl.ek,zae]
   have l5:=sl.l5;have dz:=MU pI (by rw[lk];exact l5:d.fV.length<=5);refine .mk st o n b l op d i wd f rfl sl rat pI fun H2 s2=>(Yg _ _).mpr (aC fun V3 Yh=>?_);clear Yg;walk_at "rd";rcases dz with ⟨e0,d',ht⟩ |⟨e,e1,e2,ht⟩
   ·rw[e0];refine bu (fun z=>absurd z (by decide)) fun _=>(Yh _ _).mpr ?_;clear Yh;walk_at "rd";refine .mk st o n b l op d d' i wd f rfl (sl.mono s2) (by lia) ⟨nl,s2 _ _ yr,s2 _ _ PU⟩ pI ht fun Qz H6 kp6 sl6=>(Ut _ _).mpr ⟨Qz,d',_,_,rfl,sl6,fun y u e=>kp6 _ _ (aI e fo0) (aI e fn0) (aI e WY) (s2 _ _ (sH _ _ e)),?_⟩;rw[etk,PM.DE er,PM.A9 Uu.1,ht]
   ·refine bu (fun _=>?_) fun z=>absurd (show uV d f>0 by rw[e1];lia) z;have e3:=all e (by rw[PM.A9 Uu.1,ht]);rw[e3] at q;rw[e1];exact q _ (sH.trans s2)
 ·intro σ Hx z;obtain⟨op,d,x2,x3,rfl,sl,sH,er⟩:=z;rw[zae,<- lz,zbF] at er;have e:=rd _ er;refine(pq _ _).mpr ?_;clear pq;walk_at "rd";refine⟨1,rfl,fun p1 f1=>?_⟩;have s1:=ar.new f1 (.lst [V.int (-1),V.int 6]);have y1:(upd Hx p1 (.lst [V.int (-1),V.int 6])) p1=some (.lst [V.int (-1),V.int 6]):=ae;generalize upd Hx p1 (.lst [V.int (-1),V.int 6])=Ha at *;refine aP (.of (s1 _ _ sl.at_)) (v:=V.ref o) (aG (j:=0) rfl) fun p2 f2=>?_;have s2:=ar.new f2 (.lst []);have y2:(upd Ha p2 (.lst [])) p2=some (.lst []):=ae;generalize upd Ha p2 (.lst [])=Hb at *;refine⟨o,p2,op.map sv,rfl,rfl,.of (s2 _ _ (s1 _ _ sl.yo)),.of y2,_,rfl,?_⟩;have lk:d.fV.length=op.length:=by rw[sl.ek,zae]
  have ko:((op.map sv).isEmpty=true)↔d.fV=[]:=by
   rw[zcA,zbH,<- zaU,<- zaU,lk]
  by_cases hk:d.fV=[]
  ·have e1:(op.map sv).isEmpty=true:=ko.mpr hk;rw[e1,if_neg (by decide)];refine aP (.of (s2 _ _ y1)) (v:=V.int (-1)) (aG (j:=0) rfl) ?_;have e2:PM.nX (ps.map (·.2))=none:=by rw[e];exact if_pos hk
   rw[e2] at q;exact q _ (sH.trans (s1.trans s2))
  ·have e1:(op.map sv).isEmpty=false:=zbJ.mpr fun z=>hk (ko.mp z);rw[e1,if_pos (by decide)];refine aP (.of (s2 _ _ y1)) (v:=V.int 6) (aG (j:=1) rfl) ?_;have e2:PM.nX (ps.map (·.2))=some .xU:=by rw[e];exact if_neg hk
   rw[e2] at q;exact q _ (sH.trans (s1.trans s2))
def OQ:List W:=[PM.cQ,PM.uP,PM.uQ,PM.qW,PM.cZ,PM.cg,PM.aM,PM.e9,PM.dW,PM.dU]
theorem RQ{H:Hp}{p:zc9}{vs:List V}(y:H p=some (.lst vs))(e:vs=(vs.map strOf).map V.str)(hM:∀v∈vs,zK (strOf v).cps.toList):∃L:List Str,H p=some (.lst (L.map V.str))/\(∀z∈L,zK z.cps.toList)/\L.length=vs.length:=
 ⟨vs.map strOf,by rw[y,<- e],fun z hz=>by obtain⟨v,hv,rfl⟩:=zaK.mp hz;exact hM v hv,by rw[zae]⟩
theorem FV{z:Str}{c:Nat}(hz:z=⟨#[c]⟩)(n:Nat):(zD z n).cps.toList=zan n c:=by
 subst hz;have key:∀(m:Nat) (a:Array Nat),((zan m (#[c]:Array Nat)).foldl (· ++ ·) a).toList=a.toList++zan m c:=by
  intro m
  induction m with
  |zero=>intro a;simp
  |succ m ih=>intro a;rw[zaQ,zbj,ih,zc2,zaQ,zbA];rfl
 show ((zan n (#[c]:Array Nat)).foldl (· ++ ·) #[]).toList=_;rw[key];rfl
theorem Hw{z:Str}{c:Nat}(n:Nat)(hz:z=⟨#[c]⟩)(h32:c≠32)(JG:c≠10)(l:60<n)(l2:n<=5000):zK (strOf (V.str (zaa "say "++zD z n))).cps.toList:=by
 have e:(strOf (V.str (zaa "say "++zD z n))).cps.toList=[115,97,121,32]++zan n c:=by
  show ((zaa "say ").cps++(zD z n).cps).toList=_;rw[zc2,FV hz];have:(zaa "say ").cps.toList=[115,97,121,32]:=by decide +kernel
  rw[this]
 rw[e];refine⟨Ms (fun h=>h32 (zbR.mp h).2.symm) (by rw[zbo];exact l),by rw[zaf,zbo];show 4+n<=5100;lia,fun h=>?_⟩;rcases zay.mp h with h |h
 ·revert h;decide
 ·exact JG (zbR.mp h).2.symm
theorem RT(T:Tx K mg t):bB P w K mg base kN 2 t.lN t.mM ["cell"] PC:=by
 have cS:=B5 (P:=P) (w:=w) (base:=base) T;refine T.jc.F.v7 vS (fun vs H Q E h=>?_) (fun eA A outer s H vs Q E hr h=>?_)
 ·obtain⟨_,rfl,_⟩:=h;rfl
 obtain⟨c,rfl,q⟩:=h;have nd:=vS.nd;refine⟨_,[some (.int c),none,none,none],(by
  rw[DH];exact(ag (aR (i:=1) nd rfl (zam rfl) (aA (br (vs:=[.str "",.str " ",.str " stop",.str "stop ",.str "stop 1",.str "stops",.str "Stop",.str "box",.str "box a",.str "box a 2",.str "box a 2 0 0"]) (by kernel_rfl))))
 (ag (aR (i:=1) nd rfl (zam rfl) (aF cW (pv 1) (aA (br (vs:=[.str "box A 2 0",.str "box 2 a 0",.str "box ask 2 0",.str "box a 02 0",.str "box a 2 -1",.str "box a 2 00"]) (by kernel_rfl)))))
 (ag (aR (i:=1) nd rfl (zam rfl) (aF cW (pv 1) (aA (br (vs:=[.str "box a 1000 0",.str "box abcdefghi 2 0",.str "box a1 2 0",.str "box a b 0",.str "box a 2 b",.str "ask",.str "ask 1"]) (by kernel_rfl)))))
 (ag (aR (i:=1) nd rfl (zam rfl) (aF cW (pv 1) (aA (br (vs:=[.str "ask a b",.str "ask A",.str "ask box",.str "ask abcdefghi",.str "ask a1",.str "put",.str "put a",.str "put 1 a"]) (by kernel_rfl)))))
 (ag (aR (i:=1) nd rfl (zam rfl) (aF cW (pv 1) (aA (br (vs:=[.str "put a 1 2",.str "put say 1",.str "put a 1+",.str "put a (1",.str "put abcdefghi 1",.str "say",.str "say 1 2"]) (by kernel_rfl)))))
 (ag (aR (i:=1) nd rfl (zam rfl) (aF cW (pv 1) (aA (br (vs:=[.str "say 1+",.str "say -1",.str "say +1",.str "say 1000",.str "say 00",.str "say 1--2",.str "say ()",.str "say 1)",.str "say A"]) (by kernel_rfl)))))
 (ag (aR (i:=1) nd rfl (zam rfl) (aF cW (pv 1) (aA (br (vs:=[.str "say a1",.str "say must",.str "say 1a",.str "must",.str "must a",.str "must a <",.str "must a < b c",.str "must a > b"]) (by kernel_rfl)))))
 (ag (aR (i:=1) nd rfl (zam rfl) (aF cW (pv 1) (aA (br (vs:=[.str "must 1 == 1",.str "must 1 <= 2",.str "must 1<2",.str "must 1 < 2 <",.str "if",.str "if 1",.str "if 1 <"]) (by kernel_rfl)))))
 (ag (aR (i:=1) nd rfl (zam rfl) (aF cW (pv 1) (aA (br (vs:=[.str "if 1 < 2 3",.str "if 1<2",.str "if 1 > 2",.str "if not 1 < 2",.str "while",.str "while 1",.str "while 1 <"]) (by kernel_rfl)))))
 (ag (aR (i:=1) nd rfl (zam rfl) (aF cW (pv 1) (aA (br (vs:=[.str "while 1 = 1 1",.str "while 1 != 2",.str "else 1",.str "else if",.str "end 1",.str "ends",.str "elif",.str "# stop"]) (by kernel_rfl)))))
 (ag (aR (i:=1) nd rfl (zam rfl) (aF cW (pv 1) (aA (br (vs:=[.str "let a 1",.str "print 1",.str "say  1",.str "box  a 2 0",.str "ask now a"]) (by kernel_rfl)))))
 (ag (aR (i:=1) nd rfl (zam rfl) (aF cW (pv 1) (aA (br (vs:=[.str "if a1 < 2",.str "while 1) = 2",.str "must end < 1",.str "if 1+ < 2",.str "if A < 1",.str "must zz < 1+",.str "if a.b < 1"]) (by kernel_rfl)))))
 (ag (aR (i:=1) nd rfl (zam rfl) (aF cW (pv 1) (aA (br (vs:=[.str "box a 11 x",.str "box a 0 00",.str "box a 99 1 1",.str "box A 11 0",.str "box a x 99",.str "box a 1",.str "box a +2 0"]) (by kernel_rfl)))))
 (ag (aR (i:=1) nd rfl (zam rfl) (aF cW (pv 1) (aA (aa ao (aa ao (aa (aF aE (aF aE ao (aF iU ao ah)) ao) (aa ao (aa ao af au) au) cG) au) au))))
 (ag (aR (i:=2) nd rfl (zam rfl) (aA (br (vs:=[.str "box",.str "ask",.str "put",.str "say",.str "if",.str "else",.str "while",.str "must",.str "stop",.str "end"]) (by kernel_rfl))))
 (ag (aR (i:=3) nd rfl (zam rfl) (a9 aU (pv 2) (aF c9 (aS cS (hr.mono (by first|decide|omega)) rfl T.aZ.m T.aZ.F.kp T.aZ.b .nil cn (aa (pv 0) (aa ah af au) ai)) ah) kW))
 (ag (aR (i:=1) nd rfl (zam rfl) (aF cW (pv 1) (aA (aa (aF aE (aF aE ao (pv 3)) ao) (aa (aF aE ao (pv 3)) (aa (aF aE (aF aE ao (pv 3)) ao) (aa (aF aE ao (pv 3)) (aa (aF aE (aF aE ao (pv 3)) ao) af cG) cG) cG) cG) cG))))
 (ag (aR (i:=1) nd rfl (zam rfl) (aF cW (pv 1) (aA (aa (aF aE (aF aE ao (aF iU ao ah)) ao) (aa (aF aE (aF aE (aF aE ao (aF iU ao ah)) ao) (aF iU ao ah)) (aa (aF aE ao (aF iU ao ah)) (aa (aF aE ao (aF iU ao ah)) af cG) cG) cG) cG))))
 (aj (aV (a9 aU (pv 1) (aF c9 (aS cS (hr.mono (by first|decide|omega)) rfl T.aZ.m T.aZ.F.kp T.aZ.b .nil cn (aa (pv 0) (aa ah af au) ai)) (bA cK rfl T.me PyProof.Rows.Boot.«len» (aa (pv 1) af ai))) kW)))))))))))))))))))))),rfl,?_⟩
 have line:zdh=2 ^ 24:=rfl;refine aC fun U0 Yi=>?_;walk_at "rd";intro p1 f1;generalize e1:upd H p1 _=H1;have s1:=gL e1 f1;obtain⟨M1,y1,b1,l1⟩:=RQ (Nv e1) rfl (eG (by decide +kernel));have l1:M1.length=11:=l1;clear e1;refine(Yi _ _).mpr (aC fun U1 vW=>?_);clear Yi;walk_at "rd";refine df 17 y1 b1 l1 rfl (eG (by decide +kernel)) rfl (by decide) fun p2 H2 M2 s2 y2 b2 l2=>(vW _ _).mpr (aC fun U2 pJ=>?_);clear vW;walk_at "rd";refine df 24 y2 b2 l2 rfl (eG (by decide +kernel)) rfl (by decide) fun p3 H3 M3 s3 y3 b3 l3=>(pJ _ _).mpr (aC fun U3 pq=>?_);clear pJ;walk_at "rd";refine df 32 y3 b3 l3 rfl (eG (by decide +kernel)) rfl (by decide) fun p4 H4 M4 s4 y4 b4 l4=>(pq _ _).mpr (aC fun U4 t9=>?_);clear pq;walk_at "rd";refine df 39 y4 b4 l4 rfl (eG (by decide +kernel)) rfl (by decide) fun p5 H5 M5 s5 y5 b5 l5=>(t9 _ _).mpr (aC fun U5 ua=>?_);clear t9;walk_at "rd";refine df 48 y5 b5 l5 rfl (eG (by decide +kernel)) rfl (by decide) fun p6 H6 M6 s6 y6 b6 l6=>(ua _ _).mpr (aC fun U6 FL=>?_);clear ua;walk_at "rd";refine df 56 y6 b6 l6 rfl (eG (by decide +kernel)) rfl (by decide) fun p7 H7 M7 s7 y7 b7 l7=>(FL _ _).mpr (aC fun U7 PN=>?_);clear FL;walk_at "rd";refine df 63 y7 b7 l7 rfl (eG (by decide +kernel)) rfl (by decide) fun p8 H8 M8 s8 y8 b8 l8=>(PN _ _).mpr (aC fun U8 PQ=>?_);clear PN;walk_at "rd";refine df 70 y8 b8 l8 rfl (eG (by decide +kernel)) rfl (by decide) fun p9 H9 M9 s9 y9 b9 l9=>(PQ _ _).mpr (aC fun U9 PR=>?_);clear PQ;walk_at "rd";refine df 78 y9 b9 l9 rfl (eG (by decide +kernel)) rfl (by decide) fun p10 H10 M10 Yj Yk Yl l10=>(PR _ _).mpr (aC fun U10 ML=>?_);clear PR;walk_at "rd";refine df 83 Yk Yl l10 rfl (eG (by decide +kernel)) rfl (by decide) fun p11 H11 M11 Ym Yn Yo l11=>(ML _ _).mpr (aC fun U11 MM=>?_);clear ML;walk_at "rd";refine df 90 Yn Yo l11 rfl (eG (by decide +kernel)) rfl (by decide) fun p12 H12 M12 FK Yp Yq l12=>(MM _ _).mpr (aC fun U12 MN=>?_);clear MM;walk_at "rd";refine df 97 Yp Yq l12 rfl (eG (by decide +kernel)) rfl (by decide) fun p13 H13 M13 Yr y13 b13 l13=>(MN _ _).mpr (aC fun U13 MO=>?_);clear MN;have W7:=((((s1.trans s2).trans (s3.trans s4)).trans ((s5.trans s6).trans (s7.trans s8))).trans (s9.trans Yj)).trans ((Ym.trans FK).trans Yr);clear s1 s2 s3 s4 s5 s6 s7 s8 s9 Yj Ym FK Yr y1 y2 y3 y4 y5 y6 y7 y8 y9 Yk Yn Yp b1 b2 b3 b4 b5 b6 b7 b8 b9 Yl Yo Yq;walk_at "rd";refine⟨_,30,rfl,rfl,by decide,by decide,by decide +kernel,_,_,rfl,rfl,by decide +kernel,_,_,rfl,rfl,by decide +kernel,?_⟩;refine df 102 y13 b13 l13 rfl (eG (by decide +kernel)) rfl (by decide) fun p14 H14 M14 Sj y14 b14 l14=>(MO _ _).mpr (aC fun U14 Uv=>?_);clear MO;walk_at "rd";intro g1 f1;have WX:([V.str (zaa "box"),V.str (zaa "ask"),V.str (zaa "put"),V.str (zaa "say"),V.str (zaa "if"),V.str (zaa "else"),V.str (zaa "while"),V.str (zaa "must"),V.str (zaa "stop"),V.str (zaa "end")]:List V)=OQ.map sv:=by decide +kernel
 rw[WX];generalize eg:upd H14 g1 _=H15;have PJ:=gL eg f1;have y15:=PJ _ _ y14;have yg:=Nv eg;clear eg;refine(Uv _ _).mpr (aC fun U15 Uw=>?_);clear Uv;walk_at "rd";refine⟨c,75,rfl,by decide,by decide,?_⟩;obtain⟨v1,OO,a1⟩:=iO (L:=OQ.map sv) (n:=10) rfl (by decide) (stir c 75);obtain⟨wd,hw,rfl⟩:=zaK.mp OO;walk_at "rd";refine aP (.of yg) a1 ?_;refine(Uw _ _).mpr (aC fun U16 Ux=>?_);clear Uw;have lw:(S wd).length<=8:=by
  have all:∀n∈OQ,n.length<=8:=by decide
  rw[eE];exact all wd hw
 have cb:([V.str (zaa "box "++S wd++zaa " 2 0"),V.str (zaa "ask "++S wd),V.str (zaa "put "++S wd++zaa " 1"),V.str (zaa "say 1+"++S wd),V.str (zaa "if "++S wd++zaa " < 1")]:List V).all (fun v=>Mr (strOf v))=true:=by
  have all:∀wd∈OQ,([V.str (zaa "box "++S wd++zaa " 2 0"),V.str (zaa "ask "++S wd),V.str (zaa "put "++S wd++zaa " 1"),V.str (zaa "say 1+"++S wd),V.str (zaa "if "++S wd++zaa " < 1")]:List V).all (fun v=>Mr (strOf v))=true:=by decide +kernel
  exact all wd hw
 have q1:(zaa "box ").length<=20:=by decide +kernel
 have q2:(zaa " 2 0").length<=20:=by decide +kernel
 have q3:(zaa "ask ").length<=20:=by decide +kernel
 have q4:(zaa "put ").length<=20:=by decide +kernel
 have q5:(zaa " 1").length<=20:=by decide +kernel
 have q6:(zaa "say 1+").length<=20:=by decide +kernel
 have q7:(zaa "if ").length<=20:=by decide +kernel
 have q8:(zaa " < 1").length<=20:=by decide +kernel
 walk_at "rd";refine⟨_,S wd,rfl,rfl,by lia,_,_,rfl,rfl,by rw[strLen_append];lia,_,S wd,rfl,rfl,by lia,_,S wd,rfl,rfl,by lia,_,_,rfl,rfl,by rw[strLen_append];lia,_,S wd,rfl,rfl,by lia,_,S wd,rfl,rfl,by lia,_,_,rfl,rfl,by rw[strLen_append];lia,?_⟩;refine df 107 y15 b14 l14 rfl (eG cb) rfl (by decide) fun p17 H17 M17 s17 y17 b17 l17=>(Ux _ _).mpr (aC fun U17 Uy=>?_);clear Ux;walk_at "rd";refine⟨_,30,rfl,rfl,by decide,by decide,by decide +kernel,_,_,rfl,rfl,by decide +kernel,_,_,rfl,rfl,by decide +kernel,_,6,rfl,rfl,by decide,by decide,by decide +kernel,_,_,rfl,rfl,by decide +kernel,_,_,rfl,rfl,by decide +kernel,_,6,rfl,rfl,by decide,by decide,by decide +kernel,_,_,rfl,rfl,by decide +kernel,_,900,rfl,rfl,by decide,by decide,by decide +kernel,_,_,rfl,rfl,?g1,_,5000,rfl,rfl,by decide,by decide,by decide +kernel,_,_,rfl,rfl,?g2,?_⟩
 case g1=>rw[C7];decide +kernel
 case g2=>rw[C7];decide +kernel
 refine df 111 y17 b17 l17 rfl (fun v hv=>?_) rfl (by decide) fun Vk H18 Ys s18 Yt b18 l18=>(Uy _ _).mpr ?_
 ·simp only[zaj,za4,or_false] at hv;rcases hv with rfl |rfl |rfl |rfl
  ·exact BC (by decide +kernel)
  ·exact BC (by decide +kernel)
  ·exact Hw (c:=40) 900 (by decide +kernel) (by decide) (by decide) (by decide) (by decide)
  ·exact Hw (c:=57) 5000 (by decide +kernel) (by decide) (by decide) (by decide) (by decide)
 clear Uy;refine⟨c,70,rfl,by decide,by decide,Vk,_,rfl,.inl (.of Yt),?_⟩;have lz:(Ys.map V.str).length=111:=by rw[zae,l18]
 rw[lz];obtain⟨v2,Sl,a2⟩:=iO (L:=Ys.map V.str) (n:=111) lz (by decide) (stir c 70);obtain⟨z,hz,rfl⟩:=zaK.mp Sl;refine⟨_,_,rfl,rfl,(show (0:Int)<((111:Nat):Int) by decide),aP (.of Yt) a2 ?_⟩;exact q z.cps.toList _ ((W7.trans Sj).trans (PJ.trans (s17.trans s18))) (b18 z hz)
theorem RU(T:Tx K mg t)(C:Cd P w K t):bB P w K mg base kN 66 t.Hk t.u5 ["script"] (GN K):=by
 have cS:=B5 (P:=P) (w:=w) (base:=base) T;have yV:=FQ (P:=P) (w:=w) (base:=base) T;have yW:=FT (P:=P) (w:=w) (base:=base) T;have FW:=RT (P:=P) (w:=w) (base:=base) T;have zW:=RN (P:=P) (w:=w) (base:=base) T;have yX:=ON (P:=P) (w:=w) (base:=base) T C;refine T.Hl.F.v7 Mw (fun vs H Q E h=>?_) (fun eA A outer s H vs Q E hr h=>?_)
 ·obtain⟨_,_,rfl,_⟩:=h;rfl
 obtain⟨a,ns,rfl,hS,hl,q⟩:=h;have nd:=Mw.nd;refine⟨_,[some (.ref a),none,none,none,none,none,none],(@ag _ _ _ _ _ (@aR _ _ 1 _ _ _ _ nd rfl (zam rfl) (@aS _ _ _ _ _ _ _ _ _ _ _ _ _ _ _ _ yV (hr.mono (by first|decide|omega)) rfl T.d0.m T.d0.F.kp T.d0.b .nil cn (@aa _ _ _ _ _ (pv 0) (@aa _ _ _ _ _ (@ah _ _ _ _) (@af _) (@au _ _ _ _ _)) (@ai _ _ _ _)) (by first |rfl |exact .inl rfl |exact .inr rfl |decide |(intro _;rfl) |assumption) (by first |rfl |exact .inl rfl |exact .inr rfl |decide |(intro _;rfl) |assumption) (by first |rfl |exact .inl rfl |exact .inr rfl |decide |(intro _;rfl) |assumption)) (by first |rfl |exact .inl rfl |exact .inr rfl |decide |(intro _;rfl) |assumption) (by first |rfl |exact .inl rfl |exact .inr rfl |decide |(intro _;rfl) |assumption)) (@ag _ _ _ _ _ (@aR _ _ 2 _ _ _ _ nd rfl (zam rfl) (@aA _ _ _ _ (@af _)) (by first |rfl |exact .inl rfl |exact .inr rfl |decide |(intro _;rfl) |assumption) (by first |rfl |exact .inl rfl |exact .inr rfl |decide |(intro _;rfl) |assumption)) (@ag _ _ _ _ _ (@w9 _ _ _ _ _ _ _ _ PassesOwn.never rfl (@qO _ _ _ _ (@pQ _ _ _ _ _ _ _ _ _ _ (@Bn _) (pv 0) (@sY _) (@sZ _ _ _ (@ah _ _ _ _)))) (@cJ _ _ 3 _ nd rfl (zam rfl) (by first |rfl |exact .inl rfl |exact .inr rfl |decide |(intro _;rfl) |assumption)) (@aj _ _ _ (@bc _ _ _ _ _ _ _ _ (@aH _ _ _ _ _ _ _ _ (@cy _) (@aF _ _ _ _ _ _ _ _ (@c9 _) (@aS _ _ _ _ _ _ _ _ _ _ _ _ _ _ _ _ cS (hr.mono (by first|decide|omega)) rfl T.aZ.m T.aZ.F.kp T.aZ.b .nil cn (@aa _ _ _ _ _ (pv 3) (@aa _ _ _ _ _ (@ah _ _ _ _) (@af _) (@au _ _ _ _ _)) (@ai _ _ _ _)) (by first |rfl |exact .inl rfl |exact .inr rfl |decide |(intro _;rfl) |assumption) (by first |rfl |exact .inl rfl |exact .inr rfl |decide |(intro _;rfl) |assumption) (by first |rfl |exact .inl rfl |exact .inr rfl |decide |(intro _;rfl) |assumption)) (@ah _ _ _ _)) (@ah _ _ _ _) (aW _)) (@aj _ _ _ (@cF _ _ _ _ (@kT _ _ _ _ _ _ _ _ _ _ _ _ zaC zaH zaI c6 (pv 2) (@aa _ _ _ _ _ (@aA _ _ _ _ (@aa _ _ _ _ _ (@aS _ _ _ _ _ _ _ _ _ _ _ _ _ _ _ _ FW (hr.mono (by first|decide|omega)) rfl T.jc.m T.jc.F.kp T.jc.b .nil cn (@aa _ _ _ _ _ (pv 3) (@af _) (@ai _ _ _ _)) (by first |rfl |exact .inl rfl |exact .inr rfl |decide |(intro _;rfl) |assumption) (by first |rfl |exact .inl rfl |exact .inr rfl |decide |(intro _;rfl) |assumption) (by first |rfl |exact .inl rfl |exact .inr rfl |decide |(intro _;rfl) |assumption)) (@aa _ _ _ _ _ (@ao _ _ _ _) (@aa _ _ _ _ _ (@aA _ _ _ _ (@af _)) (@aa _ _ _ _ _ (@rk _ _ _ _) (@af _) (@au _ _ _ _ _)) (@bM _ _ _ _)) (@au _ _ _ _ _)) (@bT _ _ _ _ _ _))) (@af _) (@bM _ _ _ _)) (by first |rfl |exact .inl rfl |exact .inr rfl |decide |(intro _;rfl) |assumption) (by first |rfl |exact .inl rfl |exact .inr rfl |decide |(intro _;rfl) |assumption) (by first |rfl |exact .inl rfl |exact .inr rfl |decide |(intro _;rfl) |assumption) (by first |rfl |exact .inl rfl |exact .inr rfl |decide |(intro _;rfl) |assumption) (by first |rfl |exact .inl rfl |exact .inr rfl |decide |(intro _;rfl) |assumption)) (by first |rfl |exact .inl rfl |exact .inr rfl |decide |(intro _;rfl) |assumption))) (@aj _ _ _ (@cF _ _ _ _ (@kT _ _ _ _ _ _ _ _ _ _ _ _ zaC zaH zaI c6 (pv 2) (@aa _ _ _ _ _ (Rn (@aS _ _ _ _ _ _ _ _ _ _ _ _ _ _ _ _ yW (hr.mono (by first|decide|omega)) rfl T.d7.m T.d7.F.kp T.d7.b .nil cn (@aa _ _ _ _ _ (pv 3) (@af _) (@ai _ _ _ _)) (by first |rfl |exact .inl rfl |exact .inr rfl |decide |(intro _;rfl) |assumption) (by first |rfl |exact .inl rfl |exact .inr rfl |decide |(intro _;rfl) |assumption) (by first |rfl |exact .inl rfl |exact .inr rfl |decide |(intro _;rfl) |assumption))) (@af _) (@bT _ _ _ _ _ _)) (by first |rfl |exact .inl rfl |exact .inr rfl |decide |(intro _;rfl) |assumption) (by first |rfl |exact .inl rfl |exact .inr rfl |decide |(intro _;rfl) |assumption) (by first |rfl |exact .inl rfl |exact .inr rfl |decide |(intro _;rfl) |assumption) (by first |rfl |exact .inl rfl |exact .inr rfl |decide |(intro _;rfl) |assumption) (by first |rfl |exact .inl rfl |exact .inr rfl |decide |(intro _;rfl) |assumption)) (by first |rfl |exact .inl rfl |exact .inr rfl |decide |(intro _;rfl) |assumption))))) (by first |rfl |exact .inl rfl |exact .inr rfl |decide |(intro _;rfl) |assumption)) (@ag _ _ _ _ _ (@bc _ _ _ _ _ _ _ _ (@aH _ _ _ _ _ _ _ _ (@qP _ (AG hr)) (pv 2) (@aA _ _ _ _ (@af _)) (aW _)) (@aj _ _ _ (@aR _ _ 2 _ _ _ _ nd rfl (zam rfl) (@aA _ _ _ _ (@aa _ _ _ _ _ (@aA _ _ _ _ (@aa _ _ _ _ _ (@ao _ _ _ _) (@aa _ _ _ _ _ (@ao _ _ _ _) (@aa _ _ _ _ _ (@aA _ _ _ _ (@af _)) (@aa _ _ _ _ _ (@rk _ _ _ _) (@af _) (@au _ _ _ _ _)) (@bM _ _ _ _)) (@au _ _ _ _ _)) (@au _ _ _ _ _))) (@af _) (@bM _ _ _ _))) (by first |rfl |exact .inl rfl |exact .inr rfl |decide |(intro _;rfl) |assumption) (by first |rfl |exact .inl rfl |exact .inr rfl |decide |(intro _;rfl) |assumption))) (@aO _)) (@ag _ _ _ _ _ (@aR _ _ 4 _ _ _ _ nd rfl (zam rfl) (@a9 _ _ _ _ _ _ _ (@aU _) (@aA _ _ _ _ (@aa _ _ _ _ _ (@ah _ _ _ _) (@aa _ _ _ _ _ (@ah _ _ _ _) (@aa _ _ _ _ _ (@ah _ _ _ _) (@aa _ _ _ _ _ (@ah _ _ _ _) (@aa _ _ _ _ _ (@aF _ _ _ _ _ _ _ _ (@uA _) (@ah _ _ _ _) (@aF _ _ _ _ _ _ _ _ (@c9 _) (@aS _ _ _ _ _ _ _ _ _ _ _ _ _ _ _ _ cS (hr.mono (by first|decide|omega)) rfl T.aZ.m T.aZ.F.kp T.aZ.b .nil cn (@aa _ _ _ _ _ (pv 1) (@aa _ _ _ _ _ (@ah _ _ _ _) (@af _) (@au _ _ _ _ _)) (@ai _ _ _ _)) (by first |rfl |exact .inl rfl |exact .inr rfl |decide |(intro _;rfl) |assumption) (by first |rfl |exact .inl rfl |exact .inr rfl |decide |(intro _;rfl) |assumption) (by first |rfl |exact .inl rfl |exact .inr rfl |decide |(intro _;rfl) |assumption)) (@ah _ _ _ _))) (@af _) (@cG _ _ _ _ _ _)) (@au _ _ _ _ _)) (@au _ _ _ _ _)) (@au _ _ _ _ _)) (@au _ _ _ _ _))) (@aF _ _ _ _ _ _ _ _ (@c9 _) (@aS _ _ _ _ _ _ _ _ _ _ _ _ _ _ _ _ cS (hr.mono (by first|decide|omega)) rfl T.aZ.m T.aZ.F.kp T.aZ.b .nil cn (@aa _ _ _ _ _ (pv 1) (@aa _ _ _ _ _ (@ah _ _ _ _) (@af _) (@au _ _ _ _ _)) (@ai _ _ _ _)) (by first |rfl |exact .inl rfl |exact .inr rfl |decide |(intro _;rfl) |assumption) (by first |rfl |exact .inl rfl |exact .inr rfl |decide |(intro _;rfl) |assumption) (by first |rfl |exact .inl rfl |exact .inr rfl |decide |(intro _;rfl) |assumption)) (@ah _ _ _ _)) (@kW _ _ _ _)) (by first |rfl |exact .inl rfl |exact .inr rfl |decide |(intro _;rfl) |assumption) (by first |rfl |exact .inl rfl |exact .inr rfl |decide |(intro _;rfl) |assumption)) (@ag _ _ _ _ _ (@bc _ _ _ _ _ _ _ _ (@aH _ _ _ _ _ _ _ _ (@cy _) (@aF _ _ _ _ _ _ _ _ (@c9 _) (@aS _ _ _ _ _ _ _ _ _ _ _ _ _ _ _ _ cS (hr.mono (by first|decide|omega)) rfl T.aZ.m T.aZ.F.kp T.aZ.b .nil cn (@aa _ _ _ _ _ (pv 1) (@aa _ _ _ _ _ (@ah _ _ _ _) (@af _) (@au _ _ _ _ _)) (@ai _ _ _ _)) (by first |rfl |exact .inl rfl |exact .inr rfl |decide |(intro _;rfl) |assumption) (by first |rfl |exact .inl rfl |exact .inr rfl |decide |(intro _;rfl) |assumption) (by first |rfl |exact .inl rfl |exact .inr rfl |decide |(intro _;rfl) |assumption)) (@ah _ _ _ _)) (@ah _ _ _ _) (aW _)) (@aj _ _ _ (@aR _ _ 2 _ _ _ _ nd rfl (zam rfl) (@pQ _ _ _ _ _ _ _ _ _ _ (@Bn _) (@aF _ _ _ _ _ _ _ _ (@Ko _) (pv 2) (@ah _ _ _ _)) (@sY _) (@sZ _ _ _ (pv 4))) (by first |rfl |exact .inl rfl |exact .inr rfl |decide |(intro _;rfl) |assumption) (by first |rfl |exact .inl rfl |exact .inr rfl |decide |(intro _;rfl) |assumption))) (@aj _ _ _ (@bc _ _ _ _ _ _ _ _ (@aH _ _ _ _ _ _ _ _ (@cy _) (@aF _ _ _ _ _ _ _ _ (@c9 _) (@aS _ _ _ _ _ _ _ _ _ _ _ _ _ _ _ _ cS (hr.mono (by first|decide|omega)) rfl T.aZ.m T.aZ.F.kp T.aZ.b .nil cn (@aa _ _ _ _ _ (pv 1) (@aa _ _ _ _ _ (@ah _ _ _ _) (@af _) (@au _ _ _ _ _)) (@ai _ _ _ _)) (by first |rfl |exact .inl rfl |exact .inr rfl |decide |(intro _;rfl) |assumption) (by first |rfl |exact .inl rfl |exact .inr rfl |decide |(intro _;rfl) |assumption) (by first |rfl |exact .inl rfl |exact .inr rfl |decide |(intro _;rfl) |assumption)) (@ah _ _ _ _)) (@ah _ _ _ _) (aW _)) (@aj _ _ _ (@aR _ _ 2 _ _ _ _ nd rfl (zam rfl) (@aF _ _ _ _ _ _ _ _ (@cW _) (@aA _ _ _ _ (@aa _ _ _ _ _ (@aA _ _ _ _ (@aa _ _ _ _ _ (@ao _ _ _ _) (@aa _ _ _ _ _ (@ao _ _ _ _) (@aa _ _ _ _ _ (@aA _ _ _ _ (@aa _ _ _ _ _ (@ao _ _ _ _) (@af _) (@au _ _ _ _ _))) (@aa _ _ _ _ _ (@rk _ _ _ _) (@af _) (@au _ _ _ _ _)) (@bM _ _ _ _)) (@au _ _ _ _ _)) (@au _ _ _ _ _))) (@af _) (@bM _ _ _ _))) (@aF _ _ _ _ _ _ _ _ (@Ko _) (@aA _ _ _ _ (@aa _ _ _ _ _ (@aA _ _ _ _ (@aa _ _ _ _ _ (@ao _ _ _ _) (@aa _ _ _ _ _ (@ao _ _ _ _) (@aa _ _ _ _ _ (@aA _ _ _ _ (@aa _ _ _ _ _ (@ao _ _ _ _) (@af _) (@au _ _ _ _ _))) (@aa _ _ _ _ _ (@rk _ _ _ _) (@af _) (@au _ _ _ _ _)) (@bM _ _ _ _)) (@au _ _ _ _ _)) (@au _ _ _ _ _))) (@af _) (@bM _ _ _ _))) (@aF _ _ _ _ _ _ _ _ (@ES _) (pv 4) (@ah _ _ _ _)))) (by first |rfl |exact .inl rfl |exact .inr rfl |decide |(intro _;rfl) |assumption) (by first |rfl |exact .inl rfl |exact .inr rfl |decide |(intro _;rfl) |assumption))) (@aO _)))) (@ag _ _ _ _ _ (@aR _ _ 5 _ _ _ _ nd rfl (Or.inr rfl) (@aS _ _ _ _ _ _ _ _ _ _ _ _ _ _ _ _ zW (hr.mono (by first|decide|omega)) rfl T.eQ.m T.eQ.F.kp T.eQ.b .nil cn (@aa _ _ _ _ _ (pv 2) (@af _) (@ai _ _ _ _)) (by first |rfl |exact .inl rfl |exact .inr rfl |decide |(intro _;rfl) |assumption) (by first |rfl |exact .inl rfl |exact .inr rfl |decide |(intro _;rfl) |assumption) (by first |rfl |exact .inl rfl |exact .inr rfl |decide |(intro _;rfl) |assumption)) (by first |rfl |exact .inl rfl |exact .inr rfl |decide |(intro _;rfl) |assumption) (by first |rfl |exact .inl rfl |exact .inr rfl |decide |(intro _;rfl) |assumption)) (@ag _ _ _ _ _ (@aR _ _ 6 _ _ _ _ nd rfl (zam rfl) (@aS _ _ _ _ _ _ _ _ _ _ _ _ _ _ _ _ yX (hr.mono (by first|decide|omega)) rfl T.d4.m T.d4.F.kp T.d4.b .nil cn (@aa _ _ _ _ _ (@tm _ _ _ _ _ _ _ ["row"] [] _ _ _ _ rfl (by rfl) (by rfl) (@qO _ _ _ _ (pv 2)) (fun _ _ _ _=>(@cJ _ _ 0 _ (by show List.Nodup (["row"]:List Str);decide +kernel) rfl (zam rfl) (by first |rfl |exact .inl rfl |exact .inr rfl |decide |(intro _;rfl) |assumption))) (fun _ _ _ _=>(@wG _)) (fun _ _ _ _=>(@a9 _ _ _ _ _ _ _ (Lu (K:=K) rfl) (pv 0) (@ah _ _ _ _) (@aJ _ _ _))) (by first |rfl |exact .inl rfl |exact .inr rfl |decide |(intro _;rfl) |assumption)) (@af _) (@GF _ _ _ _ _ _)) (by first |rfl |exact .inl rfl |exact .inr rfl |decide |(intro _;rfl) |assumption) (by first |rfl |exact .inl rfl |exact .inr rfl |decide |(intro _;rfl) |assumption) (by first |rfl |exact .inl rfl |exact .inr rfl |decide |(intro _;rfl) |assumption)) (by first |rfl |exact .inl rfl |exact .inr rfl |decide |(intro _;rfl) |assumption) (by first |rfl |exact .inl rfl |exact .inr rfl |decide |(intro _;rfl) |assumption)) (@ag _ _ _ _ _ (@bc _ _ _ _ _ _ _ _ (@aH _ _ _ _ _ _ _ _ (@xg _) (pv 5) (@ah _ _ _ _) (aW _)) (@aj _ _ _ (@aV _ _ _ _ (@fN _ _ _ _ _ _ _ _ (@qP _ (AG hr)) (pv 6) (@aA _ _ _ _ (@af _)) (aW _)))) (@aO _)) (@aj _ _ _ (@aV _ _ _ _ (@fN _ _ _ _ _ _ _ _ (Q6 (To hr)) (pv 6) (@tm _ _ _ _ _ _ _ ["k"] [5] _ _ _ _ rfl (by rfl) (by rfl) (@HH _ _ _ _ _ _ rfl T.BQ (@aa _ _ _ _ _ (@ah _ _ _ _) (@af _) (@au _ _ _ _ _)) (by first |rfl |exact .inl rfl |exact .inr rfl |decide |(intro _;rfl) |assumption)) (fun _ _ _ _=>(@cJ _ _ 0 _ (by show List.Nodup (["k", "due"]:List Str);decide +kernel) rfl (zam rfl) (by first |rfl |exact .inl rfl |exact .inr rfl |decide |(intro _;rfl) |assumption))) (fun _ _ _ _=>(@wG _)) (fun _ _ _ _=>(@fN _ _ _ _ _ _ _ _ (@cy _) (pv 0) (pv 1) (aW _))) (by first |rfl |exact .inl rfl |exact .inr rfl |decide |(intro _;rfl) |assumption)) (aW _))))))))))))),rfl,?_⟩;have line:zdh=2 ^ 24:=rfl;have OP:zaa "bad"=S tL:=by decide +kernel
 refine aC fun U1 vW=>?_;walk_at "rd";refine⟨a,ns,0,rfl,hS,fun hd=>(vW _ _).mpr (aC fun U2 pJ=>?_)⟩;clear vW;walk_at "rd";intro R fR;have s1:=ar.new fR (.lst []);have yR:(upd H R (.lst [])) R=some (.lst []):=ae;generalize upd H R (.lst [])=H1 at *;refine(pJ _ _).mpr (aC fun U3 pq=>?_);clear pJ;refine C8 fun U6 FL=>?_;walk_at "rd";refine⟨63,rfl,a,_,rfl,s1.seq hS,fun p fp=>?_⟩;obtain⟨ms,em,lm⟩:∃ms:List Int,uE (ns.map V.int) none (some 63)=ms.map V.int/\ms.length<=63:=by
  rw[LU _ (by decide),<- List.map_take];exact⟨_,rfl,by rw[zbb];exact zaB (Nat.min_le_left _ _) (by decide)⟩
 rw[em];have s2:=ar.new fp (.lst (ms.map V.int));have yp:(upd H1 p (.lst (ms.map V.int))) p=some (.lst (ms.map V.int)):=ae;have pR:p≠R:=fun z=>by rw[z,yR] at fp;cases fp
 generalize upd H1 p (.lst (ms.map V.int))=H2 at *;refine⟨p,rfl,⟨_,.of yp⟩,FL _ _ (xa (K:=K) (a:=p) (xs:=ms.map V.int) (fun i σ Hx=>∃(ps:List (V×W)) (x3:Option V),σ=[some (.ref a),some (.int hd),some (.ref R),x3,none,none,none]/\Hx R=some (.lst (ps.map (·.1)))/\Hx p=some (.lst (ms.map V.int))/\ps.length<=i/\∀pr∈ps,RowW K (wo Hx R) pr.1 pr.2) ⟨[],none,rfl,s2 _ _ yR,yp,zai _,fun _ h=>by cases h⟩ (fun i σ Hx _ z=>by obtain⟨_,_,_,_,y,_⟩:=z;exact .of y) ?_ ?_)⟩
 ·intro i x σ Hx hx z;obtain⟨ps,x3,rfl,yr,yp',lp,hp⟩:=z;rw[zaF] at hx;obtain⟨cell,hc,rfl⟩:=za7.mp hx;have hi:i<ms.length:=(zap.mp hc).1;obtain⟨Nx,Ut⟩:∃Nx:St->Hp->Prop,∀σ H',Nx σ H'↔∃(ps:List (V×W)) (x3:Option V),σ=[some (.ref a),some (.int hd),some (.ref R),x3,none,none,none]/\H' R=some (.lst (ps.map (·.1)))/\H' p=some (.lst (ms.map V.int))/\ps.length<=i+1/\∀pr∈ps,RowW K (wo H' R) pr.1 pr.2:=⟨_,fun _ _=>Iff.rfl⟩
  simp only[<- Ut];have put:∀(H4:Hp) (l:zc9) (wd:W),ar Hx H4->RowW K (wo H4 R) (.ref l) wd->Nx [some (.ref a),some (.int hd),some (.ref R),some (.int cell),none,none,none] (upd H4 R (.lst (ps.map (·.1)++[.ref l]))):=fun H4 l wd s4 hw=>by
   refine(Ut _ _).mpr ⟨ps++[(.ref l,wd)],_,rfl,by rw[ae,zat];rfl,by rw[aq pR];exact s4 _ _ yp',by rw[zaf,zau];lia,fun pr W8=>?_⟩;rw[Rr];rcases zay.mp W8 with h |h
   ·exact(hp pr h).mono (Ow s4)
   ·rw[zal.mp h];exact hw
  have Yu:(ps.map (·.1)).length<zdh:=by rw[zae];lia
  show NI _ _ _ _ _ _;walk_at "rd";refine⟨cell,83,rfl,by decide,by decide,?_⟩;walk_at "rd";refine bu (fun _=>?_) (fun _=>?_)
  ·refine⟨.inl ⟨rfl,_,.of yr⟩,.mk cell rfl fun wd H3 s3 bw=>?_⟩;intro n fn l fl;have s4:=(ar.new fn (.lst [])).trans (ar.new fl (.lst [sv wd,V.str (zaa "bad"),V.ref n,V.bl true]));have yl:(upd (upd H3 n (.lst [])) l (.lst [sv wd,V.str (zaa "bad"),V.ref n,V.bl true])) l=some (.lst [sv wd,sv tL,V.ref n,V.bl true]):=by rw[ae,OP];rfl
   have Yv:=s3 _ _ yr;have lR:l≠R:=fun z=>by rw[z,ar.new fn (.lst []) _ _ Yv] at fl;cases fl
   generalize upd (upd H3 n (.lst [])) l (.lst [sv wd,V.str (zaa "bad"),V.ref n,V.bl true])=H4 at *;exact⟨R,_,_,rfl,rfl,s4 _ _ Yv,Yu,put H4 l wd (s3.trans s4) (.bad l n rfl (by rw[xJ lR];exact yl) bw)⟩
  ·refine⟨.inl ⟨rfl,_,.of yr⟩,?_⟩;simp only[TV];walk_at "rd";refine⟨R,_,yr,fun oR=>⟨cell,rfl,fun l wd f Yw W9 Uu RO=>⟨W9 _ _ ae,?_⟩⟩⟩;have Uz:Yw R=some (EK R oR):=W9 _ _ ae;obtain⟨nl,Xa,RV⟩:=RO;have Rl:l≠R:=fun z=>by rw[z,Uz] at Xa;cases Xa
   have Yx:nl≠R:=fun z=>by rw[z,Uz] at RV;cases RV
   have s3:ar Hx (upd Yw R (.lst (ps.map (·.1)))):=fun y u e=>by
    by_cases hy:y=R
    ·rw[hy,ae,<- e,hy,yr]
    ·rw[aq hy];exact W9 _ _ (by rw[aq hy];exact e)
   refine⟨R,_,_,rfl,rfl,ae,Yu,put _ l wd s3 (.good l f rfl ⟨nl,?_,?_⟩ Uu)⟩
   ·rw[xJ Rl,aq Rl];exact Xa
   ·rw[xJ Yx,aq Yx];exact RV
 ·intro σ Hx z;obtain⟨ps,x3,rfl,yr,_,lp,Yy⟩:=z;rw[zae] at lp;have hp:∀pr∈ps,RowW K Hx pr.1 pr.2:=fun pr h=>(Yy pr h).mono TX;clear Yy;refine(pq _ _).mpr (aC fun U7 PN=>?_);clear pq;have Yz:∀(Hy:Hp) (R':zc9) (qs:List (V×W)),Hy R'=some (.lst (qs.map (·.1)))->(∀pr∈qs,RowW K Hy pr.1 pr.2)->qs≠[]->qs.length<=63->U7 [some (.ref a),some (.int hd),some (.ref R'),x3,none,none,none] Hy:=by
   intro Hy R' qs yq hq ne lq;refine(PN _ _).mpr (aC fun U8 PQ=>?_);clear PN;walk_at "rd";refine⟨hd,92,rfl,by decide,by decide,?_⟩;walk_at "rd";intro pm fm;have sm:=ar.new fm (.lst [V.int 79,V.int 80,V.int 81,V.int 82,V.int (81+stir hd 92%300)]);have ym:(upd Hy pm (.lst [V.int 79,V.int 80,V.int 81,V.int 82,V.int (81+stir hd 92%300)])) pm=some (.lst [V.int 79,V.int 80,V.int 81,V.int 82,V.int (81+stir hd 92%300)]):=ae;generalize upd Hy pm (.lst [V.int 79,V.int 80,V.int 81,V.int 82,V.int (81+stir hd 92%300)])=Hm at *;refine⟨hd,93,rfl,by decide,by decide,?_⟩;walk_at "rd";obtain⟨v1,OO,a1⟩:=iO (L:=[V.int 79,V.int 80,V.int 81,V.int 82,V.int (81+stir hd 92%300)]) (n:=5) rfl (by decide) (stir hd 93);have m3:=zbt (stir hd 92) (show (300:Int)≠0 by decide);have m3':=zbe (stir hd 92) (show (0:Int)<300 by decide);obtain⟨many,rfl,hm1,hm2⟩:∃i:Int,v1=V.int i/\79<=i/\i<=381:=by
    simp only[zaj,za4,or_false] at OO;rcases OO with rfl |rfl |rfl |rfl |rfl<;>exact⟨_,rfl,by lia,by lia⟩
   refine aP (.of ym) a1 ?_;clear OO a1 m3 m3';refine(PQ _ _).mpr (aC fun U9 PR=>?_);clear PQ;have fin:∀(Hz:Hp) (R2:zc9) (zs:List (V×W)),Hz R2=some (.lst (zs.map (·.1)))->(∀pr∈zs,RowW K Hz pr.1 pr.2)->zs≠[]->zs.length<=381->U9 [some (.ref a),some (.int hd),some (.ref R2),x3,some (.int many),none,none] Hz:=by
    intro Hz R2 zs yz hz nz lz;refine(PR _ _).mpr (aC fun Ua YA=>?_);clear PR;walk_at "rd";refine .mk R2 zs rfl (.of yz) hz (by lia) fun H5 s5=>(YA _ _).mpr (aC fun Ub YB=>?_);clear YA;walk_at "rd";simp only[Gy];walk_at "rd";have YC:=s5 _ _ yz;have hz5:∀pr∈zs,RowW K H5 pr.1 pr.2:=fun pr h=>(hz pr h).mono s5;refine⟨⟨_,.of YC⟩,fun D hD=>AU (K:=K) (r:=[]) (fun i=>sv ((zs.map (·.2)).getD i [])) (.of YC) (by rw[zae];lia) hD (fun i x Hc hx sc RR hR=>?_) (fun Hc sc yD=>?_)⟩
    ·rw[zaF] at hx;obtain⟨pr,hc,rfl⟩:=za7.mp hx;obtain⟨l,x,y,z,e,yl,_⟩:=((hz5 pr (zbr hc)).mono sc).text;walk_at "rd";rw[e];refine aP (.of yl) (v:=sv pr.2) (aG (j:=0) rfl) ?_;have:(zs.map (·.2)).getD i []=pr.2:=by rw[zaA,zaF,hc];rfl
     rw[this] at hR;exact hR
    have ew:(zaV (zs.map (·.1)).length).map (fun i=>sv ((zs.map (·.2)).getD i []))=(zs.map (·.2)).map sv:=by
     refine List.ext_getElem (by simp) fun i h1 h2=>?_;rw[zbZ,List.getElem_range,zbZ,zaA,zag (by simpa using h2)];rfl
    rw[ew] at yD;have wl:∀r∈zs.map (·.2),r.length<=5100/\10 ∉ r:=fun r hr=>by
     obtain⟨pr,hp1,rfl⟩:=zaK.mp hr;obtain⟨_,_,_,_,_,_,l1,l2⟩:=(hz pr hp1).text;exact⟨l1,l2⟩
    have fl:(zs.map (·.2)).flatten.length+(zs.map (·.2)).length<=2900000:=by
     have:=Ba (zs.map (·.2)) 5100 fun r hr=>(wl r hr).1;rw[zae] at this ⊢;lia
    refine .mk D _ rfl (.of yD) (fun z=>nz (zbH.mp z)) (fun r hr=>(wl r hr).2) fl fun L H9 s9 y9=>?_;generalize PM.nX (zs.map (·.2))=rr at *;refine(YB _ _).mpr (aC fun Uc YD=>?_);clear YB;walk_at "rd";cases rr with
    |none=>
     rw[if_pos (show Mu none<0 by decide)];intro p9 f9;exact⟨L,p9,[],rfl,rfl,.of (ar.new f9 _ _ _ y9),.of ae,q _⟩
    |some e=>
     rw[if_neg (show ¬Mu (some e)<0 by show ¬((PM.bS e:Nat):Int)<0;lia)];refine(YD _ _).mpr ?_;clear YD;walk_at "rd";simp only[Gy];walk_at "rd";refine⟨_,rfl,by decide,by decide,fun D2 hD2=>?_⟩;refine Ln (n:=14) (r:=[some (V.int (Mu (some e)))]) (fun k=>V.bl (decide (k=PM.bS e))) (by decide) (fun k hk ys R hR=>?_) ?_
     ·walk_at "rd";have:decide ((k:Int)=Mu (some e))=decide (k=PM.bS e):=decide_eq_decide.mpr (by show ((k:Int)=((PM.bS e:Nat):Int))↔_;lia);rw[this];exact hR
     have YE:=ar.new hD2 (.lst ((zaV 14).map fun k=>V.bl (decide (k=PM.bS e)))) _ _ y9;have ec:uU (some e)=((zaV 14).map fun k=>decide (k=PM.bS e)).map V.bl:=by unfold uU;rw[zbL];rfl
     have ed:((zaV 14).map fun k=>V.bl (decide (k=PM.bS e)))=((zaV 14).map fun k=>decide (k=PM.bS e)).map V.bl:=by rw[zbL];rfl
     rw[ec] at YE;refine⟨.lst (((zaV 14).map fun k=>decide (k=PM.bS e)).map Dp.bl),.lst (((zaV 14).map fun k=>decide (k=PM.bS e)).map Dp.bl),Rep.ic.mpr ⟨L,_,rfl,.of YE,BD _⟩,Rep.ic.mpr ⟨D2,_,rfl,.of (by rw[ae,ed]),BD _⟩,?_,?_,?_⟩
     ·cases e<;>decide +kernel
     ·cases e<;>decide +kernel
     ·rw[eqv_refl];exact q _
   have YF:=sm _ _ yq;have YG:∀pr∈qs,RowW K Hm pr.1 pr.2:=fun pr h=>(hq pr h).mono sm;walk_at "rd";refine⟨hd,91,rfl,by decide,by decide,?_⟩;walk_at "rd";refine bu (fun _=>?_) (fun _=>?_)
   ·have q1:0<qs.length:=zcZ.mpr ne;refine⟨R',400,_,rfl,rfl,YF,by decide,by decide,by rw[zae];show qs.length*400<=zdh;lia,fun p1 f1=>?_⟩;rw[show (400:Int).toNat=400 from rfl,Hh];have s1:=ar.new f1 (.lst ((zan 400 qs).flatten.map (·.1)));have y1:(upd Hm p1 (.lst ((zan 400 qs).flatten.map (·.1)))) p1=some (.lst ((zan 400 qs).flatten.map (·.1))):=ae;generalize upd Hm p1 (.lst ((zan 400 qs).flatten.map (·.1)))=Hn at *;refine⟨many,rfl,p1,_,rfl,.of y1,fun p2 f2=>?_⟩;rw[LU _ (by lia),<- List.map_take];have s2:=ar.new f2 (.lst (((zan 400 qs).flatten.take many.toNat).map (·.1)));have lz:((zan 400 qs).flatten.take many.toNat).length=min many.toNat (400*qs.length):=by rw[zbb,len_rep]
    refine fin _ p2 ((zan 400 qs).flatten.take many.toNat) ae (fun pr h=>?_) (fun z=>?_) (by rw[lz];lia)
    ·obtain⟨l,hl1,VT⟩:=List.mem_flatten.mp (List.mem_of_mem_take h);rw[(zbR.mp hl1).2] at VT;exact(YG pr VT).mono (s1.trans s2)
    ·rw[z] at lz;rw[za3] at lz;lia
   ·refine⟨hd,91,rfl,by decide,by decide,?_⟩;walk_at "rd";refine bu (fun _=>?_) (fun _=>fin Hm R' qs YF YG ne (by lia));intro n1 f1;generalize e1:upd Hm n1 _=A1;have t1:=gL e1 f1;have y1:=Nv e1;clear e1;intro l1 f2;generalize e1:upd A1 l1 _=A2;have t2:=gL e1 f2;have y2:=Nv e1;clear e1;intro c1 f3;generalize e1:upd A2 c1 _=A3;have t3:=gL e1 f3;have y3:=Nv e1;clear e1;intro n2 f4;generalize e1:upd A3 n2 _=A4;have t4:=gL e1 f4;have y4:=Nv e1;clear e1;intro l2 f5;generalize e1:upd A4 l2 _=A5;have t5:=gL e1 f5;have y5:=Nv e1;clear e1;intro c2 f6;generalize e1:upd A5 c2 _=A6;have t6:=gL e1 f6;have y6:=Nv e1;clear e1;have g1:RowW K A6 (.ref l1) (zaa "box a 2 0").cps.toList:=DF (n:=n1) (kd:=PM.cQ) (ns:=[[97]]) (by decide +kernel) (t6 _ _ (t5 _ _ (t4 _ _ (t3 _ _ (by rw[y2,jQ];rfl))))) (t6 _ _ (t5 _ _ (t4 _ _ (t3 _ _ (t2 _ _ (by rw[y1,show zaa "a"=S [97] by decide +kernel];rfl))))));have g2:RowW K A6 (.ref l2) (zaa "say a").cps.toList:=DF (n:=n2) (kd:=PM.aT) (ns:=[[97]]) (by decide +kernel) (t6 _ _ (by rw[y5,show zaa "plain"=S PM.aT by decide +kernel];rfl)) (t6 _ _ (t5 _ _ (by rw[y4,show zaa "a"=S [97] by decide +kernel];rfl)));refine⟨c2,many-1,_,rfl,rfl,y6,by lia,by lia,by rw[zau];lia,fun p1 h1=>?_⟩;rw[Hi];generalize e1:upd A6 p1 _=A7;have t7:=gL e1 h1;have y7:=Nv e1;clear e1;refine Bd (t7 _ _ (t6 _ _ (t5 _ _ (t4 _ _ y3)))) y7 (by rw[zau,zbo];lia) fun p2 h2=>?_;generalize e1:upd A7 p2 _=A8;have t8:=gL e1 h2;have y8:=Nv e1;clear e1;refine fin A8 p2 ((.ref l1,(zaa "box a 2 0").cps.toList)::zan (many-1).toNat (.ref l2,(zaa "say a").cps.toList)) (by rw[y8,zaw,List.map_replicate];rfl) (fun pr h=>?_) (by simp) (by rw[zah,zbo];lia);rcases zaj.mp h with rfl |h
    ·exact(g1.mono t7).mono t8
    ·rw[(zbR.mp h).2];exact(g2.mono t7).mono t8
  walk_at "rd";intro p0 f0;refine⟨R,p0,_,rfl,rfl,.of (ar.new f0 _ _ _ yr),.of ae,?_⟩;have YH:=ar.new f0 (.lst []);generalize upd Hx p0 (.lst [])=Hz at *;cases ps with
  |nil=>
   rw[if_pos (show (zce (·.1) ([]:List (V×W))).isEmpty=true from rfl)];intro n fn l fl p1 f1;have sPl:zaa "plain"=S PM.aT:=by decide +kernel
   have sn:=ar.new fn (.lst []);have sl:=ar.new fl (.lst [V.str (zaa "stop"),V.str (zaa "plain"),V.ref n,V.bl true]);have y1:=ae (H:=upd (upd Hz n (.lst [])) l (.lst [V.str (zaa "stop"),V.str (zaa "plain"),V.ref n,V.bl true])) (a:=p1) (o:=.lst [V.ref l]);have s1:=ar.new f1 (.lst [V.ref l]);refine Yz _ p1 [(.ref l,PM.dW)] y1 (fun pr W8=>?_) (by simp) (by simp);rw[zal.mp W8];refine .good l (.one PM.dW) rfl ⟨n,s1 _ _ (by rw[ae,G9,sPl];rfl),s1 _ _ (sl _ _ ae)⟩ ⟨PM.IE,(show PM.dW.length<=60 by decide),(show 10 ∉ PM.dW by decide)⟩
  |cons r0 rs0=>
   rw[if_neg (by simp)];exact Yz _ R (r0::rs0) (YH _ _ yr) (fun pr h=>(hp pr h).mono YH) (by simp) (by lia)
end
end RA
end
section
set_option maxHeartbeats 4000000
namespace RA
open PySem L2
section
variable{P:zdl}{w:zdb}{K:zac}{mg:Str->Option zda}{base:Heap}
theorem all_mk{l:PySem.W.OpenLaw}{h:Heap}{fa:zc9}(X:K.In h)(G:h.Ns zdg mg)(hfa:mg "law"=some (.ref fa))
 {oJ i0 fc ik gA hX kP ff dX eO dg ye n9 lI dY jS gm lJ lK gn jT lL dZ eM iu fk jU fq lN fw fz lO oa gp Hk:zc9}
 {aQ:zc9}
 {cz:zc9} {yY qz:Option zc9} {yZ:Array (Option zda)} {y0 qA qB qC mh qD:zda}
 {bK:zc9} {wu px:Option zc9} {wx:Array (Option zda)} {wz pz pA pB kB pC:zda}
 {bL:zc9} {za qE:Option zc9} {zb:Array (Option zda)} {zc qF qG qH mi qI:zda}
 {bj:zc9}
 {cY:zc9} {zX rF:Option zc9} {zY:Array (Option zda)} {zZ rG rH rJ nI rK:zda}
 {bX:zc9} {sL mj:Option zc9} {sM:Array (Option zda)} {sN ml mn mq g6 mr:zda}
 {bI:zc9} {qJ jV:Option zc9} {qK:Array (Option zda)} {qL jW jX jY fL jZ:zda}
 {bY:zc9} {sO mv:Option zc9} {sP:Array (Option zda)} {sQ mw mx my g7 mz:zda}
 {aN:zc9}
 {aw:zc9}
 {az:zc9}
 {ax:zc9}
 {ay:zc9}
 {ak:zc9}
 {aK:zc9}
 {aX:zc9}
 {aL:zc9}
 {aY:zc9}
 {bE:zc9}
 {bZ:zc9}
 {bF:zc9}
 {bq:zc9}
 {IP:_}
 {IQ:_}
 {fB:zc9} {D9:Option zc9} {Ea:Array (Option zda)} {FX:Nat} {ue:Array zda}
 {zd:_}
 {ze:_}
 {B6:_}
 {wA:_}
 {Eb:_}
 {B7:_}
 {Ec:_}
 {B8:_}
 {Ed:_}
 {c5:zc9} {qM:Array DictEntry} {zf:Nat}
 (OR:FH K "is_of" BE oJ)
 (IS:FH K "is_name" uW i0)
 (Ee:FH K "is_number" qc fc)
 (B9:FH K "expression" oH ik)
 (FY:FH K "names_in" sf gA)
 (Ef:FH K "pieces_of" qd hX)
 (IT:FH K "kind_of" uX kP)
 (FZ:FH K "sum_from" si ff)
 (zg:FH K "product_from" lx dX)
 (Aa:FH K "factor_from" m8 eO)
 (zh:FH K "bracket_from" lA dg)
 (RW:FH K "read" Fw ye)
 (IU:FH K "form_of" uY n9)
 (F0:FH K "box_form" sj lI)
 (vp:FH K "condition_form" iY dY)
 (Eg:FH K "name_from" qf jS)
 (Ab:FH K "number_from" nc gm)
 (F1:FH K "take_row" sk lJ)
 (F2:FH K "take_box" sq lK)
 (Ac:FH K "is_measured" ng gn)
 (Eh:FH K "take_else" qg jT)
 (F3:FH K "take_end" sr lL)
 (vq:FH K "take_statement" iZ dZ)
 (wB:FH K "names_of_form" j7 eM)
 (Ca:FH K "bodies_for" oI iu)
 (zi:FH K "_law_cell_at" lB fk)
 (Ei:FH K "_law_stir" qh jU)
 (zj:FH K "_law_refused" lC fq)
 (F4:FH K "_law_bad" bp lN)
 (zl:FH K "_law_any_box" lD fw)
 (zm:FH K "_law_any_row" lE fz)
 (F5:FH K "_law_due" su lO)
 (IV:FH K "_law_do" uZ oa)
 (Ae:FH K "_law_judged" nh gp)
 (Qb:FH K "law" Mv Hk)
 (MV:zar K zdg "Pieces"=some (some (.ref aQ)))
 (IW:zbG K aQ Str.empty=true)
 (IX:zaO K aQ=true)
 (IY:zbV K aQ=true)
 (IZ:zak K (.ref aQ) "__setattr__"=some (some (.builtin "object.__setattr__")))
 (Af:zak K (.ref aQ) "__init__"=some (some (.ref cz)))
 (Ag:K.lookup cz=some ⟨y0,yY,.func (zaL "__init__" "Pieces.__init__" (cT cL) (bb cL) (aB cL) .none qA qB qC qz mh qD),yZ⟩)
 (Ah:za8 K mh "Pieces.__init__"=true)
 (Ai:zaS K (.ref cz)=true)
 (Aj:zbv K (.ref cz)=true)
 (u9:zb8 K aQ=true)
 (Ja:zaS K (.ref aQ)=true)
 (zo:zak K (.ref aQ) "ahead"=some (some (.ref bK)))
 (zp:K.lookup bK=some ⟨wz,wu,.func (zaL "ahead" "Pieces.ahead" (cT cA) (bb cA) (aB cA) .none pz pA pB px kB pC),wx⟩)
 (zr:za8 K kB "Pieces.ahead"=true)
 (qN:zaS K (.ref bK)=true)
 (zt:zbv K (.ref bK)=true)
 (Ak:zak K (.ref aQ) "take"=some (some (.ref bL)))
 (Al:K.lookup bL=some ⟨zc,za,.func (zaL "take" "Pieces.take" (cT cM) (bb cM) (aB cM) .none qF qG qH qE mi qI),zb⟩)
 (Am:za8 K mi "Pieces.take"=true)
 (rL:zaS K (.ref bL)=true)
 (An:zbv K (.ref bL)=true)
 (d9:zak K (.ref aQ) "pieces"=some none)
 (dy:zak K (.ref aQ) "place"=some none)
 (OS:zar K zdg "Draft"=some (some (.ref bj)))
 (MW:zbG K bj Str.empty=true)
 (MX:zaO K bj=true)
 (MY:zbV K bj=true)
 (MZ:zak K (.ref bj) "__setattr__"=some (some (.builtin "object.__setattr__")))
 (Cb:zak K (.ref bj) "__init__"=some (some (.ref cY)))
 (Cc:K.lookup cY=some ⟨zZ,zX,.func (zaL "__init__" "Draft.__init__" (cT cX) (bb cX) (aB cX) .none rG rH rJ rF nI rK),zY⟩)
 (Ce:za8 K nI "Draft.__init__"=true)
 (Cf:zaS K (.ref cY)=true)
 (Cg:zbv K (.ref cY)=true)
 (yf:zb8 K bj=true)
 (M0:zaS K (.ref bj)=true)
 (uf:zak K (.ref bj) "innermost"=some (some (.ref bX)))
 (ug:K.lookup bX=some ⟨sN,sL,.func (zaL "innermost" "Draft.innermost" (cT bV) (bb bV) (aB bV) .none ml mn mq mj g6 mr),sM⟩)
 (uh:za8 K g6 "Draft.innermost"=true)
 (mX:zaS K (.ref bX)=true)
 (ui:zbv K (.ref bX)=true)
 (q0:zak K (.ref bj) "second_body"=some (some (.ref bI)))
 (rf:K.lookup bI=some ⟨qL,qJ,.func (zaL "second_body" "Draft.second_body" (cT bH) (bb bH) (aB bH) .none jW jX jY jV fL jZ),qK⟩)
 (rg:za8 K fL "Draft.second_body"=true)
 (kG:zaS K (.ref bI)=true)
 (rh:zbv K (.ref bI)=true)
 (uj:zak K (.ref bj) "box_names"=some (some (.ref bY)))
 (uk:K.lookup bY=some ⟨sQ,sO,.func (zaL "box_names" "Draft.box_names" (cT bW) (bb bW) (aB bW) .none mw mx my mv g7 mz),sP⟩)
 (um:za8 K g7 "Draft.box_names"=true)
 (mY:zaS K (.ref bY)=true)
 (uo:zbv K (.ref bY)=true)
 (di:zak K (.ref bj) "boxes"=some none)
 (eR:zak K (.ref bj) "body"=some none)
 (bD:zak K (.ref bj) "nest"=some none)
 (F6:zar K zdg "RowError"=some (some (.ref aN)))
 (Jb:zar K zdg "TooLong"=some (some (.ref aw)))
 (vb:zbf K aw [.type "ValueError",.type "Exception",.type "BaseException",.type "object"] "ValueError.__new__"=true)
 (yh:zao K (.ref aw) (.ref aw)=some true)
 (OT:zar K zdg "NoRow"=some (some (.ref az)))
 (eZ:zbf K az [.type "ValueError",.type "Exception",.type "BaseException",.type "object"] "ValueError.__new__"=true)
 (DJ:zao K (.ref az) (.ref az)=some true)
 (Jc:zar K zdg "NoPlace"=some (some (.ref ax)))
 (og:zbf K ax [.type "ValueError",.type "Exception",.type "BaseException",.type "object"] "ValueError.__new__"=true)
 (yj:zao K (.ref ax) (.ref ax)=some true)
 (Jd:zar K zdg "TooDeep"=some (some (.ref ay)))
 (vd:zbf K ay [.type "ValueError",.type "Exception",.type "BaseException",.type "object"] "ValueError.__new__"=true)
 (yk:zao K (.ref ay) (.ref ay)=some true)
 (Ej:zar K zdg "NoMeasure"=some (some (.ref ak)))
 (qr:zbf K ak [.type "ValueError",.type "Exception",.type "BaseException",.type "object"] "ValueError.__new__"=true)
 (tT:zao K (.ref ak) (.ref ak)=some true)
 (OU:zar K zdg "Twice"=some (some (.ref aK)))
 (BG:zbf K aK [.type "ValueError",.type "Exception",.type "BaseException",.type "object"] "ValueError.__new__"=true)
 (DK:zao K (.ref aK) (.ref aK)=some true)
 (RX:zar K zdg "Full"=some (some (.ref aX)))
 (Fx:zbf K aX [.type "ValueError",.type "Exception",.type "BaseException",.type "object"] "ValueError.__new__"=true)
 (Ho:zao K (.ref aX) (.ref aX)=some true)
 (OV:zar K zdg "NoBox"=some (some (.ref aL)))
 (BH:zbf K aL [.type "ValueError",.type "Exception",.type "BaseException",.type "object"] "ValueError.__new__"=true)
 (DM:zao K (.ref aL) (.ref aL)=some true)
 (RY:zar K zdg "Open"=some (some (.ref aY)))
 (Fy:zbf K aY [.type "ValueError",.type "Exception",.type "BaseException",.type "object"] "ValueError.__new__"=true)
 (Hr:zao K (.ref aY) (.ref aY)=some true)
 (Je:zar K zdg "TooMany"=some (some (.ref bE)))
 (Na:zar K zdg "NoForm"=some (some (.ref bZ)))
 (Jf:zar K zdg "NoneYet"=some (some (.ref bF)))
 (F7:zar K zdg "NoTarget"=some (some (.ref bq)))
 (yu:zao K (.ref az) (.ref aN)=some true)
 (Jg:zaO K az=true)
 (Jh:zak K (.ref az) "__getattribute__"=some (some (.builtin "BaseException.__getattribute__")))
 (Ji:zak K (.ref az) "__getattr__"=some none)
 (Jj:zak K (.ref az) "__class__"=some (some (.builtin "object.__class__")))
 (Jk:zaM K az (.type "object")=some true)
 (Jl:zaM K az (.type "BaseException")=some true)
 (yv:zab K (.ref az) (.type "ValueError")=some true)
 (mT:zab K (.ref az) (.ref aN)=some true)
 (je:zab K (.ref az) (.ref aw)=some false)
 (lP:zab K (.ref az) (.ref az)=some true)
 (jf:zab K (.ref az) (.ref ax)=some false)
 (jg:zab K (.ref az) (.ref ay)=some false)
 (gD:zab K (.ref az) (.ref ak)=some false)
 (lQ:zab K (.ref az) (.ref aK)=some false)
 (nj:zab K (.ref az) (.ref aX)=some false)
 (lS:zab K (.ref az) (.ref aL)=some false)
 (nr:zab K (.ref az) (.ref aY)=some false)
 (jh:zab K (.ref az) (.ref bE)=some false)
 (j8:zab K (.ref az) (.ref bZ)=some false)
 (ji:zab K (.ref az) (.ref bF)=some false)
 (iC:zab K (.ref az) (.ref bq)=some false)
 (sA:zao K (.ref ax) (.ref aN)=some true)
 (Ek:zaO K ax=true)
 (El:zak K (.ref ax) "__getattribute__"=some (some (.builtin "BaseException.__getattribute__")))
 (Em:zak K (.ref ax) "__getattr__"=some none)
 (En:zak K (.ref ax) "__class__"=some (some (.builtin "object.__class__")))
 (Eo:zaM K ax (.type "object")=some true)
 (Ep:zaM K ax (.type "BaseException")=some true)
 (sC:zab K (.ref ax) (.type "ValueError")=some true)
 (kD:zab K (.ref ax) (.ref aN)=some true)
 (gE:zab K (.ref ax) (.ref aw)=some false)
 (jj:zab K (.ref ax) (.ref az)=some false)
 (gF:zab K (.ref ax) (.ref ax)=some true)
 (gG:zab K (.ref ax) (.ref ay)=some false)
 (fC:zab K (.ref ax) (.ref ak)=some false)
 (jk:zab K (.ref ax) (.ref aK)=some false)
 (j9:zab K (.ref ax) (.ref aX)=some false)
 (jl:zab K (.ref ax) (.ref aL)=some false)
 (ka:zab K (.ref ax) (.ref aY)=some false)
 (gH:zab K (.ref ax) (.ref bE)=some false)
 (iD:zab K (.ref ax) (.ref bZ)=some false)
 (gI:zab K (.ref ax) (.ref bF)=some false)
 (fX:zab K (.ref ax) (.ref bq)=some false)
 (sD:zao K (.ref aw) (.ref aN)=some true)
 (Es:zaO K aw=true)
 (Et:zak K (.ref aw) "__getattribute__"=some (some (.builtin "BaseException.__getattribute__")))
 (Eu:zak K (.ref aw) "__getattr__"=some none)
 (Ew:zak K (.ref aw) "__class__"=some (some (.builtin "object.__class__")))
 (Ex:zaM K aw (.type "object")=some true)
 (Ey:zaM K aw (.type "BaseException")=some true)
 (sE:zab K (.ref aw) (.type "ValueError")=some true)
 (kE:zab K (.ref aw) (.ref aN)=some true)
 (gJ:zab K (.ref aw) (.ref aw)=some true)
 (jm:zab K (.ref aw) (.ref az)=some false)
 (gK:zab K (.ref aw) (.ref ax)=some false)
 (gM:zab K (.ref aw) (.ref ay)=some false)
 (fD:zab K (.ref aw) (.ref ak)=some false)
 (jn:zab K (.ref aw) (.ref aK)=some false)
 (kb:zab K (.ref aw) (.ref aX)=some false)
 (jo:zab K (.ref aw) (.ref aL)=some false)
 (kc:zab K (.ref aw) (.ref aY)=some false)
 (gN:zab K (.ref aw) (.ref bE)=some false)
 (iE:zab K (.ref aw) (.ref bZ)=some false)
 (gO:zab K (.ref aw) (.ref bF)=some false)
 (fY:zab K (.ref aw) (.ref bq)=some false)
 (sF:zao K (.ref ay) (.ref aN)=some true)
 (Ez:zaO K ay=true)
 (EA:zak K (.ref ay) "__getattribute__"=some (some (.builtin "BaseException.__getattribute__")))
 (EB:zak K (.ref ay) "__getattr__"=some none)
 (EC:zak K (.ref ay) "__class__"=some (some (.builtin "object.__class__")))
 (ED:zaM K ay (.type "object")=some true)
 (EE:zaM K ay (.type "BaseException")=some true)
 (sG:zab K (.ref ay) (.type "ValueError")=some true)
 (kF:zab K (.ref ay) (.ref aN)=some true)
 (gP:zab K (.ref ay) (.ref aw)=some false)
 (jq:zab K (.ref ay) (.ref az)=some false)
 (gQ:zab K (.ref ay) (.ref ax)=some false)
 (gR:zab K (.ref ay) (.ref ay)=some true)
 (fE:zab K (.ref ay) (.ref ak)=some false)
 (jr:zab K (.ref ay) (.ref aK)=some false)
 (ke:zab K (.ref ay) (.ref aX)=some false)
 (js:zab K (.ref ay) (.ref aL)=some false)
 (kf:zab K (.ref ay) (.ref aY)=some false)
 (gS:zab K (.ref ay) (.ref bE)=some false)
 (iF:zab K (.ref ay) (.ref bZ)=some false)
 (gT:zab K (.ref ay) (.ref bF)=some false)
 (fZ:zab K (.ref ay) (.ref bq)=some false)
 (oO:zao K (.ref ak) (.ref aN)=some true)
 (Ao:zaO K ak=true)
 (Ap:zak K (.ref ak) "__getattribute__"=some (some (.builtin "BaseException.__getattribute__")))
 (Aq:zak K (.ref ak) "__getattr__"=some none)
 (Ar:zak K (.ref ak) "__class__"=some (some (.builtin "object.__class__")))
 (As:zaM K ak (.type "object")=some true)
 (Au:zaM K ak (.type "BaseException")=some true)
 (oP:zab K (.ref ak) (.type "ValueError")=some true)
 (iR:zab K (.ref ak) (.ref aN)=some true)
 (fF:zab K (.ref ak) (.ref aw)=some false)
 (gU:zab K (.ref ak) (.ref az)=some false)
 (fG:zab K (.ref ak) (.ref ax)=some false)
 (fH:zab K (.ref ak) (.ref ay)=some false)
 (eH:zab K (.ref ak) (.ref ak)=some true)
 (gV:zab K (.ref ak) (.ref aK)=some false)
 (iG:zab K (.ref ak) (.ref aX)=some false)
 (gW:zab K (.ref ak) (.ref aL)=some false)
 (iH:zab K (.ref ak) (.ref aY)=some false)
 (fI:zab K (.ref ak) (.ref bE)=some false)
 (f7:zab K (.ref ak) (.ref bZ)=some false)
 (fJ:zab K (.ref ak) (.ref bF)=some false)
 (eT:zab K (.ref ak) (.ref bq)=some false)
 (yw:zao K (.ref aK) (.ref aN)=some true)
 (Jm:zaO K aK=true)
 (Jn:zak K (.ref aK) "__getattribute__"=some (some (.builtin "BaseException.__getattribute__")))
 (Jo:zak K (.ref aK) "__getattr__"=some none)
 (Jp:zak K (.ref aK) "__class__"=some (some (.builtin "object.__class__")))
 (Jq:zaM K aK (.type "object")=some true)
 (Jr:zaM K aK (.type "BaseException")=some true)
 (yy:zab K (.ref aK) (.type "ValueError")=some true)
 (mU:zab K (.ref aK) (.ref aN)=some true)
 (jt:zab K (.ref aK) (.ref aw)=some false)
 (lT:zab K (.ref aK) (.ref az)=some false)
 (ju:zab K (.ref aK) (.ref ax)=some false)
 (jv:zab K (.ref aK) (.ref ay)=some false)
 (gX:zab K (.ref aK) (.ref ak)=some false)
 (lU:zab K (.ref aK) (.ref aK)=some true)
 (nt:zab K (.ref aK) (.ref aX)=some false)
 (lV:zab K (.ref aK) (.ref aL)=some false)
 (nu:zab K (.ref aK) (.ref aY)=some false)
 (jw:zab K (.ref aK) (.ref bE)=some false)
 (kg:zab K (.ref aK) (.ref bZ)=some false)
 (jx:zab K (.ref aK) (.ref bF)=some false)
 (iI:zab K (.ref aK) (.ref bq)=some false)
 (BJ:zao K (.ref aY) (.ref aN)=some true)
 (Nb:zaO K aY=true)
 (Nc:zak K (.ref aY) "__getattribute__"=some (some (.builtin "BaseException.__getattribute__")))
 (Nd:zak K (.ref aY) "__getattr__"=some none)
 (Nf:zak K (.ref aY) "__class__"=some (some (.builtin "object.__class__")))
 (Ng:zaM K aY (.type "object")=some true)
 (Nh:zaM K aY (.type "BaseException")=some true)
 (BK:zab K (.ref aY) (.type "ValueError")=some true)
 (oh:zab K (.ref aY) (.ref aN)=some true)
 (kh:zab K (.ref aY) (.ref aw)=some false)
 (nv:zab K (.ref aY) (.ref az)=some false)
 (ki:zab K (.ref aY) (.ref ax)=some false)
 (kj:zab K (.ref aY) (.ref ay)=some false)
 (iJ:zab K (.ref aY) (.ref ak)=some false)
 (nA:zab K (.ref aY) (.ref aK)=some false)
 (oQ:zab K (.ref aY) (.ref aX)=some false)
 (nB:zab K (.ref aY) (.ref aL)=some false)
 (oS:zab K (.ref aY) (.ref aY)=some true)
 (kl:zab K (.ref aY) (.ref bE)=some false)
 (lW:zab K (.ref aY) (.ref bZ)=some false)
 (km:zab K (.ref aY) (.ref bF)=some false)
 (jy:zab K (.ref aY) (.ref bq)=some false)
 (BL:zao K (.ref aX) (.ref aN)=some true)
 (Ni:zaO K aX=true)
 (Nj:zak K (.ref aX) "__getattribute__"=some (some (.builtin "BaseException.__getattribute__")))
 (Nk:zak K (.ref aX) "__getattr__"=some none)
 (Nl:zak K (.ref aX) "__class__"=some (some (.builtin "object.__class__")))
 (Nm:zaM K aX (.type "object")=some true)
 (Nn:zaM K aX (.type "BaseException")=some true)
 (BM:zab K (.ref aX) (.type "ValueError")=some true)
 (oj:zab K (.ref aX) (.ref aN)=some true)
 (kn:zab K (.ref aX) (.ref aw)=some false)
 (nC:zab K (.ref aX) (.ref az)=some false)
 (kq:zab K (.ref aX) (.ref ax)=some false)
 (kr:zab K (.ref aX) (.ref ay)=some false)
 (iK:zab K (.ref aX) (.ref ak)=some false)
 (nD:zab K (.ref aX) (.ref aK)=some false)
 (oT:zab K (.ref aX) (.ref aX)=some true)
 (nE:zab K (.ref aX) (.ref aL)=some false)
 (oU:zab K (.ref aX) (.ref aY)=some false)
 (ku:zab K (.ref aX) (.ref bE)=some false)
 (lX:zab K (.ref aX) (.ref bZ)=some false)
 (kx:zab K (.ref aX) (.ref bF)=some false)
 (jz:zab K (.ref aX) (.ref bq)=some false)
 (yA:zao K (.ref aL) (.ref aN)=some true)
 (Js:zaO K aL=true)
 (Jt:zak K (.ref aL) "__getattribute__"=some (some (.builtin "BaseException.__getattribute__")))
 (Ju:zak K (.ref aL) "__getattr__"=some none)
 (Jv:zak K (.ref aL) "__class__"=some (some (.builtin "object.__class__")))
 (Jw:zaM K aL (.type "object")=some true)
 (Jx:zaM K aL (.type "BaseException")=some true)
 (yB:zab K (.ref aL) (.type "ValueError")=some true)
 (mV:zab K (.ref aL) (.ref aN)=some true)
 (jA:zab K (.ref aL) (.ref aw)=some false)
 (lY:zab K (.ref aL) (.ref az)=some false)
 (jB:zab K (.ref aL) (.ref ax)=some false)
 (jC:zab K (.ref aL) (.ref ay)=some false)
 (gY:zab K (.ref aL) (.ref ak)=some false)
 (lZ:zab K (.ref aL) (.ref aK)=some false)
 (nF:zab K (.ref aL) (.ref aX)=some false)
 (ma:zab K (.ref aL) (.ref aL)=some true)
 (nG:zab K (.ref aL) (.ref aY)=some false)
 (jD:zab K (.ref aL) (.ref bE)=some false)
 (ky:zab K (.ref aL) (.ref bZ)=some false)
 (jE:zab K (.ref aL) (.ref bF)=some false)
 (iL:zab K (.ref aL) (.ref bq)=some false)
 (Jy:zar K zdg "LETTERS"=some (some (.str "abcdefghijklmnopqrstuvwxyz" IP)))
 (Jz:zar K zdg "FIGURES"=some (some (.str "0123456789" IQ)))
 (F8:zar K zdg "NO_NAMES"=some (some (.ref fB)))
 (F9:K.lookup fB=some ⟨.type "tuple",D9,.seq ue FX,Ea⟩)
 (oV:Vals [.str "box",.str "ask",.str "put",.str "say",.str "if",.str "else",.str "while",.str "must",.str "stop",.str "end"] ue.toList)
 (zu:zar K zdg "MOST_LETTERS"=some (some (.int 8 zd)))
 (zv:zar K zdg "MOST_FIGURES"=some (some (.int 3 ze)))
 (Ci:zar K zdg "MOST_SIGNS"=some (some (.int 60 B6)))
 (wC:zar K zdg "MOST_BRACKETS"=some (some (.int 5 wA)))
 (EF:zar K zdg "MOST_ROWS"=some (some (.int 80 Eb)))
 (Cj:zar K zdg "MOST_BOXES"=some (some (.int 4 B7)))
 (EG:zar K zdg "MOST_DEEP"=some (some (.int 5 Ec)))
 (Ck:zar K zdg "LEAST_SIZE"=some (some (.int 2 B8)))
 (EH:zar K zdg "MOST_SIZE"=some (some (.int 10 Ed)))
 (Av:zar K zdg "WORD_COUNTS"=some (some (.ref c5)))
 (Aw:K.lookup c5=some ⟨.type "dict",none,.dict qM zf, #[]⟩)
 (zw:(c5==sysModules)=false)
 (Ax:Rt l.prog w [(.inr "box",.int 4),(.inr "ask",.int 2),(.inr "put",.int 3),(.inr "say",.int 2),(.inr "must",.int 4),(.inr "if",.int 4),(.inr "else",.int 1),(.inr "while",.int 4),(.inr "end",.int 1),(.inr "stop",.int 1)] qM.toList)
 (me:zar K zdg "len"=some none)
 (BQ:zar K zdg "range"=some none)
 (vU:zar K zdg "int"=some none)
 (Ht:zar K zdg "str"=some none)
 (BR:zar K zdg "tuple"=some none)
 (MB:zar K zdg "all"=some none)
 (MC:zar K zdg "max"=some none)
 (bJ:zar K zdg "isinstance"=some none)
 (qt:zar K zdg "enumerate"=some none)
 (oW:zar K zdg "ValueError"=some none)
 : ∃fd:zdi,(∀(s:zdj) (v:zda),BindsTo s fd ⟨[v],[]⟩ [("script",v)])/\∀base:Heap,K.In base->base.Ns zdg mg->bB l.prog w K mg base kN 66 fa fd ["script"] (GN K):=by
 have e:=hfa.symm.trans (zax X G Qb.1);cases e;obtain⟨n8,kL⟩:=qb X G OR (ps:=["word", "signs"]) fun _ _ _ _ _ _=>Ip fun _ _=>rfl;obtain⟨i3,fT⟩:=qb X G IS (ps:=["word"]) fun _ _ _ _ _ _=>vJ fun _=>rfl;obtain⟨fQ,dH⟩:=qb X G Ee (ps:=["word"]) fun _ _ _ _ _ _=>vJ fun _=>rfl;obtain⟨jG,bR⟩:=qb X G B9 (ps:=["word"]) fun _ _ _ _ _ _=>vJ fun _=>rfl;obtain⟨hV,bC⟩:=qb X G FY (ps:=["e"]) fun _ _ _ _ _ _=>vJ fun _=>rfl;obtain⟨il,hZ⟩:=qb X G Ef (ps:=["word"]) fun _ _ _ _ _ _=>vJ fun _=>rfl;obtain⟨lH,kQ⟩:=qb X G IT (ps:=["sign"]) fun _ _ _ _ _ _=>vJ fun _=>rfl;obtain⟨fh,cV⟩:=qb X G FZ (ps:=["pieces", "depth"]) fun _ _ _ _ _ _=>Ip fun _ _=>rfl;obtain⟨eL,cB⟩:=qb X G zg (ps:=["pieces", "depth"]) fun _ _ _ _ _ _=>Ip fun _ _=>rfl;obtain⟨fj,cN⟩:=qb X G Aa (ps:=["pieces", "depth"]) fun _ _ _ _ _ _=>Ip fun _ _=>rfl;obtain⟨dv,dh⟩:=qb X G zh (ps:=["pieces", "depth"]) fun _ _ _ _ _ _=>Ip fun _ _=>rfl;obtain⟨wR,u6⟩:=qb X G RW (ps:=["text"]) fun _ _ _ _ _ _=>vJ fun _=>rfl;obtain⟨oK,kR⟩:=qb X G IU (ps:=["row"]) fun _ _ _ _ _ _=>vJ fun _=>rfl;obtain⟨mI,i4⟩:=qb X G F0 (ps:=["words"]) fun _ _ _ _ _ _=>vJ fun _=>rfl;obtain⟨eV,c7⟩:=qb X G vp (ps:=["words"]) fun _ _ _ _ _ _=>vJ fun _=>rfl;obtain⟨kI,cD⟩:=qb X G Eg (ps:=["word"]) fun _ _ _ _ _ _=>vJ fun _=>rfl;obtain⟨ip,cO⟩:=qb X G Ab (ps:=["word"]) fun _ _ _ _ _ _=>vJ fun _=>rfl;obtain⟨mJ,i5⟩:=qb X G F1 (ps:=["draft", "number", "form"]) fun _ _ _ _ _ _=>Wr fun _ _ _=>rfl;obtain⟨mK,ja⟩:=qb X G F2 (ps:=["draft", "number", "box"]) fun _ _ _ _ _ _=>Wr fun _ _ _=>rfl;obtain⟨iq,eP⟩:=qb X G Ac (ps:=["size", "first"]) fun _ _ _ _ _ _=>Ip fun _ _=>rfl;obtain⟨kJ,ib⟩:=qb X G Eh (ps:=["draft", "number"]) fun _ _ _ _ _ _=>Ip fun _ _=>rfl;obtain⟨mL,jb⟩:=qb X G F3 (ps:=["draft", "number"]) fun _ _ _ _ _ _=>Ip fun _ _=>rfl;obtain⟨eW,c8⟩:=qb X G vq (ps:=["draft", "number", "form"]) fun _ _ _ _ _ _=>Wr fun _ _ _=>rfl;obtain⟨fS,dw⟩:=qb X G wB (ps:=["form"]) fun _ _ _ _ _ _=>vJ fun _=>rfl;obtain⟨jH,fU⟩:=qb X G Ca (ps:=["word"]) fun _ _ _ _ _ _=>vJ fun _=>rfl;obtain⟨gv,d0⟩:=qb X G zi (ps:=["script", "k"]) fun _ _ _ _ _ _=>Ip fun _ _=>rfl;obtain⟨kK,aZ⟩:=qb X G Ei (ps:=["cell", "k"]) fun _ _ _ _ _ _=>Ip fun _ _=>rfl;obtain⟨gw,d4⟩:=qb X G zj (ps:=["rows"]) fun _ _ _ _ _ _=>vJ fun _=>rfl;obtain⟨mM,jc⟩:=qb X G F4 (ps:=["cell"]) fun _ _ _ _ _ _=>vJ fun _=>rfl;obtain⟨gx,d6⟩:=qb X G zl (ps:=["number"]) fun _ _ _ _ _ _=>vJ fun _=>rfl;obtain⟨gy,d7⟩:=qb X G zm (ps:=["cell"]) fun _ _ _ _ _ _=>vJ fun _=>rfl;obtain⟨mO,jd⟩:=qb X G F5 (ps:=["state", "row"]) fun _ _ _ _ _ _=>Ip fun _ _=>rfl;obtain⟨oM,kS⟩:=qb X G IV (ps:=["state", "row"]) fun _ _ _ _ _ _=>Ip fun _ _=>rfl;obtain⟨iw,eQ⟩:=qb X G Ae (ps:=["rows"]) fun _ _ _ _ _ _=>vJ fun _=>rfl;obtain⟨u5,Hl⟩:=qb X G Qb (ps:=["script"]) fun _ _ _ _ _ _=>vJ fun _=>rfl;have jI:=pT (st:=cL) Ag Ah Ai;have Ay:=jI.binds (ps:=["self", "word"]) fun _ _ _ _ _ _=>Ip fun _ _=>rfl;have iz:=pT (st:=cA) zp zr qN;have zx:=iz.binds (ps:=["self"]) fun _ _ _ _ _ _=>vJ fun _=>rfl;have jJ:=pT (st:=cM) Al Am rL;have Az:=jJ.binds (ps:=["self"]) fun _ _ _ _ _ _=>vJ fun _=>rfl;have kM:=pT (st:=cX) Cc Ce Cf;have Cm:=kM.binds (ps:=["self"]) fun _ _ _ _ _ _=>vJ fun _=>rfl;have eX:=pT (st:=bV) ug uh mX;have uq:=eX.binds (ps:=["self"]) fun _ _ _ _ _ _=>vJ fun _=>rfl;have dM:=pT (st:=bH) rf rg kG;have rj:=dM.binds (ps:=["self"]) fun _ _ _ _ _ _=>vJ fun _=>rfl;have eY:=pT (st:=bW) uk um mY;have ur:=eY.binds (ps:=["self"]) fun _ _ _ _ _ _=>vJ fun _=>rfl
 let t:Ad:=⟨oJ,
  n8,
  i0,
  i3,
  fc,
  fQ,
  ik,
  jG,
  gA,
  hV,
  hX,
  il,
  kP,
  lH,
  ff,
  fh,
  dX,
  eL,
  eO,
  fj,
  dg,
  dv,
  ye,
  wR,
  n9,
  oK,
  lI,
  mI,
  dY,
  eV,
  jS,
  kI,
  gm,
  ip,
  lJ,
  mJ,
  lK,
  mK,
  gn,
  iq,
  jT,
  kJ,
  lL,
  mL,
  dZ,
  eW,
  eM,
  fS,
  iu,
  jH,
  fk,
  gv,
  jU,
  kK,
  fq,
  gw,
  lN,
  mM,
  fw,
  gx,
  fz,
  gy,
  lO,
  mO,
  oa,
  oM,
  gp,
  iw,
  fa,
  u5,
  cz,
  zaL "__init__" "Pieces.__init__" (cT cL) (bb cL) (aB cL) .none qA qB qC qz mh qD,
  bK,
  zaL "ahead" "Pieces.ahead" (cT cA) (bb cA) (aB cA) .none pz pA pB px kB pC,
  bL,
  zaL "take" "Pieces.take" (cT cM) (bb cM) (aB cM) .none qF qG qH qE mi qI,
  cY,
  zaL "__init__" "Draft.__init__" (cT cX) (bb cX) (aB cX) .none rG rH rJ rF nI rK,
  bX,
  zaL "innermost" "Draft.innermost" (cT bV) (bb bV) (aB bV) .none ml mn mq mj g6 mr,
  bI,
  zaL "second_body" "Draft.second_body" (cT bH) (bb bH) (aB bH) .none jW jX jY jV fL jZ,
  bY,
  zaL "box_names" "Draft.box_names" (cT bW) (bb bW) (aB bW) .none mw mx my mv g7 mz,
  aQ,
  bj,
  aN,
  aw,
  az,
  ax,
  ay,
  ak,
  aK,
  aX,
  aL,
  aY,
  bE,
  bZ,
  bF,
  bq,
  fB,
  c5⟩
 have T:Tx K mg t:=⟨kL,
  fT,
  dH,
  bR,
  bC,
  hZ,
  kQ,
  cV,
  cB,
  cN,
  dh,
  u6,
  kR,
  i4,
  c7,
  cD,
  cO,
  i5,
  ja,
  eP,
  ib,
  jb,
  c8,
  dw,
  fU,
  d0,
  aZ,
  d4,
  jc,
  d6,
  d7,
  jd,
  kS,
  eQ,
  Hl,
  jI,
  Ay,
  iz,
  zx,
  ⟨zo,zt,qN⟩,
  jJ,
  Az,
  ⟨Ak,An,rL⟩,
  kM,
  Cm,
  eX,
  uq,
  ⟨uf,ui,mX⟩,
  dM,
  rj,
  ⟨q0,rh,kG⟩,
  eY,
  ur,
  ⟨uj,uo,mY⟩,
  ⟨IW,IX,IY,IZ⟩,
  zax X G MV,
  ⟨u9,Af,Aj,Ja⟩,
  d9,
  dy,
  ⟨MW,MX,MY,MZ⟩,
  zax X G OS,
  ⟨yf,Cb,Cg,M0⟩,
  di,
  eR,
  bD,
  zax X G F6,
  ⟨vb⟩,
  yh,
  zax X G Jb,
  ⟨eZ⟩,
  DJ,
  zax X G OT,
  ⟨og⟩,
  yj,
  zax X G Jc,
  ⟨vd⟩,
  yk,
  zax X G Jd,
  ⟨qr⟩,
  tT,
  zax X G Ej,
  ⟨BG⟩,
  DK,
  zax X G OU,
  ⟨Fx⟩,
  Ho,
  zax X G RX,
  ⟨BH⟩,
  DM,
  zax X G OV,
  ⟨Fy⟩,
  Hr,
  zax X G RY,
  zax X G Je,
  zax X G Na,
  zax X G Jf,
  zax X G F7,
  yu,
  ⟨Jg,Jh,Ji,Jj,Jk,Jl⟩,
  yv,
  mT,
  je,
  lP,
  jf,
  jg,
  gD,
  lQ,
  nj,
  lS,
  nr,
  jh,
  j8,
  ji,
  iC,
  sA,
  ⟨Ek,El,Em,En,Eo,Ep⟩,
  sC,
  kD,
  gE,
  jj,
  gF,
  gG,
  fC,
  jk,
  j9,
  jl,
  ka,
  gH,
  iD,
  gI,
  fX,
  sD,
  ⟨Es,Et,Eu,Ew,Ex,Ey⟩,
  sE,
  kE,
  gJ,
  jm,
  gK,
  gM,
  fD,
  jn,
  kb,
  jo,
  kc,
  gN,
  iE,
  gO,
  fY,
  sF,
  ⟨Ez,EA,EB,EC,ED,EE⟩,
  sG,
  kF,
  gP,
  jq,
  gQ,
  gR,
  fE,
  jr,
  ke,
  js,
  kf,
  gS,
  iF,
  gT,
  fZ,
  oO,
  ⟨Ao,Ap,Aq,Ar,As,Au⟩,
  oP,
  iR,
  fF,
  gU,
  fG,
  fH,
  eH,
  gV,
  iG,
  gW,
  iH,
  fI,
  f7,
  fJ,
  eT,
  yw,
  ⟨Jm,Jn,Jo,Jp,Jq,Jr⟩,
  yy,
  mU,
  jt,
  lT,
  ju,
  jv,
  gX,
  lU,
  nt,
  lV,
  nu,
  jw,
  kg,
  jx,
  iI,
  BJ,
  ⟨Nb,Nc,Nd,Nf,Ng,Nh⟩,
  BK,
  oh,
  kh,
  nv,
  ki,
  kj,
  iJ,
  nA,
  oQ,
  nB,
  oS,
  kl,
  lW,
  km,
  jy,
  BL,
  ⟨Ni,Nj,Nk,Nl,Nm,Nn⟩,
  BM,
  oj,
  kn,
  nC,
  kq,
  kr,
  iK,
  nD,
  oT,
  nE,
  oU,
  ku,
  lX,
  kx,
  jz,
  yA,
  ⟨Js,Jt,Ju,Jv,Jw,Jx⟩,
  yB,
  mV,
  jA,
  lY,
  jB,
  jC,
  gY,
  lZ,
  nF,
  ma,
  nG,
  jD,
  ky,
  jE,
  iL,
  ⟨_,zax X G Jy,_,rfl⟩,
  ⟨_,zax X G Jz,_,rfl⟩,
  zax X G F8,
  fun _=>.inr ⟨_,_,_,F9,rfl,rfl,by have:=oV.length;simp only[zah,za3,zbN] at this;rw[<- this];decide,oV⟩,
  ⟨_,zax X G zu,_,rfl⟩,
  ⟨_,zax X G zv,_,rfl⟩,
  ⟨_,zax X G Ci,_,rfl⟩,
  ⟨_,zax X G wC,_,rfl⟩,
  ⟨_,zax X G EF,_,rfl⟩,
  ⟨_,zax X G Cj,_,rfl⟩,
  ⟨_,zax X G EG,_,rfl⟩,
  ⟨_,zax X G Ck,_,rfl⟩,
  ⟨_,zax X G EH,_,rfl⟩,
  zax X G Av,
  zaX X G me,
  zaX X G BQ,
  zaX X G vU,
  zaX X G Ht,
  zaX X G BR,
  zaX X G MB,
  zaX X G MC,
  zaX X G bJ,
  zaX X G qt,
  zaX X G oW⟩
 have CDD:Cd l.prog w K t:=⟨Sb.mk Aw zw Ax (by show List.Nodup ([.inr "box",.inr "ask",.inr "put",.inr "say",.inr "must",.inr "if",.inr "else",.inr "while",.inr "end",.inr "stop"]:List Key);decide +kernel) (by show 10<=zdh;decide)⟩
 obtain⟨_,_,_,_,_,_,_,_,_,z,_⟩:=Hl.F.ex;exact⟨t.u5,fun s v=>by rw[show t.u5=_ from z];exact .of_eq rfl,fun base _ _=>RU T CDD⟩
theorem walk{l:PySem.W.OpenLaw}{q:zdl}{loose:List Str}{XP:(Str->Option zda)->Heap->Prop}{YP:zdb->Heap->Prop}{d:DefRec}{K:Params->zac}(hn:l.most=some 63)(S2:d.params.defaults=[])
 (hY:∀(w:zdb) (h:Heap),YP w h->(K w.params).In h)
 (F:∀(w:zdb) (mg:Str->Option zda) (fa:zc9) (h:Heap),(K w.params).In h->h.Ns zdg mg->mg d.name=some (.ref fa)->
  ∃fd:zdi,(∀(s:zdj) (u:zda),BindsTo s fd ⟨[u],[]⟩ [("script",u)])/\∀base:Heap,(K w.params).In base->base.Ns zdg mg->bB l.prog w (K w.params) mg base kN 66 fa fd ["script"] (GN (K w.params))) :
 PySem.W.WalkO q loose XP YP l.row.toRowW d [] (fun f vs=>PySem.call f vs):=
 L2.NU (n:=63) (k:=66) (x:="script") (CX:=fun _=>kN) (sp:=fun w=>GN (K w.params)) hn (by decide) S2 ⟨rfl,by decide,by decide⟩ hY F (fun _ _ a ns hl _ hS=>⟨a,ns,rfl,hS,hl,fun _=>rfl⟩) fun _ _ _ _ _ z=>z
end
end RA
end
namespace PySem.W.Fast
theorem tw8364274933672997167:True:=trivial
theorem tw14206248508795629545:True:=trivial
theorem tw3288577918720902468:True:=trivial
theorem tw8073202307043756625:True:=trivial
theorem tw15755606550407916079:True:=trivial
theorem tw12059864949414268668:True:=trivial
theorem tw262810772507602595:True:=trivial
theorem tw152824202207137095:True:=trivial
theorem tw11262047084129449093:True:=trivial
theorem tw3444645383039830525:True:=trivial
theorem tw16758921314560346420:True:=trivial
theorem tw10674888116463861212:True:=trivial
theorem tw3277192809048992662:True:=trivial
theorem tw12965264201616147422:True:=trivial
theorem tw14370281028094804091:True:=trivial
theorem tw15903152095156335749:True:=trivial
theorem tw9896374562527365113:True:=trivial
theorem tw10207173101630582627:True:=trivial
theorem tw746971704174646065:True:=trivial
theorem tw6285746170959725042:True:=trivial
theorem tw7721606528623291899:True:=trivial
theorem tw4912667625864180182:True:=trivial
theorem tw370521630486142181:True:=trivial
theorem tw13761193936568239251:True:=trivial
theorem tw13183254188823504637:True:=trivial
theorem tw11531997693766803477:True:=trivial
theorem tw15366389215225966294:True:=trivial
theorem tw13095431897071286943:True:=trivial
theorem tw9085483912176967064:True:=trivial
theorem tw18085630543281561839:True:=trivial
theorem tw3380714162943027590:True:=trivial
theorem tw14191331775755656534:True:=trivial
theorem tw11344200307251302961:True:=trivial
theorem tw9092968727885373274:True:=trivial
theorem tw7300674527207968303:True:=trivial
theorem tw6224356450265809837:True:=trivial
theorem tw5363324219403303338:True:=trivial
theorem tw18394237515935979155:True:=trivial
theorem tw806649471532879645:True:=trivial
theorem tw5321925859003338421:True:=trivial
theorem tw14624945786696351626:True:=trivial
theorem tw5953703519072573211:True:=trivial
theorem tw799388374487955230:True:=trivial
theorem tw8015223657381669502:True:=trivial
theorem tw12399755563368802665:True:=trivial
theorem tw16584738193171487329:True:=trivial
theorem tw7052271902472846509:True:=trivial
theorem tw1189268284547610692:True:=trivial
theorem tw10563542756507838532:True:=trivial
theorem tw12845885475061806417:True:=trivial
theorem tw15527215094660243511:True:=trivial
theorem tw16305679109440738999:True:=trivial
theorem tw1671658132836454016:True:=trivial
theorem tw660798229051602041:True:=trivial
theorem tw17699247927345440154:True:=trivial
theorem tw4268064463753697546:True:=trivial
theorem tw17126410227449271767:True:=trivial
theorem tw9468717848201959210:True:=trivial
theorem tw15692888318205128561:True:=trivial
theorem tw1814953718189390009:True:=trivial
theorem tw8675703510353366144:True:=trivial
theorem tw9829005789746014464:True:=trivial
theorem tw17952922218713340913:True:=trivial
theorem tw11412386877644138486:True:=trivial
theorem tw14041157324443632999:True:=trivial
theorem tw14485072347305225970:True:=trivial
theorem tw13946597522201976410:True:=trivial
theorem tw16062695316832761851:True:=trivial
theorem tw1595740258840427484:True:=trivial
theorem tw8187099976246859942:True:=trivial
theorem tw1792776326972467099:True:=trivial
theorem tw15453368361082414678:True:=trivial
theorem tw2734357478576072941:True:=trivial
theorem tw12685966845314168455:True:=trivial
theorem tw3378947774592129103:True:=trivial
theorem tw2294807649410828934:True:=trivial
theorem tw1587471938106603340:True:=trivial
theorem tw524724756990041421:True:=trivial
theorem tw10366962189539538679:True:=trivial
theorem tw6954313117878891126:True:=trivial
theorem tw12542024938575645685:True:=trivial
theorem tw17804753001204128613:True:=trivial
theorem tw8103189755146891455:True:=trivial
theorem tw10158221737034791744:True:=trivial
theorem tw3241656801300737660:True:=trivial
theorem tw1531111130930838653:True:=trivial
theorem tw659680764203658395:True:=trivial
theorem tw8277733865012364218:True:=trivial
theorem tw1803252028265255805:True:=trivial
theorem tw8428374997892854714:True:=trivial
theorem tw12942869653741774430:True:=trivial
theorem tw12123720465911564673:True:=trivial
theorem tw9705052264119568698:True:=trivial
theorem tw9115258048695874825:True:=trivial
theorem tw12938229066543402821:True:=trivial
theorem tw4955007668415522347:True:=trivial
theorem tw7885925363201866165:True:=trivial
theorem tw15513767591980394085:True:=trivial
theorem tw9711344453568225187:True:=trivial
theorem tw9953053635960874758:True:=trivial
theorem tw3743022572238086648:True:=trivial
theorem tw17195686308888704593:True:=trivial
theorem tw2358531226985827937:True:=trivial
theorem tw9832347288587809869:True:=trivial
theorem tw17461489223131710516:True:=trivial
theorem tw14773132773273056573:True:=trivial
theorem tw11647275033951233302:True:=trivial
theorem tw10992241971793058010:True:=trivial
theorem tw1547630274425966396:True:=trivial
theorem tw16702521827031281609:True:=trivial
theorem tw3874531410196997527:True:=trivial
theorem tw13008473731970211289:True:=trivial
theorem tw5789495881251618858:True:=trivial
theorem tw18026757320519000314:True:=trivial
theorem tw7954868402975774114:True:=trivial
theorem tw13146524166105475648:True:=trivial
theorem tw8412268752064720344:True:=trivial
theorem tw1404378099418732565:True:=trivial
theorem tw13410322156285213128:True:=trivial
theorem tw1798850020553479074:True:=trivial
theorem tw2274896529523331169:True:=trivial
theorem tw3147829474058655557:True:=trivial
theorem tw12556902917115986511:True:=trivial
theorem tw8668415840605584352:True:=trivial
theorem tw2649246211208731412:True:=trivial
theorem tw2542961232518724971:True:=trivial
theorem tw1977045596599789780:True:=trivial
theorem tw2012835031267033740:True:=trivial
theorem tw1997499638801041726:True:=trivial
theorem tw15593467255106241010:True:=trivial
theorem tw887572642989790619:True:=trivial
theorem tw2450819740256533379:True:=trivial
theorem tw11669404620461121293:True:=trivial
theorem tw7291368448065915675:True:=trivial
theorem tw9273297525775465850:True:=trivial
theorem tw12724936571701569228:True:=trivial
theorem tw7619997332916400805:True:=trivial
theorem tw583172356749093034:True:=trivial
theorem tw12281765832701271484:True:=trivial
theorem tw3155137990167695043:True:=trivial
theorem tw18254268310031336255:True:=trivial
theorem tw5685639455061984383:True:=trivial
theorem tw3263446309151935365:True:=trivial
theorem tw11766378994743165175:True:=trivial
theorem tw12509924364173639445:True:=trivial
theorem tw12388373995074584102:True:=trivial
theorem tw6670024889133973017:True:=trivial
theorem tw16865495441939838023:True:=trivial
theorem tw16805602417493963662:True:=trivial
theorem tw841044095711036586:True:=trivial
theorem tw696629810804066641:True:=trivial
theorem tw5451663428237286474:True:=trivial
theorem tw4211170372434262:True:=trivial
theorem tw17925475264793808812:True:=trivial
theorem tw12639496094863006109:True:=trivial
theorem tw7689453607416654239:True:=trivial
theorem tw10508082336259381459:True:=trivial
theorem tw5892881675646843389:True:=trivial
theorem tw7396779621151229660:True:=trivial
theorem tw7192383400956051673:True:=trivial
theorem tw12333579426084322355:True:=trivial
theorem tw5828839670924978874:True:=trivial
theorem tw15710756119396744893:True:=trivial
theorem tw6729539088296084212:True:=trivial
theorem tw5962221458427226283:True:=trivial
theorem tw2997667675035739374:True:=trivial
theorem tw1131131182380025091:True:=trivial
theorem tw15052973355012530682:True:=trivial
theorem tw14903086214469487668:True:=trivial
theorem tw8299844594374377835:True:=trivial
theorem tw11417019730641414492:True:=trivial
theorem tw11075335688361310284:True:=trivial
theorem tw11347537186619107283:True:=trivial
theorem tw3957266411942246826:True:=trivial
theorem tw10147591526136096492:True:=trivial
theorem tw1145352556280829390:True:=trivial
theorem tw18368374434956705210:True:=trivial
theorem tw381034997750455263:True:=trivial
theorem tw9276718751803839796:True:=trivial
theorem tw2917702689324602586:True:=trivial
theorem tw13275993459611390760:True:=trivial
theorem tw16310568284658261177:True:=trivial
theorem tw564341714844117560:True:=trivial
theorem tw6704151300373137033:True:=trivial
theorem tw10629054990983001261:True:=trivial
theorem tw5648082884174478416:True:=trivial
theorem tw16060343099252990708:True:=trivial
theorem tw12292567888752160676:True:=trivial
theorem tw15630815090554347584:True:=trivial
theorem tw4523670316411027780:True:=trivial
theorem tw1173815841526831101:True:=trivial
theorem tw17023867852906031978:True:=trivial
theorem tw13268784723735583655:True:=trivial
theorem tw15298123513596099530:True:=trivial
theorem tw17545453917205436932:True:=trivial
theorem tw1958269641220155246:True:=trivial
theorem tw9239656832865267968:True:=trivial
theorem tw17917531663110254028:True:=trivial
theorem tw5472234251941173610:True:=trivial
theorem tw17372976340127011323:True:=trivial
theorem tw7407561201674019622:True:=trivial
theorem tw9098356402854312638:True:=trivial
theorem tw7197901957932150445:True:=trivial
theorem tw11340507335093191592:True:=trivial
theorem tw97410739552006196:True:=trivial
theorem tw7684797292810832917:True:=trivial
theorem tw17727574307683793143:True:=trivial
theorem tw5037115534119564517:True:=trivial
theorem tw12199779322203837920:True:=trivial
theorem tw9711964725258729389:True:=trivial
theorem tw3675943948802773339:True:=trivial
theorem tw13332908758975987682:True:=trivial
theorem tw6419014883304706025:True:=trivial
theorem tw15067879977955196138:True:=trivial
theorem tw2108661683877481443:True:=trivial
theorem tw11689824601000126246:True:=trivial
theorem tw16213178498033400180:True:=trivial
theorem tw9322465775535527523:True:=trivial
theorem tw9222555841415566111:True:=trivial
theorem tw7613286682972512244:True:=trivial
end PySem.W.Fast
end
open PySem PySem.W PyProof.Rows
set_option maxRecDepth 100000 in
set_option maxHeartbeats 0 in
theorem PySem.Challenge.cw_everyrow_k09_faults_together_holds : PySem.Challenge.rw_everyrow_k09_faults_together.Holds := by
 w_on; o_law; k_head; (case hw=>w_witness2)
 k_fill
 refine RA.walk (l:=PySem.Challenge.rw_everyrow_k09_faults_together) rfl rfl (fun w h Y=>PySem.W.kIn_of Y) ?F
 case F=>
   intro w mg fa h KX G S3
   refine' RA.all_mk KX G S3 ?_ ?_ ?_ ?_ ?_ ?_ ?_ ?_ ?_ ?_ ?_ ?_ ?_ ?_ ?_ ?_ ?_ ?_ ?_ ?_ ?_ ?_ ?_ ?_ ?_ ?_ ?_ ?_ ?_ ?_ ?_ ?_ ?_ ?_ ?_ ?_ ?_ ?_ ?_ ?_ ?_ ?_ ?_ ?_ ?_ ?_ ?_ ?_ ?_ ?_ ?_ ?_ ?_ ?_ ?_ ?_ ?_ ?_ ?_ ?_ ?_ ?_ ?_ ?_ ?_ ?_ ?_ ?_ ?_ ?_ ?_ ?_ ?_ ?_ ?_ ?_ ?_ ?_ ?_ ?_ ?_ ?_ ?_ ?_ ?_ ?_ ?_ ?_ ?_ ?_ ?_ ?_ ?_ ?_ ?_ ?_ ?_ ?_ ?_ ?_ ?_ ?_ ?_ ?_ ?_ ?_ ?_ ?_ ?_ ?_ ?_ ?_ ?_ ?_ ?_ ?_ ?_ ?_ ?_ ?_ ?_ ?_ ?_ ?_ ?_ ?_ ?_ ?_ ?_ ?_ ?_ ?_ ?_ ?_ ?_ ?_ ?_ ?_ ?_ ?_ ?_ ?_ ?_ ?_ ?_ ?_ ?_ ?_ ?_ ?_ ?_ ?_ ?_ ?_ ?_ ?_ ?_ ?_ ?_ ?_ ?_ ?_ ?_ ?_ ?_ ?_ ?_ ?_ ?_ ?_ ?_ ?_ ?_ ?_ ?_ ?_ ?_ ?_ ?_ ?_ ?_ ?_ ?_ ?_ ?_ ?_ ?_ ?_ ?_ ?_ ?_ ?_ ?_ ?_ ?_ ?_ ?_ ?_ ?_ ?_ ?_ ?_ ?_ ?_ ?_ ?_ ?_ ?_ ?_ ?_ ?_ ?_ ?_ ?_ ?_ ?_ ?_ ?_ ?_ ?_ ?_ ?_ ?_ ?_ ?_ ?_ ?_ ?_ ?_ ?_ ?_ ?_ ?_ ?_ ?_ ?_ ?_ ?_ ?_ ?_ ?_ ?_ ?_ ?_ ?_ ?_ ?_ ?_ ?_ ?_ ?_ ?_ ?_ ?_ ?_ ?_ ?_ ?_ ?_ ?_ ?_ ?_ ?_ ?_ ?_ ?_ ?_ ?_ ?_ ?_ ?_ ?_ ?_ ?_ ?_ ?_ ?_ ?_ ?_ ?_ ?_ ?_ ?_ ?_ ?_ ?_ ?_ ?_ ?_ ?_ ?_ ?_ ?_ ?_ ?_ ?_ ?_ ?_ ?_ ?_ ?_ ?_ ?_ ?_ ?_ ?_ ?_ ?_ ?_ ?_ ?_ ?_ ?_ ?_ ?_ ?_ ?_ ?_ ?_ ?_ ?_ ?_ ?_ ?_ ?_ ?_ ?_ ?_ ?_ ?_ ?_ ?_ ?_ ?_ ?_ ?_ ?_ ?_ ?_ ?_ ?_ ?_ ?_ ?_ ?_ ?_ ?_
   rotate_left 140
   iterate 35 (refine' L2.FH.of ?a ?l ?c ?k; (case a=>k_is); (case l=>k_is); (case c=>k_is); (case k=>k_is))
   iterate 56 (k_is)
   iterate 1 (k_exc)
   iterate 1 (kts_exm)
   iterate 1 (k_is)
   iterate 1 (k_exc)
   iterate 1 (kts_exm)
   iterate 1 (k_is)
   iterate 1 (k_exc)
   iterate 1 (kts_exm)
   iterate 1 (k_is)
   iterate 1 (k_exc)
   iterate 1 (kts_exm)
   iterate 1 (k_is)
   iterate 1 (k_exc)
   iterate 1 (kts_exm)
   iterate 1 (k_is)
   iterate 1 (k_exc)
   iterate 1 (kts_exm)
   iterate 1 (k_is)
   iterate 1 (k_exc)
   iterate 1 (kts_exm)
   iterate 1 (k_is)
   iterate 1 (k_exc)
   iterate 1 (kts_exm)
   iterate 1 (k_is)
   iterate 1 (k_exc)
   iterate 1 (kts_exm)
   iterate 4 (k_is)
   iterate 1 (kts_exm)
   iterate 6 (k_is)
   iterate 15 (kit_is)
   iterate 1 (kts_exm)
   iterate 6 (k_is)
   iterate 15 (kit_is)
   iterate 1 (kts_exm)
   iterate 6 (k_is)
   iterate 15 (kit_is)
   iterate 1 (kts_exm)
   iterate 6 (k_is)
   iterate 15 (kit_is)
   iterate 1 (kts_exm)
   iterate 6 (k_is)
   iterate 15 (kit_is)
   iterate 1 (kts_exm)
   iterate 6 (k_is)
   iterate 15 (kit_is)
   iterate 1 (kts_exm)
   iterate 6 (k_is)
   iterate 15 (kit_is)
   iterate 1 (kts_exm)
   iterate 6 (k_is)
   iterate 15 (kit_is)
   iterate 1 (kts_exm)
   iterate 6 (k_is)
   iterate 15 (kit_is)
   iterate 4 (k_is)
   iterate 1 (exact .cons ⟨_,rfl⟩ (.cons ⟨_,rfl⟩ (.cons ⟨_,rfl⟩ (.cons ⟨_,rfl⟩ (.cons ⟨_,rfl⟩ (.cons ⟨_,rfl⟩ (.cons ⟨_,rfl⟩ (.cons ⟨_,rfl⟩ (.cons ⟨_,rfl⟩ (.cons ⟨_,rfl⟩ (.nil)))))))))))
   iterate 11 (k_is)
   iterate 1 (rfl)
   iterate 1 (exact .cons (by rfl) ⟨_,rfl⟩ ⟨_,rfl⟩ (.cons (by rfl) ⟨_,rfl⟩ ⟨_,rfl⟩ (.cons (by rfl) ⟨_,rfl⟩ ⟨_,rfl⟩ (.cons (by rfl) ⟨_,rfl⟩ ⟨_,rfl⟩ (.cons (by rfl) ⟨_,rfl⟩ ⟨_,rfl⟩ (.cons (by rfl) ⟨_,rfl⟩ ⟨_,rfl⟩ (.cons (by rfl) ⟨_,rfl⟩ ⟨_,rfl⟩ (.cons (by rfl) ⟨_,rfl⟩ ⟨_,rfl⟩ (.cons (by rfl) ⟨_,rfl⟩ ⟨_,rfl⟩ (.cons (by rfl) ⟨_,rfl⟩ ⟨_,rfl⟩ (.nil)))))))))))
   iterate 10 (k_is)
