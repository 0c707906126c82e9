import PyProof.Rows.All
import Wide.All
import OpenK.AllK
import Wide.FinOn
import Lean
import PyProof.EqAt
import PyProof.EqKinds
import PyProof.TupleCall
import PyProof.AttrMiss
import PyProof.IsiH_list
import PyProof.ZipIter
import PyProof.P3In
import PyProof.SetScanFacts
import PyProof.Rows.SetFrom
import PySem.Challenge.RW_everyrow_k61_many_pairs
set_option compiler.extract_closed false
set_option Elab.async false
set_option linter.all false
set_option maxRecDepth 100000
open PySem.W renaming Frag->zaa,kitOne->zaA,nsIn->zaE,findIn->zaG,mg_of->zaR,mg_none_of->zaX,keepIn->za6,fnOf->za9,emptyDict->zbj,instObj->zbz,hasDictIn->zbB,codeIn->zbS,exmOne->zbT,plainGet->zbW,callWith_K->zb3,kla_obj->zb4,looks_findIn->zcd,isFn->zcn,envX->zcp,plainOver->zcC,tabIn->zcF,hideAll->zcQ,makesIn->zcR,plainGet_of->zcS,pyHash_slot->zcT,lookIn->zcV,of_hideAll->zc1,mroIn->zc5,methodObj->zc8,any_some->zdf,takerIn->zdl,cellsFrom_some->zdo,kla_fn->zds,tabObj->zdt,excIn->zdv,hideAll_get->zdz,looks_mroIn->zdA
open PySem.Str renaming ofString->zab
open List renaming length_map->zac,getElem?_eq_getElem->zad,mem_map->zae,mem_singleton->zaf,mem_cons_of_mem->zag,length_append->zai,range->zaj,mem_cons->zak,getD_eq_getElem?_getD->zal,mem_append->zan,mem_cons_self->zao,getElem?_eq_some_iff->zap,length_cons->zaq,getElem?_map->zar,map_cons->zas,mem_range->zav,getElem_mem->zaw,size_toArray->zay,map_append->zaC,mem_of_getElem?->zaD,mem_flatMap->zaF,length_range->zaJ,mem_append_right->zaK,pairwise_map->zaL,append_nil->zaM,forIn_cons->zaP,length_singleton->zaT,nodup_cons->zaV,append_assoc->zaY,lookup_cons->za3,range_succ->za7,map_nil->za8,mem_append_left->zbb,not_mem_nil->zbc,zipWith->zbd,map_map->zbe,replicate->zbf,length->zbg,forIn_nil->zbh,nodup_nil->zbi,getElem?_eq_none->zbk,take_append_drop->zbl,lookup->zbp,nodup_iff_pairwise_ne->zbs,zip_map'->zbt,pairwise_cons->zbv,length_zip->zbx,mem_of_mem_take->zby,getElem?_cons_succ->zbC,length_take->zbD,all_eq_true->zbE,take_length->zbF,pairwise_lt_range->zbG,length_nil->zbI,getElem?_append_right->zbJ,nodup_append->zbM,flatMap_cons->zbN,getElem?_append_left->zbO,pairwise_iff_getElem->zbP,mem_iff_getElem->zbQ,getElem?_zip_eq_some->zbR,length_drop->zbU,set->zbV,filterMap_cons->zbX,flatMap_append->zbY,any_cons->zbZ,find?_cons->zb0,head?_drop->zb1,getElem?_set_self->zb5,length_eq_one_iff->zb6,drop_drop->zb8,getElem?_set_ne->zb9,drop_eq_nil_iff->zca,getElem_map->zcb,nodup_range->zcc,length_pos_iff->zcf,mem_filter->zcg,of_mem_zip->zci,drop_eq_getElem_cons->zck,mem_filterMap->zcl,getElem?_cons_zero->zcw,length_eq_zero_iff->zcx,pairwise_singleton->zcy,take_add_one->zcB,cons_append->zcH,ext_getElem->zcI,take_succ_eq_append_getElem->zcJ,mem_iff_getElem?->zcK,pairwise_append->zcM,nil_append->zcP,find?_eq_none->zcW,map_singleton->zc0,perm_ext_iff_of_nodup->zc4,find?_append->zc7,getElem?_take_of_lt->zda,flatMap_nil->zdd,getElem?_replicate->zdh,length_set->zdi,take_of_length_le->zdm,zipWith_cons_cons->zdn,length_replicate->zdq,length_filter_le->zdr,mem_of_mem_drop->zdu,getElem?_range->zdy
open Nat renaming le_refl->zah,lt_of_lt_of_le->zat,le_trans->zax,ne_of_lt->zaz,zero_le->zaN,lt_irrefl->zaO,pow_le_pow_right->zaS,ne_of_gt->zaW,pow_succ->zbm,le_add_right->zbo,lt_of_le_of_lt->zbu,le_of_lt->zbw,le_of_lt_succ->zbA,lt_trans->zbH,not_lt->zb2,not_lt_zero->zcj,mul_le_mul->zcu,lt_succ_self->zcG,add_comm->zcL,succ_pos->zcO,lt_or_eq_of_le->zcX,lt_trichotomy->zc6,mod_lt->zc9,succ_mul->zdc,min_le_left->zdj,le_antisymm->zdk,mul_le_mul_left->zdw,le_of_eq->zdC,mul_comm->zdD,le_succ->zdE
open Bool renaming false_ne_true->zam,false_eq_true->zau,not_true->zaQ,and_eq_true->za2,eq_iff_iff->zch,not_false->zcv,eq_false_iff->zcA,and_false->zcU,and_true->zc2,true_and->zc3,false_and->zdp
open Array renaming getElem?_toList->zaB,length_toList->zaI,getElem?_eq_getElem->zaU,forIn_toList->zbn,getElem?_eq_some_iff->zbK,getD_eq_getD_getElem?->zcY,toList->zdB
open Or renaming inl->zaH,inr->zce
open Option renaming map_eq_some_iff->zaZ,map_some->za1,some->za5,isSome_map->zb7,isSome_iff_exists->zcm,map_eq_none_iff->zcD,toList_some->zcZ,getD_some->zdb
open Int renaming le_refl->za0,emod_lt_of_pos->zba,emod_nonneg->zbr,toNat_natCast->zbL,le_trans->zcN,add_zero->zde,toNat_of_nonneg->zdx
open PyProof.Rows renaming callWith_type1->za4
open PySem.F renaming plainAttrs_list->zbq,args_tuple_add_2->zco,slot_list_extend->zcq,type_list_extend->zcr,slot_list_append->zcs,type_list_append->zct,entry_tuple_add->zcz,slot_tuple_add->zcE
open PySem.W.Looks renaming ld->zdg
open PySem renaming Addr->zdF,Value->zdG,World->zdH,wpAny_bind->zdI,wpAny_pure->zdJ,wpAny_holding->zdK,starEach->zdL,mainGlobals->zdM,sizeLine->zdN,FuncData->zdO,Shared->zdP,Around->zdQ,Program->zdR
open PySem.Heap renaming get?_push_of_some->yaa,lt_size->yad,get?_push_size->yae,size_push->yan,SameBut->yay,get?_update_self->yaz,get?_update_other->yaH
open PySem renaming wpAny->yab,Heap->yaf,wpAny_seqItems->yak,Paired->yao,sysModules->yar,wpAny_Call_Name_kw->yas,codeAny_builtin->yat,compareOp->yau,wpAny_mono->yaw,wpAny_field->yax,wpAny_isInstance->yaB,wpAny_pyIter_list->yaF,wpAny_call_entry->yaK,builtinLookup_eq_fast->yaL,wpAny_truthy_bool->yaN,wpAny_typeNameOfWhole_keyiter->yaP,pyNext->yaR,rawInt->yaS,codeAny_mono->yaT,wpAny_setField_rec->yaU,wpAny_tupleItemsOf->yaV,wpAny_passesOwn->yaW,codeAny_call_builtin->yaZ,wpAny_typeOf->ya4,wpAny_specialOf->ya9,wpAny_setState_of->ybc,wpAny_notOrdered_dict->ybd,wpAny_rule->ybg,wpAny_execs_nil->ybj,wpAny_newObj_type->ybs,wpAny_dictEntries->ybt,wpAny_pyNext_list_item->ybv,wpAny_nextOf_list_item->ybx,wpAny_forIn_list->ybz,wpAny_pyNext_list_end->ybA,wpAny_updateSeq->ybE
open PySem.Value renaming ref->yac,none->yaA,bool->yaI,type->ya8,int->ybk,str->ybl,builtin->yby
open PySem.SetTable renaming below->yag,runEnd->yai,insertAt->yap,bits->yav,turns->yaD,advance->ybh,leap->ybi,toList_insertAt->ybr,has->ybF,grown->ybJ,layClean->ybQ
open PySem.Paired renaming length->yah,snoc->ybK
open PySem.Builtin.SmallTypes renaming ownedTupleIsFree->yaj,nextOf->yam,ownedTupleHandOut->ybq
open PySem.Value.type renaming inj->yal
open PySem.Around renaming under_plainId->yaq
open PySem.F renaming slot_dict_keyiterator_next->yaC,slot_tuple_eq->yaM,slot_list_getattribute->ya3,called_set->ya5,slot_zip_getattribute->ya6,kt_typeCall_dict_1->ybC,slot_zip_next->ybD
open PySem.Builtin.Dict renaming updateFrom->yaE,addKeywords->ybn,selfAndRest->ybo,pairItems->ybw
open PySem.PassesOwn renaming never->yaG
open PySem.NameKind renaming free->yaJ
open PySem.SetTable.probe renaming go->yaO
open PySem.Heap.SameBut renaming update->yaQ
open PySem.PyData renaming canLayAll0->yaX,eqv->ya0,depthAll->yba,canLay0->ybH
open PySem.Obj renaming mapSeq->yaY,data_mapFields->ybp
open PySem.Builtin.Tuple renaming tupleHashOf->ya1,tupleItemsOf->ybP
open PySem.SeqAt renaming shaped->ya2
open PyProof.Rows.F renaming plain_set_update_loop->ya7
open PySem.SetTable.layClean renaming free->ybb
open PySem.SetTable.sizeAbove renaming go->ybe
open PySem.Builtin.List renaming listExtendWith->ybf,listTooLong->ybm,listLengthHint->ybO
open PySem.SetTable.below renaming go->ybu
open PySem.Calls renaming evalArgs_plain->ybB,spliced_cons->ybN
open PySem.Builtin.Dict_items renaming ownsTuple->ybI
open PySem.SeqAt.EqAt renaming int_str->ybL,str_int->ybM
open PyProof.Rows.Boot renaming «ValueError»->ybY,«all»->ybZ,«dict»->yb0,«enumerate»->yb1,«int»->yb2,«isinstance»->yb3,«len»->yb4,«list»->yb5,«set»->yb8,«tuple»->yb9,«zip»->yca
theorem ybR{c:Prop}{h:Decidable c}(k:¬c){α:Sort _}{t e:α}:ite c t e=e:=if_neg k
theorem ybS{c:Prop}{h:Decidable c}(k:c){α:Sort _}{t e:α}:ite c t e=t:=if_pos k
theorem ybT{p:Prop}[Decidable p](h:p):decide p=true:=decide_eq_true h
theorem ybU{p:Prop}[Decidable p](h:¬p):decide p=false:=decide_eq_false h
theorem ybV{p:Prop}[Decidable p](h:decide p=true):p:=of_decide_eq_true h
theorem ybW{α:Sort _}{β:Sort _}{a b:α}(f:α->β)(h:a=b):f a=f b:=congrArg f h
theorem ybX{a b:Prop}(x:a)(y:¬a):b:=absurd x y
noncomputable section
namespace L2
open PySem PySem.Spec PyProof.Rows
abbrev Key:=Sum Int Str
noncomputable def o5:Key->zdG->Bool
 |.inl k,v=>Value.isInt k v
 |.inr x,v=>Value.isStrOf x v
noncomputable def NJ (w:zdH):Key->Int
 |.inl k=>hashInt k
 |.inr x=>hashStr w x
theorem cR:∀{k:Key}{v:zdG},o5 k v=true->(∃i t,k=Sum.inl i/\v=ybk i t)\/(∃x t,k=Sum.inr x/\v=ybl x t)
 |.inl i,v,h=>by
  obtain⟨t,e⟩:=Value.isInt_shape (k:=i) (v:=v) h;exact .inl ⟨i,t,rfl,e⟩
 |.inr x,v,h=>by
  obtain⟨t,e⟩:=Value.isStrOf_shape (x:=x) (v:=v) h;exact .inr ⟨x,t,rfl,e⟩
theorem zd(i:Int)(t:Tok):o5 (.inl i) (.int i t)=true:=by simp[o5,Value.isInt]
theorem zf(x:Str)(t:Tok):o5 (.inr x) (.str x t)=true:=by simp[o5,Value.isStrOf]
theorem wZ(a b:Int):decide ((Sum.inl a:Key)=Sum.inl b)=(a==b):=by
 by_cases e:a=b
 .subst e;simp
 .have h:¬(Sum.inl a:Key)=Sum.inl b:=fun q=>e (Sum.inl.inj q);rw[ybU h];exact(beq_eq_false_iff_ne.mpr e).symm
theorem Jz(a b:Str):decide ((Sum.inr a:Key)=Sum.inr b)=decide (a=b):=by
 by_cases e:a=b
 .subst e;simp
 .have h:¬(Sum.inr a:Key)=Sum.inr b:=fun q=>e (Sum.inr.inj q);rw[ybU h,ybU e]
theorem DM(a:Int)(b:Str):decide ((Sum.inl a:Key)=Sum.inr b)=false:=ybU (fun q=>nomatch q)
theorem DN(a:Str)(b:Int):decide ((Sum.inr a:Key)=Sum.inl b)=false:=ybU (fun q=>nomatch q)
def bF (prog:zdR)(w:zdH):PySem.KeyKind prog w Key where
 is:=o5
 hash:=NJ w
 inj:=fun v a b ha hb=>by
  rcases cR ha with ⟨i,t,rfl,rfl⟩ |⟨x,t,rfl,rfl⟩
  .rcases cR hb with ⟨j,u,rfl,e⟩ |⟨y,u,rfl,e⟩
   .injection e with e1 _;rw[e1]
   .exact nomatch e
  .rcases cR hb with ⟨j,u,rfl,e⟩ |⟨y,u,rfl,e⟩
   .exact nomatch e
   .injection e with e1 _;rw[e1]
 byValue:=fun k v h=>by
  rcases cR h with ⟨i,t,rfl,rfl⟩ |⟨x,t,rfl,rfl⟩<;>rfl
 pyHash:=fun hv h=>by
  rcases cR hv with ⟨i,t,rfl,rfl⟩ |⟨x,t,rfl,rfl⟩
  .exact wpAny_pyHash_int h
  .exact wpAny_pyHash_str h
 eqBool:=fun hu hv h=>by
  rcases cR hu with ⟨i,t,rfl,rfl⟩ |⟨x,t,rfl,rfl⟩
  .rcases cR hv with ⟨j,u,rfl,rfl⟩ |⟨y,u,rfl,rfl⟩
   .rw[wZ] at h;exact wpAny_eqBool_int h
   .rw[DM] at h;exact ybL i t y u _ _ _ _ h
  .rcases cR hv with ⟨j,u,rfl,rfl⟩ |⟨y,u,rfl,rfl⟩
   .rw[DN] at h;exact ybM x t j u _ _ _ _ h
   .rw[Jz] at h;exact wpAny_eqBool_str h
 «strs»:=fun k x t v h=>by
  rcases cR h with ⟨i,u,rfl,e⟩ |⟨y,u,rfl,e⟩
  .exact nomatch e
  .injection e with e1 _
   subst e1;cases v<;>rfl
theorem BJ(prog:zdR)(w:zdH)(i:Int)(t:Tok):(bF prog w).is (.inl i) (.int i t)=true:=zd i t
theorem BK(prog:zdR)(w:zdH)(x:Str)(t:Tok):(bF prog w).is (.inr x) (.str x t)=true:=zf x t
inductive V where
 |eA |bl (b:Bool) |int (i:Int) |str (x:Str) |Ft (b:Array UInt8) |WY (b:UInt64) |ref (a:zdF) |ty (n:String)
 deriving DecidableEq
def RelV:V->zdG->Prop
 |.eA,u=>u=yaA
 |.bl b,u=>u=yaI b
 |.int i,u=>∃t,u=ybk i t
 |.str x,u=>∃t,u=ybl x t
 |.Ft b,u=>∃t,u=Value.bytes b t
 |.WY b,u=>∃t,u=Value.float b t
 |.ref a,u=>u=yac a
 |.ty n,u=>u=ya8 n
abbrev Vals:List V->List zdG->Prop:=yao RelV
theorem Vals.length(r:Vals xs us):xs.length=us.length:=yah r
theorem Vals.get:∀{xs:List V}{us:List zdG}{i:Nat}{x:V},Vals xs us->xs[i]?=some x->∃u,us[i]?=some u/\RelV x u
 |_,_,_,_,.nil,e=>by simp at e
 |_,_,0,_,.cons r _,e=>by simp at e;subst e;exact⟨_,rfl,r⟩
 |_,_,i+1,x,.cons _ t,e=>by
  obtain⟨u,h1,h2⟩:=Vals.get (i:=i) (x:=x) t (by simpa using e);exact⟨u,by simpa using h1,h2⟩
theorem Vals.set(r:RelV x u):∀{xs:List V}{us:List zdG}(i:Nat),Vals xs us->Vals (xs.set i x) (us.set i u)
 |_,_,_,.nil=>.nil
 |_,_,0,.cons _ t=>.cons r t
 |_,_,i+1,.cons q t=>.cons q (Vals.set r i t)
theorem Vals.append:∀{xs ys:List V}{us ws:List zdG},Vals xs us->Vals ys ws->Vals (xs++ys) (us++ws)
 |_,_,_,_,.nil,s=>s
 |_,_,_,_,.cons r t,s=>.cons r (Vals.append t s)
theorem Vals.take:∀{xs:List V}{us:List zdG}(n:Nat),Vals xs us->Vals (xs.take n) (us.take n)
 |_,_,0,_=>.nil
 |_,_,_+1,.nil=>.nil
 |_,_,n+1,.cons r t=>.cons r (Vals.take n t)
theorem Vals.drop:∀{xs:List V}{us:List zdG}(n:Nat),Vals xs us->Vals (xs.drop n) (us.drop n)
 |_,_,0,r=>r
 |_,_,_+1,.nil=>.nil
 |_,_,n+1,.cons _ t=>Vals.drop n t
def oT:Option V->Option zdG->Prop
 |some v,some u=>RelV v u
 |none,none=>True
 |_,_=>False
def KV {Y:Type}:List (Y×V)->List (Y×zdG)->Prop:=yao fun (p:Y×V) (q:Y×zdG)=>p.1=q.1/\RelV p.2 q.2
noncomputable def kV:Key->V
 |.inl i=>.int i
 |.inr x=>.str x
inductive HO where
 |lst (xs:List V)
 |tup (xs:List V)
 |dK (aB:List (Key×V)) |dT (aB:List (List Key×V))
 |set (S:Int->Bool) (n:Nat)
 |ins (C dx:zdF) (fs:List (Str×V))
 |own (x:zdF)
 |xd (fs:List (Str×V))
 |met (f x:zdF)
 |WZ (lo hi:Int)
 |JA (o:Obj) (u:HO)
 |rE (ps:Array zdG)
 |ext (φ:yaf->Prop)
abbrev Hp:=zdF->Option HO
noncomputable def upd (H:Hp)(a:zdF)(o:HO):Hp:=fun b=>if b=a then some o else H b
theorem ah:upd H a o a=some o:=by unfold upd;rw[ybS rfl]
theorem au(h:b≠a):upd H a o b=H b:=by unfold upd;rw[ybR h]
theorem bz{H:Hp}(h:H a=some o)(h':H b=some u)(d:o≠u):a≠b:=by
 intro e;subst e;rw[h] at h';exact d (za5.inj h')
theorem ag{H:Hp}(h:H a=some o)(h':H b=none):a≠b:=by
 intro e;subst e;rw[h] at h';cases h'
section
variable(P:zdR)(w:zdH)
def bZ (H:Hp)(h:yaf)(a:zdF):HO->Prop
 |.lst xs=>xs.length<=zdN/\∃(bc:List zdG) (n:Nat),Vals xs bc/\h.get? a=some {cls:=.type "list",data:=.seq bc.toArray n}
 |.tup xs=>xs.length<=zdN/\∃bc:List zdG,Vals xs bc/\IsTup h a bc.toArray
 |.dK aB=>aB.length<=zdN/\(a==yar)=false/\∃vs,KV aB vs/\h.DictOf (bF P w) a vs
 |.dT aB=>aB.length<=zdN/\(a==yar)=false/\∃xs:List (List Key×zdF×zdG),
  yao (fun (p:List Key×V) (q:List Key×zdF×zdG)=>p.1=q.1/\H q.2.1=some (.tup (p.1.map kV))/\RelV p.2 q.2.2) aB xs/\
  ∃o es ep,h.get? a=some o/\o.ExactDict/\o.data=.dict es ep/\es.toList=xs.map (entryOfKey (tupleKind (bF P w)))/\(xs.map (·.1)).Nodup
 |.set S n=>h.SetOf (intKind P w) a S n
 |.ins C dx fs=>H dx=some (.own a)/\fs.length<=1000/\dx≠a/\h.get? a=some (zbz C dx)/\
  ∃mA,h.Ns1 dx mA/\(∀f,oT (fs.lookup f) (mA f))/\PySem.Within mA (fs.map (·.1))
 |.own _=>∃o,h.get? a=some o
 |.xd fs=>∃mA,h.Ns1 a mA/\∀f,oT (fs.lookup f) (mA f)
 |.WZ lo hi=>∃t u v,h.get? a=some {cls:=.type "range",data:=.fields #[.int lo t,.int hi u,.int 1 v]}
 |.JA o u=>h.get? a=some o/\bZ H h a u
 |.rE ps=>h.get? a=some {cls:=.none,data:=.fields ps}
 |.met f x=>h.get? a=some (zc8 (.ref f) (.ref x))
 |.ext φ=>φ h/\(∃o,h.get? a=some o)/\∀h1 h2:yaf,φ h1->(∀o,h1.get? a=some o->h2.get? a=some o)->φ h2
def jV (H:Hp)(h:yaf):Prop:=∀a o,H a=some o->bZ P w H h a o
end
section
variable{P:zdR}{w:zdH}{H H':Hp}{h h':yaf}{a:zdF}{o:HO}
theorem bZ.lt(x:bZ P w H h a o):a<h.objs.size:=by
 cases o with
 |lst xs=>obtain⟨_,_,_,_,e⟩:=x;exact yad e
 |tup xs=>obtain⟨_,_,_,p⟩:=x;exact p.lt
 |dK aB=>obtain⟨_,_,_,_,o,_,_,e,_⟩:=x;exact yad e
 |dT aB=>obtain⟨_,_,_,_,o,_,_,e,_⟩:=x;exact yad e
 |set S n=>obtain⟨o,_,_,_,e,_⟩:=x;exact yad e
 |ins C dx fs=>obtain⟨_,_,_,e,_⟩:=x;exact yad e
 |own y=>obtain⟨_,e⟩:=x;exact yad e
 |xd fs=>obtain⟨_,⟨_,_,_,e,_⟩,_⟩:=x;exact yad e
 |WZ lo hi=>obtain⟨_,_,_,e⟩:=x;exact yad e
 |JA ob u=>obtain⟨e,_⟩:=x;exact yad e
 |rE ps=>exact yad (show h.get? a=some _ from x)
 |met f y=>exact yad (show h.get? a=some _ from x)
 |ext φ=>obtain⟨_,⟨_,e⟩,_⟩:=x;exact yad e
theorem yao.Af{O L:Type}{F G:O->L->Prop}:∀{l₁:List O}{l₂:List L},yao F l₁ l₂->(∀a b,F a b->G a b)->yao G l₁ l₂
 |_,_,.nil,_=>.nil
 |_,_,.cons r t,f=>.cons (f _ _ r) (yao.Af t f)
theorem bZ.sY(x:bZ P w H h a o)(k:∀b u,(b=a\/H b=some (.own a))->h.get? b=some u->h'.get? b=some u)
 (ho:∀b,H b=some (.own a)->H' b=some (.own a)) (ht:∀b xs,H b=some (.tup xs)->H' b=some (.tup xs)):bZ P w H' h' a o:=by
 induction o with
 |lst xs=>obtain⟨z,bc,n,r,e⟩:=x;exact⟨z,bc,n,r,k _ _ (.inl rfl) e⟩
 |tup xs=>obtain⟨z,bc,r,ob,e,c⟩:=x;exact⟨z,bc,r,ob,k _ _ (.inl rfl) e,c⟩
 |dK aB=>obtain⟨z,y,vs,r,ob,es,ep,e,c⟩:=x;exact⟨z,y,vs,r,ob,es,ep,k _ _ (.inl rfl) e,c⟩
 |dT aB=>
  obtain⟨z,y,xs,r,ob,es,ep,e,c⟩:=x;exact⟨z,y,xs,yao.Af r fun p q z=>⟨z.1,ht _ _ z.2.1,z.2.2⟩,ob,es,ep,k _ _ (.inl rfl) e,c⟩
 |set S n=>obtain⟨ob,es,ep,t,e,c⟩:=x;exact⟨ob,es,ep,t,k _ _ (.inl rfl) e,c⟩
 |ins C dx fs=>
  obtain⟨d,z,ne,e,mA,⟨od,es,ep,e2,c⟩,r⟩:=x;exact⟨ho _ d,z,ne,k _ _ (.inl rfl) e,mA,⟨od,es,ep,k _ _ (.inr d) e2,c⟩,r⟩
 |own y=>obtain⟨ob,e⟩:=x;exact⟨ob,k _ _ (.inl rfl) e⟩
 |xd fs=>obtain⟨mA,⟨od,es,ep,e,c⟩,r⟩:=x;exact⟨mA,⟨od,es,ep,k _ _ (.inl rfl) e,c⟩,r⟩
 |WZ lo hi=>obtain⟨t,u,v,e⟩:=x;exact⟨t,u,v,k _ _ (.inl rfl) e⟩
 |JA ob u ih=>obtain⟨e,q⟩:=x;exact⟨k _ _ (.inl rfl) e,ih q⟩
 |rE ps=>
  have e:h.get? a=some {cls:=.none,data:=.fields ps}:=x;show h'.get? a=some {cls:=.none,data:=.fields ps};exact k a _ (.inl rfl) e
 |met f y=>
  have e:h.get? a=some (zc8 (.ref f) (.ref y)):=x;show h'.get? a=some (zc8 (.ref f) (.ref y));exact k a _ (.inl rfl) e
 |ext φ=>obtain⟨p,⟨o,e⟩,st⟩:=x;exact⟨st _ _ p fun o q=>k _ _ (.inl rfl) q,⟨o,k _ _ (.inl rfl) e⟩,st⟩
theorem jV.lt(x:jV P w H h)(e:H a=some o):a<h.objs.size:=(x a o e).lt
theorem jV.fresh(x:jV P w H h)(e:h.objs.size<=a):H a=none:=by
 cases q:H a with
 |none=>rfl
 |some u=>exact ybX (zat (x.lt q) e) (zaO _)
theorem jV.kept(x:jV P w H h)(k:∀b u,h.get? b=some u->h'.get? b=some u):jV P w H h':=fun a o e=>
 (x a o e).sY (fun b u _ q=>k b u q) (fun _ q=>q) fun _ _ q=>q
theorem jV.laid(x:jV P w H h)(k:∀b u,h.get? b=some u->h'.get? b=some u)(hp:h.objs.size<=a)(new:bZ P w (upd H a o) h' a o):jV P w (upd H a o) h':=fun b u e=>by
 have hn:=x.fresh hp;by_cases hb:b=a
 .subst hb;rw[ah] at e;cases e;exact new
 .rw[au hb] at e;exact(x b u e).sY (fun c v _ q=>k c v q) (fun c q=>by rw[au (ag q hn)];exact q) fun c xs q=>by rw[au (ag q hn)];exact q
end
def Rd (H:Hp)(a:zdF)(u:HO):Prop:=H a=some u\/∃o,H a=some (.JA o u)
theorem Rd.ok(r:Rd H a u)(x:jV P w H h):bZ P w H h a u:=by
 rcases r with r |⟨o,r⟩
 .exact x a u r
 .obtain⟨_,q⟩:=x a _ r;exact q
def T1:Option HO->Prop
 |some (.lst _)=>True
 |some (.dK _)=>True
 |some (.dT _)=>True
 |some (.set _ _)=>True
 |some (.ins _ _ _)=>True
 |some (.ext _)=>True
 |_=>False
section
variable{P:zdR}{w:zdH}{H:Hp}{h h':yaf}{x e:zdF}{o':HO}
theorem jV.write(ok:jV P w H h)(mu:T1 (H x))(he:e=x\/H e=some (.own x))(k:∀b u,b≠e->h.get? b=some u->h'.get? b=some u)(Td:∃u,h'.get? e=some u)
 (new:bZ P w (upd H x o') h' x o'):jV P w (upd H x o') h':=fun b u q=>by
 have T3:∀c y,H c=some (.own y)->c≠x:=fun c y r z=>by subst z;rw[r] at mu;exact mu
 have Ya:∀c xs,H c=some (.tup xs)->c≠x:=fun c xs r z=>by subst z;rw[r] at mu;exact mu
 by_cases hb:b=x
 .subst hb;rw[ah] at q;cases q;exact new
 .rw[au hb] at q;by_cases QY:b=e
  .have q':H b=some (.own x):=by
    rcases he with z |z
    .exact ybX (QY.trans z) hb
    .rw[QY];exact z
   rw[q] at q';cases q';obtain⟨v,hv⟩:=Td;exact⟨v,by rw[QY];exact hv⟩
  .refine(ok b u q).sY (fun c v hc r=>k c v ?_ r) (fun c r=>by rw[au (T3 c b r)];exact r) fun c xs r=>by rw[au (Ya c xs r)];exact r
   rcases hc with rfl |hc
   .exact QY
   .rintro rfl
    rcases he with z |z
    .exact T3 c b hc z
    .rw[hc] at z;cases z;exact hb rfl
end
structure Un(fs ex:List zdF)(H H':Hp)(h h':yaf):Prop where
 keep:∀b o,h.get? b=some o->H b=none->b ∉ fs->b ∉ ex->h'.get? b=some o
 slot:∀b o,h.get? b=some o->H b=none->b∈fs->b ∉ ex->∃sl,h'.get? b=some {o with slots:=sl}
 free:∀b o,h.get? b=some o->H b=none->b ∉ ex->H' b=none
 there:∀b o,h.get? b=some o->b ∉ ex->∃o',h'.get? b=some o'
 o7:∀b xs,H b=some (.tup xs)->H' b=some (.tup xs)
 oU:∀b o u,H b=some (.JA o u)->H' b=some (.JA o u)
 oV:∀b ps,H b=some (.rE ps)->∃more,H' b=some (.rE (ps++more))
section
variable{fs fs' ex ex':List zdF}{H H1 H2:Hp}{h h1 h2 h':yaf}{a x e:zdF}{o:HO}
theorem Un.any(u:Un fs ex H H1 h h1)(q:h.get? b=some ob)(n:H b=none)(hx:b ∉ ex):∃sl,h1.get? b=some {ob with slots:=sl}:=by
 by_cases hb:b∈fs
 .exact u.slot b ob q n hb hx
 .exact⟨ob.slots,u.keep b ob q n hb hx⟩
theorem Un.kept(k:∀b u,h.get? b=some u->h'.get? b=some u):Un fs ex H H h h':=
 ⟨fun b ob q _ _ _=>k b ob q,fun b ob q _ _ _=>⟨ob.slots,k b ob q⟩,fun _ _ _ n _=>n,fun b ob q _=>⟨ob,k b ob q⟩,fun _ _ q=>q,fun _ _ _ q=>q,fun _ ps q=>⟨#[],by rw[q];simp⟩⟩
theorem Un.refl:Un fs ex H H h h:=Un.kept fun _ _ q=>q
theorem Un.laid(k:∀b u,h.get? b=some u->h'.get? b=some u)(hp:h.objs.size<=a)(hn:H a=none):Un fs ex H (upd H a o) h h' where
 keep:=fun b u q _ _ _=>k b u q
 slot:=fun b u q _ _ _=>⟨u.slots,k b u q⟩
 free:=fun b u q n _=>by rw[au (zaz (zat (yad q) hp))];exact n
 there:=fun b u q _=>⟨u,k b u q⟩
 o7:=fun b xs q=>by rw[au (ag q hn)];exact q
 oU:=fun b u xs q=>by rw[au (ag q hn)];exact q
 oV:=fun b ps q=>⟨#[],by rw[au (ag q hn),q];simp⟩
theorem Un.write(mu:T1 (H x))(he:e=x\/H e=some (.own x))(k:∀b u,b≠e->h.get? b=some u->h'.get? b=some u)(Td:∃u,h'.get? e=some u):Un fs ex H (upd H x o) h h':=by
 have hx:∀b,H b=none->b≠x:=fun b n z=>by subst z;rw[n] at mu;exact mu
 have hb:∀b,H b=none->b≠e:=fun b n z=>by
  subst z;rcases he with r |r
  .exact hx b n r
  .rw[n] at r;cases r
 have hm:∀b u,H b=some u->¬T1 (some u)->b≠x:=fun b u q nm z=>by subst z;rw[q] at mu;exact nm mu
 refine⟨fun b u q n _ _=>k b u (hb b n) q,fun b u q n _ _=>⟨u.slots,k b u (hb b n) q⟩,fun b u q n _=>by rw[au (hx b n)];exact n,fun b u q _=>?_,
  fun b xs q=>by rw[au (hm b _ q fun z=>z)];exact q,fun b u xs q=>by rw[au (hm b _ q fun z=>z)];exact q,fun b ps q=>⟨#[],by rw[au (hm b _ q fun z=>z),q];simp⟩⟩
 by_cases QY:b=e
 .subst QY;exact Td
 .exact⟨u,k b u QY q⟩
end
noncomputable def Jj (h:yaf)(H:Hp):List zdF:=(zaj h.objs.size).filter fun a=>(H a).isSome
def Ag (h:yaf)(H:Hp):yaf:=zcQ h (Jj h H)
theorem Hn(h:yaf)(H:Hp):(Ag h H).objs.size=h.objs.size:=PySem.W.hideAll_size _ _
theorem sZ(e:h.get? b=some o)(n:H b=none):(Ag h H).get? b=some o:=
 zdz _ e fun hm=>by
  have q:(H b).isSome=true:=(zcg.mp hm).2;rw[n] at q;simp at q
theorem NK(e:(Ag h H).get? b=some o):h.get? b=some o/\H b=none:=by
 have e':h.get? b=some o:=zc1 (Jj h H) e;refine⟨e',?_⟩;cases q:H b with
 |none=>rfl
 |some x=>
  have hm:b∈Jj h H:=zcg.mpr ⟨zav.mpr (yad e'),by simp[q]⟩;have z:(Ag h H).get? b=none:=PySem.W.hideAll_none (Jj h H) hm;rw[z] at e;cases e
structure Mod(K:zaa)(mg:Str->Option zdG)(base:yaf):Prop where
 PD:K.In base
 glob:base.Ns zdM mg
 blt:∃mb,base.Ns builtinsNs mb/\∀x:Str,x≠"__name__"->mb x=bootBuiltins x
 nolimit:base.NoLimit
set_option genInjectivity false in
set_option genSizeOf false in
structure Cx where
 prog:zdR
 w:zdH
 K:zaa
 mg:Str->Option zdG
 base:yaf
 A:zdQ
 N:List Str
 s₀:zdP
 H₀:Hp
 env:Env
 outer:List Env
 stack:List Env
 ex:List zdF
 fn:Str->Bool
 calm:Bool
 pn:List (zdF×Obj)
 xe:zdG->zdP->Prop
noncomputable def qt (l:List Env):List zdF:=l.filterMap (·.frame)
abbrev Cx.fs (X:Cx):List zdF:=qt X.outer
def T4 (sc:Scope)(x:Str):Prop:=sc.names.lookup x=some .local\/sc.names.lookup x=some .cell\/sc.names.lookup x=some .free
def Loc (sc:Scope)(x:Str):Prop:=sc.names.lookup x=some .local\/sc.names.lookup x=some .cell
def Look (env:Env)(h:yaf)(m:Str->Option zdG)(x:Str)(u:zdG):Prop:=
 (env.kindOf x=some .local/\m x=some u)\/((env.kindOf x=some .cell\/env.kindOf x=some .free)/\∃c,env.cells.lookup x=some c/\h.IsCell c (some u))
structure Cx.Ok(X:Cx):Prop where
 mod:Mod X.K X.mg X.base
 kind:X.env.scope.kind=.function
 glob:X.env.globals=zdM
 blt:X.env.builtins=builtinsNs
 above:X.s₀.heap.objs.size<=X.env.locals
 inj:∀x y c,X.env.cells.lookup x=some c->X.env.cells.lookup y=some c->x=y
 has:∀x,(X.env.kindOf x=some .cell\/X.env.kindOf x=some .free)->∃c,X.env.cells.lookup x=some c
 Ho:∀x c,X.fn x=true->X.env.cells.lookup x=some c->X.s₀.heap.objs.size<=c
 hd:X.calm=true->X.A.handled=none
 frames:X.A.frames=some X.stack
 Nc:X.stack=X.outer\/(X.stack=X.env::X.outer/\X.env.frame=some X.env.locals)
 Te:∀b∈X.ex,b≠X.env.locals/\∀x c,X.env.cells.lookup x=some c->c≠b
 bs:∀b o,X.base.get? b=some o->X.s₀.heap.get? b=some o/\X.H₀ b=none
 BL:X.base.objs.size<=X.s₀.heap.objs.size
 Ah:∀b o,X.base.get? b=some o->b ∉ X.ex
 BM:∀b∈X.ex,b ∉ X.fs
 mz:X.s₀.heap.FunFrames X.base X.outer
 Fu:∀b∈X.fs,X.H₀ b=none
structure Inv(X:Cx)(pins:List (zdF×Obj))(G:List (Option V))(H:Hp)(s:zdP):Prop where
 ok:X.Ok
 os:s.os=X.s₀.os
 bare:AllBare s.gens
 base:Un X.fs X.ex X.H₀ H X.s₀.heap s.heap
 loc:∃m,s.heap.Ns X.env.locals m/\∀(i:Nat) (x:Str) (v:V),X.N[i]?=some x->G[i]?=some (some v)->T4 X.env.scope x->∃u,RelV v u/\Look X.env s.heap m x u
 cell:∀x c,X.env.cells.lookup x=some c->∃v,s.heap.IsCell c v
 free:H X.env.locals=none
 iS:∀x c,X.env.cells.lookup x=some c->H c=none
 pin:∀p∈X.pn++pins,s.heap.get? p.1=some p.2/\H p.1=none/\p.1≠X.env.locals/\p.1 ∉ X.fs/\∀v,p.2.data≠.cell v
 bS:jV X.prog X.w H s.heap
 len:G.length=X.N.length
section
variable{X:Cx}{pins:List (zdF×Obj)}{G:List (Option V)}{H H':Hp}{s:zdP}{h':yaf}
theorem Cx.Ok.Yb(ok:X.Ok)(e:X.base.get? b=some o):b ∉ X.fs:=fun hb=>by
 have:=(ok.mz.mem hb).1;rw[e] at this;cases this
theorem Inv.bs(I:Inv X pins G H s):∀b o,X.base.get? b=some o->s.heap.get? b=some o/\H b=none:=fun b o e=>
 ⟨I.base.keep b o (I.ok.bs b o e).1 (I.ok.bs b o e).2 (I.ok.Yb e) (I.ok.Ah b o e),I.base.free b o (I.ok.bs b o e).1 (I.ok.bs b o e).2 (I.ok.Ah b o e)⟩
theorem Inv.bk(I:Inv X pins G H s):∀b o,X.base.get? b=some o->s.heap.get? b=some o:=fun b o e=>(I.bs b o e).1
theorem Inv.mod(I:Inv X pins G H s):Mod X.K X.mg X.base:=I.ok.mod
theorem Inv.zg(I:Inv X pins G H s):X.K.In s.heap:=I.ok.mod.PD.keeps I.bk
theorem Inv.lt(I:Inv X pins G H s):X.env.locals<s.heap.objs.size:=let ⟨_,hn,_⟩:=I.loc;hn.lt
theorem Inv.sz(I:Inv X pins G H s):X.s₀.heap.objs.size<=s.heap.objs.size:=zax I.ok.above (zbw I.lt)
theorem Inv.Yc(I:Inv X pins G H s){a:zdF}(h:s.heap.objs.size<=a):a ∉ X.fs:=fun hb=>by
 obtain⟨_,o,ho,_⟩:=I.ok.mz.mem hb;exact ybX (zat (yad ho) (zax I.sz h)) (zaO _)
theorem Inv.Jk(I:Inv X pins G H s):∀x c,X.env.cells.lookup x=some c->c≠X.env.locals:=fun x c e z=>by
 obtain⟨v,o,ho,hd⟩:=I.cell x c e;obtain⟨m,⟨o',es,ep,rF,BN,_⟩,_⟩:=I.loc;rw[z,rF] at ho;cases ho;rw[BN] at hd;cases hd
theorem Inv.mz(I:Inv X pins G H s):s.heap.FunFrames X.base X.outer:=by
 have all:∀(l:List Env),(∀b∈qt l,b∈X.fs)->X.s₀.heap.FunFrames X.base l->s.heap.FunFrames X.base l:=by
  intro l
  induction l with
  |nil=>intros;trivial
  |cons env r ih=>
   intro hs hl;obtain⟨hk,⟨L,o,hf,hn,ho,hd⟩,hr⟩:=hl;have hL:L∈X.fs:=hs L (by unfold qt;rw[zbX,hf];exact zao);obtain⟨sl,e⟩:=I.base.slot L o ho (I.ok.Fu L hL) hL fun z=>I.ok.BM L z hL;exact⟨hk,⟨L,_,hf,hn,e,hd⟩,ih (fun b hb=>hs b (by unfold qt;rw[zbX,hf];exact zag _ hb)) hr⟩
 exact all X.outer (fun _ hb=>hb) I.ok.mz
theorem Inv.stack(I:Inv X pins G H s):s.heap.FunFrames X.base X.stack:=by
 rcases I.ok.Nc with e |⟨e,hf⟩
 .rw[e];exact I.mz
 .rw[e];obtain⟨m,hn,_⟩:=I.loc;refine .cons (by rw[I.ok.kind];decide) hf hn ?_ I.mz;exact Heap.get?_none_of_le (zax I.ok.BL I.ok.above)
theorem Inv.rG(I:Inv X pins G H s):∀b∈qt X.stack,b∈X.env.locals::X.fs:=fun b hb=>by
 rcases I.ok.Nc with e |⟨e,hf⟩
 .rw[e] at hb;exact zag _ hb
 .rw[e] at hb;unfold qt at hb;rw[zbX,hf] at hb;exact hb
theorem Inv.tj(I:Inv X pins G H s):∀b∈qt X.stack,H b=none:=fun b hb=>by
 rcases zak.mp (I.rG b hb) with e |hb
 .rw[e];exact I.free
 .obtain⟨_,o,ho,_⟩:=I.ok.mz.mem hb;exact I.base.free b o ho (I.ok.Fu b hb) fun z=>I.ok.BM b z hb
theorem Inv.step{ch:List zdF}(I:Inv X pins G H s)
 (Nd:∀b∈ch,(b∈X.ex\/X.s₀.heap.objs.size<=b)/\b≠X.env.locals/\(∀x c,X.env.cells.lookup x=some c->c≠b)/\∀p∈X.pn++pins,p.1≠b)
 (keep:∀b o,b≠X.env.locals->b ∉ X.fs->b ∉ ch->s.heap.get? b=some o->H b=none->h'.get? b=some o)
 (slot:∀b o,b≠X.env.locals->b∈X.fs->b ∉ ch->s.heap.get? b=some o->H b=none->∃sl,h'.get? b=some {o with slots:=sl}) (free:∀b o,b ∉ ch->s.heap.get? b=some o->H b=none->H' b=none)
 (there:∀b o,b ∉ ch->s.heap.get? b=some o->∃o',h'.get? b=some o')
 (o7:∀b xs,H b=some (.tup xs)->H' b=some (.tup xs)) (oU:∀b o u,H b=some (.JA o u)->H' b=some (.JA o u)) (oV:∀b ps,H b=some (.rE ps)->∃more,H' b=some (.rE (ps++more)))
 (ns:∀m,s.heap.Ns X.env.locals m->h'.Ns X.env.locals m) (bS:jV X.prog X.w H' h') (hg:AllBare g') :
 Inv X pins G H' {s with heap:=h',gens:=g',drawn:=d',toks:=t' }:=by
 have W0:∀b o,X.s₀.heap.get? b=some o->b≠X.env.locals:=fun b o e=>zaz (zat (yad e) I.ok.above);have W2:∀b o,X.s₀.heap.get? b=some o->b ∉ X.ex->b ∉ ch:=fun b o e hx hb=>by
  rcases(Nd b hb).1 with z |z
  .exact hx z
  .exact ybX (zat (yad e) z) (zaO _)
 have cellK:∀x c,X.env.cells.lookup x=some c->∀v,s.heap.IsCell c v->h'.IsCell c v:=fun x c e v ⟨o,ho,hd⟩=>by
  have T5:c ∉ ch:=fun z=>(Nd c z).2.2.1 x c e rfl;by_cases hc:c∈X.fs
  .obtain⟨sl,q⟩:=slot c o (I.Jk x c e) hc T5 ho (I.iS x c e);exact⟨_,q,hd⟩
  .exact⟨o,keep c o (I.Jk x c e) hc T5 ho (I.iS x c e),hd⟩
 refine⟨I.ok,I.os,hg,⟨fun b o e n hb hx=>?_,fun b o e n hb hx=>?_,fun b o e n hx=>?_,fun b o e hx=>?_,fun b xs e=>o7 b xs (I.base.o7 b xs e),fun b o xs e=>oU b o xs (I.base.oU b o xs e),fun b ps e=>?_⟩,?_,fun x c e=>?_,?_,fun x c e=>?_,fun p hp=>?_,bS,I.len⟩
 .exact keep b o (W0 b o e) hb (W2 b o e hx) (I.base.keep b o e n hb hx) (I.base.free b o e n hx)
 .obtain⟨sl,e1⟩:=I.base.slot b o e n hb hx;obtain⟨T6,e2⟩:=slot b _ (W0 b o e) hb (W2 b o e hx) e1 (I.base.free b o e n hx);exact⟨T6,e2⟩
 .obtain⟨o',e1⟩:=I.base.there b o e hx;exact free b o' (W2 b o e hx) e1 (I.base.free b o e n hx)
 .obtain⟨o',e1⟩:=I.base.there b o e hx;exact there b o' (W2 b o e hx) e1
 .obtain⟨m1,e1⟩:=I.base.oV b ps e;obtain⟨m2,e2⟩:=oV b _ e1;exact⟨m1++m2,by rw[e2,Array.append_assoc]⟩
 .obtain⟨m,hn,hl⟩:=I.loc;refine⟨m,ns m hn,fun i x v e1 e2 e3=>?_⟩;obtain⟨u,r,l⟩:=hl i x v e1 e2 e3;refine⟨u,r,?_⟩;rcases l with l |⟨k,c,e,z⟩
  .exact .inl l
  .exact .inr ⟨k,c,e,cellK x c e _ z⟩
 .obtain⟨v,z⟩:=I.cell x c e;exact⟨v,cellK x c e v z⟩
 .obtain⟨m,⟨o,_,_,ho,_⟩,_⟩:=I.loc;exact free _ o (fun z=>(Nd _ z).2.1 rfl) ho I.free
 .obtain⟨v,o,ho,hd⟩:=I.cell x c e;exact free c o (fun z=>(Nd c z).2.2.1 x c e rfl) ho (I.iS x c e)
 .obtain⟨e,n,ne,nf,d⟩:=I.pin p hp;have T5:p.1 ∉ ch:=fun z=>(Nd p.1 z).2.2.2 p hp rfl;exact⟨keep p.1 p.2 ne nf T5 e n,free p.1 p.2 T5 e n,ne,nf,d⟩
theorem Inv.un(I:Inv X pins G H s)(u:Un X.fs [] H H' s.heap h')(bS:jV X.prog X.w H' h'):Inv X pins G H' {s with heap:=h',toks:=t' }:=by
 obtain⟨m,⟨o,es,ep,ho,r⟩,_⟩:=id I.loc;obtain⟨sl,hL⟩:=u.any ho I.free (by simp);exact I.step (g':=s.gens) (d':=s.drawn) (ch:=[]) (fun _ z=>nomatch z) (fun b o _ hb _ e n=>u.keep b o e n hb (by simp)) (fun b o _ hb _ e n=>u.slot b o e n hb (by simp)) (fun b o _ e n=>u.free b o e n (by simp)) (fun b o _ e=>u.there b o e (by simp)) u.o7 u.oU u.oV (fun m' hm=>by
  obtain⟨o',rH,JB,rF,r'⟩:=hm;rw[ho] at rF;cases rF;exact⟨_,rH,JB,hL,r'⟩) bS I.bare
theorem Inv.call(I:Inv X pins G H s)(u:Un (qt X.stack) ch H H' s.heap h')(bS:jV X.prog X.w H' h')(hg:AllBare g')
 (Nd:∀b∈ch,(b∈X.ex\/X.s₀.heap.objs.size<=b)/\b≠X.env.locals/\(∀x c,X.env.cells.lookup x=some c->c≠b)/\∀p∈X.pn++pins,p.1≠b) :
 Inv X pins G H' {s with heap:=h',gens:=g',drawn:=d',toks:=t' }:=by
 obtain⟨m,⟨o,es,ep,ho,r⟩,_⟩:=id I.loc;obtain⟨sl,hL⟩:=u.any ho I.free fun z=>(Nd _ z).2.1 rfl;exact I.step (ch:=ch) Nd (fun b o hL hb hc e n=>u.keep b o e n (fun z=>(zak.mp (I.rG b z)).elim hL hb) hc) (fun b o _ _ hc e n=>u.any e n hc) (fun b o hc e n=>u.free b o e n hc) (fun b o hc e=>u.there b o e hc) u.o7 u.oU u.oV (fun m' hm=>by
  obtain⟨o',rH,JB,rF,r'⟩:=hm;rw[ho] at rF;cases rF;exact⟨_,rH,JB,hL,r'⟩) bS hg
theorem Inv.turned(I:Inv X pins G H s)(k:∀b o,b≠it->s.heap.get? b=some o->h'.get? b=some o)(hn:H it=none)(hL:it≠X.env.locals)
 (h1:it∈X.ex\/X.s₀.heap.objs.size<=it) (h2:∀x c,X.env.cells.lookup x=some c->c≠it) (h3:∀p∈X.pn++pins,p.1≠it):Inv X pins G H {s with heap:=h',toks:=t' }:=by
 have T7:∀b u,H b=some u->b≠it:=fun b u e z=>by rw[z,hn] at e;cases e
 refine I.step (g':=s.gens) (d':=s.drawn) (ch:=[it]) (fun b hb=>?_) (fun b o _ _ hc e _=>k b o (fun z=>hc (by simp[z])) e) (fun b o _ _ hc e _=>⟨o.slots,k b o (fun z=>hc (by simp[z])) e⟩) (fun _ _ _ _ n=>n)
  (fun b o hc e=>⟨o,k b o (fun z=>hc (by simp[z])) e⟩) (fun _ _ e=>e) (fun _ _ _ e=>e) (fun b ps e=>⟨#[],by rw[e];simp⟩) (fun m hm=>?_) (fun b u e=>?_) I.bare
 .have e:b=it:=by simpa using hb
  subst e;exact⟨h1,hL,h2,h3⟩
 .obtain⟨o,es,ep,ho,r⟩:=hm;exact⟨o,es,ep,k _ o (Ne.symm hL) ho,r⟩
 .refine(I.bS b u e).sY (fun c v hc q=>k c v ?_ q) (fun _ q=>q) fun _ _ q=>q;rcases hc with z |z
  .rw[z];exact T7 b u e
  .exact T7 c _ z
theorem Inv.tok(I:Inv X pins G H s)(t:Nat):Inv X pins G H {s with toks:=t}:=I.un (h':=s.heap) (t':=t) Un.refl I.bS
theorem Inv.kept(I:Inv X pins G H s)(k:∀b u,s.heap.get? b=some u->h'.get? b=some u):Inv X pins G H {s with heap:=h',toks:=t' }:=I.un (Un.kept k) (I.bS.kept k)
theorem Inv.laid{a:zdF}(I:Inv X pins G H s)(k:∀b u,s.heap.get? b=some u->h'.get? b=some u)(hp:s.heap.objs.size<=a)(new:bZ X.prog X.w (upd H a o) h' a o) :
 Inv X pins G (upd H a o) {s with heap:=h',toks:=t' }:=I.un (Un.laid k hp (I.bS.fresh hp)) (I.bS.laid k hp new)
theorem Inv.write(I:Inv X pins G H s)(mu:T1 (H x))(he:e=x\/H e=some (.own x))(k:∀b u,b≠e->s.heap.get? b=some u->h'.get? b=some u)(Td:∃u,h'.get? e=some u)
 (new:bZ X.prog X.w (upd H x o) h' x o):Inv X pins G (upd H x o) {s with heap:=h',toks:=t' }:=I.un (Un.write mu he k Td) (I.bS.write mu he k Td new)
theorem Inv.Fv(I:Inv X pins G H s)(h:∀p∈vM,s.heap.get? p.1=some p.2/\H p.1=none/\p.1≠X.env.locals/\p.1 ∉ X.fs/\∀v,p.2.data≠.cell v):Inv X vM G H s:=
 ⟨I.ok,I.os,I.bare,I.base,I.loc,I.cell,I.free,I.iS,fun p hp=>(zan.mp hp).elim (fun z=>I.pin p (zbb _ z)) (h p),I.bS,I.len⟩
theorem w4{N:List Str}(hN:N.Nodup){i j:Nat}(a:N[i]?=some x)(b:N[j]?=some x):i=j:=by
 obtain⟨h1,e1⟩:=zap.mp a;obtain⟨h2,e2⟩:=zap.mp b;exact(List.getElem_inj hN).mp (e1.trans e2.symm)
theorem zh(I:Inv X pins G H s)(hN:X.N.Nodup)(hi:X.N[i]?=some x)(hx:Loc X.env.scope x)(r:RelV v u)
 (h:∀s',Inv X pins (G.set i (some v)) H s'->(∃a,yay a s.heap s'.heap/\(a=X.env.locals\/X.env.cells.lookup x=some a))->Q () s') (hf:X.fn x=true\/X.env.scope.names.lookup x=some .local:=by first |exact .inl rfl |exact .inr rfl |assumption):yab M A (storeName X.env x u) Q E s:=by
 obtain⟨m,hn,hl⟩:=id I.loc;have Yd:(X.env.scope.kind==.class ||(X.env.scope.kind==.module&&X.env.locals != X.env.globals))=false:=by rw[I.ok.kind];rfl
 have T8:i<G.length:=by rw[I.len];exact(zap.mp hi).1
 have Jk:=I.Jk;have tracked:∀{a:zdF} {h':yaf},(∃o,s.heap.get? a=some o/\H a=none)->yay a s.heap h'->jV X.prog X.w H h':=fun {a h'} ha hs b ob e=>by
  obtain⟨_,_,tD⟩:=ha;refine(I.bS b ob e).sY (fun c w' hc q=>(hs.2 c ?_).trans q) (fun _ q=>q) fun _ _ q=>q
  rintro rfl
  rcases hc with rfl |hc
  .rw[tD] at e;cases e
  .rw[tD] at hc;cases hc
 rcases hx with hk |hk
 .refine wpAny_storeName_local hk hn (fun h' Ye hs=>?_) Yd;obtain⟨oL,_,_,W4,_⟩:=id hn;refine h _ ⟨I.ok,I.os,I.bare,⟨fun b o e n hb hx=>?_,fun b o e n hb hx=>?_,I.base.free,fun b o e hx=>?_,I.base.o7,I.base.oU,I.base.oV⟩,⟨_,Ye,fun j y v' e1 e2 e3=>?_⟩,fun y c e=>?_,I.free,I.iS,fun p hp=>?_,tracked ⟨oL,W4,I.free⟩ hs,by simpa using I.len⟩ ⟨_,hs,.inl rfl⟩
  .exact(hs.2 b (zaz (zat (yad e) I.ok.above))).trans (I.base.keep b o e n hb hx)
  .obtain⟨sl,e1⟩:=I.base.slot b o e n hb hx;exact⟨sl,(hs.2 b (zaz (zat (yad e) I.ok.above))).trans e1⟩
  .obtain⟨o',e1⟩:=I.base.there b o e hx;exact⟨o',(hs.2 b (zaz (zat (yad e) I.ok.above))).trans e1⟩
  .by_cases hj:j=i
   .subst hj;rw[hi] at e1;cases e1;rw[zb5 T8] at e2;cases e2;exact⟨u,r,.inl ⟨hk,by simp⟩⟩
   .rw[zb9 (Ne.symm hj)] at e2;obtain⟨u',r',q⟩:=hl j y v' e1 e2 e3;refine⟨u',r',?_⟩;rcases q with ⟨k,e⟩ |⟨k,c,e,z⟩
    .refine .inl ⟨k,?_⟩;have:y≠x:=fun e=>hj (w4 hN e1 (e▸hi));simp[this,e]
    .exact .inr ⟨k,c,e,z.sameBut hs (Jk y c e)⟩
  .obtain⟨w',z⟩:=I.cell y c e;exact⟨w',z.sameBut hs (Jk y c e)⟩
  .obtain⟨e,n,ne,nf,d⟩:=I.pin p hp;exact⟨(hs.2 p.1 ne).trans e,n,ne,nf,d⟩
 .have QZ:X.fn x=true:=by
   rcases hf with z |z
   .exact z
   .rw[z] at hk;cases hk
  obtain⟨c,hc⟩:=I.ok.has x (.inl hk);obtain⟨w',z⟩:=I.cell x c hc;refine wpAny_storeName_cell I.ok.kind hk hc z (fun h' Q0 hs=>?_);obtain⟨oc,NL,Yf⟩:=id z;refine h {s with heap:=h' } ⟨I.ok,I.os,I.bare,⟨fun b o e n hb hx=>?_,fun b o e n hb hx=>?_,I.base.free,fun b o e hx=>?_,I.base.o7,I.base.oU,I.base.oV⟩,⟨m,hn.sameBut hs (Ne.symm (Jk x c hc)),fun j y v' e1 e2 e3=>?_⟩,fun y c' e=>?_,I.free,I.iS,fun p hp=>?_,tracked ⟨oc,NL,I.iS x c hc⟩ hs,by simpa using I.len⟩ ⟨c,hs,.inr hc⟩
  .exact(hs.2 b (zaz (zat (yad e) (I.ok.Ho x c QZ hc)))).trans (I.base.keep b o e n hb hx)
  .obtain⟨sl,e1⟩:=I.base.slot b o e n hb hx;exact⟨sl,(hs.2 b (zaz (zat (yad e) (I.ok.Ho x c QZ hc)))).trans e1⟩
  .obtain⟨o',e1⟩:=I.base.there b o e hx;exact⟨o',(hs.2 b (zaz (zat (yad e) (I.ok.Ho x c QZ hc)))).trans e1⟩
  .by_cases hj:j=i
   .subst hj;rw[hi] at e1;cases e1;rw[zb5 T8] at e2;cases e2;exact⟨u,r,.inr ⟨.inl hk,c,hc,Q0⟩⟩
   .rw[zb9 (Ne.symm hj)] at e2;obtain⟨u',r',q⟩:=hl j y v' e1 e2 e3;refine⟨u',r',?_⟩;rcases q with q |⟨k,c',e,z'⟩
    .exact .inl q
    .refine .inr ⟨k,c',e,z'.sameBut hs ?_⟩
     rintro rfl
     exact hj (w4 hN e1 (I.ok.inj _ _ _ e hc▸hi))
  .by_cases BA:c'=c
   .subst BA;exact⟨_,Q0⟩
   .obtain⟨w2,z2⟩:=I.cell y c' e;exact⟨w2,z2.sameBut hs BA⟩
  .obtain⟨e,n,ne,nf,d⟩:=I.pin p hp;refine⟨(hs.2 p.1 ?_).trans e,n,ne,nf,d⟩;intro q;rw[q,NL] at e;have q':oc=p.2:=za5.inj e;exact d w' (by rw[<- q'];exact Yf)
theorem w5(I:Inv X pins G H s)(hN:X.N.Nodup)(hi:X.N[i]?=some x)(hx:Loc X.env.scope x)(r:RelV v u)
 (h:∀s',Inv X pins (G.set i (some v)) H s'->Q () s') (hf:X.fn x=true\/X.env.scope.names.lookup x=some .local:=by first |exact .inl rfl |exact .inr rfl |assumption):yab M A (storeName X.env x u) Q E s:=
 zh I hN hi hx r (fun s' I' _=>h s' I') hf
theorem Inv.PF(I:Inv X pins G H s)(ho:s'.os=s.os)(u:Un (qt X.stack) ch H H' s.heap s'.heap)(bS:jV X.prog X.w H' s'.heap)(hg:AllBare s'.gens)
 (Nd:∀b∈ch,(b∈X.ex\/X.s₀.heap.objs.size<=b)/\b≠X.env.locals/\(∀x c,X.env.cells.lookup x=some c->c≠b)/\∀p∈X.pn++pins,p.1≠b):Inv X pins G H' s':=by
 obtain⟨h',g',d',t',o'⟩:=s';have e:o'=s.os:=ho;subst e;exact I.call (g':=g') (t':=t') (d':=d') u bS hg Nd
end
abbrev XK:=zdG->Option zdF->Hp->Prop
abbrev St:=List (Option V)
abbrev VK:=V->Hp->Prop
abbrev TE:=St->Hp->VK->Prop
abbrev TT:=St->Hp->(Bool->Hp->Prop)->Prop
abbrev TA:=St->Hp->(List V->Hp->Prop)->Prop
set_option genInjectivity false in
structure Ends where
 nx:St->Hp->Prop
 rt:VK
 bk:St->Hp->Prop:=fun _ _=>False
 ct:St->Hp->Prop:=fun _ _=>False
abbrev TS:=Ends->St->Hp->Prop
def EP (X:Cx)(pins:List (zdF×Obj))(G:St)(Q:VK)(u:zdG)(s':zdP):Prop:=∃v H',Inv X pins G H' s'/\RelV v u/\Q v H'
def TP (X:Cx)(pins:List (zdF×Obj))(G:St)(Q:Bool->Hp->Prop)(b:Bool)(s':zdP):Prop:=∃H',Inv X pins G H' s'/\Q b H'
def AP (X:Cx)(pins:List (zdF×Obj))(G:St)(Q:List V->Hp->Prop)(us:List zdG)(s':zdP):Prop:=∃vs H',Inv X pins G H' s'/\Vals vs us/\Q vs H'
def SP (X:Cx)(pins:List (zdF×Obj))(D:Ends)(f:Flow)(s':zdP):Prop:=
 match f with
 |.next=>∃G' H',Inv X pins G' H' s'/\D.nx G' H'
 |.brk=>∃G' H',Inv X pins G' H' s'/\D.bk G' H'
 |.cont=>∃G' H',Inv X pins G' H' s'/\D.ct G' H'
 |.ret u=>∃v G' H',Inv X pins G' H' s'/\RelV v u/\D.rt v H'
def PE (X:Cx)(e:Expr)(t:TE):Prop:=
 ∀(pins:List (zdF×Obj)) (s:zdP) (G:St) (H:Hp) (Q:VK),Inv X pins G H s->t G H Q->yab (model X.prog X.w) X.A (eval e X.env) (EP X pins G Q) X.xe s
def PT (X:Cx)(e:Expr)(t:TT):Prop:=
 ∀(pins:List (zdF×Obj)) (s:zdP) (G:St) (H:Hp) (Q:Bool->Hp->Prop),Inv X pins G H s->t G H Q->yab (model X.prog X.w) X.A (isTrue e X.env (eval e X.env)) (TP X pins G Q) X.xe s
def PW (X:Cx)(e:Expr)(t:TT):Prop:=
 ∀(whole:Sem zdG) (pins:List (zdF×Obj)) (s:zdP) (G:St) (H:Hp) (Q:Bool->Hp->Prop),Inv X pins G H s->t G H Q->yab (model X.prog X.w) X.A (isTrue e X.env whole) (TP X pins G Q) X.xe s
theorem PW.pt{X:Cx}{e:Expr}{t:TT}(h:PW X e t):PT X e t:=h _
def PA (X:Cx)(es:List Expr)(t:TA):Prop:=
 ∀(pos:Pos) (pins:List (zdF×Obj)) (s:zdP) (G:St) (H:Hp) (Q:List V->Hp->Prop),Inv X pins G H s->t G H Q->yab (model X.prog X.w) X.A (spliced (backTo pos (zdL es X.env))) (AP X pins G Q) X.xe s
def PS (X:Cx)(st:Stmt)(t:TS):Prop:=
 ∀(pins:List (zdF×Obj)) (s:zdP) (G:St) (H:Hp) (D:Ends),Inv X pins G H s->t D G H->yab (model X.prog X.w) X.A (exec st X.env) (SP X pins D) X.xe s
def BO (X:Cx)(st:List Stmt)(t:TS):Prop:=
 ∀(pins:List (zdF×Obj)) (s:zdP) (G:St) (H:Hp) (D:Ends),Inv X pins G H s->t D G H->yab (model X.prog X.w) X.A (execs st X.env) (SP X pins D) X.xe s
theorem fC{O:Type}{t:Sem O}{Q Q':O->zdP->Prop}(h:yab M A t Q E s)(hQ:∀a s,Q a s->Q' a s):yab M A t Q' E s:=yaw h hQ fun _ _ x=>x
section
variable{X:Cx}
theorem bin(ha:PE X a ta)(hb:PE X b tb){G:St}{R:V->V->Hp->Prop}(I:Inv X pins G H s)(h:ta G H fun x H1=>tb G H1 fun y H2=>R x y H2)
 {O:Type} {Q:O->zdP->Prop} {f:zdG->zdG->Sem O}
 (hf:∀v u s2 x y H2,Inv X pins G H2 s2->RelV x v->RelV y u->R x y H2->yab (model X.prog X.w) X.A (f v u) Q X.xe s2) :
 yab (model X.prog X.w) X.A (eval a X.env) (fun v s₁=>yab (model X.prog X.w) X.A (eval b X.env) (fun u s₂=>yab (model X.prog X.w) X.A (f v u) Q X.xe s₂) X.xe s₁) X.xe s:=by
 refine fC (ha pins s G H _ I h) fun v s1 zqz=>?_;obtain⟨x,H1,I1,r1,q1⟩:=zqz;refine fC (hb pins s1 G H1 _ I1 q1) fun u s2 zqz=>?_;obtain⟨y,H2,I2,r2,q2⟩:=zqz;exact hf v u s2 x y H2 I2 r1 r2 q2
def vAt (Q:V->Prop):Option (Option V)->Prop
 |some (some v)=>Q v
 |_=>False
theorem Q1:∀{o:Option (Option V)},vAt Q o->∃v,o=some (some v)/\Q v
 |some (some v),h=>⟨v,rfl,h⟩
 |some none,h=>h.elim
 |none,h=>h.elim
def fO (i:Nat):TE:=fun G H Q=>vAt (fun v=>Q v H) G[i]?
def tC (v:V):TE:=fun _ H Q=>Q v H
theorem Q2{pos:Pos}(hN:X.N[i]?=some x)(hv:T4 X.env.scope x)(hd:(x==("__debug__":Str))=false:=by decide)(BP:(x==("__classdict__":Str))=false:=by decide):PE X (.Name x pos) (fO i):=by
 intro pins s G H Q I h;obtain⟨v,e,h⟩:=Q1 h;obtain⟨m,hn,hl⟩:=I.loc;obtain⟨u,r,l⟩:=hl i x v hN e hv;have fin:EP X pins G Q u s:=⟨v,H,I,r,h⟩
 rcases l with ⟨hk,hm⟩ |⟨hk,c,hc,vN⟩
 .exact wpAny_Name (wpAny_loadName_local I.ok.kind hk hn hm fin) hd
 .rcases hk with hk |hk
  .exact wpAny_Name (wpAny_loadName_cell I.ok.kind hk hc vN fin) hd
  .exact wpAny_Name (wpAny_loadName_free I.ok.kind hk hc vN fin BP) hd
theorem ao{i j pos}:PE X (.Constant (.int i) j pos) (tC (.int i)):=fun _ _ _ H _ I h=>wpAny_Constant_int ⟨.int i,H,I.tok _,⟨_,rfl⟩,h⟩
theorem o8{b j pos}:PE X (.Constant (.bool b) j pos) (tC (.bl b)):=fun _ _ _ H _ I h=>Constant_bool ⟨.bl b,H,I,rfl,h⟩
theorem lU{j pos}:PE X (.Constant .none j pos) (tC .eA):=fun _ _ _ H _ I h=>Constant_none ⟨.eA,H,I,rfl,h⟩
theorem bo{x j pos}:PE X (.Constant (.str x) j pos) (tC (.str x)):=fun _ _ _ H _ I h=>Calls.Constant_str ⟨.str x,H,I.tok _,⟨_,rfl⟩,h⟩
def Gl (X:Cx)(x:Str):Prop:=X.env.kindOf x=some .globalImplicit
theorem mZ{G:St}(I:Inv X pins G H s)(hg:Gl X x)(hm:X.mg x=some u)(h:Q u s)
 (hd:(x==("__debug__":Str))=false:=by decide):yab (model X.prog X.w) X.A (eval (.Name x pos) X.env) Q E s:=
 Calls.Name_function_global I.ok.kind hg (Calls.loadGlobal_global (by rw[I.ok.glob];exact I.mod.glob.keeps I.bk) hm h) hd
theorem m7{E:zdG->zdP->Prop}{G:St}{pos:Pos}(I:Inv X pins G H s)(hg:Gl X x)(hm:X.mg x=none)(hv:bootBuiltins x=some u)(h:Q u s)
 (hn:x≠"__name__":=by decide) (hd:(x==("__debug__":Str))=false:=by decide):yab (model X.prog X.w) X.A (eval (.Name x pos) X.env) Q E s:=by
 obtain⟨mb,h1,h2⟩:=I.mod.blt;exact Calls.Name_function_global I.ok.kind hg (Calls.loadGlobal_builtin (by rw[I.ok.glob];exact I.mod.glob.keeps I.bk) hm (by rw[I.ok.blt];exact h1.keeps I.bk) ((h2 x hn).trans hv) h) hd
theorem dq(hg:Gl X x)(hm:X.mg x=some u)(r:RelV v u)(hd:(x==("__debug__":Str))=false:=by decide):PE X (.Name x pos) (tC v):=
 fun _ _ _ H _ I h=>mZ I hg hm ⟨v,H,I,r,h⟩ hd
theorem NM{pos:Pos}(hg:Gl X x)(hm:X.mg x=none)(hv:bootBuiltins x=some u)(r:RelV v u)(hn:x≠"__name__":=by decide)(hd:(x==("__debug__":Str))=false:=by decide):PE X (.Name x pos) (tC v):=
 fun _ _ _ H _ I h=>m7 I hg hm hv ⟨v,H,I,r,h⟩ hn hd
variable{a b:Expr}{ta tb:TE}{pos:Pos}
def tB (t:TE):TT:=fun G H Q=>t G H fun x H1=>∃c,x=.bl c/\Q c H1
theorem rJ(h:PE X e t)(he:∀whole,isTrue e X.env whole=(do let v <- whole;standAt e.pos;holding [v] (truthy v)):=by intro _;rfl):PT X e (tB t):=by
 intro pins s G H Q I hw;refine isTrue_plain (fC (h pins s G H _ I hw) fun v s1 zqz=>?_) (he _);obtain⟨x,H1,I1,r1,q1⟩:=zqz;obtain⟨d,rfl,q⟩:=q1;cases r1;exact yaN ⟨H1,I1,q⟩
variable{tA W5:TT}{rest:List Expr}
def Q3 (t u:TT):TT:=fun G H Q=>t G H fun c H1=>if c=true then u G H1 Q else Q false H1
def Yg (t u:TT):TT:=fun G H Q=>t G H fun c H1=>if c=true then Q true H1 else u G H1 Q
def T9 (t:TT):TT:=fun G H Q=>t G H fun c H1=>Q (!c) H1
theorem pw_and1(ha:PT X a tA):PW X (.BoolOp .And [a] pos) tA:=by
 intro wh pins s G H Q I h;refine isTrue_and (fC (ha pins s G H Q I h) fun c s1 e=>?_);cases c with
 |true=>exact isTrue_and_nil e
 |false=>exact e
theorem pw_or1(ha:PT X a tA):PW X (.BoolOp .Or [a] pos) tA:=by
 intro wh pins s G H Q I h;refine isTrue_or (fC (ha pins s G H Q I h) fun c s1 e=>?_);cases c with
 |false=>exact isTrue_or_nil e
 |true=>exact e
theorem pw_and(ha:PT X a tA)(hb:PW X (.BoolOp .And (b::rest) pos) W5):PW X (.BoolOp .And (a::b::rest) pos) (Q3 tA W5):=by
 intro wh pins s G H Q I h;refine isTrue_and (fC (ha pins s G H _ I h) fun c s1 zqz=>?_);obtain⟨H1,I1,q1⟩:=zqz;cases c with
 |true=>exact hb wh pins s1 G H1 Q I1 q1
 |false=>exact⟨H1,I1,q1⟩
theorem pw_or(ha:PT X a tA)(hb:PW X (.BoolOp .Or (b::rest) pos) W5):PW X (.BoolOp .Or (a::b::rest) pos) (Yg tA W5):=by
 intro wh pins s G H Q I h;refine isTrue_or (fC (ha pins s G H _ I h) fun c s1 zqz=>?_);obtain⟨H1,I1,q1⟩:=zqz;cases c with
 |true=>exact⟨H1,I1,q1⟩
 |false=>exact hb wh pins s1 G H1 Q I1 q1
theorem Ai(ha:PT X a tA):PT X (.UnaryOp .Not a pos) (T9 tA):=by
 intro pins s G H Q I h;exact isTrue_not (ha pins s G H (fun c H1=>Q (!c) H1) I h)
def JC (ta tb:TE):TE:=fun G H Q=>ta G H fun x H1=>∃c,x=.bl c/\if c=true then tb G H1 Q else Q (.bl false) H1
def JD (ta:TE):TE:=fun G H Q=>ta G H fun x H1=>∃c,x=.bl c/\Q (.bl (!c)) H1
theorem JE{op}(h:PE X a t):PE X (.BoolOp op [a] pos) t:=fun pins s G H Q I hw=>BoolOp_one (h pins s G H Q I hw)
theorem DO(ha:PE X a ta)(hb:PE X (.BoolOp .And (b::rest) pos) tb):PE X (.BoolOp .And (a::b::rest) pos) (JC ta tb):=by
 intro pins s G H Q I h;refine BoolOp_and (fC (ha pins s G H _ I h) fun v s1 zqz=>?_);obtain⟨x,H1,I1,r1,q1⟩:=zqz;obtain⟨c,rfl,q1⟩:=q1;cases r1;refine yaN ?_;cases c with
 |true=>exact hb pins s1 G H1 Q I1 q1
 |false=>exact⟨.bl false,H1,I1,rfl,q1⟩
theorem Q4(ha:PE X a ta):PE X (.UnaryOp .Not a pos) (JD ta):=by
 intro pins s G H Q I h;refine UnaryOp_ (fC (ha pins s G H _ I h) fun v s1 zqz=>?_);obtain⟨x,H1,I1,r1,q1⟩:=zqz;obtain⟨c,rfl,q1⟩:=q1;cases r1;exact not_of (yaN ⟨.bl (!c),H1,I1,rfl,q1⟩)
end
def iR (K:zaa)(H:Hp)(a:zdF)(xs:List V):Prop:=
 Rd H a (.lst xs)\/
  ∃(o:Obj) (bc:Array zdG) (n:Nat),K.lookup a=some o/\o.cls=.type "list"/\o.dict=none/\o.data=.seq bc n/\bc.size<=zdN/\Vals xs bc.toList
def bH (K:zaa)(H:Hp)(a:zdF)(xs:List V):Prop:=
 Rd H a (.tup xs)\/
  ∃(o:Obj) (bc:Array zdG) (n:Nat),K.lookup a=some o/\o.cls=.type "tuple"/\o.data=.seq bc n/\bc.size<=zdN/\Vals xs bc.toList
noncomputable def Yh:zdG->Option V
 |.none=>some .eA
 |.bool b=>some (.bl b)
 |.int i _=>some (.int i)
 |.str x _=>some (.str x)
 |.bytes b _=>some (.Ft b)
 |.float b _=>some (.WY b)
 |.ref a=>some (.ref a)
 |.type n=>some (.ty n)
 |_=>none
theorem RelV.abs(r:RelV x u):Yh u=some x:=by
 cases x with
 |eA=>cases r;rfl
 |bl _=>cases r;rfl
 |int _=>obtain⟨t,rfl⟩:=r;rfl
 |str _=>obtain⟨t,rfl⟩:=r;rfl
 |Ft _=>obtain⟨t,rfl⟩:=r;rfl
 |WY _=>obtain⟨t,rfl⟩:=r;rfl
 |ref _=>cases r;rfl
 |ty _=>cases r;rfl
theorem RelV.inj(r:RelV x u)(q:RelV y u):x=y:=za5.inj (r.abs.symm.trans q.abs)
theorem Vals.inj:∀{xs ys:List V}{us:List zdG},Vals xs us->Vals ys us->xs=ys
 |_,_,_,.nil,.nil=>rfl
 |_,_,_,.cons r t,.cons r' t'=>by rw[r.inj r',Vals.inj t t']
section
variable{X:Cx}{pins:List (zdF×Obj)}{G:St}{H:Hp}{s:zdP}{a:zdF}{xs ys:List V}
theorem iR.of{K:zaa}(h:H a=some (.lst xs)):iR K H a xs:=.inl (.inl h)
theorem bH.of{K:zaa}(h:H a=some (.tup xs)):bH K H a xs:=.inl (.inl h)
theorem Inv.list(I:Inv X pins G H s)(h:iR X.K H a xs):∃bc:List zdG,Vals xs bc/\PlainL s.heap a bc.toArray/\xs.length<=zdN:=by
 rcases h with h |⟨o,bc,n,hk,hc,hd,hs,hz,r⟩
 .obtain⟨z,bc,n,r,e⟩:=h.ok I.bS;exact⟨bc,r,⟨_,n,e,rfl,rfl,rfl⟩,z⟩
 .refine⟨bc.toList,r,⟨o,n,I.zg a o hk,hc,hd,by simpa using hs⟩,?_⟩;have e:=r.length;simp only[zaI] at e;lia
theorem Inv.tuple(I:Inv X pins G H s)(h:bH X.K H a xs):∃bc:List zdG,Vals xs bc/\IsTup s.heap a bc.toArray/\xs.length<=zdN:=by
 rcases h with h |⟨o,bc,n,hk,hc,hs,hz,r⟩
 .obtain⟨z,bc,r,p⟩:=h.ok I.bS;exact⟨bc,r,p,z⟩
 .refine⟨bc.toList,r,⟨o,I.zg a o hk,hc,n,by simpa using hs⟩,?_⟩;have e:=r.length;simp only[zaI] at e;lia
theorem Inv.BQ(I:Inv X pins G H s)(h:iR X.K H a xs)(h':iR X.K H a ys):xs=ys:=by
 obtain⟨bc,r,⟨o,n,e,_,_,d⟩,_⟩:=I.list h;obtain⟨its',r',⟨o',n',e',_,_,d'⟩,_⟩:=I.list h';rw[e] at e';cases e';rw[d] at d'
 injection d' with d1 _
 have:bc=its':=by simpa using ybW zdB d1
 subst this;exact r.inj r'
end
noncomputable abbrev Cx.yx (X:Cx) (E:zdG->zdP->Prop):Cx:={X with xe:=E}
noncomputable abbrev Cx.Ua (X:Cx):Cx:=X.yx fun _ _=>False
theorem Cx.Ok.yx{X:Cx}(ok:X.Ok)(E:zdG->zdP->Prop):(X.yx E).Ok:=
 ⟨ok.mod,ok.kind,ok.glob,ok.blt,ok.above,ok.inj,ok.has,ok.Ho,ok.hd,ok.frames,ok.Nc,ok.Te,ok.bs,ok.BL,ok.Ah,ok.BM,ok.mz,ok.Fu⟩
theorem Cx.Ok.o9{X:Cx}(ok:(X.yx E).Ok):X.Ok:=
 ⟨ok.mod,ok.kind,ok.glob,ok.blt,ok.above,ok.inj,ok.has,ok.Ho,ok.hd,ok.frames,ok.Nc,ok.Te,ok.bs,ok.BL,ok.Ah,ok.BM,ok.mz,ok.Fu⟩
section
variable{X:Cx}{pins:List (zdF×Obj)}{G:St}{H:Hp}{s:zdP}{E:zdG->zdP->Prop}
theorem Inv.yx(I:Inv X pins G H s)(E:zdG->zdP->Prop):Inv (X.yx E) pins G H s:=⟨I.ok.yx E,I.os,I.bare,I.base,I.loc,I.cell,I.free,I.iS,I.pin,I.bS,I.len⟩
theorem Inv.o9(I:Inv (X.yx E) pins G H s):Inv X pins G H s:=⟨I.ok.o9,I.os,I.bare,I.base,I.loc,I.cell,I.free,I.iS,I.pin,I.bS,I.len⟩
theorem SP.o9(h:SP (X.yx E) pins D f s'):SP X pins D f s':=by
 cases f with
 |next=>obtain⟨G',H',I,q⟩:=h;exact⟨G',H',I.o9,q⟩
 |brk=>obtain⟨G',H',I,q⟩:=h;exact⟨G',H',I.o9,q⟩
 |cont=>obtain⟨G',H',I,q⟩:=h;exact⟨G',H',I.o9,q⟩
 |ret u=>obtain⟨v,G',H',I,r,q⟩:=h;exact⟨v,G',H',I.o9,r,q⟩
theorem BO.Ua{st:List Stmt}(h:BO X.Ua st t):BO X st t:=fun pins s G H D I hw=>
 yaw (h pins s G H D (I.yx _) hw) (fun _ _ q=>q.o9) fun _ _ z=>False.elim z
end
section
variable{X:Cx}{st:Stmt}{rest:List Stmt}{t u:TS}{e:Expr}{te:TE}{pos:Pos}
def JF:TS:=fun D G H=>D.nx G H
def NN (t u:TS):TS:=fun D G H=>t {D with nx:=u D} G H
theorem a8:BO X [] JF:=fun _ _ G H _ I h=>ybj ⟨G,H,I,h⟩
theorem aj(h1:PS X st t)(h2:BO X rest u):BO X (st::rest) (NN t u):=by
 intro pins s G H D I h;refine wpAny_execs_cons (fC (h1 pins s G H {D with nx:=u D} I h) fun f s1 q=>?_);cases f with
 |next=>
  obtain⟨G',H',I',q⟩:=q;exact h2 pins s1 G' H' D I' q
 |ret v=>exact q
 |brk=>exact q
 |cont=>exact q
theorem aA(h1:PS X st t):BO X [st] t:=by
 intro pins s G H D I h;refine wpAny_execs_cons (fC (h1 pins s G H D I h) fun f s1 q=>?_);cases f with
 |next=>exact ybj q
 |ret v=>exact q
 |brk=>exact q
 |cont=>exact q
theorem Inv.quiet{G:St}(I:Inv X pins G H s):interactive X.env=false:=by simp[interactive,I.ok.kind]
def JG (te:TE):TS:=fun D G H=>te G H fun _ H1=>D.nx G H1
theorem m8(he:PE X e te)(hs:swapsWith e none pos.line X.env=pure false:=by rfl):PS X (.Expr e pos) (JG te):=by
 intro pins s G H D I h;exact wpAny_Expr_any (fC (he pins s G H _ I h) fun v s1 ⟨x,H1,I1,r1,q1⟩=>⟨G,H1,I1,q1⟩) I.quiet hs
def Q5 (te:TE):TS:=fun D G H=>te G H D.rt
theorem aQ(he:PE X e te):PS X (.Return (some e) pos) (Q5 te):=by
 intro pins s G H D I h;exact wpAny_Return_some (fC (he pins s G H _ I h) fun v s1 ⟨x,H1,I1,r1,q1⟩=>⟨x,G,H1,I1,r1,q1⟩)
def Q6 (c:TT)(t u:TS):TS:=fun D G H=>c G H fun b H1=>if b=true then t D G H1 else u D G H1
theorem bL{c:Expr}{a b:List Stmt}{tc:TT}(hc:PT X c tc)(ha:BO X a t)(hb:BO X b u):PS X (.If c a b pos) (Q6 tc t u):=by
 intro pins s G H D I h;refine wpAny_If (fC (hc pins s G H _ I h) fun d s1 zqz=>?_);obtain⟨H1,I1,q1⟩:=zqz;cases d with
 |true=>exact ha pins s1 G H1 D I1 q1
 |false=>exact hb pins s1 G H1 D I1 q1
end
abbrev TG:=V->St->Hp->(St->Hp->Prop)->Prop
abbrev Q7:=List V->St->Hp->(St->Hp->Prop)->Prop
def PG (X:Cx)(target:Expr)(t:TG):Prop:=
 ∀(pins:List (zdF×Obj)) (s:zdP) (G:St) (H:Hp) (v:V) (u:zdG) (Q:St->Hp->Prop),Inv X pins G H s->RelV v u->t v G H Q->
  yab (model X.prog X.w) X.A (assign target X.env u) (fun _ s'=>∃G' H',Inv X pins G' H' s'/\Q G' H') X.xe s
def W6 (X:Cx)(ts:List Expr)(t:Q7):Prop:=
 ∀(pins:List (zdF×Obj)) (s:zdP) (G:St) (H:Hp) (vs:List V) (us:List zdG) (Q:St->Hp->Prop),Inv X pins G H s->Vals vs us->t vs G H Q->
  yab (model X.prog X.w) X.A (assignInOrder ((assignEach ts X.env).map (·.2)) us) (fun _ s'=>∃G' H',Inv X pins G' H' s'/\Q G' H') X.xe s
abbrev Q8:=V->V->V->Hp->(Hp->Prop)->Prop
def Ub (X:Cx)(t:Q8):Prop:=
 ∀(pins:List (zdF×Obj)) (s:zdP) (G:St) (H:Hp) (o i v:V) (ov iv u:zdG) (Q:Hp->Prop),Inv X pins G H s->RelV o ov->RelV i iv->RelV v u->t o i v H Q->
  yab (model X.prog X.w) X.A (setItem ov iv u) (fun _ s'=>∃H',Inv X pins G H' s'/\Q H') X.xe s
section
variable{X:Cx}{pos:Pos}
def gE (i:Nat):TG:=fun v G H Q=>Q (G.set i (some v)) H
theorem cK{i:Nat}{x:Str}(hN:X.N.Nodup)(hi:X.N[i]?=some x)(hx:Loc X.env.scope x)(hf:X.fn x=true\/X.env.scope.names.lookup x=some .local:=by first |exact .inl rfl |exact .inr rfl |assumption):PG X (.Name x pos) (gE i):=by
 intro pins s G H v u Q I r h;exact wpAny_assign_Name (w5 I hN hi hx r (fun s' I'=>⟨_,H,I',h⟩) hf)
def Q9:Q7:=fun vs G H Q=>vs=[]/\Q G H
def JH (t:TG)(u:Q7):Q7:=fun vs G H Q=>∃v r,vs=v::r/\t v G H fun G' H'=>u r G' H' Q
theorem Aj:W6 X [] Q9:=by
 intro pins s G H vs us Q I r h;obtain⟨e,h⟩:=h;subst e;cases r;exact assignInOrder_nil ⟨G,H,I,h⟩
theorem mB(h1:PG X e t)(h2:W6 X es u)
 (hs:(assignEach (e::es) X.env).map (·.2)=assign e X.env::(assignEach es X.env).map (·.2):=by rfl):W6 X (e::es) (JH t u):=by
 intro pins s G H vs us Q I r h;obtain⟨v,vr,e1,h⟩:=h;subst e1;cases r with
 |cons r rr=>
  rw[hs];refine assignInOrder_cons (fC (h1 pins s G H _ _ _ I r h) fun _ s1 zqz=>?_);obtain⟨G1,H1,I1,q1⟩:=zqz;exact h2 pins s1 G1 H1 _ _ Q I1 rr q1
def Ra (K:zaa)(n:Nat)(t:Q7):TG:=fun v G H Q=>∃a xs,v=.ref a/\bH K H a xs/\xs.length=n/\t xs G H Q
theorem DP{k:Nat}(hc:X.calm=true)(h:W6 X es t)
 (hn:(assignEach es X.env).length=n:=by rfl) (NO:(assignEach es X.env).findIdx? (·.1)=none:=by rfl):PG X (.Tuple es k pos) (Ra X.K n t):=by
 intro pins s G H v u Q I r hw;obtain⟨a,xs,e1,hq,hl,hw⟩:=hw;subst e1;cases r;obtain⟨bc,rv,ht,hz⟩:=I.tuple hq;refine assign_Tuple_tuple (I.ok.hd hc) ht (by simp[hn,<- hl,rv.length]) NO fun h' hx=>?_;have I1:Inv X pins G H {s with heap:=h' }:=I.kept (t':=s.toks) fun b o e=>hx b o (zaz (yad e)) e;exact h pins _ G H xs _ Q I1 (by simpa using rv) hw
def Rb (to ti:TE)(t:Q8):TG:=fun v G H Q=>to G H fun o H1=>ti G H1 fun i H2=>t o i v H2 fun H3=>Q G H3
theorem JI(ho:PE X o to)(hi:PE X i ti)(hs:Ub X t)
 (ha:∀v,assign (.Subscript o i pos) X.env v=(do
  let ov <- holding [v] (eval o X.env)
  let iv <- holding [v,ov] (eval i X.env)
  standAt pos
  holding [v,ov,iv] (setItem ov iv v)
  release [v,ov,iv] []):=by intro _;rfl):PG X (.Subscript o i pos) (Rb to ti t):=by
 intro pins s G H v u Q I r h;rw[ha];refine zdI (zdK (fC (ho pins s G H _ I h) fun ov s1 zqz=>?_));obtain⟨x,H1,I1,r1,q1⟩:=zqz;refine zdI (zdK (fC (hi pins s1 G H1 _ I1 q1) fun iv s2 zqz=>?_));obtain⟨y,H2,I2,r2,q2⟩:=zqz;refine zdI (wpAny_standAt (zdI (zdK (fC (hs pins s2 G H2 x y v ov iv u _ I2 r1 r2 r q2) fun _ s3 zqz=>?_))));obtain⟨H3,I3,q3⟩:=zqz;exact wpAny_release ⟨G,H3,I3,q3⟩
def Hq (te:TE)(g:TG):TS:=fun D G H=>te G H fun x H1=>g x G H1 D.nx
theorem JJ(he:PE X e te)(hg:PG X tg g)(hs:swapsWithSole [tg] e pos.line X.env=pure false:=by rfl)(hw:swappedStores [tg] e X.env=pure none:=by rfl)
 (h1:(assignEach [tg] X.env).map (·.2)=[assign tg X.env]:=by rfl):PS X (.Assign [tg] e pos) (Hq te g):=by
 intro pins s G H D I h;refine wpAny_Assign_stores (fC (he pins s G H _ I h) fun v s1 zqz=>?_) hs hw;obtain⟨x,H1,I1,r1,q1⟩:=zqz;rw[h1];exact fC (hg pins s1 G H1 x v _ I1 r1 q1) fun _ s2 q=>q
theorem bO{i:Nat}{x:Str}{e:Expr}{te:TE}{pos':Pos}(hN:X.N.Nodup)(hi:X.N[i]?=some x)(hx:Loc X.env.scope x)(he:PE X e te)(hs:swapsWith e (some (.Name x pos')) pos.line X.env=pure false:=by rfl)(hf:X.fn x=true\/X.env.scope.names.lookup x=some .local:=by first |exact .inl rfl |exact .inr rfl |assumption) :
 PS X (.Assign [.Name x pos'] e pos) (Hq te (gE i)):=by
 intro pins s G H D I h;refine wpAny_Assign_Name (fC (he pins s G H _ I h) fun v s1 zqz=>?_) hs;obtain⟨y,H1,I1,r1,q1⟩:=zqz;exact w5 I1 hN hi hx r1 (fun s2 I2=>⟨_,H1,I2,q1⟩) hf
end
section
variable{X:Cx}{pos:Pos}
def DQ (c:TT)(tb:TS):TS:=fun D G H=>∃W:Nat->St->Hp->Prop,(∃m,W m G H)/\∀m G H,W m G H->
 c G H fun b H1=>if b=true then ∃N:St->Hp->Prop,(∀G' H',N G' H'->∃m',m'<m/\W m' G' H')/\tb {D with nx:=N,ct:=N,bk:=D.nx} G H1 else D.nx G H1
theorem w6(hp:PassesOwn (model X.prog X.w) X.A X.env X.xe)(hc:PT X c tc)(hb:BO X body tb):PS X (.While c body [] pos) (DQ tc tb):=by
 intro pins s G H D I h;obtain⟨W,⟨m0,w0⟩,turn⟩:=h;refine wpAny_While (codeAny_whileLoop (fun n s'=>∃G' H',Inv X pins G' H' s'/\W n G' H') ?_ m0 ⟨G,H,I,w0⟩)
 rintro n s1 ⟨G1,H1,I1,w1⟩
 refine yaW hp (fC (hc pins s1 G1 H1 _ I1 (turn n G1 H1 w1)) fun b s2 zqz=>?_);obtain⟨H2,I2,q2⟩:=zqz;cases b with
 |true=>
  obtain⟨N,hN,q2⟩:=q2;rw[ybS rfl];refine yaW hp (fC (hb pins s2 G1 H2 _ I2 q2) fun f s3 q3=>?_);cases f with
  |next=>
   obtain⟨G3,H3,I3,n3⟩:=q3;obtain⟨m',hm,w3⟩:=hN G3 H3 n3;exact⟨m',hm,G3,H3,I3,w3⟩
  |cont=>
   obtain⟨G3,H3,I3,n3⟩:=q3;obtain⟨m',hm,w3⟩:=hN G3 H3 n3;exact⟨m',hm,G3,H3,I3,w3⟩
  |brk=>exact q3
  |ret v=>exact q3
 |false=>
  rw[ybR zam];exact ybj ⟨G1,H2,I2,q2⟩
end
set_option genInjectivity false in
structure It where
 go:Nat->Hp->Prop
 Hr:Nat->Hp->V->Hp->Prop
 stop:Nat->Hp->Prop
def tE (X:Cx)(pins:List (zdF×Obj))(H:Hp)(b:zdF):Prop:=
 H b=none/\b≠X.env.locals/\b ∉ X.fs/\(b∈X.ex\/X.s₀.heap.objs.size<=b)/\(∀x c,X.env.cells.lookup x=some c->c≠b)/\∀p∈X.pn++pins,p.1≠b
theorem Inv.JK{G:St}{b:zdF}(I:Inv X pins G H s)(hb:s.heap.objs.size<=b)(hn:H' b=none):tE X pins H' b:=by
 refine⟨hn,zaW (zat I.lt hb),I.Yc hb,.inr (zax I.sz hb),fun x c e z=>?_,fun p hp z=>?_⟩
 .obtain⟨v,q⟩:=I.cell x c e;exact ybX (zat q.lt (by rw[z];exact hb)) (zaO _)
 .exact ybX (zat (yad (I.pin p hp).1) (by rw[z];exact hb)) (zaO _)
structure Turn(P:zdR)(w:zdH)(K:zaa)(tg:Expr)(J:It)(fp:List zdF)(it:zdF)(tn:Nat->yaf->Prop):Prop where
 mem:it∈fp
 obj:∀i h,tn i h->∀b∈fp,∃o,h.get? b=some o/\∀v,o.data≠.cell v
 keep:∀i h h',tn i h->(∀b∈fp,∀o,h.get? b=some o->h'.get? b=some o)->tn i h'
 item:∀(X:Cx),X.prog=P->X.w=w->X.K=K->X.calm=true->∀(i:Nat) (pins:List (zdF×Obj)) (s:zdP) (G:St) (H:Hp) (E:zdG->zdP->Prop),Inv X pins G H s->(∀b∈fp,tE X pins H b)->tn i s.heap->J.go i H->
  yab (model P w) X.A (yaR (.ref it)) (fun r s1=>∃u,r=some u/\
   yab (model P w) X.A (letOwnedTupleGo tg (.ref it) u) (fun _ s2=>∃x H',Inv X pins G H' s2/\RelV x u/\J.Hr i H x H'/\tn (i+1) s2.heap/\∀b∈fp,H' b=none) E s1) E s
 done:∀(X:Cx),X.prog=P->X.w=w->X.K=K->X.calm=true->∀(i:Nat) (pins:List (zdF×Obj)) (s:zdP) (G:St) (H:Hp) (E:zdG->zdP->Prop),Inv X pins G H s->(∀b∈fp,tE X pins H b)->tn i s.heap->J.stop i H->
  yab (model P w) X.A (yaR (.ref it)) (fun r s1=>r=none/\Inv X pins G H s1) E s
 self:∀(A:zdQ) (i:Nat) (s:zdP) (Q:zdG->zdP->Prop) (E:zdG->zdP->Prop),tn i s.heap->Q (.ref it) s->yab (model P w) A (pyIter (.ref it)) Q E s
abbrev TI:=St->Hp->(It->Hp->Prop)->Prop
def PIE (X:Cx)(pins:List (zdF×Obj))(G:St)(tg:Expr)(R:It->Hp->Prop)(Yi:zdG)(s2:zdP):Prop:=
 ∃(it:zdF) (fp:List zdF) (tn:Nat->yaf->Prop) (J:It) (H':Hp),Yi=.ref it/\Inv X pins G H' s2/\Turn X.prog X.w X.K tg J fp it tn/\tn 0 s2.heap/\(∀b∈fp,tE X pins H' b)/\R J H'
def PI (X:Cx)(tg iter:Expr)(wi:TI):Prop:=
 ∀(pins:List (zdF×Obj)) (s:zdP) (G:St) (H:Hp) (R:It->Hp->Prop),Inv X pins G H s->wi G H R->
  yab (model X.prog X.w) X.A (eval iter X.env) (fun v s1=>yab (model X.prog X.w) X.A (pyIter v) (PIE X pins G tg R) X.xe s1) X.xe s
theorem JL(ho:s.heap.get? it=some o)(hc:o.cls=.type n)(hd:o.data=.fields vs)
 (hn:["enumerate", "zip", "dict_itemiterator", "dict_reverseitemiterator", "odict_iterator", "itertools.zip_longest", "itertools.pairwise"].contains n=false) (hQ:Q () s):yab M A (letOwnedTupleGo tg (.ref it) u) Q E s:=by
 unfold letOwnedTupleGo;cases tg<;>first
  |exact zdJ hQ
  |(cases u<;>first
     |exact zdJ hQ
     |(refine zdI (wpAny_load ho ?_)
       rw[hc,hd];show yab M A (if (["enumerate", "zip", "dict_itemiterator", "dict_reverseitemiterator", "odict_iterator", "itertools.zip_longest", "itertools.pairwise"].contains n&&vs[0]?==some (yaS _))=true then _ else _) Q E s;rw[ybR (by intro h;rw[hn,zdp] at h;cases h)];exact zdJ hQ))
noncomputable def Hs (K:zaa)(a:zdF):It:=
 ⟨fun i H=>∃xs x,iR K H a xs/\xs[i]?=some x,fun i H x H'=>H'=H/\∀xs,iR K H a xs->xs[i]?=some x,fun i H=>∃xs,iR K H a xs/\xs.length<=i⟩
noncomputable def NP (lo:Int)(n:Nat):It:=⟨fun i _=>i<n,fun i H x H'=>H'=H/\x=.int (lo+i),fun i _=>n<=i⟩
theorem Ht{K:zaa}(a it:zdF):Turn P w K tg (Hs K a) [it] it (fun i h=>h.IsListIter it a i) where
 mem:=by simp
 obj:=fun i h st b hb=>by
  have e:b=it:=by simpa using hb
  subst e;obtain⟨o,e,c,d⟩:=st;exact⟨o,e,fun v z=>by rw[d] at z;cases z⟩
 keep:=fun i h h' st k=>st.at fun o e=>k it (by simp) o e
 item:=by
  intro X hP hw hK hc i pins s G H E I hf st hg;subst hP hw hK;obtain⟨xs,x,hq,hx⟩:=hg;obtain⟨bc,rv,p,hz⟩:=I.list hq;obtain⟨u,hu,ru⟩:=rv.get hx;obtain⟨f0,f1,f2,f3,f4,f5⟩:=hf it (by simp);refine ybv st p.isList (x:=u) (by simpa using hu) fun h' BB sb=>?_;have I1:Inv X pins G H {s with heap:=h' }:=I.turned (t':=s.toks) (fun b o hb e=>(sb.2 b hb).trans e) f0 f1 f3 f4 f5;obtain⟨o,e,c,d⟩:=id BB;exact⟨u,rfl,JL (s:={s with heap:=h' }) e c d (by decide) ⟨x,H,I1,ru,⟨rfl,fun ys hy=>by rw[I.BQ hy hq];exact hx⟩,BB,fun b hb=>(hf b hb).1⟩⟩
 done:=by
  intro X hP hw hK hc i pins s G H E I hf st hg;subst hP hw hK;obtain⟨xs,hq,hx⟩:=hg;obtain⟨bc,rv,p,hz⟩:=I.list hq;obtain⟨f0,f1,f2,f3,f4,f5⟩:=hf it (by simp);have hl:=rv.length;exact ybA (I.ok.hd hc) st p.isList (by simp;lia) fun h' eb=>⟨rfl,I.turned (t':=s.toks) (fun b o hb e=>eb b o hb e) f0 f1 f3 f4 f5⟩
 self:=fun _ _ _ _ _ st h=>wpAny_pyIter_listiter st h
theorem DR{K:zaa}(it:zdF)(lo:Int)(n:Nat):Turn P w K tg (NP lo n) [it] it (fun i h=>IsRangeIter h it (lo+(i:Nat)*1) ((n:Int)-(i:Nat)) 1) where
 mem:=by simp
 obj:=fun i h st b hb=>by
  have e:b=it:=by simpa using hb
  subst e;exact⟨_,st,fun v z=>by
   have z':Data.fields _=Data.cell v:=z;cases z'⟩
 keep:=fun i h h' st k=>k it (by simp) _ st
 item:=by
  intro X hP hw hK hc i pins s G H E I hf st hg;subst hP hw hK;obtain⟨f0,f1,f2,f3,f4,f5⟩:=hf it (by simp);have W:=Walks.range (prog:=X.prog) (w:=X.w) (I.ok.hd hc) it lo 1 n;refine W.item i s _ _ hg st fun v h' tk hv BB kk=>?_;obtain⟨t,rfl⟩:=hv;have I1:Inv X pins G H {s with heap:=h',toks:=tk}:=I.turned (fun b o hb e=>kk b o (by simpa using hb) e) f0 f1 f3 f4 f5;refine⟨_,rfl,JL (s:={s with heap:=h',toks:=tk}) (n:="range_iterator") BB rfl rfl (by decide) ⟨.int (lo+i),H,I1,⟨t,?_⟩,⟨rfl,rfl⟩,BB,fun b hb=>(hf b hb).1⟩⟩;rw[Int.mul_one]
 done:=by
  intro X hP hw hK hc i pins s G H E I hf st hg;subst hP hw hK;obtain⟨f0,f1,f2,f3,f4,f5⟩:=hf it (by simp);exact wpAny_pyNext_range_end (I.ok.hd hc) st (by have:n<=i:=hg;lia) fun h' eb=>⟨rfl,I.turned (t':=s.toks) (fun b o hb e=>eb b o hb e) f0 f1 f3 f4 f5⟩
 self:=fun _ _ _ _ _ st h=>wpAny_pyIter_rangeiter st h
section
variable{X:Cx}{tg:Expr}
def Fw (K:zaa)(tl:TE):TI:=fun G H R=>tl G H fun x H1=>∃a,x=.ref a/\(∃xs,iR K H1 a xs)/\R (Hs K a) H1
theorem eM{l:Expr}{tl:TE}(hl:PE X l tl):PI X tg l (Fw X.K tl):=by
 intro pins s G H R I h;refine fC (hl pins s G H _ I h) fun v s1 zqz=>?_;obtain⟨x,H1,I1,r1,q1⟩:=zqz;obtain⟨a,e,⟨xs,hq⟩,q⟩:=q1;subst e;cases r1;obtain⟨bc,rv,p,hz⟩:=I1.list hq;refine yaF p.isList ?_;refine⟨s1.heap.objs.size,[s1.heap.objs.size],_,_,H1,rfl,I1.kept (t':=s1.toks) fun b o e=>yaa _ e,Ht a _,⟨_,yae _ rfl,rfl,rfl⟩,fun b hb=>?_,q⟩;have e:b=s1.heap.objs.size:=by simpa using hb
 subst e;exact I1.JK (zah _) (I1.bS.fresh (zah _))
theorem JM{G:St}{lo hi:Int}(I:Inv X pins G H s)(h1 : -(2 ^ 62)<=lo)(h2:lo<2 ^ 62)(h3 : -(2 ^ 62)<=hi)(h4:hi<2 ^ 62)
 (q:R (NP lo (hi-lo).toNat) H):yab (model X.prog X.w) X.A (pyIter (.ref s.heap.objs.size)) (PIE X pins G tg R) E {s with heap:=s.heap.push {cls:=.type "range",data:=.fields #[.int lo t,.int hi u,.int 1 v]},toks:=tk}:=by
 refine wpAny_pyIter_range (IsRange.new ..) (small_one h1 h2 h3 h4) ?_;have I1:Inv X pins G H {s with heap:=s.heap.push {cls:=.type "range",data:=.fields #[.int lo t,.int hi u,.int 1 v]},toks:=tk}:=I.kept fun b o e=>yaa _ e;refine⟨(s.heap.push {cls:=.type "range",data:=.fields #[.int lo t,.int hi u,.int 1 v]}).objs.size,[(s.heap.push {cls:=.type "range",data:=.fields #[.int lo t,.int hi u,.int 1 v]}).objs.size],_,_,H,rfl,
  I1.kept (t':=tk) fun b o e=>yaa _ e,DR _ lo (hi-lo).toNat,?_,fun b hb=>?_,q⟩
 .have e1:lo+((0:Nat):Int)*1=lo:=by simp
  have e2:(((hi-lo).toNat:Nat):Int)-((0:Nat):Int)=Builtin.Range.rangeSize lo hi 1:=by rw[rangeSize_one];split<;>lia
  show IsRangeIter _ _ (lo+((0:Nat):Int)*1) ((((hi-lo).toNat:Nat):Int)-((0:Nat):Int)) 1;rw[e1,e2];exact yae _ rfl
 .have e:b=(s.heap.push {cls:=.type "range",data:=.fields #[.int lo t,.int hi u,.int 1 v]}).objs.size:=by simpa using hb
  subst e;exact I1.JK (zah _) (I1.bS.fresh (zah _))
def JN (ta:TA):TI:=fun G H R=>ta G H fun vs H1=>∃j:Int,vs=[.int j]/\-(2 ^ 62)<=j/\j<2 ^ 62/\R (NP 0 j.toNat) H1
theorem gu{a:Expr}{ta:TA}{p pos:Pos}(hg:Gl X "range")(hm:X.mg "range"=none)(ha:PA X [a] ta)(hs:zdL [a] X.env=[(false,eval a X.env)]:=by rfl):PI X tg (.Call (.Name "range" p) [a] [] pos) (JN ta):=by
 intro pins s G H R I h;refine Call_ (m7 I hg hm boot_range (za4 (fC (ha pos pins s G H _ I h) fun us s1 zqz=>?_) hs rfl));obtain⟨vs,H1,I1,r1,q1⟩:=zqz;obtain⟨j,e,q1,q2,q⟩:=q1;subst e;cases r1 with
 |cons r rr=>
  cases rr;obtain⟨t,rfl⟩:=r;exact call_range_1 (JM I1 (by lia) (by lia) q1 q2 (by simpa using q))
def NQ (wi:TI)(g:TG)(tb:TS):TS:=fun D G H=>wi G H fun J H1=>∃W:Nat->Nat->St->Hp->Prop,(∃m,W 0 m G H1)/\∀i m G H,W i m G H->
 (J.stop i H/\D.nx G H)\/(J.go i H/\∃N:St->Hp->Prop,(∀G' H',N G' H'->∃m',m'<m/\W (i+1) m' G' H')/\∀x H',J.Hr i H x H'->g x G H' fun G2 H2=>tb {D with nx:=N,ct:=N,bk:=D.nx} G2 H2)
noncomputable def w8 (fp:List zdF)(h:yaf):List (zdF×Obj):=fp.filterMap fun b=>(h.get? b).map fun o=>(b,o)
theorem nh(hb:b∈fp)(e:h.get? b=some o):(b,o)∈w8 fp h:=zcl.mpr ⟨b,hb,by rw[e];rfl⟩
theorem Hu(hp:p∈w8 fp h):p.1∈fp/\h.get? p.1=some p.2:=by
 obtain⟨b,hb,e⟩:=zcl.mp hp;cases q:h.get? b with
 |none=>rw[q] at e;cases e
 |some o=>
  rw[q] at e;have e':(b,o)=p:=za5.inj e;subst e';exact⟨hb,q⟩
theorem Inv.pinned{G:St}(I:Inv X pins G H s)(hf:∀b∈fp,tE X pins H b)(ho:∀b∈fp,∃o,s.heap.get? b=some o/\∀v,o.data≠.cell v):Inv X (pins++w8 fp s.heap) G H s:=
 I.Fv fun p hp=>(zan.mp hp).elim (fun z=>I.pin p (zaK _ z)) fun z=>by
  obtain⟨hb,e⟩:=Hu z;obtain⟨f0,f1,f2,_⟩:=hf p.1 hb;obtain⟨o,e',d⟩:=ho p.1 hb;rw[e] at e';cases e';exact⟨e,f0,f1,f2,d⟩
theorem Inv.mC{G:St}(I:Inv X (pins++pl) G H s):Inv X pins G H s:=I.Fv fun p hp=>I.pin p (zaK _ (zbb _ hp))
theorem kJ{iter:Expr}{body:List Stmt}{wi:TI}{g:TG}{tb:TS}{pos:Pos}(hp:PassesOwn (model X.prog X.w) X.A X.env X.xe)(hc:X.calm=true)(hi:PI X tg iter wi)(hg:PG X tg g)(hb:BO X body tb)
 (hs:∀x,foldedSetIterable iter X.env x=pure x:=by intro _;rfl):PS X (.For tg iter body [] pos) (NQ wi g tb):=by
 intro pins s G H D I h;refine wpAny_For (fC (hi pins s G H _ I h) fun v s1 h1=>fC h1 fun Yi s2 h2=>?_) hs;obtain⟨it,fp,tn,J,H2,e,I2,T,BR,f2,W,⟨m0,w0⟩,turn⟩:=h2;subst e;have stat:∀{H':Hp},(∀b∈fp,H' b=none)->∀b∈fp,tE X pins H' b:=fun hn b hb=>⟨hn b hb,(f2 b hb).2⟩
 refine codeAny_forLoop_any (fun n s'=>∃i G' H',Inv X pins G' H' s'/\tn i s'.heap/\(∀b∈fp,H' b=none)/\W i n G' H') ?_ m0 ⟨0,G,H2,I2,BR,fun b hb=>(f2 b hb).1,w0⟩
 rintro n s3 ⟨i,G3,H3,I3,PH,Uc,w3⟩
 rcases turn i n G3 H3 w3 with ⟨stop,qn⟩ |⟨go,N,hN,step⟩
 .refine yaW hp (fC (T.done X rfl rfl rfl hc i pins s3 G3 H3 X.xe I3 (stat Uc) PH stop) fun r s4 zqz=>?_);obtain⟨hr,I4⟩:=zqz;subst hr;exact ybj ⟨G3,H3,I4,qn⟩
 .refine yaW hp (fC (T.item X rfl rfl rfl hc i pins s3 G3 H3 X.xe I3 (stat Uc) PH go) fun r s4 zqz=>?_);obtain⟨u,hr,h4⟩:=zqz;subst hr;refine yaW hp (fC h4 fun _ s5 zqz=>?_);obtain⟨x,H5,I5,r5,y5,Rc,Yj⟩:=zqz;have Yk:=I5.pinned (stat Yj) (T.obj _ _ Rc);refine yaW hp (fC (hg _ s5 G3 H5 x u _ Yk r5 (step x H5 y5)) fun _ s6 zqz=>?_);obtain⟨G6,H6,I6,q6⟩:=zqz;refine yaW hp (fC (hb _ s6 G6 H6 _ I6 q6) fun f s7 q7=>?_);have again:∀{G7:St} {H7:Hp},Inv X (pins++w8 fp s5.heap) G7 H7 s7->N G7 H7->∃m,m<n/\∃i G' H',Inv X pins G' H' s7/\tn i s7.heap/\(∀b∈fp,H' b=none)/\W i m G' H':=fun {G7 H7} I7 n7=>by
   obtain⟨m',hm,w7⟩:=hN G7 H7 n7;refine⟨m',hm,i+1,G7,H7,I7.mC,T.keep _ _ _ Rc fun b hb o e=>(I7.pin (b,o) (zaK _ (zaK _ (nh hb e)))).1,fun b hb=>?_,w7⟩;obtain⟨o,e,d⟩:=T.obj _ _ Rc b hb;exact(I7.pin (b,o) (zaK _ (zaK _ (nh hb e)))).2.1
  cases f with
  |next=>obtain⟨G7,H7,I7,n7⟩:=q7;exact again I7 n7
  |cont=>obtain⟨G7,H7,I7,n7⟩:=q7;exact again I7 n7
  |brk=>obtain⟨G7,H7,I7,q7⟩:=q7;exact⟨G7,H7,I7.mC,q7⟩
  |ret v=>obtain⟨x7,G7,H7,I7,r7,q7⟩:=q7;exact⟨x7,G7,H7,I7.mC,r7,q7⟩
end
theorem pe{K:zaa}{g:TG}{tb:TS}{D:Ends}(Pv:Nat->St->Hp->Prop)(h0:Pv 0 G H)(hl:∀i G H,i<=xs.length->Pv i G H->iR K H a xs)
 (hs:∀i x G H,xs[i]?=some x->Pv i G H->g x G H fun G2 H2=>tb {D with nx:=Pv (i+1),ct:=Pv (i+1),bk:=D.nx} G2 H2) (hd:∀G H,Pv xs.length G H->D.nx G H) :
 ∃W:Nat->Nat->St->Hp->Prop,(∃m,W 0 m G H)/\∀i m G H,W i m G H->
  ((Hs K a).stop i H/\D.nx G H)\/((Hs K a).go i H/\∃N:St->Hp->Prop,(∀G' H',N G' H'->∃m',m'<m/\W (i+1) m' G' H')/\∀x H',(Hs K a).Hr i H x H'->g x G H' fun G2 H2=>tb {D with nx:=N,ct:=N,bk:=D.nx} G2 H2):=by
 refine⟨fun i m G H=>m=xs.length-i/\i<=xs.length/\Pv i G H,⟨xs.length,by simp,zaN _,h0⟩,?_⟩
 rintro i m G H ⟨rfl,hi,p⟩
 have q:=hl i G H hi p;by_cases qu:i<xs.length
 .refine .inr ⟨⟨xs,xs[i],q,by simp[qu]⟩,Pv (i+1),fun G' H' p'=>⟨xs.length-(i+1),by lia,rfl,qu,p'⟩,fun x H' y=>?_⟩;obtain⟨e,y⟩:=y;subst e;exact hs i x G _ (y xs q) p
 .have e:i=xs.length:=by lia
  subst e;exact .inl ⟨⟨xs,q,zah _⟩,hd G H p⟩
theorem Hv{lo:Int}{g:TG}{tb:TS}{D:Ends}(Pv:Nat->St->Hp->Prop)(h0:Pv 0 G H)
 (hs:∀i G H,i<n->Pv i G H->g (.int (lo+i)) G H fun G2 H2=>tb {D with nx:=Pv (i+1),ct:=Pv (i+1),bk:=D.nx} G2 H2) (hd:∀G H,Pv n G H->D.nx G H) :
 ∃W:Nat->Nat->St->Hp->Prop,(∃m,W 0 m G H)/\∀i m G H,W i m G H->
  ((NP lo n).stop i H/\D.nx G H)\/((NP lo n).go i H/\∃N:St->Hp->Prop,(∀G' H',N G' H'->∃m',m'<m/\W (i+1) m' G' H')/\∀x H',(NP lo n).Hr i H x H'->g x G H' fun G2 H2=>tb {D with nx:=N,ct:=N,bk:=D.nx} G2 H2):=by
 refine⟨fun i m G H=>m=n-i/\i<=n/\Pv i G H,⟨n,by simp,zaN _,h0⟩,?_⟩
 rintro i m G H ⟨rfl,hi,p⟩
 by_cases qu:i<n
 .refine .inr ⟨qu,Pv (i+1),fun G' H' p'=>⟨n-(i+1),by lia,rfl,qu,p'⟩,fun x H' y=>?_⟩;obtain⟨e,y⟩:=y;subst e y;exact hs i G _ qu p
 .have e:i=n:=by lia
  subst e;exact .inl ⟨zah _,hd G H p⟩
abbrev R2:=V->V->Hp->VK->Prop
def qv (X:Cx)(f:zdG->zdG->Sem zdG)(r:R2):Prop:=
 ∀(pins:List (zdF×Obj)) (s:zdP) (G:St) (H:Hp) (x y:V) (v u:zdG) (Q:VK),Inv X pins G H s->RelV x v->RelV y u->r x y H Q->
  yab (model X.prog X.w) X.A (f v u) (EP X pins G Q) X.xe s
def kK (X:Cx)(f:zdG)(r:List V->Hp->VK->Prop):Prop:=
 ∀(pins:List (zdF×Obj)) (s:zdP) (G:St) (H:Hp) (xs:List V) (us:List zdG) (Q:VK),Inv X pins G H s->Vals xs us->r xs H Q->
  yab (model X.prog X.w) X.A (call f us) (EP X pins G Q) X.xe s
def Yl (X:Cx)(r:V->Hp->(Bool->Hp->Prop)->Prop):Prop:=
 ∀(pins:List (zdF×Obj)) (s:zdP) (G:St) (H:Hp) (x:V) (v:zdG) (Q:Bool->Hp->Prop),Inv X pins G H s->RelV x v->r x H Q->
  yab (model X.prog X.w) X.A (truthy v) (TP X pins G Q) X.xe s
def Ud (r:R2)(ta tb:TE):TE:=fun G H Q=>ta G H fun x H1=>tb G H1 fun y H2=>r x y H2 Q
def rI (C:Int->Int->Prop)(g:Int->Int->V):R2:=fun x y H Q=>∃i j,x=.int i/\y=.int j/\C i j/\Q (g i j) H
def PJ (g:Int->Int->V):R2:=fun x y H Q=>∃i j,x=.int i/\y=.int j/\Q (g i j) H
section
variable{X:Cx}{a b c:Expr}{ta tb tc:TE}{pos:Pos}
theorem Rf(ha:PE X a ta)(hb:PE X b tb){G:St}{R:V->V->Hp->Prop}(I:Inv X pins G H s)
 (h:ta G H fun x H1=>tb G H1 fun y H2=>R x y H2) {Q:zdG->zdP->Prop} {f:zdG->zdG->Sem zdG}
 (hf:∀v u s2 x y H2,Inv X pins G H2 s2->RelV x v->RelV y u->R x y H2->yab (model X.prog X.w) X.A (f v u) Q X.xe s2) :
 yab (model X.prog X.w) X.A (eval a X.env) (fun v s₁=>yab (model X.prog X.w) X.A (eval b X.env) (fun u s₂=>yab (model X.prog X.w) X.A (f v u) Q X.xe s₂) X.xe s₁) X.xe s:=by
 refine fC (ha pins s G H _ I h) fun v s1 zqz=>?_;obtain⟨x,H1,I1,r1,q1⟩:=zqz;refine fC (hb pins s1 G H1 _ I1 q1) fun u s2 zqz=>?_;obtain⟨y,H2,I2,r2,q2⟩:=zqz;exact hf v u s2 x y H2 I2 r1 r2 q2
theorem bg{op:Operator}{r:R2}(ho:qv X (binaryOp op) r)(ha:PE X a ta)(hb:PE X b tb):PE X (.BinOp a op b pos) (Ud r ta tb):=by
 intro pins s G H Q I h;exact wpAny_BinOp (Rf ha hb I h fun v u s2 x y H2 I2 rx ry q=>ho pins s2 G H2 x y v u Q I2 rx ry q)
theorem Ue{g:Int->Int->Int}
 (rule:∀(i j:Int) (t u:Tok) (s:zdP) (Q:zdG->zdP->Prop) (E:zdG->zdP->Prop),C i j->Q (.int (g i j) s.toks) {s with toks:=s.toks+1}->yab (model X.prog X.w) X.A (f (.int i t) (.int j u)) Q E s) :
 qv X f (rI C fun i j=>.int (g i j)):=by
 intro pins s G H x y v u Q I rx ry h;obtain⟨i,j,rfl,rfl,hc,q⟩:=h;obtain⟨t,rfl⟩:=rx;obtain⟨t',rfl⟩:=ry;exact rule i j t t' s _ _ hc ⟨.int (g i j),H,I.tok _,⟨_,rfl⟩,q⟩
theorem Ug{g:Int->Int->Int}
 (rule:∀(i j:Int) (t u:Tok) (s:zdP) (Q:zdG->zdP->Prop) (E:zdG->zdP->Prop),Q (.int (g i j) s.toks) {s with toks:=s.toks+1}->yab (model X.prog X.w) X.A (f (.int i t) (.int j u)) Q E s) :
 qv X f (PJ fun i j=>.int (g i j)):=by
 intro pins s G H x y v u Q I rx ry h;obtain⟨i,j,rfl,rfl,q⟩:=h;obtain⟨t,rfl⟩:=rx;obtain⟨t',rfl⟩:=ry;exact rule i j t t' s _ _ ⟨.int (g i j),H,I.tok _,⟨_,rfl⟩,q⟩
theorem Rg{g:Int->Int->Bool}
 (rule:∀(i j:Int) (t u:Tok) (s:zdP) (Q:zdG->zdP->Prop) (E:zdG->zdP->Prop),Q (.bool (g i j)) s->yab (model X.prog X.w) X.A (f (.int i t) (.int j u)) Q E s) :
 qv X f (PJ fun i j=>.bl (g i j)):=by
 intro pins s G H x y v u Q I rx ry h;obtain⟨i,j,rfl,rfl,q⟩:=h;obtain⟨t,rfl⟩:=rx;obtain⟨t',rfl⟩:=ry;exact rule i j t t' s _ _ ⟨.bl (g i j),H,I,rfl,q⟩
def Uh (i j:Int):Prop:=0<j/\j<1073741824
def Ui (i j:Int):Prop:=0<=j/\j<=1000000/\i.natAbs<2 ^ 64
def HF (i j:Int):Prop:=(-(2 ^ 64)<i/\i<2 ^ 64)\/(-(2 ^ 64)<j/\j<2 ^ 64)
theorem HF.ok(h:HF i j):IntMulOk i j:=by
 rcases h with ⟨h1,h2⟩ |⟨h1,h2⟩
 .exact .of_left (intBits_le_64 h1 h2)
 .exact .of_right (intBits_le_64 h1 h2)
theorem fK:qv X (binaryOp .Add) (PJ fun i j=>.int (i+j)):=Ug fun _ _ _ _ _ _ _ q=>add_int q
theorem Ak:qv X (binaryOp .Sub) (PJ fun i j=>.int (i-j)):=Ug fun _ _ _ _ _ _ _ q=>sub_int q
theorem kL:qv X (binaryOp .Mult) (rI HF fun i j=>.int (i*j)):=Ue fun _ _ _ _ _ _ _ hc q=>mul_int q hc.ok
theorem Al:qv X (binaryOp .FloorDiv) (rI Uh fun i j=>.int (i/j)):=Ue fun i j _ _ _ _ _ hc q=>by
 have h1:(0:Int)<j:=hc.1;have h2:j<1073741824:=hc.2;exact floordiv_int (by lia) (by rw[Int.fdiv_eq_ediv_of_nonneg i (by lia)];exact q) (.inl (PyProof.noPylong_small (by lia)))
theorem jP:qv X (binaryOp .Mod) (rI (fun _ j=>0<j) fun i j=>.int (i%j)):=Ue fun i j _ _ _ _ _ hc q=>by
 have h1:(0:Int)<j:=hc;exact mod_int' (by lia) (by rw[Int.fmod_eq_emod_of_nonneg i (by lia)];exact q)
theorem DT:qv X (binaryOp .Pow) (rI Ui fun i j=>.int (i ^ j.toNat)):=Ue fun _ _ _ _ _ _ _ hc q=>pow_int_small hc.1 hc.2.1 hc.2.2 q
end
noncomputable def HG:V->V->Bool
 |.eA,.eA=>true |.eA,.int _=>true |.int _,.eA=>true |.eA,.bl _=>true |.bl _,.eA=>true |.eA,.str _=>true |.str _,.eA=>true
 |.int _,.int _=>true |.bl _,.bl _=>true |.str _,.str _=>true |.Ft _,.Ft _=>true
 |.int _,.str _=>true |.str _,.int _=>true |.bl _,.str _=>true |.str _,.bl _=>true
 |_,_=>false
def rEq:R2:=fun x y H Q=>HG x y=true/\Q (.bl (decide (x=y))) H
def rNe:R2:=fun x y H Q=>HG x y=true/\Q (.bl (!decide (x=y))) H
theorem Fx:decide (V.int i=V.int j)=(i==j):=by
 rw[zch];simp
theorem JO:decide (V.bl i=V.bl j)=(i==j):=by
 rw[zch];simp
theorem Fy:decide (V.str i=V.str j)=(i==j):=by
 rw[zch];simp
theorem FA:decide (V.Ft i=V.Ft j)=(i.toList==j.toList):=by
 rw[zch];cases i;cases j;simp
section
variable{X:Cx}{a b c:Expr}{ta tb tc:TE}{pos:Pos}
theorem bP{G:St}(I:Inv X pins G H s)(q:Q (.bl k) H)(e:k=k'):EP X pins G Q (.bool k') s:=by
 subst e;exact⟨.bl k,H,I,rfl,q⟩
theorem dO:qv X (yau .Eq) rEq:=by
 intro pins s G H x y v u Q I rx ry h;obtain⟨hs,q⟩:=h;cases x with
 |eA=>
  cases rx;cases y with
  |eA=>cases ry;exact PySem.EqNone.eq_none_none (bP I q (by simp))
  |bl j=>cases ry;exact PySem.EqNone.eq_none_bool (bP I q (by simp))
  |int j=>obtain⟨t',rfl⟩:=ry;exact PySem.EqNone.eq_none_int (bP I q (by simp))
  |str j=>obtain⟨t',rfl⟩:=ry;exact PySem.EqNone.eq_none_str (bP I q (by simp))
  |_=>exact ybX (show false=true from hs) zam
 |bl i=>
  cases rx;cases y with
  |eA=>cases ry;exact PySem.EqNone.eq_bool_none (bP I q (by simp))
  |bl j=>cases ry;exact eq_bool (bP I q JO)
  |str j=>obtain⟨t',rfl⟩:=ry;exact PySem.EqMixed.eq_bool_str (bP I q (by simp))
  |_=>exact ybX (show false=true from hs) zam
 |int i=>
  obtain⟨t,rfl⟩:=rx;cases y with
  |eA=>cases ry;exact PySem.EqNone.eq_int_none (bP I q (by simp))
  |int j=>obtain⟨t',rfl⟩:=ry;exact eq_int (bP I q Fx)
  |str j=>obtain⟨t',rfl⟩:=ry;exact PySem.EqMixed.eq_int_str (bP I q (by simp))
  |_=>exact ybX (show false=true from hs) zam
 |str i=>
  obtain⟨t,rfl⟩:=rx;cases y with
  |eA=>cases ry;exact PySem.EqNone.eq_str_none (bP I q (by simp))
  |bl j=>cases ry;exact PySem.EqMixed.eq_str_bool (bP I q (by simp))
  |int j=>obtain⟨t',rfl⟩:=ry;exact PySem.EqMixed.eq_str_int (bP I q (by simp))
  |str j=>obtain⟨t',rfl⟩:=ry;exact eq_str (bP I q Fy)
  |_=>exact ybX (show false=true from hs) zam
 |Ft i=>
  obtain⟨t,rfl⟩:=rx;cases y with
  |Ft j=>obtain⟨t',rfl⟩:=ry;exact PySem.W.eq_bytes (bP I q FA)
  |_=>exact ybX (show false=true from hs) zam
 |_=>cases y<;>exact ybX (show false=true from hs) zam
theorem PK:qv X (yau .NotEq) rNe:=by
 intro pins s G H x y v u Q I rx ry h;obtain⟨hs,q⟩:=h;cases x with
 |eA=>
  cases rx;cases y with
  |eA=>cases ry;exact PySem.EqNone.ne_none_none (bP I q (by simp))
  |bl j=>cases ry;exact PySem.EqNone.ne_none_bool (bP I q (by simp))
  |int j=>obtain⟨t',rfl⟩:=ry;exact PySem.EqNone.ne_none_int (bP I q (by simp))
  |str j=>obtain⟨t',rfl⟩:=ry;exact PySem.EqNone.ne_none_str (bP I q (by simp))
  |_=>exact ybX (show false=true from hs) zam
 |bl i=>
  cases rx;cases y with
  |eA=>cases ry;exact PySem.EqNone.ne_bool_none (bP I q (by simp))
  |bl j=>cases ry;exact ne_bool (bP I q (ybW not JO))
  |str j=>obtain⟨t',rfl⟩:=ry;exact PySem.EqMixed.ne_bool_str (bP I q (by simp))
  |_=>exact ybX (show false=true from hs) zam
 |int i=>
  obtain⟨t,rfl⟩:=rx;cases y with
  |eA=>cases ry;exact PySem.EqNone.ne_int_none (bP I q (by simp))
  |int j=>obtain⟨t',rfl⟩:=ry;exact ne_int (bP I q (ybW not Fx))
  |str j=>obtain⟨t',rfl⟩:=ry;exact PySem.EqMixed.ne_int_str (bP I q (by simp))
  |_=>exact ybX (show false=true from hs) zam
 |str i=>
  obtain⟨t,rfl⟩:=rx;cases y with
  |eA=>cases ry;exact PySem.EqNone.ne_str_none (bP I q (by simp))
  |bl j=>cases ry;exact PySem.EqMixed.ne_str_bool (bP I q (by simp))
  |int j=>obtain⟨t',rfl⟩:=ry;exact PySem.EqMixed.ne_str_int (bP I q (by simp))
  |str j=>obtain⟨t',rfl⟩:=ry;exact ne_str (bP I q (ybW not Fy))
  |_=>exact ybX (show false=true from hs) zam
 |Ft i=>
  obtain⟨t,rfl⟩:=rx;cases y with
  |Ft j=>obtain⟨t',rfl⟩:=ry;exact PySem.W.ne_bytes (bP I q (ybW not FA))
  |_=>exact ybX (show false=true from hs) zam
 |_=>cases y<;>exact ybX (show false=true from hs) zam
theorem Uj:qv X (yau .Lt) (PJ fun i j=>.bl (decide (i<j))):=Rg fun _ _ _ _ _ _ _ q=>lt_int q
theorem BS:qv X (yau .Gt) (PJ fun i j=>.bl (decide (j<i))):=Rg fun _ _ _ _ _ _ _ q=>gt_int q
theorem FC:qv X (yau .GtE) (PJ fun i j=>.bl (decide (j<=i))):=Rg fun _ _ _ _ _ _ _ q=>ge_int q
theorem Rh:qv X (yau .Is) (fun x y H Q=>y=.eA/\Q (.bl (decide (x=.eA))) H):=by
 intro pins s G H x y v u Q I rx ry h;obtain⟨rfl,q⟩:=h;cases ry;refine is_none_gen (bP I q ?_);cases x<;>first
  |(cases rx;rfl)
  |(obtain⟨t,rfl⟩:=rx;rfl)
theorem aY(b:Expr)(h:op≠.In:=by decide)(h2:op≠.NotIn:=by decide):behindInMarks op b=false:=by
 have e1:(op==CmpOp.In)=false:=by cases op<;>first |rfl |exact ybX rfl h
 have e2:(op==CmpOp.NotIn)=false:=by cases op<;>first |rfl |exact ybX rfl h2
 cases b<;>simp[behindInMarks,e1,e2]
theorem du{op:CmpOp}{r:R2}(ho:qv X (yau op) r)(ha:PE X a ta)(hb:PE X b tb)(hm:behindInMarks op b=false):PE X (.Compare a [op] [b] pos) (Ud r ta tb):=by
 intro pins s G H Q I h;exact wpAny_Compare1 (Rf ha hb I h fun v u s2 x y H2 I2 rx ry q=>ho pins s2 G H2 x y v u Q I2 rx ry q) hm
def FD (t:TE):TT:=fun G H Q=>t G H fun x H'=>∃k,x=.bl k/\Q k H'
theorem aW{op:CmpOp}{r:R2}(ho:qv X (yau op) r)(ha:PE X a ta)(hb:PE X b tb)(hm:behindInMarks op b=false):PT X (.Compare a [op] [b] pos) (FD (Ud r ta tb)):=by
 intro pins s G H Q I h;refine wpAny_isTrue_Compare1 (fC (ha pins s G H _ I h) fun v s1 zqz=>?_) hm;obtain⟨x,H1,I1,r1,q1⟩:=zqz;refine fC (hb pins s1 G H1 _ I1 q1) fun u s2 zqz=>?_;obtain⟨y,H2,I2,r2,q2⟩:=zqz;refine fC (ho pins s2 G H2 x y v u _ I2 r1 r2 q2) fun c s3 zqz=>?_;obtain⟨z,H3,I3,r3,k,e,q3⟩:=zqz;subst e;cases r3;exact yaN ⟨H3,I3,q3⟩
def Uk (K:zaa)(x:V)(H:Hp)(k:Bool):Prop:=
 match x with
 |.eA=>k=false
 |.bl b=>k=b
 |.int i=>k=(i != 0)
 |.str y=>y.length<=zdN/\k=((y.length:Int) != 0)
 |.Ft y=>y.size<=zdN/\k=((y.size:Int) != 0)
 |.ref p=>(∃xs,iR K H p xs/\k = !xs.isEmpty)\/(∃xs,bH K H p xs/\k = !xs.isEmpty)\/∃aB,H p=some (.dK aB)/\k = !aB.isEmpty
 |_=>False
theorem DU{Y:Type}{aB:List (Y×V)}{vs:List (Y×zdG)}(r:KV aB vs):(!vs.isEmpty) = !aB.isEmpty:=by
 cases r<;>rfl
theorem xb(r:Vals xs bc):(!bc.toArray.isEmpty) = !xs.isEmpty:=by
 cases r<;>simp
theorem xc:(zdN:Nat)<2 ^ 63:=by rw[sizeLine_eq];decide
theorem Ri:Yl X (fun x H Q=>∃k,Uk X.K x H k/\Q k H):=by
 intro pins s G H x v Q I rx h;obtain⟨k,e,q⟩:=h;have hl:=xc;have hs:zdN=16777216:=sizeLine_eq;cases x with
 |eA=>
  cases rx;have e':k=false:=e;subst e';exact truthy_none ⟨H,I,q⟩
 |bl b=>
  cases rx;have e':k=b:=e;subst e';exact yaN ⟨H,I,q⟩
 |int i=>
  obtain⟨t,rfl⟩:=rx;have e':k=(i != 0):=e;subst e';exact PySem.P.truthy_int ⟨H,I,q⟩
 |str y=>
  obtain⟨t,rfl⟩:=rx;obtain⟨hy,e'⟩:y.length<=zdN/\k=((y.length:Int) != 0):=e;subst e';exact PySem.P.truthy_str (by lia) ⟨H,I.tok _,q⟩
 |Ft y=>
  obtain⟨t,rfl⟩:=rx;obtain⟨hy,e'⟩:y.size<=zdN/\k=((y.size:Int) != 0):=e;subst e';exact PySem.W.truthy_bytes (by lia) ⟨H,I.tok _,q⟩
 |ref p=>
  cases rx;have e':(∃xs,iR X.K H p xs/\k = !xs.isEmpty)\/(∃xs,bH X.K H p xs/\k = !xs.isEmpty)\/∃aB,H p=some (.dK aB)/\k = !aB.isEmpty:=e;rcases e' with ⟨xs,hx,e'⟩ |⟨xs,hx,e'⟩ |⟨aB,hx,e'⟩
  .subst e';obtain⟨bc,r,pl,hz⟩:=I.list hx;have hlen:=r.length;exact wpAny_truthy_list pl.isList (by simp only[zay];lia) ⟨H,I.tok _,by rw[xb r];exact q⟩
  .subst e';obtain⟨bc,r,pl,hz⟩:=I.tuple hx;have hlen:=r.length;exact truthy_tuple pl (by simp only[zay];lia) ⟨H,I.tok _,by rw[xb r];exact q⟩
  .subst e';obtain⟨hz,hS,vs,r,m⟩:aB.length<=zdN/\(p==yar)=false/\∃vs,KV aB vs/\s.heap.DictOf (bF X.prog X.w) p vs:=I.bS p _ hx;have hlen:aB.length=vs.length:=yah r;exact wpAny_truthy_dict hS m (by lia) ⟨H,I.tok _,by rw[DU r];exact q⟩
 |_=>exact(show False from e).elim
theorem BU(ha:PE X a ta)(he:∀whole,isTrue a X.env whole=(do let v <- whole;standAt a.pos;holding [v] (truthy v))) :
 PT X a (fun G H Q=>ta G H fun x H'=>∃k,Uk X.K x H' k/\Q k H'):=by
 intro pins s G H Q I h;exact isTrue_plain (fC (ha pins s G H _ I h) fun v s1 ⟨x,H1,I1,r1,q1⟩=>Ri pins s1 G H1 x v Q I1 r1 q1) (he _)
theorem vals1(r:Vals [x] us):∃u,us=[u]/\RelV x u:=by
 cases r with
 |cons r1 r2=>cases r2;exact⟨_,rfl,r1⟩
theorem vals2(r:Vals [x,y] us):∃u w',us=[u,w']/\RelV x u/\RelV y w':=by
 cases r with
 |cons r1 r2=>
  cases r2 with
  |cons r3 r4=>cases r4;exact⟨_,_,rfl,r1,r3⟩
end
structure DV(h:yaf)(x dx C:zdF)(mA:Str->Option zdG):Prop where
 obj:h.get? x=some (zbz C dx)
 ns:h.Ns1 dx mA
 ne:dx≠x
theorem HH{h:yaf}(n:h.Ns1 dx mA):∃od,h.get? dx=some od/\∀name,zcV name od=some (mA name):=by
 obtain⟨o,es,ep,ho,hd,hk,_,hm⟩:=n;refine⟨o,ho,fun name=>?_⟩;have e:=hm name;unfold nsFind findBy at e;rw[<- Array.find?_toList] at e;unfold zcV;rw[hd];dsimp only;split
 .rename_i y q;rw[q] at e;exact ybW some e
 .rename_i q;rw[q] at e;have a:es.toList.any (·.refKey)=false:=by
   rw[List.any_eq_false];intro y hy;obtain⟨z,t,Ym⟩:=hk y (Array.mem_toList_iff.mp hy);simp[DictEntry.refKey,Ym]
  have a':¬es.toList.any (·.refKey)=true:=by rw[a];exact zam
  rw[ybR a'];exact ybW some e
theorem DV.look(I:DV h x dx C mA):∃od,PySem.W.InstAt h x (zbz C dx) C (some od)/\∀name,zcV name od=some (mA name):=
 let ⟨od,ho,hl⟩:=HH I.ns
 ⟨od,⟨I.obj,rfl,rfl,ho⟩,hl⟩
section
variable{prog:zdR}{w:zdH}{A:zdQ}{E:zdG->zdP->Prop}{s:zdP}{K:zaa}{x dx C f:zdF}{mA:Str->Option zdG}{name:Str}{v:zdG}
theorem get_map(X:K.In s.heap)(I:DV s.heap x dx C mA)(hg:zbW K C name=true)(hh:zbB K C=true)
 (ha:zaG K (.ref C) name=some none) (hv:mA name=some v) (Nf:PySem.W.handedIn v=true) (h:Q v {s with toks:=s.toks+1}) :
 yab (model prog w) A (getAttr (.ref x) name expr) Q E s:=by
 obtain⟨od,J,hl⟩:=I.look;exact PySem.W.get_value X J (zcS hg).1 (PySem.W.findObj_own hh ha rfl (by rw[hl,hv])) Nf h
theorem JP(X:K.In s.heap)(I:DV s.heap x dx C mA)(hg:zbW K C name=true)
 (hf:zaG K (.ref C) name=some (some (.ref f))) (ht:zcn K (.ref f)=true) (hv:mA name=none) (h:Q (.ref f,[.ref x]) s) :
 yab (model prog w) A (getMethod (.ref x) name pl) Q E s:=by
 obtain⟨od,J,hl⟩:=I.look;exact PySem.W.method_fn X J (zcS hg).1 (zcS hg).2 hf (beq_iff_eq.mp ht) (by show (zcV name od).map (·.isSome)=some false;rw[hl,hv];rfl) h
theorem Am(X:K.In s.heap)(I:DV s.heap x dx C mA)
 (hs:zaG K (.ref C) "__setattr__"=some (some (.builtin "object.__setattr__"))) (hp:zcC K C=true) (ht:zdl K C name=some none) (hh:zbB K C=true)
 (hw:PySem.Within mA ns) (hsz:ns.length<=zdN)
 (h:∀h',DV h' x dx C (fun y=>if y=name then some v else mA y)->yay dx s.heap h'->Q () {s with heap:=h',toks:=s.toks+2}) :
 yab (model prog w) A (setAttr (.ref x) name v) Q E s:=by
 obtain⟨od,J,hl⟩:=I.look;refine PySem.W.set_plain X J hs (PySem.W.osa_open (s:={s with toks:=s.toks+1}) (r:=none) X J hp ht fun b=>?_);obtain⟨cd,hc,BN⟩:=zdf hh;have hx:s.heap.get? x=some ⟨.ref C,some dx,.plain, #[]⟩:=I.obj;refine zdI (zdJ (zdI (zdI (wpAny_loadPart hx (zdI (PySem.W.Looks.here (s:={s with toks:=s.toks+1}) (PySem.W.looks_clsIn X hc) ?_))))));rw[BN];refine zdJ (a:=some dx) (zdI (zdJ (zdI ?_)));refine wpAny_nsSet1 (s:={s with toks:=s.toks+1}) I.ns fun h' W7 hs2=>?_;obtain⟨oD,esD,epD,hoD,hdD,hcD⟩:=W7.count (PySem.Within.cons name v hw);refine zdI (wpAny_lookBehind hoD (by rw[hdD];exact pastItsLine_dict (zax hcD (by rw[zaq];lia))) ?_);exact zdJ (h _ ⟨(hs2.2 _ (Ne.symm I.ne)).trans I.obj,W7,I.ne⟩ hs2)
theorem JQ(X:K.In s.heap)(hm:zcR K C=true)
 (hi:zaG K (.ref C) "__init__"=some (some (.ref f))) (hf:PySem.W.typeIn K (.ref f)=some (.type "function"))
 (h:codeAny (model prog w) (A.under (.builtin "type.__call__" ⟨.ref C::vs,kw⟩)) (.call (.ref f) ⟨.ref (s.heap.objs.size+1)::vs,kw⟩) (PySem.W.InitBack (s.heap.objs.size+1) R)
  {s with heap:=(s.heap.push zbj).push (zbz C s.heap.objs.size)}) :
 codeAny (model prog w) A (.call (.ref C) ⟨vs,kw⟩) R s:=by
 obtain⟨hh,g,d,t,os⟩:=s;exact PySem.W.make_core (PySem.W.makes_of X hm) (zcd X hi) (fun self=>PySem.W.bind_fn X self hf) (.inl rfl) h
end
noncomputable def iu (f:Str)(v:V):List (Str×V)->List (Str×V)
 |[]=>[(f,v)]
 |(g,x)::r=>if g=f then (g,v)::r else (g,x)::iu f v r
theorem vO(f g:Str)(v:V)(fs:List (Str×V)):(iu f v fs).lookup g=if g=f then some v else fs.lookup g:=by
 induction fs with
 |nil=>
  show zbp g [(f,v)]=_;by_cases h:g=f
  .have hb:(g==f)=true:=beq_iff_eq.mpr h;simp only[zbp,hb,ybS h]
  .have hb:(g==f)=false:=beq_eq_false_iff_ne.mpr h;simp only[zbp,hb,ybR h]
 |cons zz r ih=>
  obtain⟨k,x⟩:=zz;rw[show iu f v ((k,x)::r)=(if k=f then (k,v)::r else (k,x)::iu f v r) from rfl];by_cases hk:k=f
  .rw[ybS hk];by_cases h:g=k
   .have hb:(g==k)=true:=beq_iff_eq.mpr h;simp only[zbp,hb,ybS (h.trans hk)]
   .have hb:(g==k)=false:=beq_eq_false_iff_ne.mpr h;simp only[zbp,hb,ybR (fun e:g=f=>h (e.trans hk.symm))]
  .rw[ybR hk];by_cases h:g=k
   .have hb:(g==k)=true:=beq_iff_eq.mpr h;simp only[zbp,hb,ybR (fun e:g=f=>hk (h.symm.trans e))]
   .have hb:(g==k)=false:=beq_eq_false_iff_ne.mpr h;simp only[zbp,hb];exact ih
theorem uX(f:Str)(v:V)(fs:List (Str×V)):f∈(iu f v fs).map (·.1)/\∀g,g∈fs.map (·.1)->g∈(iu f v fs).map (·.1):=by
 induction fs with
 |nil=>exact⟨by simp[iu],fun g h=>by simp at h⟩
 |cons zz r ih=>
  obtain⟨k,x⟩:=zz;obtain⟨i1,i2⟩:=ih;rw[show iu f v ((k,x)::r)=(if k=f then (k,v)::r else (k,x)::iu f v r) from rfl];by_cases hk:k=f
  .rw[ybS hk];subst hk;exact⟨by simp,fun g h=>by simpa using h⟩
  .rw[ybR hk];refine⟨?_,fun g h=>?_⟩
   .rw[zas];exact zag _ i1
   .rw[zas] at h |-;rcases zak.mp h with e |e
    .exact zak.mpr (.inl e)
    .exact zag _ (i2 g e)
theorem vP(f:Str)(v:V)(fs:List (Str×V)):(iu f v fs).length<=fs.length+1:=by
 induction fs with
 |nil=>simp[iu]
 |cons zz r ih=>
  obtain⟨k,x⟩:=zz;rw[show iu f v ((k,x)::r)=(if k=f then (k,v)::r else (k,x)::iu f v r) from rfl];by_cases hk:k=f
  .rw[ybS hk,zaq,zaq];lia
  .rw[ybR hk,zaq,zaq];lia
theorem oT.some_of(r:oT (some v) o):∃u,o=some u/\RelV v u:=by
 cases o with
 |none=>exact(show False from r).elim
 |some u=>exact⟨u,rfl,r⟩
theorem oT.none_of(r:oT none o):o=none:=by
 cases o with
 |none=>rfl
 |some u=>exact(show False from r).elim
theorem HI(r:RelV v u):PySem.W.handedIn u=true:=by
 cases v with
 |eA=>cases (show u=yaA from r);rfl
 |bl b=>cases (show u=yaI b from r);rfl
 |int i=>obtain⟨t,e⟩:=(show ∃t,u=ybk i t from r);cases e;rfl
 |str x=>obtain⟨t,e⟩:=(show ∃t,u=ybl x t from r);cases e;rfl
 |Ft b=>obtain⟨t,e⟩:=(show ∃t,u=Value.bytes b t from r);cases e;rfl
 |WY b=>obtain⟨t,e⟩:=(show ∃t,u=Value.float b t from r);cases e;rfl
 |ref a=>cases (show u=yac a from r);rfl
 |ty n=>cases (show u=ya8 n from r);rfl
section
variable{P:zdR}{w:zdH}{H H':Hp}{h h':yaf}{a C dx:zdF}{fs fs':List (Str×V)}
theorem An(bS:jV P w H h)(e:H a=some (.ins C dx fs)):∃mA,DV h a dx C mA/\(∀f,oT (fs.lookup f) (mA f))/\PySem.Within mA (fs.map (·.1))/\fs.length<=1000/\H dx=some (.own a):=by
 obtain⟨d,z,ne,ob,mA,n,r,q⟩:=(show bZ P w H h a (.ins C dx fs) from bS a _ e)
 exact⟨mA,⟨ob,n,ne⟩,r,q,z,d⟩
end
structure Ng(K:zaa)(C:zdF):Prop where
 pg:zbW K C Str.empty=true
 hd:zbB K C=true
 po:zcC K C=true
 sa:zaG K (.ref C) "__setattr__"=some (some (.builtin "object.__setattr__"))
theorem Ng.get{K:zaa}(c:Ng K C)(f:Str):zbW K C f=true:=c.pg
def iW (K:zaa)(C:zdF)(f:Str):Prop:=zaG K (.ref C) f=some none
theorem iW.Ul{K:zaa}(n:iW K C f):zdl K C f=some none:=by
 unfold zdl;rw[show zaG K (.ref C) f=some none from n];rfl
structure Meth(K:zaa)(C:zdF)(m:Str)(f:zdF):Prop where
 at_:zaG K (.ref C) m=some (some (.ref f))
 fn:zcn K (.ref f)=true
 kp:za6 K (.ref f)=true
section
variable{X:Cx}{pins:List (zdF×Obj)}{G:St}{H:Hp}{s:zdP}{a C dx:zdF}{fs:List (Str×V)}{f:Str}{v:V}{A:zdQ}{E:zdG->zdP->Prop}
theorem DW(I:Inv X pins G H s)(e:H a=some (.ins C dx fs))(c:Ng X.K C)(n:iW X.K C f)(l:fs.lookup f=some v)
 (h:∀u s',Inv X pins G H s'->RelV v u->Q u s'):yab (model X.prog X.w) A (getAttr (.ref a) f b) Q E s:=by
 obtain⟨mA,O,r,_,_,_⟩:=An I.bS e;obtain⟨u,hu,ru⟩:=oT.some_of (v:=v) (o:=mA f) (by rw[<- l];exact r f);exact get_map I.zg O (c.get f) c.hd n hu (HI ru) (h u _ (I.tok _) ru)
theorem DX(I:Inv X pins G H s)(e:H a=some (.ins C dx fs))(c:Ng X.K C)(k:Meth X.K C m g)(l:fs.lookup m=none)
 (h:Q (.ref g,[.ref a]) s):yab (model X.prog X.w) A (getMethod (.ref a) m pl) Q E s:=by
 obtain⟨mA,O,r,_,_,_⟩:=An I.bS e;have hn:mA m=none:=oT.none_of (by rw[<- l];exact r m);exact JP I.zg O (c.get m) k.at_ k.fn hn h
theorem DY(I:Inv X pins G H s)(e:H a=some (.ins C dx fs))(c:Ng X.K C)(n:iW X.K C f)(hl:fs.length<1000)(ry:RelV y u)
 (h:∀s',Inv X pins G (upd H a (.ins C dx (iu f y fs))) s'->Q () s'):yab (model X.prog X.w) A (setAttr (.ref a) f u) Q E s:=by
 obtain⟨mA,O,r,wi,_,ho⟩:=An I.bS e;have hz:(fs.map (·.1)).length<=zdN:=by rw[zac,sizeLine_eq];lia
 refine Am I.zg O c.sa c.po n.Ul c.hd wi hz fun h' O' sb=>h _ ?_;have hd:∃o,h'.get? dx=some o:=let ⟨o,_,_,e',_⟩:=O'.ns;⟨o,e'⟩;refine I.write (x:=a) (e:=dx) (by rw[e];exact True.intro) (.inr ho) (fun b q hb z=>(sb.2 b hb).trans z) hd ?_;refine⟨by rw[au O.ne];exact ho,?_,O.ne,O'.obj,_,O'.ns,fun g=>?_,fun g hg=>?_⟩
 .have:=vP f y fs;lia
 .show oT ((iu f y fs).lookup g) (if g=f then some u else mA g);rw[vO];by_cases q:g=f
  .rw[ybS q,ybS q];exact ry
  .rw[ybR q,ybR q];exact r g
 .by_cases q:g=f
  .rw[q];exact(uX f y fs).1
  .refine(uX f y fs).2 g (wi g fun z=>hg ?_);show (if g=f then some u else mA g)=none;rw[ybR q];exact z
theorem Inv.made(I:Inv X pins G H s):Inv X pins G (upd (upd H s.heap.objs.size (.own (s.heap.objs.size+1))) (s.heap.objs.size+1) (.ins C s.heap.objs.size []))
 {s with heap:=(s.heap.push zbj).push (zbz C s.heap.objs.size)}:=by
 have e1:(s.heap.push zbj).get? s.heap.objs.size=some zbj:=yae s.heap rfl;have e2:((s.heap.push zbj).push (zbz C s.heap.objs.size)).get? (s.heap.objs.size+1)=some (zbz C s.heap.objs.size):=by
  have:=yae (s.heap.push zbj) (o:=zbz C s.heap.objs.size) rfl
  rwa [yan] at this
 have e3:(s.heap.push zbj).Ns s.heap.objs.size (fun _=>none):=⟨zbj, #[],_,e1,rfl,(fun e he=>ybX he (by simp)),fun _=>rfl⟩
 have I1:=I.laid (a:=s.heap.objs.size) (o:=.own (s.heap.objs.size+1)) (h':=s.heap.push zbj) (t':=s.toks) (fun b u q=>yaa _ q) (zah _) ⟨_,e1⟩;refine I1.laid (a:=s.heap.objs.size+1) (o:=.ins C s.heap.objs.size []) (t':=s.toks) (fun b u q=>yaa _ q) (zdC (yan _ _)) ?_;have ne:s.heap.objs.size≠s.heap.objs.size+1:=zaz (zcG _);refine⟨by rw[au ne,ah],zaN _,ne,e2,fun _=>none,(Heap.Ns1.of_empty e3).at fun o q=>yaa _ q,fun _=>True.intro,fun y hy=>ybX rfl hy⟩
theorem NR(hb:attributeBase e f env (eval e env)=eval e env)
 (h:yab (model prog w) A (eval e env) (fun o s₁=>yab (model prog w) A (getAttr o f true) Q E s₁) E s):yab (model prog w) A (eval (.Attribute e f pos) env) Q E s:=
 Attribute_any_ h (by rw[arm_eval_Attribute,hb])
end
def Rj (K:zaa)(ta:TE)(f:Str):TE:=fun G H Q=>ta G H fun x H1=>∃a C dx fs v,x=.ref a/\H1 a=some (.ins C dx fs)/\Ng K C/\iW K C f/\fs.lookup f=some v/\Q v H1
def BV (K:zaa)(ta tv:TE)(f:Str):TS:=fun D G H=>tv G H fun y H1=>ta G H1 fun x H2=>∃a C dx fs,x=.ref a/\H2 a=some (.ins C dx fs)/\Ng K C/\iW K C f/\fs.length<1000/\
 D.nx G (upd H2 a (.ins C dx (iu f y fs)))
section
variable{X:Cx}{o e value:Expr}{f:Str}{pos pos' Rk:Pos}{ta tv:TE}
theorem dv(he:PE X e ta)(hb:attributeBase e f X.env (eval e X.env)=eval e X.env):PE X (.Attribute e f pos) (Rj X.K ta f):=by
 intro pins s G H Q I h;refine NR hb (fC (he pins s G H _ I h) fun u s1 zqz=>?_);obtain⟨x,H1,I1,rx,a,C,dx,fs,v,ex,ea,c,n,l,q⟩:=zqz;subst ex;obtain rfl:u=yac a:=rx;exact DW I1 ea c n l fun u' s2 I2 ru=>⟨v,H1,I2,ru,q⟩
theorem rK(ha:PE X o ta)(hv:PE X value tv)(hs:swapsWith value (some (.Attribute o f pos')) pos.line X.env=pure false):PS X (.Assign [.Attribute o f pos'] value pos) (BV X.K ta tv f):=by
 intro pins s G H D I h;refine plainObj_wpAny_Assign_Attribute (fC (hv pins s G H _ I h) fun u s1 zqz=>?_) hs;obtain⟨y,H1,I1,ry,q⟩:=zqz;refine fC (ha pins s1 G H1 _ I1 q) fun ov s2 zqz=>?_;obtain⟨x,H2,I2,rx,a,C,dx,fs,ex,ea,c,n,l,q2⟩:=zqz;subst ex;obtain rfl:ov=yac a:=rx;exact DY I2 ea c n l ry fun s3 I3=>⟨G,_,I3,q2⟩
end
structure gw(k:Nat)(A:zdQ):Prop where
 hd:A.handled=none
 dp:A.depth+3*k+5<recursionLimit
 un:A.units+16*k+200<cLine
theorem gw.mono(r:gw k A)(h:j<=k):gw j A:=⟨r.hd,by have:=r.dp;lia,by have:=r.un;lia⟩
theorem gw.deeper(r:gw (k+1) A)(env:Env):gw k (A.deeper env):=
 ⟨r.hd,by have:=r.dp;show A.depth+1+3*k+5<_;lia,by have:=r.un;show A.units+3+16*k+200<_;lia⟩
theorem DZ{A:zdQ}:(A.under (.builtin "type.__call__" ⟨.ref C::us,kw⟩)).depth=A.depth+1:=by
 first |rfl |simp[Around.under,Code.weight,Code.isCreation,Code.isGuard,Code.isCaller,Code.frames,Code.isFrame,guardIds]
theorem Ea{A:zdQ}:(A.under (.builtin "type.__call__" ⟨.ref C::us,kw⟩)).units=A.units+1:=by
 first |rfl |simp[Around.under,Code.cUnits,Code.frames,Code.isFrame]
theorem gw.make(r:gw (k+1) A)(C:zdF)(us:List zdG)(kw:List (Str×zdG)):gw k (A.under (.builtin "type.__call__" ⟨.ref C::us,kw⟩)):=
 ⟨r.hd,by have:=r.dp;rw[DZ];lia,by have:=r.un;rw[Ea];lia⟩
theorem gw.depth(r:gw k A):A.depth<recursionLimit:=by have:=r.dp;lia
theorem gw.units(r:gw k A):A.units+64<cLine:=by have:=r.un;lia
def NS:TA:=fun _ H Q=>Q [] H
def xf (ta:TE)(tr:TA):TA:=fun G H Q=>ta G H fun x H1=>tr G H1 fun xs H2=>Q (x::xs) H2
section
variable{X:Cx}{e:Expr}{es:List Expr}{te:TE}{t:TA}{pos:Pos}
theorem ai:PA X [] NS:=fun _ _ _ _ H Q I h=>Calls.spliced_nil ⟨[],H,I,.nil,h⟩
theorem ae(ha:PE X e te)(hr:PA X es t)(hs:zdL (e::es) X.env=(false,eval e X.env)::zdL es X.env:=by rfl):PA X (e::es) (xf te t):=by
 intro pos pins s G H Q I h;rw[hs];show yab _ _ (spliced ((false,eval e X.env)::backTo pos (zdL es X.env))) _ _ s;refine ybN (fC (ha pins s G H _ I h) fun u s1 zqz=>?_);obtain⟨x,H1,I1,r1,q1⟩:=zqz;exact fC (hr pos pins s1 G H1 _ I1 q1) fun us s2 ⟨xs,H2,I2,r2,q2⟩=>⟨x::xs,H2,I2,.cons r1 r2,q2⟩
def Um (t:TA):TE:=fun G H Q=>t G H fun xs H1=>xs.length<=zdN/\∀p,H1 p=none->Q (.ref p) (upd H1 p (.tup xs))
def Uo (t:TA):TE:=fun G H Q=>t G H fun xs H1=>xs.length<=zdN/\∀p,H1 p=none->Q (.ref p) (upd H1 p (.lst xs))
theorem aV{x1}(h:PA X es t):PE X (.Tuple es x1 pos) (Um t):=by
 intro pins s G H Q I hq;refine wpAny_Tuple_spliced (fC (h pos pins s G H _ I hq) fun us s1 ⟨xs,H1,I1,r,z,q⟩=>⟨by rw[<- r.length];exact z,?_⟩);have hf:H1 s1.heap.objs.size=none:=I1.bS.fresh (zah _);refine⟨.ref s1.heap.objs.size,upd H1 s1.heap.objs.size (.tup xs),I1.laid (t':=s1.toks) (fun b u e=>yaa _ e) (zah _) ?_,rfl,q _ hf⟩;exact⟨z,us,r,⟨_,yae _ rfl,rfl,_,rfl⟩⟩
theorem bY(h:PA X es t):PE X (.List es pos) (Uo t):=by
 intro pins s G H Q I hq;refine wpAny_List_spliced (fC (h pos pins s G H _ I hq) fun us s1 ⟨xs,H1,I1,r,z,q⟩=>⟨by rw[<- r.length];exact z,?_⟩);have hf:H1 s1.heap.objs.size=none:=I1.bS.fresh (zah _);refine⟨.ref s1.heap.objs.size,upd H1 s1.heap.objs.size (.lst xs),I1.laid (t':=s1.toks) (fun b u e=>yaa _ e) (zah _) ?_,rfl,q _ hf⟩;exact⟨z,us,0,r,yae _ rfl⟩
end
abbrev Sp:=List V->Hp->VK->XK->Prop
abbrev BC:=List Env->Hp->zdP->XK->zdG->zdP->Prop
structure rL(P:zdR)(w:zdH)(K:zaa)(mg:Str->Option zdG)(base:yaf)(A:zdQ)(outer:List Env)(s:zdP)(H:Hp):Prop where
 frames:A.frames=some outer
 mod:Mod K mg base
 bs:∀b o,base.get? b=some o->s.heap.get? b=some o/\H b=none
 BL:base.objs.size<=s.heap.objs.size
 mz:s.heap.FunFrames base outer
 Fu:∀b∈qt outer,H b=none
 bS:jV P w H s.heap
 bare:AllBare s.gens
def CE (outer:List Env)(P:zdR)(w:zdH)(H:Hp)(s:zdP)(Q:VK)(u:zdG)(s':zdP):Prop:=
 ∃v H',s'.os=s.os/\AllBare s'.gens/\Un (qt outer) [] H H' s.heap s'.heap/\jV P w H' s'.heap/\RelV v u/\Q v H'
def CR (CX:BC)(outer:List Env)(P:zdR)(w:zdH)(H:Hp)(s:zdP)(Q:VK)(E:XK)(r:Result)(s':zdP):Prop:=
 match r with
 |.ok (.ret u)=>CE outer P w H s Q u s'
 |.ok _=>False
 |.error e=>CX outer H s E e s'
structure bt(P:zdR)(w:zdH)(K:zaa)(mg:Str->Option zdG)(base:yaf)(CX:BC)(k:Nat)(f:zdF)(fd:zdO)(ps:List Str)(sp:Sp):Prop where
 len:∀vs H Q E,sp vs H Q E->vs.length=ps.length
 run:∀(A:zdQ) (outer:List Env) (s:zdP) (H:Hp) (args:Args) (us:List zdG) (vs:List V) (Q:VK) (E:XK),gw k A->rL P w K mg base A outer s H->BindsTo s fd args (ps.zip us)->Vals vs us->sp vs H Q E->
  codeAny (model P w) A (.call (.ref f) args) (CR CX outer P w H s Q E) s
theorem rL.make{K:zaa}(e:rL P w K mg base A outer s H)(C:zdF)(us:List zdG)(kw:List (Str×zdG)) :
 rL P w K mg base (A.under (.builtin "type.__call__" ⟨.ref C::us,kw⟩)) outer s H:=⟨by first |exact e.frames |(simpa[Around.under,Code.envs,Code.isFrame,pushEnvs] using e.frames),e.mod,e.bs,e.BL,e.mz,e.Fu,e.bS,e.bare⟩
section
variable{X:Cx}{pins:List (zdF×Obj)}{G:St}{H:Hp}{s s':zdP}
theorem Inv.JR(I:Inv X pins G H s):rL X.prog X.w X.K X.mg X.base X.A X.stack s H:=
 ⟨I.ok.frames,I.ok.mod,I.bs,zax I.ok.BL I.sz,I.stack,I.tj,I.bS,I.bare⟩
theorem Inv.after(I:Inv X pins G H s)(h:CE X.stack X.prog X.w H s Q u s'):EP X pins G Q u s':=by
 obtain⟨v,H',os,bare,un,bS,r,q⟩:=h;obtain⟨hh,g,d,t,Yn⟩:=s';obtain rfl:Yn=s.os:=os;exact⟨v,H',I.call (h':=hh) (g':=g) (d':=d) (t':=t) (ch:=[]) un bS bare (fun b z=>ybX z (by simp)),r,q⟩
end
def BW (sp:Sp)(yt:List V)(E:XK)(t:TA):TE:=fun G H Q=>t G H fun vs H1=>sp (vs++yt) H1 Q E
def JS (C:zdF)(m:Str)(sp:Sp)(yt:List V)(E:XK)(ta:TE)(t:TA):TE:=fun G H Q=>ta G H fun x H1=>∃a dx fs,x=.ref a/\H1 a=some (.ins C dx fs)/\fs.lookup m=none/\
 t G H1 fun vs H2=>sp (x::(vs++yt)) H2 Q E
def JT (C:zdF)(sp:Sp)(yt:List V)(E:XK)(t:TA):TE:=fun G H Q=>t G H fun vs H1=>∀x dx,H1 x=none->H1 dx=none->dx≠x->
 sp (.ref x::(vs++yt)) (upd (upd H1 dx (.own x)) x (.ins C dx [])) (fun v H2=>v=.eA/\Q (.ref x) H2) E
def Binds (K:zaa)(fd:zdO)(ps:List Str)(ds:List zdG):Prop:=
 ∀(s:zdP) (us:List zdG),K.In s.heap->(us++ds).length=ps.length->BindsTo s fd ⟨us,[]⟩ (ps.zip (us++ds))
theorem Binds.all{K:zaa}(h:∀us:List zdG,us.length=ps.length->bindArgs fd ⟨us,[]⟩=pure (ps.zip us)):Binds K fd ps []:=fun s us _ hl=>by
 rw[zaM] at hl |-;exact .of_eq (h us hl)
def Passes (CX:BC)(X:Cx)(E:XK):Prop:=∀(pins:List (zdF×Obj)) (G:St) (H:Hp) (s:zdP) (e:zdG) (s':zdP),Inv X pins G H s->CX X.stack H s E e s'->X.xe e s'
section
variable{X:Cx}{CX:BC}{k:Nat}{f C:zdF}{fd:zdO}{ps:List Str}{sp:Sp}{yt:List V}{ds:List zdG}{E:XK}{x m:Str}{p pos apos:Pos}{e o:Expr}{es:List Expr}{ta:TE}{t:TA}
theorem JU{G:St}(F:bt X.prog X.w X.K X.mg X.base CX k f fd ps sp)(hr:gw k X.A)(hb:Binds X.K fd ps ds)(hd:Vals yt ds)(hx:Passes CX X E)
 (I:Inv X pins G H s) (r:Vals vs us) (h:sp (vs++yt) H Q E):yab (model X.prog X.w) X.A (call (.ref f) us) (EP X pins G Q) X.xe s:=by
 have r2:Vals (vs++yt) (us++ds):=r.append hd;have hl:(us++ds).length=ps.length:=by rw[<- r2.length];exact F.len _ _ _ _ h
 refine wpAny_call (yaT (F.run X.A X.stack s H ⟨us,[]⟩ (us++ds) (vs++yt) Q E hr I.JR (hb s us I.zg hl) r2 h) fun r s' hq=>?_);cases r with
 |error e=>exact hx pins G H s e s' I hq
 |ok fl=>
  cases fl with
  |ret u=>exact I.after hq
  |next=>exact False.elim hq
  |brk=>exact False.elim hq
  |cont=>exact False.elim hq
theorem bC(F:bt X.prog X.w X.K X.mg X.base CX k f fd ps sp)(hr:gw k X.A)(hg:Gl X x)(hm:X.mg x=some (.ref f))(hk:za6 X.K (.ref f)=true)(hb:Binds X.K fd ps ds)(hd:Vals yt ds)(hx:Passes CX X E)
 (ha:PA X (e::es) t) (Eb:(x==("__debug__":Str))=false:=by decide) (he:zdL (e::es) X.env=(false,eval e X.env)::zdL es X.env:=by rfl) (vQ:(backTo pos (zdL es X.env)).any (·.1)=false:=by rfl) :
 PE X (.Call (.Name x p) (e::es) [] pos) (BW sp yt E t):=by
 intro pins s G H Q I h;refine yas (mZ I hg hm ?_ Eb);refine zb3 (h₀:=X.base) I.ok.mod.PD hk (fC (ha pos pins s G H _ I h) fun us s1 ⟨vs,H1,I1,r,q⟩=>⟨I1.zg,?_⟩) he vQ;exact JU F hr hb hd hx I1 r q
theorem wF{pl:Sem Bool}(he:PE X o ta)(c:Ng X.K C)(hm:Meth X.K C m f)(F:bt X.prog X.w X.K X.mg X.base CX k f fd ps sp)(hr:gw k X.A)(hb:Binds X.K fd ps ds)(hd:Vals yt ds)(hx:Passes CX X E)(ha:PA X (e::es) t)
 (NO:zdL (e::es) X.env=(false,eval e X.env)::zdL es X.env:=by rfl) (vQ:(backTo pos (zdL es X.env)).any (·.1)=false:=by rfl)
 (ht:eval (.Call (.Attribute o m apos) (e::es) [] pos) X.env=(do
  let ov <- eval o X.env
  standAt apos.atName
  let (f,first) <- holding [ov] (getMethod ov m pl)
  callWith pos f first (backTo pos (zdL (e::es) X.env)) (backToKw pos (keywordEach [] X.env))):=by rfl) :
 PE X (.Call (.Attribute o m apos) (e::es) [] pos) (JS C m sp yt E ta t):=by
 intro pins s G H Q I h;refine PySem.W.methodCall_KW (pl:=pl) (fC (he pins s G H _ I h) fun u s1 zqz=>?_) ht;obtain⟨x,H1,I1,rx,a,dx,fs,ex,ea,l,q⟩:=zqz;subst ex;obtain rfl:u=yac a:=rx;refine DX I1 ea c hm l ?_;refine zb3 (first:=[.ref a]) (h₀:=X.base) I.ok.mod.PD hm.kp (fC (ha pos pins s1 G H1 _ I1 q) fun us s2 ⟨vs,H2,I2,r,q2⟩=>⟨I2.zg,?_⟩) NO vQ;exact JU (us:=.ref a::us) (vs:=.ref a::vs) F hr hb hd hx I2 (.cons rfl r) q2
structure Mk(K:zaa)(C f:zdF):Prop where
 makes:zcR K C=true
 init:zaG K (.ref C) "__init__"=some (some (.ref f))
 fn:zcn K (.ref f)=true
 kp:za6 K (.ref C)=true
theorem JV{G:St}(M:Mk X.K C f)(F:bt X.prog X.w X.K X.mg X.base CX k f fd ps sp)(hr:gw (k+1) X.A)(hb:Binds X.K fd ps ds)(hd:Vals yt ds)
 (hx:Passes CX X E) (I:Inv X pins G H s) (r:Vals vs us)
 (h:∀x dx,H x=none->H dx=none->dx≠x->sp (.ref x::(vs++yt)) (upd (upd H dx (.own x)) x (.ins C dx [])) (fun v H2=>v=.eA/\Q (.ref x) H2) E) :
 yab (model X.prog X.w) X.A (call (.ref C) us) (EP X pins G Q) X.xe s:=by
 have hq:=h (s.heap.objs.size+1) s.heap.objs.size (I.bS.fresh (zdE _)) (I.bS.fresh (zah _)) (zaz (zcG _));have I2:=Inv.made (C:=C) I;have r2:Vals (V.ref (s.heap.objs.size+1)::(vs++yt)) (yac (s.heap.objs.size+1)::(us++ds)):=.cons rfl (r.append hd);have hl:(yac (s.heap.objs.size+1)::us++ds).length=ps.length:=by
  have e:=r2.length;rw[F.len _ _ _ _ hq] at e;exact e.symm
 refine wpAny_call (JQ (f:=f) I.zg M.makes M.init (beq_iff_eq.mp M.fn) (yaT (F.run _ X.stack _ _ ⟨yac (s.heap.objs.size+1)::us,[]⟩ (yac (s.heap.objs.size+1)::(us++ds)) _ _ E (hr.make C us [])
  (I2.JR.make C us []) (hb _ (yac (s.heap.objs.size+1)::us) I2.zg hl) r2 hq) fun r s' Nh=>?_))
 cases r with
 |error e=>exact hx pins G _ _ e s' I2 Nh
 |ok fl=>
  cases fl with
  |ret u=>
   obtain⟨v,H',I3,rv,ev,q3⟩:=I2.after Nh;subst ev;exact⟨rv,⟨V.ref (s.heap.objs.size+1),H',I3,rfl,q3⟩⟩
  |next=>exact False.elim Nh
  |brk=>exact False.elim Nh
  |cont=>exact False.elim Nh
theorem tF(M:Mk X.K C f)(F:bt X.prog X.w X.K X.mg X.base CX k f fd ps sp)(hr:gw (k+1) X.A)(hg:Gl X x)(hm:X.mg x=some (.ref C))(hb:Binds X.K fd ps ds)(hd:Vals yt ds)(hx:Passes CX X E)
 (ha:PA X (e::es) t) (Eb:(x==("__debug__":Str))=false:=by decide) (he:zdL (e::es) X.env=(false,eval e X.env)::zdL es X.env:=by rfl) (vQ:(backTo pos (zdL es X.env)).any (·.1)=false:=by rfl) :
 PE X (.Call (.Name x p) (e::es) [] pos) (JT C sp yt E t):=by
 intro pins s G H Q I h;refine yas (mZ I hg hm ?_ Eb);refine zb3 (h₀:=X.base) I.ok.mod.PD M.kp (fC (ha pos pins s G H _ I h) fun us s1 ⟨vs,H1,I1,r,q⟩=>⟨I1.zg,?_⟩) he vQ;exact JV M F hr hb hd hx I1 r q
end
structure a9(N P:List Str)(sc:Scope):Prop where
 kind:sc.kind=.function
 co:sc.isCoroutine=false
 gen:sc.isGenerator=false
 nd:N.Nodup
 pre:N.take P.length=P
 par:∀x∈P,sc.names.lookup x=some .local\/sc.names.lookup x=some .cell
 Rl:∀y∈sc.names,y.2≠.free
theorem zi{kindOf:Str->Option NameKind}:∀{m:Str->Option zdG},(∀v,(x,v) ∉ binds)->bindL kindOf binds m x=m x:=by
 induction binds with
 |nil=>intros;rfl
 |cons zz r ih=>
  intro m h;obtain⟨n,v⟩:=zz;unfold bindL;rw[ih fun w hw=>h w (zag _ hw)];split
  .have:x≠n:=by rintro rfl;exact h v zao
   simp[this]
  .rfl
theorem zj{kindOf:Str->Option NameKind}:∀{m:Str->Option zdG},(∀v,(x,v) ∉ binds)->bindC kindOf binds m x=m x:=by
 induction binds with
 |nil=>intros;rfl
 |cons zz r ih=>
  intro m h;obtain⟨n,v⟩:=zz;unfold bindC;rw[ih fun w hw=>h w (zag _ hw)];split
  .rfl
  .have:x≠n:=by rintro rfl;exact h v zao
   simp[this]
theorem zm{kindOf:Str->Option NameKind}:∀{P:List Str}{vs:List zdG}{i:Nat}{m:Str->Option zdG},P.Nodup->P[i]?=some x->vs[i]?=some v->kindOf x=some .local->
 bindL kindOf (P.zip vs) m x=some v
 |[],_,_,_,_,h,_,_=>by simp at h
 |_::_,[],_,_,_,_,h,_=>by simp at h
 |p::P,w::vs,0,m,nd,h1,h2,hk=>by
  simp at h1 h2;subst h1;subst h2;show bindL kindOf ((p,w)::P.zip vs) m p=_;unfold bindL;rw[zi fun v hv=>(zaV.mp nd).1 (zci hv).1,ybS hk];simp
 |p::P,w::vs,i+1,m,nd,h1,h2,hk=>by
  show bindL kindOf ((p,w)::P.zip vs) m x=_;unfold bindL;exact zm (i:=i) (zaV.mp nd).2 (by simpa using h1) (by simpa using h2) hk
theorem zo{kindOf:Str->Option NameKind}:∀{P:List Str}{vs:List zdG}{i:Nat}{m:Str->Option zdG},P.Nodup->P[i]?=some x->vs[i]?=some v->kindOf x≠some .local->
 bindC kindOf (P.zip vs) m x=some v
 |[],_,_,_,_,h,_,_=>by simp at h
 |_::_,[],_,_,_,_,h,_=>by simp at h
 |p::P,w::vs,0,m,nd,h1,h2,hk=>by
  simp at h1 h2;subst h1;subst h2;show bindC kindOf ((p,w)::P.zip vs) m p=_;unfold bindC;rw[zj fun v hv=>(zaV.mp nd).1 (zci hv).1,ybR hk];simp
 |p::P,w::vs,i+1,m,nd,h1,h2,hk=>by
  show bindC kindOf ((p,w)::P.zip vs) m x=_;unfold bindC;exact zo (i:=i) (zaV.mp nd).2 (by simpa using h1) (by simpa using h2) hk
noncomputable def start (N:List Str)(vs:List V):St:=vs.map some++zbf (N.length-vs.length) none
noncomputable def gV (CX:BC)(P:zdR)(w:zdH)(K:zaa)(mg:Str->Option zdG)(base:yaf)(N:List Str)(qual:Str)(scope:Scope)(f:zdF)(cd:zdG)(A:zdQ)(outer:List Env)(s:zdP)(H:Hp)(E:XK):Cx where
 prog:=P
 w:=w
 K:=K
 mg:=mg
 base:=base
 A:=A.deeper (envOfC qual scope s.heap.objs.size f cd)
 N:=N
 s₀:=s
 H₀:=H
 env:=envOfC qual scope s.heap.objs.size f cd
 outer:=outer
 stack:=envOfC qual scope s.heap.objs.size f cd::outer
 ex:=[]
 calm:=true
 fn:=fun _=>true
 pn:=[]
 xe:=fun e s'=>yab (model P w) (A.deeper (envOfC qual scope s.heap.objs.size f cd)) (leaving (envOfC qual scope s.heap.objs.size f cd) e) (fun _ Ni=>CX outer H s E e Ni) (fun e' Ni=>CX outer H s E e' Ni) s'
theorem BX{sc:Scope}(h:sc.names.lookup x=some .cell):∃c,(cellsFrom n sc.names []).lookup x=some c:=by
 have q:=zdo sc.names n [] (.inl h);exact zcm.mp q
theorem HJ{K:zaa}{s s1:zdP}{H:Hp}{E:XK}{us:List zdG}{vs:List V}
 (S:a9 N ps scope) (hd:A.handled=none) (e0:rL P w K mg base A outer s H) (hl:vs.length=ps.length) (r:Vals vs us)
 (x:InCallC s s.heap.objs.size (bindL (envOfC qual scope s.heap.objs.size f cd).kindOf (ps.zip us) fun _=>none) (cellsFrom (s.heap.objs.size+1) scope.names []) (bindC (envOfC qual scope s.heap.objs.size f cd).kindOf (ps.zip us) fun _=>none) s1) :
 Inv (gV CX P w K mg base N qual scope f cd A outer s H E) [] (start N vs) H s1:=by
 have vQ:ps.length<=N.length:=by have:=ybW zbg S.pre;rw[zbD] at this;lia
 obtain⟨h1,tk,rfl,hk⟩:=x.done;have Rm:∀b:zdF,b ∉ (gV CX P w K mg base N qual scope f cd A outer s H E).ex:=fun b z=>ybX (show b∈([]:List zdF) from z) (by simp);refine⟨⟨e0.mod,S.kind,rfl,rfl,zah _,fun y z c h1 h2=>?_,fun y hy=>?_,fun y c _ h=>?_,fun _=>hd,Around.frames_deeper e0.frames,.inr ⟨rfl,rfl⟩,fun b z=>ybX z (Rm b),e0.bs,e0.BL,fun b _ _=>Rm b,fun b z=>ybX z (Rm b),e0.mz,e0.Fu⟩,
  rfl,e0.bare,Un.kept hk,⟨_,x.toInCall.ns,fun i y v h1 h2 h3=>?_⟩,fun y c h=>⟨_,x.cell y c h⟩,e0.bS.fresh (zah _),fun y c h=>?_,fun p hp=>ybX (show p∈([]:List (zdF×Obj)) from hp) (by simp),e0.bS.kept hk,?_⟩
 .exact name_of_addr x.apart (PySem.mem_of_lookup h1) (PySem.mem_of_lookup h2)
 .have hy:scope.names.lookup y=some .cell\/scope.names.lookup y=some .free:=hy;rcases hy with hy |hy
  .exact BX hy
  .exact ybX rfl (S.Rl _ (PySem.mem_of_lookup hy))
 .exact zbw (x.above y c (PySem.mem_of_lookup h))
 .have hi:i<vs.length:=by
   unfold start at h2;by_cases hi:i<vs.length
   .exact hi
   .rw[zbJ (by simpa using hi)] at h2;rw[zdh] at h2;split at h2<;>cases h2
  have ha:vs[i]?=some v:=by
   unfold start at h2;rw[zbO (by simpa using hi),zar] at h2;cases e:vs[i]? with
   |none=>rw[e] at h2;cases h2
   |some a=>rw[e] at h2;cases h2;rfl
  obtain⟨u,hu,rv⟩:=r.get ha;have hp:ps[i]?=some y:=by
   rw[<- S.pre,zda (by lia)];exact h1
  have ndP:ps.Nodup:=by rw[<- S.pre];exact S.nd.sublist (List.take_sublist _ _)
  refine⟨u,rv,?_⟩;rcases S.par y (zaD hp) with k |k
  .exact .inl ⟨k,zm ndP hp hu k⟩
  .obtain⟨c,e⟩:=BX (n:=s.heap.objs.size+1) k;refine .inr ⟨.inl k,c,e,?_⟩;have q:=x.cell y c e;rw[zo ndP hp hu (by show scope.names.lookup y≠_;rw[k];decide)] at q;exact q
 .exact e0.bS.fresh (zbw (x.above y c (PySem.mem_of_lookup h)))
 .unfold start;show _=N.length;rw[zai,zac,zdq];lia
theorem JW{K:zaa}{dV kV doc pm eY ct oc:zdG}{an od:Option zdF}
 {Ec:Array (Option zdG)} {N ps:List Str} {sp:Sp} (lk:K.lookup f=some ⟨oc,od,.func (za9 name qual params body scope dV kV doc pm an eY ct),Ec⟩) (BP:zbS K eY qual=true) (S:a9 N ps scope)
 (len:∀vs H Q E,sp vs H Q E->vs.length=ps.length)
 (pj:∀(A:zdQ) (outer:List Env) (s:zdP) (H:Hp) (vs:List V) (Q:VK) (E:XK),gw k (A.deeper (envOfC qual scope s.heap.objs.size f eY))->sp vs H Q E->
  ∃t,BO (gV CX P w K mg base N qual scope f eY A outer s H E) body t/\t {nx:=fun _ H'=>Q .eA H',rt:=Q} (start N vs) H) :
 bt P w K mg base CX (k+1) f (za9 name qual params body scope dV kV doc pm an eY ct) ps sp:=by
 refine⟨len,fun A outer s H args us vs Q E hr e0 hb r Jl=>?_⟩;have hl:=len _ _ _ _ Jl;have KX:K.In s.heap:=e0.mod.PD.keeps fun b o e=>(e0.bs b o e).1;have lim:s.heap.NoLimit:=e0.mod.nolimit.keeps fun b o e=>(e0.bs b o e).1;have Up:∀y∈ps.zip us,scope.names.lookup y.1=some .local\/(scope.names.lookup y.1=some .cell/\((cellsFrom (s.heap.objs.size+1) scope.names []).lookup y.1).isSome=true):=fun ⟨n,v⟩ hy=>by
  rcases S.par n (zci hy).1 with q |q
  .exact .inl q
  .exact .inr ⟨q,zdo _ _ _ (.inl q)⟩
 refine codeAny_call_function hr.depth (KX _ _ lk) rfl S.co S.gen rfl (PySem.W.codeRec_of KX BP) (hb _ _ _ _ ?_);refine wpAny_newFunctionEnv_cells S.kind Up fun env he s1 x=>?_;subst he;refine⟨lim.keeps x.toInCall.keep,codeAny_func ?_⟩;obtain⟨t,ht,hq⟩:=pj A outer s H vs Q E (hr.deeper _) Jl;have I:Inv (gV CX P w K mg base N qual scope f eY A outer s H E) [] (start N vs) H s1:=HJ S hr.hd e0 hl r x;refine yaw (ht [] s1 (start N vs) H _ I hq) (fun fl s' hs=>?_) fun e s' hs=>hs;have fin:∀{G':St} {H':Hp} {v:V} {u:zdG},Inv (gV CX P w K mg base N qual scope f eY A outer s H E) [] G' H' s'->RelV v u->Q v H'->CE outer P w H s Q u s':=
  fun {G' H' v u} J rv q=>⟨v,H',J.os,J.bare,J.base,J.bS,rv,q⟩
 cases fl with
 |ret u=>
  obtain⟨v,G',H',J,rv,q⟩:=hs;exact fin J rv q
 |next=>
  obtain⟨G',H',J,q⟩:=hs;exact fin (v:=V.eA) (u:=yaA) J rfl q
 |brk=>
  obtain⟨_,_,_,q⟩:=hs;exact False.elim q
 |cont=>
  obtain⟨_,_,_,q⟩:=hs;exact False.elim q
section
variable{X:Cx}{x:Str}{p pos:Pos}{e:Expr}{es:List Expr}{t:TA}{id T:String}{r:List V->Hp->VK->Prop}
def Yo (r:List V->Hp->VK->Prop)(t:TA):TE:=fun G H Q=>t G H fun vs H1=>r vs H1 Q
theorem bT(hc:kK X (.builtin id) r)(hg:Gl X x)(hm:X.mg x=none)(hv:bootBuiltins x=some (.builtin id))(ha:PA X (e::es) t)(hn:x≠"__name__":=by decide)(Eb:(x==("__debug__":Str))=false:=by decide)
 (he:zdL (e::es) X.env=(false,eval e X.env)::zdL es X.env:=by rfl) (vQ:(backTo pos (zdL es X.env)).any (·.1)=false:=by rfl):PE X (.Call (.Name x p) (e::es) [] pos) (Yo r t):=by
 intro pins s G H Q I h;refine yas (m7 I hg hm hv ?_ hn Eb);exact PyProof.Rows.callWith_builtin1 (fC (ha pos pins s G H _ I h) fun us s1 ⟨vs,H1,I1,r1,q1⟩=>hc pins s1 G H1 vs us Q I1 r1 q1) he vQ
theorem dP(hc:kK X (.type T) r)(hg:Gl X x)(hm:X.mg x=none)(hv:bootBuiltins x=some (.type T))(ha:PA X (e::es) t)(hn:x≠"__name__":=by decide)(Eb:(x==("__debug__":Str))=false:=by decide)
 (he:zdL (e::es) X.env=(false,eval e X.env)::zdL es X.env:=by rfl) (vQ:(backTo pos (zdL es X.env)).any (·.1)=false:=by rfl):PE X (.Call (.Name x p) (e::es) [] pos) (Yo r t):=by
 intro pins s G H Q I h;refine yas (m7 I hg hm hv ?_ hn Eb);exact za4 (fC (ha pos pins s G H _ I h) fun us s1 ⟨vs,H1,I1,r1,q1⟩=>hc pins s1 G H1 vs us Q I1 r1 q1) he vQ
end
end L2
namespace HT
open PySem PyProof.Rows
section
variable{prog:zdR}{w:zdH}{A:zdQ}{E:zdG->zdP->Prop}{s:zdP}
theorem NT(ht:IsTup s.heap t vs.toArray)(hb:IsTup s.heap b ws.toArray)(hv:vs≠[])
 (h1:ws=[]->Q (.ref t) s) (h2:ws≠[]->Q (.ref s.heap.objs.size) {s with heap:=s.heap.push {cls:=.type "tuple",data:=.seq (vs++ws).toArray} })
 (hsz:vs.length+ws.length<=zdN):yab (model prog w) A (binaryOp .Add (.ref t) (.ref b)) Q E s:=by
 obtain⟨⟨cls,dd,data,sl⟩,ho,hc,n,hd⟩:=id ht;obtain⟨⟨Yp,Tf,data2,Uq⟩,Rn,Ur,n2,hd2⟩:=id hb;simp only at hc hd Ur hd2;subst hc hd Ur hd2;have e:vs.toArray++ws.toArray=(vs++ws).toArray:=by simp
 by_cases hw:ws=[]
 .exact concat_meets ⟨_,ho,rfl⟩ ⟨_,Rn,rfl⟩ noFill_tuple_add seq_tuple_add zcE zcz (zco _ _)
   (tuple_addW1 t b vs.toArray ws.toArray n n2 dd Tf sl Uq (by simpa using hv) (by simp[hw])) ⟨ho,Rn,h1 hw⟩
 .refine concat_meets ⟨_,ho,rfl⟩ ⟨_,Rn,rfl⟩ noFill_tuple_add seq_tuple_add zcE zcz (zco _ _)
   (tuple_addW2 t b vs.toArray ws.toArray n n2 dd Tf sl Uq (by simpa using hv) (by simpa using hw) (by rw[zay,zay];exact hsz)) ⟨ho,Rn,?_⟩
  rw[e];exact h2 hw
noncomputable def BY (n d:Nat):Option Int->Nat
 |none=>d
 |some v=>if v<0 then (v+(n:Int)).toNat else min v.toNat n
theorem BZ(n d:Nat):BY n d none=d:=rfl
theorem FE(n d k:Nat):BY n d (some (k:Int))=min k n:=by
 show (if (k:Int)<0 then ((k:Int)+(n:Int)).toNat else min (k:Int).toNat n)=min k n;rw[ybR (by lia),zbL]
end
end HT
namespace L2
open PySem PySem.Spec PyProof.Rows
abbrev TO:=St->Hp->(Option Int->Hp->Prop)->Prop
def PO (X:Cx)(e:Option Expr)(t:TO):Prop:=
 ∀(pins:List (zdF×Obj)) (s:zdP) (G:St) (H:Hp) (Q:Option Int->Hp->Prop),Inv X pins G H s->t G H Q->
  yab (model X.prog X.w) X.A (evalPart e X.env) (fun u s'=>∃o H',Inv X pins G H' s'/\IsPart u o/\Q o H') X.xe s
def Ao:TO:=fun _ H Q=>Q none H
def JX (t:TE):TO:=fun G H Q=>t G H fun x H1=>∃i,x=.int i/\Q (some i) H1
section
variable{X:Cx}{e:Expr}{te:TE}{lo hi:Option Expr}{tl th:TO}{pos p2:Pos}
theorem wG:PO X none Ao:=by
 intro pins s G H Q I h;rw[evalPart_none];exact zdJ ⟨none,H,I,.none,h⟩
theorem wH(h:PE X e te):PO X (some e) (JX te):=by
 intro pins s G H Q I hw;rw[evalPart_some];refine fC (h pins s G H _ I hw) fun u s1 zqz=>?_;obtain⟨x,H1,I1,r1,q1⟩:=zqz;obtain⟨i,rfl,q⟩:=q1;obtain⟨t,rfl⟩:=r1;exact⟨some i,H1,I1,.int i t,q⟩
def SlR (X:Cx)(r:V->Option Int->Option Int->Hp->VK->Prop):Prop:=
 ∀(pins:List (zdF×Obj)) (s:zdP) (G:St) (H:Hp) (x:V) (v vl vu:zdG) (lo hi:Option Int) (sl:zdF) (Q:VK),Inv X pins G H s->RelV x v->s.heap.IsSliceOf sl vl vu .none->IsPart vl lo->IsPart vu hi->r x lo hi H Q->
  ∃T id,typeLookup (.type T) "__getitem__"=pure (some (.builtin id))/\s.TypeIs v T/\yab (model X.prog X.w) X.A (getItem v (.ref sl)) (EP X pins G Q) X.xe s
def Yq (r:V->Option Int->Option Int->Hp->VK->Prop)(te:TE)(tl th:TO):TE:=fun G H Q=>te G H fun x H1=>tl G H1 fun l H2=>th G H2 fun u H3=>r x l u H3 Q
theorem tH{r:V->Option Int->Option Int->Hp->VK->Prop}(hr:SlR X r)(he:PE X e te)(hl:PO X lo tl)(hu:PO X hi th):PE X (.Subscript e (.Slice lo hi none p2) pos) (Yq r te tl th):=by
 intro pins s G H Q I h;refine Subscript_ (fC (he pins s G H _ I h) fun v s1 zqz=>?_);obtain⟨x,H1,I1,r1,q1⟩:=zqz;refine wpAny_Slice (fC (hl pins s1 G H1 _ I1 q1) fun vl s2 zqz=>?_);obtain⟨l,H2,I2,pl,q2⟩:=zqz;refine fC (hu pins s2 G H2 _ I2 q2) fun vu s3 zqz=>?_;obtain⟨u,H3,I3,pu,q3⟩:=zqz;rw[evalPart_none];refine zdJ ?_;have I4:Inv X pins G H3 {s3 with heap:=s3.heap.push {cls:=.type "slice",data:=.fields #[vl,vu,.none]} }:=I3.kept (t':=s3.toks) fun b ob q=>yaa _ q;obtain⟨T,id,hT,ht,hg⟩:=hr pins {s3 with heap:=s3.heap.push {cls:=.type "slice",data:=.fields #[vl,vu,.none]} } G H3 x v vl vu l u s3.heap.objs.size Q I4 r1 (Heap.IsSliceOf.new ..) pl pu q3;show yab (model X.prog X.w) X.A (subscriptTail e (.Slice lo hi none p2) v (.ref s3.heap.objs.size)) (EP X pins G Q) X.xe {s3 with heap:=s3.heap.push {cls:=.type "slice",data:=.fields #[vl,vu,.none]} };exact tail_any (ops:=[.ref s3.heap.objs.size,v]) ht hT hg (by with_unfolding_all rfl)
def Ap (xs:List V)(lo hi:Option Int):List V:=(xs.drop (HT.BY xs.length 0 lo)).take (HT.BY xs.length xs.length hi-HT.BY xs.length 0 lo)
theorem B0(xs:List V)(lo hi:Option Int):(Ap xs lo hi).length<=xs.length:=by
 unfold Ap;rw[zbD,zbU];lia
def Us (K:zaa):R2:=fun x y H Q=>∃a b xs ys,x=.ref a/\y=.ref b/\bH K H a xs/\bH K H b ys/\xs≠[]/\xs.length+ys.length<=zdN/\
 (ys=[]->Q (.ref a) H)/\(ys≠[]->∀p,H p=none->Q (.ref p) (upd H p (.tup (xs++ys))))
theorem Vals.bQ(r:Vals xs us):us=[]↔xs=[]:=by
 cases r with
 |nil=>simp
 |cons _ _=>simp
theorem NU:qv X (binaryOp .Add) (Us X.K):=by
 intro pins s G H x y v u Q I rx ry h;obtain⟨a,b,xs,ys,rfl,rfl,ha,hb,hx,hz,q1,q2⟩:=h;cases rx;cases ry;obtain⟨bc,r1,p1,_⟩:=I.tuple ha;obtain⟨oW,r2,p2,_⟩:=I.tuple hb;refine HT.NT p1 p2 (fun z=>hx (r1.bQ.mp z)) (fun z=>⟨.ref a,H,I,rfl,q1 (r2.bQ.mp z)⟩) (fun z=>?_) (by rw[<- r1.length,<- r2.length];exact hz);refine⟨.ref s.heap.objs.size,_,I.laid (t':=s.toks) (o:=.tup (xs++ys)) (fun b ob q=>yaa _ q) (zah _) ?_,rfl,q2 (fun w=>z (r2.bQ.mpr w)) _ (I.bS.fresh (zah _))⟩;exact⟨by rw[zai];exact hz,_,r1.append r2,IsTup.new _ _⟩
end
noncomputable def PL (n:Nat)(i:Int):Option Nat:=if 0<=i then (if i<n then some i.toNat else none) else if -(n:Int)<=i then some (i+n).toNat else none
def Jm {O:Type}(xs:List O)(i:Int):Option O:=(PL xs.length i).bind fun j=>xs[j]?
theorem FF(h:PL n i=some j):seqIndex? i n=some j/\j<n/\-(n:Int)<=i/\i<n:=by
 unfold PL at h;by_cases h0:0<=i
 .rw[ybS h0] at h;by_cases h1:i<n
  .rw[ybS h1] at h;have e:i.toNat=j:=za5.inj h;exact⟨by rw[seqIndex_of h0 h1,e],by lia,by lia,h1⟩
  .rw[ybR h1] at h;cases h
 .rw[ybR h0] at h;by_cases h1 : -(n:Int)<=i
  .rw[ybS h1] at h;have e:(i+n).toNat=j:=za5.inj h;exact⟨by rw[seqIndex_neg (by lia) h1,e],by lia,h1,by lia⟩
  .rw[ybR h1] at h;cases h
theorem FG{O:Type}{xs:List O}{v:O}(h:Jm xs i=some v):∃j,seqIndex? i xs.length=some j/\xs[j]?=some v/\j<xs.length/\-(xs.length:Int)<=i/\i<xs.length:=by
 unfold Jm at h;cases e:PL xs.length i with
 |none=>rw[e] at h;cases h
 |some j=>
  rw[e] at h;obtain⟨h1,h2,h3,h4⟩:=FF e;exact⟨j,h1,h,h2,h3,h4⟩
theorem az{O:Type}{xs:List O}{j:Nat}{v:O}(h:xs[j]?=some v):Jm xs (j:Int)=some v:=by
 have hj:j<xs.length:=(zap.mp h).1;have e:PL xs.length (j:Int)=some j:=by
  unfold PL;rw[ybS (by lia),ybS (by lia)];simp
 unfold Jm;rw[e];exact h
def wI (b:Expr):Prop:=∀o i,subscripted b false o i=operate [o,i] (getItem o i)
def Ut (X:Cx)(r:R2):Prop:=
 ∀(value slice:Expr) (pins:List (zdF×Obj)) (s:zdP) (G:St) (H:Hp) (x y:V) (v u:zdG) (Q:VK),Inv X pins G H s->RelV x v->RelV y u->r x y H Q->
  subscripted slice false v u=operate [v,u] (getItem v u)->yab (model X.prog X.w) X.A (subscriptTail value slice v u) (EP X pins G Q) X.xe s
def MtR (X:Cx)(id:String)(r:V->List V->Hp->VK->Prop):Prop:=
 ∀(pins:List (zdF×Obj)) (s:zdP) (G:St) (H:Hp) (x:V) (xs:List V) (v:zdG) (us:List zdG) (Q:VK),Inv X pins G H s->RelV x v->Vals xs us->r x xs H Q->
  yab (model X.prog X.w) X.A (call (.builtin id) (v::us)) (EP X pins G Q) X.xe s
section
variable{X:Cx}{a b:Expr}{ta tb:TE}{pos:Pos}
theorem aJ{r:R2}(hr:Ut X r)(ha:PE X a ta)(hb:PE X b tb)(hs:wI b):PE X (.Subscript a b pos) (Ud r ta tb):=by
 intro pins s G H Q I h;exact Subscript_ (Rf ha hb I h fun v u s2 x y H2 I2 rx ry q=>hr a b pins s2 G H2 x y v u Q I2 rx ry q (hs _ _))
def Ro (K:zaa):R2:=fun x y H Q=>∃p xs i v,x=.ref p/\y=.int i/\iR K H p xs/\Jm xs i=some v/\Q v H
def Rp (K:zaa):R2:=fun x y H Q=>∃p xs i v,x=.ref p/\y=.int i/\bH K H p xs/\Jm xs i=some v/\Q v H
theorem dy:Ut X (Ro X.K):=by
 intro value slice pins s G H x y v u Q I rx ry h hs;obtain⟨p,xs,i,z,rfl,rfl,hq,he,q⟩:=h;cases rx;obtain⟨t,rfl⟩:=ry;obtain⟨bc,r,pl,hz⟩:=I.list hq;obtain⟨j,h1,h2,h3,h4,h5⟩:=FG he;obtain⟨w,ew,HK⟩:=r.get h2;have hl:=r.length;have hn:=xc;have fin:EP X pins G Q w s:=⟨z,H,I,HK,q⟩
 by_cases h0:0<=i
 .have hj:i.toNat=j:=by
   rw[seqIndex_of h0 h5] at h1;exact za5.inj h1
  exact item_listR pl.isList h0 (by lia) (by rw[hj];simpa using ew) fin hs
 .have hj:(i+(bc.toArray.size:Int)).toNat=j:=by
   rw[seqIndex_neg (by lia) h4] at h1;rw[zay,<- hl];exact za5.inj h1
  exact subscriptTail_builtinR (x:=w) pl.isList.typeIs slot_list_getitem.lookup
   (wpAny_getItem_list_neg (Q:=fun r s'=>r=w/\EP X pins G Q r s') pl.isList (by lia) (by rw[zay]<;>lia) (by lia) (by rw[hj];simpa using ew) ⟨rfl,fin⟩) hs
theorem aN:Ut X (Rp X.K):=by
 intro value slice pins s G H x y v u Q I rx ry h hs;obtain⟨p,xs,i,z,rfl,rfl,hq,he,q⟩:=h;cases rx;obtain⟨t,rfl⟩:=ry;obtain⟨bc,r,pl,hz⟩:=I.tuple hq;obtain⟨j,h1,h2,h3,h4,h5⟩:=FG he;obtain⟨w,ew,HK⟩:=r.get h2;have hl:=r.length;have hn:=xc;have fin:EP X pins G Q w s:=⟨z,H,I,HK,q⟩
 exact subscriptTail_builtinR (x:=w) pl.typeIs slot_tuple_getitem.lookup
  (getItem_tuple (j:=j) (Q:=fun r s'=>r=w/\EP X pins G Q r s') pl (by lia) (by lia) (by rw[zay,<- hl];exact h1) (by simpa using ew) ⟨rfl,fin⟩) hs
theorem Ed(bc:List zdG)(n j:Nat)(u:zdG):yaY (·.setIfInBounds j u) {cls:=.type "list",data:=.seq bc.toArray n}={cls:=.type "list",data:=.seq (bc.set j u).toArray n}:=by
 simp[yaY]
theorem Inv.lst{G:St}(I:Inv X pins G H s)(h:H p=some (.lst xs)) :
 ∃(bc:List zdG) (n:Nat),Vals xs bc/\s.heap.get? p=some {cls:=.type "list",data:=.seq bc.toArray n}/\xs.length<=zdN:=by
 obtain⟨z,bc,n,r,e⟩:=I.bS p _ h;exact⟨bc,n,r,e,z⟩
theorem Inv.Rq{G:St}{bc its':List zdG}(I:Inv X pins G H s)(h:H p=some (.lst xs))
 (ho:s.heap.get? p=some {cls:=.type "list",data:=.seq bc.toArray n}) (hf:f {cls:=.type "list",data:=.seq bc.toArray n}={cls:=.type "list",data:=.seq its'.toArray n' }) (r:Vals ys its') (hz:ys.length<=zdN) (t:Nat) :
 Inv X pins G (upd H p (.lst ys)) {s with heap:=s.heap.update p f,toks:=t}:=by
 have e:(s.heap.update p f).get? p=some {cls:=.type "list",data:=.seq its'.toArray n' }:=by
  rw[yaz f ho (by rw[hf]<;>rfl),hf]
 refine I.write (x:=p) (e:=p) (by rw[h];trivial) (.inl rfl) (fun b u hb q=>(yaH _ _ (Ne.symm hb)).trans q) ⟨_,e⟩ ?_;exact⟨hz,its',n',r,e⟩
def Uu:V->V->V->Hp->(Hp->Prop)->Prop:=fun o i v H Q=>∃p xs k j,o=.ref p/\i=.int k/\H p=some (.lst xs)/\PL xs.length k=some j/\Q (upd H p (.lst (xs.set j v)))
theorem set_list:Ub X Uu:=by
 intro pins s G H o i v ov iv u Q I ro ri rv h;obtain⟨p,xs,k,j,rfl,rfl,hp,hj,q⟩:=h;cases ro;obtain⟨t,rfl⟩:=ri;obtain⟨bc,n,r,ho,hz⟩:=I.lst hp;obtain⟨h1,h2,h3,h4⟩:=FF hj;have hl:=r.length;have hn:=xc;have I':Inv X pins G (upd H p (.lst (xs.set j v))) {s with heap:=s.heap.update p (yaY (·.setIfInBounds j u))}:=
  I.Rq hp ho (Ed bc n j u) (r.set rv j) (by rw[zdi];exact hz) s.toks
 by_cases h0:0<=k
 .have hk:k.toNat=j:=by
   rw[seqIndex_of h0 h4] at h1;exact za5.inj h1
  exact PySem.W.ki_setAt ho h0 (by lia) (by rw[zay,<- hl];exact h4) (by rw[hk];exact⟨_,I',q⟩)
 .have hk:(k+(bc.toArray.size:Int)).toNat=j:=by
   rw[seqIndex_neg (by lia) h3] at h1;rw[zay,<- hl];exact za5.inj h1
  exact PySem.W.ki_setBack ho (by lia) (by rw[zay,<- hl];exact h3) (by lia) (by rw[hk];exact⟨_,I',q⟩)
theorem Aq(lo hi:Option Int)(n:Nat):(sliceBounds lo hi none n).1=((HT.BY n 0 lo:Nat):Int)/\(sliceBounds lo hi none n).2.1=((HT.BY n n hi:Nat):Int)/\(sliceBounds lo hi none n).2.2=1:=by
 refine⟨?_,?_,rfl⟩
 .cases lo with
  |none=>simp[sliceBounds,HT.BY]
  |some i=>
   simp only[sliceBounds,HT.BY,Option.getD_none,show (1:Int)>0 by decide,if_true];by_cases h:i<0
   .simp only[h,if_true]<;>lia
   .simp only[h,if_false]<;>lia
 .cases hi with
  |none=>simp[sliceBounds,HT.BY]
  |some i=>
   simp only[sliceBounds,HT.BY,Option.getD_none,show (1:Int)>0 by decide,if_true];by_cases h:i<0
   .simp only[h,if_true]<;>lia
   .simp only[h,if_false]<;>lia
theorem yy(bc:List zdG)(lo hi:Option Int):slicePick bc.toArray lo hi none=((bc.drop (HT.BY bc.length 0 lo)).take (HT.BY bc.length bc.length hi-HT.BY bc.length 0 lo)).toArray:=by
 obtain⟨h1,h2,h3⟩:=Aq lo hi bc.toArray.size;unfold slicePick;rw[h1,h2,h3];simp only[sliceRange_one,pick_run,zay]<;>rfl
def Yr (K:zaa):V->Option Int->Option Int->Hp->VK->Prop:=fun x lo hi H Q=>∃a xs,x=.ref a/\iR K H a xs/\∀p,H p=none->Q (.ref p) (upd H p (.lst (Ap xs lo hi)))
theorem wJ:SlR X (Yr X.K):=by
 intro pins s G H x v vl vu lo hi sl Q I rx hs pl pu h;obtain⟨a,xs,rfl,hx,q⟩:=h;cases rx;obtain⟨bc,r,ht,hz⟩:=I.list hx;have hlen:=r.length;refine⟨"list",_,slot_list_getitem.lookup,ht.isList.typeIs,?_⟩;refine wpAny_getItem_list_slice ht.isList hs pl pu .none (by simp) ?_ (by rw[zay]<;>lia);rw[yy,<- hlen];refine⟨.ref s.heap.objs.size,_,I.laid (t':=s.toks) (o:=.lst (Ap xs lo hi)) (fun b ob q=>yaa _ q) (zah _) ?_,rfl,q _ (I.bS.fresh (zah _))⟩;exact⟨zax (B0 xs lo hi) hz,_,0,(r.drop (HT.BY xs.length 0 lo)).take (HT.BY xs.length xs.length hi-HT.BY xs.length 0 lo),yae _ rfl⟩
noncomputable def vR:V->Bool
 |.eA=>true
 |.bl _=>true
 |.int _=>true
 |.str _=>true
 |_=>false
noncomputable def PN:V->V->Bool
 |.eA,.eA=>true
 |.bl a,.bl b=>a==b
 |.bl a,.int b=>(if a then 1 else 0)==b
 |.int a,.bl b=>a==(if b then 1 else 0)
 |.int a,.int b=>a==b
 |.str a,.str b=>a==b
 |_,_=>false
theorem Rr(ry:RelV y u)(rx:RelV x v)(fy:vR y=true)(fx:vR x=true):SeqAt.EqAt A s u v (PN y x):=by
 cases y with
 |eA=>
  cases ry;cases x with
  |eA=>cases rx;exact SeqAt.EqAt.same _
  |bl b=>cases rx;exact SeqAt.EqAt.none_bool b
  |int b=>obtain⟨t,rfl⟩:=rx;exact SeqAt.EqAt.none_int b t
  |str b=>obtain⟨t,rfl⟩:=rx;exact SeqAt.EqAt.none_str b t
  |_=>exact ybX (show false=true from fx) zam
 |bl a=>
  cases ry;cases x with
  |eA=>cases rx;exact SeqAt.EqAt.bool_none a
  |bl b=>cases rx;exact SeqAt.EqAt.bool_bool a b
  |int b=>obtain⟨t,rfl⟩:=rx;exact SeqAt.EqAt.bool_int a b t
  |str b=>obtain⟨t,rfl⟩:=rx;exact SeqAt.EqAt.bool_str a b t
  |_=>exact ybX (show false=true from fx) zam
 |int a=>
  obtain⟨t',rfl⟩:=ry;cases x with
  |eA=>cases rx;exact SeqAt.EqAt.int_none a t'
  |bl b=>cases rx;exact SeqAt.EqAt.int_bool a t' b
  |int b=>obtain⟨t,rfl⟩:=rx;exact SeqAt.EqAt.int_int a t' b t
  |str b=>obtain⟨t,rfl⟩:=rx;exact ybL a t' b t
  |_=>exact ybX (show false=true from fx) zam
 |str a=>
  obtain⟨t',rfl⟩:=ry;cases x with
  |eA=>cases rx;exact SeqAt.EqAt.str_none a t'
  |bl b=>cases rx;exact SeqAt.EqAt.str_bool a t' b
  |int b=>obtain⟨t,rfl⟩:=rx;exact ybM a t' b t
  |str b=>obtain⟨t,rfl⟩:=rx;exact SeqAt.EqAt.str_str a t' b t
  |_=>exact ybX (show false=true from fx) zam
 |_=>exact ybX (show false=true from fy) zam
def NV (x:V)(u:zdG):Bool:=match u with
 |.none=>PN .eA x
 |.bool b=>PN (.bl b) x
 |.int i _=>PN (.int i) x
 |.str z _=>PN (.str z) x
 |_=>false
theorem JY(r:RelV y u)(f:vR y=true):NV x u=PN y x:=by
 cases y with
 |eA=>cases r;rfl
 |bl b=>cases r;rfl
 |int i=>obtain⟨t,rfl⟩:=r;rfl
 |str z=>obtain⟨t,rfl⟩:=r;rfl
 |_=>exact ybX (show false=true from f) zam
theorem Ar:∀{xs:List V}{us:List zdG},Vals xs us->xs.all vR=true->us.any (NV x)=xs.any fun y=>PN y x
 |_,_,.nil,_=>rfl
 |y::xs,u::us,.cons r t,f=>by
  rw[List.all_cons,za2] at f;rw[zbZ,zbZ,JY r f.1,Ar t f.2]
theorem xg(rx:RelV x v)(fx:vR x=true):∀{xs:List V}{us:List zdG},Vals xs us->xs.all vR=true->∀u∈us,SeqAt.EqAt A s u v (NV x u)
 |_,_,.nil,_=>fun u hu=>by cases hu
 |y::xs,u::us,.cons r t,f=>fun u' hu=>by
  rw[List.all_cons,za2] at f;rcases zak.mp hu with rfl |hu
  .rw[JY r f.1];exact Rr r rx f.1 fx
  .exact xg rx fx t f.2 u' hu
def Uv (x:V)(xs:List V):Bool:=xs.any fun y=>PN y x
def rIn (K:zaa)(neg:Bool):R2:=fun x y H Q=>∃p xs,y=.ref p/\(iR K H p xs\/bH K H p xs)/\vR x=true/\xs.all vR=true/\Q (.bl (if neg then !Uv x xs else Uv x xs)) H
theorem zp:qv X (yau .In) (rIn X.K false):=by
 intro pins s G H x y v u Q I rx ry h;obtain⟨p,xs,rfl,hq,fx,fs,q⟩:=h;cases ry;rcases hq with hq |hq
 .obtain⟨bc,r,pl,hz⟩:=I.list hq;refine SeqAt.in_listAt (NV x) pl.isList (fun w hw=>xg rx fx r fs w (by simpa using hw)) ⟨.bl _,H,I,rfl,?_⟩;rw[show bc.toArray.any (NV x)=bc.any (NV x) by simp,Ar r fs];exact q
 .obtain⟨bc,r,pl,hz⟩:=I.tuple hq;refine SeqAt.in_tupleAt (NV x) pl (fun w hw=>xg rx fx r fs w (by simpa using hw)) ⟨.bl _,H,I,rfl,?_⟩;rw[show bc.toArray.any (NV x)=bc.any (NV x) by simp,Ar r fs];exact q
theorem tI:kK X (.builtin "len") (fun xs H Q=>∃p ys,xs=[.ref p]/\(iR X.K H p ys\/bH X.K H p ys)/\Q (.int ys.length) H):=by
 intro pins s G H xs us Q I r h;obtain⟨p,ys,rfl,hq,q⟩:=h;obtain⟨u,rfl,rx⟩:=vals1 r;cases rx;have hn:=xc;rcases hq with hq |hq
 .obtain⟨bc,r',pl,hz⟩:=I.list hq;have hlen:=r'.length;exact Calls.call_len_list pl.isList (by simp only[zay]<;>lia) ⟨.int ys.length,H,I.tok _,⟨s.toks+1,by rw[zay,hlen]⟩,q⟩
 .obtain⟨bc,r',pl,hz⟩:=I.tuple hq;have hlen:=r'.length;exact len_tuple pl (by simp only[zay]<;>lia) ⟨.int ys.length,H,I.tok _,⟨s.toks+1,by rw[zay,hlen]⟩,q⟩
theorem As:kK X (.type "list") (fun xs H Q=>∃p ys,xs=[.ref p]/\(iR X.K H p ys\/bH X.K H p ys)/\∀l,H l=none->Q (.ref l) (upd H l (.lst ys))):=by
 intro pins s G H xs us Q I r h;obtain⟨p,ys,rfl,hq,q⟩:=h;obtain⟨u,rfl,rx⟩:=vals1 r;cases rx;have fin:∀(bc:List zdG),Vals ys bc->ys.length<=zdN->∀(h':yaf) (c':Nat),(∀b o',s.heap.get? b=some o'->h'.get? b=some o')->
  h'.get? s.heap.objs.size=some {cls:=.type "list",dict:=none,data:=.seq bc.toArray c',slots:=#[]}->EP X pins G Q (.ref s.heap.objs.size) {s with heap:=h' }:=fun bc r' hz h' c' kp e=>
  ⟨.ref s.heap.objs.size,_,I.laid (t':=s.toks) kp (zah _) (show bZ X.prog X.w _ h' _ (.lst ys) from ⟨hz,bc,c',r',e⟩),rfl,q _ (I.bS.fresh (zah _))⟩
 rcases hq with hq |hq
 .obtain⟨bc,r',pl,hz⟩:=I.list hq;have hlen:=r'.length;obtain⟨o,ho,hc,n,hd⟩:=pl.isList;exact call_list_seq p (.inl rfl) ho hc hd (fun h' c' kp e=>fin bc r' hz h' c' kp e) (by simp only[zay]<;>lia)
 .obtain⟨bc,r',pl,hz⟩:=I.tuple hq;have hlen:=r'.length;obtain⟨o,ho,hc,n,hd⟩:=pl;exact call_list_seq p (.inr rfl) ho hc hd (fun h' c' kp e=>fin bc r' hz h' c' kp e) (by simp only[zay]<;>lia)
theorem qI:kK X (.type "tuple") (fun xs H Q=>∃p ys,xs=[.ref p]/\((iR X.K H p ys/\∀l,H l=none->Q (.ref l) (upd H l (.tup ys)))\/(bH X.K H p ys/\Q (.ref p) H))):=by
 intro pins s G H xs us Q I r h;obtain⟨p,ys,rfl,h⟩:=h;obtain⟨u,rfl,rx⟩:=vals1 r;cases rx;rcases h with ⟨hq,q⟩ |⟨hq,q⟩
 .obtain⟨bc,r',pl,hz⟩:=I.list hq;have hlen:=r'.length;refine call_tuple_list pl.isList (fun h' kp=>?_) (by simp only[zay]<;>lia);have I1:Inv X pins G H {s with heap:=h' }:=I.kept (t':=s.toks) kp;have I2:Inv X pins G (upd H h'.objs.size (.tup ys)) {s with heap:=h'.push {cls:=.type "tuple",data:=.seq bc.toArray} }:=
   I1.laid (t':=s.toks) (fun b o e=>yaa _ e) (zah _) (show bZ X.prog X.w _ _ _ (.tup ys) from ⟨hz,bc,r',IsTup.new _ _⟩)
  exact⟨.ref h'.objs.size,_,I2,rfl,q _ (I1.bS.fresh (zah _))⟩
 .obtain⟨bc,r',pl,hz⟩:=I.tuple hq;exact call_tuple_same pl ⟨.ref p,H,I,rfl,q⟩
def tyV (K:zaa)(T:String)(x:V)(H:Hp):Prop:=match x with
 |.str _=>T = "str"
 |.int _=>T = "int"
 |.ref p=>(T = "list"/\∃xs,iR K H p xs)\/(T = "tuple"/\∃o,K.lookup p=some o/\o.cls=.type "tuple"/\o.dict=none)\/
  (T = "dict"/\((∃aB,H p=some (.dK aB))\/∃aB,H p=some (.dT aB)))\/(T = "set"/\∃S n,H p=some (.set S n))
 |_=>False
theorem Rt{G:St}(I:Inv X pins G H s)(r:RelV x v)(ty:tyV X.K T x H) :
 s.TypeIs v T/\∀a,v=.ref a->∃ob,s.heap.get? a=some ob/\ob.dict=none:=by
 cases x with
 |str z=>
  obtain⟨t,rfl⟩:=r;cases (show T = "str" from ty);exact⟨typeIs_str s z t,fun _ e=>nomatch e⟩
 |int i=>
  obtain⟨t,rfl⟩:=r;cases (show T = "int" from ty);exact⟨typeIs_int s i t,fun _ e=>nomatch e⟩
 |ref p=>
  cases r;rcases ty with ⟨rfl,xs,hq⟩ |⟨rfl,o,hk,hc,hd⟩ |⟨rfl,hk⟩ |⟨rfl,S,n,hk⟩
  .obtain⟨bc,_,pl,_⟩:=I.list hq;refine⟨pl.isList.typeIs,fun a e=>?_⟩;cases e;obtain⟨o,n,e,c,hd,_⟩:=pl;exact⟨o,e,hd⟩
  .refine⟨⟨o,I.zg p o hk,hc⟩,fun a e=>?_⟩;cases e;exact⟨o,I.zg _ o hk,hd⟩
  .have z:∃o,s.heap.get? p=some o/\o.ExactDict:=by
    rcases hk with ⟨aB,hk⟩ |⟨aB,hk⟩
    .obtain⟨_,_,_,_,o,_,_,e,ex,_⟩:=I.bS p _ hk;exact⟨o,e,ex⟩
    .obtain⟨_,_,_,_,o,_,_,e,ex,_⟩:=I.bS p _ hk;exact⟨o,e,ex⟩
   obtain⟨o,e,ex⟩:=z;refine⟨⟨o,e,ex.1⟩,fun a e2=>?_⟩;cases e2;exact⟨o,e,ex.2.1⟩
  .obtain⟨o,_,_,_,e,ex,_⟩:=I.bS p _ hk;refine⟨⟨o,e,ex.1⟩,fun a e2=>?_⟩;cases e2;exact⟨o,e,ex.2.1⟩
 |_=>exact False.elim ty
def Ys (K:zaa)(T:String)(r:V->List V->Hp->VK->Prop)(to:TE)(t:TA):TE:=fun G H Q=>to G H fun x H1=>tyV K T x H1/\t G H1 fun xs H2=>r x xs H2 Q
variable{o e:Expr}{es:List Expr}{to:TE}{t:TA}{name:Str}{apos uY:Pos}{T id:String}{r:V->List V->Hp->VK->Prop}
theorem zr(pa:PlainAttrs T)(slot:Slot T name id)(hty:typeOf (.builtin id)=pure (.type "method_descriptor"))(hm:MtR X id r)(ho:PE X o to)(ha:PA X (e::es) t)
 (Uw:attributeBase o name X.env (eval o X.env)=eval o X.env:=by rfl)
 (Yt:((backTo uY (zdL (e::es) X.env)).all (fun x=>!x.1)&&(backToKw uY (keywordEach [] X.env)).all (fun x=>x.1.isSome)
  && decide ((e::es).length+([]:List Keyword).length+(if ([]:List Keyword).isEmpty then 0 else 1)<30))=true:=by rfl)
 (Ux:(apos.endLine==uY.line)=true:=by rfl) (hs:zdL (e::es) X.env=(false,eval e X.env)::zdL es X.env:=by rfl) (Ru:(backTo uY (zdL es X.env)).any (·.1)=false:=by rfl) :
 PE X (.Call (.Attribute o name apos) (e::es) [] uY) (Ys X.K T r to t):=by
 intro pins s G H Q I h;refine wpAny_Call_method_late Uw Yt Ux rfl (fC (ho pins s G H _ I h) fun v s1 zqz=>?_);obtain⟨x,H1,I1,r1,ty,q1⟩:=zqz;obtain⟨h1,h2⟩:=Rt I1 r1 ty;refine⟨T,id,pa,slot,hty,h1,h2,?_⟩;have hA:=ha uY pins s1 G H1 _ I1 q1;rw[hs] at hA |-;refine Calls.callWith_builtin (by show (false ||(backTo uY (zdL es X.env)).any (·.1))=false;rw[Ru]<;>rfl) (ybB ?_);exact fC hA fun us s2 ⟨vs,H2,I2,r2,q2⟩=>hm pins s2 G H2 x vs v us Q I2 r1 r2 q2
end
def MtM (X:Cx)(id:String)(r:V->List V->Hp->VK->Prop):Prop:=
 ∀(pins:List (zdF×Obj)) (s:zdP) (G:St) (H:Hp) (x:V) (xs:List V) (v:zdG) (us:List zdG) (Q:VK),Inv X pins G H s->RelV x v->Vals xs us->r x xs H Q->
  yab (model X.prog X.w) X.A (call (.builtin id) (v::us)) (EP X pins G Q) X.xe s
theorem Vals.one:∀{x:V}{us:List zdG},Vals [x] us->∃u,us=[u]/\RelV x u
 |_,_,.cons r .nil=>⟨_,rfl,r⟩
section
variable{X:Cx}{pins:List (zdF×Obj)}{G:St}{H:Hp}{s:zdP}{l b:zdF}{xs ys zs:List V}
theorem Inv.Uy{bc its':List zdG}(I:Inv X pins G H s)(hH:H l=some (.lst xs))
 (e:s.heap.get? l=some {cls:=.type "list",data:=.seq bc.toArray n}) (hf:f bc.toArray=its'.toArray) (hv:Vals ys its') (hz:ys.length<=zdN) :
 Inv X pins G (upd H l (.lst ys)) {s with heap:=s.heap.update l (yaY f),toks:=t' }:=by
 have q:=PySem.IsL.update e f;rw[hf] at q;refine I.write (x:=l) (e:=l) (by rw[hH];exact trivial) (.inl rfl) (fun b' u hb hu=>(yaH s.heap (yaY f) (Ne.symm hb)).trans hu) ⟨_,q⟩ ?_;exact⟨hz,its',_,hv,q⟩
theorem Inv.Yu(I:Inv X pins G H s)(hv:Vals ys bc)(hz:ys.length<=zdN) :
 Inv X pins G (upd H s.heap.objs.size (.lst ys)) {s with heap:=s.heap.push {cls:=.type "list",data:=.seq bc.toArray},toks:=t' }:=
 I.laid (fun _ _ q=>yaa _ q) (zah _) ⟨hz,bc,0,hv,yae _ rfl⟩
theorem Inv.fresh(I:Inv X pins G H s):H s.heap.objs.size=none:=I.bS.fresh (zah _)
theorem Inv.JZ(I:Inv X pins G H s)(hH:H l=some (.lst xs)):xs.length<=zdN/\∃(bc:List zdG) (n:Nat),Vals xs bc/\xs.length=bc.length/\s.heap.get? l=some {cls:=.type "list",data:=.seq bc.toArray n}:=by
 obtain⟨z,bc,n,r,e⟩:=I.bS l _ hH;exact⟨z,bc,n,r,r.length,e⟩
theorem J0(h:n<=zdN):ybm n=false:=by
 unfold ybm;exact ybU (by lia)
end
section
variable{X:Cx}
def NW:V->List V->Hp->VK->Prop:=fun x vs H Q=>∃l xs y,x=.ref l/\vs=[y]/\H l=some (.lst xs)/\xs.length<zdN/\Q .eA (upd H l (.lst (xs++[y])))
theorem qe:MtM X "list.append" NW:=by
 intro pins s G H x vs v us Q I rx rv h;obtain⟨l,xs,y,rfl,rfl,hH,hz,q⟩:=h;cases rx;obtain⟨u,rfl,ru⟩:=rv.one;obtain⟨z,bc,n,r,hl,e⟩:=I.JZ hH;refine call_meets F.slot_list_append ⟨_,e,rfl⟩ F.entry_list_append (F.args_list_append_2 _ _) (PySem.list_append l bc.toArray n u (by rw[zay];lia)) ⟨e,?_⟩;refine⟨.eA,_,I.Uy (its':=bc++[u]) hH e (by simp) (r.append (.cons ru .nil)) ?_,rfl,q⟩;rw[zai,zaT];lia
def NX:V->List V->Hp->VK->Prop:=fun x vs H Q=>∃l b xs zs,x=.ref l/\vs=[.ref b]/\H l=some (.lst xs)/\H b=some (.lst zs)/\xs.length+zs.length<=zdN/\Q .eA (upd H l (.lst (xs++zs)))
theorem uZ:MtM X "list.extend" NX:=by
 intro pins s G H x vs v us Q I rx rv h;obtain⟨l,b,xs,zs,rfl,rfl,hH,hB,hz,q⟩:=h;cases rx;obtain⟨u,rfl,ru⟩:=rv.one;cases ru;obtain⟨z,bc,n,r,hl,e⟩:=I.JZ hH;obtain⟨z2,oW,n2,r2,Rv,e2⟩:=I.JZ hB;have hsz:bc.toArray.size+oW.toArray.size<=zdN:=by rw[zay,zay];lia
 have Uz:¬(!bc.toArray.isEmpty&&ybm (bc.toArray.size+oW.toArray.size))=true:=by
  rw[J0 hsz,zcU];exact zam
 refine call_meets F.slot_list_extend ⟨_,e,rfl⟩ F.entry_list_extend (F.args_list_extend_2 _ _)
  (AutoSeq1.list_extend_list_list_0 l bc.toArray n b oW.toArray n2 Uz (by rw[zay];lia) (by lia)) ⟨e,e2,?_⟩
 refine⟨.eA,_,I.Uy (its':=bc++oW) hH e (by simp) (r.append r2) ?_,rfl,q⟩;rw[zai];lia
def Yv:R2:=fun x y H Q=>∃l b xs zs,x=.ref l/\y=.ref b/\H l=some (.lst xs)/\H b=some (.lst zs)/\xs.length+zs.length<=zdN/\∀p,H p=none->Q (.ref p) (upd H p (.lst (xs++zs)))
theorem Ee:qv X (binaryOp .Add) Yv:=by
 intro pins s G H x y v u Q I rx ry h;obtain⟨l,b,xs,zs,rfl,rfl,hH,hB,hz,q⟩:=h;cases rx;cases ry;obtain⟨z,bc,n,r,hl,e⟩:=I.JZ hH;obtain⟨z2,oW,n2,r2,Rv,e2⟩:=I.JZ hB;refine PySem.P.add_list e e2 ?_ (by rw[zay,zay];lia);have ea:bc.toArray++oW.toArray=(bc++oW).toArray:=by simp
 rw[ea];exact⟨.ref _,_,I.Yu (t':=s.toks) (r.append r2) (by rw[zai];lia),rfl,q _ I.fresh⟩
end
end L2
namespace Att
open PySem PySem.W PySem.Calls PyProof.Rows
theorem wj:∀(ns:List Int)(vs:List zdG),WellAll P h vs (ns.map WData.int)->IntsAre vs ns:=by
 intro ns
 induction ns with
 |nil=>
  intro vs w;rw[za8] at w;cases w;exact .nil
 |cons n ns ih=>
  intro vs w;rw[zas] at w;cases w with
  |cons a b=>
   cases a;exact .cons _ _ (ih _ b)
theorem HL{l:OpenLaw}(hn:l.most=some n)
 (NY:l.row.toRowW.claim.pre args=true) (Yw:WellAll P h vals args) :
 ∃a vs ns,vals=[yac a]/\args=[WData.list (ns.map WData.int)]/\h.get? a=some {cls:=.type "list",data:=.seq vs.toArray}/\IntsAre vs ns/\ns.length<=n:=by
 have hsh:WShape.hasAll [] args [.list .int]=true:=(pre_splitW NY).1;have hc:l.pre.holds [] {args:=args}=true:=(pre_splitW NY).2;obtain⟨d,r,rfl,h1,h2⟩:=hasAllW_cons hsh;obtain rfl:=hasAllW_nil h2;obtain⟨xs,rfl,h3⟩:=hasW_list h1;obtain⟨ns,rfl⟩:=items_int h3;have hlen:ns.length<=n:=by
  unfold OpenLaw.pre at hc;have h4:(WTm.not (.lt (.lit (.int (n:Int))) (.len (.arg 0)))).holds [] {args:=[.list (ns.map .int)]}=true:=by
   have h4:=(holds_andW hc).1;rw[hn] at h4;exact h4
  have h5:=condW_of h4 (w_not (w_lt w_lit (w_len_list (w_arg rfl))));rw[zac] at h5;refine Nat.le_of_not_lt fun q=>?_;have q':(n:Int)<((ns.length:Nat):Int):=by lia
  first
   |(rw[ybT q'] at h5;exact ybX h5 (by decide))
   |(simp at h5;lia)
 cases Yw with
 |cons w1 w2=>
  cases w2;cases w1 with
  |list ho Yx=>exact⟨_,_,ns,rfl,rfl,ho,wj ns _ Yx,hlen⟩
theorem HM(l:OpenLaw)(args:List WData):l.row.toRowW.claim.post args (.bool true) args=true:=
 postW_of (r:=l.row.toRowW) (X:=(true==true))
  (show WShape.has [] (.bool true) .bool=true by first |rfl |decide |simp[WShape.has,WShape.arms,WShape.armsAll])
  (show (WTm.eq .res (.lit (.bool true))).value [] {args:=args,res:=some (.bool true),after:=args}=some (.bool (true==true)) from w_eq_bool (w_res rfl) w_lit) rfl
theorem B1{l:OpenLaw}
 (hn:l.most=some n) (UA:d.params.defaults=[])
 (call:∀(w:zdH) (s₀ s₁:zdP) (mg mb:Str->Option zdG) (fa:zdF) (o:Obj) (pm cd doc:zdG) (a:zdF) (vs:List zdG) (ns:List Int),
  Ground q loose [] XP w s₀ mg mb s₁.heap->YP w s₁.heap->
  s₁.heap.get? fa=some o->o.data=.func (docDef d.name d.params d.body d.scope pm cd doc)->s₁.heap.CodeRec cd d.name->mg d.name=some (.ref fa)->
  s₁.heap.get? a=some {cls:=.type "list",data:=.seq vs.toArray}->IntsAre vs ns->ns.length<=n->s₁.gens = #[]->
  codeAny (model l.prog w) callerA (.call (.ref fa) ⟨[.ref a],[]⟩) (fun r s'=>r=.ok (.ret (.bool true))/\OldK s₁.heap s'.heap/\s'.os=s₁.os/\AllBare s'.gens) s₁) :
 WalkO q loose XP YP l.row.toRowW d [] (fun f vs=>PySem.call f vs):=by
 intro w s₀ s₁ mg mb G Y fa o pm cd doc dV kV ho hd BP hD UB hg args vals as NY adZ hrd Yw hlo;obtain rfl:dV=.none:=Dflts.none hD UA;obtain rfl:kV=.none:=Dflts.noKw hD;obtain⟨a,vs,ns,rfl,rfl,Rw,hints,hlen⟩:=HL hn NY Yw;refine enter_call (yaT (call w s₀ s₁ mg mb fa o pm cd doc a vs ns G Y ho (fd_plain hd) BP UB Rw hints hlen hg) fun r s' hq=>?_);obtain⟨rfl,h2,h3,h4⟩:=hq;exact⟨.inl ⟨.bool true,.bool true,[],rfl,fun _=>rfl,.bool true,HM l _,fun _=>⟨List.Pairwise.nil,fun _ hm=>(nomatch hm)⟩⟩,h2,h3,h4⟩
end Att
namespace L2
open PySem PySem.Spec PyProof.Rows
theorem zt:∀{vs:List zdG}{ns:List Int},IntsAre vs ns->Vals (ns.map V.int) vs
 |_,_,.nil=>.nil
 |_,_,.cons n t h=>.cons ⟨t,rfl⟩ (zt h)
noncomputable def inClass (s:Stmt)(j:Nat):Stmt:=match s with
 |.ClassDef _ _ _ body _ _ _ _ _ _ _=>body.getD j (.Pass ⟨0,0,0,0⟩)
 |_=>.Pass ⟨0,0,0,0⟩
noncomputable def gR (s:Stmt):Arguments:=match s with
 |.FunctionDef _ a _ _ _ _ _ _ _ _=>a
 |_=>{posonlyargs:=[],args:=[],vararg:=none,kwonlyargs:=[],kw_defaults:=[],kwarg:=none,defaults:=[]}
noncomputable def eE (s:Stmt):List Stmt:=match s with
 |.FunctionDef _ _ b _ _ _ _ _ _ _=>b
 |_=>[]
noncomputable def aG (s:Stmt):Scope:=match s with
 |.FunctionDef _ _ _ _ _ _ sc _ _ _=>sc
 |_=>{kind:=.function,names:=[],isGenerator:=false,isCoroutine:=false}
abbrev fR:BC:=fun _ _ _ _ _ _=>False
abbrev E0:XK:=fun _ _ _=>False
theorem cS:Passes fR X E0:=fun _ _ _ _ _ _ _ h=>h.elim
structure DE(K:zaa)(x qual:Str)(st:Stmt)(f:zdF)(fd:zdO):Prop where
 ex:∃(oc:zdG) (od:Option zdF) (kV doc pm:zdG) (an:Option zdF) (eY ct:zdG) (Ec:Array (Option zdG)),
  fd=za9 x qual (gR st) (eE st) (aG st) .none kV doc pm an eY ct/\K.lookup f=some ⟨oc,od,.func fd,Ec⟩/\zbS K eY qual=true
 kp:za6 K (.ref f)=true
section
variable{P:zdR}{w:zdH}{K:zaa}{mg:Str->Option zdG}{base:yaf}
theorem DE.ok{st:Stmt}(F:DE K x qual st f fd)(S:a9 N ps (aG st))(len:∀vs H Q E,sp vs H Q E->vs.length=ps.length)
 (pj:∀(eY:zdG) (A:zdQ) (outer:List Env) (s:zdP) (H:Hp) (vs:List V) (Q:VK) (E:XK),gw k (A.deeper (envOfC qual (aG st) s.heap.objs.size f eY))->sp vs H Q E->
  ∃t,BO (gV fR P w K mg base N qual (aG st) f eY A outer s H E).Ua (eE st) t/\t {nx:=fun _ H'=>Q .eA H',rt:=Q} (start N vs) H):bt P w K mg base fR (k+1) f fd ps sp:=by
 obtain⟨oc,od,kV,doc,pm,an,eY,ct,Ec,rfl,lk,BP⟩:=F.ex;refine JW lk BP S len fun A outer s H vs Q E hr Jl=>?_;obtain⟨t,h,q⟩:=pj eY A outer s H vs Q E hr Jl;exact⟨t,h.Ua,q⟩
theorem DE.binds{st:Stmt}(F:DE K x qual st f fd)
 (h:∀(kV doc pm:zdG) (an:Option zdF) (eY ct:zdG) (us:List zdG),us.length=ps.length->bindArgs (za9 x qual (gR st) (eE st) (aG st) .none kV doc pm an eY ct) ⟨us,[]⟩=pure (ps.zip us)):Binds K fd ps []:=by
 obtain⟨oc,od,kV,doc,pm,an,eY,ct,Ec,rfl,lk,BP⟩:=F.ex;exact .all (h kV doc pm an eY ct)
theorem Au{st:Stmt}{kV doc pm eY ct:zdG}(l:K.lookup f=some ⟨oc,od,.func (za9 x qual (gR st) (eE st) (aG st) .none kV doc pm an eY ct),Ec⟩)
 (c:zbS K eY qual=true) (k:za6 K (.ref f)=true):DE K x qual st f (za9 x qual (gR st) (eE st) (aG st) .none kV doc pm an eY ct):=⟨⟨oc,od,kV,doc,pm,an,eY,ct,Ec,rfl,l,c⟩,k⟩
end
theorem mD(hr:gw k A):A.units+1<cLine:=zbu (Nat.add_le_add_left (by decide:1<=64) _) hr.units
theorem HN(h:n<=1000):n<zdN:=zbu h (by decide)
section
variable{X:Cx}
theorem pv(i:Nat){pos:Pos}(hN:X.N[i]?=some x:=by rfl)(hv:T4 X.env.scope x:=by first |exact zaH rfl |exact zce (zaH rfl) |exact zce (zce rfl))(hd:(x==("__debug__":Str))=false:=by decide)
 (BP:(x==("__classdict__":Str))=false:=by decide):PE X (.Name x pos) (fO i):=Q2 hN hv hd BP
end
theorem kM{c A B:Prop}[Decidable c](h1:c->A)(h2:¬c->B):if c then A else B:=by
 by_cases h:c
 .rw[ybS h];exact h1 h
 .rw[ybR h];exact h2 h
def ar (H H':Hp):Prop:=∀b o,H b=some o->H' b=some o
theorem ar.refl(H:Hp):ar H H:=fun _ _ h=>h
theorem ar.trans(a:ar H H1)(b:ar H1 H2):ar H H2:=fun c o h=>b c o (a c o h)
theorem ar.free(e:ar H H')(h:H' l=Option.none):H l=Option.none:=by
 cases q:H l with
 |none=>rfl
 |some o=>
  rw[e l o q] at h;cases h
theorem ar.seq{K:zaa}(e:ar H H')(h:iR K H a xs):iR K H' a xs:=by
 rcases h with (h |⟨o,h⟩) |h
 .exact .inl (.inl (e _ _ h))
 .exact .inl (.inr ⟨o,e _ _ h⟩)
 .exact .inr h
section
variable{Y:Type}[DecidableEq Y]
noncomputable def cf (aB:List (Y×V))(k:Y):Option V:=(aB.find? fun kv=>decide (kv.1=k)).map (·.2)
noncomputable def putK (aB:List (Y×V))(k:Y)(v:V):List (Y×V):=
 if (aB.any fun kv=>decide (kv.1=k))=true then aB.map (fun kv=>if kv.1=k then (kv.1,v) else kv) else aB++[(k,v)]
theorem cn{k:Y}(e:p.1=k):cf (p::r) k=some p.2:=by simp[cf,zb0,e]
theorem cu{k:Y}(e:¬p.1=k):cf (p::r) k=cf r k:=by simp[cf,zb0,e]
theorem iw(k:Y)(aB:List (Y×V)):(aB.any fun kv=>decide (kv.1=k))=(cf aB k).isSome:=by
 induction aB with
 |nil=>rfl
 |cons p r ih=>
  rw[zbZ];by_cases e:p.1=k
  .simp only[cn e,ybT e,Bool.true_or,Option.isSome_some]
  .rw[cu e,ybU e,Bool.false_or];exact ih
theorem B2(k j:Y)(y:V)(aB:List (Y×V)):cf (aB.map fun kv=>if kv.1=k then (kv.1,y) else kv) j=(cf aB j).map fun x=>if j=k then y else x:=by
 induction aB with
 |nil=>rfl
 |cons p r ih=>
  rw[zas];by_cases h:p.1=k
  .rw[ybS h];by_cases e:p.1=j
   .rw[cn (p:=(p.1,y)) e,cn e,za1,ybS (e.symm.trans h)]
   .rw[cu (p:=(p.1,y)) e,cu e,ih]
  .rw[ybR h];by_cases e:p.1=j
   .rw[cn (p:=p) e,cn e,za1,ybR (fun z=>h (e.trans z))]
   .rw[cu (p:=p) e,cu e,ih]
theorem zu(k j:Y)(y:V)(aB:List (Y×V)):cf aB k=none->cf (aB++[(k,y)]) j=if j=k then some y else cf aB j:=by
 induction aB with
 |nil=>
  intro _;by_cases e:k=j
  .rw[ybS e.symm];exact cn (p:=(k,y)) e
  .rw[ybR (fun z=>e z.symm)];exact cu (p:=(k,y)) e
 |cons p r ih=>
  intro hn;rw[zcH];have hk:¬p.1=k:=fun z=>by rw[cn z] at hn;cases hn
  rw[cu hk] at hn;have ih:=ih hn;by_cases e:p.1=j
  .rw[cn e,cn e,ybR (fun z=>hk (e.trans z))]
  .rw[cu e,cu e,ih]
theorem J7(aB:List (Y×V))(k j:Y)(y:V):cf (putK aB k y) j=if j=k then some y else cf aB j:=by
 unfold putK;by_cases a:(aB.any fun kv=>decide (kv.1=k))=true
 .rw[ybS a,B2];rw[iw] at a;by_cases e:j=k
  .obtain⟨x,hx⟩:=zcm.mp a;rw[ybS e,e,hx,za1,ybS rfl]
  .rw[ybR e];cases cf aB j with
   |none=>rfl
   |some x=>rw[za1,ybR e]
 .rw[ybR a];refine zu k j y aB ?_;rw[iw] at a;cases q:cf aB k with
  |none=>rfl
  |some x=>rw[q] at a;exact(a rfl).elim
theorem jA(aB:List (Y×V))(k:Y)(v:V):(putK aB k v).length<=aB.length+1:=by
 unfold putK;split
 .rw[zac];lia
 .rw[zai,zaq,zbI];lia
theorem oT.mE(r:oT o u):o.isSome=u.isSome:=by
 cases o with
 |none=>cases u with
  |none=>rfl
  |some _=>exact(show False from r).elim
 |some _=>cases u with
  |none=>exact(show False from r).elim
  |some _=>rfl
theorem KV.val(r:KV aB vs)(k:Y):oT (cf aB k) (valueAt vs k):=by
 unfold KV at r
 induction r with
 |nil=>exact True.intro
 |@cons p q ps qs h t ih=>
  obtain⟨h1,h2⟩:=h;by_cases e:p.1=k
  .have e':q.1=k:=h1.symm.trans e;have b:valueAt (q::qs) k=some q.2:=by simp[valueAt,zb0,e']
   rw[cn e,b];exact h2
  .have e':¬q.1=k:=fun z=>e (h1.trans z);have b:valueAt (q::qs) k=valueAt qs k:=by simp[valueAt,zb0,e']
   rw[cu e,b];exact ih
theorem KV.any(r:KV aB vs)(k:Y):(aB.any fun kv=>decide (kv.1=k))=vs.any fun kv=>decide (kv.1=k):=by
 unfold KV at r
 induction r with
 |nil=>rfl
 |cons h t ih=>rw[zbZ,zbZ,ih,h.1]
theorem KV.Rx(r:KV aB vs)(k:Y)(ry:RelV y u) :
 KV (aB.map fun kv=>if kv.1=k then (kv.1,y) else kv) (vs.map fun kv=>if kv.1=k then (kv.1,u) else kv):=by
 unfold KV at r |-
 induction r with
 |nil=>exact .nil
 |@cons p q ps qs h t ih=>
  rw[zas,zas];refine .cons ?_ ih;obtain⟨h1,h2⟩:=h;by_cases e:p.1=k
  .rw[ybS e,ybS (h1.symm.trans e)];exact⟨h1,ry⟩
  .rw[ybR e,ybR (fun z=>e (h1.trans z))];exact⟨h1,h2⟩
theorem KV.put(r:KV aB vs)(k:Y)(ry:RelV y u):KV (putK aB k y) (stored vs k u):=by
 unfold putK stored;rw[r.any k];by_cases e:(vs.any fun kv=>decide (kv.1=k))=true
 .rw[ybS e,ybS e];exact r.Rx k ry
 .rw[ybR e,ybR e];exact ybK r ⟨rfl,ry⟩
theorem KV.length{vs:List (Y×zdG)}(r:KV aB vs):aB.length=vs.length:=yah r
end
theorem zv(r:RelV (kV k) u):(bF P w).is k u=true:=by
 cases k with
 |inl i=>obtain⟨t,e⟩:=(show ∃t,u=ybk i t from r);subst e;exact BJ P w i t
 |inr x=>obtain⟨t,e⟩:=(show ∃t,u=ybl x t from r);subst e;exact BK P w x t
theorem ve:∀{us:List zdG},Vals (ks.map kV) us->ItemsAre (bF P w) ks us:=by
 induction ks with
 |nil=>intro _ r;rw[za8] at r;cases r;exact .nil
 |cons k ks ih=>
  intro _ r;rw[zas] at r;cases r with
  |cons h t=>exact .cons (zv h) (ih t)
abbrev KT (H:Hp):List (List Key×V)->List (List Key×zdF×zdG)->Prop:=yao fun p q=>p.1=q.1/\H q.2.1=some (.tup (p.1.map kV))/\RelV p.2 q.2.2
theorem KT.val(r:KT H aB xs)(k:List Key):oT (cf aB k) ((atKey xs k).map (·.2)):=by
 induction r with
 |nil=>exact True.intro
 |@cons p q ps qs h t ih=>
  obtain⟨h1,_,h2⟩:=h;by_cases e:p.1=k
  .have e':q.1=k:=h1.symm.trans e;have b:atKey (q::qs) k=some q.2:=by simp[atKey,zb0,e']
   rw[cn e,b];exact h2
  .have e':¬q.1=k:=fun z=>e (h1.trans z);have b:atKey (q::qs) k=atKey qs k:=by simp[atKey,zb0,e']
   rw[cu e,b];exact ih
theorem KT.Rx(r:KT H aB xs)(k:List Key)(ry:RelV y u) :
 KT H (aB.map fun kv=>if kv.1=k then (kv.1,y) else kv) (xs.map (putAt k u)):=by
 induction r with
 |nil=>exact .nil
 |@cons p q ps qs h t ih=>
  rw[zas,zas];refine .cons ?_ ih;obtain⟨h1,h2,h3⟩:=h;unfold putAt;by_cases e:p.1=k
  .rw[ybS e,ybS (h1.symm.trans e)];exact⟨h1,h2,ry⟩
  .rw[ybR e,ybR (fun z=>e (h1.trans z))];exact⟨h1,h2,h3⟩
theorem KT.put(r:KT H aB xs)(k:List Key)(hb:H b=some (.tup (k.map kV)))(ry:RelV y u) :
 KT H (putK aB k y) (storedH xs k b u):=by
 have e:(aB.any fun kv=>decide (kv.1=k))=(atKey xs k).isSome:=by
  rw[iw,(r.val k).mE,zb7]
 unfold putK storedH;rw[e];by_cases q:(atKey xs k).isSome=true
 .rw[ybS q,ybS q];exact r.Rx k ry
 .rw[ybR q,ybR q];exact ybK r ⟨rfl,hb,ry⟩
theorem KT.keeps(r:KT H aB xs)(ht:∀b ys,H b=some (.tup ys)->H' b=some (.tup ys)):KT H' aB xs:=
 yao.Af r fun _ _ z=>⟨z.1,ht _ _ z.2.1,z.2.2⟩
section
variable{P:zdR}{w:zdH}{H:Hp}{h:yaf}{a:zdF}
theorem PQ(ok:jV P w H h)(e:Rd H a u):bZ P w H h a u:=e.ok ok
theorem J8(ok:jV P w H h)(e:Rd H a (.dK aB)):aB.length<=zdN/\(a==yar)=false/\∃vs,KV aB vs/\h.DictOf (bF P w) a vs:=
 show bZ P w H h a (.dK aB) from PQ ok e
theorem UC(ok:jV P w H h)(e:H a=some (.dK aB)):aB.length<=zdN/\(a==yar)=false/\∃vs,KV aB vs/\h.DictOf (bF P w) a vs:=J8 ok (.inl e)
theorem Ef(ok:jV P w H h)(e:H a=some (.tup (ks.map kV))):(tupleKind (bF P w)).is h ks a:=by
 obtain⟨_,bc,r,o,h1,h2,n,h3⟩:=(show bZ P w H h a (.tup (ks.map kV)) from ok a _ e)
 exact⟨o,bc.toArray,n,h1,h2,h3,by simpa using ve r⟩
theorem J9(ok:jV P w H h)(e:Rd H a (.dT aB)):aB.length<=zdN/\(a==yar)=false/\
 ∃xs,KT H aB xs/\h.DictOfH (tupleKind (bF P w)) a xs:=by
 obtain⟨z,y,xs,r,o,es,ep,h1,h2,h3,h4,h5⟩:=(show bZ P w H h a (.dT aB) from PQ ok e)
 refine⟨z,y,xs,r,o,es,ep,h1,h2,h3,h4,fun x hx=>?_,h5⟩;have all:∀{l:List (List Key×V)} {m:List (List Key×zdF×zdG)},KT H l m->∀x∈m,(tupleKind (bF P w)).is h x.1 x.2.1:=by
  intro l m q
  induction q with
  |nil=>intro x hx;exact nomatch hx
  |@cons p q ps qs hq t ih=>
   intro x hx;rcases zak.mp hx with e |hx
   .subst e;exact Ef ok (by rw[<- hq.1];exact hq.2.1)
   .exact ih x hx
 exact all r x hx
theorem UD(ok:jV P w H h)(e:H a=some (.dT aB)):aB.length<=zdN/\(a==yar)=false/\
 ∃xs,KT H aB xs/\h.DictOfH (tupleKind (bF P w)) a xs:=J9 ok (.inl e)
end
def wk (H:Hp)(a:zdF)(y:V)(r:Option V):Prop:=
 (∃aB k,Rd H a (.dK aB)/\y=kV k/\r=cf aB k)\/∃aB k b,Rd H a (.dT aB)/\y=.ref b/\H b=some (.tup (k.map kV))/\r=cf aB k
def Ry (H:Hp)(a:zdF)(y v:V)(H':Hp):Prop:=
 (∃aB k,H a=some (.dK aB)/\y=kV k/\aB.length<zdN/\H'=upd H a (.dK (putK aB k v)))\/
 ∃aB k b,H a=some (.dT aB)/\y=.ref b/\H b=some (.tup (k.map kV))/\aB.length<zdN/\H'=upd H a (.dT (putK aB k v))
theorem wk.k{k:Key}(e:H a=some (.dK aB)):wk H a (kV k) (cf aB k):=.inl ⟨aB,k,.inl e,rfl,rfl⟩
section
variable{X:Cx}{pins:List (zdF×Obj)}{G:St}{H:Hp}{s:zdP}{a:zdF}{y v:V}{u r:zdG}{o:Option V}{A:zdQ}{E:zdG->zdP->Prop}
theorem Inv.big(I:Inv X pins G H s):yar<s.heap.objs.size:=by
 have h:zdM<s.heap.objs.size:=(I.mod.glob.keeps I.bk).lt;exact zbH (by decide) h
theorem HP(hu:A.units+1<cLine)(I:Inv X pins G H s)(g:wk H a y (some v))(ry:RelV y u)(h:∀w' s',Inv X pins G H s'->RelV v w'->Q w' s') :
 yab (model X.prog X.w) A (getItem (.ref a) u) Q E s:=by
 rcases g with ⟨aB,k,e,ey,l⟩ |⟨aB,k,b,e,ey,eb,l⟩
 .subst ey;obtain⟨z,hd,vs,rel,dd⟩:=J8 I.bS e;obtain⟨w',hw,HK⟩:=oT.some_of (v:=v) (o:=valueAt vs k) (by rw[l];exact rel.val k);exact wpAny_getItem_of (zv ry) dd.mapOf hw (h w' _ (I.tok _) HK)
 .subst ey;cases (show u=yac b from ry);obtain⟨z,hd,xs,rel,dd⟩:=J9 I.bS e;obtain⟨w',hw,HK⟩:=oT.some_of (v:=v) (o:=(atKey xs k).map (·.2)) (by rw[l];exact rel.val k);obtain⟨p,hp,sV⟩:=zaZ.mp hw;refine wpAny_getItem_heap (tupleKind_room_in1 hu) (Ef I.bS eb) dd hp ?_;rw[sV];exact h w' _ (I.tok _) HK
theorem ni(I:Inv X pins G H s)(mu:T1 (H a))(hs:yay a s.heap h')(he:∃q,h'.get? a=some q)(new:bZ X.prog X.w (upd H a ob) h' a ob) :
 Inv X pins G (upd H a ob) {s with heap:=h',toks:=t' }:=
 I.write (x:=a) (e:=a) mu (.inl rfl) (fun b q hb z=>(hs.2 b hb).trans z) he new
theorem Eg(z:aB.length<=zdN)(hd:(a==yar)=false)(rel:KV aB vs)(dd:h'.DictOf (bF P w) a vs) :
 bZ P w H' h' a (.dK aB):=⟨z,hd,vs,rel,dd⟩
theorem HQ(hu:A.units+1<cLine)(I:Inv X pins G H s)(g:Ry H a y v H')(ry:RelV y u)(rv:RelV v r)(h:∀s',Inv X pins G H' s'->Q () s') :
 yab (model X.prog X.w) A (setItem (.ref a) u r) Q E s:=by
 rcases g with ⟨aB,k,e,ey,l,eH⟩ |⟨aB,k,b,e,ey,eb,l,eH⟩
 .subst ey eH;obtain⟨z,hd,vs,rel,dd⟩:=UC I.bS e;have hz:vs.length<=zdN:=by rw[<- rel.length];exact z
  have hl:(putK aB k v).length<=zdN:=by have:=jA aB k v;lia
  refine wpAny_setItem_pairs (hsz:=hz) (zv ry) dd fun h' Tg hs=>h _ ?_;have he:∃q,h'.get? a=some q:=let ⟨q,_,_,hq,_⟩:=Tg;⟨q,hq⟩;exact ni I (by rw[e];exact True.intro) hs he (Eg hl hd (rel.put k rv) Tg)
 .subst ey eH;cases (show u=yac b from ry);obtain⟨z,hd,xs,rel,dd⟩:=UD I.bS e;have hz:xs.length<=zdN:=by rw[<- yah rel];exact z
  have hl:(putK aB k v).length<=zdN:=by have:=jA aB k v;lia
  refine wpAny_setItem_heap (hsz:=hz) (tupleKind_room_in1 hu) (Ef I.bS eb) dd fun h' Tg hs=>h _ ?_;obtain⟨q,es,ep,hq,h2,h3,h4,_,h5⟩:=Tg;refine ni I (by rw[e];exact True.intro) hs ⟨q,hq⟩ ⟨hl,hd,_,(rel.put k eb rv).keeps fun c ys ec=>?_,q,es,ep,hq,h2,h3,h4,h5⟩;rw[au (bz ec e (fun z=>nomatch z))];exact ec
end
def Rz (i:Expr):Prop:=∀ov iv,subscripted i false ov iv=operate [ov,iv] (getItem ov iv)
theorem FI{T id:String}
 (hl:typeLookup (.type T) "__getitem__"=pure (some (.builtin id))) (hs:Rz slice)
 (h:yab (model prog w) A (eval value env) (fun o s₁=>yab (model prog w) A (eval slice env) (fun i s₂=>s₂.TypeIs o T/\yab (model prog w) A (getItem o i) Q E s₂) E s₁) E s) :
 yab (model prog w) A (eval (.Subscript value slice pos) env) Q E s:=by
 refine Subscript_ (yaw h (fun o s₁ h₁=>yaw h₁ (fun i s₂ h₂=>?_) fun _ _ x=>x) fun _ _ x=>x);obtain⟨hT,h₂⟩:=h₂;unfold subscriptTail;refine zdI ?_;rw[getitemInPython_of_ne hT.not_modules];refine zdI (ya9 hT hl ?_);have fin:yab (model prog w) A (subscripted slice false o i) (fun r s₃=>yab (model prog w) A (letTemporaryGo value o r >>= fun _=>pure r) Q E s₃) E s₂:=by
  rw[hs o i];exact wpAny_operating (yaw h₂ (fun r s₃ h₃=>zdI (wpAny_letTemporaryGo (zdJ h₃))) fun _ _ x=>x)
 first
  |exact zdJ (zdI fin)
  |exact zdI (zdJ (zdI fin))
  |exact zdI fin
theorem B3{G:St}(I:Inv X pins G H s)(g:wk H a y o):s.TypeIs (.ref a) "dict":=by
 rcases g with ⟨aB,k,e,_,_⟩ |⟨aB,k,b,e,_,_,_⟩
 .obtain⟨_,_,vs,_,dd⟩:=J8 I.bS e;exact dd.typeIs
 .obtain⟨_,_,xs,_,dd⟩:=J9 I.bS e;exact dd.typeIs
def PR (td ty:TE):TE:=fun G H Q=>td G H fun x H1=>ty G H1 fun y H2=>∃a v,x=.ref a/\wk H2 a y (some v)/\Q v H2
def PU (td ty tv:TE):TS:=fun D G H=>tv G H fun v H1=>td G H1 fun x H2=>ty G H2 fun y H3=>∃a H4,x=.ref a/\Ry H3 a y v H4/\D.nx G H4
section
variable{X:Cx}{o i e value:Expr}{pos pos' Rk:Pos}{td ty tv:TE}
theorem jg(hu:X.A.units+1<cLine)(ho:PE X o td)(hi:PE X i ty)(hs:Rz i):PE X (.Subscript o i pos) (PR td ty):=by
 intro pins s G H Q I h;refine FI PySem.F.slot_dict_getitem.lookup hs (fC (ho pins s G H _ I h) fun u s1 zqz=>?_);obtain⟨x,H1,I1,rx,q1⟩:=zqz;refine fC (hi pins s1 G H1 _ I1 q1) fun iv s2 zqz=>?_;obtain⟨y,H2,I2,ry,a,v,ex,g,q2⟩:=zqz;subst ex;obtain rfl:u=yac a:=rx;exact⟨B3 I2 g,HP hu I2 g ry fun w' s3 I3 HK=>⟨v,H2,I3,HK,q2⟩⟩
theorem FJ(hu:X.A.units+1<cLine)(ho:PE X o td)(hi:PE X i ty)(hv:PE X value tv)(hs:swapsWith value (some (.Subscript o i pos')) pos.line X.env=pure false) :
 PS X (.Assign [.Subscript o i pos'] value pos) (PU td ty tv):=by
 intro pins s G H D I h;refine wpAny_Assign_Subscript (fC (hv pins s G H _ I h) fun r s1 zqz=>?_) hs;obtain⟨v,H1,I1,rv,q1⟩:=zqz;refine fC (ho pins s1 G H1 _ I1 q1) fun u s2 zqz=>?_;obtain⟨x,H2,I2,rx,q2⟩:=zqz;refine fC (hi pins s2 G H2 _ I2 q2) fun iv s3 zqz=>?_;obtain⟨y,H3,I3,ry,a,H4,ex,g,q3⟩:=zqz;subst ex;obtain rfl:u=yac a:=rx;exact HQ hu I3 g ry rv fun s4 I4=>⟨G,H4,I4,q3⟩
end
def nj (aB more:List (Key×V)):List (Key×V):=more.foldl (fun acc kv=>putK acc kv.1 kv.2) aB
theorem KV.merge:∀{more:List (Key×V)}{rs:List (Key×zdG)}{aB:List (Key×V)}{vs:List (Key×zdG)},KV more rs->KV aB vs->KV (nj aB more) (merged vs rs):=by
 intro more rs aB vs r;unfold KV at r
 induction r generalizing aB vs with
 |nil=>intro q;exact q
 |@cons p q ps qs h t ih=>
  intro r0;have e:KV (putK aB p.1 p.2) (stored vs q.1 q.2):=by
   have:=r0.put p.1 h.2;rw[<- h.1];exact this
  exact ih e
theorem lV(more:List (Key×V)):∀(aB:List (Key×V)),(nj aB more).length<=aB.length+more.length:=by
 induction more with
 |nil=>intro aB;show aB.length<=aB.length+0;lia
 |cons p r ih=>
  intro aB;have h1:=ih (putK aB p.1 p.2);have h2:=jA aB p.1 p.2;show (nj (putK aB p.1 p.2) r).length<=_;rw[zaq];lia
noncomputable def vf (env:Env):List (Str×NameKind)->List (Str×zdF)->List (Str×zdF)
 |[],cs=>cs
 |(n,k)::r,cs=>vf env r (if k==.free then (n,(env.cells.lookup n).getD 0)::cs else cs)
theorem wm(h:∀p∈scope.names,p.2=.free->∃c,env.cells.lookup p.1=some c):closureFor scope env=pure (vf env scope.names []):=by
 have all:∀(l:List (Str×NameKind)) (cs:List (Str×zdF)),(∀p∈l,p.2=.free->∃c,env.cells.lookup p.1=some c)->
  (forIn l cs fun (x:Str×NameKind) (r:List (Str×zdF))=>if (x.2==yaJ)=true then do let a <- cellOf env x.1;pure (ForInStep.yield ((x.1,a)::r)) else (pure (ForInStep.yield r):Sem _))=pure (vf env l cs):=by
  intro l
  induction l with
  |nil=>intro cs _;rfl
  |cons p r ih=>
   intro cs hp;obtain⟨n,k⟩:=p;rw[zaP];by_cases hk:k=.free
   .subst hk;obtain⟨c,e⟩:=hp (n,.free) zao rfl;have e1:cellOf env n=pure c:=by unfold cellOf;rw[e]
    simp only[beq_self_eq_true,if_true,e1,pure_bind];rw[ih _ fun p NZ=>hp p (zag _ NZ)];simp[vf,e]
   .have hb:(k==yaJ)=false:=by simpa using hk
    simp only[hb,zau,if_false,pure_bind];rw[ih _ fun p NZ=>hp p (zag _ NZ)];simp[vf,hb]
 simp only[closureFor];rw[all scope.names [] h];simp
theorem tJ:∀{l:List (Str×NameKind)}{cs:List (Str×zdF)},(∀p∈l,p.2=.free->∃c,env.cells.lookup p.1=some c)->(∀x c,cs.lookup x=some c->env.cells.lookup x=some c)->
 (vf env l cs).lookup x=some c->env.cells.lookup x=some c
 |[],_,_,h,e=>h x c e
 |(n,k)::r,cs,hp,h,e=>by
  unfold vf at e;refine tJ (fun p q=>hp p (zag _ q)) ?_ e;intro y d q;by_cases hk:k=.free
  .subst hk;obtain⟨c',e'⟩:=hp (n,.free) zao rfl;simp only[beq_self_eq_true,if_true] at q;rw[za3] at q;cases hy:y==n with
   |true=>
    rw[hy] at q;have:y=n:=by simpa using hy
    subst this;simp only at e';rw[e'] at q |-;exact q
   |false=>rw[hy] at q;exact h y d q
  .have hb:(k==yaJ)=false:=by simpa using hk
   simp only[hb,zau,if_false] at q;exact h y d q
theorem xh:∀{cs:List (Str×zdF)},((∃c,cs.lookup x=some c)\/(x,yaJ)∈l)->∃c,(vf env l cs).lookup x=some c:=by
 induction l with
 |nil=>
  intro _ h;rcases h with h |h
  .exact h
  .exact ybX h (by simp)
 |cons zz r ih=>
  intro cs h;obtain⟨n,k⟩:=zz;unfold vf
  apply ih
  rcases h with ⟨c,h⟩ |h
  .left
   by_cases hk:k=.free
   .subst hk;simp only[beq_self_eq_true,if_true];rw[za3];cases hy:x==n with
    |true=>exact⟨_,rfl⟩
    |false=>exact⟨c,h⟩
   .have hb:(k==yaJ)=false:=by simpa using hk
    simp only[hb,zau,if_false];exact⟨c,h⟩
  .rcases zak.mp h with e |h
   .injection e with e1 e2
    subst e1;subst e2
    left
    simp only[beq_self_eq_true,if_true];rw[za3];simp
   .exact .inr h
theorem pk:(relabel scope env).names.lookup x=(scope.names.lookup x).map fun k=>if (k==yaJ&&env.scope.kind==.function&&env.kindOf x==some .cell)=true then .cell else k:=by
 unfold relabel;show zbp x (scope.names.map _)=_;generalize scope.names=l
 induction l with
 |nil=>rfl
 |cons p r ih=>
  obtain⟨n,k⟩:=p;rw[zas,za3 (as:=r)];show zbp x ((if (k==yaJ&&env.scope.kind==.function&&env.kindOf n==some .cell)=true then (n,NameKind.cell) else (n,k))::_)=_;cases hx:x==n with
  |true=>
   have e:x=n:=by simpa using hx
   subst e;by_cases hc:(k==yaJ&&env.scope.kind==.function&&env.kindOf x==some .cell)=true
   .rw[ybS hc];simp only[za3,beq_self_eq_true,za1];rw[ybS hc]
   .rw[ybR hc];simp only[za3,beq_self_eq_true,za1];rw[ybR hc]
  |false=>
   by_cases hc:(k==yaJ&&env.scope.kind==.function&&env.kindOf n==some .cell)=true
   .rw[ybS hc];simp only[za3,hx];exact ih
   .rw[ybR hc];simp only[za3,hx];exact ih
theorem mem_of_lookup{l:List (Str×NameKind)}:l.lookup x=some k->(x,k)∈l:=by
 induction l with
 |nil=>intro h;simp at h
 |cons zz r ih=>
  intro h;obtain⟨n,j⟩:=zz;rw[za3] at h;cases hx:x==n with
  |true=>
   rw[hx] at h;have e:x=n:=by simpa using hx
   cases h;subst e;exact zao
  |false=>rw[hx] at h;exact zag _ (ih h)
noncomputable def ke (sc out:Scope):Bool:=
 (sc.names.all fun p=>p.2 != .cell&&(p.2 != .free ||out.names.lookup p.1==some .cell ||out.names.lookup p.1==some .free)&&(p.2 != .local ||sc.names.lookup p.1==some .local))&&decide (sc.kind=.function)
noncomputable def wK (sc out:Scope)(N:List Str)(ix:List Nat):Bool:=
 ix.all fun i=>sc.names.lookup (N.getD i "")==some .free&&(out.names.lookup (N.getD i "")==some .cell ||out.names.lookup (N.getD i "")==some .free)
noncomputable def Ka (G:St)(ix:List Nat):St:=ix.map fun i=>G.getD i none
noncomputable abbrev FK (N:List Str) (ix:List Nat):List Str:=ix.map fun i=>N.getD i ""
def kN (X:Cx)(scope:Scope)(own:List Str)(ix:List Nat)(C:zdF)(s₀:zdP)(H₀:Hp)(ex:List zdF):Cx where
 prog:=X.prog
 w:=X.w
 K:=X.K
 mg:=X.mg
 base:=X.base
 A:=X.A
 N:=own++FK X.N ix
 s₀:=s₀
 H₀:=H₀
 env:=compEnvC scope (vf X.env scope.names []) C X.env
 outer:=X.stack
 stack:=X.stack
 ex:=ex
 fn:=fun _=>false
 calm:=X.calm
 pn:=[]
 xe:=fun _ _=>False
section
variable{X:Cx}{pins:List (zdF×Obj)}{G:St}{H:Hp}{s:zdP}
theorem pq(h:ke sc out=true):∀p∈sc.names,p.2≠.cell/\(p.2=.free->out.names.lookup p.1=some .cell\/out.names.lookup p.1=some .free)/\(p.2=.local->sc.names.lookup p.1=some .local):=by
 intro p hp;unfold ke at h;rw[za2] at h;have:=zbE.mp h.1 p hp;simp only[za2,Bool.or_eq_true,bne_iff_ne,beq_iff_eq,ne_eq] at this;obtain⟨⟨h1,h2⟩,h3⟩:=this;refine⟨h1,fun e=>?_,fun e=>?_⟩
 .rcases h2 with (h2 |h2) |h2
  .exact ybX e h2
  .exact .inl h2
  .exact .inr h2
 .rcases h3 with h3 |h3
  .exact ybX e h3
  .exact h3
theorem nu(h:ke sc out=true):sc.kind=.function:=by
 unfold ke at h;rw[za2] at h;exact ybV h.2
theorem N0(I:Inv X pins G H s)(hf:ke scope X.env.scope=true)(hx:∀b∈ex,tE X pins H b/\b<s.heap.objs.size):(kN X scope own ix s.heap.objs.size s H ex).Ok:=by
 have fits:=(pq hf)
 have tD:∀p∈scope.names,p.2=.free->∃c,X.env.cells.lookup p.1=some c:=fun p hp e=>I.ok.has p.1 ((fits p hp).2.1 e);have sub:∀{x:Str} {c:zdF},(vf X.env scope.names []).lookup x=some c->X.env.cells.lookup x=some c:=fun {x c} e=>tJ tD (fun x c e=>by simp at e) e;refine⟨I.ok.mod,(show scope.kind=.function from nu hf),I.ok.glob,I.ok.blt,zah _,fun x y c a b=>I.ok.inj x y c (sub a) (sub b),fun x hk=>?_,fun x c e=>(by cases e),I.ok.hd,I.ok.frames,.inl rfl,fun b hb=>⟨zaz (hx b hb).2,fun x c e=>(hx b hb).1.2.2.2.2.1 x c (sub e)⟩,I.bs,zax I.ok.BL I.sz,fun b o e hb=>?_,fun b hb hs=>?_,I.stack,I.tj⟩
 .refine xh (.inr ?_);have Kb:(relabel scope X.env).names.lookup x=some .cell\/(relabel scope X.env).names.lookup x=some .free:=hk;rw[pk] at Kb;cases q:scope.names.lookup x with
  |none=>rw[q] at Kb;rcases Kb with z |z<;>cases z
  |some k=>
   have hm:=mem_of_lookup q;by_cases Yy:k=.free
   .subst Yy;exact hm
   .rw[q] at Kb;have hb:(k==yaJ)=false:=by simpa using Yy
    simp only[za1,hb,zdp,zau,if_false,za5.injEq] at Kb;rcases Kb with z |z
    .exact ybX z (fits _ hm).1
    .exact ybX z Yy
 .rcases(hx b hb).1.2.2.2.1 with z |z
  .exact I.ok.Ah b o e z
  .exact ybX (zat (yad e) (zax I.ok.BL z)) (zaO _)
 .rcases zak.mp (I.rG b hs) with z |z
  .exact(hx b hb).1.2.1 z
  .exact(hx b hb).1.2.2.1 z
theorem Kc(I:Inv X pins G H s)(hf:ke scope X.env.scope=true)(hc:wK scope X.env.scope X.N ix=true)(hx:∀b∈ex,tE X pins H b/\b<s.heap.objs.size)
 (hn:h'.Ns s.heap.objs.size fun _=>none) (hk:∀b o,s.heap.get? b=some o->h'.get? b=some o):Inv (kN X scope own ix s.heap.objs.size s H ex) [] (zbf own.length none++Ka G ix) H {s with heap:=h',toks:=tk}:=by
 have fits:=(pq hf)
 have tD:∀p∈scope.names,p.2=.free->∃c,X.env.cells.lookup p.1=some c:=fun p hp e=>I.ok.has p.1 ((fits p hp).2.1 e);have sub:∀{x:Str} {c:zdF},(vf X.env scope.names []).lookup x=some c->X.env.cells.lookup x=some c:=fun {x c} e=>tJ tD (fun x c e=>by simp at e) e;refine⟨N0 I hf hx,rfl,I.bare,Un.kept hk,⟨_,hn,fun i x v e1 e2 e3=>?_⟩,fun x c e=>?_,I.bS.fresh (zah _),fun x c e=>I.iS x c (sub e),fun p hp=>ybX (show p∈([]:List (zdF×Obj))++[] from hp) (by simp),I.bS.kept hk,?_⟩
 .have e1:(own++FK X.N ix)[i]?=some x:=e1;by_cases hi:i<own.length
  .rw[zbO (by simpa using hi),zdh,ybS hi] at e2;cases e2
  .have hi':own.length<=i:=Nat.le_of_not_lt hi;rw[zbJ (by simpa using hi'),zdq] at e2;rw[zbJ hi'] at e1;unfold Ka at e2;unfold FK at e1;rw[zar] at e1 e2;cases q:ix[i-own.length]? with
   |none=>rw[q] at e2;cases e2
   |some j=>
    rw[q] at e1 e2;simp only[za1,za5.injEq] at e1 e2;have hj:j∈ix:=zaD q;have fit:=zbE.mp hc j hj;simp only[za2,Bool.or_eq_true,beq_iff_eq] at fit;rw[e1] at fit;have ej:G[j]?=some (some v):=by
     rw[zal] at e2;cases r:G[j]? with
     |none=>rw[r] at e2;cases e2
     |some z=>rw[r] at e2;simp only[zdb] at e2;rw[e2]
    have hjl:j<X.N.length:=by rw[<- I.len];exact(zap.mp ej).1
    have en:X.N[j]?=some x:=by
     rw[zal] at e1;rw[zad hjl] at e1 |-;simp only[zdb] at e1;rw[e1]
    obtain⟨m,hm,hl⟩:=I.loc;have hv:T4 X.env.scope x:=by
     rcases fit.2 with z |z
     .exact .inr (.inl z)
     .exact .inr (.inr z)
    obtain⟨u,r,l⟩:=hl j x v en ej hv;refine⟨u,r,.inr ⟨?_,?_⟩⟩
    .show (relabel scope X.env).names.lookup x=some .cell\/(relabel scope X.env).names.lookup x=some .free;rw[pk,fit.1];simp only[za1];split
     .exact .inl rfl
     .exact .inr rfl
    .rcases l with ⟨k1,_⟩ |⟨_,c,ec,vN⟩
     .have k1:X.env.scope.names.lookup x=some .local:=k1;rcases fit.2 with z |z<;>(rw[z] at k1;cases k1)
     .obtain⟨c',e'⟩:∃c,(vf X.env scope.names []).lookup x=some c:=xh (.inr (mem_of_lookup fit.1));have:=sub e';rw[ec] at this;cases this;exact⟨c,e',vN.keeps hk⟩
 .obtain⟨v,z⟩:=I.cell x c (sub e);exact⟨v,z.keeps hk⟩
 .show (zbf own.length none++Ka G ix).length=(own++FK X.N ix).length;simp[Ka]
theorem comp_back{Z:St}(I:Inv X pins G H s)(hx:∀b∈ex,tE X pins H b/\b<s.heap.objs.size)
 (I':Inv (kN X scope own ix s.heap.objs.size s H ex) vM Z H' s'):Inv X pins G H' s'/\H' s.heap.objs.size=none/\s.heap.objs.size≠X.env.locals/\X.s₀.heap.objs.size<=s.heap.objs.size/\(∀x c,X.env.cells.lookup x=some c->c≠s.heap.objs.size)/\∀p∈X.pn++pins,p.1≠s.heap.objs.size:=by
 refine⟨I.PF (ch:=ex) I'.os I'.base I'.bS I'.bare fun b hb=>?_,I'.free,zaW I.lt,I.sz,fun x c e z=>?_,fun p hp z=>?_⟩
 .obtain⟨f0,f1,f2,f3,f4,f5⟩:=(hx b hb).1;exact⟨f3,f1,f4,f5⟩
 .obtain⟨v,q⟩:=I.cell x c e;exact ybX q.lt (by rw[z];exact zaO _)
 .exact ybX (yad (I.pin p hp).1) (by rw[z];exact zaO _)
end
def Th (X:Cx)(ifs:List Expr)(t:TT):Prop:=
 ∀(pins:List (zdF×Obj)) (s:zdP) (G:St) (H:Hp) (Q:Bool->Hp->Prop),Inv X pins G H s->t G H Q->
  yab (model X.prog X.w) X.A (forIn ifs true fun c r=>if r=true then do let ok <- isTrue c X.env (eval c X.env);pure (ForInStep.yield ok) else pure (ForInStep.yield r)) (TP X pins G Q) X.xe s
def xi:TT:=fun _ H Q=>Q true H
theorem dZ{X:Cx}:Th X [] xi:=fun _ _ _ H _ I h=>wpAny_tests_nil ⟨H,I,h⟩
theorem N1(h:PT X c t):Th X [c] t:=fun pins s G H Q I q=>wpAny_tests_one (h pins s G H Q I q)
def qJ (J:It)(D:zdF)(g:TG)(tc:TT)(te:TE)(Q:VK)(Z:St)(H:Hp):Prop:=∃W:Nat->Nat->St->Hp->Prop,(∃m,W 0 m Z H)/\∀i m Z H,W i m Z H->
 (J.stop i H/\Q (.ref D) H)\/(J.go i H/\∃N:St->Hp->Prop,(∀Z' H',N Z' H'->∃m',m'<m/\W (i+1) m' Z' H')/\∀x H',J.Hr i H x H'->g x Z H' fun Z2 H2=>tc Z2 H2 fun b H3=>if b=true then
  te Z2 H3 fun y H4=>∃ys,H4 D=some (.lst ys)/\ys.length<zdN/\N Z2 (upd H4 D (.lst (ys++[y]))) else N Z2 H3)
def fS (wi:TI)(k:Nat)(ix:List Nat)(g:TG)(tc:TT)(te:TE):TE:=fun G H Q=>wi G H fun J H1=>∀D,H1 D=none->qJ J D g tc te Q (zbf k none++Ka G ix) (upd H1 D (.lst []))
section
variable{X:Cx}{tg iter elt:Expr}{ifs:List Expr}{scope:Scope}{pos:Pos}{own:List Str}{ix:List Nat}{wi:TI}{g:TG}{tc:TT}{te:TE}
theorem HR{Z:St}(qK:X.calm=true)(RA:X.xe=fun _ _=>False)(hpn:X.pn=[])(T:Turn X.prog X.w X.K tg J fp it tn)
 (he:PE X elt te) (hg:PG X tg g) (ht:Th X ifs tc) (I:Inv X [] Z H s) (hfp:∀b∈fp,tE X [] H b) (h0:tn 0 s.heap) (hW:qJ J D g tc te Q Z H)
 (hR:∀Z' H' s',Inv X [] Z' H' s'->Q (.ref D) H'->R (.ok .next) s') :
 codeAny (model X.prog X.w) X.A (.compLoop (.ListComp elt [⟨tg,iter,ifs,0⟩] scope pos) 0 (.ref it) (.ref D) X.env) R s:=by
 obtain⟨W,⟨m0,w0⟩,turn⟩:=hW;have no:∀{E:zdG->zdP->Prop} (e:zdG) (s':zdP),X.xe e s'->E e s':=fun e s' z=>by rw[RA] at z;exact z.elim
 have stat:∀{H':Hp},(∀b∈fp,H' b=none)->∀b∈fp,tE X [] H' b:=fun hn b hb=>⟨hn b hb,(hfp b hb).2⟩
 refine codeAny_loop rfl (fun n s'=>∃i Z' H',Inv X [] Z' H' s'/\tn i s'.heap/\(∀b∈fp,H' b=none)/\W i n Z' H') (fun n s3 hI=>?_) m0 ⟨0,Z,H,I,h0,fun b hb=>(hfp b hb).1,w0⟩;obtain⟨i,Z3,H3,I3,PH,Uc,w3⟩:=hI;show yab _ X.A ((compTurn (.ListComp elt [⟨tg,iter,ifs,0⟩] scope pos) 0 (.ref it) (.ref D) X.env).onRaise (fun x=>do noteFrame x X.env;theTreesLotGoes x)) _ _ s3;refine wpAny_noted ?_;rw[compTurn_list];refine zdI (wpAny_standAt (zdI ?_));rcases turn i n Z3 H3 w3 with ⟨stop,q⟩ |⟨go,N,hN,step⟩
 .refine yaw (T.done X rfl rfl rfl qK i [] s3 Z3 H3 X.xe I3 (stat Uc) PH stop) (fun r s4 zqz=>?_) no;obtain⟨hr,I4⟩:=zqz;subst hr;exact zdJ (hR Z3 H3 s4 I4 q)
 .refine yaw (T.item X rfl rfl rfl qK i [] s3 Z3 H3 X.xe I3 (stat Uc) PH go) (fun r s4 zqz=>?_) no;obtain⟨u,hr,h4⟩:=zqz;subst hr;refine zdI (yaw h4 (fun _ s5 zqz=>?_) no);obtain⟨x,H5,I5,r5,y5,Rc,Yj⟩:=zqz;have Yk:=I5.pinned (stat Yj) (T.obj _ _ Rc);refine zdI (yaw (hg _ s5 Z3 H5 x u _ Yk r5 (step x H5 y5)) (fun _ s6 zqz=>?_) no);obtain⟨Z6,H6,I6,q6⟩:=zqz;refine zdI (yaw (ht _ s6 Z6 H6 _ I6 q6) (fun b s7 zqz=>?_) no);obtain⟨H7,I7,q7⟩:=zqz;have again:∀{Z7:St} {H7:Hp} {s7:zdP},Inv X ([]++w8 fp s5.heap) Z7 H7 s7->N Z7 H7->∃m,m<n/\∃i G' H',Inv X [] G' H' s7/\tn i s7.heap/\(∀b∈fp,H' b=none)/\W i m G' H':=fun {Z7 H7 s7} I7 n7=>by
   obtain⟨m',hm,w7⟩:=hN Z7 H7 n7;refine⟨m',hm,i+1,Z7,H7,I7.mC,T.keep _ _ _ Rc fun b hb o e=>(I7.pin (b,o) (zaK _ (zaK _ (nh hb e)))).1,fun b hb=>?_,w7⟩;obtain⟨o,e,d⟩:=T.obj _ _ Rc b hb;exact(I7.pin (b,o) (zaK _ (zaK _ (nh hb e)))).2.1
  cases b with
  |false=>exact zdJ ⟨rfl,again I7 q7⟩
  |true=>
   refine zdI (zdI (yaw (he _ s7 Z6 H7 _ I7 q7) (fun v s8 ⟨y,H8,I8,r8,ys,hD,hl,q8⟩=>zdI ?_) no));refine yaw (qe _ s8 Z6 H8 (.ref D) [y] (.ref D) [v] (fun _ H'=>N Z6 H') I8 rfl (.cons r8 .nil) ⟨D,ys,y,rfl,rfl,hD,hl,q8⟩) (fun _ s9 zqz=>?_) no;obtain⟨_,H9,I9,_,q9⟩:=zqz;exact zdJ (zdJ ⟨rfl,again I9 q9⟩)
theorem B4{G:St}(qK:X.calm=true)(hf:ke scope X.env.scope=true)(hc:wK scope X.env.scope X.N ix=true)
 (hi:PI X tg iter wi) (hg:∀C s₀ H₀ ex,PG (kN X scope own ix C s₀ H₀ ex) tg g) (ht:∀C s₀ H₀ ex,Th (kN X scope own ix C s₀ H₀ ex) ifs tc) (he:∀C s₀ H₀ ex,PE (kN X scope own ix C s₀ H₀ ex) elt te)
 (I:Inv X pins G H s) (h:fS wi own.length ix g tc te G H Q)
 (hU:∀(D C:zdF) (H':Hp) (s':zdP) (m:Str->Option zdG),Inv X pins G H' s'->Q (.ref D) H'->s'.heap.Ns C m->H' C=none->C≠X.env.locals->X.s₀.heap.objs.size<=C->(∀x c,X.env.cells.lookup x=some c->c≠C)->(∀p∈X.pn++pins,p.1≠C)->compPost (model X.prog X.w) X.A X.xe use Q' (.ref D) C (.ok .next) s')
 (hs:∀x,foldedSetIterable iter X.env x=pure x) :
 yab (model X.prog X.w) X.A (comprehension (.ListComp elt [⟨tg,iter,ifs,0⟩] scope pos) scope X.env (firstIterPos [⟨tg,iter,ifs,0⟩] pos) (newList []) false (eval iter X.env) use) Q' X.xe s:=by
 have fits:=(pq hf)
 have tD:∀p∈scope.names,p.2=.free->∃c,X.env.cells.lookup p.1=some c:=fun p hp e=>I.ok.has p.1 ((fits p hp).2.1 e);refine wpAny_comprehension_free (use:=use) rfl hs (wm tD) (nu hf) (fun x hx=>(fits x hx).2.2) ?_;refine fC (hi pins s G H _ I h) fun v s1 h1=>fC h1 fun Yi s2 h2=>?_;obtain⟨it,fp,tn,J,H2,e,I2,T,BR,f2,hW⟩:=h2;subst e;refine ybs (hd:=by size_fits) ?_;have hD:H2 s2.heap.objs.size=none:=I2.bS.fresh (zah _);have I3:Inv X pins G (upd H2 s2.heap.objs.size (.lst [])) {s2 with heap:=s2.heap.push {cls:=.type "list",dict:=none,data:=.seq ([]:List zdG).toArray} }:=
  I2.laid (t':=s2.toks) (fun b u e=>yaa _ e) (zah _) ⟨zaN _,[],0,.nil,yae _ rfl⟩
 have W3:=hW s2.heap.objs.size hD;have lt3:∀b∈fp,b<s2.heap.objs.size:=fun b hb=>let ⟨o,e,_⟩:=T.obj _ _ BR b hb;yad e;have UE:∀b∈fp,tE X pins (upd H2 s2.heap.objs.size (.lst [])) b/\b<(s2.heap.push {cls:=.type "list",dict:=none,data:=.seq ([]:List zdG).toArray}).objs.size:=fun b hb=>
  ⟨⟨by rw[au (zaz (lt3 b hb))];exact(f2 b hb).1,(f2 b hb).2⟩,by rw[yan];exact Nat.lt_succ_of_lt (lt3 b hb)⟩
 have PH:tn 0 (s2.heap.push {cls:=.type "list",dict:=none,data:=.seq ([]:List zdG).toArray}):=T.keep _ _ _ BR fun b _ o e=>yaa _ e;generalize hs3:({s2 with heap:=s2.heap.push {cls:=.type "list",dict:=none,data:=.seq ([]:List zdG).toArray} }:zdP)=s3 at I3;generalize hH3:upd H2 s2.heap.objs.size (.lst [])=H3 at I3 W3 UE;have eh:s2.heap.push {cls:=.type "list",dict:=none,data:=.seq ([]:List zdG).toArray}=s3.heap:=by rw[<- hs3]
 rw[eh] at UE PH;refine wpAny_newFunctionEnv (fun x hx=>(fits x hx).1) (by intro y hy;simp at hy) (fun h4 PV Yz=>?_) (nu hf);have kept:∀b o,s3.heap.get? b=some o->h4.get? b=some o:=fun b o e=>Yz.extBut b o (zaz (yad e)) (yaa _ e);have I4:=Kc (own:=own) (tk:=s3.toks+([]:List (Str×zdG)).length) I3 hf hc UE PV kept;have fp4:∀b∈fp,tE (kN X scope own ix s3.heap.objs.size s3 H3 fp) [] H3 b:=fun b hb=>by
  obtain⟨⟨f0,f1,f2',f3,f4,f5⟩,lt⟩:=UE b hb;refine⟨f0,zaz lt,fun z=>?_,.inl hb,fun x c e=>f4 x c (tJ tD (fun x c e=>by simp at e) e),fun p hp=>ybX (show p∈([]:List (zdF×Obj))++[] from hp) (by simp)⟩;rcases zak.mp (I3.rG b z) with z |z
  .exact f1 z
  .exact f2' z
 have st4:tn 0 h4:=T.keep _ _ _ PH fun b _ o e=>kept b o e;have loop:=HR (X:=kN X scope own ix s3.heap.objs.size s3 H3 fp) (iter:=iter) (scope:=scope) (pos:=pos) (R:=compPost (model X.prog X.w) X.A X.xe use Q' (.ref s2.heap.objs.size) s3.heap.objs.size) qK rfl rfl T (he _ _ _ _) (hg _ _ _ _) (ht _ _ _ _) I4 fp4 st4 W3
  (fun Z' H' s' I' q=>by
   obtain⟨J1,J2,J3,J4,J5,J6⟩:=comp_back I3 UE I';obtain⟨m,hm,_⟩:=I'.loc;exact hU _ _ H' s' m J1 q hm J2 J3 J4 J5 J6)
 exact codeAny_compStart_list loop (T.self X.A 0 _ _ _ st4 loop)
theorem eN(qK:X.calm=true)(hf:ke scope X.env.scope=true)(hc:wK scope X.env.scope X.N ix=true)
 (hi:PI X tg iter wi) (hg:∀C s₀ H₀ ex,PG (kN X scope own ix C s₀ H₀ ex) tg g) (ht:∀C s₀ H₀ ex,Th (kN X scope own ix C s₀ H₀ ex) ifs tc) (he:∀C s₀ H₀ ex,PE (kN X scope own ix C s₀ H₀ ex) elt te)
 (hs:∀x,foldedSetIterable iter X.env x=pure x:=by intro _;rfl):PE X (.ListComp elt [⟨tg,iter,ifs,0⟩] scope pos) (fS wi own.length ix g tc te):=by
 intro pins s G H Q I h;rw[eval_ListComp];refine B4 (use:=none) qK hf hc hi hg ht he I h (fun D C H' s' m I' q hm n1 n2 n3 n4 n5=>?_) hs;refine⟨m,hm,fun h' sb=>⟨.ref D,H',?_,rfl,q⟩⟩;exact I'.turned (t':=s'.toks) (it:=C) (fun b o hb e=>sb.extBut b o hb e) n1 (Ne.symm (Ne.symm n2)) (.inr n3) n4 n5
theorem Av{i:Nat}{y:Str}{py UG:Pos}(hN:X.N.Nodup)(hiy:X.N[i]?=some y)(hy:Loc X.env.scope y)(qK:X.calm=true)(hf:ke scope X.env.scope=true)(hc:wK scope X.env.scope X.N ix=true)
 (hi:PI X tg iter wi) (hg:∀C s₀ H₀ ex,PG (kN X scope own ix C s₀ H₀ ex) tg g) (ht:∀C s₀ H₀ ex,Th (kN X scope own ix C s₀ H₀ ex) ifs tc) (he:∀C s₀ H₀ ex,PE (kN X scope own ix C s₀ H₀ ex) elt te)
 (YA:swapsWith (.ListComp elt [⟨tg,iter,ifs,0⟩] scope pos) (some (.Name y py)) UG.line X.env=pure true:=by rfl)
 (hs:∀x,foldedSetIterable iter X.env x=pure x:=by intro _;rfl) (QZ:X.fn y=true\/X.env.scope.names.lookup y=some .local:=by first |exact .inl rfl |exact .inr rfl |assumption) :
 PS X (.Assign [.Name y py] (.ListComp elt [⟨tg,iter,ifs,0⟩] scope pos) UG) (Hq (fS wi own.length ix g tc te) (gE i)):=by
 intro pins s G H D I h;rw[exec_Assign_Name_used _ _ _ _ YA];refine zdI (wpAny_standAt (zdI ?_));show yab _ _ (do let _ <- comprehension (.ListComp elt [⟨tg,iter,ifs,0⟩] scope pos) scope X.env _ (newList []) false (eval iter X.env) (some (assign (.Name y py) X.env))) _ _ s;refine zdI (yaw (B4 (use:=some (assign (.Name y py) X.env)) (Q':=fun _ s'=>SP X pins D .next s') qK hf hc hi hg ht he I h (fun L C H' s' m I' q hm n1 n2 n3 n4 n5=>?_) hs) (fun _ s' hq=>zdJ (zdJ hq)) fun _ _ e=>e);show yab _ _ (assign (.Name y py) X.env (.ref L)) _ _ _;refine wpAny_assign_Name (zh I' hN hiy hy (v:=.ref L) rfl (fun s2 I2 zqz=>?_) QZ);obtain⟨a,sb,ha⟩:=zqz;have hCa:C≠a:=by
  rcases ha with rfl |ha
  .exact n2
  .exact fun z=>n4 y a ha z.symm
 refine⟨m,hm.sameBut sb hCa,fun h' sb'=>⟨_,H',?_,q⟩⟩;exact I2.turned (t':=s2.toks) (it:=C) (fun b o hb e=>sb'.extBut b o hb e) n1 n2 (.inr n3) n4 n5
end
inductive Dp where
 |eA |bl (b:Bool) |int (i:Int) |str (x:Str) |tup (l:List Dp) |lst (l:List Dp)
mutual
def Rep (K:zaa)(H:Hp):Dp->V->Prop
 |.eA,v=>v=.eA
 |.bl b,v=>v=.bl b
 |.int i,v=>v=.int i
 |.str x,v=>v=.str x
 |.tup l,v=>∃a xs,v=.ref a/\bH K H a xs/\aL K H l xs
 |.lst l,v=>∃a xs,v=.ref a/\iR K H a xs/\aL K H l xs
def aL (K:zaa)(H:Hp):List Dp->List V->Prop
 |[],vs=>vs=[]
 |d::ds,vs=>∃v r,vs=v::r/\Rep K H d v/\aL K H ds r
end
mutual
noncomputable def Dp.deep:Dp->Nat
 |.tup l=>Dp.B5 l+1
 |.lst l=>Dp.B5 l+1
 |_=>0
noncomputable def Dp.B5:List Dp->Nat
 |[]=>0
 |d::ds=>max d.deep (Dp.B5 ds)
end
theorem ar.cO{K:zaa}(e:ar H H')(h:bH K H a xs):bH K H' a xs:=by
 rcases h with (h |⟨o,h⟩) |h
 .exact .inl (.inl (e _ _ h))
 .exact .inl (.inr ⟨o,e _ _ h⟩)
 .exact .inr h
mutual
theorem Rep.mono{K:zaa}(e:ar H H'):∀{d:Dp}{v:V},Rep K H d v->Rep K H' d v
 |.eA,_,h=>h
 |.bl _,_,h=>h
 |.int _,_,h=>h
 |.str _,_,h=>h
 |.tup l,_,h=>by
  unfold Rep at h |-;obtain⟨a,xs,e1,e2,e3⟩:=h;exact⟨a,xs,e1,e.cO e2,aL.mono e e3⟩
 |.lst l,_,h=>by
  unfold Rep at h |-;obtain⟨a,xs,e1,e2,e3⟩:=h;exact⟨a,xs,e1,e.seq e2,aL.mono e e3⟩
theorem aL.mono{K:zaa}(e:ar H H'):∀{ds:List Dp}{vs:List V},aL K H ds vs->aL K H' ds vs
 |[],_,h=>h
 |d::ds,_,h=>by
  unfold aL at h |-;obtain⟨v,r,e1,e2,e3⟩:=h;exact⟨v,r,e1,Rep.mono e e2,aL.mono e e3⟩
end
theorem aL.length{K:zaa}:∀{vs:List V},aL K H ds vs->vs.length=ds.length:=by
 induction ds with
 |nil=>intro _ h;unfold aL at h;rw[h];rfl
 |cons d ds ih=>
  intro _ h;unfold aL at h;obtain⟨v,r,e1,_,e3⟩:=h;rw[e1,zaq,zaq,ih e3]
theorem aL.get{K:zaa}:∀{ds:List Dp}{vs:List V}{i:Nat}{d:Dp},aL K H ds vs->ds[i]?=some d->∃v,vs[i]?=some v/\Rep K H d v
 |[],_,_,_,_,e=>by simp at e
 |d::ds,_,0,_,h,e=>by
  unfold aL at h;obtain⟨v,r,e1,e2,e3⟩:=h;simp only[zcw,za5.injEq] at e;subst e;exact⟨v,by rw[e1];rfl,e2⟩
 |d::ds,_,i+1,d',h,e=>by
  unfold aL at h;obtain⟨v,r,e1,e2,e3⟩:=h;rw[zbC] at e;obtain⟨v',h1,h2⟩:=aL.get e3 e;exact⟨v',by rw[e1,zbC];exact h1,h2⟩
theorem aL.append{K:zaa}:∀{es:List Dp}{vs us:List V},aL K H ds vs->aL K H es us->aL K H (ds++es) (vs++us):=by
 induction ds with
 |nil=>intro _ _ _ h h';unfold aL at h;rw[h];exact h'
 |cons d ds ih=>
  intro _ _ _ h h';unfold aL at h;obtain⟨v,r,e1,e2,e3⟩:=h;rw[e1];show aL K H (d::(ds++_)) (v::(r++_));unfold aL;exact⟨v,_,rfl,e2,ih e3 h'⟩
theorem aL.nil{K:zaa}:aL K H [] []:=by unfold aL;rfl
theorem aL.cons{K:zaa}{H:Hp}{d:Dp}{ds:List Dp}{v:V}{vs:List V}(h:Rep K H d v)(h':aL K H ds vs):aL K H (d::ds) (v::vs):=by unfold aL;exact⟨v,vs,rfl,h,h'⟩
theorem Rep.aT{K:zaa}:Rep K H (.tup l) v↔∃a xs,v=.ref a/\bH K H a xs/\aL K H l xs:=by unfold Rep;exact Iff.rfl
theorem Rep.bG{K:zaa}:Rep K H (.lst l) v↔∃a xs,v=.ref a/\iR K H a xs/\aL K H l xs:=by unfold Rep;exact Iff.rfl
theorem Rep.bD{K:zaa}:Rep K H (.int i) v↔v=.int i:=by unfold Rep;exact Iff.rfl
theorem Rep.bN{K:zaa}:Rep K H (.str x) v↔v=.str x:=by unfold Rep;exact Iff.rfl
theorem Rep.rM{K:zaa}:Rep K H (.bl b) v↔v=.bl b:=by unfold Rep;exact Iff.rfl
theorem Rep.kg{K:zaa}:Rep K H .eA v↔v=.eA:=by unfold Rep;exact Iff.rfl
theorem aL.bQ{K:zaa}:aL K H [] vs↔vs=[]:=by unfold aL;exact Iff.rfl
theorem aL.aP{K:zaa}:aL K H (d::ds) vs↔∃v r,vs=v::r/\Rep K H d v/\aL K H ds r:=by conv=>lhs;unfold aL
theorem ar.new(h:H p=none)(o:HO):ar H (upd H p o):=fun b u q=>by rw[au (ag q h)];exact q
section
variable{X:Cx}{pins:List (zdF×Obj)}{G:St}{H:Hp}{s:zdP}
theorem all_true(n:Nat):(zaj n).all (fun _=>true)=true:=by simp
mutual
theorem N2(I:Inv X pins G H s):∀{d:Dp}{v u:V}{a b:zdG}{A:zdQ},Rep X.K H d v->Rep X.K H d u->RelV v a->RelV u b->A.units+d.deep<cLine->SeqAt.EqAt A s a b true
 |.eA,v,u,a,b,A,h1,h2,r1,r2,_=>by
  rw[Rep.kg] at h1 h2;subst h1;subst h2;cases (show a=yaA from r1);cases (show b=yaA from r2);exact .same _
 |.bl c,v,u,a,b,A,h1,h2,r1,r2,_=>by
  rw[Rep.rM] at h1 h2;subst h1;subst h2;cases (show a=yaI c from r1);cases (show b=yaI c from r2);exact .same _
 |.int i,v,u,a,b,A,h1,h2,r1,r2,_=>by
  rw[Rep.bD] at h1 h2;subst h1;subst h2;obtain⟨t,rfl⟩:=(show ∃t,a=ybk i t from r1)
  obtain⟨t',rfl⟩:=(show ∃t,b=ybk i t from r2)
  have:=SeqAt.EqAt.int_int (A:=A) (s:=s) i t i t';rw[beq_self_eq_true] at this;exact this
 |.str x,v,u,a,b,A,h1,h2,r1,r2,_=>by
  rw[Rep.bN] at h1 h2;subst h1;subst h2;obtain⟨t,rfl⟩:=(show ∃t,a=ybl x t from r1)
  obtain⟨t',rfl⟩:=(show ∃t,b=ybl x t from r2)
  have:=SeqAt.EqAt.str_str (A:=A) (s:=s) x t x t';rw[beq_self_eq_true] at this;exact this
 |.tup l,v,u,a,b,A,h1,h2,r1,r2,hu=>by
  rw[Rep.aT] at h1 h2;obtain⟨p,xs,rfl,q1,w1⟩:=h1;obtain⟨p',xs',rfl,q2,w2⟩:=h2;cases (show a=yac p from r1);cases (show b=yac p' from r2);by_cases e:p=p'
  .subst e;exact .same _
  .obtain⟨bc,v1,t1,_⟩:=I.tuple q1;obtain⟨its',v2,t2,_⟩:=I.tuple q2;unfold Dp.deep at hu;have items:=tK I w1 w2 v1 v2 (A:=A.in1) (by show A.units+1+_<_;lia);have n1:bc.length=its'.length:=by rw[<- v1.length,<- v2.length,w1.length,w2.length]
   have q:=SeqAt.RcAt.tuples (A:=A) (s:=s) (e:=fun _=>true) t1 t2 (by lia) (fun j h1 h2=>items j bc[j] its'[j] (by simp at h1;simp[h1]) (by simp at h2;simp[h2]));rw[all_true] at q;refine .of_refs e ?_;simpa[n1] using q
 |.lst l,v,u,a,b,A,h1,h2,r1,r2,hu=>by
  rw[Rep.bG] at h1 h2;obtain⟨p,xs,rfl,q1,w1⟩:=h1;obtain⟨p',xs',rfl,q2,w2⟩:=h2;cases (show a=yac p from r1);cases (show b=yac p' from r2);by_cases e:p=p'
  .subst e;exact .same _
  .obtain⟨bc,v1,t1,_⟩:=I.list q1;obtain⟨its',v2,t2,_⟩:=I.list q2;unfold Dp.deep at hu;have items:=tK I w1 w2 v1 v2 (A:=A.in1) (by show A.units+1+_<_;lia);have n1:bc.length=its'.length:=by rw[<- v1.length,<- v2.length,w1.length,w2.length]
   have q:=SeqAt.RcAt.lists (A:=A) (s:=s) (e:=fun _=>true) t1.isList t2.isList (by simpa using n1) (by lia) (fun j h1 h2=>items j bc[j] its'[j] (by simp at h1;simp[h1]) (by simp at h2;simp[h2]));rw[all_true] at q;exact .of_refs e q
theorem tK(I:Inv X pins G H s):∀{ds:List Dp}{vs us:List V}{as bs:List zdG}{A:zdQ},aL X.K H ds vs->aL X.K H ds us->Vals vs as->Vals us bs->A.units+Dp.B5 ds<cLine->
 ∀(j:Nat) (a b:zdG),as[j]?=some a->bs[j]?=some b->SeqAt.EqAt A s a b true
 |[],_,_,_,_,A,h1,h2,r1,r2,_,j,a,b,e1,e2=>by
  rw[aL.bQ] at h1;subst h1;cases r1;simp at e1
 |d::ds,_,_,_,_,A,h1,h2,r1,r2,hu,j,a,b,e1,e2=>by
  rw[aL.aP] at h1 h2;obtain⟨v,r,rfl,x1,y1⟩:=h1;obtain⟨v',r',rfl,x2,y2⟩:=h2;unfold Dp.B5 at hu;cases r1 with
  |cons z1 t1=>
   cases r2 with
   |cons z2 t2=>
    cases j with
    |zero=>
     simp only[zcw,za5.injEq] at e1 e2;subst e1;subst e2;exact N2 I x1 x2 z1 z2 (by lia)
    |succ j=>
     rw[zbC] at e1 e2;exact tK I y1 y2 t1 t2 (by lia) j a b e1 e2
end
end
section
variable{X:Cx}
def UH (i j:Int):Prop:=i.natAbs<2 ^ 4000/\j.natAbs<2 ^ 4000
theorem bits_le(h:i.natAbs<2 ^ 4000):Builtin.Int.intBits i<=2 ^ 20:=zax (intBits_le h) (by decide)
theorem N3:qv X (binaryOp .Mult) (rI UH fun i j=>.int (i*j)):=Ue fun _ _ _ _ _ _ _ hc q=>mul_int q (IntMulOk.of_bits (bits_le hc.1) (bits_le hc.2))
end
structure cV(K:zaa)(mg:Str->Option zdG)(x:Str)(st:Stmt)(ps:List Str)(f:zdF)(fd:zdO):Prop where
 F:DE K x x st f fd
 b:Binds K fd ps []
 m:mg x=some (.ref f)
end L2
namespace L2
open PySem PySem.Spec PyProof.Rows
theorem tL:PJ g (.int i) (.int j) H Q↔Q (g i j) H:=⟨fun ⟨_,_,e1,e2,q⟩=>by cases e1;cases e2;exact q,fun q=>⟨_,_,rfl,rfl,q⟩⟩
theorem YB:rI C g (.int i) (.int j) H Q↔C i j/\Q (g i j) H:=⟨fun ⟨_,_,e1,e2,c,q⟩=>by cases e1;cases e2;exact⟨c,q⟩,fun q=>⟨_,_,rfl,rfl,q⟩⟩
theorem Kd{r:St}:(fO 0 (some a::r) H Q)=(Q a H):=rfl
theorem Ke{r:St}:(fO 1 (a::r) H Q)=(fO 0 r H Q):=rfl
theorem Kf{r:St}:(fO 2 (a::r) H Q)=(fO 1 r H Q):=rfl
theorem Kg{r:St}:(fO 3 (a::r) H Q)=(fO 2 r H Q):=rfl
theorem Kh{r:St}:(fO 4 (a::r) H Q)=(fO 3 r H Q):=rfl
theorem Ki{r:St}:(fO 5 (a::r) H Q)=(fO 4 r H Q):=rfl
theorem Kj{r:St}:(fO 6 (a::r) H Q)=(fO 5 r H Q):=rfl
theorem Kk{r:St}:(fO 7 (a::r) H Q)=(fO 6 r H Q):=rfl
theorem Kl{r:St}:(fO 8 (a::r) H Q)=(fO 7 r H Q):=rfl
theorem Km{r:St}:(fO 9 (a::r) H Q)=(fO 8 r H Q):=rfl
theorem UI:(tC v G H Q)=(Q v H):=rfl
theorem PX:(Ud r ta tb G H Q)=(ta G H fun x H1=>tb G H1 fun y H2=>r x y H2 Q):=rfl
theorem UJ{p:Bool->Prop}:(∃k,V.bl b=.bl k/\p k)↔p b:=⟨fun ⟨_,e,q⟩=>by cases e;exact q,fun q=>⟨_,rfl,q⟩⟩
theorem RB{p:Int->Prop}:(∃k,V.int b=.int k/\p k)↔p b:=⟨fun ⟨_,e,q⟩=>by cases e;exact q,fun q=>⟨_,rfl,q⟩⟩
theorem RC{p:zdF->Prop}:(∃k,V.ref b=.ref k/\p k)↔p b:=⟨fun ⟨_,e,q⟩=>by cases e;exact q,fun q=>⟨_,rfl,q⟩⟩
theorem FL:(FD t G H Q)=(t G H fun x H'=>∃k,x=.bl k/\Q k H'):=rfl
theorem PY:(rEq x y H Q)=(HG x y=true/\Q (.bl (decide (x=y))) H):=rfl
theorem PZ:(rNe x y H Q)=(HG x y=true/\Q (.bl (!decide (x=y))) H):=rfl
theorem RD:(V.int i=V.int j)=(i=j):=by simp
theorem RE:(V.str i=V.str j)=(i=j):=by simp
theorem N4[Decidable c]:(if decide c=true then A else B)↔if c then A else B:=by simp
theorem Kn[Decidable c]:(if (!decide c)=true then A else B)↔if c then B else A:=by by_cases h:c<;>simp[h]
theorem aI{K:zaa}(h:bH K H p xs)(hv:Jm xs i=some v)(q:Q v H):Rp K (.ref p) (.int i) H Q:=⟨p,xs,i,v,rfl,rfl,h,hv,q⟩
theorem cT{K:zaa}(h:iR K H p xs)(hv:Jm xs i=some v)(q:Q v H):Ro K (.ref p) (.int i) H Q:=⟨p,xs,i,v,rfl,rfl,h,hv,q⟩
section
variable{P:zdR}{w:zdH}{K:zaa}{mg:Str->Option zdG}{base:yaf}
theorem DE.qL{st:Stmt}(F:DE K x qual st f fd)(S:a9 N ps (aG st))(len:∀vs H Q E,sp vs H Q E->vs.length=ps.length)
 (pj:∀(eY:zdG) (A:zdQ) (outer:List Env) (s:zdP) (H:Hp) (vs:List V) (Q:VK) (E:XK),gw k (A.deeper (envOfC qual (aG st) s.heap.objs.size f eY))->sp vs H Q E->
  ∃t G,BO (gV fR P w K mg base N qual (aG st) f eY A outer s H E).Ua (eE st) t/\L2.start N vs=G/\t {nx:=fun _ H'=>Q .eA H',rt:=Q} G H):bt P w K mg base fR (k+1) f fd ps sp:=
 F.ok S len fun eY A outer s H vs Q E hr h=>let ⟨t,_,h1,h2,h3⟩:=pj eY A outer s H vs Q E hr h;⟨t,h1,by rw[h2];exact h3⟩
end
theorem FN:(BW sp yt E t G H Q)=(t G H fun vs H1=>sp (vs++yt) H1 Q E):=rfl
theorem FO:(xf ta tr G H Q)=(ta G H fun x H1=>tr G H1 fun xs H2=>Q (x::xs) H2):=rfl
theorem Ko:(NS G H Q)=(Q [] H):=rfl
theorem Kq:(Um t G H Q)=(t G H fun xs H1=>xs.length<=zdN/\∀p,H1 p=none->Q (.ref p) (upd H1 p (.tup xs))):=rfl
theorem Kr:(Uo t G H Q)=(t G H fun xs H1=>xs.length<=zdN/\∀p,H1 p=none->Q (.ref p) (upd H1 p (.lst xs))):=rfl
theorem N5(h:n<=1000):n<=zdN:=zbw (HN h)
theorem ar.Aw(s:ar H H1)(h:H1 p=none)(o:HO):ar H (upd H1 p o):=s.trans (ar.new h o)
theorem Rep.new{K:zaa}(h:H p=none)(r:aL K H ds vs):Rep K (upd H p (.tup vs)) (.tup ds) (.ref p):=Rep.aT.mpr ⟨p,vs,rfl,.of ah,r.mono (ar.new h _)⟩
theorem Rep.YC{K:zaa}(h:H p=none)(r:aL K H ds vs):Rep K (upd H p (.lst vs)) (.lst ds) (.ref p):=Rep.bG.mpr ⟨p,vs,rfl,.of ah,r.mono (ar.new h _)⟩
theorem N6:HG (.int i) (.int j)=true:=rfl
theorem N7:HG (.str i) (.str j)=true:=rfl
theorem N8(h:n<=1000):(n<=zdN)=True:=eq_true (N5 h)
theorem Ks:(Uh i j)=(0<j/\j<1073741824):=rfl
theorem Kt{K:zaa}{s:zdP}{H:Hp}{E:XK}:(gV CX P w K mg base N qual scope f cd A outer s H E).K=K:=rfl
theorem FP:(kN X scope own ix C s₀ H₀ ex).K=X.K:=rfl
theorem mulR(h1 : -18446744073709551616<b)(h2:b<18446744073709551616):HF z b:=.inr ⟨h1,h2⟩
theorem mulL(h1 : -18446744073709551616<z)(h2:z<18446744073709551616):HF z b:=.inl ⟨h1,h2⟩
theorem fM{x:Str}{pos:Pos}:wI (.Name x pos):=fun _ _=>rfl
theorem aq{c:Const}{k:Nat}{pos:Pos}:wI (.Constant c k pos):=fun _ _=>rfl
theorem FQ:wI (.Call f as ks pos):=fun _ _=>rfl
theorem nv{a b:Expr}{op:Operator}{pos:Pos}{es:List Expr}{env:Env}:zdL (.BinOp a op b pos::es) env=(false,eval (.BinOp a op b pos) env)::zdL es env:=rfl
theorem aD{x:Str}{pos:Pos}{es:List Expr}{env:Env}:zdL (.Name x pos::es) env=(false,eval (.Name x pos) env)::zdL es env:=rfl
theorem aK{c:Const}{k:Nat}{pos:Pos}{es:List Expr}{env:Env}:zdL (.Constant c k pos::es) env=(false,eval (.Constant c k pos) env)::zdL es env:=rfl
theorem a7{a b:Expr}{pos:Pos}{es:List Expr}{env:Env}:zdL (.Subscript a b pos::es) env=(false,eval (.Subscript a b pos) env)::zdL es env:=rfl
theorem ba{f:Expr}{as:List Expr}{ks:List Keyword}{pos:Pos}{es:List Expr}{env:Env}:zdL (.Call f as ks pos::es) env=(false,eval (.Call f as ks pos) env)::zdL es env:=rfl
theorem UK:zdL (.UnaryOp op a pos::es) env=(false,eval (.UnaryOp op a pos) env)::zdL es env:=rfl
theorem lF:zdL (.Attribute a x pos::es) env=(false,eval (.Attribute a x pos) env)::zdL es env:=rfl
theorem Ax{as:List Expr}{pos:Pos}{es:List Expr}{env:Env}:zdL (.List as pos::es) env=(false,eval (.List as pos) env)::zdL es env:=rfl
theorem dQ{as:List Expr}{k}{pos:Pos}{es:List Expr}{env:Env}:zdL (.Tuple as k pos::es) env=(false,eval (.Tuple as k pos) env)::zdL es env:=rfl
theorem Ku{a:Expr}{ops:List CmpOp}{cs:List Expr}{pos:Pos}{es:List Expr}{env:Env}:zdL (.Compare a ops cs pos::es) env=(false,eval (.Compare a ops cs pos) env)::zdL es env:=rfl
theorem iy{a:Expr}{gs:List Comprehension}{sc:Scope}{pos:Pos}{es:List Expr}{env:Env}:zdL (.ListComp a gs sc pos::es) env=(false,eval (.ListComp a gs sc pos) env)::zdL es env:=rfl
noncomputable def Kv:Expr->Option V
 |.Constant (.int i) _ _=>some (.int i)
 |.Constant (.str x) _ _=>some (.str x)
 |.Constant (.bool b) _ _=>some (.bl b)
 |.Constant .none _ _=>some .eA
 |_=>none
def Kw (vs:List V):TA:=fun _ H Q=>Q vs H
theorem cM{X:Cx}:∀{es:List Expr}{vs:List V},es.map Kv=vs.map some->PA X es (Kw vs)
 |[],[],_=>ai
 |[],_::_,h=>by cases h
 |_::_,[],h=>by cases h
 |e::es,v::vs,h=>by
  rw[zas,zas] at h
  injection h with h1 h2
  have ih:=cM (X:=X) h2;have one:∀{e:Expr} {v:V},PE X e (tC v)->(zdL (e::es) X.env=(false,eval e X.env)::zdL es X.env)->PA X (e::es) (Kw (v::vs)):=fun he hs pos pins s G H Q I q=>ae he ih hs pos pins s G H Q I q;unfold Kv at h1;split at h1
  .cases h1;exact one ao aK
  .cases h1;exact one bo aK
  .cases h1;exact one o8 aK
  .cases h1;exact one lU aK
  .cases h1
theorem FR:(Kw vs G H Q)=(Q vs H):=rfl
theorem FT:(PR td ty G H Q)=(td G H fun x H1=>ty G H1 fun y H2=>∃a v,x=.ref a/\wk H2 a y (some v)/\Q v H2):=rfl
theorem FU:(PU td ty tv D G H)=(tv G H fun v H1=>td G H1 fun x H2=>ty G H2 fun y H3=>∃a H4,x=.ref a/\Ry H3 a y v H4/\D.nx G H4):=rfl
theorem P0:(Yo r t G H Q)=(t G H fun vs H1=>r vs H1 Q):=rfl
theorem UL:(tB t G H Q)=(t G H fun x H1=>∃c,x=.bl c/\Q c H1):=rfl
theorem Kx:(T9 t G H Q)=(t G H fun c H1=>Q (!c) H1):=rfl
theorem wk.s{aB:List (Key×V)}(e:H a=some (.dK aB))(h:cf aB (Sum.inr x)=some v):wk H a (.str x) (some v):=by
 have:=wk.k (k:=Sum.inr x) e;rw[h] at this;exact this
end L2
namespace PM
abbrev W:=List Nat
inductive Tr where
 |num (n:Int) |box (x:W) |bin (o:W) (l r:Tr)
 deriving DecidableEq
end PM
namespace L2
open PySem PySem.Spec PyProof.Rows
structure YD(P:zdR)(w:zdH)(outer:List Env)(H:Hp)(s:zdP)(E:XK)(x:zdF)(s':zdP)(cls a0:zdG)(B:yaf)(H':Hp):Prop where
 fl:Heap.FlyingW B outer x cls a0 s'.heap
 os:s'.os=s.os
 bare:AllBare s'.gens
 un:Un (qt outer) [] H H' s.heap s'.heap
 bS:jV P w H' s'.heap
 old:∀b o,s.heap.get? b=some o->b ∉ qt outer->∃o',B.get? b=some o'
 Jj:∀b u,H' b=some u->∃o,B.get? b=some o
 want:E cls none H'
def o3 (P:zdR)(w:zdH):BC:=fun outer H s E e s'=>∃x cls a0 B H',e=.ref x/\YD P w outer H s E x s' cls a0 B H'
section
variable{P:zdR}{w:zdH}{H H':Hp}{h h' B:yaf}{a:zdF}{o:HO}
theorem bZ.there(x:bZ P w H h a o):∃ob,h.get? a=some ob:=by
 induction o with
 |lst xs=>obtain⟨_,_,_,_,e⟩:=x;exact⟨_,e⟩
 |tup xs=>obtain⟨_,_,_,_,e,_⟩:=x;exact⟨_,e⟩
 |dK aB=>obtain⟨_,_,_,_,o,_,_,e,_⟩:=x;exact⟨_,e⟩
 |dT aB=>obtain⟨_,_,_,_,o,_,_,e,_⟩:=x;exact⟨_,e⟩
 |set S n=>obtain⟨o,_,_,_,e,_⟩:=x;exact⟨_,e⟩
 |ins C dx fs=>obtain⟨_,_,_,e,_⟩:=x;exact⟨_,e⟩
 |own y=>exact x
 |xd fs=>obtain⟨_,⟨_,_,_,e,_⟩,_⟩:=x;exact⟨_,e⟩
 |WZ lo hi=>obtain⟨_,_,_,e⟩:=x;exact⟨_,e⟩
 |JA ob u=>obtain⟨e,_⟩:=x;exact⟨_,e⟩
 |rE ps=>exact⟨_,(show h.get? a=some _ from x)⟩
 |met f y=>exact⟨_,(show h.get? a=some _ from x)⟩
 |ext φ=>obtain⟨_,e,_⟩:=x;exact e
theorem jV.part(x:jV P w H h)(st:B.StaysIn h)(BB:B.StaysIn h')(t:∀b u,H b=some u->∃o,B.get? b=some o):jV P w H h':=fun a o e=>by
 refine(x a o e).sY (fun c v hc q=>?_) (fun _ q=>q) fun _ _ q=>q;have tr:∃u,H c=some u:=by
  rcases hc with rfl |hc
  .exact⟨_,e⟩
  .exact⟨_,hc⟩
 obtain⟨u,hu⟩:=tr;obtain⟨o',rF⟩:=t c u hu;have:=st c o' rF;rw[q] at this;cases this;exact BB c _ rF
end
section
variable{X:Cx}{pins:List (zdF×Obj)}{G:St}{H H':Hp}{s s':zdP}{h':yaf}{E:XK}{x:zdF}{cls a0:zdG}{B:yaf}
theorem YD.move(F:YD X.prog X.w X.stack H s E x s' cls a0 B H')(I:Inv X pins G H s)(st:B.StaysIn h')(up:s'.heap.UpToSlots h'):Un (qt X.stack) [] H H' s.heap h'/\jV X.prog X.w H' h':=by
 have fr:∀b∈qt X.stack,∃o,s.heap.get? b=some o/\∀vs,o.data≠.fields vs:=fun b hb=>(I.stack.mem hb).2;have slot:∀b o,s.heap.get? b=some o->H b=none->b∈qt X.stack->∃sl,h'.get? b=some {o with slots:=sl}:=fun b o e n hb=>by
  obtain⟨sl,e1⟩:=F.un.slot b o e n hb (by simp);obtain⟨o',rF,hd⟩:=fr b hb;rw[e] at rF;cases rF;obtain⟨T6,e2⟩:=up b _ e1 hd;exact⟨T6,e2⟩
 refine⟨⟨fun b o e n hb _=>?_,fun b o e n hb _=>slot b o e n hb,fun b o e n hx=>F.un.free b o e n hx,fun b o e _=>?_,F.un.o7,F.un.oU,F.un.oV⟩,F.bS.part F.fl.1 st F.Jj⟩
 .obtain⟨o',rF⟩:=F.old b o e hb;have e1:=F.un.keep b o e n hb (by simp);have e2:=F.fl.1 b o' rF;rw[e1] at e2;cases e2;exact st b _ rF
 .by_cases hb:b∈qt X.stack
  .obtain⟨sl,e1⟩:=slot b o e (I.tj b hb) hb;exact⟨_,e1⟩
  .obtain⟨o',rF⟩:=F.old b o e hb;exact⟨o',st b o' rF⟩
theorem Inv.Qa(I:Inv X pins G H s)(hex:X.ex=[])(u:Un (qt X.stack) [] H H' s.heap h'):Un X.fs [] X.H₀ H' X.s₀.heap h':=by
 have nx:∀b,b ∉ X.ex:=fun b=>by rw[hex];simp
 have W0:∀b o,X.s₀.heap.get? b=some o->b≠X.env.locals:=fun b o e=>zaz (zat (yad e) I.ok.above);refine⟨fun b o q n hb _=>?_,fun b o q n hb _=>?_,fun b o q n _=>?_,fun b o q _=>?_,fun b xs q=>u.o7 b xs (I.base.o7 b xs q),fun b ob xs q=>u.oU b ob xs (I.base.oU b ob xs q),fun b ps q=>?_⟩
 .exact u.keep b o (I.base.keep b o q n hb (nx b)) (I.base.free b o q n (nx b)) (fun z=>(zak.mp (I.rG b z)).elim (W0 b o q) hb) (by simp)
 .obtain⟨sl,e1⟩:=I.base.slot b o q n hb (nx b);obtain⟨T6,e2⟩:=u.any e1 (I.base.free b o q n (nx b)) (by simp);exact⟨T6,e2⟩
 .obtain⟨o',e1⟩:=I.base.there b o q (nx b);exact u.free b o' e1 (I.base.free b o q n (nx b)) (by simp)
 .obtain⟨o',e1⟩:=I.base.there b o q (nx b);exact u.there b o' e1 (by simp)
 .obtain⟨m1,e1⟩:=I.base.oV b ps q;obtain⟨m2,e2⟩:=u.oV b _ e1;exact⟨m1++m2,by rw[e2,Array.append_assoc]⟩
theorem Inv.Ky(I:Inv X pins G H s)(hex:X.ex=[])(old:∀b o,s.heap.get? b=some o->b ∉ qt X.stack->∃o',B.get? b=some o'):∀b o,X.s₀.heap.get? b=some o->b ∉ X.fs->∃o',B.get? b=some o':=fun b o e hb=>by
 obtain⟨o',e1⟩:=I.base.there b o e (by rw[hex];simp);exact old b o' e1 fun z=>(zak.mp (I.rG b z)).elim (zaz (zat (yad e) I.ok.above)) hb
end
section
variable{P:zdR}{w:zdH}{K:zaa}{mg:Str->Option zdG}{base:yaf}{N:List Str}{qual:Str}{scope:Scope}{f:zdF}{cd:zdG}{A:zdQ}{outer:List Env}{s₀:zdP}{H₀:Hp}{E:XK}
theorem Kz:Passes (o3 P w) (gV (o3 P w) P w K mg base N qual scope f cd A outer s₀ H₀ E) E:=by
 intro pins G H s e s' I h;obtain⟨x,cls,a0,B,H',rfl,F⟩:=h;show yab _ _ (leaving _ _) _ _ _;refine wpAny_leaves_onW I.ok.frames rfl F.fl fun h' fl up=>?_;obtain⟨u,bS⟩:=F.move I fl.1 up;exact⟨x,cls,a0,B,H',rfl,fl,F.os.trans I.os,F.bare,I.Qa rfl u,bS,I.Ky rfl F.old,F.Jj,F.want⟩
def Qb (X:Cx)(E:XK):Prop:=∀(pins:List (zdF×Obj)) (G:St) (H:Hp) (s:zdP) (h1:yaf) (x:zdF) (cls:zdG) (vs:List zdG),Inv X pins G H s->Heap.MadeExcOf s.heap h1 x cls vs->E cls none H->X.xe (.ref x) {s with heap:=h1}
theorem RF:Qb (gV (o3 P w) P w K mg base N qual scope f cd A outer s₀ H₀ E) E:=by
 intro pins G H s h1 x cls vs I hx want;have zw:∀env∈(gV (o3 P w) P w K mg base N qual scope f cd A outer s₀ H₀ E).stack,∀a,env.frame=some a->a∈qt (gV (o3 P w) P w K mg base N qual scope f cd A outer s₀ H₀ E).stack:=fun env he a hb=>zcl.mpr ⟨env,he,hb⟩;show yab _ _ (leaving _ _) _ _ _;refine wpAny_leaves_madeW (base:=zcQ s.heap (qt (gV (o3 P w) P w K mg base N qual scope f cd A outer s₀ H₀ E).stack)) I.ok.frames rfl (fun b o q=>zc1 _ q) (PySem.W.funFrames_hide I.stack zw) hx fun h' t fl _ _ up=>?_;have W8:∀b o,s.heap.get? b=some o->b ∉ qt (gV (o3 P w) P w K mg base N qual scope f cd A outer s₀ H₀ E).stack->(zcQ s.heap (qt (gV (o3 P w) P w K mg base N qual scope f cd A outer s₀ H₀ E).stack)).get? b=some o:=fun b o e hb=>zdz _ e hb;have slot:∀b o,s.heap.get? b=some o->b∈qt (gV (o3 P w) P w K mg base N qual scope f cd A outer s₀ H₀ E).stack->∃sl,h'.get? b=some {o with slots:=sl}:=fun b o e hb=>by
  obtain⟨o',rF,hd⟩:=(I.stack.mem hb).2;rw[e] at rF;cases rF;exact up b o (hx.keeps b o e) hd
 have Jj:∀b u,H b=some u->∃o,(zcQ s.heap (qt (gV (o3 P w) P w K mg base N qual scope f cd A outer s₀ H₀ E).stack)).get? b=some o:=fun b u e=>by
  obtain⟨o,ho⟩:=(I.bS b u e).there;refine⟨o,W8 b o ho fun z=>?_⟩;rw[I.tj b z] at e;cases e
 have u:Un (qt (gV (o3 P w) P w K mg base N qual scope f cd A outer s₀ H₀ E).stack) [] H H s.heap h':=by
  refine⟨fun b o e _ hb _=>fl.1 b o (W8 b o e hb),fun b o e _ hb _=>slot b o e hb,fun _ _ _ n _=>n,fun b o e _=>?_,fun _ _ q=>q,fun _ _ _ q=>q,fun _ ps q=>⟨#[],by rw[q];simp⟩⟩;by_cases hb:b∈qt (gV (o3 P w) P w K mg base N qual scope f cd A outer s₀ H₀ E).stack
  .obtain⟨sl,e1⟩:=slot b o e hb;exact⟨_,e1⟩
  .exact⟨o,fl.1 b o (W8 b o e hb)⟩
 exact⟨x,cls,_,_,H,rfl,fl,I.os,I.bare,I.Qa rfl u,I.bS.part (fun b o q=>zc1 _ q) fl.1 Jj,I.Ky rfl fun b o e hb=>⟨o,W8 b o e hb⟩,Jj,want⟩
theorem KA:PassesOwn (model P w) (gV (o3 P w) P w K mg base N qual scope f cd A outer s₀ H₀ E).A (gV (o3 P w) P w K mg base N qual scope f cd A outer s₀ H₀ E).env (gV (o3 P w) P w K mg base N qual scope f cd A outer s₀ H₀ E).xe:=PassesOwn.leaving
end
structure N9(K:zaa)(C:zdF):Prop where
 q:zdv K C [.type "ValueError",.type "Exception",.type "BaseException",.type "object"] "ValueError.__new__"=true
theorem N9.obj{K:zaa}(c:N9 K C)(X:K.In h):∃bm N nm q bs hdct sn sub ab col dd k0 k1 k2 k3 k5 mN,h.get? C=some (excClassObj nm q C N bs bm hdct sn sub ab col dd k0 k1 k2 k3 k5 "ValueError.__new__")/\h.Ns N mN/\mN "__init__"=none/\
 OwnTail h [.type "ValueError",.type "Exception",.type "BaseException",.type "object"] bm:=by
 have q:=c.q;unfold zdv at q;split at q
 .rename_i dd cd sl ho;split at q
  .rename_i C' bm k0 k1 k2 k3 n k5 hm hs;simp only[za2,beq_iff_eq,Bool.not_eq_true'] at q;obtain⟨⟨⟨⟨⟨rfl,rfl⟩,UM⟩,ht⟩,bS⟩,W9⟩:=q;obtain⟨nm,bs,mro,ns,qn,hd,sn,sub,ab,col,del⟩:=cd;dsimp only at hm UM bS W9;subst hm UM;have hsl:sl = #[k0,k1,k2,k3,some (.builtin "ValueError.__new__"),k5]:=by
    obtain⟨l⟩:=sl;simp only at hs;rw[hs]
   subst hsl;exact⟨bm,ns,nm,qn,bs,hd,sn,sub,ab,col,dd,k0,k1,k2,k3,k5,_,X _ _ ho,.of_isNs (PySem.W.isNs_of_in X bS),PySem.W.nsMap_none_of_in X bS W9,PySem.W.tail_of_in X ht⟩
  .cases q
 .cases q
def RG (C:zdF)(E:XK)(ta:TA):TS:=fun _ G H=>ta G H fun vs H1=>vs.length<=zdN/\E (.ref C) none H1
section
variable{X:Cx}{C:zdF}{E:XK}{x:Str}{np uY pos:Pos}{e:Expr}{es:List Expr}{ta:TA}
theorem KC(fl:Qb X E)(c:N9 X.K C)(hg:Gl X x)(hm:X.mg x=some (.ref C))(qK:X.calm=true)(ha:PA X (e::es) ta)(Eb:(x==("__debug__":Str))=false:=by decide)
 (he:zdL (e::es) X.env=(false,eval e X.env)::zdL es X.env:=by rfl) (vQ:(backTo uY (zdL es X.env)).any (·.1)=false:=by rfl) :
 PS X (.Raise (some (.Call (.Name x np) (e::es) [] uY)) none pos) (RG C E ta):=by
 intro pins s G H D I h;obtain⟨bm,N,nm,q,bs,hdct,sn,sub,ab,col,dd,k0,k1,k2,k3,k5,mN,hC,hN,W9,T⟩:=c.obj I.ok.mod.PD;refine wpAny_Raise_call_subT (C:=C) (nm:=nm) (q:=q) (N:=N) (bs:=bs) (bm:=bm) (hdct:=hdct) (sn:=sn) (sub:=sub) (ab:=ab) (col:=col) (dd:=dd) (k0:=k0) (k1:=k1) (k2:=k2) (k3:=k3) (k5:=k5)
  PySem.F.excBase_ValueError (mN:=mN) (T.hasType PySem.F.excBase_ValueError.hasBase) (I.ok.hd qK) (by rw[he];show (false ||(backTo uY (zdL es X.env)).any (·.1))=false;rw[vQ];rfl) W9 (mZ I hg hm ⟨rfl,?_⟩ Eb)
 have YE:=ha uY pins s G H _ I h;rw[he] at YE |-;refine ybB (yaw YE (fun us s1 ⟨vs,H1,I1,r,hl,q⟩=>⟨rfl,by rw[<- r.length];exact hl,I1.bk _ _ hC,hN.keeps I1.bk,T.keeps I1.bk,fun h' y hm=>?_⟩) fun _ _ y=>y);exact fl pins G H1 s1 h' y (.ref C) us I1 hm q
end
noncomputable abbrev Cx.gx (X:Cx) (x:zdF):Cx:={X with A:=X.A.mark (some (.ref x)),calm:=false,xe:=fun _ _=>False}
theorem Cx.Ok.gx{X:Cx}(ok:X.Ok)(x:zdF):(X.gx x).Ok:=
 ⟨ok.mod,ok.kind,ok.glob,ok.blt,ok.above,ok.inj,ok.has,ok.Ho,(fun z=>ybX z zam),ok.frames,ok.Nc,ok.Te,ok.bs,ok.BL,ok.Ah,ok.BM,ok.mz,ok.Fu⟩
theorem Cx.Ok.jB{X:Cx}(ok:(X.gx x).Ok)(hd:X.calm=true->X.A.handled=none):X.Ok:=
 ⟨ok.mod,ok.kind,ok.glob,ok.blt,ok.above,ok.inj,ok.has,ok.Ho,hd,ok.frames,ok.Nc,ok.Te,ok.bs,ok.BL,ok.Ah,ok.BM,ok.mz,ok.Fu⟩
section
variable{X:Cx}{pins:List (zdF×Obj)}{G:St}{H:Hp}{s:zdP}{x:zdF}
theorem Inv.gx(I:Inv X pins G H s)(x:zdF):Inv (X.gx x) pins G H s:=⟨I.ok.gx x,I.os,I.bare,I.base,I.loc,I.cell,I.free,I.iS,I.pin,I.bS,I.len⟩
theorem Inv.jB(I:Inv (X.gx x) pins G H s)(hd:X.calm=true->X.A.handled=none):Inv X pins G H s:=⟨I.ok.jB hd,I.os,I.bare,I.base,I.loc,I.cell,I.free,I.iS,I.pin,I.bS,I.len⟩
theorem SP.jB(h:SP (X.gx x) pins D f s')(hd:X.calm=true->X.A.handled=none):SP X pins D f s':=by
 cases f with
 |next=>obtain⟨G',H',I,q⟩:=h;exact⟨G',H',I.jB hd,q⟩
 |brk=>obtain⟨G',H',I,q⟩:=h;exact⟨G',H',I.jB hd,q⟩
 |cont=>obtain⟨G',H',I,q⟩:=h;exact⟨G',H',I.jB hd,q⟩
 |ret u=>obtain⟨v,G',H',I,r,q⟩:=h;exact⟨v,G',H',I.jB hd,r,q⟩
theorem Inv.told(I:Inv X pins G H s)(n:H x=none)(h0:X.s₀.heap.objs.size<=x)(hL:x≠X.env.locals)(hc:∀y c,X.env.cells.lookup y=some c->c≠x)(hp:∀p∈X.pn++pins,p.1≠x)(ok:bZ X.prog X.w (upd H x o) s.heap x o):Inv X pins G (upd H x o) s:=by
 have nx:∀b u,X.s₀.heap.get? b=some u->b≠x:=fun b u e=>zaz (zat (yad e) h0);refine⟨I.ok,I.os,I.bare,⟨I.base.keep,I.base.slot,fun b u e n' hx=>?_,I.base.there,fun b xs e=>?_,fun b ob u e=>?_,fun b ps e=>?_⟩,I.loc,I.cell,?_,fun y c e=>?_,fun p NZ=>?_,fun b u e=>?_,I.len⟩
 .rw[au (nx b u e)];exact I.base.free b u e n' hx
 .have:=I.base.o7 b xs e;rw[au (ag this n)];exact this
 .have:=I.base.oU b ob u e;rw[au (ag this n)];exact this
 .obtain⟨m,e1⟩:=I.base.oV b ps e;exact⟨m,by rw[au (ag e1 n)];exact e1⟩
 .rw[au (Ne.symm hL)];exact I.free
 .rw[au (hc y c e)];exact I.iS y c e
 .obtain⟨a,b,c⟩:=I.pin p NZ;exact⟨a,by rw[au (hp p NZ)];exact b,c⟩
 .by_cases hb:b=x
  .subst hb;rw[ah] at e;cases e;exact ok
  .rw[au hb] at e;exact(I.bS b u e).sY (fun _ _ _ q=>q) (fun c q=>by rw[au (ag q n)];exact q) fun c xs q=>by rw[au (ag q n)];exact q
end
noncomputable abbrev Cx.pinned (X:Cx) (pins:List (zdF×Obj)) (xe:zdG->zdP->Prop):Cx:={X with pn:=X.pn++pins,xe:=xe}
theorem Cx.Ok.pinned{X:Cx}(ok:X.Ok)(pins:List (zdF×Obj))(xe:zdG->zdP->Prop):(X.pinned pins xe).Ok:=
 ⟨ok.mod,ok.kind,ok.glob,ok.blt,ok.above,ok.inj,ok.has,ok.Ho,ok.hd,ok.frames,ok.Nc,ok.Te,ok.bs,ok.BL,ok.Ah,ok.BM,ok.mz,ok.Fu⟩
theorem Cx.Ok.mC{X:Cx}{xe:zdG->zdP->Prop}(ok:(X.pinned pins xe).Ok):X.Ok:=
 ⟨ok.mod,ok.kind,ok.glob,ok.blt,ok.above,ok.inj,ok.has,ok.Ho,ok.hd,ok.frames,ok.Nc,ok.Te,ok.bs,ok.BL,ok.Ah,ok.BM,ok.mz,ok.Fu⟩
section
variable{X:Cx}{pins vM:List (zdF×Obj)}{G:St}{H:Hp}{s:zdP}{xe:zdG->zdP->Prop}
theorem Inv.YF(I:Inv X pins G H s)(xe:zdG->zdP->Prop):Inv (X.pinned pins xe) [] G H s:=⟨I.ok.pinned pins xe,I.os,I.bare,I.base,I.loc,I.cell,I.free,I.iS,fun p hp=>I.pin p (by rw[zaM] at hp;exact hp),I.bS,I.len⟩
theorem Inv.RH(I:Inv (X.pinned pins xe) vM G H s):Inv X pins G H s:=⟨I.ok.mC,I.os,I.bare,I.base,I.loc,I.cell,I.free,I.iS,fun p hp=>I.pin p (zbb _ hp),I.bS,I.len⟩
end
open Builtin Builtin.Getset_descriptor Builtin.ObjectAttr PySem.Calls
structure Nj(K:zaa)(C:zdF):Prop where
 cl:zbB K C=true
 ga:zaG K (.ref C) "__getattribute__"=some (some (.builtin "BaseException.__getattribute__"))
 gh:zaG K (.ref C) "__getattr__"=some none
 ca:zaG K (.ref C) "__class__"=some (some (.builtin "object.__class__"))
 ob:zc5 K C (.type "object")=some true
 be:zc5 K C (.type "BaseException")=some true
def oH (x C:zdF)(h:yaf):Prop:=∃o,h.get? x=some o/\o.cls=.ref C
theorem oH.type(p:oH x C h):PySem.W.Looks M h (typeOf (.ref x)) (.ref C):=by
 obtain⟨o,h1,h2⟩:=p;exact h2▸(zdg h1).andThen .now
section
variable{prog:zdR}{w:zdH}{A:zdQ}{E:zdG->zdP->Prop}{s:zdP}{K:zaa}{x C:zdF}
theorem KD(c:Nj K C)(X:K.In s.heap)(p:oH x C s.heap)(fin:R (.ok (.ret (.ref C))) s) :
 codeAny (model prog w) A (.call (.builtin "getset_descriptor.__get__") ⟨[.builtin "object.__class__",.ref x,tp],[]⟩) R s:=by
 obtain⟨h1,g1,d1,t1,o1⟩:=s;have LA:=p.type (M:=model prog w);have LB:=zdA (M:=model prog w) X c.ob;refine yaZ PySem.W.KF.slot_gs.plain PySem.W.KF.entry_gs (PySem.W.KF.slot_gs.check _ _ _ _ _ _ _ _ PySem.W.KF.type_class (PySem.W.KF.args_gs _ _ _) ?go)
 case go=>
  unfold Builtin.«getset_descriptor.__get__» descrGet;rw[PySem.W.dga_obj];refine zdI (zdJ ?go2)
  case go2=>
   unfold descrGetter descrCheckInstance descrNameAndClass isInstance;simp only[PySem.W.KF.owner_class]
   repeat lk
   refine⟨Code.quiet_builtin _ (by decide +kernel),yat PySem.W.KF.entry_class ?go3⟩
   case go3=>
    unfold Builtin.«object.__class__» shownTypeOf
    repeat lk
    exact fin
theorem Eh(c:Nj K C)(X:K.In s.heap)(p:oH x C s.heap)(fin:Q (.done (.ret (.ref C))) s) :
 yab (model prog w) A (Builtin.«object.__getattribute__» ⟨[.ref x,.str "__class__" tk],[]⟩) Q E s:=by
 obtain⟨h1,g1,d1,t1,o1⟩:=s;have LA:=p.type (M:=model prog w);have LB:=zcd (M:=model prog w) X c.ca;have f1:(⟨h1,g1,d1,t1,o1⟩:zdP).TypeIs (.builtin "object.__class__") "getset_descriptor":=F.typeOf_object_class;have f2:=F.typeOf_object_class;have f3:=F.slot_gs_get.lookup;have f4:=F.slot_gs_set.lookup
 repeat (any_goals (first |assumption |with_reducible refine LA.at ?_ |with_reducible refine LB.at ?_ |wp_step))
 refine KD c X p ?_
 repeat (any_goals (first |assumption |wp_step))
theorem Ei(c:Nj K C)(X:K.In s.heap)(p:oH x C s.heap)(fin:Q () s) :
 yab M A (checkBuiltinCall "BaseException.__getattribute__" ⟨[.ref x,v],[]⟩) Q E s:=by
 obtain⟨h1,g1,d1,t1,o1⟩:=s;have k1:builtinKind "BaseException.__getattribute__"=some .slot:=by decide +kernel
 have k2:splitId "BaseException.__getattribute__"=some ("BaseException", "__getattribute__"):=by decide +kernel
 have k3:=F.args_bexc_ga (.ref x) v;have LA:=p.type (M:=M);have LB:=zdA (M:=M) X c.be;simp only[checkBuiltinCall,k1,k2];refine zdI ?_;unfold isInstance
 repeat (first |with_reducible refine LA.at ?_ |with_reducible refine LB.at ?_ |wp_step)
 exact fin
theorem HS(c:Nj K C)(X:K.In s.heap)(p:oH x C s.heap)(fin:R (.ok (.ret (.ref C))) s) :
 codeAny (model prog w) A (.call (.builtin "BaseException.__getattribute__") ⟨[.ref x,.str "__class__" tk],[]⟩) R s:=
 yaZ F.excAttr_ValueError.ga.plain F.entry_bexc_ga (Ei c X p (Eh c X p fin))
theorem Oa(c:Nj K C)(X:K.In s.heap)(p:oH x C s.heap)(fin:Q (.ref C) s) :
 yab (model prog w) A (getAttrBy (.ref x) (.str "__class__" tk) false) Q E s:=by
 obtain⟨h1,g1,d1,t1,o1⟩:=s;have LA:=p.type (M:=model prog w);have LB:=zcd (M:=model prog w) X c.ga;have LC:=zcd (M:=model prog w) X c.gh;have b1:=F.excAttr_ValueError.ga.bind (.ref x);have b2:(false&&onTheHeap (yby "BaseException.__getattribute__"))=false:=rfl;have b3:(yby "BaseException.__getattribute__"==yby "object.__getattribute__")=false:=by decide +kernel
 have b4:(onTheHeap (yac C)&&yby "BaseException.__getattribute__"==yby "object.__getattribute__")=false:=by rw[b3];exact zcU _
 repeat (any_goals (first |assumption |with_reducible refine LA.at ?_ |with_reducible refine LB.at ?_ |with_reducible refine LC.at ?_ |wp_step))
 refine HS c X p ?_
 repeat (any_goals (first |assumption |wp_step))
theorem HU(c:Nj K C)(X:K.In s.heap)(p:oH x C s.heap)(fin:Q (some (.ref C)) {s with toks:=s.toks+1}) :
 yab (model prog w) A (getAttr? (.ref x) "__class__") Q E s:=by
 obtain⟨h1,g1,d1,t1,o1⟩:=s;unfold getAttr? getAttrBy?;have X':K.In (⟨h1,g1,d1,t1+1,o1⟩:zdP).heap:=X;have p':oH x C (⟨h1,g1,d1,t1+1,o1⟩:zdP).heap:=p
 repeat (any_goals (first |assumption |with_reducible apply Oa c X' p' |wp_step))
end
theorem B6{K:zaa}(c:Nj K C):PySem.W.KitX K (.ref x) (.ref C) (oH x C) where
 ty:=fun _ _ _ p=>p.type
 it:=fun _ _ X _=>by
  obtain⟨cd,hc,_⟩:=zdf c.cl;unfold PySem.W.clsIn at hc;split at hc
  .rename_i ho;intro A' Q' E' s' k q;unfold isType loadHead;exact zdI (wpAny_loadPart (k _ _ (X _ _ ho)) (zdJ q))
  .cases hc
 ne:=fun h tp dd bc n sl X Ti=>by
  obtain⟨cd,hc,_⟩:=zdf c.cl;refine zcA.mpr fun q=>?_;have e:C=tp:=Value.ref.inj (beq_iff_eq.mp q);subst e;unfold PySem.W.clsIn at hc;split at hc
  .rename_i ho;have z:=(X _ _ ho).symm.trans Ti;cases z
  .cases hc
 ca:=fun X p k=>HU c X p k
noncomputable def tM (x C:zdF):HO:=.ext (oH x C)
theorem Ob(p:oH x C h):bZ P w H h x (tM x C):=by
 refine⟨p,?_,fun h1 h2 q k=>?_⟩
 .obtain⟨o,h1,_⟩:=p;exact⟨o,h1⟩
 .obtain⟨o,e1,e2⟩:=q;exact⟨o,k o e1,e2⟩
theorem eS{K:zaa}(hK:X.K=K):kK X (.builtin "isinstance") (fun xs H Q=>∃a C D b,xs=[.ref a,.ref D]/\H a=some (tM a C)/\Nj K C/\zaA K (.ref C) (.ref D)=some b/\Q (.bl b) H):=by
 intro pins s G H xs us Q I r h;subst hK;obtain⟨a,C,D,b,rfl,hE,hc,e,q⟩:=h;cases r with
 |cons r1 r2=>
  cases r2 with
  |cons r3 r4=>
   cases r4;cases (show _=yac a from r1);cases (show _=yac D from r3);have ok:bZ X.prog X.w H s.heap a (tM a C):=I.bS a _ hE;exact PySem.W.kia_one (B6 hc) I.zg ok.1 e (fun z=>nomatch z) fun tk=>⟨.bl b,H,I.tok tk,rfl,q⟩
theorem HV{K:zaa}(hK:X.K=K):kK X (.builtin "isinstance") (fun xs H Q=>∃a C T b,xs=[.ref a,.ty T]/\H a=some (tM a C)/\Nj K C/\zaA K (.ref C) (.type T)=some b/\Q (.bl b) H):=by
 intro pins s G H xs us Q I r h;subst hK;obtain⟨a,C,T,b,rfl,hE,hc,e,q⟩:=h;cases r with
 |cons r1 r2=>
  cases r2 with
  |cons r3 r4=>
   cases r4;cases (show _=yac a from r1);cases (show _=ya8 T from r3);have ok:bZ X.prog X.w H s.heap a (tM a C):=I.bS a _ hE;exact PySem.W.kia_one (B6 hc) I.zg ok.1 e (fun z=>nomatch z) fun tk=>⟨.bl b,H,I.tok tk,rfl,q⟩
noncomputable def Ends.drop (D:Ends)(i:Nat):Ends:={nx:=fun G H=>D.nx (G.set i none) H,rt:=D.rt,bk:=fun G H=>D.bk (G.set i none) H,ct:=fun G H=>D.ct (G.set i none) H}
section
variable{X:Cx}{pins:List (zdF×Obj)}{G:St}{H:Hp}{s:zdP}{x:zdF}
theorem Inv.UN(I:Inv X pins G H s)(n:H x=none)(h0:X.s₀.heap.get? x=none)(hL:x≠X.env.locals)(hc:∀y c,X.env.cells.lookup y=some c->c≠x)(hp:∀p∈X.pn++pins,p.1≠x)(ok:bZ X.prog X.w (upd H x o) s.heap x o):Inv X pins G (upd H x o) s:=by
 have away:∀b u,X.s₀.heap.get? b=some u->b≠x:=fun b u e z=>by rw[z,h0] at e;cases e
 refine⟨I.ok,I.os,I.bare,⟨I.base.keep,I.base.slot,fun b u e n' hx=>?_,I.base.there,fun b xs e=>?_,fun b ob u e=>?_,fun b ps e=>?_⟩,I.loc,I.cell,?_,fun y c e=>?_,fun p NZ=>?_,fun b u e=>?_,I.len⟩
 .rw[au (away b u e)];exact I.base.free b u e n' hx
 .have z:=I.base.o7 b xs e;rw[au (ag z n)];exact z
 .have z:=I.base.oU b ob u e;rw[au (ag z n)];exact z
 .obtain⟨m,e1⟩:=I.base.oV b ps e;exact⟨m,by rw[au (ag e1 n)];exact e1⟩
 .rw[au (Ne.symm hL)];exact I.free
 .rw[au (hc y c e)];exact I.iS y c e
 .obtain⟨a,b,c⟩:=I.pin p NZ;exact⟨a,by rw[au (hp p NZ)];exact b,c⟩
 .by_cases hb:b=x
  .subst hb;rw[ah] at e;cases e;exact ok
  .rw[au hb] at e;exact(I.bS b u e).sY (fun _ _ _ q=>q) (fun c q=>by rw[au (ag q n)];exact q) fun c xs q=>by rw[au (ag q n)];exact q
theorem Inv.Oc(I:Inv X pins G H s)(hN:X.N.Nodup)(hi:X.N[i]?=some n)(hk:X.env.scope.names.lookup n=some .local)
 (h:∀s',Inv X pins (G.set i none) H s'->Q () s'):yab M A (do bindName X.env n .none;unbindBehindTheSuite X.env n pos) Q E s:=by
 obtain⟨m,hn,hl⟩:=id I.loc;have YG:(X.env.scope.kind==.class ||(X.env.scope.kind==.module&&X.env.locals != X.env.globals))=false:=by rw[I.ok.kind];rfl
 have qu:i<G.length:=by rw[I.len];exact(zap.mp hi).1
 have Jk:=I.Jk;obtain⟨oL,_,_,W4,_⟩:=id hn;refine wpAny_nameGoes_keeps hk hn YG fun h' v Ye hs=>h _ ?_;have under:∀b o,X.s₀.heap.get? b=some o->h'.get? b=s.heap.get? b:=fun b o e=>hs.2 b (zaz (zat (yad e) I.ok.above));refine⟨I.ok,I.os,I.bare,⟨fun b o e z hb hx=>(under b o e).trans (I.base.keep b o e z hb hx),fun b o e z hb hx=>?_,I.base.free,fun b o e hx=>?_,I.base.o7,I.base.oU,I.base.oV⟩,⟨_,Ye,fun j y v' e1 e2 e3=>?_⟩,fun y c e=>?_,I.free,I.iS,fun p hp=>?_,fun b ob e=>?_,by simpa using I.len⟩
 .obtain⟨sl,e1⟩:=I.base.slot b o e z hb hx;exact⟨sl,(under b o e).trans e1⟩
 .obtain⟨o',e1⟩:=I.base.there b o e hx;exact⟨o',(under b o e).trans e1⟩
 .by_cases hj:j=i
  .subst hj;rw[zb5 qu] at e2;cases e2
  .rw[zb9 (Ne.symm hj)] at e2;obtain⟨u',r',q⟩:=hl j y v' e1 e2 e3;refine⟨u',r',?_⟩;rcases q with ⟨k,e⟩ |⟨k,c,e,z⟩
   .have ny:y≠n:=fun z=>hj (w4 hN e1 (z▸hi));exact .inl ⟨k,by simp[ny,e]⟩
   .exact .inr ⟨k,c,e,z.sameBut hs (Jk y c e)⟩
 .obtain⟨w',z⟩:=I.cell y c e;exact⟨w',z.sameBut hs (Jk y c e)⟩
 .obtain⟨e,z,ne,nf,d⟩:=I.pin p hp;exact⟨(hs.2 p.1 ne).trans e,z,ne,nf,d⟩
 .refine(I.bS b ob e).sY (fun c w' hc q=>(hs.2 c ?_).trans q) (fun _ q=>q) fun _ _ q=>q
  rintro rfl
  rcases hc with rfl |hc
  .rw[I.free] at e;cases e
  .rw[I.free] at hc;cases hc
end
def KG (K:zaa)(CH:zdF)(i:Nat)(sp:Sp)(ta:TA)(ts:TS):TS:=fun D G H=>ta G H fun vs H1=>sp vs H1 (fun _ H2=>D.nx G H2) fun cls _ H2=>zbT K cls (.ref CH)=some true/\
 ∃C,cls=.ref C/\∀y,H2 y=none->ts (D.drop i) (G.set i (some (.ref y))) (upd H2 y (tM y C))
section
variable{X:Cx}{k i:Nat}{f CH:zdF}{fd:zdO}{ps:List Str}{sp:Sp}{fx cx n:Str}{p pos pos' np UO Rk:Pos}{e:Expr}{es:List Expr}{ta:TA}{ts:TS}{b0:Stmt}{Qc:List Stmt}
theorem KI(hN:X.N.Nodup)(hi:X.N[i]?=some n)(HW:X.env.scope.names.lookup n=some .local)(hex:X.ex=[])(F:bt X.prog X.w X.K X.mg X.base (o3 X.prog X.w) k f fd ps sp)(hr:gw k X.A)(hg:Gl X fx)(hm:X.mg fx=some (.ref f))(hk:za6 X.K (.ref f)=true)(hb:Binds X.K fd ps [])
 (ha:∀pn xe,PA {X with pn:=pn,xe:=xe} (e::es) ta) (NO:X.stack=X.env::X.outer) (hfr:X.env.frame=some X.env.locals) (hgC:Gl X cx) (hmC:X.mg cx=some (.ref CH)) (hs:∀x,BO (X.gx x) (b0::Qc) ts)
 (Eb:(fx==("__debug__":Str))=false:=by decide) (hdc:(cx==("__debug__":Str))=false:=by decide) (he:zdL (e::es) X.env=(false,eval e X.env)::zdL es X.env:=by rfl) (vQ:(backTo pos (zdL es X.env)).any (·.1)=false:=by rfl)
 (YA:swapsWith (.Call (.Name fx p) (e::es) [] pos) none pos'.line X.env=pure false:=by rfl) :
 PS X (.Try [.Expr (.Call (.Name fx p) (e::es) [] pos) pos'] [.ExceptHandler (some (.Name cx np)) (some n) (b0::Qc) UO] [] [] Rk) (KG X.K CH i sp ta ts):=by
 intro pins s G H D I h;have hd:X.calm=true->X.A.handled=none:=I.ok.hd;have call:PE (X.pinned pins fun x s'=>∃H1 s1,Inv X pins G H1 s1/\o3 X.prog X.w X.stack H1 s1 (fun cls _ H2=>zbT X.K cls (.ref CH)=some true/\∃C,cls=.ref C/\∀y,H2 y=none->ts (D.drop i) (G.set i (some (.ref y))) (upd H2 y (tM y C))) x s') (.Call (.Name fx p) (e::es) [] pos)
  (fun G' H' Q=>G'=G/\ta G H' fun vs H1=>sp vs H1 Q fun cls _ H2=>zbT X.K cls (.ref CH)=some true/\∃C,cls=.ref C/\∀y,H2 y=none->ts (D.drop i) (G.set i (some (.ref y))) (upd H2 y (tM y C))):=by
  intro vM s' G' H' Q I' h';obtain⟨rfl,h'⟩:=h';refine yas (mZ I' hg hm ?_ Eb);refine zb3 (h₀:=X.base) I'.ok.mod.PD hk (fC (ha _ _ pos vM s' G' H' _ I' h') fun us s1 ⟨vs,H1,I1,r,q⟩=>⟨I1.zg,?_⟩) he vQ;have hl:us.length=ps.length:=by rw[<- r.length];exact F.len _ _ _ _ q
  have bnd:=hb s1 us I1.zg (by rw[zaM];exact hl);rw[zaM] at bnd;refine wpAny_call (yaT (F.run X.A X.stack s1 H1 ⟨us,[]⟩ us vs Q _ hr I1.RH.JR bnd r q) fun r s2 hq=>?_);cases r with
  |error x=>exact⟨H1,s1,I1.RH,hq⟩
  |ok fl=>
   cases fl with
   |ret u=>exact I1.after hq
   |next=>exact False.elim hq
   |brk=>exact False.elim hq
   |cont=>exact False.elim hq
 have body:=aA (m8 (pos:=pos') call YA) [] s G H {nx:=D.nx,rt:=fun _ _=>False} (I.YF _) ⟨rfl,h⟩;refine wpAny_Try_except (yaw body (fun fl s1 hf=>?_) fun x s1 hx=>?_)
 .cases fl with
  |next=>
   obtain⟨G',H',I',q⟩:=hf;exact ybj ⟨G',H',I'.RH,q⟩
  |ret u=>obtain⟨_,_,_,_,_,q⟩:=hf;exact False.elim q
  |brk=>obtain⟨_,_,_,q⟩:=hf;exact False.elim q
  |cont=>obtain⟨_,_,_,q⟩:=hf;exact False.elim q
 .obtain⟨H1,s0,I0,y,cls,a0,B,H',rfl,Y⟩:=hx;obtain⟨YH,C,rfl,hq⟩:=Y.want;have fl:=Y.fl;have Nc:X.A.frames=some (X.env::X.outer):=by rw[<- NO];exact I.ok.frames
  rw[NO] at fl;refine wpAny_looks_onW Nc hfr fl fun h4 UP up4=>?_;refine wpAny_landsW UP fun h5 KJ up5=>?_;have up:=up4.trans up5;have state:∀{h6:yaf},B.StaysIn h6->s1.heap.UpToSlots h6->Inv X pins G H' {s1 with heap:=h6}:=fun {h6} st YI=>by
   obtain⟨u,bS⟩:=Y.move I0 st YI;exact I0.PF (s':={s1 with heap:=h6}) Y.os u bS Y.bare fun b z=>ybX z (by simp)
  have I5:=state KJ.1 up;refine wpAny_handleBy_cons (codeAny_handlers_test (mZ (X:=X.gx y) (I5.gx y) hgC hmC ?_ hdc)) (by intro q;cases q);obtain⟨ob,hob,YJ⟩:=KJ.there;have LT:PySem.W.Looks (model X.prog X.w) h5 (typeOf (.ref y)) (.ref C):=by
   rw[<- YJ];exact(zdg hob).andThen .now
  refine(PySem.W.exm_one (I5.zg) LT YH).here ?_;refine codeAny_handlers_suite_as ?_;refine lands_againW KJ fun h6 KL YI=>?_;have I6:=state KL.1 (up.trans YI);obtain⟨o6,YK,YL⟩:=KL.there;have noB:B.get? y=none:=fl.2.1;have nH:H' y=none:=by
   cases e:H' y with
   |none=>rfl
   |some u=>obtain⟨o,ho⟩:=Y.Jj y u e;rw[noB] at ho;cases ho
  have YM:∃vs,o6.data=.fields vs:=by
   obtain⟨_,_,_,oe,vs,_,_,_,he6,_,UQ,_⟩:=KL;rw[YK] at he6;cases he6;exact⟨vs,UQ⟩
  have UR:∀b∈qt X.stack,b≠y:=fun b hb z=>by
   obtain⟨_,o',rF,KN⟩:=(I6.stack.mem hb)
   rw[z,YK] at rF;cases rF;obtain⟨vs,hv⟩:=YM;exact KN vs hv
  have out:∀b o,s0.heap.get? b=some o->b≠y:=fun b o e z=>by
   by_cases hb:b∈qt X.stack
   .exact UR b hb z
   .obtain⟨o',rF⟩:=Y.old b o e hb;rw[z,noB] at rF;cases rF
  have hL:y≠X.env.locals:=by
   obtain⟨m0,⟨oL,_,_,W4,_⟩,_⟩:=I0.loc;exact fun z=>out _ _ W4 z.symm
  have hC:∀z c,X.env.cells.lookup z=some c->c≠y:=fun z c e=>by
   obtain⟨_,o',rF,_⟩:=I0.cell z c e;exact out c o' rF
  have hP:∀q∈X.pn++pins,q.1≠y:=fun q Nh=>out q.1 _ (I0.pin q Nh).1;have h0:X.s₀.heap.get? y=none:=by
   cases e:X.s₀.heap.get? y with
   |none=>rfl
   |some o=>
    obtain⟨o',rF⟩:=I0.base.there y o e (by rw[hex];simp);exact ybX rfl (out y o' rF)
  have I7:=(I6.UN (o:=tM y C) nH h0 hL hC hP (Ob ⟨o6,YK,YL⟩)).gx y;refine w5 (X:=X.gx y) I7 hN hi (.inl HW) (show RelV (.ref y) (.ref y) from rfl) (fun s8 I8=>?_) (.inr HW);refine yaw (hs y pins s8 (G.set i (some (.ref y))) (upd H' y (tM y C)) (D.drop i) I8 (hq y nH)) (fun fl s9 q9=>?_) fun _ _ z=>False.elim z;have Xa:=q9.jB hd;cases fl with
  |next=>obtain⟨G',H9,I9,q⟩:=Xa;exact I9.Oc hN hi HW fun s' I'=>⟨_,_,I',q⟩
  |brk=>obtain⟨G',H9,I9,q⟩:=Xa;exact I9.Oc hN hi HW fun s' I'=>⟨_,_,I',q⟩
  |cont=>obtain⟨G',H9,I9,q⟩:=Xa;exact I9.Oc hN hi HW fun s' I'=>⟨_,_,I',q⟩
  |ret u=>obtain⟨v,G',H9,I9,r,q⟩:=Xa;exact I9.Oc hN hi HW fun s' I'=>⟨v,_,_,I',r,q⟩
end
section
variable{X:Cx}
theorem KO(hc:X.calm=true):kK X (.builtin "all") (fun xs H Q=>∃(p:zdF) (bs:List Bool),xs=[.ref p]/\iR X.K H p (bs.map V.bl)/\Q (.bl (bs.all id)) H):=by
 intro pins s G H xs us Q I r h;obtain⟨p,bs,rfl,hl,q⟩:=h;obtain⟨u,rfl,ru⟩:=vals1 r;cases (show u=yac p from ru);obtain⟨bc,rv,pl,_⟩:=I.list hl;have qu:p<s.heap.objs.size:=by
  obtain⟨o,_,e,_⟩:=pl;exact yad e
 refine call_all_walk (yaF pl.isList ?_);have ne:p≠s.heap.objs.size:=zaz qu;refine⟨s.heap.objs.size,_,_,_,_,_,fun i=>bs.getD i true,rfl,Walks.list (show X.A.in1.handled=none from I.ok.hd hc) _ p ne bc.toArray,⟨⟨_,yae _ rfl,rfl,rfl⟩,pl.isList.push _⟩,fun i v s' Q' E' hv hq=>?_,fun h' tk hk=>?_⟩
 .have Nf:bc[i]?=some v:=by simpa using hv
  have hb:∃b,bs[i]?=some b:=by
   have:i<bs.length:=by
    have l1:=rv.length;rw[zac] at l1;have:=(zap.mp Nf).1;lia
   exact⟨bs[i],zad this⟩
  obtain⟨b,hb⟩:=hb;obtain⟨u,hu,ru⟩:=rv.get (i:=i) (x:=.bl b) (by rw[zar,hb];rfl);rw[Nf] at hu;cases hu;cases (show v=yaI b from ru);have e:bs.getD i true=b:=by rw[zal,hb];rfl
  have Nh:Q' (bs.getD i true) s':=hq;rw[e] at Nh;exact zdJ Nh
 .refine⟨.bl (bs.all id),H,I.kept (h':=h') (t':=tk) (fun b o e=>hk b o ?_ (yaa _ e)),?_,q⟩
  .have:b≠s.heap.objs.size:=zaz (yad e);simpa using this
  .have ln:bc.toArray.size=bs.length:=by rw[zay,<- rv.length,zac]
   show yaI ((zaj bc.toArray.size).all fun i=>bs.getD i true)=yaI (bs.all id);rw[ln]
   congr 1
   have key:∀l:List Bool,((zaj l.length).all fun i=>l.getD i true)=l.all id:=fun l=>by
    rw[zch,zbE,zbE]
    constructor
    .intro h x hx;obtain⟨i,hi,rfl⟩:=List.getElem_of_mem hx;have:=h i (zav.mpr hi);rw[zal,zad hi] at this;exact this
    .intro h i hi;have hi:=zav.mp hi;rw[zal,zad hi];exact h _ (zaw hi)
   exact key bs
end
abbrev W:=PM.W
noncomputable def S (w:W):Str:=⟨w.toArray⟩
theorem xj:S a=S b↔a=b:=⟨fun h=>by have:=ybW (fun z:Str=>z.cps.toList) h;simpa[S] using this,fun h=>by rw[h]⟩
def wL:PM.Tr->Dp
 |.num n=>.tup [.str "number",.int n]
 |.box x=>.tup [.str "box",.str (S x)]
 |.bin o l r=>.tup [.str (S o),wL l,wL r]
def bf (p:zdF)(H H':Hp):Prop:=∀b o,b≠p->H b=some o->H' b=some o
theorem bf.refl(p:zdF)(H:Hp):bf p H H:=fun _ _ _ h=>h
theorem bf.trans(a:bf p H H1)(b:bf p H1 H2):bf p H H2:=fun c o n h=>b c o n (a c o n h)
theorem bf.of(s:ar H H'):bf p H H':=fun b o _ h=>s b o h
theorem bf.put(a:bf p H H1)(o:HO):bf p H (upd H1 p o):=fun b u n h=>by rw[au n];exact a b u n h
theorem bf.same(a:bf p H H')(h:H p=none):ar H H':=fun b o e=>a b o (ag e h) e
theorem KP:Passes (o3 P w) X E0:=fun _ _ _ _ _ _ _ h=>by
 obtain⟨_,_,_,_,_,_,F⟩:=h;exact F.want.elim
section
variable{P:zdR}{w:zdH}{K:zaa}{mg:Str->Option zdG}{base:yaf}
theorem DE.okX{st:Stmt}(F:DE K x qual st f fd)(S:a9 N ps (aG st))(len:∀vs H Q E,sp vs H Q E->vs.length=ps.length)
 (pj:∀(eY:zdG) (A:zdQ) (outer:List Env) (s:zdP) (H:Hp) (vs:List V) (Q:VK) (E:XK),gw k (A.deeper (envOfC qual (aG st) s.heap.objs.size f eY))->sp vs H Q E->
  ∃t G,BO (gV (o3 P w) P w K mg base N qual (aG st) f eY A outer s H E) (eE st) t/\L2.start N vs=G/\t {nx:=fun _ H'=>Q .eA H',rt:=Q} G H):bt P w K mg base (o3 P w) (k+1) f fd ps sp:=by
 obtain⟨oc,od,kV,doc,pm,an,eY,ct,Ec,rfl,lk,BP⟩:=F.ex;refine JW lk BP S len fun A outer s H vs Q E hr Jl=>?_;obtain⟨t,G,h,e,q⟩:=pj eY A outer s H vs Q E hr Jl;exact⟨t,h,by rw[e];exact q⟩
end
mutual
noncomputable def Dp.py:Dp->PyData
 |.eA=>.none
 |.bl b=>.bool b
 |.int i=>.int i
 |.str x=>.str x
 |.tup l=>.tuple (Dp.B7 l)
 |.lst l=>.list (Dp.B7 l)
noncomputable def Dp.B7:List Dp->List PyData
 |[]=>[]
 |d::r=>d.py::Dp.B7 r
end
section
variable{X:Cx}{pins:List (zdF×Obj)}{G:St}{H:Hp}{s:zdP}
mutual
theorem pA(I:Inv X pins G H s):∀{d:Dp}{v:V}{u:zdG},Rep X.K H d v->RelV v u->∃as,Reads s.heap u d.py as
 |.eA,v,u,h,r=>by rw[Rep.kg] at h;subst h;cases (show u=yaA from r);exact⟨_,.none⟩
 |.bl b,v,u,h,r=>by rw[Rep.rM] at h;subst h;cases (show u=yaI b from r);exact⟨_,.bool b⟩
 |.int i,v,u,h,r=>by rw[Rep.bD] at h;subst h;obtain⟨t,rfl⟩:=(show ∃t,u=ybk i t from r);exact⟨_,.int i t⟩
 |.str x,v,u,h,r=>by rw[Rep.bN] at h;subst h;obtain⟨t,rfl⟩:=(show ∃t,u=ybl x t from r);exact⟨_,.str x t⟩
 |.tup l,v,u,h,r=>by
  rw[Rep.aT] at h;obtain⟨p,xs,rfl,q,w⟩:=h;cases (show u=yac p from r);obtain⟨bc,v1,t1,_⟩:=I.tuple q;obtain⟨as,ra⟩:=vg I w v1;obtain⟨o,h1,h2,n,h3⟩:=t1;unfold Dp.py;exact⟨as,.tuple h1 h2 h3 (by simpa using ra)⟩
 |.lst l,v,u,h,r=>by
  rw[Rep.bG] at h;obtain⟨p,xs,rfl,q,w⟩:=h;cases (show u=yac p from r);obtain⟨bc,v1,t1,_⟩:=I.list q;obtain⟨as,ra⟩:=vg I w v1;obtain⟨o,h1,h2,n,h3⟩:=t1.isList;unfold Dp.py;exact⟨_,.list h1 h2 h3 (by simpa using ra)⟩
theorem vg(I:Inv X pins G H s):∀{ds:List Dp}{vs:List V}{us:List zdG},aL X.K H ds vs->Vals vs us->∃as,ReadsAll s.heap us (Dp.B7 ds) as
 |[],_,_,h,r=>by rw[aL.bQ] at h;subst h;cases r;unfold Dp.B7;exact⟨_,.nil⟩
 |d::ds,_,_,h,r=>by
  rw[aL.aP] at h;obtain⟨v,vs,rfl,x,y⟩:=h;cases r with
  |cons r1 r2=>
   obtain⟨a,ra⟩:=pA I x r1;obtain⟨b,rb⟩:=vg I y r2;unfold Dp.B7;exact⟨_,.cons ra rb⟩
end
end
section
variable{X:Cx}
def RI (K:zaa)(neg:Bool):R2:=fun x y H Q=>∃d e,Rep K H d x/\Rep K H e y/\ya2 d.py=true/\ya2 e.py=true/\Q (.bl (if neg then !PyData.eqv d.py e.py else ya0 d.py e.py)) H
theorem Ej(hu:X.A.units+64<cLine):qv X (yau .Eq) (RI X.K false):=by
 intro pins s G H x y v u Q I rx ry h;obtain⟨d,e,h1,h2,s1,s2,q⟩:=h;obtain⟨as,ra⟩:=pA I h1 rx;obtain⟨bs,rb⟩:=pA I h2 ry;exact eq_dataH ra rb s1 s2 hu ⟨.bl (ya0 d.py e.py),H,I,rfl,q⟩
theorem RJ(hu:X.A.units+64<cLine):qv X (yau .NotEq) (RI X.K true):=by
 intro pins s G H x y v u Q I rx ry h;obtain⟨d,e,h1,h2,s1,s2,q⟩:=h;obtain⟨as,ra⟩:=pA I h1 rx;obtain⟨bs,rb⟩:=pA I h2 ry;exact ne_dataH ra rb s1 s2 hu ⟨.bl (!PyData.eqv d.py e.py),H,I,rfl,q⟩
end
mutual
theorem eqv_refl:∀d:Dp,ya0 d.py d.py=true
 |.eA=>rfl
 |.bl b=>by simp[Dp.py,ya0]
 |.int i=>by simp[Dp.py,ya0]
 |.str x=>by simp[Dp.py,ya0]
 |.tup l=>by simp only[Dp.py,ya0];exact vh l
 |.lst l=>by simp only[Dp.py,ya0];exact vh l
theorem vh:∀l:List Dp,PyData.eqvAll (Dp.B7 l) (Dp.B7 l)=true
 |[]=>rfl
 |d::r=>by simp only[Dp.B7,PyData.eqvAll,eqv_refl d,vh r,zc2]
end
theorem ay(h:∀U:St->Hp->Prop,(∀G' H',U G' H'↔u D G' H')->t {D with nx:=U} G H):NN t u D G H:=h (u D) fun _ _=>Iff.rfl
theorem xk(hr:gw k A):A.units+64<cLine:=hr.units
end L2
namespace L2
open PySem
theorem Qd(ns:List Int)(h:ns.length<=63):Ap (ns.map V.int) none (some 63)=ns.map V.int:=by
 unfold Ap;rw[HT.BZ,show (63:Int)=((63:Nat):Int) from rfl,HT.FE,zac,List.drop_zero,Nat.sub_zero];exact zdm (by rw[zac];lia)
open PyProof.Rows PySem.Spec
section
variable{X:Cx}{pins:List (zdF×Obj)}{G:St}{H:Hp}{s:zdP}{h':yaf}
theorem Inv.zx{fp:List zdF}(I:Inv X pins G H s)(k:∀b o,b ∉ fp->s.heap.get? b=some o->h'.get? b=some o)(hf:∀b∈fp,tE X pins H b):Inv X pins G H {s with heap:=h',toks:=t' }:=by
 have T7:∀b u,H b=some u->b ∉ fp:=fun b u e z=>by rw[(hf b z).1] at e;cases e
 refine I.step (g':=s.gens) (d':=s.drawn) (ch:=fp) (fun b hb=>?_) (fun b o _ _ hc e _=>k b o hc e) (fun b o _ _ hc e _=>⟨o.slots,k b o hc e⟩) (fun _ _ _ _ n=>n)
  (fun b o hc e=>⟨o,k b o hc e⟩) (fun _ _ e=>e) (fun _ _ _ e=>e) (fun b ps e=>⟨#[],by rw[e];simp⟩) (fun m hm=>?_) (fun b u e=>?_) I.bare
 .obtain⟨_,f1,_,f3,f4,f5⟩:=hf b hb;exact⟨f3,f1,f4,f5⟩
 .obtain⟨o,es,ep,ho,r⟩:=hm;exact⟨o,es,ep,k _ o (fun z=>(hf _ z).2.1 rfl) ho,r⟩
 .refine(I.bS b u e).sY (fun c v hc q=>k c v ?_ q) (fun _ q=>q) fun _ _ q=>q;rcases hc with z |z
  .rw[z];exact T7 b u e
  .exact T7 c _ z
end
def Qe (K:zaa)(a:zdF):It:=
 ⟨fun i H=>∃xs x,iR K H a xs/\xs[i]?=some x,fun i H x H'=>∃p y,x=.ref p/\H p=none/\H'=upd H p (.tup [.int i,y])/\∀xs,iR K H a xs->xs[i]?=some y,fun i H=>∃xs,iR K H a xs/\xs.length<=i⟩
theorem HX{K:zaa}{x1}(a e it:zdF)(Ek:e≠it) :
 Turn P w K (.Tuple elts x1 pos) (Qe K a) [e,it] e (fun i h=>(∃old,IsEnum h e it i old)/\h.IsListIter it a i) where
 mem:=by simp
 obj:=fun i h st b hb=>by
  obtain⟨⟨old,he⟩,o,eo,c,d⟩:=st;rcases zak.mp hb with rfl |hb
  .exact⟨_,he,fun v z=>by cases (show Data.fields _=Data.cell v from z)⟩
  .have z:b=it:=by simpa using hb
   subst z;exact⟨o,eo,fun v z=>by rw[d] at z;cases z⟩
 keep:=fun i h h' st k=>⟨st.1.elim fun old he=>⟨old,k e (by simp) _ he⟩,st.2.at fun o x=>k it (by simp) o x⟩
 item:=by
  intro X hP hw hK hc i pins s G H E I hf st hg;subst hP hw hK;obtain⟨xs,x,hq,hx⟩:=hg;obtain⟨⟨old,he⟩,hit⟩:=st;obtain⟨bc,rv,p,hz⟩:=I.list hq;obtain⟨u,hu,ru⟩:=rv.get hx;refine wpAny_pyNext_enum_item he hit p.isList (x:=u) (by simpa using hu) Ek fun h' ho KQ hT hsz hk=>?_;refine⟨_,rfl,?_⟩;refine wpAny_letOwnedTupleGo_enum ho fun h2 RK sb=>?_;have US:e<s.heap.objs.size:=yad he;have UT:it<s.heap.objs.size:=by obtain⟨_,x,_⟩:=hit;exact yad x
  have I1:Inv X pins G H {s with heap:=h2,toks:=s.toks+1}:=I.zx (t':=s.toks+1) (fun b o hb q=>(sb.2 b fun z=>hb (by simp[z])).trans (hk b o (fun z=>hb (by simp[z])) (fun z=>hb (by simp[z])) q)) hf;have fr:H s.heap.objs.size=none:=I.bS.fresh (zah _);obtain⟨g0,g1,g2,g3,g4,g5⟩:=I.JK (zah _) fr;have YN:h2.get? s.heap.objs.size=some {cls:=.type "tuple",data:=.seq #[.int i s.toks,u]}:=(sb.2 _ (zaW US)).trans hT;have I2:=I1.told (o:=.tup [.int i,x]) fr I.sz g1 g4 g5 ⟨(show (2:Nat)<=zdN by decide),[.int i s.toks,u],.cons ⟨_,rfl⟩ (.cons ru .nil),⟨_,YN,rfl,_,rfl⟩⟩;refine⟨.ref s.heap.objs.size,_,I2,rfl,⟨_,x,rfl,fr,rfl,fun ys hy=>by rw[I.BQ hy hq];exact hx⟩,⟨⟨_,by exact_mod_cast RK⟩,KQ.at fun o q=>(sb.2 it (Ne.symm Ek)).trans q⟩,fun b hb=>?_⟩;rw[au ?_]
  .exact(hf b hb).1
  .rcases zak.mp hb with rfl |hb
   .exact zaz US
   .have z:b=it:=by simpa using hb
    subst z;exact zaz UT
 done:=by
  intro X hP hw hK hc i pins s G H E I hf st hg;subst hP hw hK;obtain⟨xs,hq,hx⟩:=hg;obtain⟨⟨old,he⟩,hit⟩:=st;obtain⟨bc,rv,p,hz⟩:=I.list hq;have hl:=rv.length;exact wpAny_pyNext_enum_end (I.ok.hd hc) he hit p.isList (by simp;lia) fun h' eb=>⟨rfl,I.zx (t':=s.toks) (fun b o hb q=>eb b o (fun z=>hb (by simp[z])) q) hf⟩
 self:=fun _ _ _ _ _ st h=>st.1.elim fun _ he=>wpAny_pyIter_enum he h
def Qf (K:zaa)(ta:TA):TI:=fun G H R=>ta G H fun vs H1=>∃a,vs=[.ref a]/\(∃xs,iR K H1 a xs)/\R (Qe K a) H1
theorem FV{x1}(hg:Gl X "enumerate")(hm:X.mg "enumerate"=none)(ha:PA X [a] ta)(hs:zdL [a] X.env=[(false,eval a X.env)]:=by rfl) :
 PI X (.Tuple elts x1 tp) (.Call (.Name "enumerate" p) [a] [] pos) (Qf X.K ta):=by
 intro pins s G H R I h;refine Call_ (m7 I hg hm yb1 (za4 (fC (ha pos pins s G H _ I h) fun us s1 zqz=>?_) hs rfl));obtain⟨vs,H1,I1,r1,q1⟩:=zqz;obtain⟨l,e,⟨xs,hq⟩,q⟩:=q1;subst e;cases r1 with
 |cons r rr=>
  cases rr;cases (show _=yac l from r);obtain⟨bc,rv,p,hz⟩:=I1.list hq;refine call_enumerate_list p.isList fun h' he hit hsz hk=>?_;refine wpAny_pyIter_enum he ?_;have fr:∀b,s1.heap.objs.size<=b->H1 b=none:=fun b hb=>I1.bS.fresh hb;refine⟨s1.heap.objs.size+1,[s1.heap.objs.size+1,s1.heap.objs.size],_,_,H1,rfl,I1.kept (t':=s1.toks) hk,HX l _ _ (Nat.succ_ne_self _),⟨⟨_,he⟩,hit⟩,fun b hb=>?_,q⟩;have UU:s1.heap.objs.size<=b:=by
   rcases zak.mp hb with rfl |hb
   .exact zdE _
   .have z:b=s1.heap.objs.size:=by simpa using hb
    rw[z];exact zah _
  exact I1.JK UU (fr b UU)
theorem B8{K:zaa}{g:TG}{tb:TS}{D:Ends}(Pv:Nat->St->Hp->Prop)(h0:Pv 0 G H)(hl:∀i G H,i<=xs.length->Pv i G H->iR K H a xs)
 (hs:∀i x G H p,xs[i]?=some x->Pv i G H->H p=none->g (.ref p) G (upd H p (.tup [.int i,x])) fun G2 H2=>tb {D with nx:=Pv (i+1),ct:=Pv (i+1),bk:=D.nx} G2 H2) (hd:∀G H,Pv xs.length G H->D.nx G H) :
 ∃W:Nat->Nat->St->Hp->Prop,(∃m,W 0 m G H)/\∀i m G H,W i m G H->
  ((Qe K a).stop i H/\D.nx G H)\/((Qe K a).go i H/\∃N:St->Hp->Prop,(∀G' H',N G' H'->∃m',m'<m/\W (i+1) m' G' H')/\∀x H',(Qe K a).Hr i H x H'->g x G H' fun G2 H2=>tb {D with nx:=N,ct:=N,bk:=D.nx} G2 H2):=by
 refine⟨fun i m G H=>m=xs.length-i/\i<=xs.length/\Pv i G H,⟨xs.length,by simp,zaN _,h0⟩,?_⟩
 rintro i m G H ⟨rfl,hi,p⟩
 have q:=hl i G H hi p;by_cases qu:i<xs.length
 .refine .inr ⟨⟨xs,xs[i],q,by simp[qu]⟩,Pv (i+1),fun G' H' p'=>⟨xs.length-(i+1),by lia,rfl,qu,p'⟩,fun x H' y=>?_⟩;obtain⟨pp,v,rfl,hn,rfl,y⟩:=y;exact hs i v G H pp (y xs q) p hn
 .have e:i=xs.length:=by lia
  subst e;exact .inl ⟨⟨xs,q,zah _⟩,hd G H p⟩
theorem vS{X:Cx}:kK X (.type "int") (fun xs H Q=>∃b:Bool,xs=[.bl b]/\Q (.int (if b then 1 else 0)) H):=by
 intro pins s G H xs us Q I r h;obtain⟨b,rfl,q⟩:=h;obtain⟨u,rfl,ru⟩:=vals1 r;cases (show u=yaI b from ru);exact PySem.call_int_bool ⟨.int (if b then 1 else 0),H,I.tok _,⟨_,rfl⟩,q⟩
noncomputable def gI (val:W->Int):PM.Tr->Int
 |.num n=>n
 |.box x=>val x
 |.bin o l r=>if o=[43] then gI val l+gI val r else if o=[45] then gI val l-gI val r else gI val l*gI val r
theorem tO{K:zaa}(h:∀U:zdF->Hp->Prop,(∀a H1,(∃W:Nat->Nat->St->Hp->Prop,(∃m,W 0 m G H1)/\∀i m G H,W i m G H->
 ((Hs K a).stop i H/\D.nx G H)\/((Hs K a).go i H/\∃N:St->Hp->Prop,(∀G' H',N G' H'->∃m',m'<m/\W (i+1) m' G' H')/\∀x H',(Hs K a).Hr i H x H'->g x G H' fun G2 H2=>tb {D with nx:=N,ct:=N,bk:=D.nx} G2 H2))->U a H1)->
 tl G H fun x H1=>∃a,x=.ref a/\(∃xs,iR K H1 a xs)/\U a H1):NQ (Fw K tl) g tb D G H:=h _ fun _ _ x=>x
theorem FW{r:St}:(fO 10 (a::r) H Q)=(fO 9 r H Q):=rfl
theorem FX{r:St}:(fO 11 (a::r) H Q)=(fO 10 r H Q):=rfl
theorem FY{r:St}:(fO 12 (a::r) H Q)=(fO 11 r H Q):=rfl
open PySem.SeqAt
theorem HY(hu:X.A.units+1<cLine):qv X (yau .Eq) (fun x y H Q=>∃a b xs,x=.ref a/\y=.ref b/\iR X.K H a xs/\iR X.K H b []/\Q (.bl xs.isEmpty) H):=by
 intro pins s G H x y v u Q I rx ry h;obtain⟨a,b,xs,rfl,rfl,h1,h2,q⟩:=h;cases (show v=yac a from rx);cases (show u=yac b from ry);obtain⟨bc,v1,p1,_⟩:=I.list h1;obtain⟨its',v2,p2,_⟩:=I.list h2;cases v2;cases xs with
 |nil=>
  cases v1;exact(RcAt.lists (e:=fun _=>true) p1.isList p2.isList rfl (by lia) (fun j h1=>ybX h1 (by simp))) _ _ _ _ ⟨.bl true,H,I,rfl,q⟩
 |cons z zs=>
  cases v1;exact(RcAt.lists_lengths p1.isList p2.isList (by simp) (by lia)) _ _ _ _ ⟨.bl false,H,I,rfl,q⟩
end L2
namespace PG
open PM (W Tr)
structure sW where
 name:W
 size:Int
 first:Int
inductive cJ where
 |ask (k:Int) (b:W)
 |put (k:Int) (b:W) (e:Tr)
 |say (k:Int) (e:Tr)
 |dR (k:Int) (sg:W) (l r:Tr)
 |stop (k:Int)
 |ifs (k:Int) (sg:W) (l r:Tr) (a b:List cJ)
 |mF (k:Int) (sg:W) (l r:Tr) (a:List cJ)
noncomputable def cJ.row:cJ->Int
 |.ask k _=>k |.put k _ _=>k |.say k _=>k |.dR k _ _ _=>k |.stop k=>k |.ifs k _ _ _ _ _=>k |.mF k _ _ _ _=>k
inductive Wd where
 |ask |put |say |dR |stop |ifs |mF |els |fin
 deriving DecidableEq
noncomputable def cJ.wd:cJ->Wd
 |.ask _ _=>.ask |.put _ _ _=>.put |.say _ _=>.say |.dR _ _ _ _=>.dR |.stop _=>.stop |.ifs _ _ _ _ _ _=>.ifs |.mF _ _ _ _ _=>.mF
noncomputable def RL:List W:=[[60],[61]]
abbrev Row:=Int×Wd
structure Prog where
 aF:List sW
 body:List cJ
end PG
namespace PG
open PM (W Tr)
mutual
noncomputable def lG:cJ->List Row
 |.ifs k _ _ _ a b=>(k,.ifs)::(gF a++gF b)
 |.mF k _ _ _ a=>(k,.mF)::gF a
 |.ask k _=>[(k,.ask)]
 |.put k _ _=>[(k,.put)]
 |.say k _=>[(k,.say)]
 |.dR k _ _ _=>[(k,.dR)]
 |.stop k=>[(k,.stop)]
noncomputable def gF:List cJ->List Row
 |[]=>[]
 |s::r=>lG s++gF r
end
end PG
namespace PG
open PM (W Tr)
abbrev gy:=Int×Wd×List Int
noncomputable def bU:List cJ->Int->Int
 |[],x=>x
 |s::_,_=>s.row
mutual
noncomputable def gG:cJ->Int->List gy
 |.ifs k _ _ _ a b,x=>(k,.ifs,[bU a x,bU b x])::(aR a x++aR b x)
 |.mF k _ _ _ a,x=>(k,.mF,[bU a k,x])::aR a k
 |.ask k _,x=>[(k,.ask,[x])]
 |.put k _ _,x=>[(k,.put,[x])]
 |.say k _,x=>[(k,.say,[x])]
 |.dR k _ _ _,x=>[(k,.dR,[x])]
 |.stop k,_=>[(k,.stop,[0])]
noncomputable def aR:List cJ->Int->List gy
 |[],_=>[]
 |s::r,x=>gG s (bU r x)++aR r x
end
mutual
theorem HZ:∀(s:cJ)(x:Int),(gG s x).map (fun r=>(r.1,r.2.1))=lG s
 |.ifs k _ _ _ a b,x=>by simp[gG,lG,fF a x,fF b x]
 |.mF k _ _ _ a,x=>by simp[gG,lG,fF a k]
 |.ask k _,x=>rfl
 |.put k _ _,x=>rfl
 |.say k _,x=>rfl
 |.dR k _ _ _,x=>rfl
 |.stop k,_=>rfl
theorem fF:∀(b:List cJ)(x:Int),(aR b x).map (fun r=>(r.1,r.2.1))=gF b
 |[],_=>rfl
 |s::r,x=>by simp[aR,gF,HZ s _,fF r x]
end
end PG
namespace PG
open PM (W Tr)
mutual
noncomputable def El:cJ->Nat
 |.ifs _ _ _ _ a b=>max (qw a) (qw b)+1
 |.mF _ _ _ _ a=>qw a+1
 |_=>0
noncomputable def qw:List cJ->Nat
 |[]=>0
 |s::r=>max (El s) (qw r)
end
end PG
namespace PG
open PM (W Tr)
section
variable(nm:W->Prop)(ex:Tr->Prop)(sg:W->Prop)
mutual
def FZ:cJ->Prop
 |.ask _ b=>nm b
 |.put _ b e=>nm b/\ex e
 |.say _ e=>ex e
 |.dR _ s l r=>sg s/\ex l/\ex r
 |.stop _=>True
 |.ifs _ s l r a b=>sg s/\ex l/\ex r/\Nk a/\Nk b
 |.mF _ s l r a=>sg s/\ex l/\ex r/\Nk a
def Nk:List cJ->Prop
 |[]=>True
 |s::r=>FZ s/\Nk r
end
end
noncomputable def sX:Tr->Nat
 |.bin _ l r=>max (sX l) (sX r)+1
 |_=>0
end PG
namespace PG
open PM (W Tr)
mutual
noncomputable def lX:cJ->List cJ
 |.ifs k sg l r a b=>.ifs k sg l r a b::(aE a++aE b)
 |.mF k sg l r a=>.mF k sg l r a::aE a
 |s=>[s]
noncomputable def aE:List cJ->List cJ
 |[]=>[]
 |s::r=>lX s++aE r
end
mutual
theorem Ia:∀s:cJ,(lX s).map (fun x=>(x.row,x.wd))=lG s
 |.ifs k sg l r a b=>by
  rw[lX,lG,zas,zaC,hX a,hX b];rfl
 |.mF k sg l r a=>by
  rw[lX,lG,zas,hX a];rfl
 |.ask k _=>rfl
 |.put k _ _=>rfl
 |.say k _=>rfl
 |.dR k _ _ _=>rfl
 |.stop k=>rfl
theorem hX:∀b:List cJ,(aE b).map (fun x=>(x.row,x.wd))=gF b
 |[]=>rfl
 |s::r=>by simp[aE,gF,Ia s,hX r]
end
end PG
namespace PG
open PM (W Tr)
section
variable{nm:W->Prop}{ex:Tr->Prop}{sg:W->Prop}
mutual
theorem Od:∀(s x:cJ),FZ nm ex sg s->x∈lX s->FZ nm ex sg x
 |.ifs k s l r a b,x,h,m=>by
  rw[lX] at m;rcases zak.mp m with rfl |m
  .exact h
  .rw[FZ] at h;rcases zan.mp m with m |m
   .exact jh a x h.2.2.2.1 m
   .exact jh b x h.2.2.2.2 m
 |.mF k s l r a,x,h,m=>by
  rw[lX] at m;rcases zak.mp m with rfl |m
  .exact h
  .rw[FZ] at h;exact jh a x h.2.2.2 m
 |.ask k b,x,h,m=>by simp only[lX,zaf] at m;subst m;exact h
 |.put k b e,x,h,m=>by simp only[lX,zaf] at m;subst m;exact h
 |.say k e,x,h,m=>by simp only[lX,zaf] at m;subst m;exact h
 |.dR k s l r,x,h,m=>by simp only[lX,zaf] at m;subst m;exact h
 |.stop k,x,h,m=>by simp only[lX,zaf] at m;subst m;exact h
theorem jh:∀(b:List cJ)(x:cJ),Nk nm ex sg b->x∈aE b->FZ nm ex sg x
 |[],x,_,m=>by simp[aE] at m
 |s::r,x,h,m=>by
  rw[aE] at m;rw[Nk] at h;rcases zan.mp m with m |m
  .exact Od s x h.1 m
  .exact jh r x h.2 m
end
end
end PG
namespace PG
open PM (W Tr)
def oI (bs:List sW):Tr->Prop
 |.num n=>0<=n/\n<1000
 |.box x=>x∈bs.map (·.name)
 |.bin o l r=>o∈([[43],[45],[42]]:List W)/\oI bs l/\oI bs r
end PG
namespace PG
def nB (r:gy):Prop:=0<r.2.2.length/\(r.2.1=.ifs\/r.2.1=.mF->1<r.2.2.length)
mutual
theorem Ib:∀(s:cJ)(x:Int),∀r∈gG s x,nB r
 |.ifs k sg l r a b,x,y,h=>by
  rw[gG] at h;simp only[zak,zan] at h;rcases h with rfl |h |h
  .simp[nB]
  .exact hZ a x y h
  .exact hZ b x y h
 |.mF k sg l r a,x,y,h=>by
  rw[gG] at h;simp only[zak] at h;rcases h with rfl |h
  .simp[nB]
  .exact hZ a k y h
 |.ask k _,x,y,h=>by simp[gG] at h;subst h;simp[nB]
 |.put k _ _,x,y,h=>by simp[gG] at h;subst h;simp[nB]
 |.say k _,x,y,h=>by simp[gG] at h;subst h;simp[nB]
 |.dR k _ _ _,x,y,h=>by simp[gG] at h;subst h;simp[nB]
 |.stop k,x,y,h=>by simp[gG] at h;subst h;simp[nB]
theorem hZ:∀(b:List cJ)(x:Int),∀r∈aR b x,nB r
 |[],x,y,h=>by simp[aR] at h
 |s::r,x,y,h=>by
  rw[aR,zan] at h;rcases h with h |h
  .exact Ib s _ y h
  .exact hZ r x y h
end
end PG
namespace PG
theorem pB(b:List cJ):∀(x:Int),bU b x=x\/∃t∈aE b,t.row=bU b x:=by
 induction b with
 |nil=>intro x;exact .inl rfl
 |cons s r ih=>intro x;exact .inr ⟨s,by rw[aE];exact zbb _ (by cases s<;>simp[lX]),rfl⟩
mutual
theorem KR:∀(s:cJ)(x:Int),∀r∈gG s x,∀w∈r.2.2,w=0\/w=x\/∃t∈lX s,t.row=w
 |.ifs k sg l r a b,x,y,h,w,hw=>by
  rw[gG] at h;simp only[zak,zan] at h;rw[lX];rcases h with rfl |h |h
  .simp only[zak,List.mem_nil_iff,or_false] at hw;rcases hw with rfl |rfl
   .rcases pB a x with e |⟨t,ht,e⟩
    .exact .inr (.inl e)
    .exact .inr (.inr ⟨t,by simp[ht],e⟩)
   .rcases pB b x with e |⟨t,ht,e⟩
    .exact .inr (.inl e)
    .exact .inr (.inr ⟨t,by simp[ht],e⟩)
  .rcases pC a x y h w hw with e |e |⟨t,ht,e⟩
   .exact .inl e
   .exact .inr (.inl e)
   .exact .inr (.inr ⟨t,by simp[ht],e⟩)
  .rcases pC b x y h w hw with e |e |⟨t,ht,e⟩
   .exact .inl e
   .exact .inr (.inl e)
   .exact .inr (.inr ⟨t,by simp[ht],e⟩)
 |.mF k sg l r a,x,y,h,w,hw=>by
  rw[gG] at h;simp only[zak] at h;rw[lX];have self:w=k->∃t∈(cJ.mF k sg l r a::aE a),t.row=w:=fun e=>⟨_,zao ..,e.symm⟩
  rcases h with rfl |h
  .simp only[zak,List.mem_nil_iff,or_false] at hw;rcases hw with rfl |rfl
   .rcases pB a k with e |⟨t,ht,e⟩
    .exact .inr (.inr (self e))
    .exact .inr (.inr ⟨t,by simp[ht],e⟩)
   .exact .inr (.inl rfl)
  .rcases pC a k y h w hw with e |e |⟨t,ht,e⟩
   .exact .inl e
   .exact .inr (.inr (self e))
   .exact .inr (.inr ⟨t,by simp[ht],e⟩)
 |.ask k _,x,y,h,w,hw=>by simp[gG] at h;subst h;simp at hw;exact .inr (.inl hw)
 |.put k _ _,x,y,h,w,hw=>by simp[gG] at h;subst h;simp at hw;exact .inr (.inl hw)
 |.say k _,x,y,h,w,hw=>by simp[gG] at h;subst h;simp at hw;exact .inr (.inl hw)
 |.dR k _ _ _,x,y,h,w,hw=>by simp[gG] at h;subst h;simp at hw;exact .inr (.inl hw)
 |.stop k,x,y,h,w,hw=>by simp[gG] at h;subst h;simp at hw;exact .inl hw
theorem pC:∀(b:List cJ)(x:Int),∀r∈aR b x,∀w∈r.2.2,w=0\/w=x\/∃t∈aE b,t.row=w
 |[],x,y,h,_,_=>by simp[aR] at h
 |s::r,x,y,h,w,hw=>by
  rw[aR,zan] at h;rw[aE];rcases h with h |h
  .rcases KR s _ y h w hw with e |e |⟨t,ht,e⟩
   .exact .inl e
   .rcases pB r x with e2 |⟨t,ht,e2⟩
    .exact .inr (.inl (e.trans e2))
    .exact .inr (.inr ⟨t,zaK _ ht,e2.trans e.symm⟩)
   .exact .inr (.inr ⟨t,zbb _ ht,e⟩)
  .rcases pC r x y h w hw with e |e |⟨t,ht,e⟩
   .exact .inl e
   .exact .inr (.inl e)
   .exact .inr (.inr ⟨t,zaK _ ht,e⟩)
end
def Oe (b:List cJ)(row:Int):Nat:=(aE b).findIdx (fun s=>s.row==row)
theorem F0(pw:(aE b).Pairwise (fun a b=>a.row<b.row))(i:Nat)(hi:i<(aE b).length):Oe b (aE b)[i].row=i:=by
 unfold Oe;rw[List.findIdx_eq hi];refine⟨by simp,fun j hj=>?_⟩;have:=zbP.mp pw j i (by lia) hi hj;simp only[beq_eq_false_iff_ne,ne_eq];lia
end PG
namespace L2
open PG
open PySem
noncomputable def vT:Wd->Str
 |.ask=>"ask" |.put=>"put" |.say=>"say" |.dR=>"must" |.stop=>"stop" |.ifs=>"if" |.mF=>"while" |.els=>"else" |.fin=>"end"
mutual
noncomputable def jC:cJ->Dp
 |.ask k b=>.tup [.str "ask",.int k,.str (S b)]
 |.put k b e=>.tup [.str "put",.int k,.str (S b),wL e]
 |.say k e=>.tup [.str "say",.int k,wL e]
 |.dR k sg l r=>.tup [.str "must",.int k,.str (S sg),wL l,wL r]
 |.stop k=>.tup [.str "stop",.int k]
 |.ifs k sg l r a b=>.tup [.str "if",.int k,.str (S sg),wL l,wL r,.lst (B9 a),.lst (B9 b)]
 |.mF k sg l r a=>.tup [.str "while",.int k,.str (S sg),wL l,wL r,.lst (B9 a)]
noncomputable def B9:List cJ->List Dp
 |[]=>[]
 |s::r=>jC s::B9 r
end
theorem pE(l:List cJ):B9 l=l.map jC:=by
 induction l with
 |nil=>rfl
 |cons s r ih=>rw[B9,ih];rfl
def vU (b:sW):Dp:=.tup [.str (S b.name),.int b.size,.int b.first]
def iX (p:PG.Prog):Dp:=.tup [.lst (p.aF.map vU),.lst (p.body.map jC)]
def bR (O:zdF->Prop)(H H':Hp):Prop:=∀b o,¬O b->H b=some o->H' b=some o
def Fix (K:zaa)(O:zdF->Prop)(H:Hp)(d:Dp)(v:V):Prop:=∀H',bR O H H'->Rep K H' d v
def lY (K:zaa)(O:zdF->Prop)(H:Hp)(ds:List Dp)(vs:List V):Prop:=∀H',bR O H H'->aL K H' ds vs
section
variable{K:zaa}{O O':zdF->Prop}{H H1 H2:Hp}{d:Dp}{ds:List Dp}{v:V}{vs:List V}{p:zdF}{o:HO}
theorem bR.refl:bR O H H:=fun _ _ _ e=>e
theorem bR.trans(a:bR O H H1)(b:bR O H1 H2):bR O H H2:=fun c u n e=>b c u n (a c u n e)
theorem bR.of(s:ar H H1):bR O H H1:=fun b u _ e=>s b u e
theorem bR.mono(a:bR O H H1)(i:∀b,O b->O' b):bR O' H H1:=fun b u n e=>a b u (fun z=>n (i b z)) e
theorem bR.one(a:bf p H H1)(hp:O p):bR O H H1:=fun b u n e=>a b u (fun z=>n (by rw[z];exact hp)) e
theorem bR.put(a:bR O H H1)(hp:O p)(u:HO):bR O H (upd H1 p u):=fun b w n e=>by rw[au (fun z=>n (by rw[z];exact hp))];exact a b w n e
theorem Fix.up(f:Fix K O H d v)(u:bR O H H1):Fix K O H1 d v:=fun H2 u2=>f H2 (u.trans u2)
theorem lY.up(f:lY K O H ds vs)(u:bR O H H1):lY K O H1 ds vs:=fun H2 u2=>f H2 (u.trans u2)
theorem lY.YO(f:lY K O H ds vs):aL K H ds vs:=f H .refl
theorem lY.nil:lY K O H [] []:=fun _ _=>.nil
theorem lY.cons(a:Fix K O H d v)(b:lY K O H ds vs):lY K O H (d::ds) (v::vs):=fun H2 u=>.cons (a H2 u) (b H2 u)
theorem lY.snoc(b:lY K O H ds vs)(a:Fix K O H d v):lY K O H (ds++[d]) (vs++[v]):=fun H2 u=>(b H2 u).append (.cons (a H2 u) .nil)
theorem Fix.int:Fix K O H (.int i) (.int i):=fun _ _=>Rep.bD.mpr rfl
theorem Fix.str:Fix K O H (.str x) (.str x):=fun _ _=>Rep.bN.mpr rfl
theorem Fix.tup(h:H p=some (.tup vs))(n:¬O p)(f:lY K O H ds vs):Fix K O H (.tup ds) (.ref p):=fun H2 u=>Rep.aT.mpr ⟨p,vs,rfl,.of (u p _ n h),f H2 u⟩
end
end L2
namespace L2
open PG
open PySem
theorem F1{r:St}:(fO 13 (a::r) H Q)=(fO 12 r H Q):=rfl
theorem F2{r:St}:(fO 14 (a::r) H Q)=(fO 13 r H Q):=rfl
theorem Em{r:St}(p:Nat->Bool)(f:Nat->V)(hS:iR K H a xs)(hl:xs.length<=16000000)(hD:H D=none)
 (test:∀i x,xs[i]?=some x->∀H2,ar H H2->∀R:Bool->Hp->Prop,(∀H3,ar H2 H3->R (p i) H3)->tc (some x::r) H2 R)
 (step:∀i x,xs[i]?=some x->p i=true->∀H2,ar H H2->∀R:VK,(∀H3,ar H2 H3->R (f i) H3)->te (some x::r) H2 R)
 (q:∀H2,ar H H2->H2 D=some (.lst (((zaj xs.length).filter p).map f))->Q (.ref D) H2):qJ (Hs K a) D (gE 0) tc te Q (none::r) (upd H D (.lst [])):=by
 refine⟨fun i m Z H2=>m=xs.length-i/\i<=xs.length/\(∃x,Z=x::r)/\ar H H2/\H2 D=some (.lst (((zaj i).filter p).map f)),⟨xs.length,by simp,zaN _,⟨none,rfl⟩,ar.new hD _,by rw[ah];simp⟩,?_⟩
 rintro i m Z H2 ⟨rfl,hi,⟨x,rfl⟩,s2,h2⟩
 by_cases qu:i<xs.length
 .refine .inr ⟨⟨xs,xs[i],s2.seq hS,by simp[qu]⟩,fun Z' H'=>(∃x,Z'=x::r)/\ar H H'/\H' D=some (.lst (((zaj (i+1)).filter p).map f)),fun Z' H' ⟨h1,h3,h4⟩=>⟨xs.length-(i+1),by lia,rfl,qu,h1,h3,h4⟩,fun y H' hy=>?_⟩;obtain⟨rfl,hy⟩:=hy;have ey:=hy _ (s2.seq hS);simp only[gE,zbV];refine test i y ey _ s2 _ fun H3 s3=>?_;have Qg:=s2.trans s3;have h3:=s3 _ _ h2;rw[za7,List.filter_append,zaC];cases hp:p i with
  |false=>
   rw[ybR zam];exact⟨⟨_,rfl⟩,Qg,by rw[h3];simp[hp]⟩
  |true=>
   rw[ybS rfl];refine step i y ey hp _ Qg _ fun H4 s4=>⟨_,s4 _ _ h3,?_,⟨_,rfl⟩,?_,?_⟩
   .have h1:(((zaj i).filter p).map f).length<=i:=by
     rw[zac];exact zax (zdr _ _) (by rw[zaJ];lia)
    have:zdN=2 ^ 24:=rfl;lia
   .intro b o e;rw[au (ag e hD)];exact s4 _ _ (Qg _ _ e)
   .rw[ah];simp[hp]
 .have e:i=xs.length:=by lia
  subst e;exact .inl ⟨⟨xs,s2.seq hS,zah _⟩,q H2 s2 h2⟩
theorem jD(h:X.K=K):Ut X (Ro K):=h▸dy
theorem ji{X:Cx}{K:zaa}(h:X.K=K):Ut X (Rp K):=h▸aN
noncomputable def aS:cJ->List (List cJ)
 |.ifs _ _ _ _ a b=>[a,b]
 |.mF _ _ _ _ a=>[a]
 |_=>[]
noncomputable def iz (s:cJ)(x:Int):Int:=match s with
 |.mF k _ _ _ _=>k
 |_=>x
def pF (s:cJ)(x:Int):List Int:=match s with
 |.stop _=>[0]
 |.ifs _ _ _ _ a b=>[bU a x,bU b x]
 |.mF k _ _ _ a=>[bU a k,x]
 |_=>[x]
theorem KU(s:cJ)(x:Int):gG s x=(s.row,s.wd,pF s x)::((aS s).flatMap fun b=>aR b (iz s x)):=by
 cases s<;>simp[gG,cJ.row,cJ.wd,pF,aS,iz]
def iY (r:gy):Dp:=.tup [.int r.1,.str (vT r.2.1),.tup (r.2.2.map .int)]
section
variable(K:zaa)
inductive kh(vs:List V)(H:Hp)(Q:VK)(E:XK):Prop
 |mk (b:zdF) (body:List cJ) (x:Int):vs=[.ref b,.int x]->Rep K H (.lst (body.map jC)) (.ref b)->body.length<=100000->Q (.int (bU body x)) H->kh vs H Q E
inductive xl(vs:List V)(H:Hp)(Q:VK)(E:XK):Prop
 |mk (v:V) (st:cJ) (x:Int):vs=[v,.int x]->Rep K H (jC st) v->Q (.int (iz st x)) H->xl vs H Q E
inductive tP(vs:List V)(H:Hp)(Q:VK)(E:XK):Prop
 |mk (v:V) (st:cJ) (H0:Hp):vs=[v]->Rep K H0 (jC st) v->ar H0 H->(∀l us H',ar H H'->H l=none->H' l=some (.lst us)->aL K H0 ((aS st).map fun b=>.lst (b.map jC)) us->Q (.ref l) H')->tP vs H Q E
end
theorem iZ:∀(s:cJ){v:V},Rep K H (jC s) v->∃a ys,v=.ref a/\bH K H a (.str (vT s.wd) :: .int s.row::ys):=by
 intro s v h;have key:∃ds,jC s=.tup (.str (vT s.wd) :: .int s.row::ds):=by
  cases s<;>exact⟨_,by rw[jC];rfl⟩
 obtain⟨ds,e⟩:=key;rw[e,Rep.aT] at h;obtain⟨a,xs,rfl,q,r⟩:=h;rw[aL.aP] at r;obtain⟨v1,t1,rfl,e1,r⟩:=r;rw[aL.aP] at r;obtain⟨v2,t2,rfl,e2,_⟩:=r;rw[Rep.bN] at e1;rw[Rep.bD] at e2;subst e1 e2;exact⟨a,t2,rfl,q⟩
section
variable(K:zaa)
def KW (st:cJ):Prop:=∀b∈aS st,b.length<=100000
inductive En(vs:List V)(H:Hp)(Q:VK)(E:XK):Prop
 |mk (v:V) (st:cJ) (x:Int):vs=[v,.int x]->Rep K H (jC st) v->KW st->(∀u H',ar H H'->Rep K H' (.tup ((pF st x).map .int)) u->Q u H')->En vs H Q E
end
mutual
noncomputable def Of:Dp->Bool
 |.lst _=>false
 |.tup l=>wu l
 |_=>true
noncomputable def wu:List Dp->Bool
 |[]=>true
 |d::r=>Of d&&wu r
end
section
variable{K:zaa}{H H':Hp}{tl:zdF}{xs:List V}
mutual
theorem Ca(h:H tl=some (.lst xs))(u:bR (·=tl) H H'):∀(d:Dp)(v:V),Of d=true->Rep K H d v->Rep K H' d v
 |.eA,v,_,r=>by rw[Rep.kg] at r |-;exact r
 |.bl b,v,_,r=>by rw[Rep.rM] at r |-;exact r
 |.int b,v,_,r=>by rw[Rep.bD] at r |-;exact r
 |.str b,v,_,r=>by rw[Rep.bN] at r |-;exact r
 |.lst l,v,e,_=>by rw[Of] at e;cases e
 |.tup l,v,e,r=>by
  rw[Of] at e;rw[Rep.aT] at r |-;obtain⟨a,ys,rfl,q,rs⟩:=r;refine⟨a,ys,rfl,?_,vi h u l ys e rs⟩;rcases q with (q |⟨o,q⟩) |q
  .exact .inl (.inl (u _ _ (bz q h (by intro z;cases z)) q))
  .exact .inl (.inr ⟨o,u _ _ (bz q h (by intro z;cases z)) q⟩)
  .exact .inr q
theorem vi(h:H tl=some (.lst xs))(u:bR (·=tl) H H'):∀(ds:List Dp)(vs:List V),wu ds=true->aL K H ds vs->aL K H' ds vs
 |[],vs,_,r=>by rw[aL.bQ] at r |-;exact r
 |d::ds,vs,e,r=>by
  rw[wu,za2] at e;rw[aL.aP] at r |-;obtain⟨v,t,rfl,r1,r2⟩:=r;exact⟨v,t,rfl,Ca h u d v e.1 r1,vi h u ds t e.2 r2⟩
end
theorem Og(h:H tl=some (.lst xs))(e:wu ds=true)(r:aL K H ds vs):lY K (·=tl) H ds vs:=fun _ u=>vi h u ds vs e r
theorem RM(h:H tl=some (.lst xs))(e:Of d=true)(r:Rep K H d v):Fix K (·=tl) H d v:=fun _ u=>Ca h u d v e r
end
theorem vj(l:List Int):wu (l.map .int)=true:=by
 induction l with
 |nil=>simp[wu]
 |cons i r ih=>rw[zas,wu,ih];simp[Of]
theorem KY(r:gy):Of (iY r)=true:=by simp[iY,Of,wu,vj]
theorem zy(l:List gy):wu (l.map iY)=true:=by
 induction l with
 |nil=>simp[wu]
 |cons r l ih=>rw[zas,wu,KY,ih];rfl
section
variable(K:zaa)
inductive tQ(n:Nat)(vs:List V)(H:Hp)(Q:VK)(E:XK):Prop
 |mk (b:zdF) (body:List cJ) (x:Int):vs=[.ref b,.int x]->Rep K H (.lst (body.map jC)) (.ref b)->qw body<n->(gF body).length<=1000->(∀l us H',ar H H'->H l=none->H' l=some (.lst us)->aL K H' ((aR body x).map iY) us->Q (.ref l) H')->tQ n vs H Q E
end
mutual
theorem nE:∀(s:cJ)(b:List cJ),b∈aS s->(gF b).length+1<=(lG s).length/\qw b+1<=El s
 |.ifs k _ _ _ x y,b,h=>by
  simp only[aS,zak,zbc,or_false] at h;rw[lG,El];simp only[zaq,zai];rcases h with rfl |rfl<;>lia
 |.mF k _ _ _ x,b,h=>by
  simp only[aS,zak,zbc,or_false] at h;rw[lG,El];simp only[zaq];subst h;lia
 |.ask _ _,b,h=>by cases h
 |.put _ _ _,b,h=>by cases h
 |.say _ _,b,h=>by cases h
 |.dR _ _ _ _,b,h=>by cases h
 |.stop _,b,h=>by cases h
end
theorem vk(l:List cJ):∀(s:cJ),s∈l->(lG s).length<=(gF l).length/\El s<=qw l:=by
 induction l with
 |nil=>intro s h;cases h
 |cons a r ih=>
  intro s h;rw[gF,qw,zai];rcases zak.mp h with rfl |h
  .lia
  .have:=ih s h;lia
theorem Ic(s:cJ):1<=(lG s).length:=by cases s<;>simp[lG]
theorem mG(l:List cJ):l.length<=(gF l).length:=by
 induction l with
 |nil=>exact zaN _
 |cons s r ih=>
  rw[gF,zai,zaq];have:=Ic s;have:=ih;lia
section
variable(K:zaa)
def vm:Sp:=fun vs H Q _=>∃(v:V) (pr:PG.Prog),vs=[v]/\Rep K H (iX pr) v/\qw pr.body<=3/\(gF pr.body).length<=1000/\
 ∀l us H',ar H H'->H l=none->H' l=some (.lst us)->aL K H' ((aR pr.body 0).map iY) us->Q (.ref l) H'
end
end L2
namespace L2
open PG
open PySem
section
variable{X:Cx}
def RN (K:zaa):R2:=fun x y H Q=>∃d,Rep K H d x/\Rep K H d y/\(∃l,d=.lst l)/\d.deep<=60/\Q (.bl true) H
theorem F3(hu:X.A.units+64<cLine):qv X (yau .Eq) (RN X.K):=by
 intro pins s G H x y v u Q I rx ry h;obtain⟨d,h1,h2,⟨l,rfl⟩,hd,q⟩:=h;rw[Rep.bG] at h1 h2;obtain⟨p,xs,rfl,q1,w1⟩:=h1;obtain⟨p',xs',rfl,q2,w2⟩:=h2;cases (show v=yac p from rx);cases (show u=yac p' from ry);obtain⟨bc,v1,t1,_⟩:=I.list q1;obtain⟨its',v2,t2,_⟩:=I.list q2;unfold Dp.deep at hd;have items:=tK I w1 w2 v1 v2 (A:=X.A.in1) (by show X.A.units+1+_<_;lia);have n1:bc.length=its'.length:=by rw[<- v1.length,<- v2.length,w1.length,w2.length]
 refine SeqAt.eq_listAt (e:=fun _=>true) t1.isList t2.isList (by simpa using n1) (by lia) (fun j h1 h2=>items j bc[j] its'[j] (by simp at h1;simp[h1]) (by simp at h2;simp[h2])) ?_;rw[all_true];exact⟨.bl true,H,I,rfl,q⟩
end
theorem KZ:∀w:Wd,(V.str (vT w)=V.str (zab "must"))↔w=.dR:=by
 intro w;cases w<;>decide +kernel
theorem Eo{k:Key}(h:k ∉ aB.map (·.1)):putK aB k v=aB++[(k,v)]:=by
 unfold putK;rw[ybR];intro z;rw[List.any_eq_true] at z;obtain⟨x,hx,e⟩:=z;exact h (zae.mpr ⟨x,hx,ybV e⟩)
theorem rN(more:List (Key×V)):∀(aB:List (Key×V)),((aB++more).map (·.1)).Nodup->nj aB more=aB++more:=by
 induction more with
 |nil=>intro aB _;simp[nj]
 |cons p r ih=>
  intro aB h;have hp:p.1 ∉ aB.map (·.1):=fun z=>by
   rw[zaC,zbM] at h;exact h.2.2 _ z _ (by simp) rfl
  show nj (putK aB p.1 p.2) r=_;rw[Eo hp,ih _ (by rw[zaY];exact h),zaY];rfl
noncomputable def jW (ss:List cJ)(vs:List V):List (Key×V):=zbd (fun s v=>(Sum.inl s.row,v)) ss vs
theorem xn:∀(ss:List cJ)(vs:List V),vs.length=ss.length->(jW ss vs).map (·.1)=ss.map fun s=>(Sum.inl s.row:Key)
 |[],[],_=>rfl
 |[],_::_,h=>by simp at h
 |_::_,[],h=>by simp at h
 |s::ss,v::vs,h=>by
  show _::(jW ss vs).map (·.1)=_;rw[xn ss vs (by simpa using h)];rfl
theorem xp{ss:List cJ}(h:ss.Pairwise fun a b=>a.row<b.row):(ss.map fun s=>(Sum.inl s.row:Key)).Nodup:=by
 refine zaL.mpr (h.imp fun {a b} BD e=>?_);have:=Sum.inl.inj e;lia
theorem tR:∀(ss:List cJ)(vs:List V),vs.length=ss.length->ss.Pairwise (fun a b=>a.row<b.row)->∀i (hi:i<ss.length) v,vs[i]?=some v->cf (jW ss vs) (.inl ss[i].row)=some v
 |[],_,_,_,i,hi,_,_=>by simp at hi
 |_::_,[],h,_,_,_,_,_=>by simp at h
 |s::ss,v::vs,h,hp,0,hi,u,hu=>by
  simp at hu;subst hu;show cf ((_,v)::jW ss vs) _=_;exact cn rfl
 |s::ss,v::vs,h,hp,i+1,hi,u,hu=>by
  rw[zbv] at hp;have lt:=hp.1 (ss[i]'(by simpa using hi)) (zaw _);show cf ((.inl s.row,v)::jW ss vs) (.inl (ss[i]'(by simpa using hi)).row)=_;rw[cu (fun e=>by have e:=Sum.inl.inj e;lia)];exact tR ss vs (by simpa using h) hp.2 i (by simpa using hi) u (by simpa using hu)
theorem Oh(s:cJ):lX s=s::(aS s).flatMap aE:=by
 cases s<;>simp[lX,aS]
section
variable(K:zaa)
inductive jk(n:Nat)(vs:List V)(H:Hp)(Q:VK)(E:XK):Prop
 |mk (b:zdF) (body:List cJ) (H0:Hp):vs=[.ref b]->ar H0 H->Rep K H0 (.lst (body.map jC)) (.ref b)->qw body<n->(gF body).length<=1000->(∀l us H',ar H H'->H l=none->H' l=some (.lst us)->aL K H0 ((aE body).map jC) us->Q (.ref l) H')->jk n vs H Q E
end
theorem pG(a:List cJ):∀b:List cJ,aE (a++b)=aE a++aE b:=by
 induction a with
 |nil=>intro b;simp[aE]
 |cons s r ih=>
  intro b;show aE (s::(r++b))=_;rw[aE,aE,ih b,zaY]
theorem K0(s:cJ):aE [s]=lX s:=by rw[aE,aE,zaM]
theorem Cb(b:List cJ):(aE b).length=(gF b).length:=by rw[<- hX,zac]
theorem nF{r:St}(Pv:Nat->List V->Hp->Prop)(hS:iR K H a xs)(hl:xs.length<=16000000)(hD:H D=none)(h0:Pv 0 [] (upd H D (.lst [])))
 (step:∀i x ys H2,xs[i]?=some x->ar H H2->H2 D=some (.lst ys)->ys.length=i->Pv i ys H2->∀R:VK,(∀v H3,ar H2 H3->Pv (i+1) (ys++[v]) (upd H3 D (.lst (ys++[v])))->R v H3)->te (some x::r) H2 R)
 (q:∀ys H2,ar H H2->H2 D=some (.lst ys)->Pv xs.length ys H2->Q (.ref D) H2):qJ (Hs K a) D (gE 0) xi te Q (none::r) (upd H D (.lst [])):=by
 refine⟨fun i m Z H2=>m=xs.length-i/\i<=xs.length/\(∃x,Z=x::r)/\ar H H2/\∃ys,H2 D=some (.lst ys)/\ys.length=i/\Pv i ys H2,⟨xs.length,by simp,zaN _,⟨none,rfl⟩,ar.new hD _,[],ah,rfl,h0⟩,?_⟩
 rintro i m Z H2 ⟨rfl,hi,⟨x,rfl⟩,s2,ys,h2,ly,p2⟩
 by_cases qu:i<xs.length
 .refine .inr ⟨⟨xs,xs[i],s2.seq hS,by simp[qu]⟩,fun Z' H'=>(∃x,Z'=x::r)/\ar H H'/\∃ys,H' D=some (.lst ys)/\ys.length=i+1/\Pv (i+1) ys H',fun Z' H' ⟨h1,h3,h4⟩=>⟨xs.length-(i+1),by lia,rfl,qu,h1,h3,h4⟩,fun y H' hy=>?_⟩;obtain⟨rfl,hy⟩:=hy;have ey:=hy _ (s2.seq hS);simp only[gE,zbV,xi];rw[ybS trivial];refine step i y ys _ ey s2 h2 ly p2 _ fun v H3 s3 p3=>⟨ys,s3 _ _ h2,?_,⟨_,rfl⟩,?_,ys++[v],ah,by simp[ly],p3⟩
  .have:zdN=2 ^ 24:=rfl;lia
  .intro b o e;rw[au (ag e hD)];exact s3 _ _ (s2 _ _ e)
 .have e:i=xs.length:=by lia
  subst e;exact .inl ⟨⟨xs,s2.seq hS,zah _⟩,q ys H2 s2 h2 p2⟩
theorem wM(l:List Int):yaX (Dp.B7 (l.map Dp.int))=true/\yba (Dp.B7 (l.map Dp.int))=0:=by
 induction l with
 |nil=>simp[Dp.B7,yaX,yba]
 |cons i r ih=>
  obtain⟨h1,h2⟩:=ih;simp[Dp.B7,Dp.py,yaX,yba,ybH,PyData.depth,h1,h2]
theorem K6{fl:List gy}(g2:aL K H (fl.map iY) fv)(hi:fv[i]?=some y)(li:i<fl.length) :
 ∃a p,y=.ref a/\bH K H a [.int fl[i].1,.str (vT fl[i].2.1),.ref p]/\bH K H p (fl[i].2.2.map V.int):=by
 obtain⟨v',Nf,rv⟩:=g2.get (i:=i) (d:=iY fl[i]) (by rw[zar,zad li];rfl);rw[hi] at Nf;cases Nf;unfold iY at rv;rw[Rep.aT] at rv;obtain⟨a,xs,rfl,hx,rs⟩:=rv;rw[aL.aP] at rs;obtain⟨v1,t1,rfl,r1,rs⟩:=rs;rw[aL.aP] at rs;obtain⟨v2,t2,rfl,r2,rs⟩:=rs;rw[aL.aP] at rs;obtain⟨v3,t3,rfl,r3,rs⟩:=rs;rw[aL.bQ] at rs;rw[Rep.bD] at r1;rw[Rep.bN] at r2;obtain⟨p,ys,rfl,hp,ry⟩:=Rep.aT.mp r3;subst r1 r2 rs;have key:∀{l:List Int} {ys:List V},aL K H (l.map Dp.int) ys->ys=l.map V.int:=by
  intro l
  induction l with
  |nil=>intro ys h;rw[za8,aL.bQ] at h;exact h
  |cons i r ih=>
   intro ys h;rw[zas,aL.aP] at h;obtain⟨v,t,rfl,h1,h2⟩:=h;rw[Rep.bD] at h1;rw[h1,ih h2];rfl
 rw[key ry] at hp;exact⟨a,p,rfl,hx,hp⟩
end L2
namespace L3
open PG
open PySem PyProof.Rows
theorem Oi:typeLookup (.type "list") "keys"=pure none:=by rw[typeLookup_type,yaL];kernel_rfl
theorem Oj:typeLookup (.type "list") "__getattr__"=pure none:=by rw[typeLookup_type,yaL];kernel_rfl
section
variable{prog:zdR}{w:zdH}{A:zdQ}{E:zdG->zdP->Prop}
theorem K7(a:zdF)(u:Tok){os:OsState}(hx:hp.get? a=some ⟨.type "list",none,.seq bc n,sl⟩)(hA:A.handled=none)
 (h:∀h' K8 e,Heap.NewAttrErr hp h' e (.ref a) "keys"->E (.ref e) ⟨h',g,d,K8,os⟩) :
 yab (model prog w) A (Builtin.«object.__getattribute__» ⟨[.ref a,.str "keys" u],[]⟩) Q E ⟨hp,g,d,tk,os⟩:=by
 have hT:(⟨hp,g,d,tk,os⟩:zdP).TypeIs (.ref a) "list":=⟨_,hx,rfl⟩
 have f4:=Oi;unfold Builtin.«object.__getattribute__»
 repeat (any_goals (first |assumption |wp_step))
 exact wpAny_raiseAttrError hA h (attrMsg_fits (by decide +kernel) (by size_fits))
theorem zF(a:zdF)(hx:s.heap.get? a=some ⟨.type "list",none,.seq bc n,sl⟩)(hA:A.handled=none)
 (h:∀h' tk,(∀b ob,s.heap.get? b=some ob->h'.get? b=some ob)->Q none {s with heap:=h',toks:=tk}):yab (model prog w) A (getAttr? (.ref a) "keys") Q E s:=by
 obtain⟨hp,g,d,tk,os⟩:=s;have hT:∀K8,(⟨hp,g,d,K8,os⟩:zdP).TypeIs (.ref a) "list":=fun _=>⟨_,hx,rfl⟩
 have f1:=sub_AttributeError;have f2:=ya3.lookup;have f3:=ya3.bind (.ref a);have f5:=Oj;unfold getAttr? getAttrBy? getAttrBy
 repeat (any_goals (first |assumption |exact hT _ |wp_step))
 all_goals
  refine yaZ ya3.plain F.entry_list_ga (ya3.check _ _ _ _ _ _ _ _ (show (⟨hp,g,d,tk+1,os⟩:zdP).TypeIs (.ref a) "list" from ⟨_,hx,rfl⟩) (F.args_list_getattribute_2 _ _) ?_)
 all_goals
  refine K7 a tk hx hA fun h' K8 e ne=>?_
 all_goals
  obtain⟨t',u',he⟩:=ne.there;show yab _ _ (getattributeRaised _ _ _ _ _ _ _) _ _ _;unfold getattributeRaised
  repeat (any_goals (first |assumption |wp_step))
 all_goals exact h _ _ ne.keeps
theorem i3:entryFor table "dict.update.loop"=some Builtin.«dict.update.loop»:=entryFor_of_tree (by kernel_rfl)
theorem cX:plainId "dict.update.loop"=true:=by decide +kernel
theorem Cc{Y:Type}[DecidableEq Y](knd:KeyKind prog w Y)(d it l:zdF)(items:Array zdG)(res:zdG)(hA:A.handled=none)(Ek:it≠d):∀(r:List (zdF×Y×zdG×zdG))(i:Nat)(j:Int)(u:Tok)(aB:List (Y×zdG))(s:zdP),
 items.toList.drop i=r.map (fun q=>yac q.1)->(∀q∈r,s.heap.IsTuple q.1 #[q.2.2.1,q.2.2.2]/\knd.is q.2.1 q.2.2.1=true)->s.heap.IsListIter it l i->s.heap.IsList l items->s.heap.DictOf knd d aB->aB.length+r.length<=zdN->
 (∀h' tk,h'.DictOf knd d (merged aB (r.map fun q=>(q.2.1,q.2.2.2)))->(∀b o,b≠d->b≠it->s.heap.get? b=some o->h'.get? b=some o)->R (.ok (.ret res)) {s with heap:=h',toks:=tk})->
 codeAny (model prog w) A (.builtin "dict.update.loop" ⟨[.ref d,.ref it,.int j u,res],[]⟩) R s
 |[],i,j,u,aB,s,hi,hp,hit,hl,hd,hz,hR=>by
  refine yat i3 ?_;rw[yaq cX _];show yab _ A.in1 (yaR (.ref it) >>= _) _ _ s;refine zdI (ybA hA hit hl (by rw[<- zaB];rw[za8] at hi;exact zbk (zca.mp hi)) fun h' ext=>?_);show yab _ _ (ybn d [] >>= _) _ _ _;refine zdI (zdJ (zdJ (hR h' s.toks ?_ fun b o _ h2 e=>?_)))
  .obtain⟨o,es,ep,ho,rest⟩:=hd;exact⟨o,es,ep,ext d o Ek.symm ho,rest⟩
  .exact ext b o h2 e
 |q::r,i,j,u,aB,s,hi,hp,hit,hl,hd,hz,hR=>by
  have hx:items[i]?=some (yac q.1):=by
   rw[<- zaB,<- zb1,hi];rfl
  refine yat i3 ?_;rw[yaq cX _];show yab _ A.in1 (yaR (.ref it) >>= _) _ _ s;refine zdI (ybv hit hl hx fun h' KQ sb=>?_);obtain⟨⟨oq,UW,Tj,nq,YQ⟩,kq⟩:=hp q (zao ..);have niq:q.1≠it:=fun z=>by
   obtain⟨oi,Ep,K9,_⟩:=hit;rw[z,Ep] at UW;cases UW;rw[K9] at Tj;exact ybX (yal Tj) (by decide)
  have La:h'.get? q.1=some oq:=(sb.2 _ niq).trans UW;have BN:h'.DictOf knd d aB:=by
   obtain⟨o,es,ep,ho,rest⟩:=hd;exact⟨o,es,ep,(sb.2 d Ek.symm).trans ho,rest⟩
  show yab _ A.in1 (holding [yac q.1] _ >>= _) _ _ _;refine zdI (zdK (zdI (wpAny_tryCatch ?_)));unfold ybw;refine zdI (ya4 (T:="tuple") ⟨oq,La,Tj⟩ ?_);rw[ybS (by decide)];refine zdI (yak (s:={s with heap:=h' }) La YQ (zdJ ?_));show yab _ A.in1 (holding [q.2.2.1,q.2.2.2] (dictSet d q.2.2.1 q.2.2.2)) _ _ _;refine zdK (wpAny_dictSet_pairs (s:={s with heap:=h' }) kq BN (fun h2 hd2 Jn=>?_) (by simp only[zaq] at hz;lia));refine zdJ ⟨plainId_quiet cX _,?_⟩;refine Cc knd d it l items res hA Ek r (i+1) (j+1) _ _ _ ?_ (fun p UX=>?_) ?_ ?_ hd2 ?_ fun h3 tk UY keep=>hR h3 tk UY fun b o n1 n2 e=>keep b o n1 n2 ?_
  .rw[<- zb8,hi];rfl
  .obtain⟨⟨op,RO,RP,np,YR⟩,kp⟩:=hp p (zag _ UX);refine⟨⟨op,?_,RP,np,YR⟩,kp⟩;have n1:p.1≠it:=fun z=>by
    obtain⟨oi,Ep,K9,_⟩:=hit;rw[z,Ep] at RO;cases RO;rw[K9] at RP;exact ybX (yal RP) (by decide)
   have n2:p.1≠d:=fun z=>by
    obtain⟨od,_,_,RQ,_,KN,_⟩:=hd;rw[z,RQ] at RO;cases RO;rw[KN] at YR;cases YR
   exact(Jn.2 _ n2).trans ((sb.2 _ n1).trans RO)
  .obtain⟨oi,Ep,rest⟩:=KQ;exact⟨oi,(Jn.2 _ Ek).trans Ep,rest⟩
  .obtain⟨ol,Lb,Nl,nl,RR⟩:=hl;have n1:l≠it:=fun z=>by
    obtain⟨oi,Ep,K9,_⟩:=hit;rw[z,Ep] at Lb;cases Lb;rw[K9] at Nl;exact ybX (yal Nl) (by decide)
   have n2:l≠d:=fun z=>by
    obtain⟨od,_,_,RQ,_,KN,_⟩:=hd;rw[z,RQ] at Lb;cases Lb;rw[KN] at RR;cases RR
   exact⟨ol,(Jn.2 _ n2).trans ((sb.2 _ n1).trans Lb),Nl,nl,RR⟩
  .have:=stored_length_le aB q.2.1 q.2.2.2;simp only[zaq] at hz;lia
  .exact(Jn.2 _ n1).trans ((sb.2 _ n2).trans e)
theorem dict_list{Y:Type}[DecidableEq Y](knd:KeyKind prog w Y)(l:zdF)(hA:A.handled=none)(r:List (zdF×Y×zdG×zdG))(hx:s.heap.get? l=some ⟨.type "list",none,.seq items n,sl⟩)
 (hi:items.toList=r.map (fun q=>yac q.1)) (hp:∀q∈r,s.heap.IsTuple q.1 #[q.2.2.1,q.2.2.2]/\knd.is q.2.1 q.2.2.1=true) (hz:r.length<=zdN)
 (h:∀h' tk,h'.DictOf knd s.heap.objs.size (merged [] (r.map fun q=>(q.2.1,q.2.2.2)))->(∀b o,s.heap.get? b=some o->h'.get? b=some o)->Q (.ref s.heap.objs.size) {s with heap:=h',toks:=tk}) :
 yab (model prog w) A (call (.type "dict") [.ref l]) Q E s:=by
 refine callType_codes (Q₁:=fun obj s₁=>obj=.ref s.heap.objs.size/\s₁={s with heap:=s.heap.push {cls:=.type "dict",data:=.dict #[]} }) F.kt_called_dict (ybC _) F.entry_dict_init (kt_code_dict_new _ ⟨rfl,rfl⟩) ?_
 rintro obj s₁ ⟨rfl,rfl⟩
 have xq:(s.heap.push {cls:=.type "dict",data:=.dict #[]}).DictOf knd s.heap.objs.size []:=Heap.DictOf.new s.heap;have iT:∀b o,s.heap.get? b=some o->(s.heap.push {cls:=.type "dict",data:=.dict #[]}).get? b=some o:=fun b o e=>yaa _ e;refine⟨xq.typeIs,F.args_dict_init_2 _ _,?_⟩;unfold Builtin.«dict.__init__»;refine zdI ?_;unfold ybo;refine zdI (ybd xq.typeIs ?_);show yab _ _ (pure (s.heap.objs.size,[yac l])) _ _ _;refine zdJ ?_;show yab _ _ (yaE "dict.__init__" s.heap.objs.size (.ref l) [] .none) _ _ _;unfold yaE;refine zdI (ya4 (T:="list") ⟨_,iT _ _ hx,rfl⟩ ?_);rw[ybS (by decide)];refine zdI (zF (n:=n) (sl:=sl) l (iT _ _ hx) hA fun h2 Qh ia=>?_);rw[ybS (show (none:Option zdG).isNone=true from rfl)];refine zdI (ybg ?_);have Rv:h2.IsList l items:=⟨_,ia _ _ (iT _ _ hx),rfl,n,rfl⟩
 have hd2:h2.DictOf knd s.heap.objs.size []:=by
  obtain⟨o,es,ep,ho,rest⟩:=xq;exact⟨o,es,ep,ia _ _ ho,rest⟩
 refine zdI (yaF (s:={s with heap:=h2,toks:=Qh}) Rv ?_);have pH:∀b o,h2.get? b=some o->(h2.push {cls:=.type "list_iterator",data:=.fields #[.ref l,.int 0 0]}).get? b=some o:=fun b o e=>yaa _ e;have nd:h2.objs.size≠s.heap.objs.size:=by
  obtain⟨o,es,ep,ho,_⟩:=hd2;exact fun e=>ybX (yad ho) (by rw[e];exact zaO _)
 refine zdJ ⟨plainId_quiet cX _,?_⟩;refine Cc (A:=A.in1) knd s.heap.objs.size h2.objs.size l items .none hA nd r 0 0 _ [] _ (by simpa using hi) (fun q hq=>?_) ⟨_,yae _ rfl,rfl,rfl⟩ ?_ ?_ (by simpa using hz) fun h4 RS UZ xr=>?_
 .obtain⟨⟨o,ho,rest⟩,kq⟩:=hp q hq;exact⟨⟨o,pH _ _ (ia _ _ (iT _ _ ho)),rest⟩,kq⟩
 .obtain⟨o,ho,rest⟩:=Rv;exact⟨o,pH _ _ ho,rest⟩
 .obtain⟨o,es,ep,ho,rest⟩:=hd2;exact⟨o,es,ep,pH _ _ ho,rest⟩
 .refine⟨rfl,h h4 RS UZ fun b o e=>xr b o (fun z=>?_) (fun z=>?_) (pH _ _ (ia _ _ (iT _ _ e)))⟩
  .rw[z] at e;exact ybX (yad e) (zaO _)
  .have:=yad (ia _ _ (iT _ _ e));rw[z] at this;exact ybX this (zaO _)
end
end L3
namespace L2
open PG
open PySem PyProof.Rows
theorem rO(hc:X.calm=true):kK X (.type "dict") (fun xs H Q=>∃(a:zdF) (ps:List (zdF×Key×V)),xs=[.ref a]/\iR X.K H a (ps.map fun q=>V.ref q.1)/\(∀q∈ps,bH X.K H q.1 [kV q.2.1,q.2.2])/\ps.length<=zdN/\
 ∀p,H p=none->Q (.ref p) (upd H p (.dK (nj [] (ps.map fun q=>(q.2.1,q.2.2)))))):=by
 intro pins s G H xs us Q I r h;obtain⟨a,ps,rfl,ha,hp,hz,q⟩:=h;obtain⟨u,rfl,ru⟩:=vals1 r;cases (show u=yac a from ru);obtain⟨bc,v1,t1,_⟩:=I.list ha;obtain⟨⟨cls,dct,dat,sl⟩,n,e1,U0,RT,Qi⟩:=t1;simp only at U0 RT Qi;subst U0 RT Qi;have mk:∀(l:List (zdF×Key×V)) (us:List zdG),Vals (l.map fun q=>V.ref q.1) us->(∀q∈l,bH X.K H q.1 [kV q.2.1,q.2.2])->∃r:List (zdF×Key×zdG×zdG),us=r.map (fun q=>yac q.1)/\r.length=l.length/\
  (∀q∈r,s.heap.IsTuple q.1 #[q.2.2.1,q.2.2.2]/\(bF X.prog X.w).is q.2.1 q.2.2.1=true)/\KV (l.map fun q=>(q.2.1,q.2.2)) (r.map fun q=>(q.2.1,q.2.2.2)):=by
  intro l
  induction l with
  |nil=>intro us v _;cases v;exact⟨[],rfl,rfl,fun _ z=>(by cases z),.nil⟩
  |cons x l ih=>
   intro us v hp;rw[zas] at v;cases v with
   |cons v1 v2=>
    obtain⟨r,e,lr,hr,kv⟩:=ih _ v2 (fun q hq=>hp q (zag _ hq));obtain⟨oW,w1,tu,_⟩:=I.tuple (hp x (zao ..));obtain⟨ku,vu,rfl,rk,rv⟩:=vals2 w1;cases v1;obtain⟨o,ho,hco,no,hdo⟩:=tu;refine⟨(x.1,x.2.1,ku,vu)::r,by rw[e];rfl,by simp[lr],fun q hq=>?_,.cons ⟨rfl,rv⟩ kv⟩;rcases zak.mp hq with rfl |hq
    .exact⟨⟨o,ho,hco,no,hdo⟩,zv rk⟩
    .exact hr q hq
 obtain⟨r',er,lr,hr,kv⟩:=mk ps bc v1 hp;refine L3.dict_list (bF X.prog X.w) a (I.ok.hd hc) r' e1 (by simpa using er) hr (by lia) fun h' tk dd keep=>?_;have hn:=I.bS.fresh (zah s.heap.objs.size);have hb:(s.heap.objs.size==yar)=false:=beq_eq_false_iff_ne.mpr (Ne.symm (zaz I.big));refine⟨.ref s.heap.objs.size,_,I.laid keep (zah _) (Eg ?_ hb (kv.merge .nil) dd),rfl,q _ hn⟩;have h1:=lV (ps.map fun q=>(q.2.1,q.2.2)) [];rw[zbI,zac] at h1;lia
end L2
namespace L3
open PG
open PySem PyProof.Rows
section
variable{prog:zdR}{w:zdH}{A:zdQ}{E:zdG->zdP->Prop}{s:zdP}
theorem Er(hj:s.heap.IsTupleIter j tp k)(ht:s.heap.IsTuple tp bc)(hv:bc[k]?=some v)
 (hQ:∀h',h'.IsTupleIter j tp (k+1)->yay j s.heap h'->Q v {s with heap:=h' }):yab (model prog w) A (yam (.ref j)) Q E s:=by
 obtain⟨oj,gj,cj,dj⟩:=id hj;obtain⟨ot,gt,_,nt,dt⟩:=ht;unfold yam;refine zdI (wpAny_callSpecial?_slot (name:=zab "__next__") hj.typeIs F.slot_tuple_iterator_next (yaK F.slot_tuple_iterator_next hj.typeIs F.entry_tuple_iterator_next ?_ (F.args_tuple_iterator_next_1 _)));show yab _ _ (field (.ref j) 0 >>= _) _ _ s;refine zdI (yax gj dj (x:=.ref tp) rfl ?_);show yab _ _ (if (yac tp==yaA)=true then _ else _) _ _ s;rw[ybR (show ¬((yac tp==yaA)=true) from zam)];show yab _ _ (field (.ref j) 1 >>= _) _ _ s;refine zdI (yax gj dj (x:=.int k 0) rfl ?_);show yab _ _ (seqItems? (.ref tp) >>= _) _ _ s;refine zdI (yak gt dt ?_);simp only[zbL,hv];refine zdI (wpAny_setField gj dj (by simp) (zdJ ⟨v,rfl,zdJ (hQ _ ?_ (yaQ ..))⟩));exact⟨_,yaz _ gj (Obj.isFreed_of_fields (ybp dj _)),(Obj.cls_mapFields ..).trans cj,by rw[ybp dj];simp[yaS]⟩
structure Nm(prog:zdR)(w:zdH)(j tp:zdF)(ys:Array zdG)(I:yaf->Nat->Prop):Prop where
 Ol:∀{A:zdQ} {E:zdG->zdP->Prop} {s:zdP} {i:Nat} {y:zdG} {Q:zdG->zdP->Prop},I s.heap i->ys[i]?=some y->(∀h',I h' (i+1)->yay j s.heap h'->Q y {s with heap:=h' })->yab (model prog w) A (yam (.ref j)) Q E s
 kp:∀{h h':yaf} {i:Nat},I h i->(∀b o,b=j\/b=tp->h.get? b=some o->h'.get? b=some o)->I h' i
 cj:∀ {h:yaf} {i:Nat},I h i->∃o c,h.get? j=some o/\o.cls=.type c/\c≠"zip"/\c≠"list"/\c≠"tuple"/\c≠"dict"
 ct:∀ {h:yaf} {i:Nat},I h i->∃o c,h.get? tp=some o/\o.cls=.type c/\c≠"zip"/\c≠"list_iterator"/\c≠"dict"
theorem Om:Nm prog w j tp ys (fun h i=>h.IsTupleIter j tp i/\h.IsTuple tp ys) where
 Ol:=fun ⟨hj,ht⟩ hy hQ=>Er hj ht hy fun h' Tn sb=>hQ h' ⟨Tn,by
  obtain⟨o,go,c,n,d⟩:=ht;refine⟨o,(sb.2 tp fun e=>?_).trans go,c,n,d⟩;obtain⟨r,gr,cr,_⟩:=hj;rw[e,gr] at go;cases go;rw[cr] at c;exact ybX (yal c) (by decide)⟩ sb
 kp:=fun ⟨⟨o,go,r⟩,q,gq,r2⟩ k=>⟨⟨o,k _ _ (.inl rfl) go,r⟩,q,k _ _ (.inr rfl) gq,r2⟩
 cj:=fun ⟨⟨o,go,c,_⟩,_⟩=>⟨o,_,go,c,by decide,by decide,by decide,by decide⟩
 ct:=fun ⟨_,o,go,c,_⟩=>⟨o,_,go,c,by decide,by decide,by decide⟩
theorem Oq:Nm prog w j tp ys (fun h i=>h.IsListIter j tp i/\h.IsList tp ys) where
 Ol:=fun ⟨hj,ht⟩ hy hQ=>ybx hj ht hy fun h' Tn sb=>hQ h' ⟨Tn,by
  obtain⟨o,go,c,n,d⟩:=ht;refine⟨o,(sb.2 tp fun e=>?_).trans go,c,n,d⟩;obtain⟨r,gr,cr,_⟩:=hj;rw[e,gr] at go;cases go;rw[cr] at c;exact ybX (yal c) (by decide)⟩ sb
 kp:=fun ⟨⟨o,go,r⟩,q,gq,r2⟩ k=>⟨⟨o,k _ _ (.inl rfl) go,r⟩,q,k _ _ (.inr rfl) gq,r2⟩
 cj:=fun ⟨⟨o,go,c,_⟩,_⟩=>⟨o,_,go,c,by decide,by decide,by decide,by decide⟩
 ct:=fun ⟨_,o,go,c,_⟩=>⟨o,_,go,c,by decide,by decide,by decide⟩
theorem fL{h:yaf}(e:h.get? a=some o)(e':h.get? b=some o')(hc:o.cls=.type c)(Q0:o'.cls=.type c')(n:c≠c'):a≠b:=fun q=>by
 rw[q,e'] at e;cases e;rw[hc] at Q0;exact n (yal Q0)
abbrev yz (h:yaf) (z ti to:zdF) (f g:zdG):Prop:=h.get? z=some {cls:=.type "zip",dict:=none,data:=.fields #[f,g,.bool false,.ref ti,.ref to],slots:=#[]}
theorem Cd{z ti to T:zdF}(hz:yz s.heap z ti to (.int T u) (.bool g))(hT:s.heap.get? T=some o)
 (h:∀h₀,yz h₀ z ti to (.int T u) (.bool true)->yay z s.heap h₀->R false {s with heap:=h₀}):yab (model prog w) A (yaj (.ref z)) R E s:=by
 unfold yaj;refine zdI (yax hz rfl (x:=.int T u) rfl ?_);show yab _ _ (loadIfAlive (T:Int).toNat >>= _) _ _ _;refine zdI ?_;have alive:∀{R:Option Obj->zdP->Prop},R (some o) s->yab (model prog w) A (loadIfAlive (T:Int).toNat) R E s:=fun h=>by
  rw[zbL];intro Γ p hp;unfold loadIfAlive;rw[Sem.wp_loadIfAlive,hT];exact h
 refine alive ?_;rw[ybR (by simp)];refine zdI (yax hz rfl (x:=.bool g) rfl ?_);cases g with
 |false=>
  rw[ybS (by decide)];exact zdI (yaU hz (by simp) fun h₀ F4 sb=>zdJ (h h₀ F4 sb))
 |true=>
  rw[ybR (by decide)];exact zdJ (h s.heap hz (Heap.SameBut.refl _ _))
theorem Es{z ti to j1 j2 l tp T:zdF}{Q:zdG->zdP->Prop}(Z2:Nm prog w j2 tp ys I2)(hz:yz s.heap z ti to (.int T u) (.bool g))(hT:s.heap.get? T=some o)(hI:IsPair s.heap ti (.ref j1) (.ref j2))
 (h1:s.heap.IsListIter j1 l i) (h2:I2 s.heap i) (hl:s.heap.IsList l xs) (DF:z≠j1) (Ot:z≠j2) (Qj:j1≠j2) (hx:xs[i]?=some x) (hy:ys[i]?=some y)
 (hQ:∀h',yz h' z ti to (.int T u) (.bool true)->h'.IsListIter j1 l (i+1)->I2 h' (i+1)->IsPair h' s.heap.objs.size x y->h'.objs.size=s.heap.objs.size+1->
  (∀c o,c≠z->c≠j1->c≠j2->s.heap.get? c=some o->h'.get? c=some o)->Q (.ref s.heap.objs.size) {s with heap:=h' }) :
 yab (model prog w) A (Builtin.«zip.__next__» ⟨[.ref z],[]⟩) (fun fin s'=>∃v,fin=.done (.ret v)/\Q v s') E s:=by
 have lz:l≠z:=fun e=>by
  obtain⟨q,gq,cq,_⟩:=hl;rw[e,hz] at gq;cases gq;exact ybX (yal cq) (by decide)
 have lj1:l≠j1:=fun e=>by
  obtain⟨q,gq,cq,_⟩:=hl;obtain⟨r,gr,cr,_⟩:=h1;rw[e,gr] at gq;cases gq;rw[cr] at cq;exact ybX (yal cq) (by decide)
 obtain⟨tq,tc,Va,Vb,YS,YT,_⟩:=Z2.ct h2;have tz:tp≠z:=fL Va hz Vb rfl YS;have YU:tp≠j1:=by
  obtain⟨r,gr,cr,_⟩:=id h1;exact fL Va gr Vb cr YT
 show yab _ _ (field (.ref z) 2 >>= _) _ _ _;refine zdI (yax hz rfl (x:=.bool false) rfl ?_);show yab _ _ (field (.ref z) 3 >>= _) _ _ _;refine zdI (yax hz rfl (x:=.ref ti) rfl ?_);refine zdI (yak hI rfl ?_);show yab _ _ (yaj (.ref z) >>= _) _ _ _;refine zdI (Cd hz hT fun h₀ F4 qM=>?_);dsimp only;rw[ybR zam];refine zdI ?_;simp only[List.forIn_toArray,zaP,zbh];refine zdI (zdI (zdK ?_));show yab _ _ (yam (.ref j1) >>= _) _ _ _;refine zdI (ybx (s:={s with heap:=h₀}) (h1.extBut qM.extBut DF.symm) (hl.extBut qM.extBut lz) hx fun h₂ Vc jE=>zdJ ?_);refine zdJ ?_;refine zdI (zdI (zdK ?_));show yab _ _ (yam (.ref j2) >>= _) _ _ _;have YV:I2 h₂ i:=Z2.kp h2 fun b o hb e=>by
  rcases hb with rfl |rfl
  .exact jE.extBut _ _ Qj.symm (qM.extBut _ _ Ot.symm e)
  .exact jE.extBut _ _ YU (qM.extBut _ _ tz e)
 refine zdI (Z2.Ol (s:={s with heap:=h₂}) YV hy fun h₃ Vd lH=>zdJ ?_);refine zdJ (zdJ ?_);show yab _ _ (newTuple [x,y] >>= _) _ _ _;have hsz:h₃.objs.size=s.heap.objs.size:=by rw[lH.1,jE.1,qM.1]
 refine zdI (wpAny_newTuple (s:={s with heap:=h₃}) ?_);refine zdJ ⟨_,rfl,?_⟩;show Q (.ref h₃.objs.size) _;have hp:IsPair (h₃.push {cls:=.type "tuple",data:=.seq #[x,y]}) h₃.objs.size x y:=yae _ rfl;have Qi:(h₃.push {cls:=.type "tuple",data:=.seq #[x,y]}).objs.size=h₃.objs.size+1:=yan ..;rw[hsz] at hp Qi ⊢;have up:∀c o,h₃.get? c=some o->(h₃.push {cls:=.type "tuple",data:=.seq #[x,y]}).get? c=some o:=fun c o e=>yaa _ e;refine hQ _ (up _ _ (lH.extBut _ _ Ot (jE.extBut _ _ DF F4))) ?_ ?_ hp Qi fun c o c1 c2 c3 e=>up _ _ (lH.extBut _ _ c3 (jE.extBut _ _ c2 (qM.extBut _ _ c1 e)))
 .obtain⟨q,gq,rest⟩:=Vc;exact⟨q,up _ _ (lH.extBut _ _ Qj gq),rest⟩
 .exact Z2.kp Vd fun b o _ e=>up _ _ e
theorem Ie{z ti to j1 j2 l T:zdF}(hA:A.handled=none)(hz:yz s.heap z ti to (.int T u) (.bool g))(hT:s.heap.get? T=some o)(hI:IsPair s.heap ti (.ref j1) (.ref j2))
 (h1:s.heap.IsListIter j1 l i) (hl:s.heap.IsList l xs) (DF:z≠j1) (hx:xs[i]?=none)
 (hE:∀h' e,(∀c o,c≠z->c≠j1->s.heap.get? c=some o->h'.get? c=some o)->(∃o,h'.get? e=some o/\o.cls=.type "StopIteration")->E (.ref e) {s with heap:=h' }) :
 yab (model prog w) A (Builtin.«zip.__next__» ⟨[.ref z],[]⟩) Q E s:=by
 have lz:l≠z:=fun e=>by
  obtain⟨q,gq,cq,_⟩:=hl;rw[e,hz] at gq;cases gq;exact ybX (yal cq) (by decide)
 show yab _ _ (field (.ref z) 2 >>= _) _ _ _;refine zdI (yax hz rfl (x:=.bool false) rfl ?_);show yab _ _ (field (.ref z) 3 >>= _) _ _ _;refine zdI (yax hz rfl (x:=.ref ti) rfl ?_);refine zdI (yak hI rfl ?_);show yab _ _ (yaj (.ref z) >>= _) _ _ _;refine zdI (Cd hz hT fun h₀ F4 qM=>?_);dsimp only;rw[ybR zam];refine zdI ?_;simp only[List.forIn_toArray,zaP,zbh];refine zdI (zdI (zdK ?_));show yab _ _ (yam (.ref j1) >>= _) _ _ _;exact zdI (wpAny_nextOf_list_end (s:={s with heap:=h₀}) hA (h1.extBut qM.extBut DF.symm) (hl.extBut qM.extBut lz) hx fun h₂ e jE he=>hE h₂ e (fun c o c1 c2 q=>jE _ _ c2 (qM.extBut _ _ c1 q)) he)
theorem Et{Q:zdG->zdP->Prop}(Z2:Nm prog w j2 tp ys I2)(hz:yz s.heap z ti to .none (.bool false))(hO:IsPair s.heap to a b)(hI:IsPair s.heap ti (.ref j1) (.ref j2))
 (h1:s.heap.IsListIter j1 l i) (h2:I2 s.heap i) (hl:s.heap.IsList l xs) (DF:z≠j1) (Ot:z≠j2) (Ve:z≠to) (Lc:to≠j1) (Ld:to≠j2) (Qj:j1≠j2) (Ou:tp≠to) (hx:xs[i]?=some x) (hy:ys[i]?=some y)
 (hQ:∀h',yz h' z ti to (yaS s.heap.objs.size) (.bool false)->h'.IsListIter j1 l (i+1)->I2 h' (i+1)->IsPair h' s.heap.objs.size x y->h'.objs.size=s.heap.objs.size+1->
  (∀c o,c≠z->c≠to->c≠j1->c≠j2->s.heap.get? c=some o->h'.get? c=some o)->Q (.ref s.heap.objs.size) {s with heap:=h' }) :
 yab (model prog w) A (Builtin.«zip.__next__» ⟨[.ref z],[]⟩) (fun fin s'=>∃v,fin=.done (.ret v)/\Q v s') E s:=by
 have lz:l≠z:=fun e=>by
  obtain⟨q,gq,cq,_⟩:=hl;rw[e,hz] at gq;cases gq;exact ybX (yal cq) (by decide)
 obtain⟨tq,tc,Va,Vb,YS,YT,_⟩:=Z2.ct h2;have tz:tp≠z:=fL Va hz Vb rfl YS;have YU:tp≠j1:=by
  obtain⟨r,gr,cr,_⟩:=id h1;exact fL Va gr Vb cr YT
 show yab _ _ (field (.ref z) 2 >>= _) _ _ _;refine zdI (yax hz rfl (x:=.bool false) rfl ?_);show yab _ _ (field (.ref z) 3 >>= _) _ _ _;refine zdI (yax hz rfl (x:=.ref ti) rfl ?_);refine zdI (yak hI rfl ?_);show yab _ _ (yaj (.ref z) >>= _) _ _ _;refine zdI ?_;unfold yaj;refine zdI (yax hz rfl (x:=.none) rfl (zdJ ?_));simp only[if_true];refine zdI (ybg ?_);refine zdI (yax hz rfl (x:=.ref to) rfl ?_);refine zdI (yaU hz (by simp) fun h₁ z₁ pI=>?_);replace z₁:yz h₁ z ti to .ellipsis (.bool false):=z₁;refine zdI ?_;simp only[List.zipIdx_cons,List.zipIdx_nil,zaP,zbh];refine zdI (zdI (wpAny_onRaise ?_));show yab _ _ (yam (.ref j1) >>= _) _ _ _;refine zdI (ybx (h1.extBut pI.extBut DF.symm) (hl.extBut pI.extBut lz) hx fun h₂ k₂ jE=>zdJ ?_);have o₂:IsPair h₂ to a b:=jE.extBut _ _ Lc (pI.extBut _ _ Ve.symm hO);refine zdI (yak o₂ rfl ?_);refine zdI (wpAny_updateSeq_pair o₂ fun h₃ o₃ lH=>?_);replace o₃:IsPair h₃ to x b:=o₃;refine zdI (wpAny_letGo (zdJ ?_));refine zdI (zdI (wpAny_onRaise ?_));show yab _ _ (yam (.ref j2) >>= _) _ _ _;have YV:I2 h₃ i:=Z2.kp h2 fun b o hb e=>by
  rcases hb with rfl |rfl
  .exact lH.extBut _ _ Ld.symm (jE.extBut _ _ Qj.symm (pI.extBut _ _ Ot.symm e))
  .exact lH.extBut _ _ Ou (jE.extBut _ _ YU (pI.extBut _ _ tz e))
 refine zdI (Z2.Ol YV hy fun h₄ k₄ Ce=>zdJ ?_);have o₄:IsPair h₄ to x b:=Ce.extBut _ _ Ld o₃;refine zdI (yak o₄ rfl ?_);refine zdI (wpAny_updateSeq_pair o₄ fun h₅ o₅ zG=>?_);replace o₅:IsPair h₅ to x y:=o₅;refine zdI (wpAny_letGo (zdJ (zdJ ?_)));refine zdI (yak o₅ rfl ?_);refine zdI (wpAny_newTuple ?_);have hsz:h₅.objs.size=s.heap.objs.size:=by rw[zG.1,Ce.1,lH.1,jE.1,pI.1]
 have z₅:yz h₅ z ti to .ellipsis (.bool false):=zG.extBut _ _ Ve (Ce.extBut _ _ Ot (lH.extBut _ _ Ve (jE.extBut _ _ DF z₁)));have kp:∀c o,c≠z->c≠to->c≠j1->c≠j2->s.heap.get? c=some o->h₅.get? c=some o:=fun c o c1 c2 c3 c4 e=>zG.extBut _ _ c2 (Ce.extBut _ _ c4 (lH.extBut _ _ c2 (jE.extBut _ _ c3 (pI.extBut _ _ c1 e))));have zlt:z<h₅.objs.size:=yad z₅;show yab _ _ (ybq (.ref z) (.ref h₅.objs.size) >>= _) _ _ _;refine zdI ?_;unfold ybq;have z₆:yz (h₅.push {cls:=.type "tuple",data:=.seq #[x,y]}) z ti to .ellipsis (.bool false):=yaa _ z₅;refine zdI (yaU z₆ (by simp) fun h₇ z₇ Le=>?_);replace z₇:yz h₇ z ti to (yaS h₅.objs.size) (.bool false):=z₇;refine yaU z₇ (by simp) fun h₈ z₈ Lf=>?_;replace z₈:yz h₈ z ti to (yaS h₅.objs.size) (.bool false):=z₈;have up:∀c o,c≠z->h₅.get? c=some o->h₈.get? c=some o:=fun c o c1 e=>Lf.extBut _ _ c1 (Le.extBut _ _ c1 (yaa _ e));have t₈:IsPair h₈ h₅.objs.size x y:=Lf.extBut _ _ (zaW zlt) (Le.extBut _ _ (zaW zlt) (yae _ rfl));have n₈:h₈.objs.size=h₅.objs.size+1:=by rw[Lf.1,Le.1,yan]
 rw[hsz] at z₈ t₈ n₈;refine zdJ ⟨_,rfl,?_⟩;show Q (.ref h₅.objs.size) _;rw[hsz];refine hQ h₈ z₈ ?_ ?_ t₈ n₈ fun c o c1 c2 c3 c4 e=>up c o c1 (kp c o c1 c2 c3 c4 e)
 .obtain⟨q,gq,rest⟩:=k₂;exact⟨q,up _ _ DF.symm (zG.extBut _ _ Lc.symm (Ce.extBut _ _ Qj (lH.extBut _ _ Lc.symm gq))),rest⟩
 .refine Z2.kp k₄ fun b o hb e=>?_;rcases hb with rfl |rfl
  .exact up _ _ Ot.symm (zG.extBut _ _ Ld.symm e)
  .exact up _ _ tz (zG.extBut _ _ Ou e)
theorem Ig(hA:A.handled=none)(hz:yz s.heap z ti to .none (.bool false))(hI:IsPair s.heap ti (.ref j1) (.ref j2))
 (h1:s.heap.IsListIter j1 l i) (hl:s.heap.IsList l xs) (DF:z≠j1) (hx:xs[i]?=none)
 (hE:∀h' e,(∀c o,c≠z->c≠j1->s.heap.get? c=some o->h'.get? c=some o)->(∃o,h'.get? e=some o/\o.cls=.type "StopIteration")->E (.ref e) {s with heap:=h' }) :
 yab (model prog w) A (Builtin.«zip.__next__» ⟨[.ref z],[]⟩) Q E s:=by
 have lz:l≠z:=fun e=>by
  obtain⟨q,gq,cq,_⟩:=hl;rw[e,hz] at gq;cases gq;exact ybX (yal cq) (by decide)
 show yab _ _ (field (.ref z) 2 >>= _) _ _ _;refine zdI (yax hz rfl (x:=.bool false) rfl ?_);show yab _ _ (field (.ref z) 3 >>= _) _ _ _;refine zdI (yax hz rfl (x:=.ref ti) rfl ?_);refine zdI (yak hI rfl ?_);show yab _ _ (yaj (.ref z) >>= _) _ _ _;refine zdI ?_;unfold yaj;refine zdI (yax hz rfl (x:=.none) rfl (zdJ ?_));simp only[if_true];refine zdI (ybg ?_);refine zdI (yax hz rfl (x:=.ref to) rfl ?_);refine zdI (yaU hz (by simp) fun h₁ z₁ pI=>?_);replace z₁:yz h₁ z ti to .ellipsis (.bool false):=z₁;refine zdI ?_;simp only[List.zipIdx_cons,List.zipIdx_nil,zaP,zbh];refine zdI (zdI (wpAny_onRaise ?_));show yab _ _ (yam (.ref j1) >>= _) _ _ _;refine zdI (wpAny_nextOf_list_end hA (h1.extBut pI.extBut DF.symm) (hl.extBut pI.extBut lz) hx fun h₂ e jE he=>?_);obtain⟨oe,ge,ce⟩:=he;have z₂:yz h₂ z ti to .ellipsis (.bool false):=jE _ _ DF z₁;have ez:e≠z:=fun q=>by subst q;rw[z₂] at ge;cases ge;simp at ce
 exact yaU z₂ (by simp) fun h₃ _ lH=>hE h₃ e (fun c o c1 c3 q=>lH.extBut _ _ c1 (jE _ _ c3 (pI.extBut _ _ c1 q))) ⟨oe,lH.extBut _ _ ez ge,ce⟩
structure Ov(z ti to j1 j2 l tp:zdF):Prop where
 zti:z≠ti
 Ve:z≠to
 DF:z≠j1
 Ot:z≠j2
 YW:ti≠to
 YX:ti≠j1
 YY:ti≠j2
 Lc:to≠j1
 Ld:to≠j2
 Qj:j1≠j2
 Ow:l≠to
 Ou:tp≠to
structure Ih(h:yaf)(z ti to j1 j2 l tp:zdF)(xs:Array zdG)(I2:yaf->Nat->Prop)(i:Nat):Prop where
 zip:(∃a b,yz h z ti to .none (.bool false)/\IsPair h to a b)\/∃(T:zdF) (u:Tok) (a b:zdG) (g:Bool),yz h z ti to (.int T u) (.bool g)/\IsPair h T a b
 ins:IsPair h ti (.ref j1) (.ref j2)
 Jo:h.IsListIter j1 l i
 Lg:I2 h i
 ls:h.IsList l xs
theorem Cf(Z2:Nm prog w j2 tp ys I2)(ap:Ov z ti to j1 j2 l tp)(st:Ih s.heap z ti to j1 j2 l tp xs I2 i)(hx:xs[i]?=some x)(hy:ys[i]?=some y)
 (hQ:∀h',Ih h' z ti to j1 j2 l tp xs I2 (i+1)->IsPair h' s.heap.objs.size x y->(∀c o,c≠z->c≠to->c≠j1->c≠j2->s.heap.get? c=some o->h'.get? c=some o)->Q (some (.ref s.heap.objs.size)) {s with heap:=h' }) :
 yab (model prog w) A (yaR (.ref z)) Q E s:=by
 have zT:s.TypeIs (.ref z) "zip":=by
  rcases st.zip with ⟨a,b,hz,_⟩ |⟨T,u,a,b,g,hz,_⟩
  .exact⟨_,hz,rfl⟩
  .exact⟨_,hz,rfl⟩
 obtain⟨o1,g1,c1,_⟩:=st.Jo;obtain⟨o2,Xb,g2,c2,jn1,Vf,jn3,_⟩:=Z2.cj st.Lg;obtain⟨ol,gl,cl,_⟩:=st.ls;obtain⟨oz,gz,cz⟩:=zT;have lk:∀h',(∀c o,c≠z->c≠to->c≠j1->c≠j2->s.heap.get? c=some o->h'.get? c=some o)->IsPair h' ti (.ref j1) (.ref j2)/\h'.IsList l xs:=fun h' k=>by
  refine⟨k _ _ ap.zti.symm ap.YW ap.YX ap.YY st.ins,?_⟩;obtain⟨q,gq,rest⟩:=st.ls;exact⟨q,k _ _ (fL gl gz cl cz (by decide)) ap.Ow (fL gl g1 cl c1 (by decide)) (fL gl g2 cl c2 (Ne.symm Vf)) gq,rest⟩
 unfold yaR;refine zdI (wpAny_attempt (wpAny_callSpecial?_slot (name:=zab "__next__") ⟨oz,gz,cz⟩ ybD (yaK ybD ⟨oz,gz,cz⟩ F.entry_zip_next ?_ (F.args_zip_next_1 _))));rcases st.zip with ⟨a,b,hz,hO⟩ |⟨T,u,a,b,g,hz,hT⟩
 .refine Et Z2 hz hO st.ins st.Jo st.Lg st.ls ap.DF ap.Ot ap.Ve ap.Lc ap.Ld ap.Qj ap.Ou hx hy fun h' q1 q2 q3 q4 q5 q6=>zdJ ?_;obtain⟨k1,k2⟩:=lk h' q6;exact hQ h' ⟨.inr ⟨_,_,x,y,false,q1,q4⟩,k1,q2,q3,k2⟩ q4 q6
 .refine Es Z2 hz hT st.ins st.Jo st.Lg st.ls ap.DF ap.Ot ap.Qj hx hy fun h' q1 q2 q3 q4 q5 q6=>zdJ ?_;have q6':∀c o,c≠z->c≠to->c≠j1->c≠j2->s.heap.get? c=some o->h'.get? c=some o:=fun c o a1 _ a3 a4 e=>q6 c o a1 a3 a4 e;obtain⟨k1,k2⟩:=lk h' q6';exact hQ h' ⟨.inr ⟨T,u,a,b,true,q1,q6 _ _ (fL hT gz rfl cz (by decide)) (fL hT g1 rfl c1 (by decide)) (fL hT g2 rfl c2 (Ne.symm jn3)) hT⟩,k1,q2,q3,k2⟩ q4 q6'
theorem F5(hA:A.handled=none)(ap:Ov z ti to j1 j2 l tp)(st:Ih s.heap z ti to j1 j2 l tp xs I2 i)(hx:xs[i]?=none)
 (hQ:∀h',(∀c o,c≠z->c≠j1->s.heap.get? c=some o->h'.get? c=some o)->Q none {s with heap:=h' }):yab (model prog w) A (yaR (.ref z)) Q E s:=by
 have zT:s.TypeIs (.ref z) "zip":=by
  rcases st.zip with ⟨a,b,hz,_⟩ |⟨T,u,a,b,g,hz,_⟩
  .exact⟨_,hz,rfl⟩
  .exact⟨_,hz,rfl⟩
 unfold yaR;refine zdI (wpAny_attempt (wpAny_callSpecial?_slot (name:=zab "__next__") zT ybD (yaK ybD zT F.entry_zip_next ?_ (F.args_zip_next_1 _))));rcases st.zip with ⟨a,b,hz,hO⟩ |⟨T,u,a,b,g,hz,hT⟩
 .refine Ig hA hz st.ins st.Jo st.ls ap.DF hx fun h' e k he=>?_;obtain⟨oe,ge,ce⟩:=he;refine zdI (yaB (T:="StopIteration") (b:=true) ⟨oe,ge,ce⟩ isSubtype_stop ?_);exact zdJ (hQ _ k)
 .refine Ie hA hz hT st.ins st.Jo st.ls ap.DF hx fun h' e k he=>?_;obtain⟨oe,ge,ce⟩:=he;refine zdI (yaB (T:="StopIteration") (b:=true) ⟨oe,ge,ce⟩ isSubtype_stop ?_);exact zdJ (hQ _ k)
theorem Ih.but{P:zdF->Prop}(Z2:Nm prog w j2 tp ys I2)(st:Ih h z ti to j1 j2 l tp xs I2 i)(k:∀a o,P a->h.get? a=some o->h'.get? a=some o)(pl:P l)(pt:P tp)(pc:∀a o c,h.get? a=some o->o.cls=.type c->c≠"list"->c≠"dict"->P a):Ih h' z ti to j1 j2 l tp xs I2 i:=by
 have kc:∀a o c,h.get? a=some o->o.cls=.type c->c≠"list"->c≠"dict"->h'.get? a=some o:=fun a o c e hc n1 n2=>k _ _ (pc a o c e hc n1 n2) e;obtain⟨oj,cjj,gj,cj,_,Vf,_,jn4⟩:=Z2.cj st.Lg;refine⟨?_,kc _ _ _ st.ins rfl (by decide) (by decide),?_,Z2.kp st.Lg fun b o hb e=>?_,?_⟩
 .rcases st.zip with ⟨a,b,hz,hO⟩ |⟨T,u,a,b,g,hz,hT⟩
  .exact .inl ⟨a,b,kc _ _ _ hz rfl (by decide) (by decide),kc _ _ _ hO rfl (by decide) (by decide)⟩
  .exact .inr ⟨T,u,a,b,g,kc _ _ _ hz rfl (by decide) (by decide),kc _ _ _ hT rfl (by decide) (by decide)⟩
 .obtain⟨o,go,hc,hd⟩:=st.Jo;exact⟨o,kc _ _ _ go hc (by decide) (by decide),hc,hd⟩
 .rcases hb with rfl |rfl
  .rw[gj] at e;cases e;exact kc _ _ _ gj cj Vf jn4
  .exact k _ _ pt e
 .obtain⟨o,go,rest⟩:=st.ls;exact⟨o,k _ _ pl go,rest⟩
theorem F6{Y:Type}[DecidableEq Y](knd:KeyKind prog w Y)(d z ti to j1 j2 l tp:zdF)(xs ys:Array zdG)(Z2:Nm prog w j2 tp ys I2)(res:zdG)(hA:A.handled=none)(ap:Ov z ti to j1 j2 l tp)(dto:d≠to):∀(r:List (Y×zdG×zdG))(i:Nat)(j:Int)(u:Tok)(aB:List (Y×zdG))(s:zdP),
 xs.toList.drop i=r.map (·.2.1)->ys.toList.drop i=r.map (·.2.2)->(∀q∈r,knd.is q.1 q.2.1=true)->Ih s.heap z ti to j1 j2 l tp xs I2 i->s.heap.DictOf knd d aB->aB.length+r.length<=zdN->
 (∀h' tk,h'.DictOf knd d (merged aB (r.map fun q=>(q.1,q.2.2)))->(∀b o,b≠d->b≠z->b≠to->b≠j1->b≠j2->s.heap.get? b=some o->h'.get? b=some o)->R (.ok (.ret res)) {s with heap:=h',toks:=tk})->
 codeAny (model prog w) A (.builtin "dict.update.loop" ⟨[.ref d,.ref z,.int j u,res],[]⟩) R s
 |[],i,j,u,aB,s,hi,hk,hp,st,hd,hz,hR=>by
  refine yat i3 ?_;rw[yaq cX _];show yab _ A.in1 (yaR (.ref z) >>= _) _ _ s;have dn:∀a o,s.heap.get? a=some o->(∀es n,o.data≠.dict es n)->a≠d:=fun a o e n q=>by
   obtain⟨od,_,_,Lh,_,KN,_⟩:=hd;rw[q,Lh] at e;cases e;exact n _ _ KN
  refine zdI (F5 hA ap st (by rw[<- zaB];rw[za8] at hi;exact zbk (zca.mp hi)) fun h' kp=>?_);show yab _ _ (ybn d [] >>= _) _ _ _;refine zdI (zdJ (zdJ (hR h' s.toks ?_ fun b o _ c1 _ c3 _ e=>kp b o c1 c3 e)));have dz:d≠z:=by
   rcases st.zip with ⟨a,b,gz,_⟩ |⟨T,u,a,b,g,gz,_⟩
   .exact(dn _ _ gz (by intro es n q;cases q)).symm
   .exact(dn _ _ gz (by intro es n q;cases q)).symm
  have dj:d≠j1:=by
   obtain⟨o,go,hc,BN⟩:=st.Jo;exact(dn _ _ go (by intro es n q;rw[BN] at q;cases q)).symm
  obtain⟨o,es,ep,ho,rest⟩:=hd;exact⟨o,es,ep,kp d o dz dj ho,rest⟩
 |q::r,i,j,u,aB,s,hi,hk,hp,st,hd,hz,hR=>by
  have hx:xs[i]?=some q.2.1:=by
   rw[<- zaB,<- zb1,hi];rfl
  have hy:ys[i]?=some q.2.2:=by
   rw[<- zaB,<- zb1,hk];rfl
  have dn:∀a o,s.heap.get? a=some o->(∀es n,o.data≠.dict es n)->a≠d:=fun a o e n q=>by
   obtain⟨od,_,_,Lh,_,KN,_⟩:=hd;rw[q,Lh] at e;cases e;exact n _ _ KN
  have dz:d≠z:=by
   rcases st.zip with ⟨a,b,gz,_⟩ |⟨T,u,a,b,g,gz,_⟩
   .exact(dn _ _ gz (by intro es n q;cases q)).symm
   .exact(dn _ _ gz (by intro es n q;cases q)).symm
  have dj1:d≠j1:=by
   obtain⟨o,go,hc,BN⟩:=st.Jo;exact(dn _ _ go (by intro es n q;rw[BN] at q;cases q)).symm
  have dj2:d≠j2:=by
   obtain⟨o,c,go,hc,_,_,_,n4⟩:=Z2.cj st.Lg;obtain⟨od,_,_,Lh,hex,_⟩:=hd;exact fL Lh go hex.1 hc (Ne.symm n4)
  refine yat i3 ?_;rw[yaq cX _];show yab _ A.in1 (yaR (.ref z) >>= _) _ _ s;refine zdI (Cf Z2 ap st hx hy fun h' BB pr kp=>?_);have BN:h'.DictOf knd d aB:=by
   obtain⟨o,es,ep,ho,rest⟩:=hd;exact⟨o,es,ep,kp d o dz dto dj1 dj2 ho,rest⟩
  show yab _ A.in1 (holding [yac s.heap.objs.size] _ >>= _) _ _ _;refine zdI (zdK (zdI (wpAny_tryCatch ?_)));unfold ybw;refine zdI (ya4 (T:="tuple") ⟨_,pr,rfl⟩ ?_);rw[ybS (by decide)];refine zdI (yak (s:={s with heap:=h' }) pr rfl (zdJ ?_));show yab _ A.in1 (holding [q.2.1,q.2.2] (dictSet d q.2.1 q.2.2)) _ _ _;refine zdK (wpAny_dictSet_pairs (s:={s with heap:=h' }) (hp q (zao ..)) BN (fun h2 hd2 Jn=>?_) (by simp only[zaq] at hz;lia));refine zdJ ⟨plainId_quiet cX _,?_⟩;refine F6 knd d z ti to j1 j2 l tp xs ys Z2 res hA ap dto r (i+1) (j+1) _ _ _ ?_ ?_ (fun p UX=>hp p (zag _ UX)) (BB.but (P:=(·≠d)) Z2 (fun a o n e=>Jn.extBut _ _ n e) ?_ ?_ fun a o c e hc _ n2 w=>?_) hd2 ?_ fun h3 tk UY keep=>hR h3 tk UY fun b o n1 n2 n3 n4 n5 e=>keep b o n1 n2 n3 n4 n5 ?_
  .rw[<- zb8,hi];rfl
  .rw[<- zb8,hk];rfl
  .obtain⟨ol,gl,cl,_⟩:=BB.ls;obtain⟨od,_,_,Lh,hex,_⟩:=BN;exact fL gl Lh cl hex.1 (by decide)
  .obtain⟨ot,c,gt,ct,_,_,n3⟩:=Z2.ct BB.Lg;obtain⟨od,_,_,Lh,hex,_⟩:=BN;exact fL gt Lh ct hex.1 n3
  .obtain⟨od,_,_,Lh,hex,_⟩:=BN;rw[w,Lh] at e;cases e;rw[hex.1] at hc;exact n2 (yal hc).symm
  .have:=stored_length_le aB q.1 q.2.2;simp only[zaq] at hz;lia
  .exact(Jn.2 _ n1).trans (kp b o n2 n3 n4 n5 e)
theorem Li:typeLookup (.type "zip") "keys"=pure none:=by rw[typeLookup_type,yaL];kernel_rfl
theorem Lj:typeLookup (.type "zip") "__getattr__"=pure none:=by rw[typeLookup_type,yaL];kernel_rfl
theorem Ay:entryFor table "zip.__getattribute__"=some Builtin.«object.__getattribute__»:=entryFor_alias (id':="object.__getattribute__") (by kernel_rfl) (by first |rfl |decide +kernel) (by decide +kernel) (by kernel_rfl)
theorem Ii(a:zdF)(u:Tok){os:OsState}(hx:hp.get? a=some ⟨.type "zip",none,.fields vs, #[]⟩)(hA:A.handled=none)
 (h:∀h' K8 e,Heap.NewAttrErr hp h' e (.ref a) "keys"->E (.ref e) ⟨h',g,d,K8,os⟩) :
 yab (model prog w) A (Builtin.«object.__getattribute__» ⟨[.ref a,.str "keys" u],[]⟩) Q E ⟨hp,g,d,tk,os⟩:=by
 have hT:(⟨hp,g,d,tk,os⟩:zdP).TypeIs (.ref a) "zip":=⟨_,hx,rfl⟩
 have f4:=Li;unfold Builtin.«object.__getattribute__»
 repeat (any_goals (first |assumption |wp_step))
 exact wpAny_raiseAttrError hA h (attrMsg_fits (by decide +kernel) (by size_fits))
theorem Eu(a:zdF)(hx:s.heap.get? a=some ⟨.type "zip",none,.fields vs, #[]⟩)(hA:A.handled=none)
 (h:∀h' tk,(∀b ob,s.heap.get? b=some ob->h'.get? b=some ob)->Q none {s with heap:=h',toks:=tk}):yab (model prog w) A (getAttr? (.ref a) "keys") Q E s:=by
 obtain⟨hp,g,d,tk,os⟩:=s;have hT:∀K8,(⟨hp,g,d,K8,os⟩:zdP).TypeIs (.ref a) "zip":=fun _=>⟨_,hx,rfl⟩
 have f1:=sub_AttributeError;have f2:=ya6.lookup;have f3:=ya6.bind (.ref a);have f5:=Lj;unfold getAttr? getAttrBy? getAttrBy
 repeat (any_goals (first |assumption |exact hT _ |wp_step))
 all_goals
  refine yaZ ya6.plain Ay (ya6.check _ _ _ _ _ _ _ _ (show (⟨hp,g,d,tk+1,os⟩:zdP).TypeIs (.ref a) "zip" from ⟨_,hx,rfl⟩) (F.args_zip_getattribute_2 _ _) ?_)
 all_goals
  refine Ii a tk hx hA fun h' K8 e ne=>?_
 all_goals
  obtain⟨t',u',he⟩:=ne.there;show yab _ _ (getattributeRaised _ _ _ _ _ _ _) _ _ _;unfold getattributeRaised
  repeat (any_goals (first |assumption |wp_step))
 all_goals exact h _ _ ne.keeps
end
noncomputable abbrev zA (h:yaf) (l:zdF):yaf:=h.push {cls:=.type "list_iterator",data:=.fields #[.ref l,.int 0 0]}
abbrev zB (h:yaf) (l tp:zdF):yaf:=(zA h l).push {cls:=.type "tuple_iterator",data:=.fields #[.ref tp,.int 0 0]}
abbrev zC (h:yaf) (l tp:zdF):yaf:=(zB h l tp).push {cls:=.type "tuple",data:=.seq #[.ref h.objs.size,.ref (zA h l).objs.size]}
abbrev zD (h:yaf) (l tp:zdF):yaf:=(zC h l tp).push {cls:=.type "tuple",data:=.seq #[.none,.none]}
abbrev zE (h:yaf) (l tp:zdF):yaf:=(zD h l tp).push {cls:=.type "zip",data:=.fields #[.none,.bool false,.bool false,.ref (zB h l tp).objs.size,.ref (zC h l tp).objs.size]}
theorem Lk(l tp:zdF)(xs ys:Array zdG):Meets (Builtin.«zip.__new__» ⟨[.type "zip",.ref l,.ref tp],[]⟩) (fun _ R s=>s.heap.IsList l xs/\s.heap.IsTuple tp ys/\R (.ok (.ret (.ref (zD s.heap l tp).objs.size))) {s with heap:=zE s.heap l tp}):=
 .of_wp fun prog w A R s h=>by
  obtain⟨hp,g,d,tk,os⟩:=s;obtain⟨g1,g2,h⟩:=h;have Vg:=sub_zip;have k1:Heap.IsList (Shared.heap ⟨hp,g,d,tk,os⟩) l xs:=g1;have k2:Heap.IsTuple (Shared.heap ⟨hp.push {cls:=.type "list_iterator",data:=.fields #[.ref l,.int 0 0]},g,d,tk,os⟩) tp ys:=by
   obtain⟨o,go,rest⟩:=g2;exact⟨o,yaa _ go,rest⟩
  wp_walk using yaF k1,wpAny_pyIter_tuple k2
  exact⟨_,rfl,h⟩
section
variable{prog:zdR}{w:zdH}{A:zdQ}{E:zdG->zdP->Prop}{s:zdP}
theorem F7(n l tp:Nat)(h1:l<n)(h2:tp<n):Ov (n+4) (n+2) (n+3) n (n+1) l tp:=by
 constructor<;>(show (_:Nat)≠_;lia)
theorem Ew(hl:s.heap.IsList l xs)(ht:s.heap.IsTuple tp ys)
 (h:∀h',Ov (s.heap.objs.size+4) (s.heap.objs.size+2) (s.heap.objs.size+3) s.heap.objs.size (s.heap.objs.size+1) l tp->Ih h' (s.heap.objs.size+4) (s.heap.objs.size+2) (s.heap.objs.size+3) s.heap.objs.size (s.heap.objs.size+1) l tp xs (fun h i=>h.IsTupleIter (s.heap.objs.size+1) tp i/\h.IsTuple tp ys) 0->
  yz h' (s.heap.objs.size+4) (s.heap.objs.size+2) (s.heap.objs.size+3) .none (.bool false)->(∀c o,s.heap.get? c=some o->h'.get? c=some o)->Q (.ref (s.heap.objs.size+4)) {s with heap:=h' }) :
 yab (model prog w) A (call (.type "zip") [.ref l,.ref tp]) Q E s:=by
 refine callType_new F.called_zip (by decide) (F.typeCall_zip_2 _ _) (F.newCall_zip_2 _ _) (fun obj=>F.args_object_init_3 obj _ _) F.entry_zip_new (Lk l tp xs ys) ⟨hl,ht,?_⟩;have z1:(zA s.heap l).objs.size=s.heap.objs.size+1:=yan ..;have z2:(zB s.heap l tp).objs.size=s.heap.objs.size+2:=by rw[yan,z1]
 have z3:(zC s.heap l tp).objs.size=s.heap.objs.size+3:=by rw[yan,z2]
 have z4:(zD s.heap l tp).objs.size=s.heap.objs.size+4:=by rw[yan,z3]
 have g5:(zE s.heap l tp).get? (zD s.heap l tp).objs.size=some _:=yae _ rfl;have g4:(zE s.heap l tp).get? (zC s.heap l tp).objs.size=some _:=yaa _ (yae _ rfl);have g3:(zE s.heap l tp).get? (zB s.heap l tp).objs.size=some _:=yaa _ (yaa _ (yae _ rfl));have g2:(zE s.heap l tp).get? (zA s.heap l).objs.size=some _:=yaa _ (yaa _ (yaa _ (yae _ rfl)));have g1:(zE s.heap l tp).get? s.heap.objs.size=some _:=yaa _ (yaa _ (yaa _ (yaa _ (yae _ rfl))));have up:∀c o,s.heap.get? c=some o->(zE s.heap l tp).get? c=some o:=fun c o e=>yaa _ (yaa _ (yaa _ (yaa _ (yaa _ e))));show _/\_;rw[z2,z3,z4] at g5;rw[z1,z2] at g3;rw[z3] at g4;rw[z1] at g2;rw[z4];obtain⟨ol,gl,rl⟩:=id hl;obtain⟨ot,gt,rt⟩:=id ht;have ll:=yad gl;have lt:=yad gt;refine⟨⟨_,g5,rfl⟩,h _ (F7 _ _ _ ll lt) ⟨.inl ⟨_,_,g5,g4⟩,g3,⟨_,g1,rfl,rfl⟩,⟨⟨_,g2,rfl,rfl⟩,ot,up _ _ gt,rt⟩,⟨ol,up _ _ gl,rl⟩⟩ g5 up⟩
theorem Ll{Y:Type}[DecidableEq Y](knd:KeyKind prog w Y)(z ti to j1 j2 l tp:zdF)(Z2:Nm prog w j2 tp ys I2)(hA:A.handled=none)(ap:Ov z ti to j1 j2 l tp)(st:Ih s.heap z ti to j1 j2 l tp xs I2 0)(gz:yz s.heap z ti to .none (.bool false))(r:List (Y×zdG×zdG))
 (hi:xs.toList=r.map (·.2.1)) (hk:ys.toList=r.map (·.2.2)) (hp:∀q∈r,knd.is q.1 q.2.1=true) (hz:r.length<=zdN) (Ow:to<s.heap.objs.size)
 (h:∀h' tk,h'.DictOf knd s.heap.objs.size (merged [] (r.map fun q=>(q.1,q.2.2)))->(∀b o,b≠z->b≠to->b≠j1->b≠j2->s.heap.get? b=some o->h'.get? b=some o)->Q (.ref s.heap.objs.size) {s with heap:=h',toks:=tk}) :
 yab (model prog w) A (call (.type "dict") [.ref z]) Q E s:=by
 refine callType_codes (Q₁:=fun obj s₁=>obj=.ref s.heap.objs.size/\s₁={s with heap:=s.heap.push {cls:=.type "dict",data:=.dict #[]} }) F.kt_called_dict (ybC _) F.entry_dict_init (kt_code_dict_new _ ⟨rfl,rfl⟩) ?_
 rintro obj s₁ ⟨rfl,rfl⟩
 have xq:(s.heap.push {cls:=.type "dict",data:=.dict #[]}).DictOf knd s.heap.objs.size []:=Heap.DictOf.new s.heap;have iT:∀b o,s.heap.get? b=some o->(s.heap.push {cls:=.type "dict",data:=.dict #[]}).get? b=some o:=fun b o e=>yaa _ e;refine⟨xq.typeIs,F.args_dict_init_2 _ _,?_⟩;unfold Builtin.«dict.__init__»;refine zdI ?_;unfold ybo;refine zdI (ybd xq.typeIs ?_);show yab _ _ (pure (s.heap.objs.size,[yac z])) _ _ _;refine zdJ ?_;show yab _ _ (yaE "dict.__init__" s.heap.objs.size (.ref z) [] .none) _ _ _;unfold yaE;refine zdI (ya4 (T:="zip") ⟨_,iT _ _ gz,rfl⟩ ?_);rw[ybS (by decide)];refine zdI (Eu z (iT _ _ gz) hA fun h2 Qh ia=>?_);rw[ybS (show (none:Option zdG).isNone=true from rfl)];refine zdI (ybg ?_);have up:∀b o,s.heap.get? b=some o->h2.get? b=some o:=fun b o e=>ia _ _ (iT _ _ e);have hd2:h2.DictOf knd s.heap.objs.size []:=by
  obtain⟨o,es,ep,ho,rest⟩:=xq;exact⟨o,es,ep,ia _ _ ho,rest⟩
 refine zdI (wpAny_pyIter_zip (s:={s with heap:=h2,toks:=Qh}) (up _ _ gz) ?_);refine zdJ ⟨plainId_quiet cX _,?_⟩;have BR:Ih h2 z ti to j1 j2 l tp xs I2 0:=by
  refine⟨?_,up _ _ st.ins,?_,Z2.kp st.Lg fun b o _ e=>up _ _ e,?_⟩
  .rcases st.zip with ⟨a,b,e1,e2⟩ |⟨T,u,a,b,g,e1,e2⟩
   .exact .inl ⟨a,b,up _ _ e1,up _ _ e2⟩
   .exact .inr ⟨T,u,a,b,g,up _ _ e1,up _ _ e2⟩
  .obtain⟨o,go,rest⟩:=st.Jo;exact⟨o,up _ _ go,rest⟩
  .obtain⟨o,go,rest⟩:=st.ls;exact⟨o,up _ _ go,rest⟩
 refine F6 (A:=A.in1) knd s.heap.objs.size z ti to j1 j2 l tp xs ys Z2 .none hA ap (zaW Ow) r 0 0 _ [] _ (by simpa using hi) (by simpa using hk) hp BR hd2 (by simpa using hz) fun h4 RS UZ xr=>?_;refine⟨rfl,h h4 RS UZ fun b o n1 n2 n3 n4 e=>xr b o (fun w=>?_) n1 n2 n3 n4 (up _ _ e)⟩;rw[w] at e;exact ybX (yad e) (zaO _)
end
end L3
namespace L2
open PG
open PySem PyProof.Rows
theorem vn(c n k:Nat)(h:c<n):c≠n+k:=by lia
def tDZ (K:zaa)(t:TA):TE:=fun G H Q=>t G H fun xs H1=>∃(a b:zdF) (ks:List Key) (vs:List V),xs=[.ref a,.ref b]/\iR K H1 a (ks.map kV)/\bH K H1 b vs/\vs.length=ks.length/\∀p,H1 p=none->Q (.ref p) (upd H1 p (.dK (nj [] (ks.zip vs))))
theorem Ex(hc:X.calm=true){p1 p2 Lm vo:Pos}(To:Gl X "dict")(Ox:X.mg "dict"=none)(YZ:Gl X "zip")(Qk:X.mg "zip"=none)(ha:PA X [ea,eb] t)
 (he:zdL [ea,eb] X.env=(false,eval ea X.env)::zdL [eb] X.env:=by rfl) (vQ:(backTo vo (zdL [eb] X.env)).any (·.1)=false:=by rfl)
 (RK:zdL [.Call (.Name "zip" p2) [ea,eb] [] vo] X.env=(false,eval (.Call (.Name "zip" p2) [ea,eb] [] vo) X.env)::zdL [] X.env:=by rfl) :
 PE X (.Call (.Name "dict" p1) [.Call (.Name "zip" p2) [ea,eb] [] vo] [] Lm) (tDZ X.K t):=by
 intro pins s G H Q I h;refine yas (m7 I To Ox yb0 ?_ (by decide) (by decide));refine za4 ?_ RK rfl;rw[RK];show yab _ _ (spliced ((false,eval (.Call (.Name "zip" p2) [ea,eb] [] vo) X.env)::backTo Lm (zdL [] X.env))) _ _ s;refine ybN ?_;refine yas (m7 I YZ Qk yca ?_ (by decide) (by decide));refine za4 (fC (ha vo pins s G H _ I h) fun us s1 zqz=>?_) he vQ;obtain⟨xs,H1,I1,r1,q1⟩:=zqz;obtain⟨a,b,ks,vs,rfl,Y0,Y1,lk,q⟩:=q1;obtain⟨u1,u2,rfl,Y2,Y3⟩:=vals2 r1;cases (show u1=yac a from Y2);cases (show u2=yac b from Y3);obtain⟨Oy,v1,t1,z1⟩:=I1.list Y0;obtain⟨oW,v2,t2,z2⟩:=I1.tuple Y1;have mk:∀(ks:List Key) (vs:List V) (Jp Ln:List zdG),Vals (ks.map kV) Jp->Vals vs Ln->vs.length=ks.length->∃r:List (Key×zdG×zdG),Jp=r.map (·.2.1)/\Ln=r.map (·.2.2)/\(∀q∈r,(bF X.prog X.w).is q.1 q.2.1=true)/\KV (ks.zip vs) (r.map fun q=>(q.1,q.2.2))/\r.length=ks.length:=by
  intro ks
  induction ks with
  |nil=>
   intro vs Jp Ln w1 w2 l;have:vs=[]:=zcx.mp l;subst this;cases w1;cases w2;exact⟨[],rfl,rfl,fun _ z=>(by cases z),.nil,rfl⟩
  |cons k ks ih=>
   intro vs Jp Ln w1 w2 l;cases vs with
   |nil=>simp at l
   |cons v vs=>
    rw[zas] at w1;cases w1 with
    |@cons _ ku _ kus w11 w12=>
     cases w2 with
     |@cons _ vu _ vus w21 w22=>
      obtain⟨r,e1,e2,h3,h4,h5⟩:=ih vs kus vus w12 w22 (by simpa using l);refine⟨(k,ku,vu)::r,by rw[e1];rfl,by rw[e2];rfl,fun q hq=>?_,.cons ⟨rfl,w21⟩ h4,by simp[h5]⟩;rcases zak.mp hq with rfl |hq
      .exact zv w11
      .exact h3 q hq
 obtain⟨r,e1,e2,kis,kv,lr⟩:=mk ks vs Oy oW v1 v2 lk;rw[zac] at z1;refine L3.Ew t1.isList (show s1.heap.IsTuple b oW.toArray from t2) fun h' ap st gz keep=>?_;refine Calls.spliced_nil ?_;have big:(s1.heap.objs.size+4:Nat)<h'.objs.size:=yad gz;have hle:s1.heap.objs.size<=h'.objs.size:=by lia
 refine L3.Ll (s:={s1 with heap:=h' }) (bF X.prog X.w) _ _ _ _ _ a b L3.Om (I1.ok.hd hc) ap st gz r (by simpa using e1) (by simpa using e2) kis (by lia) (show (s1.heap.objs.size+3:Nat)<h'.objs.size by lia) fun h2 tk dd ia=>?_;have hn:=I1.bS.fresh hle;have hb:(h'.objs.size==yar)=false:=beq_eq_false_iff_ne.mpr (Ne.symm (zaz (zat I1.big hle)));refine⟨.ref h'.objs.size,_,I1.laid (fun c o e=>ia c o ?_ ?_ ?_ ?_ (keep c o e)) hle (Eg ?_ hb (kv.merge .nil) dd),rfl,q _ hn⟩
 .have lc:(c:Nat)<s1.heap.objs.size:=yad e;exact vn _ _ _ lc
 .have lc:(c:Nat)<s1.heap.objs.size:=yad e;exact vn _ _ _ lc
 .have lc:(c:Nat)<s1.heap.objs.size:=yad e;exact zaz lc
 .have lc:(c:Nat)<s1.heap.objs.size:=yad e;exact vn _ _ _ lc
 .have h1:=lV (ks.zip vs) [];rw[zbI,zbx] at h1;lia
section
variable{K:zaa}{H H':Hp}{p C dx:zdF}{fs:List (Str×V)}
mutual
theorem qf(h:H p=some (.ins C dx fs))(u:bR (·=p) H H'):∀(d:Dp)(v:V),Rep K H d v->Rep K H' d v
 |.eA,v,r=>by rw[Rep.kg] at r |-;exact r
 |.bl b,v,r=>by rw[Rep.rM] at r |-;exact r
 |.int b,v,r=>by rw[Rep.bD] at r |-;exact r
 |.str b,v,r=>by rw[Rep.bN] at r |-;exact r
 |.lst l,v,r=>by
  rw[Rep.bG] at r |-;obtain⟨a,ys,rfl,q,rs⟩:=r;refine⟨a,ys,rfl,?_,mH h u l ys rs⟩;rcases q with (q |⟨o,q⟩) |q
  .exact .inl (.inl (u _ _ (bz q h (by intro z;cases z)) q))
  .exact .inl (.inr ⟨o,u _ _ (bz q h (by intro z;cases z)) q⟩)
  .exact .inr q
 |.tup l,v,r=>by
  rw[Rep.aT] at r |-;obtain⟨a,ys,rfl,q,rs⟩:=r;refine⟨a,ys,rfl,?_,mH h u l ys rs⟩;rcases q with (q |⟨o,q⟩) |q
  .exact .inl (.inl (u _ _ (bz q h (by intro z;cases z)) q))
  .exact .inl (.inr ⟨o,u _ _ (bz q h (by intro z;cases z)) q⟩)
  .exact .inr q
theorem mH(h:H p=some (.ins C dx fs))(u:bR (·=p) H H'):∀(ds:List Dp)(vs:List V),aL K H ds vs->aL K H' ds vs
 |[],vs,r=>by rw[aL.bQ] at r |-;exact r
 |d::ds,vs,r=>by
  rw[aL.aP] at r |-;obtain⟨v,t,rfl,r1,r2⟩:=r;exact⟨v,t,rfl,qf h u d v r1,mH h u ds t r2⟩
end
end
theorem rP{K:zaa}{r:St}(kf:Nat->Key×V)(hS:iR K H a xs)(hl:xs.length<=16000000)(hD:H D=none)
 (step:∀i x H2,xs[i]?=some x->ar H H2->∀R:VK,(∀p,H2 p=none->R (.ref p) (upd H2 p (.tup [kV (kf i).1,(kf i).2])))->te (some x::r) H2 R)
 (q:∀(ps:List (zdF×Key×V)) H2,ar H H2->H2 D=some (.lst (ps.map fun q=>V.ref q.1))->(∀q∈ps,H2 q.1=some (.tup [kV q.2.1,q.2.2]))->ps.map (·.2)=(zaj xs.length).map kf->Q (.ref D) H2) :
 qJ (Hs K a) D (gE 0) xi te Q (none::r) (upd H D (.lst [])):=by
 refine nF (K:=K) (fun i ys H2=>∃ps:List (zdF×Key×V),ys=ps.map (fun q=>V.ref q.1)/\(∀q∈ps,H2 q.1=some (.tup [kV q.2.1,q.2.2]))/\ps.map (·.2)=(zaj i).map kf) hS hl hD ⟨[],rfl,fun _ z=>(by cases z),rfl⟩ ?_ ?_
 .rintro i x ys H2 hx s2 RU ly ⟨ps,rfl,F8,ep⟩ R hR
  refine step i x H2 hx s2 R fun p hp=>hR _ _ (ar.new hp _) ⟨ps++[(p,kf i)],by simp,fun q hq=>?_,by rw[zaC,ep,za7,zaC];rfl⟩;have pD:D≠p:=ag RU hp;rcases zan.mp hq with hq |hq
  .have e:=F8 q hq;rw[au (bz e RU (by intro z;cases z))];exact ar.new hp _ _ _ e
  .rw[zaf.mp hq];show upd (upd H2 p _) D _ p=_;rw[au pD.symm,ah]
 .rintro ys H2 s2 RU ⟨ps,rfl,F8,ep⟩
  exact q ps H2 s2 RU F8 ep
theorem qg{K:zaa}{r:St}(f:Nat->V)(hS:iR K H a xs)(hl:xs.length<=16000000)(hD:H D=none)
 (step:∀i x H2,xs[i]?=some x->ar H H2->∀R:VK,R (f i) H2->te (some x::r) H2 R)
 (q:∀H2,ar H H2->H2 D=some (.lst ((zaj xs.length).map f))->Q (.ref D) H2):qJ (Hs K a) D (gE 0) xi te Q (none::r) (upd H D (.lst [])):=by
 refine nF (K:=K) (fun i ys H2=>ys=(zaj i).map f) hS hl hD rfl ?_ ?_
 .rintro i x ys H2 hx s2 RU ly rfl R hR
  exact step i x H2 hx s2 R (hR _ _ (ar.refl _) (by rw[za7,zaC];rfl))
 .rintro ys H2 s2 RU rfl
  exact q H2 s2 RU
structure vp(K:zaa)(C:zdF)(H:Hp)(p:zdF)(pr:PG.Prog):Prop where
 at_:∃(dx nl sd fa va st wy:zdF) (us ws:List V),H p=some (.ins C dx [("names",.ref nl),("sizes",.ref sd),("first",.ref fa),("statements",.ref st),("ways",.ref wy)])/\H dx=some (.own p)/\
  H nl=some (.lst (pr.aF.map fun b=>.str (S b.name)))/\H sd=some (.dK (pr.aF.map fun b=>(.inr (S b.name),.int b.size)))/\
  H fa=some (.tup [.int (bU pr.body 0),.ref va])/\H va=some (.tup (pr.aF.map fun b=>.int b.first))/\
  us.length=(aE pr.body).length/\H st=some (.dK (jW (aE pr.body) us))/\aL K H ((aE pr.body).map jC) us/\
  ws.length=(aR pr.body 0).length/\H wy=some (.dK (zbd (fun r v=>(Sum.inl r.1,v)) (aR pr.body 0) ws))/\∀i (hi:i<(aR pr.body 0).length),∃q,ws[i]?=some (.ref q)/\bH K H q ((aR pr.body 0)[i].2.2.map V.int)
section
variable(K:zaa)(C:zdF)
inductive F9(vs:List V)(H:Hp)(Q:VK)(E:XK):Prop
 |mk (p dx:zdF) (v:V) (pr:PG.Prog):vs=[.ref p,v]->H p=some (.ins C dx [])->H dx=some (.own p)->Rep K H (iX pr) v->qw pr.body<=3->(gF pr.body).length<=1000->(aE pr.body).Pairwise (fun a b=>a.row<b.row)->(pr.aF.map (·.name)).Nodup->pr.aF.length<=10->(∀H',bf p H H'->vp K C H' p pr->Q .eA H')->F9 vs H Q E
end
end L2
namespace L2
open PG
open PySem
def RV (aB:List (Key×V))(x:W):Int:=match cf aB (.inr (S x)) with
 |some (.int i)=>i
 |_=>0
def Jq (aB:List (Key×V)):PM.Tr->Prop
 |.num n=>n.natAbs<=2 ^ 12
 |.box x=>∃i:Int,cf aB (.inr (S x))=some (.int i)/\i.natAbs<=2 ^ 12
 |.bin o l r=>(o=[43]\/o=[45]\/o=[42])/\Jq aB l/\Jq aB r
theorem Lo(h:cf aB (.inr (S x))=some (.int i)):RV aB x=i:=by
 unfold RV;rw[h]
theorem tS:∀{t:PM.Tr},Jq aB t->(gI (RV aB) t).natAbs<=2 ^ (14*2 ^ sX t)
 |.num n,h=>by
  rw[Jq] at h;rw[gI];simp only[sX];exact zax h (zaS (by decide) (by decide))
 |.box x,h=>by
  rw[Jq] at h;obtain⟨i,e,hi⟩:=h;rw[gI,Lo e];simp only[sX];exact zax hi (zaS (by decide) (by decide))
 |.bin o l r,h=>by
  rw[Jq] at h;have hl:=tS h.2.1;have hr:=tS h.2.2;have one:∀a b:Nat,1<=2 ^ max a b:=fun a b=>Nat.one_le_two_pow;have ml:(gI (RV aB) l).natAbs<=2 ^ (14*2 ^ max (sX l) (sX r)):=zax hl (zaS (by decide) (zdw _ (zaS (by decide) (Nat.le_max_left _ _))));have mr:(gI (RV aB) r).natAbs<=2 ^ (14*2 ^ max (sX l) (sX r)):=zax hr (zaS (by decide) (zdw _ (zaS (by decide) (Nat.le_max_right _ _))));rw[sX,show 14*2 ^ (max (sX l) (sX r)+1)=14*2 ^ max (sX l) (sX r)+14*2 ^ max (sX l) (sX r) by rw[zbm];lia];have k14:14<=14*2 ^ max (sX l) (sX r):=Nat.le_mul_of_pos_right _ (one _ _);generalize 14*2 ^ max (sX l) (sX r)=k at *;have two:2<=2 ^ k:=zax (by decide:2<=2 ^ 1) (zaS (by decide) (by lia));rw[Nat.pow_add];have b2:2*2 ^ k<=2 ^ k*2 ^ k:=Nat.mul_le_mul_right _ two;have ab:=zax (Nat.add_le_add ml mr) (by rw[<- Nat.two_mul];exact b2);rw[gI];split
  .exact zax (Int.natAbs_add_le _ _) ab
  .split
   .rw[Int.sub_eq_add_neg];refine zax (Int.natAbs_add_le _ _) ?_;rw[Int.natAbs_neg];exact ab
   .rw[Int.natAbs_mul];exact zcu ml mr
theorem Lp{a:Int}(h:a.natAbs<=2 ^ (14*2 ^ d))(hd:d<=6):a.natAbs<2 ^ 4000:=by
 refine zbu h (Nat.pow_lt_pow_right (by decide) ?_);have:2 ^ d<=2 ^ 6:=zaS (by decide) hd;lia
section
variable(K:zaa)
inductive Vh(n:Nat)(vs:List V)(H:Hp)(Q:VK)(E:XK):Prop
 |mk (v:V) (d:zdF) (tr:PM.Tr) (aB:List (Key×V)):vs=[v,.ref d]->Rep K H (wL tr) v->H d=some (.dK aB)->Jq aB tr->sX tr<n->sX tr<=6->(∀H',ar H H'->Q (.int (gI (RV aB) tr)) H')->Vh n vs H Q E
end
theorem vp.mono(c:vp K C H p pr)(s:ar H H'):vp K C H' p pr:=by
 obtain⟨dx,nl,sd,fa,va,st,wy,us,ws,h1,h2,h3,h4,h5,h6,h7,h8,h9,Oz,Lq,OA⟩:=c.at_;exact⟨⟨dx,nl,sd,fa,va,st,wy,us,ws,s _ _ h1,s _ _ h2,s _ _ h3,s _ _ h4,s _ _ h5,s _ _ h6,h7,s _ _ h8,h9.mono s,Oz,s _ _ Lq,fun i hi=>let ⟨q,e,r⟩:=OA i hi;⟨q,e,s.cO r⟩⟩⟩
theorem mI{O L:Type}(g:O->L)(d:O)(l:List O):(zaj l.length).map (fun i=>g (l.getD i d))=l.map g:=by
 apply zcI
 .simp
 .intro i h1 h2;simp at h1 h2;simp[h2]
def eT (bs:List sW)(vs:List V):List (Key×V):=zbd (fun b v=>(Sum.inr (S b.name),v)) bs vs
theorem xt:∀(bs:List sW)(vs:List V),(bs.map fun b=>(Sum.inr (S b.name):Key)).zip vs=eT bs vs
 |[],vs=>by simp[eT]
 |b::bs,[]=>by simp[eT]
 |b::bs,v::vs=>by
  show _::(bs.map fun b=>(Sum.inr (S b.name):Key)).zip vs=_::eT bs vs;rw[xt bs vs]
theorem vV:∀(bs:List sW)(vs:List V),vs.length=bs.length->(eT bs vs).map (·.1)=bs.map fun b=>(Sum.inr (S b.name):Key)
 |[],[],_=>rfl
 |[],_::_,h=>by simp at h
 |_::_,[],h=>by simp at h
 |b::bs,v::vs,h=>by
  show _::(eT bs vs).map (·.1)=_;rw[vV bs vs (by simpa using h)];rfl
theorem names_nodup{bs:List sW}(nb:(bs.map (·.name)).Nodup):(bs.map fun b=>(Sum.inr (S b.name):Key)).Nodup:=by
 refine zaL.mpr ((zaL.mp nb).imp fun {a b} BD e=>BD ?_);exact xj.mp (Sum.inr.inj e)
theorem mJ:∀(bs:List sW)(vs:List V),vs.length=bs.length->(bs.map (·.name)).Nodup->∀i (hi:i<bs.length) v,vs[i]?=some v->cf (eT bs vs) (.inr (S bs[i].name))=some v
 |[],_,_,_,i,hi,_,_=>by simp at hi
 |_::_,[],h,_,_,_,_,_=>by simp at h
 |b::bs,v::vs,h,nb,0,hi,u,hu=>by
  simp at hu;subst hu;show cf ((_,v)::eT bs vs) _=_;exact cn rfl
 |b::bs,v::vs,h,nb,i+1,hi,u,hu=>by
  rw[zas,zaV] at nb;have mem:(bs[i]'(by simpa using hi)).name∈bs.map (·.name):=zae.mpr ⟨_,zaw _,rfl⟩;show cf ((.inr (S b.name),v)::eT bs vs) (.inr (S (bs[i]'(by simpa using hi)).name))=_;rw[cu (fun e=>by have e:=xj.mp (Sum.inr.inj e);exact nb.1 (e▸mem))];exact mJ bs vs (by simpa using h) nb.2 i (by simpa using hi) u (by simpa using hu)
section
variable(K:zaa)(C:zdF)
inductive zH(vs:List V)(H:Hp)(Q:VK)(E:XK):Prop
 |mk (p a:zdF) (pr:PG.Prog) (us:List V):vs=[.ref p,.ref a]->vp K C H p pr->bH K H a us->us.length=pr.aF.length->(pr.aF.map (·.name)).Nodup->pr.aF.length<=10->(∀d H',ar H H'->H d=none->H' d=some (.dK (eT pr.aF us))->Q (.ref d) H')->zH vs H Q E
inductive zI(vs:List V)(H:Hp)(Q:VK)(E:XK):Prop
 |mk (p d:zdF) (pr:PG.Prog) (aB:List (Key×V)) (us:List V):vs=[.ref p,.ref d]->vp K C H p pr->H d=some (.dK aB)->us.length=pr.aF.length->(∀i (hi:i<pr.aF.length),cf aB (.inr (S pr.aF[i].name))=us[i]?)->pr.aF.length<=10->(∀a H',ar H H'->bH K H' a us->Q (.ref a) H')->zI vs H Q E
inductive Cg(vs:List V)(H:Hp)(Q:VK)(E:XK):Prop
 |mk (p:zdF) (pr:PG.Prog) (row:Int):vs=[.ref p,.int row]->vp K C H p pr->(aE pr.body).Pairwise (fun a b=>a.row<b.row)->((row=0/\Q (.str "end") H)\/(row≠0/\∃i,∃hi:i<(aE pr.body).length,(aE pr.body)[i].row=row/\Q (.str (vT (aE pr.body)[i].wd)) H))->Cg vs H Q E
end
noncomputable def pJ:cJ->Option (W×PM.Tr×PM.Tr)
 |.dR _ sg l r=>some (sg,l,r)
 |.ifs _ sg l r _ _=>some (sg,l,r)
 |.mF _ sg l r _=>some (sg,l,r)
 |_=>none
noncomputable def lZ (sg:W)(a b:Int):Bool:=if sg=[60] then decide (a<b) else decide (a=b)
def wv (bs:List sW)(vals:List Int)(e:PM.Tr):Int:=gI (RV (eT bs (vals.map V.int))) e
abbrev Ey (bs:List sW) (vals:List Int) (e:PM.Tr):Prop:=Jq (eT bs (vals.map V.int)) e/\sX e<=2
theorem Ez(h:Rep K H (jC st) v)(c:pJ st=some (sg,l,r)):∃a w0 vl vr ys,v=.ref a/\bH K H a (w0 :: .int st.row :: .str (S sg)::vl::vr::ys)/\Rep K H (wL l) vl/\Rep K H (wL r) vr:=by
 have key:∃w ds,jC st=.tup (.str w :: .int st.row :: .str (S sg)::wL l::wL r::ds):=by
  cases st<;>simp only[pJ,za5.injEq,Prod.mk.injEq,reduceCtorEq] at c<;>obtain⟨rfl,rfl,rfl⟩:=c<;>exact⟨_,_,by rw[jC];rfl⟩
 obtain⟨w0,ds,e⟩:=key;rw[e,Rep.aT] at h;obtain⟨a,xs,rfl,q,rs⟩:=h;rw[aL.aP] at rs;obtain⟨v0,t0,rfl,_,rs⟩:=rs;rw[aL.aP] at rs;obtain⟨v1,t1,rfl,e1,rs⟩:=rs;rw[aL.aP] at rs;obtain⟨v2,t2,rfl,e2,rs⟩:=rs;rw[aL.aP] at rs;obtain⟨v3,t3,rfl,e3,rs⟩:=rs;rw[aL.aP] at rs;obtain⟨v4,t4,rfl,e4,rs⟩:=rs;rw[Rep.bD] at e1;rw[Rep.bN] at e2;subst e1 e2;exact⟨a,v0,v3,v4,t4,rfl,q,e3,e4⟩
def df (K:zaa)(H:Hp)(sa:zdF)(row:Int)(vals:List Int):Prop:=∃va,bH K H sa [.int row,.ref va]/\bH K H va (vals.map V.int)
theorem df.mono(h:df K H sa row vals)(s:ar H H'):df K H' sa row vals:=by obtain⟨va,h1,h2⟩:=h;exact⟨va,s.cO h1,s.cO h2⟩
structure Ij(pr:PG.Prog):Prop where
 pw:(aE pr.body).Pairwise (fun a b=>a.row<b.row)
 nb:(pr.aF.map (·.name)).Nodup
 EA:pr.aF.length<=10
 pos:∀s∈aE pr.body,0<s.row
section
variable(K:zaa)(C:zdF)
inductive Ga(vs:List V)(H:Hp)(Q:VK)(E:XK):Prop
 |mk (p sa:zdF) (pr:PG.Prog) (vals:List Int) (i:Nat) (hi:i<(aE pr.body).length) (sg:W) (l r:PM.Tr):vs=[.ref p,.ref sa]->vp K C H p pr->Ij pr->df K H sa (aE pr.body)[i].row vals->vals.length=pr.aF.length->pJ (aE pr.body)[i]=some (sg,l,r)->Ey pr.aF vals l->Ey pr.aF vals r->(∀H',ar H H'->Q (.bl (lZ sg (wv pr.aF vals l) (wv pr.aF vals r))) H')->Ga vs H Q E
end
theorem zJ:∀(fl:List gy)(vs:List V),vs.length=fl.length->fl.Pairwise (fun a b=>a.1<b.1)->∀i (hi:i<fl.length) v,vs[i]?=some v->cf (zbd (fun r v=>((Sum.inl r.1:Key),v)) fl vs) (.inl fl[i].1)=some v
 |[],_,_,_,i,hi,_,_=>by simp at hi
 |_::_,[],h,_,_,_,_,_=>by simp at h
 |s::ss,v::vs,h,hp,0,hi,u,hu=>by
  simp at hu;subst hu;rw[zdn];exact cn rfl
 |s::ss,v::vs,h,hp,i+1,hi,u,hu=>by
  rw[zbv] at hp;have lt:=hp.1 (ss[i]'(by simpa using hi)) (zaw _);rw[zdn];show cf _ (Sum.inl (ss[i]'(by simpa using hi)).1:Key)=_;rw[cu (fun e=>by have e:=Sum.inl.inj e;lia)];exact zJ ss vs (by simpa using h) hp.2 i (by simpa using hi) u (by simpa using hu)
theorem kO(b:List cJ)(i:Nat)(hi:i<(aE b).length):∃hf:i<(aR b 0).length,(aR b 0)[i].1=(aE b)[i].row/\(aR b 0)[i].2.1=(aE b)[i].wd:=by
 have e:((aR b 0).map fun r=>(r.1,r.2.1))=(aE b).map fun x=>(x.row,x.wd):=by rw[fF,hX]
 have l:=ybW zbg e;rw[zac,zac] at l;have hf:i<(aR b 0).length:=by lia
 refine⟨hf,?_⟩;have h1:((aR b 0).map fun r=>(r.1,r.2.1))[i]?=((aE b).map fun x=>(x.row,x.wd))[i]?:=by rw[e]
 rw[zar,zar,zad hf,zad hi] at h1;have h1:=za5.inj h1;exact⟨ybW Prod.fst h1,ybW Prod.snd h1⟩
theorem Ik(pw:(aE b).Pairwise fun a b=>a.row<b.row):(aR b 0).Pairwise fun a b=>a.1<b.1:=by
 have e:((aR b 0).map fun r=>(r.1,r.2.1))=(aE b).map fun x=>(x.row,x.wd):=by rw[fF,hX]
 have h:((aE b).map fun x=>(x.row,x.wd)).Pairwise fun a b=>a.1<b.1:=zaL.mpr pw;rw[<- e,zaL] at h;exact h
theorem vp.way(c:vp K C H p pr)(ok:Ij pr)(i:Nat)(hi:i<(aE pr.body).length)(hf:i<(aR pr.body 0).length):∃dx fs wy q,H p=some (.ins C dx fs)/\fs.lookup (zab "ways")=some (V.ref wy)/\wk H wy (.int (aE pr.body)[i].row) (some (.ref q))/\bH K H q ((aR pr.body 0)[i].2.2.map V.int):=by
 obtain⟨dx,nl,sd,fa,va,st,wy,us,ws,h1,h2,h3,h4,h5,h6,h7,h8,h9,Oz,Lq,OA⟩:=c.at_;obtain⟨q,e,hq⟩:=OA i hf;obtain⟨hf',e1,_⟩:=kO pr.body i hi;have g:=zJ _ _ Oz (Ik ok.pw) i hf _ e;rw[e1] at g;exact⟨dx,_,wy,q,h1,rfl,.inl ⟨_,.inl _,.inl Lq,rfl,g.symm⟩,hq⟩
def xu (K:zaa)(H:Hp):Option (Int×List Int)->V->Prop
 |none,v=>v=.eA
 |some x,v=>∃a,v=.ref a/\df K H a x.1 x.2
def eF (bs:List sW)(st:cJ)(ws:List Int)(vals:List Int):Option (Int×List Int):=match pJ st with
 |none=>none
 |some (sg,l,r)=>if lZ sg (wv bs vals l) (wv bs vals r) then some (ws.getD 0 0,vals) else if st.wd=.dR then none else some (ws.getD 1 0,vals)
section
variable(K:zaa)(C:zdF)
inductive zK(vs:List V)(H:Hp)(Q:VK)(E:XK):Prop
 |mk (p sa:zdF) (pr:PG.Prog) (vals:List Int) (i:Nat) (hi:i<(aE pr.body).length) (hf:i<(aR pr.body 0).length) (sg:W) (l r:PM.Tr):vs=[.ref p,.ref sa]->vp K C H p pr->Ij pr->df K H sa (aE pr.body)[i].row vals->vals.length=pr.aF.length->pJ (aE pr.body)[i]=some (sg,l,r)->Ey pr.aF vals l->Ey pr.aF vals r->0<(aR pr.body 0)[i].2.2.length->((aE pr.body)[i].wd≠.dR->1<(aR pr.body 0)[i].2.2.length)->(∀v H',ar H H'->xu K H' (eF pr.aF (aE pr.body)[i] (aR pr.body 0)[i].2.2 vals) v->Q v H')->zK vs H Q E
end
open PyProof.Rows
noncomputable def iU (bs:List sW)(x:W):Nat:=(bs.map (·.name)).idxOf x
def wz (bs:List sW)(vals:List Int)(x:W)(v:Int):List Int:=vals.set (iU bs x) v
def ib (bs:List sW)(x:W):Int:=((bs[iU bs x]?).map (·.size)).getD 1
def iV (bs:List sW)(st:cJ)(ws vals:List Int)(Nn:Int):Option (Int×List Int)×Option Int:=match st with
 |.ask _ b=>(some (ws.getD 0 0,wz bs vals b (Nn%ib bs b)),none)
 |.put _ b e=>(some (ws.getD 0 0,wz bs vals b (wv bs vals e%ib bs b)),none)
 |.say _ e=>(some (ws.getD 0 0,vals),some (wv bs vals e))
 |.stop _=>(some (ws.getD 0 0,vals),none)
 |st=>(eF bs st ws vals,none)
def Lr (bs:List sW)(vals:List Int):cJ->Prop
 |.ask _ b=>b∈bs.map (·.name)
 |.put _ b e=>b∈bs.map (·.name)/\Ey bs vals e
 |.say _ e=>Ey bs vals e
 |.dR _ _ l r=>Ey bs vals l/\Ey bs vals r
 |.ifs _ _ l r _ _=>Ey bs vals l/\Ey bs vals r
 |.mF _ _ l r _=>Ey bs vals l/\Ey bs vals r
 |.stop _=>True
noncomputable def Ql:Option Int->V
 |none=>.eA
 |some n=>.int n
theorem pK(h:x∈bs.map (·.name)):∃hi:iU bs x<bs.length,bs[iU bs x].name=x:=by
 have l:iU bs x<(bs.map (·.name)).length:=List.idxOf_lt_length_iff.mpr h;have e:(bs.map (·.name))[iU bs x]=x:=List.getElem_idxOf l;rw[zac] at l;rw[zcb] at e;exact⟨l,e⟩
theorem EB(l:vs.length=bs.length)(nb:(bs.map (·.name)).Nodup)(h:x∈bs.map (·.name))(v:V)(i:Nat)(hi:i<bs.length) :
 cf (putK (eT bs vs) (.inr (S x)) v) (.inr (S bs[i].name))=(vs.set (iU bs x) v)[i]?:=by
 obtain⟨hx,ex⟩:=pK h;rw[J7];by_cases e:i=iU bs x
 .subst e;rw[ybS (by rw[ex]),zb5 (by lia)]
 .have ne:bs[i].name≠x:=fun z=>e (by
   have p1:=zbP.mp nb;rw[<- ex] at z;rcases zc6 i (iU bs x) with lt |eq |gt
   .exact ybX (by rw[zcb,zcb];exact z) (p1 i (iU bs x) (by simpa using hi) (by simpa using hx) lt)
   .exact eq
   .exact ybX (by rw[zcb,zcb];exact z.symm) (p1 (iU bs x) i (by simpa using hx) (by simpa using hi) gt))
  rw[ybR (fun z=>ne (xj.mp (Sum.inr.inj z))),zb9 (fun z=>e z.symm)];have li:i<vs.length:=by lia
  rw[mJ bs vs l nb i hi vs[i] (zad li),zad li]
theorem Ci(nb:(bs.map (·.name)).Nodup)(h:x∈bs.map (·.name)):cf (bs.map fun b=>((Sum.inr (S b.name):Key),V.int b.size)) (.inr (S x))=some (.int (ib bs x)):=by
 obtain⟨hx,ex⟩:=pK h;have e:(bs.map fun b=>((Sum.inr (S b.name):Key),V.int b.size))=eT bs (bs.map fun b=>V.int b.size):=by
  unfold eT;rw[List.zipWith_map_right,List.zipWith_self]
 rw[e];have:=mJ bs (bs.map fun b=>V.int b.size) (by simp) nb (iU bs x) hx (.int bs[iU bs x].size) (by rw[zar,zad hx];rfl);rw[ex] at this;rw[this];unfold ib;rw[zad hx];rfl
section
variable(K:zaa)(C:zdF)
inductive Cj(vs:List V)(H:Hp)(Q:VK)(E:XK):Prop
 |mk (p sa:zdF) (fv:V) (pr:PG.Prog) (vals:List Int) (Nn:Int) (i:Nat) (hi:i<(aE pr.body).length) (hf:i<(aR pr.body 0).length):vs=[.ref p,.ref sa,fv]->vp K C H p pr->Ij pr->(∀b∈pr.aF,0<b.size)->df K H sa (aE pr.body)[i].row vals->vals.length=pr.aF.length->((aE pr.body)[i].wd=.ask->fv=.int Nn)->Lr pr.aF vals (aE pr.body)[i]->0<(aR pr.body 0)[i].2.2.length->((aE pr.body)[i].wd=.ifs\/(aE pr.body)[i].wd=.mF->1<(aR pr.body 0)[i].2.2.length)->(∀q sv H',ar H H'->bH K H' q [sv,Ql (iV pr.aF (aE pr.body)[i] (aR pr.body 0)[i].2.2 vals Nn).2]->xu K H' (iV pr.aF (aE pr.body)[i] (aR pr.body 0)[i].2.2 vals Nn).1 sv->Q (.ref q) H')->Cj vs H Q E
end
open PySem.Spec
def Vi (K:zaa):R2:=fun x y H Q=>∃a b xs ys,x=.ref a/\y=.ref b/\bH K H a xs/\bH K H b ys/\xs.length+ys.length<=zdN/\∀p H',ar H H'->bH K H' p (xs++ys)->Q (.ref p) H'
theorem OB:qv X (binaryOp .Add) (Vi X.K):=by
 intro pins s G H x y v u Q I rx ry h;by_cases hx:∃Xc,(∃a b ys,x=.ref a/\y=.ref b/\bH X.K H a Xc/\bH X.K H b ys/\Xc.length+ys.length<=zdN/\∀p H',ar H H'->bH X.K H' p (Xc++ys)->Q (.ref p) H')/\Xc=[]
 .obtain⟨xs,⟨a,b,ys,rfl,rfl,ha,hb,hz,q⟩,rfl⟩:=hx;cases rx;cases ry;obtain⟨bc,r1,p1,_⟩:=I.tuple ha;obtain⟨oW,r2,p2,_⟩:=I.tuple hb;obtain⟨⟨cls,dd,data,sl⟩,ho,hc,n,hd⟩:=id p1;obtain⟨⟨Yp,Tf,data2,Uq⟩,Rn,Ur,n2,hd2⟩:=id p2;simp only at hc hd Ur hd2;subst hc hd Ur hd2;cases r1;exact concat_meets ⟨_,ho,rfl⟩ ⟨_,Rn,rfl⟩ noFill_tuple_add seq_tuple_add zcE zcz (zco _ _)
   (tuple_addW0 a b _ oW.toArray n n2 dd Tf sl Uq rfl) ⟨ho,Rn,⟨.ref b,H,I,rfl,q _ _ (ar.refl _) hb⟩⟩
 .obtain⟨a,b,xs,ys,rfl,rfl,ha,hb,hz,q⟩:=h;refine NU pins s G H _ _ v u Q I rx ry ⟨a,b,xs,ys,rfl,rfl,ha,hb,fun e=>hx ⟨xs,⟨a,b,ys,rfl,rfl,ha,hb,hz,q⟩,e⟩,hz,fun e=>q _ _ (ar.refl _) ?_,fun _ p hp=>q _ _ (ar.new hp _) (.of ah)⟩;rw[e,zaM];exact ha
noncomputable def zL:Option (Int×List Int)->Dp
 |none=>.eA
 |some x=>.tup [.int x.1,.tup (x.2.map Dp.int)]
theorem mK{K:zaa}(l:List Int):aL K H (l.map Dp.int) (l.map V.int):=by
 induction l with
 |nil=>rw[za8,za8,aL.bQ]
 |cons x r ih=>rw[zas,zas,aL.aP];exact⟨_,_,rfl,by rw[Rep.bD],ih⟩
theorem Gb{K:zaa}(h:df K H a row vals):Rep K H (.tup [.int row,.tup (vals.map Dp.int)]) (.ref a):=by
 obtain⟨va,h1,h2⟩:=h;rw[Rep.aT];refine⟨a,_,rfl,h1,?_⟩;rw[aL.aP];refine⟨_,_,rfl,by rw[Rep.bD],?_⟩;rw[aL.aP];refine⟨_,_,rfl,?_,by rw[aL.bQ]⟩;rw[Rep.aT];exact⟨va,_,rfl,h2,mK _⟩
def Y4:cJ->Prop
 |.dR _ sg _ _=>sg∈RL
 |.ifs _ sg _ _ _ _=>sg∈RL
 |.mF _ sg _ _ _=>sg∈RL
 |_=>True
theorem vq(s:ar H H')(h:H' b=none):H b=none:=by
 cases z:H b with
 |none=>rfl
 |some o=>rw[s _ _ z] at h;cases h
theorem bH.Ls{K:zaa}(h:bH K H a xs)(hD:H D=some (.lst ys))(u:bf D H H'):bH K H' a xs:=by
 rcases h with (q |⟨o,q⟩) |q
 .exact .inl (.inl (u _ _ (bz q hD (by intro z;cases z)) q))
 .exact .inl (.inr ⟨o,u _ _ (bz q hD (by intro z;cases z)) q⟩)
 .exact .inr q
theorem Az{vals:List Int}(lv:vals.length=bs.length)(nb:(bs.map (·.name)).Nodup)(hv:∀v∈vals,v.natAbs<=2 ^ 12)(e:PM.Tr):oI bs e->Jq (eT bs (vals.map V.int)) e:=by
 induction e with
 |num n=>intro h;rw[oI] at h;rw[Jq];lia
 |box x=>
  intro h;rw[oI] at h;rw[Jq];obtain⟨hx,ex⟩:=pK h;have li:iU bs x<vals.length:=by lia
  refine⟨vals[iU bs x],?_,hv _ (zaw li)⟩;have:=mJ bs (vals.map V.int) (by simpa using lv) nb (iU bs x) hx (.int vals[iU bs x]) (by rw[zar,zad li];rfl);rw[ex] at this;exact this
 |bin o l r ih ih2=>
  intro h;rw[oI] at h;rw[Jq];exact⟨by simpa using h.1,ih h.2.1,ih2 h.2.2⟩
theorem AA(lv:vals.length=bs.length)(nb:(bs.map (·.name)).Nodup)(hv:∀v∈vals,v.natAbs<=2 ^ 12){st:cJ}(h:FZ (·∈bs.map (·.name)) (fun e=>oI bs e/\sX e<=2) (·∈RL) st):Lr bs vals st/\Y4 st:=by
 have k:∀e,(oI bs e/\sX e<=2)->Ey bs vals e:=fun e h=>⟨Az lv nb hv e h.1,h.2⟩
 cases st<;>rw[FZ] at h
 .exact⟨h,trivial⟩
 .exact⟨⟨h.1,k _ h.2⟩,trivial⟩
 .exact⟨k _ h,trivial⟩
 .exact⟨⟨k _ h.2.1,k _ h.2.2⟩,h.1⟩
 .exact⟨trivial,trivial⟩
 .exact⟨⟨k _ h.2.1,k _ h.2.2.1⟩,h.1⟩
 .exact⟨⟨k _ h.2.1,k _ h.2.2.1⟩,h.1⟩
section
variable{K:zaa}{H H':Hp}{p C dx a:zdF}{fs:List (Str×V)}{xs:List V}
theorem bH.ins(h:bH K H a xs)(hp:H p=some (.ins C dx fs))(u:bf p H H'):bH K H' a xs:=by
 rcases h with (q |⟨o,q⟩) |q
 .exact .inl (.inl (u _ _ (bz q hp (by intro z;cases z)) q))
 .exact .inl (.inr ⟨o,u _ _ (bz q hp (by intro z;cases z)) q⟩)
 .exact .inr q
theorem vp.ins(c:vp K CC H ch pr)(hp:H p=some (.ins C dx fs))(n:ch≠p)(u:bf p H H'):vp K CC H' ch pr:=by
 obtain⟨dx,nl,sd,fa,va,st,wy,us,ws,h1,h2,h3,h4,h5,h6,h7,h8,h9,Oz,Lq,OA⟩:=c.at_;have k:∀{b:zdF} {o:HO},H b=some o->(∀C dx fs,o≠.ins C dx fs)->H' b=some o:=fun e no=>u _ _ (bz e hp (no _ _ _)) e;exact⟨⟨dx,nl,sd,fa,va,st,wy,us,ws,u _ _ n h1,k h2 (by intro _ _ _ z;cases z),k h3 (by intro _ _ _ z;cases z),k h4 (by intro _ _ _ z;cases z),k h5 (by intro _ _ _ z;cases z),k h6 (by intro _ _ _ z;cases z),h7,k h8 (by intro _ _ _ z;cases z),mH hp (bR.one u rfl) _ _ h9,Oz,k Lq (by intro _ _ _ z;cases z),fun i hi=>let ⟨q,e,r⟩:=OA i hi;⟨q,e,r.ins hp u⟩⟩⟩
end
theorem EC(h:∀B:TS,(∀D G H,tb D G H->B D G H)->DQ tc B D G H):DQ tc tb D G H:=h tb fun _ _ _ x=>x
theorem Gd:∀{fs:List (Str×V)}{n:Nat},fs.length<=n->(iu f y fs).length<=n+1
 |[],n,h=>by simp[iu]
 |(g,x)::r,n,h=>by
  unfold iu;split
  .simp only[zaq] at h |-;lia
  .obtain⟨m,rfl⟩:∃m,n=m+1:=⟨n-1,by simp only[zaq] at h;lia⟩
   have:=Gd (f:=f) (y:=y) (fs:=r) (n:=m) (by simp only[zaq] at h;lia);simp only[zaq];lia
def Il (b:List cJ)(row:Int):cJ:=((aE b)[Oe b row]?).getD (.stop 0)
def RW (b:List cJ)(row:Int):List Int:=(((aR b 0)[Oe b row]?).map (·.2.2)).getD []
def vt (b:List cJ)(row:Int):Bool:=decide ((Il b row).wd=.ask)
def fN (pr:PG.Prog)(row:Int)(vals:List Int)(f:Int):Option (Int×List Int)×Option Int:=iV pr.aF (Il pr.body row) (RW pr.body row) vals f
theorem tT(pw:(aE b).Pairwise (fun a b=>a.row<b.row))(i:Nat)(hi:i<(aE b).length):Il b (aE b)[i].row=(aE b)[i]:=by
 unfold Il;rw[F0 pw i hi,zad hi];rfl
theorem Ge(pw:(aE b).Pairwise (fun a b=>a.row<b.row))(i:Nat)(hi:i<(aE b).length)(hf:i<(aR b 0).length):RW b (aE b)[i].row=(aR b 0)[i].2.2:=by
 unfold RW;rw[F0 pw i hi,zad hf];rfl
structure Ck(pr:PG.Prog)(row:Int)(vals:List Int):Prop where
 row:row=0\/∃i,∃hi:i<(aE pr.body).length,(aE pr.body)[i].row=row
 len:vals.length=pr.aF.length
 small:∀v∈vals,v.natAbs<=2 ^ 12
structure bV(pr:PG.Prog):Prop where
 ok:Ij pr
 dep:qw pr.body<=3
 EA:(gF pr.body).length<=1000
 own:Nk (·∈pr.aF.map (·.name)) (fun e=>oI pr.aF e/\sX e<=2) (·∈RL) pr.body
 size:∀b∈pr.aF,2<=b.size/\b.size<=10/\0<=b.first/\b.first<b.size
theorem Gf{pr:PG.Prog}(h:w=0\/w=0\/∃t∈aE pr.body,t.row=w):w=0\/∃i,∃hi:i<(aE pr.body).length,(aE pr.body)[i].row=w:=by
 rcases h with h |h |⟨t,ht,e⟩
 .exact .inl h
 .exact .inl h
 .obtain⟨i,hi,e2⟩:=zbQ.mp ht;exact .inr ⟨i,hi,by rw[e2];exact e⟩
theorem bV.first(d:bV pr):Ck pr (bU pr.body 0) (pr.aF.map (·.first)):=by
 refine⟨Gf (.inr ?_),by simp,fun v hv=>?_⟩
 .rcases pB pr.body 0 with e |e
  .exact .inl e
  .exact .inr e
 .obtain⟨b,hb,rfl⟩:=zae.mp hv;have:=d.size b hb;lia
theorem Cm(d:bV pr)(h:x∈pr.aF.map (·.name)):2<=ib pr.aF x/\ib pr.aF x<=10:=by
 obtain⟨hx,_⟩:=pK h;unfold ib;rw[zad hx];have:=d.size _ (zaw hx);exact⟨this.1,this.2.1⟩
theorem Ck.step(d:bV pr)(hi:i<(aE pr.body).length)(hf:i<(aR pr.body 0).length)(lv:vals.length=pr.aF.length)(sm:∀v∈vals,v.natAbs<=2 ^ 12)
 (h:iV pr.aF (aE pr.body)[i] (aR pr.body 0)[i].2.2 vals f=(some x,s)):Ck pr x.1 x.2:=by
 have Lu:=jh pr.body _ d.own (zaw hi);obtain⟨w0,w1⟩:=hZ pr.body 0 _ (zaw hf);have win:=pC pr.body 0 _ (zaw hf);obtain⟨_,_,ew⟩:=kO pr.body i hi;rw[ew] at w1;generalize (aR pr.body 0)[i].2.2=ws at *;generalize (aE pr.body)[i]=st at *;have r0:∀j,j<ws.length->ws.getD j 0=0\/∃i,∃hi:i<(aE pr.body).length,(aE pr.body)[i].row=ws.getD j 0:=fun j hj=>by
  rw[zal,zad hj];exact Gf (win _ (zaw hj))
 have set:∀(b:W) (z:Int),b∈pr.aF.map (·.name)->(wz pr.aF vals b (z%ib pr.aF b)).length=pr.aF.length/\∀v∈wz pr.aF vals b (z%ib pr.aF b),v.natAbs<=2 ^ 12:=fun b z hb=>by
  unfold wz;refine⟨by rw[zdi];exact lv,fun v hv=>?_⟩;rcases List.mem_or_eq_of_mem_set hv with hv |rfl
  .exact sm v hv
  .have:=Cm d hb;have m1:=zbr z (b:=ib pr.aF b) (by lia);have m2:=zba z (b:=ib pr.aF b) (by lia);lia
 have cs:eF pr.aF st ws vals=some x->(st.wd=.dR\/st.wd=.ifs\/st.wd=.mF)->Ck pr x.1 x.2:=by
  intro e hw;unfold eF at e;split at e
  .cases e
  .split at e
   .cases e;exact⟨r0 0 w0,lv,sm⟩
   .split at e
    .cases e
    .rename_i nm;cases e;exact⟨r0 1 (w1 (hw.resolve_left nm)),lv,sm⟩
 have AB:∀(y:Int×List Int) (s':Option Int),(some y,s')=(some x,s)->Ck pr y.1 y.2->Ck pr x.1 x.2:=fun y s' e h=>by cases e;exact h
 cases st<;>rw[FZ] at Lu
 .exact AB _ _ h ⟨r0 0 w0,(set _ _ Lu).1,(set _ _ Lu).2⟩
 .exact AB _ _ h ⟨r0 0 w0,(set _ _ Lu.1).1,(set _ _ Lu.1).2⟩
 .exact AB _ _ h ⟨r0 0 w0,lv,sm⟩
 .exact cs (ybW Prod.fst h) (.inl rfl)
 .exact AB _ _ h ⟨r0 0 w0,lv,sm⟩
 .exact cs (ybW Prod.fst h) (.inr (.inl rfl))
 .exact cs (ybW Prod.fst h) (.inr (.inr rfl))
theorem Cn{K:zaa}{l:List Int}(h:iR K H r (l.map V.int)):Rep K H (.lst (l.map Dp.int)) (.ref r):=Rep.bG.mpr ⟨r,_,rfl,h,mK l⟩
section
variable{K:zaa}{H H1:Hp}{p:zdF}{vs:List V}{ds:List Dp}
theorem gT(e:upd H p (.tup vs)=H1)(hp:H p=none):ar H H1:=e▸ar.new hp _
theorem gL(e:upd H p (.lst vs)=H1)(hp:H p=none):ar H H1:=e▸ar.new hp _
theorem DG(e:upd H p (.tup vs)=H1)(hp:H p=none)(hr:aL K H ds vs):Rep K H1 (.tup ds) (.ref p):=e▸Rep.new hp hr
theorem Vj(e:upd H p (.lst vs)=H1)(hp:H p=none)(hr:aL K H ds vs):Rep K H1 (.lst ds) (.ref p):=e▸Rep.YC hp hr
theorem Vk(e:upd H p (.lst vs)=H1):H1 p=some (.lst vs):=e▸ah
end
theorem rS{K:zaa}:Rep K H (.str x) (.str x):=Rep.bN.mpr rfl
theorem qN{K:zaa}:Rep K H (.int x) (.int x):=Rep.bD.mpr rfl
section
variable{prog:zdR}{w:zdH}
def jF (prog:zdR) (w:zdH) (h:yaf) (x:Key×List Key) (a:zdF):Prop:=∃(o:Obj) (n:Nat) (u:zdG) (b:zdF),h.get? a=some o/\o.cls=.type "tuple"/\o.data=.seq #[u,.ref b] n/\o5 x.1 u=true/\IsTupleKey (bF prog w) h x.2 b
theorem jF.ty{s:zdP}(h:jF prog w s.heap x a):s.TypeIs (.ref a) "tuple":=by obtain⟨o,_,_,_,e,c,_⟩:=h;exact⟨o,e,c⟩
def vv (w:zdH)(prog:zdR)(x:Key×List Key):Int:=reduceHash (ya1 [NJ w x.1,tupleKeyHash (bF prog w) x.2])
theorem jF.one(hx:jF prog w h x a)(hy:jF prog w h y a):x=y:=by
 obtain⟨o,n,u,b,e,_,d,i,t⟩:=hx;obtain⟨o',n',u',b',e',_,d',i',t'⟩:=hy;rw[e] at e';cases e';rw[d] at d'
 injection d' with d1 _
 have d1:=ybW zdB d1;simp only[List.cons.injEq,Value.ref.injEq,and_true] at d1;obtain⟨rfl,rfl⟩:=d1;exact Prod.ext ((bF prog w).inj _ _ _ i i') (t.inj t')
theorem jF.kp{es ep}(hx:jF prog w h x a)(ho:h.get? d=some o)(hd:o.data=.dict es ep)(hs:yay d h h'):jF prog w h' x a:=by
 obtain⟨o',n,u,b,e,c,d',i,t⟩:=hx;have ne:a≠d:=fun z=>by
  rw[z,ho] at e;cases e;rw[hd] at d';cases d'
 exact⟨o',n,u,b,(hs.2 a ne).trans e,c,d',i,t.keeps ho hd hs⟩
variable{A:zdQ}{E:zdG->zdP->Prop}{s:zdP}
theorem AD(hu:A.units+8<cLine)(hk:jF prog w s.heap x a)(h:Q (vv w prog x) {s with toks:=s.toks+(x.2.length+3)}) :
 yab (model prog w) A (pyHash (.ref a)) Q E s:=by
 have ty:=hk.ty;obtain⟨o,n,u,b,e,c,d,i,t⟩:=hk;refine zcT (T:="tuple") ty F.slot_tuple_hash F.entry_tuple_hash (F.args_tuple_hash_1 _) (beq_builtin_none _) (.inr (by lia)) ((show yab _ _ (ybP (.ref a) >>= _) _ _ s from ?_));refine zdI (yaV e d (zdI ?_));rw[<- zbn];show yab _ _ (forIn [u,yac b] #[] _) _ _ s;rw[zaP];refine zdI (zdI ((bF prog w).pyHash i (zdJ ?_)));show yab _ _ (forIn [yac b] _ _) _ _ _;rw[zaP];refine zdI (zdI (wpAny_pyHash_tuple (ks:=x.2) (by show A.units+1<cLine;lia) (show IsTupleKey (bF prog w) _ x.2 b from t) (zdJ ?_)));show yab _ _ (forIn ([]:List zdG) _ _) _ _ _;rw[zbh];refine zdJ ?_;show yab _ _ (retInt (ya1 [NJ w x.1,tupleKeyHash (bF prog w) x.2])) _ _ _;refine zdI (wpAny_mkInt (zdJ ⟨_,_,rfl,?_⟩));rw[show s.toks+(x.2.length+3)=s.toks+1+(x.2.length+1)+1 by lia] at h;exact h
theorem Lv(hu:A.units+8<cLine)(hx:jF prog w s.heap x a)(hy:jF prog w s.heap y b)(h:Q (decide (x=y)) s):yab (model prog w) A (eqBool (.ref a) (.ref b)) Q E s:=by
 unfold eqBool
 try with_reducible refine zdK ?_
 show yab _ _ (if (yac a==yac b)=true then _ else _) Q E s;by_cases BD:(yac a==yac b)=true
 .rw[ybS BD];have e:a=b:=by have:=eq_of_beq BD;injection this
  subst e;cases hx.one hy;exact zdI (ybg (zdJ (by simpa using h)))
 .rw[ybR BD];refine zdI (wpAny_richCompare_same_room (op:=.Eq) hx.ty hy.ty yaM (yaK yaM hx.ty F.entry_tuple_eq ?_ (F.args_tuple_eq_2 _ _)) (by lia));have Y5:=hy.ty;obtain⟨o1,n1,u1,b1,e1,c1,d1,i1,t1⟩:=hx;obtain⟨o2,n2,u2,b2,e2,c2,d2,i2,t2⟩:=hy;show yab _ _ (isInstance (.ref b) (.type "tuple") >>= _) _ _ s;refine zdI (yaB Y5 isSubtype_tuple_tuple ?_);simp only[zaQ,zau,if_false];refine zdI (yaV e1 d1 (zdI (yaV e2 d2 (zdI ?_))));show yab _ _ (forIn [(u1,u2),(yac b1,yac b2)] _ _) _ _ s;have fin:∀c:Bool,c=decide (x=y)->∃v,(Fin.done (Flow.ret (yaI c)))=Fin.done (Flow.ret v)/\v≠Value.notImplemented/\yab (model prog w) A (truthOfDropped v) Q E s:=fun c hc=>⟨_,rfl,(fun z=>nomatch z),yaN (hc▸h)⟩
  rw[zaP];refine zdI (zdI ((bF prog w).eqBool (a:=x.1) (b:=y.1) i1 i2 ?_));by_cases k1:x.1=y.1
  .rw[ybT k1];simp only[zaQ,zau,if_false];refine zdJ ?_;show yab _ _ (forIn [(yac b1,yac b2)] _ _) _ _ s;rw[zaP];refine zdI (zdI (wpAny_eqBool_tuple (x:=x.2) (y:=y.2) (by show A.units+1<cLine;lia) t1 t2 ?_));by_cases k2:x.2=y.2
   .rw[ybT k2];simp only[zaQ,zau,if_false];refine zdJ ?_;show yab _ _ (forIn ([]:List (zdG×zdG)) _ _) _ _ s;rw[zbh];exact zdJ (zdJ (fin true (ybT (Prod.ext k1 k2)).symm))
   .rw[ybU k2];simp only[zcv,if_true];exact zdI (zdJ (zdJ (zdJ (zdJ (fin false (ybU fun z=>k2 (ybW Prod.snd z)).symm)))))
  .rw[ybU k1];simp only[zcv,if_true];exact zdI (zdJ (zdJ (zdJ (zdJ (fin false (ybU fun z=>k1 (ybW Prod.fst z)).symm)))))
theorem xv(m:Nat)(hk:IsTupleKey (bF prog w) s.heap l b)(h:Q true s):yab (model prog w) A (eqIsQuiet (m+1) (.ref b)) Q E s:=by
 have ty:=hk.typeIs;obtain⟨o,bc,n,e,_,d,hi⟩:=hk;unfold eqIsQuiet;refine zdI (ya9 ty yaM.lookup ((show yab _ _ (isInstance (.ref b) (.type "tuple") >>= _) _ _ s from ?_)));refine zdI (yaB ty isSubtype_tuple_tuple ?_);simp only[zaQ,zau,if_false];refine zdI (yak e d (zdI ((show yab _ _ (forIn bc _ _) _ _ s from ?_))));rw[<- zbn];have all:=hi.byValue;generalize bc.toList=vs at all;refine ybz _ (fun r (c:Option Bool×Unit) s'=>c.1=none/\s'=s/\∀v∈r,carriedByValue v=true) _ (fun v r c s' hv=>?_) (fun c s' hv=>?_) _ _ ⟨rfl,rfl,all⟩
 .obtain⟨_,rfl,hv⟩:=hv;rw[eqIsQuiet_byValue _ (hv v (zao ..))];refine zdI (zdJ ?_);simp only[zaQ,zau,if_false];exact zdJ ⟨rfl,rfl,fun z hz=>hv z (zag _ hz)⟩
 .obtain⟨c1,c2⟩:=c;obtain⟨hc,rfl,_⟩:=hv;cases (show c1=none from hc);exact zdJ h
theorem Lw(hk:jF prog w s.heap x a)(h:Q true s):yab (model prog w) A (eqIsQuiet 8 (.ref a)) Q E s:=by
 have ty:=hk.ty;obtain⟨o,n,u,b,e,c,d,i,t⟩:=hk;unfold eqIsQuiet;refine zdI (ya9 ty yaM.lookup ((show yab _ _ (isInstance (.ref a) (.type "tuple") >>= _) _ _ s from ?_)));refine zdI (yaB ty isSubtype_tuple_tuple ?_);simp only[zaQ,zau,if_false];refine zdI (yak e d (zdI ?_));have key:∀ {z:zdG} {k:Key} {m:Nat},o5 k z=true->eqIsQuiet m z=pure true:=fun {z k m} hz=>eqIsQuiet_byValue m ((bF prog w).byValue k z hz);show yab _ _ (forIn #[u,yac b] _ _) _ _ s;rw[<- zbn];show yab _ _ (forIn [u,yac b] _ _) _ _ s;rw[zaP,key i];refine zdI (zdI (zdJ ?_));simp only[zaQ,zau,if_false];refine zdJ ?_;show yab _ _ (forIn [yac b] _ _) _ _ s;rw[zaP];refine zdI (zdI (xv 6 t ?_));simp only[zaQ,zau,if_false];refine zdJ ?_;show yab _ _ (forIn ([]:List zdG) _ _) _ _ s;rw[zbh];exact zdJ (zdJ h)
end
def RX (prog:zdR)(w:zdH):HeapKind prog w (Key×List Key) where
 is:=jF prog w
 hash:=vv w prog
 draws:=fun x=>x.2.length+3
 room:=fun A=>A.units+8<cLine
 inj:=fun hx hy=>hx.one hy
 keeps:=fun hx ho hd hs=>hx.kp ho hd hs
 pyHash:=fun hu hk h=>AD hu hk h
 eqBool:=fun hu hx hy h=>Lv hu hx hy h
 quiet:=fun hk h=>Lw hk h
noncomputable def tN (b:Bool):Int:=if b then 1 else 0
def Lx (k:Key)(v:zdG):Bool:=match v with
 |.bool b=>decide (k=.inl (tN b))
 |v=>o5 k v
theorem eJ(h:Lx k v=true):(∃i t,k=.inl i/\v=.int i t)\/(∃x t,k=.inr x/\v=.str x t)\/∃b,k=.inl (tN b)/\v=.bool b:=by
 unfold Lx at h;split at h
 .rename_i b;exact .inr (.inr ⟨b,ybV h,rfl⟩)
 .rcases cR h with z |z
  .exact .inl z
  .exact .inr (.inl z)
theorem RY:(tN a==tN b)=(a==b):=by cases a<;>cases b<;>rfl
def RZ (prog:zdR)(w:zdH):PySem.KeyKind prog w Key where
 is:=Lx
 hash:=NJ w
 inj:=fun v a b ha hb=>by
  rcases eJ ha with ⟨i,t,rfl,rfl⟩ |⟨x,t,rfl,rfl⟩ |⟨c,rfl,rfl⟩<;>rcases eJ hb with ⟨j,u,rfl,e⟩ |⟨y,u,rfl,e⟩ |⟨d,rfl,e⟩<;>cases e<;>rfl
 byValue:=fun k v h=>by
  rcases eJ h with ⟨i,t,rfl,rfl⟩ |⟨x,t,rfl,rfl⟩ |⟨c,rfl,rfl⟩<;>rfl
 pyHash:=fun hv h=>by
  rcases eJ hv with ⟨i,t,rfl,rfl⟩ |⟨x,t,rfl,rfl⟩ |⟨c,rfl,rfl⟩
  .exact wpAny_pyHash_int h
  .exact wpAny_pyHash_str h
  .refine zcT (T:="bool") rfl F.slot_bool_hash entry_int_hash (args_int_hash _) (beq_builtin_none _) (.inl rfl) ?_;cases c
   .exact(show yab _ _ (do ret (<- mkInt 0)) _ _ _ from zdI (wpAny_mkInt (zdJ ⟨_,_,rfl,h⟩)))
   .exact(show yab _ _ (do ret (<- mkInt 1)) _ _ _ from zdI (wpAny_mkInt (zdJ ⟨_,_,rfl,h⟩)))
 eqBool:=fun hu hv h=>by
  rcases eJ hu with ⟨i,t,rfl,rfl⟩ |⟨x,t,rfl,rfl⟩ |⟨c,rfl,rfl⟩
  .rcases eJ hv with ⟨j,u,rfl,rfl⟩ |⟨y,u,rfl,rfl⟩ |⟨d,rfl,rfl⟩
   .rw[wZ] at h;exact wpAny_eqBool_int h
   .rw[DM] at h;exact ybL i t y u _ _ _ _ h
   .rw[wZ] at h;exact SeqAt.EqAt.int_bool i t d _ _ _ _ h
  .rcases eJ hv with ⟨j,u,rfl,rfl⟩ |⟨y,u,rfl,rfl⟩ |⟨d,rfl,rfl⟩
   .rw[DN] at h;exact ybM x t j u _ _ _ _ h
   .rw[Jz] at h;exact wpAny_eqBool_str h
   .rw[DN] at h;exact SeqAt.EqAt.str_bool x t d _ _ _ _ h
  .rcases eJ hv with ⟨j,u,rfl,rfl⟩ |⟨y,u,rfl,rfl⟩ |⟨d,rfl,rfl⟩
   .rw[wZ] at h;exact SeqAt.EqAt.bool_int c j u _ _ _ _ h
   .rw[DM] at h;exact SeqAt.EqAt.bool_str c y u _ _ _ _ h
   .rw[wZ,RY] at h;exact SeqAt.EqAt.bool_bool c d _ _ _ _ h
 «strs»:=fun k x t v h=>by
  rcases eJ h with ⟨i,u,rfl,e⟩ |⟨y,u,rfl,e⟩ |⟨d,rfl,e⟩
  .cases e
  .cases e;cases v<;>rfl
  .cases e
set_option genInjectivity false in
structure KH(Y:Type)[DecidableEq Y] where
 knd:∀(P:zdR) (w:zdH),HeapKind P w Y
 on:zaa->Hp->Y->zdF->Prop
 up:∀{K:zaa} {H H':Hp} {x:Y} {a:zdF},(∀b ys,bH K H b ys->bH K H' b ys)->on K H x a->on K H' x a
 of:∀{X:Cx} {pins:List (zdF×Obj)} {G:St} {H:Hp} {s:zdP} {x:Y} {a:zdF},Inv X pins G H s->on X.K H x a->(knd X.prog X.w).is s.heap x a
 room:∀{P:zdR} {w:zdH} {A:zdQ},A.units+16<cLine->(knd P w).room A.in1
section
variable{Y:Type}[DecidableEq Y](J:KH Y)
def iA (P:zdR)(w:zdH)(a:zdF)(xs:List (Y×zdF×zdG)):yaf->Prop:=fun h=>∃o es ep,h.get? a=some o/\o.ExactDict/\o.data=.dict es ep/\es.toList=xs.map (entryOfKey (J.knd P w))
abbrev KS (K:zaa) (H:Hp):List (Y×V)->List (Y×zdF×zdG)->Prop:=yao fun p q=>p.1=q.1/\J.on K H p.1 q.2.1/\RelV p.2 q.2.2
structure DS(P:zdR)(w:zdH)(K:zaa)(H:Hp)(a:zdF)(aB:List (Y×V)):Prop where
 len:aB.length<=zdN
 sys:(a==yar)=false
 at_:∃xs,H a=some (.ext (iA J P w a xs))/\KS J K H aB xs/\(xs.map (·.1)).Nodup
variable{J}
section
variable{K:zaa}{H H':Hp}{aB:List (Y×V)}{xs:List (Y×zdF×zdG)}
theorem KS.val(r:KS J K H aB xs)(k:Y):oT (cf aB k) ((atKey xs k).map (·.2)):=by
 induction r with
 |nil=>exact True.intro
 |@cons p q ps qs h t ih=>
  by_cases e:p.1=k
  .rw[cn e,show atKey (q::qs) k=some q.2 by simp[atKey,h.1.symm.trans e]];exact h.2.2
  .have e':¬q.1=k:=fun z=>e (h.1.trans z);rw[cu e,show atKey (q::qs) k=atKey qs k by simp[atKey,e']];exact ih
theorem KS.put(r:KS J K H aB xs)(k:Y)(hb:J.on K H k b)(ry:RelV y u):KS J K H (putK aB k y) (storedH xs k b u):=by
 have e:(aB.any fun kv=>decide (kv.1=k))=(atKey xs k).isSome:=by rw[iw,(r.val k).mE,zb7]
 unfold putK storedH;rw[e];by_cases q:(atKey xs k).isSome=true
 .rw[ybS q,ybS q];clear e q
  induction r with
  |nil=>exact .nil
  |@cons p q ps qs h t ih=>
   refine .cons ?_ ih;dsimp only;unfold putAt;by_cases e:p.1=k
   .rw[ybS e];rw[ybS (h.1.symm.trans e)];exact⟨h.1,h.2.1,ry⟩
   .rw[ybR e];rw[ybR fun z=>e (h.1.trans z)];exact h
 .rw[ybR q,ybR q];exact ybK r ⟨rfl,hb,ry⟩
theorem KS.up(r:KS J K H aB xs)(t:∀b ys,bH K H b ys->bH K H' b ys):KS J K H' aB xs:=yao.Af r fun _ _ z=>⟨z.1,J.up t z.2.1,z.2.2⟩
end
section
variable{X:Cx}{pins:List (zdF×Obj)}{G:St}{H:Hp}{s:zdP}{a b:zdF}{v:V}{u r:zdG}{A:zdQ}{E:zdG->zdP->Prop}{aB:List (Y×V)}{k:Y}
theorem xw(I:Inv X pins G H s)(e:H a=some (.ext (iA J X.prog X.w a xs)))(r:KS J X.K H aB xs)(nd:(xs.map (·.1)).Nodup):s.heap.DictOfH (J.knd X.prog X.w) a xs:=by
 obtain⟨⟨o,es,ep,h1,h2,h3,h4⟩, -⟩:=(show bZ X.prog X.w H s.heap a (.ext (iA J X.prog X.w a xs)) from I.bS a _ e)
 refine⟨o,es,ep,h1,h2,h3,h4,?_,nd⟩;clear h4 nd e
 induction r with
 |nil=>intro x hx;cases hx
 |@cons p q ps qs hq t ih=>
  intro x hx;rcases zak.mp hx with rfl |hx
  .exact J.of I (hq.1▸hq.2.1)
  .exact ih x hx
theorem Vl(hu:A.units+16<cLine)(I:Inv X pins G H s)(d:DS J X.prog X.w X.K H a aB)(hk:J.on X.K H k b)(h:∀s',Inv X pins G H s'->Q (.bool (cf aB k).isSome) s') :
 yab (model X.prog X.w) A (yau .In (.ref b) (.ref a)) Q E s:=by
 obtain⟨z,sy,xs,e,r,nd⟩:=d;refine wpAny_in_heap (knd:=J.knd X.prog X.w) (J.room hu) (J.of I hk) sy (xw I e r nd) ?_;have q:=(r.val k).mE;rw[zb7] at q;rw[<- q];exact h _ (I.tok _)
theorem Ly(hu:A.units+16<cLine)(I:Inv X pins G H s)(d:DS J X.prog X.w X.K H a aB)(hk:J.on X.K H k b)(h:∀s',Inv X pins G H s'->Q (.bool (!(cf aB k).isSome)) s') :
 yab (model X.prog X.w) A (yau .NotIn (.ref b) (.ref a)) Q E s:=by
 obtain⟨z,sy,xs,e,r,nd⟩:=d;refine PyProof.Rows.wpAny_notIn_heap (knd:=J.knd X.prog X.w) (J.room hu) (J.of I hk) sy (xw I e r nd) ?_;have q:=(r.val k).mE;rw[zb7] at q;rw[<- q];exact h _ (I.tok _)
theorem R0(hu:A.units+16<cLine)(I:Inv X pins G H s)(d:DS J X.prog X.w X.K H a aB)(hk:J.on X.K H k b)(l:cf aB k=some v)(h:∀w' s',Inv X pins G H s'->RelV v w'->Q w' s') :
 yab (model X.prog X.w) A (getItem (.ref a) (.ref b)) Q E s:=by
 obtain⟨z,sy,xs,e,r,nd⟩:=d;obtain⟨w',hw,HK⟩:=oT.some_of (v:=v) (o:=(atKey xs k).map (·.2)) (by rw[<- l];exact r.val k);obtain⟨p,hp,sV⟩:=zaZ.mp hw;refine wpAny_getItem_heap (knd:=J.knd X.prog X.w) (J.room hu) (J.of I hk) (xw I e r nd) hp ?_;rw[sV];exact h w' _ (I.tok _) HK
theorem bH.ext{K:zaa}(h:bH K H c ys)(e:H a=some (.ext φ)):bH K (upd H a o) c ys:=by
 rcases h with (q |⟨o',q⟩) |q
 .exact .inl (.inl (by rw[au (bz q e (by intro z;cases z))];exact q))
 .exact .inl (.inr ⟨o',by rw[au (bz q e (by intro z;cases z))];exact q⟩)
 .exact .inr q
theorem R1(hu:A.units+16<cLine)(I:Inv X pins G H s)(d:DS J X.prog X.w X.K H a aB)(hk:J.on X.K H k b)(l:aB.length<zdN)(rv:RelV v r)
 (h:∀s' H',Inv X pins G H' s'->DS J X.prog X.w X.K H' a (putK aB k v)->(∃φ,H'=upd H a (.ext φ))->Q () s') :
 yab (model X.prog X.w) A (setItem (.ref a) (.ref b) r) Q E s:=by
 obtain⟨z,sy,xs,e,rel,nd⟩:=d;have hz:xs.length<=zdN:=by rw[<- yah rel];exact z
 have hl:(putK aB k v).length<=zdN:=by have:=jA aB k v;lia
 refine wpAny_setItem_heap (knd:=J.knd X.prog X.w) (hsz:=hz) (J.room hu) (J.of I hk) (xw I e rel nd) fun h' Tg hs=>?_;obtain⟨q,es,ep,hq,h2,h3,h4,_,h5⟩:=Tg;have ph:iA J X.prog X.w a (storedH xs k b r) h':=⟨q,es,ep,hq,h2,h3,h4⟩
 refine h _ (upd H a (.ext (iA J X.prog X.w a (storedH xs k b r)))) (ni I (by rw[e];exact True.intro) hs ⟨q,hq⟩ ⟨ph,⟨q,hq⟩,fun g1 g2 p1 kp=>?_⟩) ⟨hl,sy,_,ah,(rel.put k hk rv).up fun c ys ec=>ec.ext e,h5⟩ ⟨_,rfl⟩;obtain⟨o,es,ep,h1,h2,h3,h4⟩:=p1;exact⟨o,es,ep,kp o h1,h2,h3,h4⟩
end
theorem DS.oX{K:zaa}(d:DS J P w K H a aB)(e:∀o,H a=some o->H' a=some o)(t:∀b ys,bH K H b ys->bH K H' b ys):DS J P w K H' a aB:=⟨d.len,d.sys,let ⟨xs,h,r,nd⟩:=d.at_;⟨xs,e _ h,r.up t,nd⟩⟩
theorem DS.mono{K:zaa}(d:DS J P w K H a aB)(s:ar H H'):DS J P w K H' a aB:=d.oX (fun o h=>s _ _ h) fun b ys q=>s.cO q
section
variable{X:Cx}{o i value:Expr}{pos pos':Pos}{td ty tv:TE}
def ED (J:KH Y)(P:zdR)(w:zdH):TE:=fun _ H Q=>∀p,H p=none->(p==yar)=false->Q (.ref p) (upd H p (.ext (iA J P w p [])))
theorem EE{K:zaa}(h:(p==yar)=false):DS J P w K (upd H p (.ext (iA J P w p []))) p []:=⟨zaN _,h,[],ah,.nil,zbi⟩
theorem xx:PE X (.Dict [] [] pos) (ED J X.prog X.w):=fun pins s G H Q I h=>by
 have big:=I.big;refine wpAny_Dict_empty ⟨.ref s.heap.objs.size,_,I.laid (a:=s.heap.objs.size) (o:=.ext (iA J X.prog X.w s.heap.objs.size [])) (t':=s.toks) (fun _ _ q=>yaa _ q) (zah _) ⟨⟨_, #[],0,yae _ rfl,⟨rfl,rfl,rfl⟩,rfl,rfl⟩,⟨_,yae _ rfl⟩,fun g1 g2 p1 kp=>?_⟩,rfl,h _ (I.bS.fresh (zah _)) (beq_eq_false_iff_ne.mpr (Ne.symm (zaz big)))⟩;obtain⟨ob,es,ep,h1,h2,h3,h4⟩:=p1;exact⟨ob,es,ep,kp ob h1,h2,h3,h4⟩
theorem Lz(hu:X.A.units+16<cLine):qv X (yau .In) (fun x y H Q=>∃(a b:zdF)(aB:List (Y×V))(k:Y),x=.ref b/\y=.ref a/\DS J X.prog X.w X.K H a aB/\J.on X.K H k b/\Q (.bl (cf aB k).isSome) H):=by
 intro pins s G H x y v u Q I rx ry h;obtain⟨a,b,aB,k,rfl,rfl,d,hk,q⟩:=h;cases rx;cases ry;exact Vl hu I d hk fun s' I'=>⟨.bl (cf aB k).isSome,H,I',rfl,q⟩
theorem qh(hu:X.A.units+16<cLine):qv X (yau .NotIn) (fun x y H Q=>∃(a b:zdF)(aB:List (Y×V))(k:Y),x=.ref b/\y=.ref a/\DS J X.prog X.w X.K H a aB/\J.on X.K H k b/\Q (.bl (!(cf aB k).isSome)) H):=by
 intro pins s G H x y v u Q I rx ry h;obtain⟨a,b,aB,k,rfl,rfl,d,hk,q⟩:=h;cases rx;cases ry;exact Ly hu I d hk fun s' I'=>⟨.bl (!(cf aB k).isSome),H,I',rfl,q⟩
def EF (J:KH Y)(P:zdR)(w:zdH)(K:zaa)(td ty tv:TE):TS:=fun D G H=>tv G H fun v H1=>td G H1 fun x H2=>ty G H2 fun y H3=>∃(a b:zdF) (aB:List (Y×V)) (k:Y),x=.ref a/\y=.ref b/\DS J P w K H3 a aB/\J.on K H3 k b/\aB.length<zdN/\
 ∀H4,DS J P w K H4 a (putK aB k v)->(∃φ,H4=upd H3 a (.ext φ))->D.nx G H4
theorem tU(hu:X.A.units+16<cLine)(ho:PE X o td)(hi:PE X i ty)(hv:PE X value tv)(hs:swapsWith value (some (.Subscript o i pos')) pos.line X.env=pure false):PS X (.Assign [.Subscript o i pos'] value pos) (EF J X.prog X.w X.K td ty tv):=by
 intro pins s G H D I h;refine wpAny_Assign_Subscript (fC (hv pins s G H _ I h) fun r s1 zqz=>?_) hs;obtain⟨v,H1,I1,rv,q1⟩:=zqz;refine fC (ho pins s1 G H1 _ I1 q1) fun u s2 zqz=>?_;obtain⟨x,H2,I2,rx,q2⟩:=zqz;refine fC (hi pins s2 G H2 _ I2 q2) fun iv s3 zqz=>?_;obtain⟨y,H3,I3,ry,a,b,aB,k,ex,ey,d,hk,l,q3⟩:=zqz;subst ex ey;cases rx;cases ry;exact R1 hu I3 d hk l rv fun s4 H4 I4 d4 e4=>⟨G,H4,I4,q3 H4 d4 e4⟩
def EG (J:KH Y)(P:zdR)(w:zdH)(K:zaa)(td ty:TE):TE:=fun G H Q=>td G H fun x H1=>ty G H1 fun y H2=>∃(a b:zdF) (aB:List (Y×V)) (k:Y) (v:V),x=.ref a/\y=.ref b/\DS J P w K H2 a aB/\J.on K H2 k b/\cf aB k=some v/\Q v H2
theorem Co(hu:X.A.units+16<cLine)(ho:PE X o td)(hi:PE X i ty)(hs:Rz i):PE X (.Subscript o i pos) (EG J X.prog X.w X.K td ty):=by
 intro pins s G H Q I h;refine FI PySem.F.slot_dict_getitem.lookup hs (fC (ho pins s G H _ I h) fun u s1 zqz=>?_);obtain⟨x,H1,I1,rx,q1⟩:=zqz;refine fC (hi pins s1 G H1 _ I1 q1) fun iv s2 zqz=>?_;obtain⟨y,H2,I2,ry,a,b,aB,k,v,ex,ey,d,hk,l,q2⟩:=zqz;subst ex ey;cases rx;cases ry;have dd:=d;obtain⟨z,sy,xs,e,r,nd⟩:=dd;exact⟨(xw I2 e r nd).typeIs,R0 hu I2 d hk l fun w' s3 I3 HK=>⟨v,H2,I3,HK,q2⟩⟩
end
end
abbrev bA:=Key×List Key
def Y6 (K:zaa)(H:Hp)(x:bA)(a:zdF):Prop:=∃b,bH K H a [kV x.1,.ref b]/\bH K H b (x.2.map kV)
def qi:KH bA where
 knd:=RX
 on:=Y6
 up:=fun t ⟨b,h1,h2⟩=>⟨b,t _ _ h1,t _ _ h2⟩
 of:=fun {X pins G H s x a} I ⟨c,h1,h2⟩=>by
  obtain⟨i1,r1,⟨o1,e1,c1,n1,d1⟩,_⟩:=I.tuple h1;obtain⟨i2,r2,⟨o2,e2,c2,n2,d2⟩,_⟩:=I.tuple h2;obtain⟨u1,u2,rfl,q1,q2⟩:=vals2 r1;cases (show u2=yac c from q2);exact⟨o1,n1,u1,c,e1,c1,d1,zv (P:=X.prog) (w:=X.w) q1,o2,i2.toArray,n2,e2,c2,d2,by simpa using ve r2⟩
 room:=fun {P w A} h=>by show A.units+1+8<cLine;lia
def Y7 (k:Key)(v:V):Prop:=v=kV k\/∃b,v=.bl b/\k=.inl (tN b)
theorem OC(h:Y7 k v)(r:RelV v u):Lx k u=true:=by
 rcases h with rfl |⟨b,rfl,rfl⟩
 .cases k with
  |inl i=>obtain⟨t,rfl⟩:=(show ∃t,u=ybk i t from r);exact zd i t
  |inr x=>obtain⟨t,rfl⟩:=(show ∃t,u=ybl x t from r);exact zf x t
 .cases (show u=yaI b from r);exact ybT rfl
theorem LD:∀{ks:List Key}{vs:List V}{us:List zdG},yao Y7 ks vs->Vals vs us->ItemsAre (RZ P w) ks us
 |_,_,_,.nil,r=>by cases r;exact .nil
 |_,_,_,.cons h t,r=>by
  cases r with
  |cons r1 r2=>exact .cons (OC h r1) (LD t r2)
def Y8:KH (List Key) where
 knd:=fun P w=>tupleKind (RZ P w)
 on:=fun K H x a=>∃vs,bH K H a vs/\yao Y7 x vs
 up:=fun t ⟨vs,h1,h2⟩=>⟨vs,t _ _ h1,h2⟩
 of:=fun {X pins G H s x a} I ⟨vs,h1,h2⟩=>by
  obtain⟨i1,r1,⟨o1,e1,c1,n1,d1⟩,_⟩:=I.tuple h1;exact⟨o1,i1.toArray,n1,e1,c1,d1,by simpa using LD h2 r1⟩
 room:=fun {P w A} h=>by show A.units+1<cLine;lia
def jX (h:yaf)(d:zdF)(es:Array DictEntry)(ep:Nat):Prop:=∃o,h.get? d=some o/\o.ExactDict/\o.data=.dict es ep
section
variable{prog:zdR}{w:zdH}{A:zdQ}{E:zdG->zdP->Prop}{s:zdP}{d it:zdF}{es:Array DictEntry}{ep i:Nat}
theorem jX.ty(x:jX s.heap d es ep):s.TypeIs (.ref d) "dict":=by obtain⟨o,g,c,_⟩:=x;exact⟨o,g,c.1⟩
theorem jX.oX(x:jX h d es ep)(e:∀o,h.get? d=some o->h'.get? d=some o):jX h' d es ep:=by obtain⟨o,g,r⟩:=x;exact⟨o,e _ g,r⟩
theorem jX.lt(x:jX h d es ep):d<h.objs.size:=by obtain⟨_,g,_⟩:=x;exact yad g
theorem Cp(hd:(d==yar)=false)(x:jX s.heap d es ep)
 (q:Q (.ref s.heap.objs.size) {s with heap:=s.heap.push {cls:=.type "dict_keyiterator",data:=.fields #[.ref d,.int 0 0,.int es.size 0,.int ep 0]} }):yab (model prog w) A (pyIter (.ref d)) Q E s:=by
 have Y9:=x.ty;obtain⟨od,gd,cd,dd⟩:=x;refine wpAny_pyIter_slot Y9 F.slot_dict_iter (yaK F.slot_dict_iter Y9 F.entry_dict_iter ?_ (F.args_dict_iter_1 _));unfold Builtin.«dict.__iter__» Builtin.Dict.dictSlotNone;refine zdI (zdI (ybd Y9 ?_));show yab _ _ (pure (yac d)) _ _ s;refine zdJ ?_;show yab _ _ (Builtin.Dict.showsAll d >>= _) _ _ s;unfold Builtin.Dict.showsAll;rw[ybR (by rw[hd];exact zam)];refine zdI (zdJ (zdI (ybt gd dd (zdI (wpAny_dictEpoch gd dd ?_)))));refine zdI (ybs (zdJ ⟨_,rfl, "dict_keyiterator",_,⟨_,yae _ rfl,rfl⟩,yaC.lookup,?_⟩));simpa[yaS] using q
theorem Cq(x:s.heap.IsKeyIter it d i es.size ep)(y:jX s.heap d es ep)(li:i<es.size)
 (q:∀h',h'.IsKeyIter it d (i+1) es.size ep->yay it s.heap h'->Q (some es[i].key) {s with heap:=h' }):yab (model prog w) A (yaR (.ref it)) Q E s:=by
 have Np:=x.typeIs;obtain⟨oi,gi,ci,di⟩:=id x;obtain⟨od,gd,_,dd⟩:=id y;have ow:ybI "dict_keyiterator"=false:=by decide
 unfold yaR;refine zdI (wpAny_attempt (wpAny_callSpecial?_slot (name:=zab "__next__") Np yaC (yaK yaC Np F.entry_dict_keyiterator_next ?_ (F.args_dict_keyiterator_next_1 _))));refine zdI (zdJ (zdI (zdI ?_)));refine zdI (yaP Np (zdJ (zdI (wpAny_fieldsOf gi di ?_))));simp only[ow,zau,if_false];show yab _ _ (if (yac d==yaA)=true then _ else _) _ _ s;rw[ybR (show ¬((yac d==yaA)=true) from zam)];refine zdI (zdJ (zdI (ybt gd dd ?_)));rw[ybR (by simp)];refine zdI (zdJ (zdI (wpAny_dictEpoch gd dd ?_)));rw[ybR (by simp)];refine zdJ ?_;simp only[show ¬((i:Int)<0) from by lia,if_false,zbL,zaU li];refine zdI (zdI (yaP Np (zdJ (zdI (wpAny_isOneOf_keyiter Np ?_)))));show yab _ _ (setField (.ref it) 1 (yaS ((i:Int)+1)) >>= _) _ _ s;refine zdI (wpAny_setField gi di (by simp) ?_);have z:(s.heap.update it (Obj.mapFields (·.setIfInBounds 1 (yaS ((i:Int)+1))))).IsKeyIter it d (i+1) es.size ep:=
  ⟨_,yaz _ gi (Obj.isFreed_of_fields (ybp di _)),(Obj.cls_mapFields ..).trans ci,by rw[ybp di];simp[yaS]⟩
 refine zdI (zdK (zdI (wpAny_isOneOf_keyiter (s:={s with heap:=s.heap.update it (Obj.mapFields (·.setIfInBounds 1 (yaS ((i:Int)+1))))}) z.typeIs ?_)));show yab _ _ (pure es[i].key) _ _ _;exact zdJ (zdJ ⟨_,rfl,zdJ (q _ z (yaQ ..))⟩)
theorem Gg(hA:A.handled=none)(x:s.heap.IsKeyIter it d i es.size ep)(y:jX s.heap d es ep)(li:es.size<=i)
 (q:∀h',Heap.ExtBut it s.heap h'->Q none {s with heap:=h' }):yab (model prog w) A (yaR (.ref it)) Q E s:=by
 have Np:=x.typeIs;obtain⟨oi,gi,ci,di⟩:=id x;obtain⟨od,gd,_,dd⟩:=id y;have ow:ybI "dict_keyiterator"=false:=by decide
 unfold yaR;refine zdI (wpAny_attempt (wpAny_callSpecial?_slot (name:=zab "__next__") Np yaC (yaK yaC Np F.entry_dict_keyiterator_next ?_ (F.args_dict_keyiterator_next_1 _))));refine zdI (zdJ (zdI (zdI ?_)));refine zdI (yaP Np (zdJ (zdI (wpAny_fieldsOf gi di ?_))));simp only[ow,zau,if_false];show yab _ _ (if (yac d==yaA)=true then _ else _) _ _ s;rw[ybR (show ¬((yac d==yaA)=true) from zam)];refine zdI (zdJ (zdI (ybt gd dd ?_)));rw[ybR (by simp)];refine zdI (zdJ (zdI (wpAny_dictEpoch gd dd ?_)));rw[ybR (by simp)];refine zdJ ?_;simp only[show ¬((i:Int)<0) from by lia,if_false,zbL,Array.getElem?_eq_none li];refine zdI (zdI (yaP Np (zdJ ?_)));show yab _ _ (setField (.ref it) 0 .none >>= _) _ _ s;refine zdI (wpAny_setField gi di (by simp) ?_);show yab _ _ (newExc (.type "StopIteration") [] >>= _) _ _ _;refine zdI ?_;simp only[newExc,newTuple];refine zdI (ybs (zdI (m:=firstArgMember _ _) (wpAny_of_eq (a:=yaA) (by first |rfl |(simp only[firstArgMember];rfl)) (ybs ?_ (by size_fits)))) (by size_fits));simp only[raiseNew];refine zdI (wpAny_handled ?_);rw[show A.in1.handled=none from hA];refine zdI (zdJ (wpAny_throw (zdI ?_)));refine yaB (T:="StopIteration") (b:=true) ⟨_,yae _ rfl,rfl⟩ isSubtype_stop ?_;exact zdJ (q _ (((yaQ ..).extBut.push _).push _))
theorem Im(hA:A.handled=none)(I d:zdF)(n:d≠I)(es:Array DictEntry)(ep:Nat):Walks prog w A I [I,d] [I] es.size (fun i v=>∃e,es[i]?=some e/\v=e.key) (fun i h=>h.IsKeyIter I d i es.size ep/\jX h d es ep) where
 sub:=fun b hb=>zak.mpr (.inl (zaf.mp hb))
 frame:=fun _ _ _ z k=>⟨z.1.at fun o e=>k I (by simp) o e,z.2.oX fun o e=>k d (by simp) o e⟩
 item:=fun i s Q E hi z q=>Cq z.1 z.2 hi fun h' a b=>q _ h' s.toks ⟨_,zaU hi,rfl⟩ ⟨a,z.2.oX fun o e=>b.extBut d o n e⟩ fun c o nc e=>b.extBut c o (fun h=>nc (by simp[h])) e
 done:=fun s Q E z q=>Gg hA z.1 z.2 (zah _) fun h' a=>q h' s.toks fun c o nc e=>a c o (fun h=>nc (by simp[h])) e
 self:=fun _ _ _ _ z q=>wpAny_pyIter_keyiter z.1 q
theorem OD(lo:(d==yar)=false):PySem.W.KdlSrc prog w "dict" d d es.size (fun i v=>∃e,es[i]?=some e/\v=e.key) (fun h=>jX h d es ep) where
 type:=fun _ m=>m.ty
 there:=fun _ m=>⟨m.lt,m.lt⟩
 keep:=fun _ _ m k=>m.oX fun o e=>k d (.inl rfl) o e
 notList:=by decide
 notTuple:=by decide
 hint:=fun _ _ _ _ m q=>PySem.W.kdl_hint_dict m.ty q
 iter:=fun _ _ hA m=>⟨_,_,(fun _ _ q=>Cp lo m q),Im hA _ d (zaz m.lt) es ep,⟨⟨_,yae _ rfl,rfl,rfl⟩,m.oX fun o e=>yaa _ e⟩⟩
end
section
variable{Y:Type}[DecidableEq Y]{J:KH Y}{X:Cx}
theorem EH(hc:X.calm=true):kK X (.type "list") (fun xs H Q=>∃(a:zdF) (aB:List (Y×V)),xs=[.ref a]/\DS J X.prog X.w X.K H a aB/\∀l us,H l=none->yao (fun (p:Y×V) (v:V)=>∃b,v=.ref b/\J.on X.K H p.1 b) aB us->Q (.ref l) (upd H l (.lst us))):=by
 intro pins s G H xs us Q I r h;obtain⟨a,aB,rfl,⟨z,sy,ks,e,rel,nd⟩,q⟩:=h;obtain⟨u,rfl,ru⟩:=vals1 r;cases (show u=yac a from ru);obtain⟨o,es,ep,h1,h2,h3,h4,_,_⟩:=xw I e rel nd;have le:es.size=aB.length:=by rw[<- zaI,h4,zac,yah rel]
 have hA:X.A.handled=none:=I.ok.hd hc;refine PySem.W.kdl_call (OD sy) hA (⟨o,h1,h2,h3⟩:jX s.heap a es ep) (by rw[le];exact z) fun h' tk acc c kp gl it=>?_;have key:∀(aB:List (Y×V)) (ks:List (Y×zdF×zdG)),KS J X.K H aB ks->yao (fun (p:Y×V) (v:V)=>∃b,v=.ref b/\J.on X.K H p.1 b) aB (ks.map fun k=>V.ref k.2.1)/\Vals (ks.map fun k=>V.ref k.2.1) (ks.map fun k=>yac k.2.1):=fun aB ks r=>by
  induction r with
  |nil=>exact⟨.nil,.nil⟩
  |cons x _ ih=>exact⟨.cons ⟨_,rfl,x.2.1⟩ ih.1,.cons rfl ih.2⟩
 obtain⟨k1,k2⟩:=key _ _ rel;have ea:acc.toList=ks.map fun k=>yac k.2.1:=by
  have l1:acc.toList.length=ks.length:=by rw[zaI,it.1,<- zaI,h4,zac]
  refine List.ext_getElem? fun j=>?_;by_cases hj:j<ks.length
  .have Tn:j<acc.size:=by rw[<- zaI,l1];exact hj
   obtain⟨e,he,hv⟩:=it.2 j acc[j] (zaU Tn);rw[<- zaB,h4,zar,zad hj] at he;cases he;rw[zaB,zaU Tn,hv,zar,zad hj];rfl
  .rw[zbk (by lia),zbk (by rw[zac];lia)]
 refine⟨.ref s.heap.objs.size,_,I.laid (t':=tk) kp (zah _) (show bZ X.prog X.w _ h' _ (.lst (ks.map fun k=>V.ref k.2.1)) from ⟨?_,acc.toList,c,by rw[ea];exact k2,by simpa using gl⟩),rfl,q _ _ (I.bS.fresh (zah _)) k1⟩;rw[zac,<- yah rel];exact z
end
end L2
namespace PG
section
variable{L:Type}(ask:Int->Bool)(step:Int->List Int->Int->Option (Int×List Int)×Option Int)(tg:Int×List Int->List L)
abbrev fD:=Int×List Int
variable{ask step tg}
variable{s0 s s':fD×List Int}{ms ms':List L}{seen:List fD}
end
theorem eB{O:Type}[DecidableEq O](xs:List O):∀(ys:List O),xs.Nodup->(∀x∈xs,x∈ys)->xs.length<=ys.length:=by
 induction xs with
 |nil=>intro ys _ _;exact zaN _
 |cons x r ih=>
  intro ys h q;obtain⟨nx,nr⟩:=zaV.mp h;have hx:=q x (zao ..);have:=ih (ys.erase x) nr fun y hy=>(List.mem_erase_of_ne (fun e:y=x=>nx (e▸hy))).mpr (q y (zag _ hy));have l:=List.length_erase_of_mem hx;have p:=List.length_pos_of_mem hx;simp only[zaq];lia
noncomputable def vw:List Int->List (List Int)
 |[]=>[[]]
 |s::r=>(zaj s.toNat).flatMap fun (v:Nat)=>(vw r).map fun t=>((v:Int)::t)
def qO:List Int->List Int->Prop
 |[],[]=>True
 |s::r,v::t=>(0<=v/\v<s)/\qO r t
 |[],_::_=>False
 |_::_,[]=>False
theorem qO.mem:∀{ss vs:List Int},qO ss vs->vs∈vw ss
 |[],[],_=>by simp[vw]
 |s::r,v::t,h=>by
  rw[qO] at h;simp only[vw,zaF,zav,zae];exact⟨v.toNat,by lia,t,h.2.mem,by rw[zdx h.1.1]⟩
 |[],v::t,h=>by rw[qO] at h;exact h.elim
 |s::r,[],h=>by rw[qO] at h;exact h.elim
theorem qO.set:∀{ss vs:List Int}(i:Nat)(v:Int),qO ss vs->(∀s,ss[i]?=some s->0<=v/\v<s)->qO ss (vs.set i v)
 |[],[],i,v,h,_=>h
 |s::r,u::t,0,v,h,q=>by
  rw[qO] at h;rw[List.set_cons_zero,qO];exact⟨q s rfl,h.2⟩
 |s::r,u::t,i+1,v,h,q=>by
  rw[qO] at h;rw[List.set_cons_succ,qO];exact⟨h.1,h.2.set i v fun z hz=>q z (by simpa using hz)⟩
 |[],u::t,i,v,h,q=>by rw[qO] at h;exact h.elim
 |s::r,[],i,v,h,q=>by rw[qO] at h;exact h.elim
theorem xy(ss:List Int):(∀s∈ss,s<=10)->(vw ss).length<=10 ^ ss.length:=by
 induction ss with
 |nil=>intros;simp[vw]
 |cons s r ih=>
  intro h;have ih:=ih fun x hx=>h x (zag _ hx);have hs:=h s (zao ..);have k:∀n:Nat,((zaj n).flatMap fun (v:Nat)=>(vw r).map fun t=>((v:Int)::t)).length=n*(vw r).length:=fun n=>by
   induction n with
   |zero=>simp
   |succ n ih=>rw[za7,zbY,zai,ih];simp[zdc]
  rw[vw,k,zaq,zbm,zdD (10 ^ r.length)];exact zcu (by lia) ih
def univ (rows ss:List Int):List fD:=(0::rows).flatMap fun r=>(vw ss).map fun v=>(r,v)
theorem LF(h:s.1=0\/s.1∈rows)(q:qO ss s.2):s∈univ rows ss:=by
 simp only[univ,zaF,zae,zak];exact⟨s.1,h,s.2,q.mem,rfl⟩
theorem Cr(rows ss:List Int):(univ rows ss).length=(rows.length+1)*(vw ss).length:=by
 have k:∀l:List Int,(l.flatMap fun r=>(vw ss).map fun v=>((r,v):fD)).length=l.length*(vw ss).length:=fun l=>by
  induction l with
  |nil=>simp
  |cons a r ih=>rw[zbN,zai,ih];simp[zdc,zcL]
 rw[univ,k];simp
end PG
namespace L2
open PG
open PySem
def FH (K:zaa)(x:Str)(st:Stmt)(f:zdF):Prop:=zaE K zdM x=some (some (.ref f))/\∃fd,DE K x x st f fd
theorem FH.of{kV doc pm eY ct:zdG}(a:zaE K zdM x=some (some (.ref f)))(l:K.lookup f=some ⟨oc,od,.func (za9 x x (gR st) (eE st) (aG st) .none kV doc pm an eY ct),Ec⟩)
 (c:zbS K eY x=true) (k:za6 K (.ref f)=true):FH K x st f:=⟨a,_,Au l c k⟩
theorem R3{O:Type}{P:List O->Prop}(h:∀a,P [a])(us:List O)(e:us.length=1):P us:=match us,e with |[a],_=>h a
theorem wN{O:Type}{P:List O->Prop}(h:∀a b,P [a,b])(us:List O)(e:us.length=2):P us:=match us,e with |[a,b],_=>h a b
theorem Za{O:Type}{P:List O->Prop}(h:∀a b c,P [a,b,c])(us:List O)(e:us.length=3):P us:=match us,e with |[a,b,c],_=>h a b c
theorem bn4{O:Type}{P:List O->Prop}(h:∀a b c d,P [a,b,c,d])(us:List O)(e:us.length=4):P us:=match us,e with |[a,b,c,d],_=>h a b c d
theorem qP(X:K.In h)(G:h.Ns zdM mg)(q:FH K x st f)
 (b:∀(kV doc pm:zdG) (an:Option zdF) (eY ct:zdG) (us:List zdG),us.length=ps.length->bindArgs (za9 x x (gR st) (eE st) (aG st) .none kV doc pm an eY ct) ⟨us,[]⟩=pure (ps.zip us)):∃fd,cV K mg x st ps f fd:=
 let ⟨a,fd,F⟩:=q
 ⟨fd,F,F.binds b,zaR X G a⟩
theorem Io(hr:gw k A):A.units+16<cLine:=by have:=xk hr;lia
theorem LG:(gV CX P w K mg base N qual scope f cd A outer s H E).prog=P:=rfl
theorem LH:(gV CX P w K mg base N qual scope f cd A outer s H E).w=w:=rfl
noncomputable def ik (s:fD):bA:=(.inl s.1,s.2.map .inl)
theorem tV(h:ik a=ik b):a=b:=by
 obtain⟨a1,a2⟩:=a;obtain⟨b1,b2⟩:=b;simp only[ik,Prod.mk.injEq,Sum.inl.injEq] at h;obtain⟨rfl,h⟩:=h;have h:=(List.map_inj_right (fun x y (e:(Sum.inl x:Key)=.inl y)=>Sum.inl.inj e)).mp h;rw[h]
theorem zM(l:List Int):(l.map (Sum.inl:Int->Key)).map kV=l.map V.int:=by rw[zbe];rfl
theorem tX(h:df K H a s.1 s.2):qi.on K H (ik s) a:=by obtain⟨b,h1,h2⟩:=h;exact⟨b,h1,by rw[ik,zM];exact h2⟩
theorem LI(h:qi.on K H (ik s) a):df K H a s.1 s.2:=by obtain⟨b,h1,h2⟩:=h;exact⟨b,h1,by rw[ik,zM] at h2;exact h2⟩
def qQ (l:List fD):List (bA×V):=l.map fun s=>(ik s,V.bl true)
theorem xA(l:List fD)(s:fD):(cf (qQ l) (ik s)).isSome=decide (s∈l):=by
 induction l with
 |nil=>rfl
 |cons a r ih=>
  rw[qQ,zas];by_cases e:a=s
  .rw[cn (by rw[e]),e];simp
  .rw[cu (fun z=>e (tV z))];refine(show _=_ from ih).trans ?_;simp[Ne.symm e]
theorem Ip(h:s ∉ l):putK (qQ l) (ik s) (.bl true)=qQ (l++[s]):=by
 unfold putK;rw[iw,xA,ybU h,ybR zam];simp[qQ]
section
variable{Y:Type}[DecidableEq Y]{J:KH Y}{P:zdR}{w:zdH}{K:zaa}{H H':Hp}{a b p C dx:zdF}{aB:List (Y×V)}{φ:yaf->Prop}{fs:List (Str×V)}{xs:List V}
theorem DS.oY(d:DS J P w K H a aB):∃φ,H a=some (.ext φ):=by obtain⟨xs,h,_⟩:=d.at_;exact⟨_,h⟩
theorem DS.ins(d:DS J P w K H a aB)(hp:H p=some (.ins C dx fs))(u:bf p H H'):DS J P w K H' a aB:=by
 obtain⟨φ,e⟩:=d.oY;exact d.oX (fun o h=>u _ _ (bz e hp (by intro z;cases z)) h) fun b ys q=>q.ins hp u
theorem bH.mL(h:bH K H a xs)(hb:H b=some (.ext φ))(u:bf b H H'):bH K H' a xs:=by
 rcases h with (q |⟨o',q⟩) |q
 .exact .inl (.inl (u _ _ (bz q hb (by intro z;cases z)) q))
 .exact .inl (.inr ⟨o',u _ _ (bz q hb (by intro z;cases z)) q⟩)
 .exact .inr q
theorem DS.other(d:DS J P w K H a aB)(hb:H b=some (.ext φ))(n:a≠b)(u:bf b H H'):DS J P w K H' a aB:=d.oX (fun o h=>u _ _ n h) fun c ys q=>q.mL hb u
end
noncomputable def i4 (pr:PG.Prog):List Int:=pr.aF.map (·.size)
def zN (pr:PG.Prog):List Int:=(aE pr.body).map (·.row)
def dh (pr:PG.Prog):Nat:=(PG.univ (zN pr) (i4 pr)).length
structure cY(pr:PG.Prog)(s:fD):Prop where
 ok:Ck pr s.1 s.2
 inv:PG.qO (i4 pr) s.2
theorem cY.mem(h:cY pr s):s∈PG.univ (zN pr) (i4 pr):=by
 refine LF ?_ h.inv;rcases h.ok.row with e |⟨i,hi,e⟩
 .exact .inl e
 .exact .inr (zae.mpr ⟨_,zaw hi,e⟩)
theorem tY{l:List fD}(nd:l.Nodup)(h:∀s∈l,cY pr s):l.length<=dh pr:=eB l _ nd fun s hs=>(h s hs).mem
theorem qO.first{bs:List sW}:(∀b∈bs,2<=b.size/\b.size<=10/\0<=b.first/\b.first<b.size)->PG.qO (bs.map (·.size)) (bs.map (·.first)):=by
 induction bs with
 |nil=>intros;exact trivial
 |cons b r ih=>
  intro h;simp only[zas,PG.qO];have:=h b (zao ..);exact⟨⟨by lia,by lia⟩,ih fun x hx=>h x (zag _ hx)⟩
theorem cY.first(d:bV pr):cY pr (bU pr.body 0,pr.aF.map (·.first)):=⟨d.first,qO.first d.size⟩
theorem qO.wz(d:bV pr)(h:PG.qO (i4 pr) vals)(hb:b∈pr.aF.map (·.name))(z:Int):PG.qO (i4 pr) (wz pr.aF vals b (z%ib pr.aF b)):=by
 refine h.set _ _ fun s hs=>?_;obtain⟨hx,_⟩:=pK hb;have e:ib pr.aF b=s:=by
  unfold ib;rw[i4,zar,zad hx] at hs;rw[zad hx];exact za5.inj hs
 have:=Cm d hb;rw[e] at this |-;exact⟨zbr z (by lia),zba z (by lia)⟩
theorem qO.step(d:bV pr)(ok:FZ (·∈pr.aF.map (·.name)) (fun e=>oI pr.aF e/\sX e<=2) (·∈RL) st)(h:PG.qO (i4 pr) vals){x:fD}(e:(iV pr.aF st ws vals f).1=some x):PG.qO (i4 pr) x.2:=by
 have cs:eF pr.aF st ws vals=some x->PG.qO (i4 pr) x.2:=by
  intro e;unfold eF at e;split at e
  .cases e
  .split at e
   .cases e;exact h
   .split at e
    .cases e
    .cases e;exact h
 cases st<;>rw[FZ] at ok
 .cases e;exact qO.wz d h ok _
 .cases e;exact qO.wz d h ok.1 _
 .cases e;exact h
 .exact cs e
 .cases e;exact h
 .exact cs e
 .exact cs e
theorem xB(ok:Ij pr)(hi:i<(aE pr.body).length)(hf:i<(aR pr.body 0).length)(vals:List Int)(f:Int):fN pr (aE pr.body)[i].row vals f=iV pr.aF (aE pr.body)[i] (aR pr.body 0)[i].2.2 vals f:=by
 unfold fN;rw[tT ok.pw i hi,Ge ok.pw i hi hf]
theorem cY.next(d:bV pr){s x:fD}(h:cY pr s)(h0:s.1≠0)(e:(fN pr s.1 s.2 f).1=some x):cY pr x:=by
 obtain⟨row,vals⟩:=s;obtain⟨i,hi,rfl⟩:=h.ok.row.resolve_left h0;obtain⟨hf,_,_⟩:=kO pr.body i hi;rw[xB d.ok hi hf] at e;refine⟨?_,qO.step d (jh pr.body _ d.own (zaw hi)) h.inv e⟩;rcases hs:iV pr.aF (aE pr.body)[i] (aR pr.body 0)[i].2.2 vals f with ⟨o,sd⟩
 rw[hs] at e;exact Ck.step d hi hf h.ok.len h.ok.small (by rw[hs];exact ybW (·,sd) e)
theorem LJ(row:Int)(vals:List Int)(f:Int)(h:vt pr.body row=true):(fN pr row vals f).1≠none:=by
 unfold vt at h;unfold fN;obtain⟨k,b,e⟩:∃k b,Il pr.body row=.ask k b:=by
  generalize Il pr.body row=st at h;cases st<;>first |exact⟨_,_,rfl⟩ |(have h:=ybV h;cases h)
 rw[e];intro z;cases z
section
variable(P:zdR)(w:zdH)(K:zaa)(CC:zdF)
def xC (H:Hp)(g:List fD)(us:List V):Prop:=yao (fun (s:fD) v=>∃a,v=.ref a/\df K H a s.1 s.2) g us
end
open PyProof.Rows
theorem Cs(G:St->Prop)(xs:List V)(Pv:Nat->List V->Hp->Prop)
 (go:∀i H2,ar H H2->i<xs.length->J.go i H2) (stop:∀H2,ar H H2->J.stop xs.length H2) (Hr:∀i H2 x H3,ar H H2->i<xs.length->J.Hr i H2 x H3->H3=H2/\xs[i]?=some x)
 (hl:xs.length<=16000000) (hD:H D=none) (g0:G Z0) (h0:Pv 0 [] (upd H D (.lst [])))
 (step:∀i x ys Z H2,xs[i]?=some x->G Z->ar H H2->H2 D=some (.lst ys)->ys.length=i->Pv i ys H2->∀R:St->VK,(∀Z' v H3,G Z'->ar H2 H3->Pv (i+1) (ys++[v]) (upd H3 D (.lst (ys++[v])))->R Z' v H3)->g x Z H2 fun Z' H'=>te Z' H' (R Z'))
 (q:∀ys H2,ar H H2->H2 D=some (.lst ys)->ys.length=xs.length->Pv xs.length ys H2->Q (.ref D) H2):qJ J D g xi te Q Z0 (upd H D (.lst [])):=by
 refine⟨fun i m Z H2=>m=xs.length-i/\i<=xs.length/\G Z/\ar H H2/\∃ys,H2 D=some (.lst ys)/\ys.length=i/\Pv i ys H2,⟨xs.length,by simp,zaN _,g0,ar.new hD _,[],ah,rfl,h0⟩,?_⟩
 rintro i m Z H2 ⟨rfl,hi,gt,s2,ys,h2,ly,p2⟩
 by_cases qu:i<xs.length
 .refine .inr ⟨go i H2 s2 qu,fun Z' H'=>G Z'/\ar H H'/\∃ys,H' D=some (.lst ys)/\ys.length=i+1/\Pv (i+1) ys H',fun Z' H' ⟨h1,h3,h4⟩=>⟨xs.length-(i+1),by lia,rfl,qu,h1,h3,h4⟩,fun y H' hy=>?_⟩;obtain⟨rfl,ey⟩:=Hr i H2 y H' s2 qu hy;simp only[xi,if_true];refine step i y ys Z _ ey gt s2 h2 ly p2 (fun Z' v H4=>_) fun Z' v H3 gt' s3 p3=>⟨ys,s3 _ _ h2,?_,gt',?_,ys++[v],ah,by simp[ly],p3⟩
  .have:zdN=2 ^ 24:=rfl;lia
  .intro b o e;rw[au (ag e hD)];exact s3 _ _ (s2 _ _ e)
 .have e:i=xs.length:=by lia
  subst e;exact .inl ⟨stop H2 s2,q ys H2 s2 h2 ly p2⟩
theorem LK{K:zaa}(h:∀U:zdF->Hp->Prop,(∀a H1,(∃W:Nat->Nat->St->Hp->Prop,(∃m,W 0 m G H1)/\∀i m G H,W i m G H->
 ((Qe K a).stop i H/\D.nx G H)\/((Qe K a).go i H/\∃N:St->Hp->Prop,(∀G' H',N G' H'->∃m',m'<m/\W (i+1) m' G' H')/\∀x H',(Qe K a).Hr i H x H'->g x G H' fun G2 H2=>tb {D with nx:=N,ct:=N,bk:=D.nx} G2 H2))->U a H1)->
 ta G H fun vs H1=>∃a,vs=[.ref a]/\(∃xs,iR K H1 a xs)/\U a H1):NQ (Qf K ta) g tb D G H:=h _ fun _ _ x=>x
section
variable{prog:zdR}{w:zdH}{A:zdQ}{E:zdG->zdP->Prop}{s:zdP}{d:zdF}{es:Array DictEntry}{ep:Nat}
theorem LL(hd:(d==yar)=false) :
 MeetsIn prog w (Builtin.«dict.__len__» ⟨[.ref d],[]⟩) (fun _ R s=>∃es ep,jX s.heap d es ep/\R (.ok (.ret (.int es.size s.toks))) {s with toks:=s.toks+1}):=by
 refine .of_wp fun A R s hh=>?_;obtain⟨es,ep,⟨o,g,_,Zb⟩,h⟩:=hh;show yab _ _ (dictSize d >>= _) _ _ s;unfold dictSize;refine zdI (zdI (ybt g Zb (zdJ ?_)));show yab _ _ (Builtin.Dict.pendingCount d >>= _) _ _ s;refine zdI (wpAny_pendingCount_other hd (wpAny_ret_mkInt ?_));rw[Nat.add_zero];exact h
theorem OE(hd:(d==yar)=false)(x:jX s.heap d es ep)(aeA:(es.size:Int)<2 ^ 63)(h:Q (.int es.size (s.toks+1)) {s with toks:=s.toks+1+1}):yab (model prog w) A (call (.builtin "len") [.ref d]) Q E s:=by
 refine Calls.call_function_entry kind_len plain_len entry_len (args_len1 _) ?_;unfold Builtin.«len»;refine zdI (m:=oneArg "len" _) (zdJ ?_);refine zdI (m:=callSpecial? (.ref d) (zab "__len__")) (wpAny_callSpecial?_slot (name:=zab "__len__") x.ty F.slot_dict_len
  (call_meetsIn F.slot_dict_len x.ty F.entry_dict_len (F.args_dict_len_1 _) (LL hd) ⟨es,ep,x,?_⟩))
 show yab _ _ _ _ _ {s with toks:=s.toks+1};refine zdI (zdK (zdJ (zdI (wpAny_letGo ?_))));show yab _ _ (if ((es.size:Nat):Int)<0 then _ else _) _ _ _;rw[ybR (by first|decide|omega)];show yab _ _ (if ((es.size:Nat):Int) ≥ 2 ^ 63 then _ else _) _ _ _;rw[ybR (by first|decide|omega)];exact zdI (wpAny_mkInt (zdJ ⟨_,rfl,h⟩))
end
section
variable{Y:Type}[DecidableEq Y]{J:KH Y}{X:Cx}
theorem Iq:kK X (.builtin "len") (fun xs H Q=>∃(a:zdF) (aB:List (Y×V)),xs=[.ref a]/\DS J X.prog X.w X.K H a aB/\Q (.int aB.length) H):=by
 intro pins s G H xs us Q I r h;obtain⟨a,aB,rfl,⟨z,sy,ks,e,rel,nd⟩,q⟩:=h;obtain⟨u,rfl,ru⟩:=vals1 r;cases (show u=yac a from ru);obtain⟨o,es,ep,h1,h2,h3,h4,_,_⟩:=xw I e rel nd;have le:es.size=aB.length:=by rw[<- zaI,h4,zac,yah rel]
 have line:zdN=2 ^ 24:=rfl;exact OE sy (⟨o,h1,h2,h3⟩:jX s.heap a es ep) (by rw[le];omega) ⟨.int aB.length,H,I.tok _,⟨_,by rw[le]⟩,q⟩
end
open PySem.Spec
noncomputable def Ct (CX:BC)(P:zdR)(w:zdH)(K:zaa)(mg:Str->Option zdG)(base:yaf)(N:List Str)(qual:Str)(scope:Scope)(f:zdF)(cd:zdG)(cl:List (Str×zdF))(A:zdQ)(outer:List Env)(s:zdP)(H:Hp)(E:XK):Cx where
 prog:=P
 w:=w
 K:=K
 mg:=mg
 base:=base
 A:=A.deeper (zcp qual scope s.heap.objs.size f cd cl)
 N:=N
 s₀:=s
 H₀:=H
 env:=zcp qual scope s.heap.objs.size f cd cl
 outer:=outer
 stack:=zcp qual scope s.heap.objs.size f cd cl::outer
 ex:=[]
 calm:=true
 fn:=fun _=>false
 pn:=[]
 xe:=fun e s'=>yab (model P w) (A.deeper (zcp qual scope s.heap.objs.size f cd cl)) (leaving (zcp qual scope s.heap.objs.size f cd cl) e) (fun _ Ni=>CX outer H s E e Ni) (fun e' Ni=>CX outer H s E e' Ni) s'
structure tZ(x y:Str)(sc:Scope):Prop where
 kind:sc.kind=.function
 co:sc.isCoroutine=false
 gen:sc.isGenerator=false
 px:sc.names.lookup x=some .local
 py:sc.names.lookup y=some .free
 only:∀z,(sc.names.lookup z=some .cell\/sc.names.lookup z=some .free)->z=y
 R4:∀z∈sc.names,z.2≠.cell
theorem OF{K:zaa}{s:zdP}{H:Hp}{E:XK}{u uc:zdG}{v vc:V}{h1:yaf}{tk:Nat}
 (S:tZ x y scope) (hd:A.handled=none) (e0:rL P w K mg base A outer s H) (rv:RelV v u) (BA:H cc=none) (vN:s.heap.IsCell cc (some uc)) (rc:RelV vc uc)
 (PV:h1.Ns s.heap.objs.size fun z=>zbp z [(x,u)].reverse) (hk:∀b o,s.heap.get? b=some o->h1.get? b=some o) :
 Inv (Ct CX P w K mg base [x,y] qual scope f cd [(y,cc)] A outer s H E) [] [some v,some vc] H {s with heap:=h1,toks:=tk}:=by
 have Rm:∀b:zdF,b ∉ (Ct CX P w K mg base [x,y] qual scope f cd [(y,cc)] A outer s H E).ex:=fun b z=>ybX (show b∈([]:List zdF) from z) (by simp);have lk:∀z c,zbp z [(y,cc)]=some c->z=y/\c=cc:=fun z c e=>by
  rw[za3] at e;cases hb:z==y with
  |true=>rw[hb] at e;cases e;exact⟨eq_of_beq hb,rfl⟩
  |false=>rw[hb] at e;cases e
 have lky:zbp y [(y,cc)]=some cc:=by rw[za3,beq_self_eq_true]
 have LM:h1.IsCell cc (some uc):=by obtain⟨o,ho,q⟩:=vN;exact⟨o,hk _ _ ho,q⟩
 refine⟨⟨e0.mod,S.kind,rfl,rfl,zah _,fun a b c h1 h2=>?_,fun z hz=>?_,fun z c hf _=>?_,fun _=>hd,Around.frames_deeper e0.frames,.inr ⟨rfl,rfl⟩,fun b z=>ybX z (Rm b),e0.bs,e0.BL,fun b _ _=>Rm b,fun b z=>ybX z (Rm b),e0.mz,e0.Fu⟩,
  rfl,e0.bare,Un.kept hk,⟨_,PV,fun i z v' h1 h2 h3=>?_⟩,fun z c h=>?_,e0.bS.fresh (zah _),fun z c h=>?_,fun p hp=>ybX (show p∈([]:List (zdF×Obj)) from hp) (by simp),e0.bS.kept hk,rfl⟩
 .exact(lk a c h1).1.trans (lk b c h2).1.symm
 .have hz:scope.names.lookup z=some .cell\/scope.names.lookup z=some .free:=hz;rw[S.only z hz];exact⟨cc,lky⟩
 .cases hf
 .rcases i with _ |_ |i
  .cases h1;cases h2;refine⟨u,rv,.inl ⟨S.px,?_⟩⟩;show zbp x [(x,u)].reverse=some u;rw[List.reverse_singleton,za3,beq_self_eq_true]
  .cases h1;cases h2;exact⟨uc,rc,.inr ⟨.inr S.py,cc,lky,LM⟩⟩
  .cases h1
 .rw[(lk z c h).2];exact⟨_,LM⟩
 .rw[(lk z c h).2];exact BA
theorem OG{K:zaa}{pm vW:zdG}{A:zdQ}{outer:List Env}{s:zdP}{H:Hp}{E:XK}{Q:VK}{u uc:zdG}{v vc:V}
 (S:tZ x y scope) (hr:gw (k+1) A) (e0:rL P w K mg base A outer s H) (Qm:s.heap.get? fo=some (zb4 name qual params body scope [(y,cc)] pm c' vW)) (hcr:s.heap.CodeRec (.ref c') qual)
 (BA:H cc=none) (vN:s.heap.IsCell cc (some uc)) (rc:RelV vc uc) (rv:RelV v u) (xD:bindArgs (zds name qual params body scope [(y,cc)] pm (.ref c') vW) ⟨[u],[]⟩=pure [(x,u)])
 {t:TE} (ht:PE (Ct CX P w K mg base [x,y] qual scope fo (.ref c') [(y,cc)] A outer s H E) body t) (hq:t [some v,some vc] H Q) :
 codeAny (model P w) A (.call (.ref fo) ⟨[u],[]⟩) (CR CX outer P w H s Q E) s:=by
 have lim:s.heap.NoLimit:=e0.mod.nolimit.keeps fun b o e=>(e0.bs b o e).1;refine PySem.W.kla_callFunE hr.depth Qm rfl S.co S.gen rfl hcr ?_;rw[xD];refine zdJ (wpAny_newFunctionEnv S.R4 (fun z hz=>?_) (fun h1 PV Yz=>?_) S.kind)
 .rw[zaf.mp hz];exact S.px
 have hk:∀b o,s.heap.get? b=some o->h1.get? b=some o:=fun b o e=>Yz.extBut b o (zaz (yad e)) (yaa _ e);refine⟨lim.keeps hk,?_⟩;show codeAny _ _ (.expr body (zcp qual scope s.heap.objs.size fo (.ref c') [(y,cc)])) _ _;refine PySem.W.kla_codeExpr (yaw (ht [] _ _ _ Q (OF S hr.hd e0 rv BA vN rc PV hk) hq) (fun u' s' h=>?_) fun e s' z=>z);obtain⟨v',H',J,rv',q'⟩:=h;exact⟨v',H',J.os,J.bare,J.base,J.bS,rv',q'⟩
noncomputable def cQ (a:zdF)(o:Obj):HO:=.ext fun h=>h.get? a=some o
noncomputable def wo (H:Hp)(a:zdF):Hp:=fun b=>if b=a then none else H b
theorem cW:wo H a a=none:=ybS rfl
theorem bE(h:b≠a):wo H a b=H b:=ybR h
section
variable{P:zdR}{w:zdH}{H:Hp}{h:yaf}{a:zdF}{o:Obj}
theorem cQ.get(x:jV P w H h)(e:H a=some (cQ a o)):h.get? a=some o:=(x a _ e).1
theorem cQ.ok(e:h.get? a=some o):bZ P w H' h a (cQ a o):=⟨e,⟨o,e⟩,fun _ _ p k=>k _ p⟩
theorem jV.add(x:jV P w H h)(hn:H a=none)(e:h.get? a=some o):jV P w (upd H a (cQ a o)) h:=fun b u q=>by
 by_cases hb:b=a
 .subst hb;rw[ah] at q;cases q;exact cQ.ok e
 .rw[au hb] at q;exact(x b u q).sY (fun c v _ r=>r) (fun c r=>by rw[au (ag r hn)];exact r) fun c xs r=>by rw[au (ag r hn)];exact r
theorem jV.wo(x:jV P w H h)(ha:H a=some (cQ a o)):jV P w (wo H a) h:=fun b u q=>by
 by_cases hb:b=a
 .subst hb;rw[cW] at q;cases q
 .rw[bE hb] at q;refine(x b u q).sY (fun c v _ r=>r) (fun c r=>?_) fun c xs r=>?_
  .rw[bE (bz r ha (by intro z;cases z))];exact r
  .rw[bE (bz r ha (by intro z;cases z))];exact r
end
def Qn (y name qual:Str)(params:Arguments)(body:Expr)(scope:Scope)(H:Hp)(fo cc:zdF)(ip:Obj)(vc:V):Prop:=
 ∃(c':zdF) (pm vW uc:zdG) (oc:Obj) (vs:Array zdG) (tk:Nat),H fo=some (cQ fo (zb4 name qual params body scope [(y,cc)] pm c' vW))/\H c'=some (cQ c' oc)/\oc.data=.fields vs/\vs[1]?=some (.str qual tk)/\
  H cc=some (cQ cc ip)/\ip.data=.cell (some uc)/\RelV vc uc
def R5 (y name qual:Str)(params:Arguments)(body:Expr)(scope:Scope)(tb tf:TE)(ta:TA):TE:=fun G H Q=>tf G H fun f H1=>ta G H1 fun vs H2=>∃(a:V) (fo cc:zdF) (ip:Obj) (vc:V),vs=[a]/\f=.ref fo/\Qn y name qual params body scope H2 fo cc ip vc/\
 tb [some a,some vc] (wo H2 cc) fun v H3=>H3 cc=none->Q v (upd H3 cc (cQ cc ip))
theorem rL.wo{K:zaa}(e:rL P w K mg base A outer s H)(ha:H a=some (cQ a o)):rL P w K mg base A outer s (L2.wo H a):=
 ⟨e.frames,e.mod,fun b o hb=>⟨(e.bs b o hb).1,by unfold L2.wo;rw[(e.bs b o hb).2];split<;>rfl⟩,e.BL,e.mz,fun b hb=>by unfold L2.wo;rw[e.Fu b hb];split<;>rfl,e.bS.wo ha,e.bare⟩
theorem CE.back(bS:jV P w H s.heap)(ha:H a=some (cQ a o))(hf:a ∉ qt outer)(h:CE outer P w (wo H a) s (fun v H3=>H3 a=none->Q v (upd H3 a (cQ a o))) u s'):CE outer P w H s Q u s':=by
 obtain⟨v,H3,os,bare,un,OH,rv,q⟩:=h;have g0:=cQ.get bS ha;have n3:H3 a=none:=un.free a o g0 cW (by simp);have g1:=un.keep a o g0 cW hf (by simp);have nb:∀{b:zdF},H b=none->b≠a:=fun {b} n z=>by rw[z,ha] at n;cases n
 refine⟨v,upd H3 a (cQ a o),os,bare,⟨fun b ob e n hb hx=>un.keep b ob e (by rw[bE (nb n)];exact n) hb hx,fun b ob e n hb hx=>un.slot b ob e (by rw[bE (nb n)];exact n) hb hx,fun b ob e n hx=>?_,un.there,fun b xs e=>?_,fun b ob x e=>?_,fun b ps e=>?_⟩,OH.add n3 g1,rv,q n3⟩
 .rw[au (nb n)];exact un.free b ob e (by rw[bE (nb n)];exact n) hx
 .have ne:=bz e ha (by intro z;cases z);rw[au ne];exact un.o7 b xs (by rw[bE ne];exact e)
 .have ne:=bz e ha (by intro z;cases z);rw[au ne];exact un.oU b ob x (by rw[bE ne];exact e)
 .have ne:=bz e ha (by intro z;cases z);rw[au ne];exact un.oV b ps (by rw[bE ne];exact e)
theorem EI{P:yaf->Prop}
 (hk:∀h,P h->∃k,(k=Keeper.frame\/k=Keeper.machine\/k=Keeper.boundFrame)/\PySem.W.Looks M h (keeperOf f) k) (h:yab M A (spliced (backTo pos (zdL (e::rest) env))) (fun vs s₁=>P s₁.heap/\yab M A (call f (first++vs)) Q E s₁) E s)
 (he:zdL (e::rest) env=(false,eval e env)::zdL rest env) (vQ:(backTo pos (zdL rest env)).any (·.1)=false):yab M A (callWith pos f first (backTo pos (zdL (e::rest) env)) []) Q E s:=by
 rw[he] at h |-;exact PySem.W.callWith_of (by show ((false ||(backTo pos (zdL rest env)).any (·.1)) ||false)=false;rw[vQ];rfl) hk (ybB h)
theorem LN{p pos:Pos}(hr:gw (k+1) X.A)(S:tZ x y scope)(hf:PE X (.Name z p) tf)(ha:PA X [e] ta)(RA:∀pins G (H:Hp)(s:zdP) e s' a o,Inv X pins G H s->H a=some (cQ a o)->CX X.stack (wo H a) s E e s'->X.xe e s')
 (xD:∀(u:zdG) (cc c':zdF) (pm vW:zdG),bindArgs (zds name qual params body scope [(y,cc)] pm (.ref c') vW) ⟨[u],[]⟩=pure [(x,u)])
 (hb:∀(fo cc c':zdF) (s:zdP) (H:Hp),PE (Ct CX X.prog X.w X.K X.mg X.base [x,y] qual scope fo (.ref c') [(y,cc)] X.A X.stack s H E) body tb)
 (he:zdL [e] X.env=(false,eval e X.env)::zdL [] X.env:=by rfl) (vQ:(backTo pos (zdL [] X.env)).any (·.1)=false:=by rfl) :
 PE X (.Call (.Name z p) [e] [] pos) (R5 y name qual params body scope tb tf ta):=by
 intro pins s G H Q I h;refine yas (fC (hf pins s G H _ I h) fun u0 s1 zqz=>?_);obtain⟨f,H1,I1,rf,h1⟩:=zqz;refine EI (P:=fun h=>∃fo cc c' pm vW,u0=.ref fo/\h.get? fo=some (zb4 name qual params body scope [(y,cc)] pm c' vW)) (fun h ⟨fo,cc,c',pm,vW,eu,hg⟩=>?_) ?_ he vQ
 .subst eu;exact⟨.frame,.inl rfl,(zdg (part:=none) hg).andThen .now⟩
 .refine fC (ha pos pins s1 G H1 _ I1 h1) fun us s2 zqz=>?_;obtain⟨vs,H2,I2,r,a,fo,cc,ip,vc,ev,ef,la,hq⟩:=zqz;subst ev ef;obtain⟨u,rfl,ru⟩:=r.one;obtain rfl:u0=yac fo:=rf;obtain⟨c',pm,vW,uc,oc,ovs,tk,g1,g2,d2,q2,g3,d3,rc⟩:=la;have e1:=cQ.get I2.bS g1;have e2:=cQ.get I2.bS g2;have e3:=cQ.get I2.bS g3;refine⟨⟨fo,cc,c',pm,vW,rfl,e1⟩,?_⟩;have Zc:cc ∉ qt X.stack:=fun hb=>by rw[I2.tj cc hb] at g3;cases g3
  refine wpAny_call (yaT (OG (CX:=CX) (E:=E) S hr (I2.JR.wo g3) e1 ⟨c',oc,ovs,tk,rfl,e2,d2,q2⟩ cW ⟨ip,e3,d3⟩ rc ru (xD u cc c' pm vW) (hb fo cc c' s2 (wo H2 cc)) hq) fun r s' xE=>?_);cases r with
  |error e=>exact RA pins G H2 s2 e s' cc ip I2 g3 xE
  |ok fl=>
   cases fl with
   |ret u'=>exact I2.after (CE.back I2.bS g3 Zc xE)
   |next=>exact False.elim xE
   |brk=>exact False.elim xE
   |cont=>exact False.elim xE
def TabOk (qual:Str)(lp:Pos)(H:Hp)(ps:Array zdG):Prop:=
 ps = #[]\/∃(c':zdF) (oc:Obj) (vs:Array zdG) (tk:Nat),ps = #[yaS lp.line,yaS lp.col,.ref c']/\H c'=some (cQ c' oc)/\oc.data=.fields vs/\vs[1]?=some (.str qual tk)
structure jm(K:zaa)(mg:Str->Option zdG)(base:yaf)(c P:zdF):Prop where
 hd:PySem.W.CodeHd base c P
 bm:∃bm o,mg "__builtins__"=some (.ref bm)/\bm≠builtinsNs/\bm≠zdM/\base.get? bm=some o/\o.cls=.type "module"/\o.dict=some builtinsNs/\o.data=.plain
def Zd (cy:zdF->Prop)(P:zdF)(y qual:Str)(params:Arguments)(body:Expr)(scope:Scope)(lp:Pos):TE:=fun _ H Q=>∃ps,H P=some (.rE ps)/\TabOk qual lp H ps/\
 ∀(fo cc c':zdF) (pm vW:zdG) (oc:Obj) (vs yu:Array zdG) (tk:Nat) (H':Hp),cy cc->H fo=none->(H c'=none\/ps = #[yaS lp.line,yaS lp.col,.ref c'])->(∀b o,b≠P->H b=some o->H' b=some o)->(∀b,H' b≠none->H b≠none\/b=fo\/b=c')->
  H' fo=some (cQ fo (zb4 "<lambda>" qual params body scope [(y,cc)] pm c' vW))->H' c'=some (cQ c' oc)->oc.data=.fields vs->vs[1]?=some (.str qual tk)->H' P=some (.rE yu)->yu = #[yaS lp.line,yaS lp.col,.ref c']->Q (.ref fo) H'
def gA (H:Hp)(P:zdF)(ps:Array zdG)(c':zdF)(oc:Obj)(fo:zdF)(ob:Obj):Hp:=upd (upd (upd H P (.rE ps)) c' (cQ c' oc)) fo (cQ fo ob)
section
variable{H:Hp}{P:zdF}{ps:Array zdG}{c':zdF}{oc:Obj}{fo:zdF}{ob:Obj}
theorem gA.keep(hF:H fo=none)(hc:H c'=some (cQ c' oc)\/H c'=none)(n:b≠P)(e:H b=some o):gA H P ps c' oc fo ob b=some o:=by
 unfold gA;rw[au (ag e hF)];by_cases z:b=c'
 .subst z;rcases hc with q |q
  .rw[ah,<- q,e]
  .rw[q] at e;cases e
 .rw[au z,au n,e]
theorem gA.back(hP:H P≠none)(n:gA H P ps c' oc fo ob b≠none):H b≠none\/b=fo\/b=c':=by
 by_cases z1:b=fo
 .exact .inr (.inl z1)
 .by_cases z2:b=c'
  .exact .inr (.inr z2)
  .by_cases z3:b=P
   .rw[z3];exact .inl hP
   .unfold gA at n;rw[au z1,au z2,au z3] at n;exact .inl n
theorem gA.fo_:gA H P ps c' oc fo ob fo=some (cQ fo ob):=ah
theorem gA.c_(n:c'≠fo):gA H P ps c' oc fo ob c'=some (cQ c' oc):=by unfold gA;rw[au n,ah]
theorem gA.P_(n1:P≠fo)(n2:P≠c'):gA H P ps c' oc fo ob P=some (.rE ps):=by unfold gA;rw[au n1,au n2,ah]
end
theorem Inv.lam{G:St}{P fo c':zdF}(I:Inv X pins G H s)(hP:H P=some (.rE ps))(hx:Heap.ExtBut P s.heap h1)(gP:h1.get? P=some (zdt (ps++more)))
 (Qm:s.heap.objs.size<=fo) (hc:H c'=some (cQ c' oc)\/s.heap.objs.size<=c') (nf:c'≠fo) (gc:h1.get? c'=some oc) (gf:h1.get? fo=some ob):Inv X pins G (gA H P (ps++more) c' oc fo ob) {s with heap:=h1,toks:=tk}:=by
 have nP:∀{b:zdF},H b=none->b≠P:=fun {b} n z=>by rw[z,hP] at n;cases n
 have hF:H fo=none:=I.bS.fresh Qm;have cP:c'≠P:=fun z=>by
  rcases hc with e |e
  .rw[z,hP] at e;cases e
  .have:=I.bS.fresh e;rw[z,hP] at this;cases this
 have fP:fo≠P:=nP hF;have Xd:∀{b:zdF},b≠fo->b≠c'->b≠P->gA H P (ps++more) c' oc fo ob b=H b:=fun n1 n2 n3=>by
  unfold gA;rw[au n1,au n2,au n3]
 have Gh:∀{b:zdF} {u:HO},H b=some u->(∀yu,u≠.rE yu)->gA H P (ps++more) c' oc fo ob b=some u:=fun {b u} e nt=>by
  have n1:b≠fo:=ag e hF;have n3:b≠P:=fun z=>by rw[z,hP] at e;cases e;exact nt _ rfl
  by_cases n2:b=c'
  .subst n2;rcases hc with z |z
   .rw[e] at z;cases z;unfold gA;rw[au n1,ah]
   .rw[I.bS.fresh z] at e;cases e
  .rw[Xd n1 n2 n3];exact e
 have Vm:∀{b:zdF} {o:Obj},s.heap.get? b=some o->H b=none->gA H P (ps++more) c' oc fo ob b=none:=fun {b o} e n=>by
  have lt:=yad e;have n1:b≠fo:=fun z=>by rw[z] at lt;exact ybX (zat lt Qm) (zaO _)
  have n2:b≠c':=fun z=>by
   rcases hc with q |q
   .rw[z,q] at n;cases n
   .rw[z] at lt;exact ybX (zat lt q) (zaO _)
  rw[Xd n1 n2 (nP n)];exact n
 refine I.call (g':=s.gens) (d':=s.drawn) (t':=tk) (ch:=[]) ⟨fun b o e n _ _=>hx b o (nP n) e,fun b o e n _ _=>⟨o.slots,hx b o (nP n) e⟩,fun b o e n _=>Vm e n,fun b o e _=>?_,fun b xs e=>Gh e (fun _ z=>by cases z),fun b o u e=>Gh e (fun _ z=>by cases z),fun b yu e=>?_⟩ (fun b u q=>?_) I.bare (fun b z=>ybX z (by simp))
 .by_cases z:b=P
  .exact⟨_,by rw[z];exact gP⟩
  .exact⟨o,hx b o z e⟩
 .by_cases z:b=P
  .subst z;rw[hP] at e;cases e;refine⟨more,?_⟩;unfold gA;rw[au fP.symm,au cP.symm,ah]
  .refine⟨#[],?_⟩;have n1:b≠fo:=ag e hF;have n2:b≠c':=fun y=>by
    rcases hc with q |q
    .rw[y,q] at e;cases e
    .rw[y,I.bS.fresh q] at e;cases e
   rw[Xd n1 n2 z,e];simp
 .by_cases z1:b=fo
  .subst z1;unfold gA at q;rw[ah] at q;cases q;exact cQ.ok gf
  .by_cases z2:b=c'
   .subst z2;unfold gA at q;rw[au z1,ah] at q;cases q;exact cQ.ok gc
   .by_cases z3:b=P
    .subst z3;unfold gA at q;rw[au z1,au z2,ah] at q;cases q;exact gP
    .rw[Xd z1 z2 z3] at q;refine(I.bS b u q).sY (fun c v hcv r=>hx c v ?_ r) (fun c r=>Gh r (fun _ z=>by cases z)) fun c xs r=>Gh r (fun _ z=>by cases z);rcases hcv with rfl |r2
     .exact z3
     .intro z;rw[z,hP] at r2;cases r2
theorem R6{y qual:Str}(B:jm X.K X.mg X.base c P)(Qo:X.env.code=.ref c)(hq:X.env.qual ++ "<lambda>"=qual)
 (hcy:∃cc,X.env.cells.lookup y=some cc/\closureFor scope X.env=pure [(y,cc)]) (Ze:defaultsOf params X.env=([],[])) :
 PE X (.Lambda params body scope lp) (Zd (fun cc=>X.env.cells.lookup y=some cc) P y qual params body scope lp):=by
 intro pins s G H Q I h;obtain⟨ps,hP,tok,q⟩:=h;obtain⟨cc,R7,Nl⟩:=hcy;have gP:s.heap.get? P=some (zdt ps):=I.bS P _ hP;have hgP:zdM≠P:=fun z=>by
  obtain⟨o,es,ep,e,_⟩:=I.mod.glob;have:=(I.bs _ _ e).2;rw[z,hP] at this;cases this
 have hb:s.heap.BuiltinsAt X.mg P:=by
  obtain⟨bm,o,e1,e2,e3,e4,r⟩:=B.bm;have nbP:bm≠P:=fun z=>by
   have:=(I.bs _ _ e4).2;rw[z,hP] at this;cases this
  exact⟨bm,o,e1,e2,e3,nbP,(I.bs _ _ e4).1,r⟩
 have C:PySem.W.CodeHd s.heap c P:=B.hd.keeps I.bk;have tri:TriplesOk ps.toList:=by
  rcases tok with rfl |⟨c',oc,vs,tk,rfl,_⟩
  .trivial
  .exact trivial
 have nP:∀{b:zdF},H b=none->b≠P:=fun {b} n z=>by rw[z,hP] at n;cases n
 refine PySem.W.kla_eval Ze ?_;rw[hq];rcases tok with rfl |⟨c',oc,vs,tk,rfl,hc,d1,d2⟩
 .refine PySem.W.kla_makeFunction Nl I.ok.glob (I.mod.glob.keeps I.bk) Qo C gP tri rfl hgP hb fun c' vW h' tk hx Zf qu LO htb=>?_;obtain⟨c2,oc,vs,t2,e2,NL,d1,d2⟩:=LO;cases e2;have ge:s.heap.objs.size<=h'.objs.size:=zbw (zbu Zf qu);have Qp:H h'.objs.size=none:=I.bS.fresh ge;have nc:H c'=none:=I.bS.fresh Zf;have Vn:c'≠h'.objs.size:=zaz qu;have J:=I.lam (more:=#[yaS lp.line,yaS lp.col,.ref c']) (tk:=tk) hP (fun b o n e=>yaa _ (hx b o n e)) (yaa _ htb) ge (.inr Zf) Vn (yaa _ NL) (yae h' (o:=zb4 "<lambda>" qual params body scope [(y,cc)] ((X.mg "__name__").getD .none) c' vW) rfl);exact⟨.ref h'.objs.size,_,J,rfl,q _ cc c' _ vW oc vs _ t2 _ R7 Qp (.inl nc) (fun b o n e=>gA.keep Qp (.inr nc) n e) (fun b n=>gA.back (by rw[hP];simp) n) gA.fo_ (gA.c_ Vn) d1 d2 (gA.P_ (nP Qp).symm (nP nc).symm) (by simp)⟩
 .refine PySem.W.kla_makeFunctionHit (cv:=.ref c') Nl I.ok.glob (I.mod.glob.keeps I.bk) Qo C gP tri ?_ hb fun vW h' Qh hk hsz=>?_
  .exact codeAmong_snoc [] trivial rfl
  .have Qp:H h'.objs.size=none:=I.bS.fresh hsz;have Vn:c'≠h'.objs.size:=ag hc Qp;have cP:c'≠P:=fun z=>by rw[z,hP] at hc;cases hc
   have J:=I.lam (more:=#[]) (tk:=Qh) hP (fun b o n e=>yaa _ (hk b o e)) (by simpa using yaa _ (hk _ _ gP)) hsz (.inl hc) Vn (yaa _ (hk _ _ (cQ.get I.bS hc))) (yae h' (o:=zb4 "<lambda>" qual params body scope [(y,cc)] ((X.mg "__name__").getD .none) c' vW) rfl);exact⟨.ref h'.objs.size,_,J,rfl,q _ cc c' _ vW oc vs _ tk _ R7 Qp (.inr rfl) (fun b o n e=>gA.keep Qp (.inl hc) n e) (fun b n=>gA.back (by rw[hP];simp) n) gA.fo_ (gA.c_ Vn) d1 d2 (gA.P_ (nP Qp).symm cP.symm) (by simp)⟩
theorem rL.add{K:zaa}(e:rL P w K mg base A outer s H)(ha:H a=none)(hb:base.get? a=none)(hf:a ∉ qt outer)(g:s.heap.get? a=some o):rL P w K mg base A outer s (upd H a (cQ a o)):=
 ⟨e.frames,e.mod,fun b ob hB=>⟨(e.bs b ob hB).1,by rw[au (fun z=>by rw[z,hb] at hB;cases hB)];exact(e.bs b ob hB).2⟩,e.BL,e.mz,fun b hB=>by rw[au (fun z:b=a=>hf (by rw[<- z];exact hB))];exact e.Fu b hB,e.bS.add ha g,e.bare⟩
theorem CE.out(ha:H a=none)(g:s.heap.get? a=some o)(h:CE outer P w (upd H a (cQ a o)) s (fun v H3=>H3 a=some (cQ a o)/\Q v (wo H3 a)) u s'):CE outer P w H s Q u s':=by
 obtain⟨v,H3,os,bare,un,OH,rv,h3,q⟩:=h;have g3:=cQ.get OH h3;refine⟨v,wo H3 a,os,bare,⟨fun b ob e n hb hx=>?_,fun b ob e n hb hx=>?_,fun b ob e n hx=>?_,un.there,fun b xs e=>?_,fun b ob x e=>?_,fun b ps e=>?_⟩,OH.wo h3,rv,q⟩
 .by_cases z:b=a
  .rw[z] at e |-;rw[g] at e;cases e;exact g3
  .exact un.keep b ob e (by rw[au z];exact n) hb hx
 .by_cases z:b=a
  .rw[z] at e |-;rw[g] at e;cases e;exact⟨o.slots,g3⟩
  .exact un.slot b ob e (by rw[au z];exact n) hb hx
 .by_cases z:b=a
  .rw[z];exact cW
  .rw[bE z];exact un.free b ob e (by rw[au z];exact n) hx
 .have ne:b≠a:=ag e ha;rw[bE ne];exact un.o7 b xs (by rw[au ne];exact e)
 .have ne:b≠a:=ag e ha;rw[bE ne];exact un.oU b ob x (by rw[au ne];exact e)
 .have ne:b≠a:=ag e ha;rw[bE ne];exact un.oV b ps (by rw[au ne];exact e)
theorem Ir{K:zaa}
 (KX:K.In s₁.heap) (PV:s₁.heap.Ns zdM mg) (hb:s₁.heap.Ns builtinsNs mb) (Zg:∀x:Str,x≠"__name__"->mb x=bootBuiltins x) (Zh:s₁.heap.NoLimit) (hg:s₁.gens = #[])
 (ha:s₁.heap.get? a=some {cls:=.type "list",data:=.seq vs.toArray}) (hi:IntsAre vs ns) (hl:ns.length<=zdN) (hr:gw k callerA) (hd:PySem.W.CodeHd s₁.heap c Pt) (Gi:s₁.heap.get? Pt=some (zdt #[])) (Vo:K.lookup Pt=none)
 (Zi:∃bm o,mg "__builtins__"=some (.ref bm)/\bm≠builtinsNs/\bm≠zdM/\s₁.heap.get? bm=some o/\o.cls=.type "module"/\o.dict=some builtinsNs/\o.data=.plain)
 (F:∀base:yaf,K.In base->base.Ns zdM mg->jm K mg base c Pt->bt P w K mg base CX k fa fd [x] sp) (xD:∀(s:zdP) (u:zdG),BindsTo s fd ⟨[u],[]⟩ [(x,u)])
 (Jl:∀H:Hp,iR K H a (ns.map V.int)->H Pt=some (.rE #[])->sp [.ref a] H (fun v _=>v=.bl true) fun _ _ _=>False)
 (Zj:∀H e s',CX [] H s₁ (fun _ _ _=>False) e s'->False) :
 codeAny (model P w) callerA (.call (.ref fa) ⟨[.ref a],[]⟩) (fun r s'=>r=.ok (.ret (.bool true))/\OldK s₁.heap s'.heap/\s'.os=s₁.os/\AllBare s'.gens) s₁:=by
 have rv:=zt hi;have Zk:=hi.length;have Xe:a≠Pt:=fun z=>by rw[z,Gi] at ha;cases ha
 obtain⟨H,Zl,Zm,Xf,hS,hK⟩:∃H:Hp,H Pt=some (.rE #[])/\(H a=none\/H a=some (.JA {cls:=.type "list",data:=.seq vs.toArray} (.lst (ns.map V.int))))/\(∀b,b≠Pt->b≠a->H b=none)/\iR K H a (ns.map V.int)/\(H a≠none->K.lookup a=none):=by
  cases hk:K.lookup a with
  |some o=>
   have e:=KX a o hk;rw[ha] at e;cases e;exact⟨fun b=>if b=Pt then some (.rE #[]) else none,ybS rfl,.inl (ybR Xe),fun b n _=>ybR n,.inr ⟨_,vs.toArray,_,hk,rfl,rfl,rfl,by rw[zay,Zk];exact hl,by simpa using rv⟩,fun z=>ybX (ybR Xe) z⟩
  |none=>exact⟨fun b=>if b=Pt then some (.rE #[]) else if b=a then some (.JA {cls:=.type "list",data:=.seq vs.toArray} (.lst (ns.map V.int))) else none,ybS rfl,.inr ((ybR Xe).trans (ybS rfl)),fun b n1 n2=>(ybR n1).trans (ybR n2),.inl (.inr ⟨_,(ybR Xe).trans (ybS rfl)⟩),fun _=>rfl⟩
 have bS:jV P w H s₁.heap:=fun b u q=>by
  by_cases z:b=Pt
  .subst z;rw[Zl] at q;cases q;exact Gi
  .by_cases z2:b=a
   .subst z2;rcases Zm with e |e
    .rw[e] at q;cases q
    .rw[e] at q;cases q;exact⟨ha,by rw[zac];exact hl,vs,_,rv,ha⟩
   .rw[Xf b z z2] at q;cases q
 have free:∀{b:zdF} {o:Obj},s₁.heap.get? b=some o->(∀xs n,o.data≠.seq xs n)->(∀fs,o.data≠.fields fs\/o.cls≠.none)->H b=none:=fun {b o} e n1 n2=>by
  refine Xf b (fun z=>?_) (fun z=>?_)
  .rw[z,Gi] at e;cases e;exact(n2 #[]).elim (fun q=>q rfl) fun q=>q rfl
  .rw[z,ha] at e;cases e;exact n1 _ _ rfl
 have Xg:∀{b:zdF} {m:Str->Option zdG},s₁.heap.Ns b m->(Ag s₁.heap H).Ns b m:=fun {b m} ⟨o,es,ep,e,d,r⟩=>⟨o,es,ep,sZ e (free e (fun _ _ z=>by rw[d] at z;cases z) fun _=>.inl fun z=>by rw[d] at z;cases z),d,r⟩
 have hKb:K.In (Ag s₁.heap H):=fun b o e=>sZ (KX b o e) (by
  by_cases z:b=Pt
  .rw[z,Vo] at e;cases e
  .by_cases z2:b=a
   .rcases Zm with q |q
    .rw[z2];exact q
    .rw[z2,hK (by rw[q];simp)] at e;cases e
   .exact Xf b z z2)
 have hM:Mod K mg (Ag s₁.heap H):=⟨hKb,Xg PV,⟨mb,Xg hb,Zg⟩,let ⟨mc,h1,h2⟩:=Zh;⟨mc,Xg h1,h2⟩⟩
 have e0:rL P w K mg (Ag s₁.heap H) callerA [] s₁ H:=⟨rfl,hM,fun b o e=>NK e,zdC (Hn _ _),trivial,fun b hb=>ybX (show b∈([]:List zdF) from hb) (by simp),bS,.of_eq hg⟩
 have hL:jm K mg (Ag s₁.heap H) c Pt:=by
  refine⟨?_,?_⟩
  .obtain⟨o,Zn,file,tf,flags,tg,inF,text,tt,e1,r1,r2,r⟩:=hd;exact⟨o,Zn,file,tf,flags,tg,inF,text,tt,sZ e1 (free e1 (fun _ _ z=>by rw[r2] at z;cases z) fun _=>.inr fun z=>by rw[r1] at z;cases z),r1,r2,r⟩
  .obtain⟨bm,o,e1,e2,e3,e4,r1,r2,r3⟩:=Zi;exact⟨bm,o,e1,e2,e3,sZ e4 (free e4 (fun _ _ z=>by rw[r3] at z;cases z) fun _=>.inl fun z=>by rw[r3] at z;cases z),r1,r2,r3⟩
 refine yaT ((F _ hKb (Xg PV) hL).run callerA [] s₁ H ⟨[.ref a],[]⟩ [.ref a] [.ref a] _ _ hr e0 (xD s₁ (.ref a)) (.cons rfl .nil) (Jl H hS Zl)) fun r s' h=>?_;cases r with
 |error e=>exact(Zj H e s' h).elim
 |ok fl=>
  cases fl with
  |next=>exact False.elim h
  |brk=>exact False.elim h
  |cont=>exact False.elim h
  |ret u=>
   obtain⟨v,H',os,bare,un,Vp,r',q⟩:=h;have q':v=.bl true:=q;subst q';obtain rfl:u=yaI true:=r';refine⟨rfl,⟨fun b o e=>?_,fun b o e=>un.there b o e (by simp)⟩,os,bare⟩;by_cases z:b=Pt
   .subst z;rw[Gi] at e;cases e;obtain⟨more,em⟩:=un.oV b _ Zl;have g':=Vp b _ em;obtain⟨oc,Zn,file,tf,flags,tg,inF,text,tt,e1,r1,r2,r3,_⟩:=hd;exact .inr (.inl ⟨⟨c,oc,Zn,e1,r1,r2,r3⟩,rfl, #[],more,rfl,g'⟩)
   .refine .inl ?_;by_cases z2:b=a
    .subst z2;rcases Zm with n |n
     .exact un.keep b o e n (by intro z;exact ybX (show b∈([]:List zdF) from z) (by simp)) (by simp)
     .have z3:=un.oU b _ _ n;obtain⟨e2,_⟩:=Vp b _ z3;rw[ha] at e;cases e;exact e2
    .exact un.keep b o e (Xf b z z2) (by intro z;exact ybX (show b∈([]:List zdF) from z) (by simp)) (by simp)
theorem LP{l:PySem.W.OpenLaw}{K:Params->zaa}{CX:zdH->BC}{sp:zdH->Sp}
 (hn:l.most=some n) (W7:n<=zdN) (UA:d.params.defaults=[]) (hr:gw k callerA)
 (hY:∀(w:zdH) (h:yaf),YP w h->(K w.params).In h) (LO:(recsOf q).find? (fun e=>e.name==fn)=some dF) (LQ:∀w:zdH,zcF (K w.params) fn=some (c,Pt)) (Vo:∀w:zdH,(K w.params).lookup Pt=none)
 (F:∀(w:zdH) (mg:Str->Option zdG) (fa:zdF) (h:yaf),(K w.params).In h->h.Ns zdM mg->mg d.name=some (.ref fa)->
  ∃fd:zdO,(∀(s:zdP) (u:zdG),BindsTo s fd ⟨[u],[]⟩ [(x,u)])/\
   ∀base:yaf,(K w.params).In base->base.Ns zdM mg->jm (K w.params) mg base c Pt->bt l.prog w (K w.params) mg base (CX w) k fa fd [x] (sp w))
 (Jl:∀(w:zdH) (H:Hp) (a:zdF) (ns:List Int),ns.length<=n->iR (K w.params) H a (ns.map V.int)->H Pt=some (.rE #[])->sp w [.ref a] H (fun v _=>v=.bl true) fun _ _ _=>False)
 (Zj:∀(w:zdH) (H:Hp) (s:zdP) (e:zdG) (s':zdP),CX w [] H s (fun _ _ _=>False) e s'->False) :
 PySem.W.WalkO q loose XP YP l.row.toRowW d [] (fun f vs=>PySem.call f vs):=by
 refine Att.B1 hn UA fun w s₀ s₁ mg mb fa o pm cd doc a vs ns G Y ho hd BP UB Rw hints hlen hg=>?_;have KX:=hY w _ Y;obtain⟨fd,hb,hF⟩:=F w mg fa _ KX G.T.g UB;obtain⟨RT,hd2⟩:=PySem.W.tab_of G.T KX LO (LQ w);have Zi:∃bm o,mg "__builtins__"=some (.ref bm)/\bm≠builtinsNs/\bm≠zdM/\s₁.heap.get? bm=some o/\o.cls=.type "module"/\o.dict=some builtinsNs/\o.data=.plain:=by
  obtain⟨bm,ob,b1,b2,b3,b4,b5,b6⟩:=G.T.bmain;refine⟨bm,ob,b1,b2,fun z=>?_,b3,b4,b5,b6⟩;obtain⟨o,es,ep,e,hd,_⟩:=G.T.g;rw[z,e] at b3;cases b3;rw[hd] at b6;cases b6
 exact Ir KX G.T.g G.T.b G.T.builtins G.T.nolimit hg Rw hints (zax hlen W7) hr RT hd2 (Vo w) Zi hF hb (fun H hS hP=>Jl w H a ns hlen hS hP) fun H e s'=>Zj w H s₁ e s'
def vx (K:zaa)(f c:zdF):Prop:=∀oc od fd Ec,K.lookup f=some ⟨oc,od,.func fd,Ec⟩->fd.code=.ref c
theorem LR{K:zaa}(h:zcF K x=some (c,P))(hn:zaE K zdM x=some (some (.ref f))):vx K f c:=by
 intro oc od fd Ec hl;unfold zcF at h;rw[hn] at h;simp only[hl] at h;split at h
 .rename_i c2 hc;split at h
  .split at h
   .cases h;exact hc
   .cases h
  .cases h
 .cases h
noncomputable def EJ:Expr->Arguments
 |.Lambda p _ _ _=>p
 |_=>{posonlyargs:=[],args:=[],vararg:=none,kwonlyargs:=[],kw_defaults:=[],kwarg:=none,defaults:=[]}
noncomputable def wO:Expr->Expr
 |.Lambda _ b _ _=>b
 |e=>e
noncomputable def mM:Expr->Scope
 |.Lambda _ _ s _=>s
 |_=>{kind:=.function,names:=[],isGenerator:=false,isCoroutine:=false}
noncomputable def xF:Expr->Pos
 |.Lambda _ _ _ p=>p
 |_=>⟨0,0,0,0⟩
def OI (y qual:Str) (l:Expr) (H:Hp) (fo cc:zdF) (ip:Obj) (vc:V):Prop:=Qn y "<lambda>" qual (EJ l) (wO l) (mM l) H fo cc ip vc
def lD (pr:PG.Prog)(s:fD):List fD:=if s.1=0 then [] else if vt pr.body s.1=true then (zaj 10).map fun f=>((fN pr s.1 s.2 (f:Nat)).1.getD s) else (fN pr s.1 s.2 0).1.toList
theorem Gj(d:bV pr)(h:cY pr s):∀x∈lD pr s,cY pr x:=by
 intro x hx;unfold lD at hx;split at hx
 .cases hx
 .rename_i h0;split at hx
  .rename_i ha;obtain⟨f,_,rfl⟩:=zae.mp hx;cases e:(fN pr s.1 s.2 (f:Nat)).1 with
   |none=>exact h
   |some y=>exact h.next d h0 e
  .rw[Option.mem_toList] at hx;exact h.next d h0 hx
theorem df.upL{K:zaa}(h:df K H a row vals)(hD:H D=some (.lst ys))(u:bf D H H'):df K H' a row vals:=by obtain⟨va,h1,h2⟩:=h;exact⟨va,h1.Ls hD u,h2.Ls hD u⟩
theorem Gk{K:zaa}(h:xC K H g us)(f:∀a row vals,df K H a row vals->df K H' a row vals):xC K H' g us:=yao.Af h fun _ _ ⟨a,e,q⟩=>⟨a,e,f _ _ _ q⟩
theorem Cu{K:zaa}:∀{us:List V}{x:fD}{a:zdF},xC K H g us->df K H a x.1 x.2->xC K H (g++[x]) (us++[.ref a]):=by
 induction g with
 |nil=>intro _ _ _ h q;cases h;exact .cons ⟨_,rfl,q⟩ .nil
 |cons _ _ ih=>
  intro _ _ _ h q;cases h with
  |cons a b=>exact .cons a (ih b q)
section
variable(P:zdR)(w:zdH)(K:zaa)(CC:zdF)
inductive Qq(vs:List V)(H:Hp)(Q:VK)(E:XK):Prop
 |mk (ch sa:zdF) (pr:PG.Prog) (s:fD):vs=[.ref ch,.ref sa]->vp K CC H ch pr->bV pr->df K H sa s.1 s.2->cY pr s->(∀l us H',ar H H'->H l=none->H' l=some (.lst us)->xC K H' (lD pr s) us->Q (.ref l) H')->Qq vs H Q E
end
theorem OI.mono(h:OI y qual l H fo cc ip vc)(s:ar H H'):OI y qual l H' fo cc ip vc:=by
 obtain⟨c',pm,vW,uc,oc,vs,tk,g1,g2,d2,q2,g3,d3,rc⟩:=h;exact⟨c',pm,vW,uc,oc,vs,tk,s _ _ g1,s _ _ g2,d2,q2,s _ _ g3,d3,rc⟩
theorem R8(u:bf D H H'):ar (wo H D) H':=fun b o e=>by
 by_cases z:b=D
 .subst z;rw[cW] at e;cases e
 .rw[bE z] at e;exact u b o z e
theorem fc:wo (upd H D o) D=wo H D:=funext fun b=>by
 by_cases z:b=D
 .subst z;rw[cW,cW]
 .rw[bE z,bE z,au z]
theorem Gm(s:ar H H')(n:H D=none):ar H (wo H' D):=fun b o e=>by
 rw[bE (ag e n)];exact s b o e
theorem qj(s:ar H H'):ar (wo H D) (wo H' D):=fun b o e=>by
 by_cases z:b=D
 .subst z;rw[cW] at e;cases e
 .rw[bE z] at e |-;exact s b o e
theorem mO:ar (wo H D) H:=R8 (.refl _ _)
theorem wQ:bf a H (wo H a):=fun b o n e=>by rw[bE n];exact e
section
variable{K:zaa}{H H':Hp}{p:zdF}{φ:yaf->Prop}
mutual
theorem lI(h:H p=some (.ext φ))(u:bf p H H'):∀(d:Dp)(v:V),Rep K H d v->Rep K H' d v
 |.eA,v,r=>by rw[Rep.kg] at r |-;exact r
 |.bl b,v,r=>by rw[Rep.rM] at r |-;exact r
 |.int b,v,r=>by rw[Rep.bD] at r |-;exact r
 |.str b,v,r=>by rw[Rep.bN] at r |-;exact r
 |.lst l,v,r=>by
  rw[Rep.bG] at r |-;obtain⟨a,ys,rfl,q,rs⟩:=r;refine⟨a,ys,rfl,?_,t7 h u l ys rs⟩;rcases q with (q |⟨o,q⟩) |q
  .exact .inl (.inl (u _ _ (bz q h (by intro z;cases z)) q))
  .exact .inl (.inr ⟨o,u _ _ (bz q h (by intro z;cases z)) q⟩)
  .exact .inr q
 |.tup l,v,r=>by
  rw[Rep.aT] at r |-;obtain⟨a,ys,rfl,q,rs⟩:=r;exact⟨a,ys,rfl,q.mL h u,t7 h u l ys rs⟩
theorem t7(h:H p=some (.ext φ))(u:bf p H H'):∀(ds:List Dp)(vs:List V),aL K H ds vs->aL K H' ds vs
 |[],vs,r=>by rw[aL.bQ] at r |-;exact r
 |d::ds,vs,r=>by
  rw[aL.aP] at r |-;obtain⟨v,t,rfl,r1,r2⟩:=r;exact⟨v,t,rfl,lI h u d v r1,t7 h u ds t r2⟩
end
theorem vp.ext(c:vp K C H ch pr)(h:H p=some (.ext φ))(u:bf p H H'):vp K C H' ch pr:=by
 obtain⟨dx,nl,sd,fa,va,st,wy,us,ws,h1,h2,h3,h4,h5,h6,h7,h8,h9,Oz,Lq,OA⟩:=c.at_;have k:∀{b:zdF} {o:HO},H b=some o->(∀M,o≠.ext M)->H' b=some o:=fun {b o} e n=>u _ _ (bz e h (n φ)) e;exact⟨⟨dx,nl,sd,fa,va,st,wy,us,ws,k h1 (fun _ z=>by cases z),k h2 (fun _ z=>by cases z),k h3 (fun _ z=>by cases z),k h4 (fun _ z=>by cases z),k h5 (fun _ z=>by cases z),k h6 (fun _ z=>by cases z),h7,k h8 (fun _ z=>by cases z),t7 h u _ _ h9,Oz,k Lq (fun _ z=>by cases z),fun i hi=>let ⟨q,e,r⟩:=OA i hi;⟨q,e,r.mL h u⟩⟩⟩
end
end L2
namespace L2
open PG
open PySem PySem.Spec PyProof.Rows
section
variable{K:zaa}{H H':Hp}
theorem xG{O L:Type}{R:O->L->Prop}{as:List O}:∀{us:List L}{bs:List O}{vs:List L},yao R as us->yao R bs vs->yao R (as++bs) (us++vs):=by
 induction as with
 |nil=>intro _ _ _ h h2;cases h;exact h2
 |cons _ _ ih=>
  intro _ _ _ h h2;cases h with
  |cons a b=>exact .cons a (ih b h2)
theorem fG{O L:Type}{R:O->L->Prop}:∀{as:List O}{us:List L}{i:Nat}{v:L},yao R as us->us[i]?=some v->∃a,as[i]?=some a/\R a v
 |[],_,_,_,h,e=>by cases h;simp at e
 |_::_,_,0,_,h,e=>by
  cases h with
  |cons a b=>cases e;exact⟨_,rfl,a⟩
 |_::_,_,i+1,_,h,e=>by
  cases h with
  |cons a b=>
   obtain⟨x,e1,e2⟩:=fG (i:=i) b (by simpa using e);exact⟨x,by simpa using e1,e2⟩
end
def Kp (H H':Hp):Prop:=∀b o,H b=some o->(∀ps,o≠.rE ps)->H' b=some o
section
variable{K:zaa}{H H':Hp}
theorem Kp.of(u:bf Pt H H')(h:H Pt=some (.rE ps)):Kp H H':=fun b o e n=>u b o (bz e h (n ps)) e
theorem bH.kp(h:bH K H a xs)(k:Kp H H'):bH K H' a xs:=by
 rcases h with (q |⟨o',q⟩) |q
 .exact .inl (.inl (k _ _ q (by intro _ z;cases z)))
 .exact .inl (.inr ⟨o',k _ _ q (by intro _ z;cases z)⟩)
 .exact .inr q
theorem iR.kp(h:iR K H a xs)(k:Kp H H'):iR K H' a xs:=by
 rcases h with (q |⟨o',q⟩) |q
 .exact .inl (.inl (k _ _ q (by intro _ z;cases z)))
 .exact .inl (.inr ⟨o',k _ _ q (by intro _ z;cases z)⟩)
 .exact .inr q
mutual
theorem vy(k:Kp H H'):∀(d:Dp)(v:V),Rep K H d v->Rep K H' d v
 |.eA,v,r=>by rw[Rep.kg] at r |-;exact r
 |.bl b,v,r=>by rw[Rep.rM] at r |-;exact r
 |.int b,v,r=>by rw[Rep.bD] at r |-;exact r
 |.str b,v,r=>by rw[Rep.bN] at r |-;exact r
 |.lst l,v,r=>by
  rw[Rep.bG] at r |-;obtain⟨a,ys,rfl,q,rs⟩:=r;exact⟨a,ys,rfl,iR.kp q k,wR k l ys rs⟩
 |.tup l,v,r=>by
  rw[Rep.aT] at r |-;obtain⟨a,ys,rfl,q,rs⟩:=r;exact⟨a,ys,rfl,bH.kp q k,wR k l ys rs⟩
theorem wR(k:Kp H H'):∀(ds:List Dp)(vs:List V),aL K H ds vs->aL K H' ds vs
 |[],vs,r=>by rw[aL.bQ] at r |-;exact r
 |d::ds,vs,r=>by
  rw[aL.aP] at r |-;obtain⟨v,t,rfl,r1,r2⟩:=r;exact⟨v,t,rfl,vy k d v r1,wR k ds t r2⟩
end
theorem vp.kp(c:vp K C H ch pr)(k:Kp H H'):vp K C H' ch pr:=by
 obtain⟨dx,nl,sd,fa,va,st,wy,us,ws,h1,h2,h3,h4,h5,h6,h7,h8,h9,Oz,Lq,OA⟩:=c.at_;exact⟨⟨dx,nl,sd,fa,va,st,wy,us,ws,k _ _ h1 (fun _ z=>by cases z),k _ _ h2 (fun _ z=>by cases z),k _ _ h3 (fun _ z=>by cases z),k _ _ h4 (fun _ z=>by cases z),k _ _ h5 (fun _ z=>by cases z),k _ _ h6 (fun _ z=>by cases z),h7,k _ _ h8 (fun _ z=>by cases z),wR k _ _ h9,Oz,k _ _ Lq (fun _ z=>by cases z),fun i hi=>let ⟨q,e,r⟩:=OA i hi;⟨q,e,r.kp k⟩⟩⟩
theorem TabOk.kp(h:TabOk qual lp H ps)(k:Kp H H'):TabOk qual lp H' ps:=by
 rcases h with h |⟨c',oc,vs,tk,e,h1,h2,h3⟩
 .exact .inl h
 .exact .inr ⟨c',oc,vs,tk,e,k _ _ h1 (fun _ z=>by cases z),h2,h3⟩
theorem Kp.same(s:ar H H'):Kp H H':=fun b o e _=>s b o e
end
end L2
namespace L2
open PG
open PySem PySem.Spec PyProof.Rows
abbrev jG (pr:PG.Prog):fD:=(bU pr.body 0,pr.aF.map (·.first))
section
variable(P:zdR)(w:zdH)(K:zaa)(CC:zdF)
def AE (Pt:zdF):Sp:=fun vs H Q _=>∃(a:zdF) (ns:List Int),vs=[.ref a]/\iR K H a (ns.map V.int)/\ns.length<=63/\H Pt=some (.rE #[])/\∀H',Q (.bl true) H'
end
theorem TabOk.up(h:TabOk qual lp H ps)(k:∀b φ,H b=some (.ext φ)->H' b=some (.ext φ)):TabOk qual lp H' ps:=by
 rcases h with h |⟨c',oc,vs,tk,e,h1,h2,h3⟩
 .exact .inl h
 .exact .inr ⟨c',oc,vs,tk,e,k _ _ h1,h2,h3⟩
noncomputable def Cv (s:fD):Dp:=.tup [.int s.1,.tup (s.2.map Dp.int)]
def EV (ps:List (zdF×V))(es:Array DictEntry):Prop:=yao (fun (p:zdF×V) (e:DictEntry)=>e.key=.ref p.1/\RelV p.2 e.val) ps es.toList
theorem EV.size(h:EV ps es):es.size=ps.length:=by rw[<- zaI];exact(yah h).symm
theorem EV.at(h:EV ps es)(hi:i<es.size):∃b v,ps[i]?=some (b,v)/\es[i].key=.ref b/\RelV v es[i].val:=by
 obtain⟨⟨b,v⟩,e,e2⟩:=fG h (i:=i) (v:=es[i]) (by rw[zaB,zaU hi]);exact⟨b,v,e,e2.1,e2.2⟩
def Tp (d:zdF)(o:Obj)(ps:List (zdF×V)):It:=
 ⟨fun i H=>H d=some (cQ d o)/\i<ps.length,fun i H x H'=>H'=H/\∃b v,x=.ref b/\ps[i]?=some (b,v),fun i H=>H d=some (cQ d o)/\ps.length<=i⟩
theorem Iu{K:zaa}(hx:o.ExactDict)(hd:o.data=.dict es ep)(ev:EV ps es) :
 Turn P w K tg (Tp d o ps) [it] it (fun i h=>h.IsKeyIter it d i es.size ep) where
 mem:=by simp
 obj:=fun i h st b hb=>by
  obtain⟨oi,eo,c,dd⟩:=st;have z:b=it:=by simpa using hb
  subst z;exact⟨oi,eo,fun v z=>by rw[dd] at z;cases z⟩
 keep:=fun i h h' st k=>st.at fun o x=>k it (by simp) o x
 item:=by
  intro X hP hw hK hc i pins s G H E I hf st hg;subst hP hw hK;obtain⟨hH,hi⟩:=hg;rw[<- ev.size] at hi;obtain⟨f0,f1,f2,f3,f4,f5⟩:=hf it (by simp);obtain⟨b,v,e1,e2,_⟩:=ev.at hi;refine Cq st ⟨o,cQ.get I.bS hH,hx,hd⟩ hi fun h' BB sb=>?_;obtain⟨oi,eo,c,dd⟩:=id BB;refine⟨_,rfl,JL (s:={s with heap:=h' }) (n:="dict_keyiterator") eo c dd (by decide) ⟨.ref b,H,I.turned (t':=s.toks) (fun b o hb e=>sb.extBut b o hb e) f0 f1 f3 f4 f5,e2,⟨rfl,b,v,rfl,e1⟩,BB,fun b hb=>(hf b hb).1⟩⟩
 done:=by
  intro X hP hw hK hc i pins s G H E I hf st hg;subst hP hw hK;obtain⟨hH,hi⟩:=hg;rw[<- ev.size] at hi;obtain⟨f0,f1,f2,f3,f4,f5⟩:=hf it (by simp);exact Gg (I.ok.hd hc) st ⟨o,cQ.get I.bS hH,hx,hd⟩ hi fun h' eb=>⟨rfl,I.turned (t':=s.toks) (fun b o hb e=>eb b o hb e) f0 f1 f3 f4 f5⟩
 self:=fun _ _ _ _ _ st h=>wpAny_pyIter_keyiter st h
section
variable{Y:Type}[DecidableEq Y](J:KH Y)
structure Fz(P:zdR)(w:zdH)(K:zaa)(H:Hp)(d:zdF)(aB:List (Y×V))(o:Obj):Prop where
 len:aB.length<=zdN
 sys:(d==yar)=false
 at_:∃xs,(∀h:yaf,h.get? d=some o->iA J P w d xs h)/\KS J K H aB xs/\(xs.map (·.1)).Nodup
def R9 (K:zaa)(H:Hp)(aB:List (Y×V))(ps:List (zdF×V)):Prop:=yao (fun (kv:Y×V) (p:zdF×V)=>J.on K H kv.1 p.1/\p.2=kv.2) aB ps
def Gn (P:zdR)(w:zdH)(K:zaa)(tl:TE):TI:=fun G H R=>tl G H fun x H1=>∃d aB,x=.ref d/\DS J P w K H1 d aB/\∀o ps,Fz J P w K H1 d aB o->R9 J K H1 aB ps->R (Tp d o ps) (upd H1 d (cQ d o))
variable{J}
theorem Fz.Vq{K:zaa}(f:Fz J P w K H d aB o)(hd:H' d=some (cQ d o))(t:∀b ys,bH K H b ys->bH K H' b ys) :
 ∃φ,(∀h:yaf,h.get? d=some o->φ h)/\(∀g1 g2:yaf,φ g1->(∀o,g1.get? d=some o->g2.get? d=some o)->φ g2)/\DS J P w K (upd H' d (.ext φ)) d aB:=by
 obtain⟨xs,h1,h2,h3⟩:=f.at_;refine⟨_,h1,fun g1 g2 p1 kp=>?_,⟨f.len,f.sys,xs,ah,h2.up fun b ys q=>(t b ys q).ext hd,h3⟩⟩;obtain⟨ob,es,ep,e1,e2,e3,e4⟩:=p1;exact⟨ob,es,ep,kp ob e1,e2,e3,e4⟩
theorem Qr{K:zaa}:∀{aB:List (Y×V)}{xs:List (Y×zdF×zdG)},KS J K H aB xs->∃ps,R9 J K H aB ps/\yao (fun (p:zdF×V)(e:DictEntry)=>e.key=.ref p.1/\RelV p.2 e.val) ps (xs.map (entryOfKey (J.knd P w)))
 |[],_,h=>by cases h;exact⟨[],.nil,.nil⟩
 |(k,v)::r,_,h=>by
  cases h with
  |cons a b=>
   obtain⟨ps,p1,p2⟩:=Qr (P:=P) (w:=w) b;exact⟨(_,v)::ps,.cons ⟨a.2.1,rfl⟩ p1,.cons ⟨rfl,a.2.2⟩ p2⟩
section
variable{X:Cx}{tg l e e1 e2:Expr}{es:List Expr}{tl te to:TE}{ta:TA}{pins:List (zdF×Obj)}{G:St}{H:Hp}{s:zdP}{apos uY:Pos}
theorem freeze(I:Inv X pins G H s)(ds:DS J X.prog X.w X.K H d aB):∃o es ep ps,s.heap.get? d=some o/\o.ExactDict/\o.data=.dict es ep/\EV ps es/\Fz J X.prog X.w X.K H d aB o/\R9 J X.K H aB ps/\Inv X pins G (upd H d (cQ d o)) s:=by
 obtain⟨z,sy,xs,e,rel,nd⟩:=ds;obtain⟨⟨o,es,ep,h1,h2,h3,h4⟩, -⟩:=(show bZ X.prog X.w H s.heap d (.ext (iA J X.prog X.w d xs)) from I.bS d _ e)
 obtain⟨ps,p1,p2⟩:=Qr (P:=X.prog) (w:=X.w) rel;refine⟨o,es,ep,ps,h1,h2,h3,?_,⟨z,sy,xs,fun h eh=>⟨o,es,ep,eh,h2,h3,h4⟩,rel,nd⟩,p1,ni (h':=s.heap) (t':=s.toks) I (by rw[e];exact True.intro) ⟨rfl,fun _ _=>rfl⟩ ⟨o,h1⟩ (cQ.ok h1)⟩;unfold EV;rw[h4];exact p2
theorem xH(hl:PE X l tl):PI X tg l (Gn J X.prog X.w X.K tl):=by
 intro pins s G H R I h;refine fC (hl pins s G H _ I h) fun v s1 zqz=>?_;obtain⟨x,H1,I1,r1,q1⟩:=zqz;obtain⟨d,aB,rfl,ds,q⟩:=q1;cases r1;obtain⟨o,es,ep,ps,h1,h2,h3,ev,fz,po,I2⟩:=freeze I1 ds;refine Cp ds.sys ⟨o,h1,h2,h3⟩ ?_;have I3:=I2.kept (t':=s1.toks) (h':=s1.heap.push {cls:=.type "dict_keyiterator",data:=.fields #[.ref d,.int 0 0,.int es.size 0,.int ep 0]}) fun b o e=>yaa _ e;refine⟨s1.heap.objs.size,[s1.heap.objs.size],_,Tp d o ps,_,rfl,I3,Iu h2 h3 ev,⟨_,yae _ rfl,rfl,rfl⟩,fun b hb=>?_,q o ps fz po⟩;have e:b=s1.heap.objs.size:=by simpa using hb
 subst e;exact I2.JK (zah _) (I2.bS.fresh (zah _))
def LS (t:TE):TE:=fun G H Q=>∃(d:zdF) (o:Obj) (φ:yaf->Prop),H d=some (cQ d o)/\(∀h:yaf,h.get? d=some o->φ h)/\(∀g1 g2:yaf,φ g1->(∀o,g1.get? d=some o->g2.get? d=some o)->φ g2)/\t G (upd H d (.ext φ)) Q
theorem Gp(hl:PE X l tl):PE X l (LS tl):=by
 intro pins s G H Q I h;obtain⟨d,o,φ,hd,h1,h2,q⟩:=h;have g:=cQ.get I.bS hd;exact hl pins s G _ Q (ni (ob:=.ext φ) (h':=s.heap) (t':=s.toks) I (by rw[hd];exact True.intro) ⟨rfl,fun _ _=>rfl⟩ ⟨o,g⟩ ⟨h1 _ g,⟨o,g⟩,fun g1 g2 p1 kp=>h2 g1 g2 p1 kp⟩) q
end
end
theorem pL (h:∀U:It->Hp->Prop,(∀J H1,(∃W:Nat->Nat->St->Hp->Prop,(∃m,W 0 m G H1)/\∀i m G H,W i m G H->
 (J.stop i H/\D.nx G H)\/(J.go i H/\∃N:St->Hp->Prop,(∀G' H',N G' H'->∃m',m'<m/\W (i+1) m' G' H')/\∀x H',J.Hr i H x H'->g x G H' fun G2 H2=>tb {D with nx:=N,ct:=N,bk:=D.nx} G2 H2))->U J H1)->wi G H U):NQ wi g tb D G H:=h _ fun _ _ x=>x
theorem AF{g:TG}{tb:TS}{D:Ends}(Pv:Nat->St->Hp->Prop)(h0:Pv 0 G H)(hl:∀i G H,i<=ps.length->Pv i G H->H d=some (cQ d o))
 (hs:∀i b v G H,ps[i]?=some (b,v)->Pv i G H->g (.ref b) G H fun G2 H2=>tb {D with nx:=Pv (i+1),ct:=Pv (i+1),bk:=D.nx} G2 H2) (hd:∀G H,Pv ps.length G H->D.nx G H) :
 ∃W:Nat->Nat->St->Hp->Prop,(∃m,W 0 m G H)/\∀i m G H,W i m G H->
  ((Tp d o ps).stop i H/\D.nx G H)\/((Tp d o ps).go i H/\∃N:St->Hp->Prop,(∀G' H',N G' H'->∃m',m'<m/\W (i+1) m' G' H')/\∀x H',(Tp d o ps).Hr i H x H'->g x G H' fun G2 H2=>tb {D with nx:=N,ct:=N,bk:=D.nx} G2 H2):=by
 refine⟨fun i m G H=>m=ps.length-i/\i<=ps.length/\Pv i G H,⟨ps.length,by simp,zaN _,h0⟩,?_⟩
 rintro i m G H ⟨rfl,hi,p⟩
 have q:=hl i G H hi p;by_cases qu:i<ps.length
 .refine .inr ⟨⟨q,qu⟩,Pv (i+1),fun G' H' p'=>⟨ps.length-(i+1),by lia,rfl,qu,p'⟩,fun x H' y=>?_⟩;obtain⟨rfl,b,v,rfl,e⟩:=y;exact hs i b v G H' e p
 .have e:i=ps.length:=by lia
  subst e;exact .inl ⟨⟨q,zah _⟩,hd G H p⟩
end L2
namespace PG
open PM
structure Dk where
 cs:List Int
 gs:List Bool
 pos:Int
 left:Int
 row:Int
 gap:Int
noncomputable def draw (d:Dk)(many:Int):Int×Dk:=
 if d.cs=[] then ((d.pos*d.pos*7+d.pos/3)%many,{d with pos:=d.pos+1})
 else if d.gs.getD (d.pos%d.cs.length).toNat false=true then (d.cs.getD (d.pos%d.cs.length).toNat 0%many,{d with pos:=d.pos+1,cs:=d.cs.set (d.pos%d.cs.length).toNat (d.cs.getD (d.pos%d.cs.length).toNat 0/many)})
 else ((d.cs.getD (d.pos%d.cs.length).toNat 0%2147483629+62233*(d.pos+1))*48271%2147483629*((d.cs.getD (d.pos%d.cs.length).toNat 0%2147483629+62233*(d.pos+1))*48271%2147483629)%2147483587*69621%2147483579/8%many,{d with pos:=d.pos+1})
theorem OJ(d:Dk)(h:0<many):0<=(draw d many).1/\(draw d many).1<many:=by
 have k:∀x:Int,0<=x%many/\x%many<many:=fun x=>⟨zbr _ (by lia),zba _ h⟩
 unfold draw;split
 .exact k _
 .split<;>exact k _
noncomputable def vz (sc:List Int):Dk:=⟨sc.map fun c=>if c ≥ 10 ^ 18 then c-10 ^ 18 else c,sc.map fun c=>decide (c ≥ 10 ^ 18),0,0,0,0⟩
theorem jn(h:draw d many=(x,d'))(p:0<many):0<=x/\x<many:=by have:=OJ d p;rw[h] at this;exact this
theorem pG(a:List cJ):∀(b:List cJ),aE (a++b)=aE a++aE b:=by
 induction a with
 |nil=>intro b;rfl
 |cons s r ih=>
  intro b;show lX s++aE (r++b)=(lX s++aE r)++aE b;rw[ih b,zaY]
theorem iB(h:draw d many=(x,d')):d'.pos=d.pos+1:=by
 unfold draw at h;split at h
 .cases h;rfl
 .split at h<;>cases h<;>rfl
end PG
namespace L2
open PG
open PySem
section
variable{prog:zdR}{w:zdH}
def oZ (prog:zdR) (w:zdH) (h:yaf) (x:bA×bA) (a:zdF):Prop:=∃(o:Obj) (n:Nat) (b c:zdF),h.get? a=some o/\o.cls=.type "tuple"/\o.data=.seq #[.ref b,.ref c] n/\jF prog w h x.1 b/\jF prog w h x.2 c
theorem oZ.ty{s:zdP}(h:oZ prog w s.heap x a):s.TypeIs (.ref a) "tuple":=by obtain⟨o,_,_,_,e,c,_⟩:=h;exact⟨o,e,c⟩
def LU (w:zdH)(prog:zdR)(x:bA×bA):Int:=reduceHash (ya1 [vv w prog x.1,vv w prog x.2])
theorem oZ.one(hx:oZ prog w h x a)(hy:oZ prog w h y a):x=y:=by
 obtain⟨o,n,b,c,e,_,d,i,t⟩:=hx;obtain⟨o',n',b',c',e',_,d',i',t'⟩:=hy;rw[e] at e';cases e';rw[d] at d'
 injection d' with d1 _
 have d1:=ybW zdB d1;simp only[List.cons.injEq,Value.ref.injEq,and_true] at d1;obtain⟨rfl,rfl⟩:=d1;exact Prod.ext (i.one i') (t.one t')
theorem oZ.kp{es ep}(hx:oZ prog w h x a)(ho:h.get? d=some o)(hd:o.data=.dict es ep)(hs:yay d h h'):oZ prog w h' x a:=by
 obtain⟨o',n,b,c,e,k,d',i,t⟩:=hx;have ne:a≠d:=fun z=>by
  rw[z,ho] at e;cases e;rw[hd] at d';cases d'
 exact⟨o',n,b,c,(hs.2 a ne).trans e,k,d',i.kp ho hd hs,t.kp ho hd hs⟩
variable{A:zdQ}{E:zdG->zdP->Prop}{s:zdP}
theorem OK(hu:A.units+12<cLine)(hk:oZ prog w s.heap x a)(h:Q (LU w prog x) {s with toks:=s.toks+(x.1.2.length+x.2.2.length+7)}) :
 yab (model prog w) A (pyHash (.ref a)) Q E s:=by
 have ty:=hk.ty;obtain⟨o,n,b,c,e,k,d,i,t⟩:=hk;refine zcT (T:="tuple") ty F.slot_tuple_hash F.entry_tuple_hash (F.args_tuple_hash_1 _) (beq_builtin_none _) (.inr (by lia)) ((show yab _ _ (ybP (.ref a) >>= _) _ _ s from ?_));refine zdI (yaV e d (zdI ?_));rw[<- zbn];show yab _ _ (forIn [yac b,yac c] #[] _) _ _ s;rw[zaP];refine zdI (zdI (AD (by show A.units+1+8<cLine;lia) i (zdJ ?_)));show yab _ _ (forIn [yac c] _ _) _ _ _;rw[zaP];refine zdI (zdI (AD (x:=x.2) (by show A.units+1+8<cLine;lia) (show jF prog w _ x.2 c from t) (zdJ ?_)));show yab _ _ (forIn ([]:List zdG) _ _) _ _ _;rw[zbh];refine zdJ ?_;show yab _ _ (retInt (ya1 [vv w prog x.1,vv w prog x.2])) _ _ _;refine zdI (wpAny_mkInt (zdJ ⟨_,_,rfl,?_⟩));rw[show s.toks+(x.1.2.length+x.2.2.length+7)=s.toks+(x.1.2.length+3)+(x.2.2.length+3)+1 by lia] at h;exact h
theorem Vr(hu:A.units+12<cLine)(hx:oZ prog w s.heap x a)(hy:oZ prog w s.heap y b)(h:Q (decide (x=y)) s):yab (model prog w) A (eqBool (.ref a) (.ref b)) Q E s:=by
 unfold eqBool
 try with_reducible refine zdK ?_
 show yab _ _ (if (yac a==yac b)=true then _ else _) Q E s;by_cases BD:(yac a==yac b)=true
 .rw[ybS BD];have e:a=b:=by have:=eq_of_beq BD;injection this
  subst e;cases hx.one hy;exact zdI (ybg (zdJ (by simpa using h)))
 .rw[ybR BD];refine zdI (wpAny_richCompare_same_room (op:=.Eq) hx.ty hy.ty yaM (yaK yaM hx.ty F.entry_tuple_eq ?_ (F.args_tuple_eq_2 _ _)) (by lia));have Y5:=hy.ty;obtain⟨o1,n1,b1,c1,e1,k1,d1,i1,t1⟩:=hx;obtain⟨o2,n2,b2,c2,e2,k2,d2,i2,t2⟩:=hy;show yab _ _ (isInstance (.ref b) (.type "tuple") >>= _) _ _ s;refine zdI (yaB Y5 isSubtype_tuple_tuple ?_);simp only[zaQ,zau,if_false];refine zdI (yaV e1 d1 (zdI (yaV e2 d2 (zdI ?_))));show yab _ _ (forIn [(yac b1,yac b2),(yac c1,yac c2)] _ _) _ _ s;have fin:∀c:Bool,c=decide (x=y)->∃v,(Fin.done (Flow.ret (yaI c)))=Fin.done (Flow.ret v)/\v≠Value.notImplemented/\yab (model prog w) A (truthOfDropped v) Q E s:=fun c hc=>⟨_,rfl,(fun z=>nomatch z),yaN (hc▸h)⟩
  rw[zaP];refine zdI (zdI (Lv (by show A.units+1+8<cLine;lia) i1 i2 ?_));by_cases k1:x.1=y.1
  .rw[ybT k1];simp only[zaQ,zau,if_false];refine zdJ ?_;show yab _ _ (forIn [(yac c1,yac c2)] _ _) _ _ s;rw[zaP];refine zdI (zdI (Lv (by show A.units+1+8<cLine;lia) t1 t2 ?_));by_cases k2:x.2=y.2
   .rw[ybT k2];simp only[zaQ,zau,if_false];refine zdJ ?_;show yab _ _ (forIn ([]:List (zdG×zdG)) _ _) _ _ s;rw[zbh];exact zdJ (zdJ (fin true (ybT (Prod.ext k1 k2)).symm))
   .rw[ybU k2];simp only[zcv,if_true];exact zdI (zdJ (zdJ (zdJ (zdJ (fin false (ybU fun z=>k2 (ybW Prod.snd z)).symm)))))
  .rw[ybU k1];simp only[zcv,if_true];exact zdI (zdJ (zdJ (zdJ (zdJ (fin false (ybU fun z=>k1 (ybW Prod.fst z)).symm)))))
theorem zO(m:Nat){x:bA}(hk:jF prog w s.heap x a)(h:Q true s):yab (model prog w) A (eqIsQuiet (m+2) (.ref a)) Q E s:=by
 have ty:=hk.ty;obtain⟨o,n,u,b,e,c,d,i,t⟩:=hk;unfold eqIsQuiet;refine zdI (ya9 ty yaM.lookup ((show yab _ _ (isInstance (.ref a) (.type "tuple") >>= _) _ _ s from ?_)));refine zdI (yaB ty isSubtype_tuple_tuple ?_);simp only[zaQ,zau,if_false];refine zdI (yak e d (zdI ?_));have key:∀ {z:zdG} {k:Key} {m:Nat},o5 k z=true->eqIsQuiet m z=pure true:=fun {z k m} hz=>eqIsQuiet_byValue m ((bF prog w).byValue k z hz);show yab _ _ (forIn #[u,yac b] _ _) _ _ s;rw[<- zbn];show yab _ _ (forIn [u,yac b] _ _) _ _ s;rw[zaP,key i];refine zdI (zdI (zdJ ?_));simp only[zaQ,zau,if_false];refine zdJ ?_;show yab _ _ (forIn [yac b] _ _) _ _ s;rw[zaP];refine zdI (zdI (xv m t ?_));simp only[zaQ,zau,if_false];refine zdJ ?_;show yab _ _ (forIn ([]:List zdG) _ _) _ _ s;rw[zbh];exact zdJ (zdJ h)
theorem LV(hk:oZ prog w s.heap x a)(h:Q true s):yab (model prog w) A (eqIsQuiet 8 (.ref a)) Q E s:=by
 have ty:=hk.ty;obtain⟨o,n,b,c,e,k,d,i,t⟩:=hk;unfold eqIsQuiet;refine zdI (ya9 ty yaM.lookup ((show yab _ _ (isInstance (.ref a) (.type "tuple") >>= _) _ _ s from ?_)));refine zdI (yaB ty isSubtype_tuple_tuple ?_);simp only[zaQ,zau,if_false];refine zdI (yak e d (zdI ?_));show yab _ _ (forIn #[yac b,yac c] _ _) _ _ s;rw[<- zbn];show yab _ _ (forIn [yac b,yac c] _ _) _ _ s;rw[zaP];refine zdI (zdI (zO 5 i ?_));simp only[zaQ,zau,if_false];refine zdJ ?_;show yab _ _ (forIn [yac c] _ _) _ _ s;rw[zaP];refine zdI (zdI (zO 5 t ?_));simp only[zaQ,zau,if_false];refine zdJ ?_;show yab _ _ (forIn ([]:List zdG) _ _) _ _ s;rw[zbh];exact zdJ (zdJ h)
end
def Sa (prog:zdR)(w:zdH):HeapKind prog w (bA×bA) where
 is:=oZ prog w
 hash:=LU w prog
 draws:=fun x=>x.1.2.length+x.2.2.length+7
 room:=fun A=>A.units+12<cLine
 inj:=fun hx hy=>hx.one hy
 keeps:=fun hx ho hd hs=>hx.kp ho hd hs
 pyHash:=fun hu hk h=>OK hu hk h
 eqBool:=fun hu hx hy h=>Vr hu hx hy h
 quiet:=fun hk h=>LV hk h
def qx:KH (bA×bA) where
 knd:=Sa
 on:=fun K H x a=>∃b c,bH K H a [.ref b,.ref c]/\Y6 K H x.1 b/\Y6 K H x.2 c
 up:=fun t ⟨b,c,h1,h2,h3⟩=>⟨b,c,t _ _ h1,qi.up t h2,qi.up t h3⟩
 of:=fun {X pins G H s x a} I ⟨b,c,h1,h2,h3⟩=>by
  obtain⟨i1,r1,⟨o1,e1,c1,n1,d1⟩,_⟩:=I.tuple h1;obtain⟨u1,u2,rfl,q1,q2⟩:=vals2 r1;cases (show u1=yac b from q1);cases (show u2=yac c from q2);exact⟨o1,n1,b,c,e1,c1,d1,qi.of I h2,qi.of I h3⟩
 room:=fun {P w A} h=>by show A.units+1+12<cLine;lia
end L2
namespace L3
open PG
open PySem PyProof.Rows
def t8 (h h':yaf):Prop:=∀b o,h.get? b=some o->o.cls=.type "tuple"->h'.get? b=some o
noncomputable def ua {Y:Type} [DecidableEq Y] (xs:List (Y×zdF×zdG))(r:List (zdF×Y×zdF×zdG)):List (Y×zdF×zdG):=r.foldl (fun acc q=>storedH acc q.2.1 q.2.2.1 q.2.2.2) xs
theorem Cw{Y:Type}[DecidableEq Y](xs:List (Y×zdF×zdG))(k:Y)(a:zdF)(v:zdG):(storedH xs k a v).length<=xs.length+1:=by
 unfold storedH;split<;>simp
section
variable{prog:zdR}{w:zdH}{A:zdQ}{E:zdG->zdP->Prop}{Y:Type}[DecidableEq Y]{knd:HeapKind prog w Y}
theorem wU(kp:∀(h h':yaf)(x:Y)(a:zdF),knd.is h x a->t8 h h'->knd.is h' x a)(hd:h.DictOfH knd d xs)(t:t8 h h')(e:∀o,h.get? d=some o->h'.get? d=some o):h'.DictOfH knd d xs:=by
 obtain⟨o,es,ep,ho,hc,hd,he,his,hn⟩:=hd;exact⟨o,es,ep,e _ ho,hc,hd,he,fun x hx=>kp _ _ _ _ (his x hx) t,hn⟩
theorem zP(kp:∀(h h':yaf)(x:Y)(a:zdF),knd.is h x a->t8 h h'->knd.is h' x a)(d it l:zdF)(items:Array zdG)(res:zdG)(hA:A.handled=none)(Ek:it≠d)(hu:knd.room A.in1):∀(r:List (zdF×Y×zdF×zdG))(i:Nat)(j:Int)(u:Tok)(xs:List (Y×zdF×zdG))(s:zdP),
 items.toList.drop i=r.map (fun q=>yac q.1)->(∀q∈r,s.heap.IsTuple q.1 #[.ref q.2.2.1,q.2.2.2]/\knd.is s.heap q.2.1 q.2.2.1)->s.heap.IsListIter it l i->s.heap.IsList l items->s.heap.DictOfH knd d xs->xs.length+r.length<=zdN->
 (∀h' tk,h'.DictOfH knd d (ua xs r)->(∀b o,b≠d->b≠it->s.heap.get? b=some o->h'.get? b=some o)->R (.ok (.ret res)) {s with heap:=h',toks:=tk})->
 codeAny (model prog w) A (.builtin "dict.update.loop" ⟨[.ref d,.ref it,.int j u,res],[]⟩) R s
 |[],i,j,u,xs,s,hi,hp,hit,hl,hd,hz,hR=>by
  refine yat i3 ?_;rw[yaq cX _];show yab _ A.in1 (yaR (.ref it) >>= _) _ _ s;refine zdI (ybA hA hit hl (by rw[<- zaB];rw[za8] at hi;exact zbk (zca.mp hi)) fun h' ext=>?_);show yab _ _ (ybn d [] >>= _) _ _ _;refine zdI (zdJ (zdJ (hR h' s.toks ?_ fun b o _ h2 e=>?_)))
  .refine wU kp hd (fun b o e c=>ext b o (fun z=>?_) e) fun o ho=>ext d o Ek.symm ho;obtain⟨oi,Ep,K9,_⟩:=hit;rw[z,Ep] at e;cases e;rw[K9] at c;exact ybX (yal c) (by decide)
  .exact ext b o h2 e
 |q::r,i,j,u,xs,s,hi,hp,hit,hl,hd,hz,hR=>by
  have hx:items[i]?=some (yac q.1):=by
   rw[<- zaB,<- zb1,hi];rfl
  refine yat i3 ?_;rw[yaq cX _];show yab _ A.in1 (yaR (.ref it) >>= _) _ _ s;refine zdI (ybv hit hl hx fun h' KQ sb=>?_);have t1:t8 s.heap h':=fun b o e c=>(sb.2 b fun z=>by
   obtain⟨oi,Ep,K9,_⟩:=hit;rw[z,Ep] at e;cases e;rw[K9] at c;exact ybX (yal c) (by decide)).trans e
  obtain⟨⟨oq,UW,Tj,nq,YQ⟩,kq⟩:=hp q (zao ..);have La:h'.get? q.1=some oq:=t1 _ _ UW Tj;have BN:h'.DictOfH knd d xs:=wU kp hd t1 fun o ho=>(sb.2 d Ek.symm).trans ho;show yab _ A.in1 (holding [yac q.1] _ >>= _) _ _ _;refine zdI (zdK (zdI (wpAny_tryCatch ?_)));unfold ybw;refine zdI (ya4 (T:="tuple") ⟨oq,La,Tj⟩ ?_);rw[ybS (by decide)];refine zdI (yak (s:={s with heap:=h' }) La YQ (zdJ ?_));show yab _ A.in1 (holding [yac q.2.2.1,q.2.2.2] (dictSet d (.ref q.2.2.1) q.2.2.2)) _ _ _;have Xh:xs.length<=zdN:=by simp only[zaq] at hz;lia
  refine zdK (wpAny_dictSet_heap (s:={s with heap:=h' }) hu (kp _ _ _ _ kq t1) BN (fun h2 hd2 Jn=>?_) Xh);have t2:t8 h' h2:=fun b o e c=>(Jn.2 b fun z=>by
   obtain⟨od,_,_,RQ,hex,_⟩:=BN;rw[z,RQ] at e;cases e;rw[hex.1] at c;exact ybX (yal c) (by decide)).trans e
  refine zdJ ⟨plainId_quiet cX _,?_⟩;refine zP kp d it l items res hA Ek hu r (i+1) (j+1) _ _ _ ?_ (fun p UX=>?_) ?_ ?_ hd2 ?_ fun h3 tk UY keep=>hR h3 tk UY fun b o n1 n2 e=>keep b o n1 n2 ?_
  .rw[<- zb8,hi];rfl
  .obtain⟨⟨op,RO,RP,rest⟩,kpp⟩:=hp p (zag _ UX);exact⟨⟨op,t2 _ _ (t1 _ _ RO RP) RP,RP,rest⟩,kp _ _ _ _ (kp _ _ _ _ kpp t1) t2⟩
  .obtain⟨oi,Ep,rest⟩:=KQ;exact⟨oi,(Jn.2 _ Ek).trans Ep,rest⟩
  .obtain⟨ol,Lb,Nl,nl,RR⟩:=hl;have n1:l≠it:=fun z=>by
    obtain⟨oi,Ep,K9,_⟩:=hit;rw[z,Ep] at Lb;cases Lb;rw[K9] at Nl;exact ybX (yal Nl) (by decide)
   have n2:l≠d:=fun z=>by
    obtain⟨od,_,_,RQ,_,KN,_⟩:=hd;rw[z,RQ] at Lb;cases Lb;rw[KN] at RR;cases RR
   exact⟨ol,(Jn.2 _ n2).trans ((sb.2 _ n1).trans Lb),Nl,nl,RR⟩
  .have:=Cw xs q.2.1 q.2.2.1 q.2.2.2;simp only[zaq] at hz;lia
  .exact(Jn.2 _ n1).trans ((sb.2 _ n2).trans e)
theorem EK(kp:∀(h h':yaf) (x:Y) (a:zdF),knd.is h x a->t8 h h'->knd.is h' x a)(l:zdF)(hA:A.handled=none)(hu:knd.room A.in1.in1)(r:List (zdF×Y×zdF×zdG))(hx:s.heap.get? l=some ⟨.type "list",none,.seq items n,sl⟩)
 (hi:items.toList=r.map (fun q=>yac q.1)) (hp:∀q∈r,s.heap.IsTuple q.1 #[.ref q.2.2.1,q.2.2.2]/\knd.is s.heap q.2.1 q.2.2.1) (hz:r.length<=zdN)
 (h:∀h' tk,h'.DictOfH knd s.heap.objs.size (ua [] r)->(∀b o,s.heap.get? b=some o->h'.get? b=some o)->Q (.ref s.heap.objs.size) {s with heap:=h',toks:=tk}) :
 yab (model prog w) A (call (.type "dict") [.ref l]) Q E s:=by
 refine callType_codes (Q₁:=fun obj s₁=>obj=.ref s.heap.objs.size/\s₁={s with heap:=s.heap.push {cls:=.type "dict",data:=.dict #[]} }) F.kt_called_dict (ybC _) F.entry_dict_init (kt_code_dict_new _ ⟨rfl,rfl⟩) ?_
 rintro obj s₁ ⟨rfl,rfl⟩
 have xq:(s.heap.push {cls:=.type "dict",data:=.dict #[]}).DictOfH knd s.heap.objs.size []:=Heap.DictOfH.new s.heap;have iT:∀b o,s.heap.get? b=some o->(s.heap.push {cls:=.type "dict",data:=.dict #[]}).get? b=some o:=fun b o e=>yaa _ e;refine⟨xq.typeIs,F.args_dict_init_2 _ _,?_⟩;unfold Builtin.«dict.__init__»;refine zdI ?_;unfold ybo;refine zdI (ybd xq.typeIs ?_);show yab _ _ (pure (s.heap.objs.size,[yac l])) _ _ _;refine zdJ ?_;show yab _ _ (yaE "dict.__init__" s.heap.objs.size (.ref l) [] .none) _ _ _;unfold yaE;refine zdI (ya4 (T:="list") ⟨_,iT _ _ hx,rfl⟩ ?_);rw[ybS (by decide)];refine zdI (zF (n:=n) (sl:=sl) l (iT _ _ hx) hA fun h2 Qh ia=>?_);rw[ybS (show (none:Option zdG).isNone=true from rfl)];refine zdI (ybg ?_);have Rv:h2.IsList l items:=⟨_,ia _ _ (iT _ _ hx),rfl,n,rfl⟩
 have hd2:h2.DictOfH knd s.heap.objs.size []:=wU kp xq (fun b o e _=>ia b o e) fun o e=>ia _ _ e;refine zdI (yaF (s:={s with heap:=h2,toks:=Qh}) Rv ?_);have pH:∀b o,h2.get? b=some o->(h2.push {cls:=.type "list_iterator",data:=.fields #[.ref l,.int 0 0]}).get? b=some o:=fun b o e=>yaa _ e;have nd:h2.objs.size≠s.heap.objs.size:=by
  obtain⟨o,es,ep,ho,_⟩:=hd2;exact fun e=>ybX (yad ho) (by rw[e];exact zaO _)
 refine zdJ ⟨plainId_quiet cX _,?_⟩;refine zP (A:=A.in1) kp s.heap.objs.size h2.objs.size l items .none hA nd hu r 0 0 _ [] _ (by simpa using hi) (fun q hq=>?_) ⟨_,yae _ rfl,rfl,rfl⟩ ?_ ?_ (by simpa using hz) fun h4 RS UZ xr=>?_
 .obtain⟨⟨o,ho,rest⟩,kq⟩:=hp q hq;exact⟨⟨o,pH _ _ (ia _ _ (iT _ _ ho)),rest⟩,kp _ _ _ _ kq fun b o e _=>pH _ _ (ia _ _ (iT _ _ e))⟩
 .obtain⟨o,ho,rest⟩:=Rv;exact⟨o,pH _ _ ho,rest⟩
 .exact wU kp hd2 (fun b o e _=>pH b o e) fun o e=>pH _ _ e
 .refine⟨rfl,h h4 RS UZ fun b o e=>xr b o (fun z=>?_) (fun z=>?_) (pH _ _ (ia _ _ (iT _ _ e)))⟩
  .rw[z] at e;exact ybX (yad e) (zaO _)
  .have:=yad (ia _ _ (iT _ _ e));rw[z] at this;exact ybX this (zaO _)
end
end L3
namespace L2
open PG
open PySem PyProof.Rows
theorem LW{x:bA}(hx:jF P w h x a)(t:L3.t8 h h'):jF P w h' x a:=by
 obtain⟨o,n,u,b,e,c,d,i,o2,bc,n2,e2,c2,d2,it⟩:=hx;exact⟨o,n,u,b,t _ _ e c,c,d,i,o2,bc,n2,t _ _ e2 c2,c2,d2,it⟩
theorem Sb(hx:oZ P w h x a)(t:L3.t8 h h'):oZ P w h' x a:=by
 obtain⟨o,n,b,c,e,k,d,i,j⟩:=hx;exact⟨o,n,b,c,t _ _ e k,k,d,LW i t,LW j t⟩
section
variable{Y:Type}[DecidableEq Y]
def nJ (aB more:List (Y×V)):List (Y×V):=more.foldl (fun acc kv=>putK acc kv.1 kv.2) aB
theorem xI(more:List (Y×V)):∀(aB:List (Y×V)),(nJ aB more).length<=aB.length+more.length:=by
 induction more with
 |nil=>intro aB;exact zah _
 |cons kv r ih=>
  intro aB;have h1:=ih (putK aB kv.1 kv.2);have h2:=jA aB kv.1 kv.2;show (nJ (putK aB kv.1 kv.2) r).length<=_;rw[zaq];lia
theorem EL(kp:∀(h h':yaf) (x:Y) (a:zdF),(J.knd X.prog X.w).is h x a->L3.t8 h h'->(J.knd X.prog X.w).is h' x a)(hc:X.calm=true)(hu:X.A.units+64<cLine):kK X (.type "dict") (fun xs H Q=>∃(a:zdF) (ps:List (zdF×Y×zdF×V)),xs=[.ref a]/\iR X.K H a (ps.map fun q=>V.ref q.1)/\(∀q∈ps,bH X.K H q.1 [.ref q.2.2.1,q.2.2.2]/\J.on X.K H q.2.1 q.2.2.1)/\ps.length<=zdN/\
 ∀p H',H p=none->(∃φ,H'=upd H p (.ext φ))->DS J X.prog X.w X.K H' p (nJ [] (ps.map fun q=>(q.2.1,q.2.2.2)))->Q (.ref p) H'):=by
 intro pins s G H xs us Q I r h;obtain⟨a,ps,rfl,ha,hp,hz,q⟩:=h;obtain⟨u,rfl,ru⟩:=vals1 r;cases (show u=yac a from ru);obtain⟨bc,v1,t1,_⟩:=I.list ha;obtain⟨⟨cls,dct,dat,sl⟩,n,e1,U0,RT,Qi⟩:=t1;simp only at U0 RT Qi;subst U0 RT Qi;have mk:∀(l:List (zdF×Y×zdF×V)) (us:List zdG),Vals (l.map fun q=>V.ref q.1) us->(∀q∈l,bH X.K H q.1 [.ref q.2.2.1,q.2.2.2]/\J.on X.K H q.2.1 q.2.2.1)->∃r:List (zdF×Y×zdF×zdG),us=r.map (fun q=>yac q.1)/\r.length=l.length/\
  (∀q∈r,s.heap.IsTuple q.1 #[.ref q.2.2.1,q.2.2.2]/\(J.knd X.prog X.w).is s.heap q.2.1 q.2.2.1)/\yao (fun (p:zdF×Y×zdF×V) (q:zdF×Y×zdF×zdG)=>p.2.1=q.2.1/\J.on X.K H p.2.1 q.2.2.1/\RelV p.2.2.2 q.2.2.2) l r:=by
  intro l
  induction l with
  |nil=>intro us v _;cases v;exact⟨[],rfl,rfl,fun _ z=>(by cases z),.nil⟩
  |cons x l ih=>
   intro us v hp;rw[zas] at v;cases v with
   |cons v1 v2=>
    obtain⟨r,e,lr,hr,kv⟩:=ih _ v2 (fun q hq=>hp q (zag _ hq));obtain⟨Xi,Sd⟩:=hp x (zao ..);obtain⟨oW,w1,tu,_⟩:=I.tuple Xi;obtain⟨ku,vu,rfl,rk,rv⟩:=vals2 w1;cases v1;cases (show ku=yac x.2.2.1 from rk);refine⟨(x.1,x.2.1,x.2.2.1,vu)::r,by rw[e];rfl,by simp[lr],fun q hq=>?_,.cons ⟨rfl,Sd,rv⟩ kv⟩;rcases zak.mp hq with rfl |hq
    .exact⟨tu,J.of I Sd⟩
    .exact hr q hq
 obtain⟨r',er,lr,hr,kv⟩:=mk ps bc v1 hp;refine L3.EK kp a (I.ok.hd hc) (J.room (A:=X.A.in1) (by show X.A.units+1+16<cLine;lia)) r' e1 (by simpa using er) hr (by lia) fun h' tk dd keep=>?_;have hn:=I.bS.fresh (zah s.heap.objs.size);have hb:(s.heap.objs.size==yar)=false:=beq_eq_false_iff_ne.mpr (Ne.symm (zaz I.big));obtain⟨o,es,ep,ho,hx,hd,he,_,nd⟩:=dd;have ks:∀(l:List (zdF×Y×zdF×V)) (r:List (zdF×Y×zdF×zdG)) (aB:List (Y×V)) (xs:List (Y×zdF×zdG)),yao (fun (p:zdF×Y×zdF×V) (q:zdF×Y×zdF×zdG)=>p.2.1=q.2.1/\J.on X.K H p.2.1 q.2.2.1/\RelV p.2.2.2 q.2.2.2) l r->KS J X.K H aB xs->KS J X.K H (nJ aB (l.map fun q=>(q.2.1,q.2.2.2))) (L3.ua xs r):=by
  intro l r aB xs hp
  induction hp generalizing aB xs with
  |nil=>exact id
  |@cons p q ps qs h t ih=>
   intro k;refine ih _ _ ?_;show KS J X.K H (putK aB p.2.1 p.2.2.2) (storedH xs q.2.1 q.2.2.1 q.2.2.2);rw[<- h.1];exact k.put _ h.2.1 h.2.2
 have k0:=ks ps r' [] [] kv .nil;have ph:iA J X.prog X.w s.heap.objs.size (L3.ua [] r') h':=⟨o,es,ep,ho,hx,hd,he⟩
 refine⟨.ref s.heap.objs.size,_,I.laid (o:=.ext (iA J X.prog X.w s.heap.objs.size (L3.ua [] r'))) keep (zah _) ⟨ph,⟨o,ho⟩,fun g1 g2 p1 kp2=>?_⟩,rfl,q _ _ hn ⟨_,rfl⟩ ⟨?_,hb,_,ah,k0.up fun b ys q=>(ar.new hn _).cO q,nd⟩⟩
 .obtain⟨ob,es,ep,h1,h2,h3,h4⟩:=p1;exact⟨ob,es,ep,kp2 ob h1,h2,h3,h4⟩
 .have h1:=xI (ps.map fun q=>(q.2.1,q.2.2.2)) [];rw[zbI,zac] at h1;lia
end
end L2
namespace L4
open PG
open PySem PyProof.Rows L3
section
variable{prog:zdR}{w:zdH}{A:zdQ}{E:zdG->zdP->Prop}{s:zdP}
abbrev Vs (h:yaf) (S:zdF) (acc:Array zdG) (c:Nat):Prop:=h.get? S=some {cls:=.type "list",dict:=none,data:=.seq acc c,slots:=#[]}
theorem Gq(S z ti to j1 j2 l tp:zdF)(xs ys:Array zdG)(Z2:Nm prog w j2 tp ys I2)(res:zdG)(hA:A.handled=none)(ap:Ov z ti to j1 j2 l tp)(n1:S≠l)(n2:S≠tp)(n3:S≠to):∀(r:List (zdG×zdG))(i:Nat)(acc:Array zdG)(c:Nat)(s:zdP),
 xs.toList.drop i=r.map (·.1)->ys.toList.drop i=r.map (·.2)->Ih s.heap z ti to j1 j2 l tp xs I2 i->Vs s.heap S acc c->acc.size+r.length<=zdN->(to:Nat)<s.heap.objs.size->
 (∀h' tk c' (as:List zdF),as.length=r.length->(∀a∈as,(s.heap.objs.size:Nat)<=a)->as.Pairwise (· < ·)->Vs h' S (acc++(as.map yac).toArray) c'->(∀(k:Nat) a q,as[k]?=some a->r[k]?=some q->IsPair h' a q.1 q.2)->(∀b o,b≠S->b≠z->b≠to->b≠j1->b≠j2->s.heap.get? b=some o->h'.get? b=some o)->R (.ok (.ret res)) {s with heap:=h',toks:=tk})->
 codeAny (model prog w) A (.builtin "list.extend.loop" ⟨[.ref S,.ref z,res],[]⟩) R s
 |[],i,acc,c,s,hi,hk,st,hS,hz,_,hR=>by
  obtain⟨oz,gz,cz⟩:∃o,s.heap.get? z=some o/\o.cls=.type "zip":=by
   rcases st.zip with ⟨a,b,hz,_⟩ |⟨T,u,a,b,g,hz,_⟩
   .exact⟨_,hz,rfl⟩
   .exact⟨_,hz,rfl⟩
  obtain⟨o1,g1,c1,_⟩:=st.Jo;refine yat F.entry_extend_loop ?_;rw[yaq F.plain_extend_loop _];show yab _ A.in1 (yaR (.ref z) >>= _) _ _ s;refine zdI (F5 hA ap st (by rw[<- zaB];rw[za8] at hi;exact zbk (zca.mp hi)) fun h' kp=>?_);refine zdJ (hR h' s.toks c [] rfl (fun _ z=>by cases z) .nil ?_ (fun k a q e=>by cases e) fun b o _ m1 _ m3 _ e=>kp b o m1 m3 e);have:=kp _ _ (fL hS gz rfl cz (by decide)) (fL hS g1 rfl c1 (by decide)) hS;simpa using this
 |q::r,i,acc,c,s,hi,hk,st,hS,hz,Ow,hR=>by
  have hx:xs[i]?=some q.1:=by
   rw[<- zaB,<- zb1,hi];rfl
  have hy:ys[i]?=some q.2:=by
   rw[<- zaB,<- zb1,hk];rfl
  obtain⟨oz,gz,cz⟩:∃o,s.heap.get? z=some o/\o.cls=.type "zip":=by
   rcases st.zip with ⟨a,b,hz,_⟩ |⟨T,u,a,b,g,hz,_⟩
   .exact⟨_,hz,rfl⟩
   .exact⟨_,hz,rfl⟩
  obtain⟨o1,g1,c1,_⟩:=st.Jo;obtain⟨o2,Xb,g2,c2,_,Vf,_⟩:=Z2.cj st.Lg;have sz:S≠z:=fL hS gz rfl cz (by decide);have s1:S≠j1:=fL hS g1 rfl c1 (by decide);have s2:S≠j2:=fL hS g2 rfl c2 (Ne.symm Vf);refine yat F.entry_extend_loop ?_;rw[yaq F.plain_extend_loop _];show yab _ A.in1 (yaR (.ref z) >>= _) _ _ s;refine zdI (Cf Z2 ap st hx hy fun h' BB pr kp=>?_);have Zo:Vs h' S acc c:=kp _ _ sz n3 s1 s2 hS;show yab _ A.in1 (updateSeq S (·.push (.ref s.heap.objs.size)) >>= _) _ _ _;refine zdI ?_;have lz:acc.size+r.length+1<=zdN:=by simp only[zaq] at hz;lia
  have nS:S≠s.heap.objs.size:=zaz (yad hS);refine ybE Zo rfl (zdJ ⟨plainId_quiet F.plain_extend_loop _,?_⟩) (by lia) (by show (acc.push _).size<=zdN+1;rw[Array.size_push];lia);have Tq:∀b o,b≠S->h'.get? b=some o->(h'.update S (yaY (·.push (.ref s.heap.objs.size)))).get? b=some o:=fun b o hb e=>(yaH _ _ (Ne.symm hb)).trans e;refine Gq S z ti to j1 j2 l tp xs ys Z2 res hA ap n1 n2 n3 r (i+1) (acc.push (.ref s.heap.objs.size)) _ _ ?_ ?_ (BB.but (P:=(·≠S)) Z2 (fun a o n e=>Tq a o n e) n1.symm n2.symm fun a o c e hc m1 _ w=>by rw[w,Zo] at e;cases e;exact m1 (yal hc).symm) (yaz _ Zo rfl) (by rw[Array.size_push];lia) (zbH Ow (yad (Tq _ _ nS.symm pr))) fun h3 tk c' as la lo pw ha hp keep=>hR h3 tk c' (s.heap.objs.size::as) (by simp[la]) (fun a ha=>?_) (.cons (fun a ha=>zat (yad (Tq _ _ nS.symm pr)) (lo a ha)) pw) ?_ (fun k a q' e1 e2=>?_) fun b o m1 m2 m3 m4 m5 e=>keep b o m1 m2 m3 m4 m5 (Tq b o m1 (kp b o m2 m3 m4 m5 e))
  .rw[<- zb8,hi];rfl
  .rw[<- zb8,hk];rfl
  .rcases zak.mp ha with rfl |ha
   .exact zah _
   .exact zbw (zat (yad (Tq _ _ nS.symm pr)) (lo a ha))
  .have e:acc++(List.map yac (s.heap.objs.size::as)).toArray=acc.push (.ref s.heap.objs.size)++(as.map yac).toArray:=by
    apply Array.toList_inj.mp
    simp
   rw[e];exact ha
  .cases k with
   |zero=>
    cases e1;cases e2;have nz:(s.heap.objs.size:Nat)≠z:=zaW (yad gz);have nj1:(s.heap.objs.size:Nat)≠j1:=zaW (yad g1);have nj2:(s.heap.objs.size:Nat)≠j2:=zaW (yad g2);have Zp:(s.heap.objs.size:Nat)≠to:=zaW Ow;exact keep _ _ nS.symm nz Zp nj1 nj2 (Tq _ _ nS.symm pr)
   |succ k=>exact hp k a q' e1 e2
abbrev Xj (h:yaf) (l tp:zdF):yaf:=(zA h l).push {cls:=.type "list_iterator",data:=.fields #[.ref tp,.int 0 0]}
abbrev Xk (h:yaf) (l tp:zdF):yaf:=(Xj h l tp).push {cls:=.type "tuple",data:=.seq #[.ref h.objs.size,.ref (zA h l).objs.size]}
abbrev Xl (h:yaf) (l tp:zdF):yaf:=(Xk h l tp).push {cls:=.type "tuple",data:=.seq #[.none,.none]}
abbrev Se (h:yaf) (l tp:zdF):yaf:=(Xl h l tp).push {cls:=.type "zip",data:=.fields #[.none,.bool false,.bool false,.ref (Xj h l tp).objs.size,.ref (Xk h l tp).objs.size]}
theorem OL:typeLookup (.type "zip") "__len__"=pure none:=by rw[typeLookup_type,yaL];kernel_rfl
theorem LX:typeLookup (.type "zip") "__length_hint__"=pure none:=by rw[typeLookup_type,yaL];kernel_rfl
theorem LY(hT:s.TypeIs (.ref z) "zip")(h:Q true s):yab (model prog w) A (ybO (.ref z)) Q E s:=by
 have f1:=OL;have f2:=LX;unfold ybO
 repeat (any_goals (first |assumption |wp_step))
theorem LZ(z ti to j1 j2 l tp:zdF)(Z2:Nm prog w j2 tp ys I2)(hA:A.handled=none)(ap:Ov z ti to j1 j2 l tp)(st:Ih s.heap z ti to j1 j2 l tp xs I2 0)(gz:yz s.heap z ti to .none (.bool false))(r:List (zdG×zdG))
 (hi:xs.toList=r.map (·.1)) (hk:ys.toList=r.map (·.2)) (hz:r.length<=zdN) (Ow:to<s.heap.objs.size)
 (h:∀h' tk c' (as:List zdF),as.length=r.length->(∀a∈as,(s.heap.objs.size:Nat)<a)->as.Pairwise (· < ·)->Vs h' s.heap.objs.size (as.map yac).toArray c'->(∀(k:Nat) a q,as[k]?=some a->r[k]?=some q->IsPair h' a q.1 q.2)->(∀b o,b≠z->b≠to->b≠j1->b≠j2->s.heap.get? b=some o->h'.get? b=some o)->Q (.ref s.heap.objs.size) {s with heap:=h',toks:=tk}) :
 yab (model prog w) A (call (.type "list") [.ref z]) Q E s:=by
 refine callType_codes (Q₁:=fun obj s₁=>obj=.ref s.heap.objs.size/\s₁={s with heap:=s.heap.push {cls:=.type "list",data:=.seq #[]} }) PySem.F.called_list (PySem.F.typeCall_list_1 _) PySem.F.entry_list_init
  (code_list_new _ ⟨rfl,rfl⟩) fun obj s₁ h₁=>?_
 obtain⟨rfl,rfl⟩:=h₁;have hS:(s.heap.push {cls:=.type "list",data:=.seq #[]}).get? s.heap.objs.size=some {cls:=.type "list",data:=.seq #[]}:=yae _ rfl;have up:∀b o,s.heap.get? b=some o->(s.heap.push {cls:=.type "list",data:=.seq #[]}).get? b=some o:=fun b o e=>yaa _ e;refine⟨⟨_,hS,rfl⟩,PySem.F.args_list_init_2 _ _,?_⟩;obtain⟨ol,gl,cl,_⟩:=st.ls;obtain⟨ot,_,gt,ct,_⟩:=Z2.ct st.Lg;have nl:(s.heap.objs.size:Nat)≠l:=zaW (yad gl);have nt:(s.heap.objs.size:Nat)≠tp:=zaW (yad gt);have Zp:(s.heap.objs.size:Nat)≠to:=zaW Ow;have nz:(s.heap.objs.size:Nat)≠z:=zaW (yad gz);show yab _ _ (do let old <- Builtin.List.listItems (.ref s.heap.objs.size);Builtin.List.listUpdate (.ref s.heap.objs.size) (fun _=>#[]);letGo old.toList.reverse;ybf (.ref s.heap.objs.size) (.ref z) .none) _ _ _;refine zdI ?_;unfold Builtin.List.listItems;refine zdI (yak hS rfl (zdJ ?_));show yab _ _ (updateSeq s.heap.objs.size (fun _=>#[]) >>= fun _=>letGo (#[]:Array zdG).toList.reverse >>= fun _=>ybf (.ref s.heap.objs.size) (.ref z) .none) _ _ _;refine zdI (ybE hS rfl ?_);have Qs:=yaz (yaY (fun _=>(#[]:Array zdG))) hS rfl;have k2:∀b o,s.heap.get? b=some o->((s.heap.push {cls:=.type "list",data:=.seq #[]}).update s.heap.objs.size (yaY (fun _=>(#[]:Array zdG)))).get? b=some o:=fun b o e=>(yaH _ _ (zaW (yad e))).trans (up b o e);refine zdI (wpAny_letGo ?_);have key:∀(h1:yaf) (tk c₁:Nat),(∀b o,s.heap.get? b=some o->h1.get? b=some o)->Vs h1 s.heap.objs.size #[] c₁->codeAny (model prog w) A.in1 (.builtin "list.extend.loop" ⟨[.ref s.heap.objs.size,.ref z,.none],[]⟩) (wants (fun r s₂=>r=yaA/\Q (.ref s.heap.objs.size) s₂) E) {s with heap:=h1,toks:=tk}:=by
  intro h1 tk c₁ k1 Sf;refine Gq (A:=A.in1) s.heap.objs.size z ti to j1 j2 l tp xs ys Z2 .none hA ap nl nt Zp r 0 #[] c₁ _ (by simpa using hi) (by simpa using hk) ?_ Sf (by simpa using hz) (zbH Ow (yad Sf)) fun h4 RS c4 as la lo pw ha hp xr=>⟨rfl,h h4 RS c4 as la (fun a ha=>zat (yad Sf) (lo a ha)) pw (by simpa using ha) hp fun b o m1 m2 m3 m4 e=>xr b o (zaz (yad e)) m1 m2 m3 m4 (k1 b o e)⟩
  refine⟨?_,k1 _ _ st.ins,?_,Z2.kp st.Lg fun b o _ e=>k1 _ _ e,?_⟩
  .rcases st.zip with ⟨a,b,e1,e2⟩ |⟨T,u,a,b,g,e1,e2⟩
   .exact .inl ⟨a,b,k1 _ _ e1,k1 _ _ e2⟩
   .exact .inr ⟨T,u,a,b,g,k1 _ _ e1,k1 _ _ e2⟩
  .obtain⟨o,go,rest⟩:=st.Jo;exact⟨o,k1 _ _ go,rest⟩
  .obtain⟨o,go,rest⟩:=st.ls;exact⟨o,k1 _ _ go,rest⟩
 unfold ybf;refine zdI (ya4 (T:="zip") ⟨_,k2 _ _ gz,rfl⟩ ?_);have h1:Builtin.List.listSameRef (.ref s.heap.objs.size) (.ref z)=false:=by simp[Builtin.List.listSameRef,nz]
 have nL:(ya8 "zip"==ya8 "list")=false:=by decide
 have nT:(ya8 "zip"==ya8 "tuple")=false:=by decide
 simp only[h1,nL,nT,Bool.or_false,zau,if_false];refine zdI (wpAny_pyIter_zip (k2 _ _ gz) ?_);refine zdI (zdK (LY ⟨_,k2 _ _ gz,rfl⟩ ?_));refine wpAny_ite_split (fun _=>?_) (fun BD=>ybX rfl BD);refine zdI (ybg ?_);refine zdI ?_;show yab _ _ (updateSeq s.heap.objs.size (·.push .none) >>= fun _=>updateSeq s.heap.objs.size (·.pop)) _ _ _;refine zdI (ybE Qs rfl ?_);have Qt:=yaz (yaY (·.push yaA)) Qs rfl;refine ybE (hz:=by seq_fits) Qt rfl ?_;have Vt:=yaz (yaY (·.pop)) Qt rfl;refine zdJ ⟨plainId_quiet PySem.F.plain_extend_loop _,key _ _ _ (fun b o e=>?_) Vt⟩;have nb:(s.heap.objs.size:Nat)≠b:=zaW (yad e);exact(yaH _ _ nb).trans ((yaH _ _ nb).trans (k2 b o e))
theorem Iw(l tp:zdF)(xs ys:Array zdG):Meets (Builtin.«zip.__new__» ⟨[.type "zip",.ref l,.ref tp],[]⟩) (fun _ R s=>s.heap.IsList l xs/\s.heap.IsList tp ys/\R (.ok (.ret (.ref (Xl s.heap l tp).objs.size))) {s with heap:=Se s.heap l tp}):=
 .of_wp fun prog w A R s h=>by
  obtain⟨hp,g,d,tk,os⟩:=s;obtain⟨g1,g2,h⟩:=h;have Vg:=sub_zip;have k1:Heap.IsList (Shared.heap ⟨hp,g,d,tk,os⟩) l xs:=g1;have k2:Heap.IsList (Shared.heap ⟨hp.push {cls:=.type "list_iterator",data:=.fields #[.ref l,.int 0 0]},g,d,tk,os⟩) tp ys:=by
   obtain⟨o,go,rest⟩:=g2;exact⟨o,yaa _ go,rest⟩
  wp_walk using yaF k1,yaF k2
  exact⟨_,rfl,h⟩
theorem EM(hl:s.heap.IsList l xs)(ht:s.heap.IsList tp ys)
 (h:∀h',Ov (s.heap.objs.size+4) (s.heap.objs.size+2) (s.heap.objs.size+3) s.heap.objs.size (s.heap.objs.size+1) l tp->Ih h' (s.heap.objs.size+4) (s.heap.objs.size+2) (s.heap.objs.size+3) s.heap.objs.size (s.heap.objs.size+1) l tp xs (fun h i=>h.IsListIter (s.heap.objs.size+1) tp i/\h.IsList tp ys) 0->
  yz h' (s.heap.objs.size+4) (s.heap.objs.size+2) (s.heap.objs.size+3) .none (.bool false)->(∀c o,s.heap.get? c=some o->h'.get? c=some o)->Q (.ref (s.heap.objs.size+4)) {s with heap:=h' }) :
 yab (model prog w) A (call (.type "zip") [.ref l,.ref tp]) Q E s:=by
 refine callType_new F.called_zip (by decide) (F.typeCall_zip_2 _ _) (F.newCall_zip_2 _ _) (fun obj=>F.args_object_init_3 obj _ _) F.entry_zip_new (Iw l tp xs ys) ⟨hl,ht,?_⟩;have z1:(zA s.heap l).objs.size=s.heap.objs.size+1:=yan ..;have z2:(Xj s.heap l tp).objs.size=s.heap.objs.size+2:=by rw[yan,z1]
 have z3:(Xk s.heap l tp).objs.size=s.heap.objs.size+3:=by rw[yan,z2]
 have z4:(Xl s.heap l tp).objs.size=s.heap.objs.size+4:=by rw[yan,z3]
 have g5:(Se s.heap l tp).get? (Xl s.heap l tp).objs.size=some _:=yae _ rfl;have g4:(Se s.heap l tp).get? (Xk s.heap l tp).objs.size=some _:=yaa _ (yae _ rfl);have g3:(Se s.heap l tp).get? (Xj s.heap l tp).objs.size=some _:=yaa _ (yaa _ (yae _ rfl));have g2:(Se s.heap l tp).get? (zA s.heap l).objs.size=some _:=yaa _ (yaa _ (yaa _ (yae _ rfl)));have g1:(Se s.heap l tp).get? s.heap.objs.size=some _:=yaa _ (yaa _ (yaa _ (yaa _ (yae _ rfl))));have up:∀c o,s.heap.get? c=some o->(Se s.heap l tp).get? c=some o:=fun c o e=>yaa _ (yaa _ (yaa _ (yaa _ (yaa _ e))));show _/\_;rw[z2,z3,z4] at g5;rw[z1,z2] at g3;rw[z3] at g4;rw[z1] at g2;rw[z4];obtain⟨ol,gl,rl⟩:=id hl;obtain⟨ot,gt,rt⟩:=id ht;have ll:=yad gl;have lt:=yad gt;refine⟨⟨_,g5,rfl⟩,h _ (F7 _ _ _ ll lt) ⟨.inl ⟨_,_,g5,g4⟩,g3,⟨_,g1,rfl,rfl⟩,⟨⟨_,g2,rfl,rfl⟩,ot,up _ _ gt,rt⟩,⟨ol,up _ _ gl,rl⟩⟩ g5 up⟩
end
end L4
namespace L2
open PG
open PySem PyProof.Rows
def tLZ (K:zaa)(t:TA):TE:=fun G H Q=>t G H fun xs H1=>∃(a b:zdF) (as bs:List V),xs=[.ref a,.ref b]/\iR K H1 a as/\iR K H1 b bs/\as.length=bs.length/\
 ∀p (ps:List zdF) H',H1 p=none->ar H1 H'->H' p=some (.lst (ps.map V.ref))->ps.length=as.length->(∀(k:Nat) q x y,ps[k]?=some q->as[k]?=some x->bs[k]?=some y->H1 q=none/\H' q=some (.tup [x,y]))->Q (.ref p) H'
theorem jV.new(x:jV P w H h)(hn:H a=none)(new:bZ P w (upd H a o) h a o):jV P w (upd H a o) h:=fun b u q=>by
 by_cases hb:b=a
 .subst hb;rw[ah] at q;cases q;exact new
 .rw[au hb] at q;exact(x b u q).sY (fun c v _ r=>r) (fun c r=>by rw[au (ag r hn)];exact r) fun c xs r=>by rw[au (ag r hn)];exact r
theorem xJ:∀(L:List (zdF×V×V))(H:Hp),jV P w H h->(∀q∈L,H q.1=none/\∃x y,RelV q.2.1 x/\RelV q.2.2 y/\IsTup h q.1 [x,y].toArray)->L.Pairwise (fun p q=>p.1≠q.1)->
 ∃H',ar H H'/\jV P w H' h/\(∀b,(∀q∈L,b≠q.1)->H' b=H b)/\∀q∈L,H' q.1=some (.tup [q.2.1,q.2.2])
 |[],H,x,_,_=>⟨H,ar.refl _,x,fun _ _=>rfl,fun _ z=>by cases z⟩
 |q::L,H,x,hq,pw=>by
  obtain⟨hn,u,v,ru,rv,it⟩:=hq q (zao ..);rw[zbv] at pw;have line:zdN=2 ^ 24:=rfl;have x1:jV P w (upd H q.1 (.tup [q.2.1,q.2.2])) h:=x.new hn (show bZ P w _ _ _ (.tup [q.2.1,q.2.2]) from ⟨by show 2<=zdN;lia,[u,v],.cons ru (.cons rv .nil),it⟩);obtain⟨H',s,x2,k,t⟩:=xJ L _ x1 (fun p hp=>⟨by rw[au (pw.1 p hp).symm];exact(hq p (zag _ hp)).1,(hq p (zag _ hp)).2⟩) pw.2;refine⟨H',(ar.new hn _).trans s,x2,fun b hb=>?_,fun p hp=>?_⟩
  .rw[k b fun z hz=>hb z (zag _ hz),au (hb q (zao ..))]
  .rcases zak.mp hp with rfl |hp
   .exact s _ _ ah
   .exact t p hp
theorem EN(hc:X.calm=true){p1 p2 Lm vo:Pos}(To:Gl X "list")(Ox:X.mg "list"=none)(YZ:Gl X "zip")(Qk:X.mg "zip"=none)(ha:PA X [ea,eb] t)
 (he:zdL [ea,eb] X.env=(false,eval ea X.env)::zdL [eb] X.env:=by rfl) (vQ:(backTo vo (zdL [eb] X.env)).any (·.1)=false:=by rfl)
 (RK:zdL [.Call (.Name "zip" p2) [ea,eb] [] vo] X.env=(false,eval (.Call (.Name "zip" p2) [ea,eb] [] vo) X.env)::zdL [] X.env:=by rfl) :
 PE X (.Call (.Name "list" p1) [.Call (.Name "zip" p2) [ea,eb] [] vo] [] Lm) (tLZ X.K t):=by
 intro pins s G H Q I h;refine yas (m7 I To Ox yb5 ?_ (by decide) (by decide));refine za4 ?_ RK rfl;rw[RK];show yab _ _ (spliced ((false,eval (.Call (.Name "zip" p2) [ea,eb] [] vo) X.env)::backTo Lm (zdL [] X.env))) _ _ s;refine ybN ?_;refine yas (m7 I YZ Qk yca ?_ (by decide) (by decide));refine za4 (fC (ha vo pins s G H _ I h) fun us s1 zqz=>?_) he vQ;obtain⟨xs,H1,I1,r1,q1⟩:=zqz;obtain⟨a,b,as,bs,rfl,Y0,Y1,lk,q⟩:=q1;obtain⟨u1,u2,rfl,Y2,Y3⟩:=vals2 r1;cases (show u1=yac a from Y2);cases (show u2=yac b from Y3);obtain⟨Oy,v1,t1,z1⟩:=I1.list Y0;obtain⟨oW,v2,t2,z2⟩:=I1.list Y1;have l1:=v1.length;have l2:=v2.length;have lz:(Oy.zip oW).length=as.length:=by rw[zbx];lia
 refine L4.EM t1.isList t2.isList fun h' ap st gz keep=>?_;refine Calls.spliced_nil ?_;have big:(s1.heap.objs.size+4:Nat)<h'.objs.size:=yad gz;have hle:s1.heap.objs.size<=h'.objs.size:=by lia
 refine L4.LZ (s:={s1 with heap:=h' }) _ _ _ _ _ a b L3.Oq (I1.ok.hd hc) ap st gz (Oy.zip oW) (by rw[List.map_fst_zip (by lia)]) (by rw[List.map_snd_zip (by lia)]) (by lia) (show (s1.heap.objs.size+3:Nat)<h'.objs.size by lia) fun h2 tk c' ps lp lo pw hS hP ia=>?_;have kp:∀c o,s1.heap.get? c=some o->h2.get? c=some o:=fun c o e=>ia c o (vn _ _ _ (yad e)) (vn _ _ _ (yad e)) (zaz (yad e)) (vn _ _ _ (yad e)) (keep c o e);have hn:=I1.bS.fresh hle;have vps:∀l:List zdF,Vals (l.map V.ref) (l.map yac):=by
  intro l
  induction l with
  |nil=>exact .nil
  |cons x l ih=>exact .cons rfl ih
 have x1:jV X.prog X.w (upd H1 h'.objs.size (.lst (ps.map V.ref))) h2:=I1.bS.laid kp hle (show bZ X.prog X.w _ _ _ (.lst (ps.map V.ref)) from ⟨by rw[zac];lia,ps.map yac,c',vps ps,hS⟩);have hL:∀z∈ps.zip (as.zip bs),upd H1 h'.objs.size (.lst (ps.map V.ref)) z.1=none/\∃x y,RelV z.2.1 x/\RelV z.2.2 y/\IsTup h2 z.1 [x,y].toArray:=fun z hz=>by
  obtain⟨k,hk,ez⟩:=zbQ.mp hz;rw[zbx,zbx] at hk;rw[List.getElem_zip,List.getElem_zip] at ez;subst ez;have lq:=lo _ (zaw (show k<ps.length by lia));have k1:k<as.length:=by lia
  have k2:k<bs.length:=by lia
  have k3:k<ps.length:=by lia
  obtain⟨x,ex,rx⟩:=v1.get (zad k1);obtain⟨y,ey,ry⟩:=v2.get (zad k2);refine⟨?_,x,y,rx,ry,?_⟩
  .show upd H1 h'.objs.size _ ps[k]=none;rw[au (zaW lq)];exact I1.bS.fresh (zax hle (zbw lq))
  .have:=hP k ps[k] (x,y) (zad k3) (by rw[zbR];exact⟨ex,ey⟩);exact⟨_,this,rfl,_,rfl⟩
 have pw2:(ps.zip (as.zip bs)).Pairwise (fun p q=>p.1≠q.1):=by
  have e:(ps.zip (as.zip bs)).map (·.1)=ps:=List.map_fst_zip (by rw[zbx];lia);rw[<- e,zaL] at pw;exact pw.imp fun h=>zaz h
 obtain⟨H',s',x2,k2,t3⟩:=xJ _ _ x1 hL pw2;have far:∀z∈ps.zip (as.zip bs),(s1.heap.objs.size:Nat)<=z.1:=fun z hz=>by
  have:=lo z.1 (zci (a:=z.1) (b:=z.2) hz).1;have h1:(h'.objs.size:Nat)<z.1:=this;lia
 have sH:ar H1 H':=(ar.new hn _).trans s';refine⟨.ref h'.objs.size,H',I1.un (t':=tk) ⟨fun c o e _ _ _=>kp c o e,fun c o e _ _ _=>⟨o.slots,kp c o e⟩,fun c o e n _=>?_,fun c o e _=>⟨o,kp c o e⟩,fun c xs e=>sH _ _ e,fun c o u e=>sH _ _ e,fun c ps e=>⟨#[],by rw[sH _ _ e];simp⟩⟩ x2,rfl,q _ ps H' hn sH (s' _ _ ah) (by lia) fun k p x y e1 e2 e3=>?_⟩
 .have lc:(c:Nat)<s1.heap.objs.size:=yad e;rw[k2 c fun z hz e=>by have:=far z hz;rw[<- e] at this;lia,au (zaz (zat lc hle))];exact n
 .have hz:(p,x,y)∈ps.zip (as.zip bs):=zaD (i:=k) (by rw[zbR];exact⟨e1,by rw[zbR];exact⟨e2,e3⟩⟩);exact⟨I1.bS.fresh (far _ hz),t3 _ hz⟩
open PySem.Spec
theorem Un.out(ha:H a=none)(g:h.get? a=some o)(g3:h3.get? a=some o)(un:Un fs [] (upd H a (cQ a o)) H3 h h3):Un fs [] H (wo H3 a) h h3:=by
 refine⟨fun b ob e n hb hx=>?_,fun b ob e n hb hx=>?_,fun b ob e n hx=>?_,un.there,fun b xs e=>?_,fun b ob x e=>?_,fun b ps e=>?_⟩
 .by_cases z:b=a
  .rw[z] at e |-;rw[g] at e;cases e;exact g3
  .exact un.keep b ob e (by rw[au z];exact n) hb hx
 .by_cases z:b=a
  .rw[z] at e |-;rw[g] at e;cases e;exact⟨o.slots,g3⟩
  .exact un.slot b ob e (by rw[au z];exact n) hb hx
 .by_cases z:b=a
  .rw[z];exact cW
  .rw[bE z];exact un.free b ob e (by rw[au z];exact n) hx
 .have ne:b≠a:=ag e ha;rw[bE ne];exact un.o7 b xs (by rw[au ne];exact e)
 .have ne:b≠a:=ag e ha;rw[bE ne];exact un.oU b ob x (by rw[au ne];exact e)
 .have ne:b≠a:=ag e ha;rw[bE ne];exact un.oV b ps (by rw[au ne];exact e)
theorem o3.out(ha:H a=none)(g:s.heap.get? a=some o)(h:o3 P w outer (upd H a (cQ a o)) s (fun cls z H3=>H3 a=some (cQ a o)/\E cls z (wo H3 a)) e s'):o3 P w outer H s E e s':=by
 obtain⟨x,cls,a0,B,H3,rfl,F⟩:=h;have h3:=F.want.1;refine⟨x,cls,a0,B,wo H3 a,rfl,F.fl,F.os,F.bare,F.un.out ha g (cQ.get F.bS h3),F.bS.wo h3,F.old,fun b u e=>F.Jj b u (mO _ _ e),F.want.2⟩
def Gr (cy:zdF->Prop)(i:Nat)(sp:Sp)(E:XK)(t:TA):TE:=fun G H Q=>t G H fun vs H1=>∃vc,G[i]?=some (some vc)/\∀(cc:zdF) (ip:Obj) (uc:zdG),cy cc->H1 cc=none->ip.data=.cell (some uc)->RelV vc uc->
 sp vs (upd H1 cc (cQ cc ip)) (fun v H2=>H2 cc=some (cQ cc ip)/\Q v (wo H2 cc)) (fun cls z H2=>H2 cc=some (cQ cc ip)/\E cls z (wo H2 cc))
theorem Iy{p pos:Pos}(F:bt X.prog X.w X.K X.mg X.base (o3 X.prog X.w) k f fd ps sp)(hr:gw k X.A)(hg:Gl X x)(hm:X.mg x=some (.ref f))(hk:za6 X.K (.ref f)=true)(hb:Binds X.K fd ps [])
 (RA:Passes (o3 X.prog X.w) X E)
 (ha:PA X (e::es) t) (hN:X.N[i]?=some y) (hy:X.env.scope.names.lookup y=some .cell) (QZ:X.fn y=true) (Eb:(x==("__debug__":Str))=false:=by decide) (he:zdL (e::es) X.env=(false,eval e X.env)::zdL es X.env:=by rfl) (vQ:(backTo pos (zdL es X.env)).any (·.1)=false:=by rfl) :
 PE X (.Call (.Name x p) (e::es) [] pos) (Gr (fun cc=>X.env.cells.lookup y=some cc) i sp E t):=by
 intro pins s G H Q I h;refine yas (mZ I hg hm ?_ Eb);refine zb3 (h₀:=X.base) I.ok.mod.PD hk (fC (ha pos pins s G H _ I h) fun us s1 ⟨vs,H1,I1,r,vc,hG,q⟩=>⟨I1.zg,?_⟩) he vQ;obtain⟨m,hn,hl⟩:=I1.loc;obtain⟨uc,rc,lk⟩:=hl i y vc hN hG (.inr (.inl hy));rcases lk with ⟨Kb,_⟩ |⟨_,cc,R7,ip,Zq,dcc⟩
 .have Kb:X.env.scope.names.lookup y=some .local:=Kb;rw[hy] at Kb;cases Kb
 have Xm:=I1.iS y cc R7;have Ho:=I1.ok.Ho y cc QZ R7;have bcc:X.base.get? cc=none:=Heap.get?_none_of_le (zax I1.ok.BL Ho);have Zc:cc ∉ qt X.stack:=fun hb=>by
  rcases zak.mp (I1.rG cc hb) with z |z
  .exact I1.Jk y cc R7 z
  .obtain⟨_,o,ho,_⟩:=I1.ok.mz.mem z;exact ybX (zat (yad ho) Ho) (zaO _)
 have Vu:=q cc ip uc R7 Xm dcc rc;have hl':(us++[]).length=ps.length:=by rw[zaM,<- r.length];exact F.len _ _ _ _ Vu
 have hbs:=hb s1 us I1.zg hl';rw[zaM] at hbs;refine wpAny_call (yaT (F.run X.A X.stack s1 (upd H1 cc (cQ cc ip)) ⟨us,[]⟩ us vs _ _ hr (I1.JR.add Xm bcc Zc Zq) hbs r Vu) fun r s' xE=>?_);cases r with
 |error e=>exact RA pins G H1 s1 e s' I1 (o3.out Xm Zq xE)
 |ok fl=>
  cases fl with
  |ret u'=>exact I1.after (CE.out Xm Zq xE)
  |next=>exact False.elim xE
  |brk=>exact False.elim xE
  |cont=>exact False.elim xE
theorem DE.Zr{K:zaa}{st:Stmt}(F:DE K x qual st f fd)(S:a9 N ps (aG st))(hc:vx K f c)(len:∀vs H Q E,sp vs H Q E->vs.length=ps.length)
 (pj:∀(A:zdQ) (outer:List Env) (s:zdP) (H:Hp) (vs:List V) (Q:VK) (E:XK),gw k (A.deeper (envOfC qual (aG st) s.heap.objs.size f (.ref c)))->sp vs H Q E->
  ∃t G,BO (gV (o3 P w) P w K mg base N qual (aG st) f (.ref c) A outer s H E) (eE st) t/\start N vs=G/\t {nx:=fun _ H'=>Q .eA H',rt:=Q} G H):bt P w K mg base (o3 P w) (k+1) f fd ps sp:=by
 obtain⟨oc,od,kV,doc,pm,an,eY,ct,Ec,rfl,lk,BP⟩:=F.ex;have e:eY=.ref c:=hc _ _ _ _ lk;subst e;refine JW lk BP S len fun A outer s H vs Q E hr Jl=>?_;obtain⟨t,G,h,e,q⟩:=pj A outer s H vs Q E hr Jl;subst e;exact⟨t,h,q⟩
theorem Nq{O L N:Type}(F:O->L->N->Prop->Prop):∃X:O->L->N->Prop,(∀a b c,(∀zq,F a b c zq->zq)->X a b c)/\∀a b c,X a b c->∀zq,F a b c zq->zq:=⟨fun a b c=>∀zq,F a b c zq->zq,fun _ _ _ h=>h,fun _ _ _ h=>h⟩
section
variable{X:Cx}{k n:Nat}{f:zdF}{fd:zdO}{ps:List Str}{sp:Sp}{x:Str}{st:Stmt}{e:Expr}{es:List Expr}{t:TA}{te:TE}{p pos pos':Pos}
theorem lJ(F:bt X.prog X.w X.K X.mg X.base fR k f fd ps sp)(D:cV X.K X.mg x st ps f fd)(hr:gw n X.A)(ha:PA X (e::es) t)(h:k<=n:=by first |decide |omega)(hg:Gl X x:=by rfl)(Eb:(x==("__debug__":Str))=false:=by decide)
 (he:zdL (e::es) X.env=(false,eval e X.env)::zdL es X.env:=by rfl) (vQ:(backTo pos (zdL es X.env)).any (·.1)=false:=by rfl):PE X (.Call (.Name x p) (e::es) [] pos) (BW sp [] E0 t):=
 bC F (hr.mono h) hg D.m D.F.kp D.b .nil cS ha Eb he vQ
theorem lC(i:Nat)(hN:X.N.Nodup)(he:PE X e te)(hi:X.N[i]?=some x:=by rfl)(hx:Loc X.env.scope x:=by exact zaH rfl)(hs:swapsWith e (some (.Name x pos')) pos.line X.env=pure false:=by rfl)(hf:X.fn x=true\/X.env.scope.names.lookup x=some .local:=by first |exact .inl rfl |exact .inr rfl |assumption) :
 PS X (.Assign [.Name x pos'] e pos) (Hq te (gE i)):=bO hN hi hx he hs hf
theorem Jr(i:Nat)(hN:X.N.Nodup)(hi:X.N[i]?=some x:=by rfl)(hx:Loc X.env.scope x:=by exact zaH rfl)(hf:X.fn x=true\/X.env.scope.names.lookup x=some .local:=by first |exact .inl rfl |exact .inr rfl |assumption):PG X (.Name x pos) (gE i):=cK hN hi hx hf
theorem eL(i:Nat)(hr:PA X es t)(hN:X.N[i]?=some x:=by rfl)(hv:T4 X.env.scope x:=by first |exact zaH rfl |exact zce (zaH rfl) |exact zce (zce rfl))(hd:(x==("__debug__":Str))=false:=by decide)(BP:(x==("__classdict__":Str))=false:=by decide):PA X (.Name x pos::es) (xf (fO i) t):=ae (pv i hN hv hd BP) hr aD
end
noncomputable def nA (a:Int):List Int->Int
 |[]=>a
 |d::r=>nA (10*a+d+1) r
def Dg (g:List Int):Prop:=∀d∈g,0<=d/\d<=9
theorem AG(g:List Int):∀(r:List Int)(a:Int),nA a (g++r)=nA (nA a g) r:=by
 induction g with
 |nil=>intro r a;rfl
 |cons d g ih=>intro r a;exact ih r _
theorem Qu(g:List Int):∀(a:Int),0<=a->Dg g->a<=nA a g:=by
 induction g with
 |nil=>intro a _ _;exact za0 _
 |cons d r ih=>
  intro a h q;have:=q d (zao ..);have:=ih (10*a+d+1) (by lia) fun x hx=>q x (zag _ hx);rw[nA];lia
theorem Qv:∀(g h:List Int)(a b:Int),a<b->g.length=h.length->Dg g->Dg h->nA a g<nA b h
 |[],[],a,b,h,_,_,_=>h
 |x::g,y::h,a,b,l,e,q1,q2=>by
  have:=q1 x (zao ..);have:=q2 y (zao ..);exact Qv g h _ _ (by lia) (by simpa using e) (fun z hz=>q1 z (zag _ hz)) fun z hz=>q2 z (zag _ hz)
 |[],_::_,_,_,_,e,_,_=>by simp at e
 |_::_,[],_,_,_,e,_,_=>by simp at e
theorem Vv(l:g.length<h.length)(q1:Dg g)(q2:Dg h):nA 0 g<nA 0 h:=by
 have e:h=h.take (h.length-g.length)++h.drop (h.length-g.length):=(zbl _ _).symm;have d1:Dg (h.take (h.length-g.length)):=fun x hx=>q2 x (zby hx);have d2:Dg (h.drop (h.length-g.length)):=fun x hx=>q2 x (zdu hx);have l2:(h.drop (h.length-g.length)).length=g.length:=by rw[zbU];lia
 have l1:(h.take (h.length-g.length)).length≠0:=by rw[zbD];lia
 rw[e,AG];refine Qv _ _ _ _ ?_ l2.symm q1 d2;generalize h.take (h.length-g.length)=t at *;cases t with
 |nil=>exact ybX rfl l1
 |cons x r=>
  have:=d1 x (zao ..);have:=Qu r (10*0+x+1) (by lia) fun z hz=>d1 z (zag _ hz);rw[nA];lia
theorem kF{r:St}(Pv:Nat->List V->Hp->Prop)(hl:n<=16000000)(hD:H D=none)(h0:Pv 0 [] (upd H D (.lst [])))
 (step:∀(i:Nat) ys H2,i<n->ar H H2->H2 D=some (.lst ys)->ys.length=i->Pv i ys H2->∀R:VK,(∀v H3,ar H2 H3->Pv (i+1) (ys++[v]) (upd H3 D (.lst (ys++[v])))->R v H3)->te (some (.int i)::r) H2 R)
 (q:∀ys H2,ar H H2->H2 D=some (.lst ys)->ys.length=n->Pv n ys H2->Q (.ref D) H2):qJ (NP 0 n) D (gE 0) xi te Q (none::r) (upd H D (.lst [])):=by
 have ln:((zaj n).map fun i:Nat=>V.int i).length=n:=by rw[zac,zaJ]
 refine Cs (fun Z=>∃x,Z=x::r) ((zaj n).map fun i:Nat=>V.int i) Pv (fun i H2 _ hi=>by rw[ln] at hi;exact hi) (fun H2 _=>by rw[ln];exact zah n) (fun i H2 x H3 _ hi y=>?_) (by rw[ln];exact hl) hD ⟨_,rfl⟩ h0 (fun i x ys Z H2 hx ⟨z,e⟩ s2 h2 ly p2 R hR=>?_) (by rw[ln];exact q)
 .rw[ln] at hi;obtain⟨rfl,rfl⟩:=y;refine⟨rfl,?_⟩;rw[zar,zdy hi,Int.zero_add];rfl
 .have hi:=(zap.mp hx).1;rw[ln] at hi;rw[zar,zdy hi] at hx;cases hx;subst e;exact step i ys H2 hi s2 h2 ly p2 (R (some (.int i)::r)) fun v H3 s3 p3=>hR _ v H3 ⟨_,rfl⟩ s3 p3
abbrev O2 (D C:zdF):zdF->Prop:=fun b=>b=D\/b=C
structure vX(D C:zdF)(H H':Hp):Prop where
 u:bR (O2 D C) H H'
 Xn:∀b,H b≠none->H' b≠none
section
variable{K:zaa}{H0 H H1 H2:Hp}{D C:zdF}
theorem vX.refl:vX D C H H:=⟨.refl,fun _ h=>h⟩
theorem vX.trans(a:vX D C H H1)(b:vX D C H1 H2):vX D C H H2:=⟨a.u.trans b.u,fun z h=>b.Xn z (a.Xn z h)⟩
theorem vX.of(s:ar H H1):vX D C H H1:=⟨.of s,fun b h=>by
 cases e:H b with
 |none=>exact ybX e h
 |some o=>rw[s b o e];simp⟩
theorem vX.put(o:HO)(hp:p=D\/p=C):vX D C H (upd H p o):=⟨bR.refl.put hp o,fun b h=>by
 by_cases z:b=p
 .subst z;rw[ah];simp
 .rw[au z];exact h⟩
theorem vX.get(a:vX D C H H1)(h:H b=some o)(n1:b≠D)(n2:b≠C):H1 b=some o:=a.u b o (fun z=>z.elim n1 n2) h
end
inductive Sn where
 |ask (s:fD) |say (n:Int) (s:fD) |fin |dR |round
def EO:Sn->Dp
 |.ask s=>.tup [.tup [.str "ask"],zL (some s)]
 |.say n s=>.tup [.tup [.str "say",.int n],zL (some s)]
 |.fin=>.tup [.tup [.str "end"],.eA]
 |.dR=>.tup [.tup [.str "must"],.eA]
 |.round=>.tup [.tup [.str "round"],.eA]
def dB (pr:PG.Prog)(s:fD):Option Sn:=if s.1=0 then some .fin else if vt pr.body s.1=true then some (.ask s) else match fN pr s.1 s.2 0 with
 |(none,_)=>some .dR
 |(some y,some n)=>some (.say n y)
 |(some _,none)=>none
def nK (pr:PG.Prog)(s:fD):fD:=(fN pr s.1 s.2 0).1.getD s
def L0 (pr:PG.Prog):Nat->List fD->fD->Sn
 |0,_,_=>.round
 |n+1,gone,s=>if s∈gone then .round else match dB pr s with
  |some x=>x
  |none=>L0 pr n (gone++[s]) (nK pr s)
theorem Cy(h:dB pr s=none):s.1≠0/\vt pr.body s.1=false/\(fN pr s.1 s.2 0).1=some (nK pr s)/\(fN pr s.1 s.2 0).2=none:=by
 unfold dB at h;split at h
 .cases h
 .rename_i h0;split at h
  .cases h
  .rename_i ha;unfold nK;rcases e:fN pr s.1 s.2 0 with ⟨o,sd⟩
   rw[e] at h;cases o with
   |none=>cases h
   |some y=>
    cases sd with
    |none=>exact⟨h0,by simpa using ha,rfl,rfl⟩
    |some n=>cases h
theorem cY.Ol(d:bV pr)(h:cY pr s)(e:dB pr s=none):cY pr (nK pr s):=by
 obtain⟨h0,_,h1,_⟩:=Cy e;exact h.next d h0 h1
section
variable(P:zdR)(w:zdH)(K:zaa)(CC CW:zdF)
inductive Cz(vs:List V)(H:Hp)(Q:VK)(E:XK):Prop
 |mk (ch sa:zdF) (pr:PG.Prog) (s:fD):vs=[.ref ch,.ref sa]->vp K CC H ch pr->bV pr->df K H sa s.1 s.2->cY pr s->(∀H',ar H H'->Q (.bl (dB pr s).isNone) H')->Cz vs H Q E
inductive CA(vs:List V)(H:Hp)(Q:VK)(E:XK):Prop
 |mk (ch sa:zdF) (pr:PG.Prog) (s:fD) (x:Sn):vs=[.ref ch,.ref sa]->vp K CC H ch pr->bV pr->df K H sa s.1 s.2->cY pr s->dB pr s=some x->(∀v H',ar H H'->Rep K H' (EO x) v->Q v H')->CA vs H Q E
def Zs (H:Hp) (wt sg:zdF) (pr:PG.Prog):Prop:=∃dx ch,H wt=some (.ins CW dx [("chart",.ref ch),("sights",.ref sg)])/\H dx=some (.own wt)/\vp K CC H ch pr/\DS qi P w K H sg []
end
def lK (pr:PG.Prog)(s:fD):Sn:=L0 pr (dh pr+1) [] s
def uT (pr:PG.Prog):Nat->fD->fD
 |0,s=>s
 |n+1,s=>uT pr n (nK pr s)
theorem AH(a:Nat):∀(t:Nat)(s:fD),uT pr (a+t) s=uT pr t (uT pr a s):=by
 induction a with
 |zero=>intro t s;rw[Nat.zero_add];rfl
 |succ a ih=>intro t s;rw[show a+1+t=(a+t)+1 by lia,uT,uT,ih t]
theorem ql(n:Nat):∀(gone:List fD)(s:fD),(∀m,dB pr (uT pr m s)=none)->L0 pr n gone s=.round:=by
 induction n with
 |zero=>intro gone s h;rfl
 |succ n ih=>
  intro gone s h;rw[L0];split
  .rfl
  .rw[show dB pr s=none from h 0];exact ih _ _ fun m=>h (m+1)
theorem zQ:∀(k n:Nat)(gone:List fD)(s:fD)(x:Sn),k<n->(∀m,m<k->dB pr (uT pr m s)=none)->dB pr (uT pr k s)=some x->(∀m,m<=k->uT pr m s ∉ gone)->(∀i j,i<j->j<=k->uT pr i s≠uT pr j s)->L0 pr n gone s=x
 |0,n+1,gone,s,x,hn,h0,h1,hg,hd=>by
  rw[L0,ybR (show s ∉ gone from hg 0 (zah _)),show dB pr s=some x from h1]
 |k+1,n+1,gone,s,x,hn,h0,h1,hg,hd=>by
  rw[L0,ybR (show s ∉ gone from hg 0 (zaN _)),show dB pr s=none from h0 0 (by lia)];refine zQ k n (gone++[s]) (nK pr s) x (by lia) (fun m hm=>h0 (m+1) (by lia)) h1 (fun m hm z=>?_) (fun i j hij hj=>hd (i+1) (j+1) (by lia) (by lia));rcases zan.mp z with z |z
  .exact hg (m+1) (by lia) z
  .exact hd 0 (m+1) (by lia) (by lia) (zaf.mp z).symm
theorem L1(d:bV pr)(n:Nat):∀(s:fD),cY pr s->(∀m,m<n->dB pr (uT pr m s)=none)->cY pr (uT pr n s):=by
 induction n with
 |zero=>intro s h _;exact h
 |succ n ih=>intro s h h0;exact ih _ (h.Ol d (h0 0 (by lia))) fun m hm=>h0 (m+1) (by lia)
theorem ER(h0:∀m,m<k->dB pr (uT pr m s)=none)(h1:dB pr (uT pr k s)=some x):∀i j,i<j->j<=k->uT pr i s≠uT pr j s:=fun i j hij hj e=>by
 have a:=AH (pr:=pr) i (k-j) s;have b:=AH (pr:=pr) j (k-j) s;rw[e,<- b,show j+(k-j)=k by lia] at a;have:=h0 (i+(k-j)) (by lia);rw[a,h1] at this;cases this
theorem xK(d:bV pr)(si:cY pr s)(h0:∀m,m<k->dB pr (uT pr m s)=none)(h1:dB pr (uT pr k s)=some x):lK pr s=x:=by
 have un:=ER h0 h1;refine zQ k _ [] s x ?_ h0 h1 (fun m _ z=>by cases z) un;have nd:((zaj (k+1)).map fun m=>uT pr m s).Nodup:=by
  rw[zbs,zaL];refine List.Pairwise.imp_of_mem (R:=(· < ·)) (fun {a b} ha hb BD=>?_) zbG;exact un a b BD (by have:=zav.mp hb;lia)
 have:=tY (pr:=pr) nd fun y hy=>by
  obtain⟨m,hm,rfl⟩:=zae.mp hy;have:=zav.mp hm;exact L1 d m s si fun i hi=>h0 i (by lia)
 rw[zac,zaJ] at this;lia
theorem Iz(s:fD):(∀m,dB pr (uT pr m s)=none)\/∃k x,(∀m,m<k->dB pr (uT pr m s)=none)/\dB pr (uT pr k s)=some x:=by
 by_cases h:∃k,dB pr (uT pr k s)≠none
 .refine .inr ?_;obtain⟨k,hk⟩:=h
  induction k using Nat.strongRecOn with
  |_ k ih=>
   by_cases h2:∃m,m<k/\dB pr (uT pr m s)≠none
   .obtain⟨m,hm,Qk⟩:=h2;exact ih m hm Qk
   .cases e:dB pr (uT pr k s) with
    |none=>exact ybX e hk
    |some x=>exact⟨k,x,fun m hm=>Classical.byContradiction fun z=>h2 ⟨m,hm,z⟩,e⟩
 .exact .inl fun m=>Classical.byContradiction fun z=>h ⟨m,z⟩
theorem kP(d:bV pr)(si:cY pr s)(h:dB pr s=some x):lK pr s=x:=xK d si (k:=0) (fun m hm=>by lia) h
theorem ud(d:bV pr)(si:cY pr s)(h:dB pr s=none):lK pr (nK pr s)=lK pr s:=by
 rcases Iz (pr:=pr) s with a |⟨k,x,a,b⟩
 .exact(ql _ _ _ fun m=>a (m+1)).trans (ql _ _ _ a).symm
 .cases k with
  |zero=>rw[show dB pr s=some x from b] at h;cases h
  |succ k=>rw[xK d si a b,xK d (si.Ol d h) (k:=k) (fun m hm=>a (m+1) (by lia)) b]
theorem Sg{gone:List fD}(h:∀g∈gone,dB pr g=none/\nK pr g∈gone)(hg:g∈gone):lK pr g=.round:=by
 refine ql _ _ _ fun m=>?_;have:∀m g,g∈gone->uT pr m g∈gone:=by
  intro m
  induction m with
  |zero=>exact fun g h=>h
  |succ m ih=>exact fun g hg=>ih _ (h g hg).2
 exact(h _ (this m g hg)).1
inductive Hd where
 |ask |say (n:Int) |fin |dR |round
 deriving DecidableEq
noncomputable def Gs:Sn->Hd
 |.ask _=>.ask
 |.say n _=>.say n
 |.fin=>.fin
 |.dR=>.dR
 |.round=>.round
noncomputable def Js:Hd->Str
 |.ask=>"ask"
 |.say _=>"say"
 |.fin=>"end"
 |.dR=>"must"
 |.round=>"round"
def AI:Hd->Dp
 |.say n=>.tup [.str "say",.int n]
 |h=>.tup [.str (Js h)]
noncomputable def Sh:Sn->Option fD
 |.ask s=>some s
 |.say _ s=>some s
 |_=>none
theorem OM(x:Sn):EO x=.tup [AI (Gs x),zL (Sh x)]:=by cases x<;>rfl
theorem Si(a b:Hd):ya0 (AI a).py (AI b).py=decide (a=b):=by
 have i1:∀x y:Int,(x==y)=decide (x=y):=fun x y=>rfl;have e:∀x y:Hd,(Js x==Js y)=decide (Js x=Js y):=fun x y=>by
  by_cases h:Js x=Js y
  .rw[h];simp
  .rw[ybU h];exact beq_eq_false_iff_ne.mpr h
 cases a<;>cases b<;>simp only[AI,Dp.py,Dp.B7,ya0,PyData.eqvAll,i1,zc2,zcU]<;>first |decide +kernel |(simp only[Hd.say.injEq];rw[show ((zab "say":Str)==zab "say")=true by decide +kernel,zc3]) |(exact(ybU (by simp)).symm)
theorem zR(h:Hd):ya2 (AI h).py=true:=by
 cases h with
 |say n=>
  simp only[AI,ya2,Dp.py,Dp.B7,ybH,yaX,PyData.depth,yba,za2,decide_eq_true_eq];exact⟨⟨by decide +kernel,trivial,trivial⟩,by lia⟩
 |ask=>decide +kernel
 |fin=>decide +kernel
 |dR=>decide +kernel
 |round=>decide +kernel
theorem xM(d:bV pr)(n:Nat):∀(gone:List fD)(s y:fD),cY pr s->Sh (L0 pr n gone s)=some y->cY pr y:=by
 induction n with
 |zero=>intro _ _ _ _ h;cases h
 |succ n ih=>
  intro gone s y si h;rw[L0] at h;split at h
  .cases h
  .cases e:dB pr s with
   |none=>rw[e] at h;exact ih _ _ y (si.Ol d e) h
   |some x=>
    rw[e] at h;simp only at h;unfold dB at e;split at e
    .cases e;cases h
    .rename_i h0;split at e
     .cases e;cases h;exact si
     .split at e
      .cases e;cases h
      .rename_i y' n' es;cases e;cases h;exact si.next d h0 (f:=0) (by rw[es])
      .cases e
theorem AJ(n:Nat):∀(gone:List fD)(s y:fD),L0 pr n gone s=.ask y->y.1≠0/\vt pr.body y.1=true:=by
 induction n with
 |zero=>intro _ _ _ h;cases h
 |succ n ih=>
  intro gone s y h;rw[L0] at h;split at h
  .cases h
  .cases e:dB pr s with
   |none=>rw[e] at h;exact ih _ _ y h
   |some x=>
    rw[e] at h;simp only at h;subst h;unfold dB at e;split at e
    .cases e
    .rename_i h0;split at e
     .rename_i ha;cases e;exact⟨h0,ha⟩
     .split at e<;>cases e
abbrev br:=fD×fD
def ki (p:br):bA×bA:=(ik p.1,ik p.2)
theorem pM(h:ki a=ki b):a=b:=Prod.ext (tV (ybW Prod.fst h)) (tV (ybW Prod.snd h))
def l0 (K:zaa)(H:Hp)(a:zdF)(p:br):Prop:=∃b c,bH K H a [.ref b,.ref c]/\df K H b p.1.1 p.1.2/\df K H c p.2.1 p.2.2
theorem xN{K:zaa}(h:l0 K H a p):qx.on K H (ki p) a:=by obtain⟨b,c,h1,h2,h3⟩:=h;exact⟨b,c,h1,tX h2,tX h3⟩
theorem AK{K:zaa}(h:qx.on K H (ki p) a):l0 K H a p:=by obtain⟨b,c,h1,h2,h3⟩:=h;exact⟨b,c,h1,LI h2,LI h3⟩
theorem l0.oX{K:zaa}(h:l0 K H a p)(t:∀b ys,bH K H b ys->bH K H' b ys):l0 K H' a p:=AK (qx.up t (xN h))
theorem l0.mono{K:zaa}(h:l0 K H a p)(s:ar H H'):l0 K H' a p:=h.oX fun _ _ q=>s.cO q
def yE (p:br):Dp:=.tup [Cv p.1,Cv p.2]
structure wB(av aw:PG.Prog)(p:br):Prop where
 one:cY av p.1
 two:cY aw p.2
def ck (av aw:PG.Prog)(p:br):List br:=if Gs (lK av p.1)≠Gs (lK aw p.2) then [] else match lK av p.1,lK aw p.2 with
 |.say _ a,.say _ b=>[(a,b)]
 |.ask a,.ask b=>(lD av a).zip (lD aw b)
 |_,_=>[]
def eU (av aw:PG.Prog)(p:br):Bool:=decide (Gs (lK av p.1)=Gs (lK aw p.2))
def kQ (av aw:PG.Prog)(l:List br):Bool:=decide ((jG av,jG aw)∈l)&&l.all fun p=>eU av aw p&&(ck av aw p).all fun b=>decide (b∈l)
theorem xO(d1:bV av)(d2:bV aw)(h:wB av aw p):∀q∈ck av aw p,wB av aw q:=by
 intro q hq;unfold ck at hq;split at hq
 .cases hq
 .have t1:∀y,Sh (lK av p.1)=some y->cY av y:=fun y=>xM d1 _ [] p.1 y h.one;have t2:∀y,Sh (lK aw p.2)=some y->cY aw y:=fun y=>xM d2 _ [] p.2 y h.two;cases e1:lK av p.1<;>cases e2:lK aw p.2<;>rw[e1,e2] at hq<;>simp only at hq<;>try cases hq
  .rename_i a b;have:=zci (a:=q.1) (b:=q.2) hq;exact⟨Gj d1 (t1 a (by rw[e1];rfl)) _ this.1,Gj d2 (t2 b (by rw[e2];rfl)) _ this.2⟩
  .exact⟨t1 _ (by rw[e1];rfl),t2 _ (by rw[e2];rfl)⟩
  .rename_i z;cases z
section
variable{Y:Type}[DecidableEq Y]
theorem L5(aB:List (Y×V))(k k':Y)(v:V):(cf (putK aB k v) k').isSome=(decide (k=k') ||(cf aB k').isSome):=by
 rw[<- iw,<- iw];unfold putK;by_cases h:(aB.any fun kv=>decide (kv.1=k))=true
 .rw[ybS h];have:(aB.map (fun kv=>if kv.1=k then (kv.1,v) else kv)).any (fun kv=>decide (kv.1=k'))=aB.any fun kv=>decide (kv.1=k'):=by
   rw[List.any_map]
   congr 1
   funext kv
   show decide ((if kv.1=k then (kv.1,v) else kv).1=k')=_;split<;>rfl
  rw[this];by_cases e:k=k'
  .subst e;rw[h,ybT rfl];rfl
  .rw[ybU e];rfl
 .rw[ybR h,List.any_append,zbZ,List.any_nil,Bool.or_false,Bool.or_comm]
end
def oJ (K:zaa)(H:Hp)(pr:PG.Prog)(aB:List (bA×V)):Prop:=∀kv∈aB,∃s,kv.1=ik s/\cY pr s/\Rep K H (EO (lK pr s)) kv.2
theorem oJ.mono{K:zaa}(h:oJ K H pr aB)(s:ar H H'):oJ K H' pr aB:=fun kv m=>by obtain⟨x,a,b,c⟩:=h kv m;exact⟨x,a,b,c.mono s⟩
theorem oJ.ext{K:zaa}(h:oJ K H pr aB)(hb:H b=some (.ext φ))(u:bf b H H'):oJ K H' pr aB:=fun kv m=>by obtain⟨x,a,z,c⟩:=h kv m;exact⟨x,a,z,lI hb u _ _ c⟩
theorem oJ.put{K:zaa}(h:oJ K H pr aB)(si:cY pr s)(r:Rep K H (EO (lK pr s)) v):oJ K H pr (putK aB (ik s) v):=by
 intro kv m;unfold putK at m;split at m
 .obtain⟨z,hz,rfl⟩:=zae.mp m;by_cases e:z.1=ik s
  .rw[ybS e];exact⟨s,e,si,r⟩
  .rw[ybR e];exact h z hz
 .rcases zan.mp m with m |m
  .exact h kv m
  .cases zaf.mp m;exact⟨s,rfl,si,r⟩
theorem CB{Y:Type}[DecidableEq Y]{aB:List (Y×V)}{k:Y}(h:cf aB k=some v):(k,v)∈aB:=by
 induction aB with
 |nil=>cases h
 |cons a r ih=>
  by_cases e:a.1=k
  .rw[cn e] at h;cases h;subst e;exact zao ..
  .rw[cu e] at h;exact zag _ (ih h)
theorem ON{Y:Type}[DecidableEq Y]{J:KH Y}{K:zaa}{aB:List (Y×V)}{xs:List (Y×zdF×zdG)}(r:KS J K H aB xs):aB.map (·.1)=xs.map (·.1):=by
 induction r with
 |nil=>rfl
 |cons h t ih=>rw[zas,zas,h.1,ih]
theorem DS.nodup{Y:Type}[DecidableEq Y]{J:KH Y}{K:zaa}{aB:List (Y×V)}(d:DS J P w K H a aB):(aB.map (·.1)).Nodup:=by
 obtain⟨xs,_,r,nd⟩:=d.at_;rw[ON r];exact nd
theorem Gu{K:zaa}(nd:(aB.map (·.1)).Nodup)(h:oJ K H pr aB):aB.length<=dh pr:=by
 have:∀l:List (bA×V),(∀kv∈l,∃s,kv.1=ik s/\cY pr s)->∃ss:List fD,l.map (·.1)=ss.map ik/\∀s∈ss,cY pr s:=by
  intro l
  induction l with
  |nil=>exact fun _=>⟨[],rfl,fun _ z=>by cases z⟩
  |cons a r ih=>
   intro hl;obtain⟨ss,e,hs⟩:=ih fun kv m=>hl kv (zag _ m);obtain⟨s,es,si⟩:=hl a (zao ..);refine⟨s::ss,by rw[zas,zas,es,e],fun x hx=>?_⟩;rcases zak.mp hx with rfl |hx
   .exact si
   .exact hs x hx
 obtain⟨ss,e,hs⟩:=this aB fun kv m=>let ⟨s,a,b,_⟩:=h kv m;⟨s,a,b⟩;rw[e] at nd;have l:=ybW zbg e;rw[zac,zac] at l;rw[l];exact tY (List.Pairwise.of_map ik (fun a b BD z=>BD (by rw[z])) nd) hs
section
variable(P:zdR)(w:zdH)(K:zaa)(CC CW:zdF)
def AL (H:Hp) (wt sg:zdF) (pr:PG.Prog):Prop:=∃dx ch aB,H wt=some (.ins CW dx [("chart",.ref ch),("sights",.ref sg)])/\H dx=some (.own wt)/\vp K CC H ch pr/\DS qi P w K H sg aB/\oJ K H pr aB
inductive CD(vs:List V)(H:Hp)(Q:VK)(E:XK):Prop
 |mk (p sg sa:zdF) (pr:PG.Prog) (s:fD):vs=[.ref p,.ref sa]->AL P w K CC CW H p sg pr->bV pr->df K H sa s.1 s.2->cY pr s->dh pr<=100000->(∀v H',bf sg H H'->AL P w K CC CW H' p sg pr->Rep K H' (EO (lK pr s)) v->Q v H')->CD vs H Q E
inductive L6(vs:List V)(H:Hp)(Q:VK)(E:XK):Prop
 |mk (p dx:zdF) (v:V) (pr:PG.Prog):vs=[.ref p,v]->H p=some (.ins CW dx [])->H dx=some (.own p)->Rep K H (iX pr) v->bV pr->(∀sg H',bf p H H'->H sg=none->AL P w K CC CW H' p sg pr->Q .eA H')->L6 vs H Q E
end
section
variable{P:zdR}{w:zdH}{K:zaa}{CC CW:zdF}{H H':Hp}{wt sg:zdF}{pr:PG.Prog}
theorem AL.mono(h:AL P w K CC CW H wt sg pr)(s:ar H H'):AL P w K CC CW H' wt sg pr:=by obtain⟨dx,ch,aB,h1,h2,h3,h4,h5⟩:=h;exact⟨dx,ch,aB,s _ _ h1,s _ _ h2,h3.mono s,h4.mono s,h5.mono s⟩
theorem AL.other(h:AL P w K CC CW H wt sg pr)(hb:H b=some (.ext φ))(n:sg≠b)(u:bf b H H'):AL P w K CC CW H' wt sg pr:=
 let ⟨dx,ch,aB,h1,h2,h3,h4,h5⟩:=h
 ⟨dx,ch,aB,u _ _ (bz h1 hb (by intro z;cases z)) h1,u _ _ (bz h2 hb (by intro z;cases z)) h2,h3.ext hb u,h4.other hb n u,h5.ext hb u⟩
theorem AL.uU(h:AL P w K CC CW H wt sg pr):∃φ,H sg=some (.ext φ):=by obtain⟨_,_,_,_,_,_,h4,_⟩:=h;exact h4.oY
theorem Zs.toM(h:Zs P w K CC CW H wt sg pr):AL P w K CC CW H wt sg pr:=by obtain⟨dx,ch,h1,h2,h3,h4⟩:=h;exact⟨dx,ch,[],h1,h2,h3,h4,fun _ z=>by cases z⟩
end
section
variable{Y:Type}[DecidableEq Y]{J:KH Y}
theorem Fz.up{K:zaa}(f:Fz J P w K H d aB o)(t:∀b ys,bH K H b ys->bH K H' b ys):Fz J P w K H' d aB o:=by obtain⟨xs,h1,h2,h3⟩:=f.at_;exact⟨f.len,f.sys,xs,h1,h2.up t,h3⟩
def Zt (J:KH Y)(P:zdR)(w:zdH)(K:zaa)(g:Bool->Bool):R2:=fun x y H Q=>∃(a b:zdF) (aB:List (Y×V)) (k:Y) (o:Obj),x=.ref b/\y=.ref a/\H a=some (cQ a o)/\Fz J P w K H a aB o/\J.on K H k b/\Q (.bl (g (cf aB k).isSome)) H
theorem OO{G:St}(I:Inv X pins G H s)(e:H a=some (cQ a o))(f:Fz J X.prog X.w X.K H a aB o):∃xs,s.heap.DictOfH (J.knd X.prog X.w) a xs/\KS J X.K H aB xs:=by
 obtain⟨hg, -⟩:=(show bZ X.prog X.w H s.heap a (cQ a o) from I.bS a _ e)
 obtain⟨xs,h1,h2,h3⟩:=f.at_;obtain⟨o',es,ep,g1,g2,g3,g4⟩:=h1 s.heap hg;refine⟨xs,⟨o',es,ep,g1,g2,g3,g4,?_,h3⟩,h2⟩;clear h1 h3 g4 f
 induction h2 with
 |nil=>intro x hx;cases hx
 |@cons p q ps qs hq t ih=>
  intro x hx;rcases zak.mp hx with rfl |hx
  .exact J.of I (hq.1▸hq.2.1)
  .exact ih x hx
theorem Sj{K:zaa}(eP:X.prog=P)(ew:X.w=w)(eK:X.K=K)(hu:X.A.units+16<cLine):qv X (yau .In) (Zt J P w K id):=by
 subst eP ew eK;intro pins s G H x y v u Q I rx ry h;obtain⟨a,b,aB,k,o,rfl,rfl,e,f,hk,q⟩:=h;cases rx;cases ry;obtain⟨xs,dd,ks⟩:=OO I e f;refine wpAny_in_heap (knd:=J.knd X.prog X.w) (J.room hu) (J.of I hk) f.sys dd ?_;have z:=(ks.val k).mE;rw[zb7] at z;rw[<- z];exact⟨.bl _,H,I.tok _,rfl,q⟩
end
def oK (a b:zdF)(H H':Hp):Prop:=∀c o,c≠a->c≠b->H c=some o->H' c=some o
theorem oK.refl:oK a b H H:=fun _ _ _ _ h=>h
theorem oK.trans(u:oK a b H H1)(v:oK a b H1 H2):oK a b H H2:=fun c o n m h=>v c o n m (u c o n m h)
theorem oK.one(u:bf a H H'):oK a b H H':=fun c o n _ h=>u c o n h
theorem oK.two(u:bf b H H'):oK a b H H':=fun c o _ n h=>u c o n h
theorem oK.of(s:ar H H'):oK a b H H':=fun c o _ _ h=>s c o h
theorem bH.up2{K:zaa}(h:bH K H a xs)(h1:H s1=some (.ext φ))(h2:H s2=some (.ext M))(u:oK s1 s2 H H'):bH K H' a xs:=by
 rcases h with (q |⟨o',q⟩) |q
 .exact .inl (.inl (u _ _ (bz q h1 (by intro z;cases z)) (bz q h2 (by intro z;cases z)) q))
 .exact .inl (.inr ⟨o',u _ _ (bz q h1 (by intro z;cases z)) (bz q h2 (by intro z;cases z)) q⟩)
 .exact .inr q
def gH (K:zaa)(H:Hp)(l:List br)(us:List V):Prop:=yao (fun p v=>∃a,v=.ref a/\l0 K H a p) l us
theorem gH.oX{K:zaa}(h:gH K H l us)(t:∀b ys,bH K H b ys->bH K H' b ys):gH K H' l us:=yao.Af h fun _ _ ⟨a,e,q⟩=>⟨a,e,q.oX t⟩
theorem gH.mono{K:zaa}(h:gH K H l us)(s:ar H H'):gH K H' l us:=h.oX fun _ _ q=>s.cO q
theorem gH.get{K:zaa}(h:gH K H l us){i:Nat}(e:us[i]?=some v):∃p a,l[i]?=some p/\v=.ref a/\l0 K H a p:=by obtain⟨p,h1,a,h2,h3⟩:=fG h e;exact⟨p,a,h1,h2,h3⟩
structure oM(P:zdR)(w:zdH)(K:zaa)(CC CW:zdF)(H:Hp)(b w1 s1 w2 s2:zdF)(av aw:PG.Prog):Prop where
 b_:bH K H b [.ref w1,.ref w2]
 one:AL P w K CC CW H w1 s1 av
 two:AL P w K CC CW H w2 s2 aw
 ne:s1≠s2
section
variable{P:zdR}{w:zdH}{K:zaa}{CC CW:zdF}{H H':Hp}{b w1 s1 w2 s2:zdF}{av aw:PG.Prog}
theorem oM.mono(h:oM P w K CC CW H b w1 s1 w2 s2 av aw)(s:ar H H'):oM P w K CC CW H' b w1 s1 w2 s2 av aw:=⟨s.cO h.b_,h.one.mono s,h.two.mono s,h.ne⟩
theorem oM.tup(h:oM P w K CC CW H b w1 s1 w2 s2 av aw)(u:oK s1 s2 H H'):∀a xs,bH K H a xs->bH K H' a xs:=fun a xs q=>by
 obtain⟨φ,e1⟩:=h.one.uU;obtain⟨M,e2⟩:=h.two.uU;exact q.up2 e1 e2 u
theorem oM.Qw(h:oM P w K CC CW H b w1 s1 w2 s2 av aw)(u:bf s1 H H')(n:AL P w K CC CW H' w1 s1 av):oM P w K CC CW H' b w1 s1 w2 s2 av aw:=by
 obtain⟨φ,e1⟩:=h.one.uU;exact⟨h.b_.mL e1 u,n,h.two.other e1 h.ne.symm u,h.ne⟩
theorem oM.Qx(h:oM P w K CC CW H b w1 s1 w2 s2 av aw)(u:bf s2 H H')(n:AL P w K CC CW H' w2 s2 aw):oM P w K CC CW H' b w1 s1 w2 s2 av aw:=by
 obtain⟨φ,e2⟩:=h.two.uU;exact⟨h.b_.mL e2 u,h.one.other e2 h.ne u,n,h.ne⟩
theorem oM.free(h:oM P w K CC CW H' b w1 s1 w2 s2 av aw)(u:oK s1 s2 H H')(n:H' l=none):H l=none:=by
 obtain⟨φ,e1⟩:=h.one.uU;obtain⟨M,e2⟩:=h.two.uU;cases e:H l with
 |none=>rfl
 |some o=>rw[u l o (ag e1 n).symm (ag e2 n).symm e] at n;cases n
theorem oM.other(h:oM P w K CC CW H b w1 s1 w2 s2 av aw)(hd:H d=some (.ext φ))(n1:s1≠d)(n2:s2≠d)(u:bf d H H'):oM P w K CC CW H' b w1 s1 w2 s2 av aw:=⟨h.b_.mL hd u,h.one.other hd n1 u,h.two.other hd n2 u,h.ne⟩
end
section
variable(P:zdR)(w:zdH)(K:zaa)(CC CW:zdF)
inductive CF(vs:List V)(H:Hp)(Q:VK)(E:XK):Prop
 |mk (b w1 s1 w2 s2:zdF) (av aw:PG.Prog):vs=[.ref b]->oM P w K CC CW H b w1 s1 w2 s2 av aw->(∀p H',ar H H'->l0 K H' p (jG av,jG aw)->Q (.ref p) H')->CF vs H Q E
inductive L7(vs:List V)(H:Hp)(Q:VK)(E:XK):Prop
 |mk (b w1 s1 w2 s2 pa:zdF) (av aw:PG.Prog) (p:br):vs=[.ref b,.ref pa]->oM P w K CC CW H b w1 s1 w2 s2 av aw->bV av->bV aw->l0 K H pa p->wB av aw p->dh av<=100000->dh aw<=100000->(∀H',oK s1 s2 H H'->oM P w K CC CW H' b w1 s1 w2 s2 av aw->Q (.bl (eU av aw p)) H')->L7 vs H Q E
inductive ue(vs:List V)(H:Hp)(Q:VK)(E:XK):Prop
 |mk (b w1 s1 w2 s2 pa:zdF) (av aw:PG.Prog) (p:br):vs=[.ref b,.ref pa]->oM P w K CC CW H b w1 s1 w2 s2 av aw->bV av->bV aw->l0 K H pa p->wB av aw p->dh av<=100000->dh aw<=100000->(∀l us H',oK s1 s2 H H'->oM P w K CC CW H' b w1 s1 w2 s2 av aw->H l=none->H' l=some (.lst us)->gH K H' (ck av aw p) us->Q (.ref l) H')->ue vs H Q E
inductive CG(vs:List V)(H:Hp)(Q:VK)(E:XK):Prop
 |mk (v1 v2:V) (pa:zdF) (av aw:PG.Prog) (l:List br) (us:List V):vs=[v1,v2,.ref pa]->Rep K H (iX av) v1->Rep K H (iX aw) v2->bV av->bV aw->dh av<=100000->dh aw<=100000->iR K H pa us->gH K H l us->(∀p∈l,wB av aw p)->l.length<=4000000->(∀H',ar H H'->Q (.bl (kQ av aw l)) H')->CG vs H Q E
end
theorem uf(h0:s.1≠0)(h:vt pr.body s.1=true):(lD pr s).length=10:=by
 unfold lD;rw[ybR h0,ybS h,zac,zaJ]
theorem Gv{K:zaa}(h:xC K H l us){i:Nat}(e:us[i]?=some v):∃s a,l[i]?=some s/\v=.ref a/\df K H a s.1 s.2:=by obtain⟨p,h1,a,h2,h3⟩:=fG h e;exact⟨p,a,h1,h2,h3⟩
theorem zS{O L:Type}{R:O->L->Prop}:∀{as:List O}{bs:List L},as.length=bs.length->(∀(i:Nat) a b,as[i]?=some a->bs[i]?=some b->R a b)->yao R as bs
 |[],[],_,_=>.nil
 |a::as,b::bs,l,h=>.cons (h 0 a b rfl rfl) (zS (by simpa using l) fun i x y e1 e2=>h (i+1) x y e1 e2)
 |[],b::bs,l,_=>by simp at l
 |a::as,[],l,_=>by simp at l
def Nr (l:List br):List ((bA×bA)×V):=nJ [] (l.map fun p=>(ki p,V.bl true))
section
variable{Y:Type}[DecidableEq Y]
theorem xP(m:List (Y×V)):∀(aB:List (Y×V))(k:Y),(cf (nJ aB m) k).isSome=((m.any fun kv=>decide (kv.1=k)) ||(cf aB k).isSome):=by
 induction m with
 |nil=>intro aB k;rfl
 |cons x m ih=>
  intro aB k;show (cf (nJ (putK aB x.1 x.2) m) k).isSome=_;rw[ih,L5,zbZ];cases (m.any fun kv=>decide (kv.1=k))<;>cases decide (x.1=k)<;>rfl
theorem L8{kv:Y×V}(h:kv∈putK aB k v):kv.1=k\/∃z∈aB,z.1=kv.1:=by
 unfold putK at h;split at h
 .obtain⟨z,hz,rfl⟩:=zae.mp h;refine .inr ⟨z,hz,?_⟩;show z.1=(if z.1=k then (z.1,v) else z).1;split<;>rfl
 .rcases zan.mp h with h |h
  .exact .inr ⟨kv,h,rfl⟩
  .cases zaf.mp h;exact .inl rfl
theorem xQ(m:List (Y×V)):∀(aB:List (Y×V))(kv:Y×V),kv∈nJ aB m->(∃z∈m,z.1=kv.1)\/∃z∈aB,z.1=kv.1:=by
 induction m with
 |nil=>intro aB kv h;exact .inr ⟨kv,h,rfl⟩
 |cons x m ih=>
  intro aB kv h;rcases ih (putK aB x.1 x.2) kv h with ⟨z,hz,e⟩ |⟨z,hz,e⟩
  .exact .inl ⟨z,zag _ hz,e⟩
  .rcases L8 hz with e2 |⟨y,hy,e2⟩
   .exact .inl ⟨x,zao ..,e2.symm.trans e⟩
   .exact .inr ⟨y,hy,e2.trans e⟩
end
theorem ES(l:List br)(p:br):(cf (Nr l) (ki p)).isSome=decide (p∈l):=by
 rw[Nr,xP];by_cases h:p∈l
 .rw[ybT h,List.any_eq_true.mpr ⟨_,zae.mpr ⟨p,h,rfl⟩,by simp⟩];rfl
 .rw[ybU h,List.any_eq_false.mpr fun x hx=>?_]
  .rfl
  .obtain⟨y,hy,rfl⟩:=zae.mp hx;simp only[decide_eq_true_eq];exact fun e=>h (pM e▸hy)
theorem Ma(h:kv∈Nr l):∃p∈l,kv.1=ki p:=by
 rcases xQ _ _ _ h with ⟨z,hz,e⟩ |⟨z,hz,e⟩
 .obtain⟨p,hp,rfl⟩:=zae.mp hz;exact⟨p,hp,e.symm⟩
 .cases hz
theorem OP(h:p∈l):∃kv∈Nr l,kv.1=ki p:=by
 have e:=ES l p;rw[ybT h,zcm] at e;obtain⟨v,hv⟩:=e;exact⟨_,CB hv,rfl⟩
def Nt (av aw:PG.Prog)(l:List br)(p:br):Bool:=eU av aw p&&(ck av aw p).all fun b=>decide (b∈l)
theorem CI(h:p∈l)(g:Nt av aw l p=false):kQ av aw l=false:=by
 unfold kQ;have:(l.all fun p=>Nt av aw l p)=false:=by
  rw[List.all_eq_false];exact⟨p,h,by rw[g];exact zam⟩
 show (_&&l.all fun p=>Nt av aw l p)=false;rw[this,zcU]
theorem ET(h0:(jG av,jG aw)∈l)(h:∀kv∈Nr l,∀p,kv.1=ki p->Nt av aw l p=true):kQ av aw l=true:=by
 unfold kQ;show (_&&l.all fun p=>Nt av aw l p)=true;rw[ybT h0,zc3,zbE];intro p hp;obtain⟨kv,hk,e⟩:=OP hp;exact h kv hk p e
abbrev cZ:=List (br×List Int)
noncomputable def eV (led:br->List br):Nat->cZ->br->List Int->cZ×Option (List br)
 |0,f,_,_=>(f,none)
 |n+1,f,s,g=>if s∈f.map (·.1) then (f,none) else match led s with
  |[t]=>eV led n (f++[(s,g)]) t g
  |l=>(f++[(s,g)],some l)
noncomputable def jQ (g:List Int):Option (List br)->List (List Int×List br)
 |none=>[]
 |some l=>[(g,l)]
def bI (led:br->List br)(n:Nat):cZ->cZ->cZ×List (List Int×List br)
 |f,[]=>(f,[])
 |f,(s,g)::r=>((bI led n (eV led n f s g).1 r).1,jQ g (eV led n f s g).2++(bI led n (eV led n f s g).1 r).2)
noncomputable def aZ (as:List (List Int×List br)):cZ:=as.flatMap fun a=>(zaj a.2.length).map fun i:Nat=>(a.2.getD i ((0,[]),(0,[])),a.1++[((i:Nat):Int)])
def lL (led:br->List br)(n:Nat):Nat->cZ->List (List Int×List br)->cZ
 |0,f,_=>f
 |m+1,f,as=>if as=[] then f else lL led n m (bI led n f (aZ as)).1 (bI led n f (aZ as)).2
section
variable{led:br->List br}{S:br->Prop}
structure jR(S:br->Prop)(f:cZ):Prop where
 nd:(f.map (·.1)).Nodup
 Gw:∀x∈f,S x.1
theorem jR.nil:jR S []:=⟨zbi,fun x h=>by cases h⟩
theorem jR.put(h:jR S f)(n:s ∉ f.map (·.1))(hs:S s):jR S (f++[(s,g)]):=by
 refine⟨?_,fun x hx=>?_⟩
 .rw[zaC];exact zbM.mpr ⟨h.nd,by simp,fun a ha b hb=>by rw[zas,za8,zaf] at hb;rw[hb];exact fun y=>n (by rw[<- show a=s from y];exact ha)⟩
 .rcases zan.mp hx with hx |hx
  .exact h.Gw x hx
  .rw[zaf.mp hx];exact hs
structure mP(S:br->Prop)(m:Nat)(as:List (List Int×List br)):Prop where
 Gw:∀a∈as,∀x∈a.2,S x
 len:∀a∈as,a.1.length<=m
theorem mP.nil:mP S m []:=⟨fun a h=>(by cases h),fun a h=>(by cases h)⟩
theorem mP.app(h:mP S m as)(h2:mP S m bs):mP S m (as++bs):=⟨fun a ha=>(zan.mp ha).elim (h.Gw a) (h2.Gw a),fun a ha=>(zan.mp ha).elim (h.len a) (h2.len a)⟩
theorem nM(li:∀s,S s->∀x∈led s,S x)(n:Nat):∀(f:cZ)(s:br)(g:List Int),jR S f->S s->g.length<=m->jR S (eV led n f s g).1/\mP S m (jQ g (eV led n f s g).2)/\f.length+(jQ g (eV led n f s g).2).length<=(eV led n f s g).1.length:=by
 induction n with
 |zero=>intro f s g h _ _;exact⟨h,.nil,zah _⟩
 |succ n ih=>
  intro f s g h hs hg;rw[eV];split
  .exact⟨h,.nil,zah _⟩
  .rename_i hn;have h1:=h.put (g:=g) hn hs;split
   .rename_i t e;have:=ih (f++[(s,g)]) t g h1 (li s hs t (by rw[e];exact zaf.mpr rfl)) hg;refine⟨this.1,this.2.1,?_⟩;have:=this.2.2;rw[zai,zaT] at this;lia
   .refine⟨h1,⟨fun a ha x hx=>?_,fun a ha=>?_⟩,?_⟩
    .rw[zaf.mp ha] at hx;exact li s hs x hx
    .rw[zaf.mp ha];exact hg
    .rw[zai];exact zah _
theorem mQ(li:∀s,S s->∀x∈led s,S x)(l:cZ):∀(f:cZ),jR S f->(∀x∈l,S x.1/\x.2.length<=m)->jR S (bI led n f l).1/\mP S m (bI led n f l).2/\f.length+(bI led n f l).2.length<=(bI led n f l).1.length:=by
 induction l with
 |nil=>intro f h _;exact⟨h,.nil,zah _⟩
 |cons zz r ih=>
  intro f h hl;obtain⟨s,g⟩:=zz;obtain⟨a1,a2,a3⟩:=nM li n f s g h (hl _ (zao ..)).1 (hl _ (zao ..)).2;obtain⟨b1,b2,b3⟩:=ih _ a1 fun x hx=>hl x (zag _ hx);refine⟨b1,a2.app b2,?_⟩;show f.length+(jQ g (eV led n f s g).2++(bI led n (eV led n f s g).1 r).2).length<=_;rw[zai];show _<=(bI led n (eV led n f s g).1 r).1.length;lia
theorem rQ(l:cZ):∀(k:cZ)(f:cZ),bI led n f (l++k)=((bI led n (bI led n f l).1 k).1,(bI led n f l).2++(bI led n (bI led n f l).1 k).2):=by
 induction l with
 |nil=>intro k f;rfl
 |cons zz r ih=>
  intro k f;obtain⟨s,g⟩:=zz;rw[zcH,bI,ih k];simp only[bI,zaY]
theorem EU:bI led n f [(s,g)]=((eV led n f s g).1,jQ g (eV led n f s g).2):=by simp only[bI,zaM]
theorem kR(h:mP S m as):∀x∈aZ as,S x.1/\x.2.length<=m+1:=by
 intro x hx;obtain⟨a,ha,hx⟩:=zaF.mp hx;obtain⟨i,hi,rfl⟩:=zae.mp hx;have hi:=zav.mp hi;refine⟨h.Gw a ha _ ?_,?_⟩
 .rw[zal,zad hi];exact zaw hi
 .have:=h.len a ha;rw[zai,zaT];lia
noncomputable def eG (a:List Int×List br)(j:Nat):cZ:=(zaj j).map fun i:Nat=>(a.2.getD i ((0,[]),(0,[])),a.1++[((i:Nat):Int)])
theorem uh:aZ (as++[a])=aZ as++eG a a.2.length:=by
 unfold aZ;rw[zbY];simp only[zbN,zdd,zaM];rfl
theorem yG:eG a (j+1)=eG a j++[(a.2.getD j ((0,[]),(0,[])),a.1++[((j:Nat):Int)])]:=by
 unfold eG;rw[za7,zaC];rfl
theorem CJ(h1:∀x∈a.2,S x)(h2:a.1.length<=m)(hj:j<=a.2.length):∀x∈eG a j,S x.1/\x.2.length<=m+1:=by
 intro x hx;obtain⟨i,hi,rfl⟩:=zae.mp hx;have hi:=zav.mp hi;refine⟨h1 _ ?_,?_⟩
 .rw[zal,zad (by lia)];exact zaw (by lia)
 .rw[zai,zaT];lia
theorem IA:lL led n m f []=f:=by
 cases m
 .rfl
 .rw[lL,ybS rfl]
end
section
variable(led:br->List br)(s0:br)
inductive vY:br->List Int->Prop
 |start:vY s0 []
 |one {s t g}:vY s g->led s=[t]->vY t g
 |many {s t g} {i:Nat}:vY s g->(led s).length≠1->(led s)[i]?=some t->vY t (g++[(i:Int)])
end
section
variable{led:br->List br}{s0:br}
theorem vY.dg(hl:∀s,(led s).length<=10)(h:vY led s0 s g):Dg g:=by
 induction h with
 |start=>exact fun d h=>by cases h
 |one _ _ ih=>exact ih
 |@many s t g i _ _ e ih=>
  intro d hd;rcases zan.mp hd with hd |hd
  .exact ih d hd
  .rw[zaf.mp hd];have:=(zap.mp e).1;have:=hl s;lia
structure qy(led:br->List br)(s0:br)(k:Nat)(f l:cZ)(as:List (List Int×List br)):Prop where
 Vw:f.Pairwise fun x y=>nA 0 x.2<=nA 0 y.2
 fl:∀x∈f,∀y∈l,nA 0 x.2<=nA 0 y.2
 ll:l.Pairwise fun x y=>nA 0 x.2<nA 0 y.2
 al:∀a∈as,∀y∈l,nA 0 a.1<nA 0 y.2
 aa:as.Pairwise fun a b=>nA 0 a.1<nA 0 b.1
 fk:∀x∈f,x.2.length<=k
 lk:∀x∈l,x.2.length=k
 ak:∀a∈as,a.1.length=k
 sf:∀x∈f,vY led s0 x.1 x.2
 sl:∀x∈l,vY led s0 x.1 x.2
 sa:∀a∈as,∃s,vY led s0 s a.1/\a.2=led s/\(led s).length≠1
 c1:∀x∈f,∀t,led x.1=[t]->(∃y∈f,y.1=t/\nA 0 y.2<=nA 0 x.2)\/(t,x.2)∈l
 c2:∀x∈f,(led x.1).length≠1->∀(i:Nat) t,(led x.1)[i]?=some t->(∃y∈f,y.1=t/\nA 0 y.2<=nA 0 (x.2++[(i:Int)]))\/(t,x.2++[(i:Int)])∈l\/(x.2,led x.1)∈as
 st:(∃y∈f,y.1=s0/\nA 0 y.2<=0)\/(s0,[])∈l
theorem qy.start:qy led s0 0 [] [(s0,[])] [] where
 Vw:=.nil
 fl:=fun x h=>by cases h
 ll:=zcy _ _
 al:=fun x h=>by cases h
 aa:=.nil
 fk:=fun x h=>by cases h
 lk:=fun x h=>by rw[zaf.mp h];rfl
 ak:=fun x h=>by cases h
 sf:=fun x h=>by cases h
 sl:=fun x h=>by rw[zaf.mp h];exact .start
 sa:=fun x h=>by cases h
 c1:=fun x h=>by cases h
 c2:=fun x h=>by cases h
 st:=.inr (zaf.mpr rfl)
section
variable{k:Nat}{f r:cZ}{s:br}{g:List Int}{as:List (List Int×List br)}
theorem qy.skip(h:qy led s0 k f ((s,g)::r) as)(hs:s∈f.map (·.1)):qy led s0 k f r as:=by
 obtain⟨y,hy,ey⟩:=zae.mp hs;have ny:=h.fl y hy (s,g) (zao ..);refine⟨h.Vw,fun x hx z hz=>h.fl x hx z (zag _ hz),(zbv.mp h.ll).2,fun a ha z hz=>h.al a ha z (zag _ hz),h.aa,h.fk,fun x hx=>h.lk x (zag _ hx),h.ak,h.sf,fun x hx=>h.sl x (zag _ hx),h.sa,fun x hx t e=>?_,fun x hx n i t e=>?_,?_⟩
 .rcases h.c1 x hx t e with z |z
  .exact .inl z
  .rcases zak.mp z with z |z
   .cases z;exact .inl ⟨y,hy,ey,ny⟩
   .exact .inr z
 .rcases h.c2 x hx n i t e with z |z |z
  .exact .inl z
  .rcases zak.mp z with z |z
   .cases z;exact .inl ⟨y,hy,ey,ny⟩
   .exact .inr (.inl z)
  .exact .inr (.inr z)
 .rcases h.st with z |z
  .exact .inl z
  .rcases zak.mp z with z |z
   .cases z;exact .inl ⟨y,hy,ey,ny⟩
   .exact .inr z
theorem qy.put(h:qy led s0 k f ((s,g)::r) as)(hl:l=r/\bs=[(g,led s)]/\(led s).length≠1\/∃t,led s=[t]/\l=(t,g)::r/\bs=[]):qy led s0 k (f++[(s,g)]) l (as++bs):=by
 have hg:=zao (a:=(s,g)) (l:=r);obtain⟨gr,rr⟩:=zbv.mp h.ll;have inr:∀x∈r,x∈l:=fun x hx=>by
  rcases hl with ⟨rfl,_⟩ |⟨t,_,rfl,_⟩
  .exact hx
  .exact zag _ hx
 have Zu:∀x∈l,x∈r\/x.2=g/\led s=[x.1]:=fun x hx=>by
  rcases hl with ⟨rfl,_⟩ |⟨t,e,rfl,_⟩
  .exact .inl hx
  .rcases zak.mp hx with rfl |hx
   .exact .inr ⟨rfl,e⟩
   .exact .inl hx
 have bin:∀a∈bs,a=(g,led s)/\l=r/\(led s).length≠1:=fun a ha=>by
  rcases hl with ⟨e,rfl,n⟩ |⟨t,e,rfl,rfl⟩
  .exact⟨zaf.mp ha,e,n⟩
  .cases ha
 have nf:∀x∈f++[(s,g)],nA 0 x.2<=nA 0 g:=fun x hx=>by
  rcases zan.mp hx with hx |hx
  .exact h.fl x hx _ hg
  .rw[zaf.mp hx];exact za0 _
 have ng:∀y∈l,nA 0 g<=nA 0 y.2:=fun y hy=>by
  rcases Zu y hy with z |⟨z,_⟩
  .exact Int.le_of_lt (gr y z)
  .rw[z];exact za0 _
 have me:(s,g)∈f++[(s,g)]:=zaK _ (zaf.mpr rfl);have up:∀{P:br×List Int->Prop},(∃y∈f,P y)->∃y∈f++[(s,g)],P y:=fun ⟨y,hy,p⟩=>⟨y,zbb _ hy,p⟩
 refine⟨zcM.mpr ⟨h.Vw,zcy _ _,fun x hx y hy=>?_⟩,fun x hx y hy=>zcN (nf x hx) (ng y hy),?_,?_,?_,?_,?_,?_,?_,?_,?_,fun x hx t e=>?_,fun x hx n i t e=>?_,?_⟩
 .rw[zaf.mp hy];exact h.fl x hx _ hg
 .rcases hl with ⟨rfl,_⟩ |⟨t,_,rfl,_⟩
  .exact rr
  .exact zbv.mpr ⟨fun y hy=>gr y hy,rr⟩
 .intro a ha y hy;rcases zan.mp ha with ha |ha
  .exact Int.lt_of_lt_of_le (h.al a ha _ hg) (ng y hy)
  .obtain⟨rfl,rfl,_⟩:=bin a ha;exact gr y hy
 .refine zcM.mpr ⟨h.aa,?_,fun a ha b hb=>?_⟩
  .rcases hl with ⟨_,rfl,_⟩ |⟨_,_,_,rfl⟩
   .exact zcy _ _
   .exact .nil
  .rw[(bin b hb).1];exact h.al a ha _ hg
 .intro x hx;rcases zan.mp hx with hx |hx
  .exact h.fk x hx
  .rw[zaf.mp hx];exact zdC (h.lk _ hg)
 .intro x hx;rcases Zu x hx with z |⟨z,_⟩
  .exact h.lk x (zag _ z)
  .rw[z];exact h.lk _ hg
 .intro a ha;rcases zan.mp ha with ha |ha
  .exact h.ak a ha
  .rw[(bin a ha).1];exact h.lk _ hg
 .intro x hx;rcases zan.mp hx with hx |hx
  .exact h.sf x hx
  .rw[zaf.mp hx];exact h.sl _ hg
 .intro x hx;rcases Zu x hx with z |⟨z,e⟩
  .exact h.sl x (zag _ z)
  .rw[z];exact .one (h.sl _ hg) e
 .intro a ha;rcases zan.mp ha with ha |ha
  .exact h.sa a ha
  .obtain⟨rfl,_,n⟩:=bin a ha;exact⟨s,h.sl _ hg,rfl,n⟩
 .rcases zan.mp hx with hx |hx
  .rcases h.c1 x hx t e with z |z
   .exact .inl (up z)
   .rcases zak.mp z with z |z
    .cases z;exact .inl ⟨_,me,rfl,za0 _⟩
    .exact .inr (inr _ z)
  .rw[zaf.mp hx] at e |-;rcases hl with ⟨_,_,n⟩ |⟨t',e',rfl,_⟩
   .exact ybX (by rw[show led s=[t] from e];rfl) n
   .rw[show led s=[t] from e] at e';cases e';exact .inr (zao ..)
 .rcases zan.mp hx with hx |hx
  .rcases h.c2 x hx n i t e with z |z |z
   .exact .inl (up z)
   .rcases zak.mp z with z |z
    .cases z;exact .inl ⟨_,me,rfl,za0 _⟩
    .exact .inr (.inl (inr _ z))
   .exact .inr (.inr (zbb _ z))
  .rw[zaf.mp hx] at n |-;rcases hl with ⟨_,rfl,_⟩ |⟨t',e',_⟩
   .exact .inr (.inr (zaK _ (zaf.mpr rfl)))
   .exact ybX (by rw[show led s=[t'] from e'];rfl) n
 .rcases h.st with z |z
  .exact .inl (up z)
  .rcases zak.mp z with z |z
   .cases z;exact .inl ⟨_,me,rfl,za0 _⟩
   .exact .inr (inr _ z)
end
variable{S:br->Prop}{M:Nat}
theorem qy.Zv(li:∀s,S s->∀x∈led s,S x)(hM:∀f:cZ,jR S f->f.length<=M)(n:Nat):∀(f r:cZ)(s:br)(g:List Int)(as:List (List Int×List br)),M<f.length+n->jR S f->S s->qy led s0 k f ((s,g)::r) as->qy led s0 k (eV led n f s g).1 r (as++jQ g (eV led n f s g).2):=by
 induction n with
 |zero=>intro f r s g as hn o _ _;exact ybX (hM f o) (by lia)
 |succ n ih=>
  intro f r s g as hn o hs h;rw[L2.eV];split
  .rename_i zw;show qy led s0 k f r (as++[]);rw[zaM];exact h.skip zw
  .rename_i zw;have o1:=o.put (g:=g) zw hs;split
   .rename_i t e;have h2:=h.put (l:=(t,g)::r) (bs:=[]) (.inr ⟨t,e,rfl,rfl⟩);rw[zaM] at h2;exact ih _ r t g as (by rw[zai,zaT];lia) o1 (li s hs t (by rw[e];exact zaf.mpr rfl)) h2
   .rename_i l1 ne;refine h.put (.inl ⟨rfl,rfl,fun z=>?_⟩);obtain⟨t,e⟩:=zb6.mp z;exact ne t e
theorem qy.all(li:∀s,S s->∀x∈led s,S x)(hM:∀f:cZ,jR S f->f.length<=M)(hn:M<n)(l:cZ):∀(f:cZ)(as:List (List Int×List br)),jR S f->(∀x∈l,S x.1)->qy led s0 k f l as->qy led s0 k (bI led n f l).1 [] (as++(bI led n f l).2):=by
 induction l with
 |nil=>
  intro f as _ _ h;show qy led s0 k f [] (as++[]);rw[zaM];exact h
 |cons zz r ih=>
  intro f as o hl h;obtain⟨s,g⟩:=zz;have h1:=qy.Zv li hM n f r s g as (by lia) o (hl _ (zao ..)) h;have o1:=(nM li (m:=g.length) n f s g o (hl _ (zao ..)) (zah _)).1;have:=ih _ _ o1 (fun x hx=>hl x (zag _ hx)) h1;rw[zaY] at this;exact this
theorem qy.level(hl:∀s,(led s).length<=10)(h:qy led s0 k f [] as):qy led s0 (k+1) f (aZ as) []:=by
 have mem:∀x∈aZ as,∃a∈as,∃i:Nat,i<a.2.length/\a.2[i]?=some x.1/\x.2=a.1++[(i:Int)]:=fun x hx=>by
  obtain⟨a,ha,hx⟩:=zaF.mp hx;obtain⟨i,hi,rfl⟩:=zae.mp hx;have hi:=zav.mp hi;exact⟨a,ha,i,hi,by rw[zal,zad hi];rfl,rfl⟩
 have sl:∀x∈aZ as,vY led s0 x.1 x.2:=fun x hx=>by
  obtain⟨a,ha,i,_,e,e2⟩:=mem x hx;obtain⟨s,c,es,n⟩:=h.sa a ha;rw[e2];rw[es] at e;exact .many c n e
 have lk:∀x∈aZ as,x.2.length=k+1:=fun x hx=>by
  obtain⟨a,ha,i,_,_,e2⟩:=mem x hx;rw[e2,zai,h.ak a ha];rfl
 have sn:∀(g:List Int) (i:Int),nA 0 (g++[i])=10*nA 0 g+i+1:=fun g i=>by rw[AG];rfl
 refine⟨h.Vw,fun x hx y hy=>?_,?_,fun a ha=>(by cases ha),.nil,fun x hx=>Nat.le_succ_of_le (h.fk x hx),lk,fun a ha=>(by cases ha),h.sf,sl,fun a ha=>(by cases ha),fun x hx t e=>?_,fun x hx n i t e=>?_,?_⟩
 .exact Int.le_of_lt (Vv (by have:=h.fk x hx;have:=lk y hy;lia) ((h.sf x hx).dg hl) ((sl y hy).dg hl))
 .have key:∀bs:List (List Int×List br),(∀a∈bs,a.2.length<=10)->bs.Pairwise (fun a b=>nA 0 a.1<nA 0 b.1)->(aZ bs).Pairwise fun x y=>nA 0 x.2<nA 0 y.2:=by
   intro bs hb p;unfold aZ;refine List.pairwise_flatMap.mpr ⟨fun a ha=>?_,p.imp_of_mem fun {a b} ha UU q x hx y hy=>?_⟩
   .refine zaL.mpr (zbG.imp fun {i j} hij=>?_);show nA 0 (a.1++[(i:Int)])<nA 0 (a.1++[(j:Int)]);rw[sn,sn];lia
   .obtain⟨i,hi,rfl⟩:=zae.mp hx;obtain⟨j,hj,rfl⟩:=zae.mp hy;have hi:=zav.mp hi;have:=hb a ha;show nA 0 (a.1++[(i:Int)])<nA 0 (b.1++[(j:Int)]);rw[sn,sn];lia
  exact key as (fun a ha=>by obtain⟨s,_,e,_⟩:=h.sa a ha;rw[e];exact hl s) h.aa
 .exact .inl ((h.c1 x hx t e).resolve_right fun z=>by cases z)
 .rcases h.c2 x hx n i t e with z |z |z
  .exact .inl z
  .cases z
  .refine .inr (.inl (zaF.mpr ⟨_,z,zae.mpr ⟨i,zav.mpr (zap.mp e).1,?_⟩⟩));show (((led x.1).getD i ((0,[]),(0,[])),x.2++[(i:Int)]):br×List Int)=_;rw[zal,e];rfl
 .exact .inl (h.st.resolve_right fun z=>by cases z)
theorem qy.Vx(li:∀s,S s->∀x∈led s,S x)(hl:∀s,(led s).length<=10)(hM:∀f:cZ,jR S f->f.length<=M)(hn:M<n)(m:Nat):∀(k:Nat)(f:cZ)(as:List (List Int×List br)),(as≠[]->M<f.length+m)->jR S f->mP S k as->qy led s0 k f [] as->∃k',qy led s0 k' (lL led n m f as) [] []:=by
 induction m with
 |zero=>
  intro k f as hm o _ h;by_cases e:as=[]
  .subst e;exact⟨k,h⟩
  .exact ybX (hM f o) (by have:=hm e;lia)
 |succ m ih=>
  intro k f as hm o oa h;rw[L2.lL];split
  .rename_i e;subst e;exact⟨k,h⟩
  .rename_i e;have q:=mQ li (n:=n) (m:=k+1) (aZ as) f o (kR oa);have h1:=qy.all li hM hn (aZ as) f [] o (fun x hx=>(kR oa x hx).1) (h.level hl);refine ih (k+1) _ _ (fun e2=>?_) q.1 q.2.1 h1;have:=q.2.2;have:=hm e;have:0<(bI led n f (aZ as)).2.length:=zcf.mpr e2;lia
theorem qy.Vy(h:qy led s0 k f [] [])(c:vY led s0 s g):∃y∈f,y.1=s/\nA 0 y.2<=nA 0 g:=by
 have sn:∀(g:List Int) (i:Int),nA 0 (g++[i])=10*nA 0 g+i+1:=fun g i=>by rw[AG];rfl
 induction c with
 |start=>exact h.st.resolve_right fun z=>by cases z
 |one _ e ih=>
  obtain⟨y,hy,ey,ny⟩:=ih;obtain⟨z,hz,ez,nz⟩:=(h.c1 y hy _ (by rw[ey];exact e)).resolve_right fun z=>by cases z
  exact⟨z,hz,ez,zcN nz ny⟩
 |many _ n e ih=>
  obtain⟨y,hy,ey,ny⟩:=ih;obtain⟨z,hz,ez,nz⟩:=(h.c2 y hy (by rw[ey];exact n) _ _ (by rw[ey];exact e)).resolve_right fun z=>z.elim (fun z=>by cases z) fun z=>by cases z
  refine⟨z,hz,ez,zcN nz ?_⟩;rw[sn,sn];lia
end
theorem CK:aZ (a++b)=aZ a++aZ b:=zbY
theorem vA(led:br->List br)(n:Nat):∀(f:cZ)(s:br)(g:List Int),f.length<=(eV led n f s g).1.length:=by
 induction n with
 |zero=>intro f s g;exact zah _
 |succ n ih=>
  intro f s g;rw[eV];split
  .exact zah _
  .split
   .have:=ih (f++[(s,g)]) (by assumption) g;rw[zai,zaT] at this;exact Nat.le_of_succ_le this
   .rw[zai];exact zbo _ _
theorem pN(led:br->List br)(n:Nat)(l:cZ):∀(f:cZ),f.length<=(bI led n f l).1.length:=by
 induction l with
 |nil=>intro f;exact zah _
 |cons x r ih=>
  intro f;rw[bI];exact zax (vA led n f x.1 x.2) (ih _)
theorem rR(led:br->List br)(n:Nat)(m:Nat):∀(f:cZ)(as:List (List Int×List br)),f.length<=(lL led n m f as).length:=by
 induction m with
 |zero=>intro f as;exact zah _
 |succ m ih=>
  intro f as;rw[lL];split
  .exact zah _
  .exact zax (pN led n _ f) (ih _ _)
theorem CL(ha:as[i]?=some a)(hj:j+1<=a.2.length):∃r,aZ as=(aZ (as.take i)++eG a (j+1))++r:=by
 have e:as=(as.take i++[a])++as.drop (i+1):=by
  have h:=(zbl (i+1) as).symm;rw[zcB,ha] at h;exact h
 obtain⟨k,ek⟩:∃k,a.2.length=(j+1)+k:=⟨a.2.length-(j+1),by lia⟩
 have e2:eG a a.2.length=eG a (j+1)++((zaj k).map ((j+1) + ·)).map fun i:Nat=>(a.2.getD i ((0,[]),(0,[])),a.1++[((i:Nat):Int)]):=by
  rw[ek];unfold eG;rw[List.range_add,zaC]
 refine⟨(((zaj k).map ((j+1) + ·)).map fun i:Nat=>(a.2.getD i ((0,[]),(0,[])),a.1++[((i:Nat):Int)]))++aZ (as.drop (i+1)),?_⟩;rw[<- zaY,zaY (aZ (as.take i)),<- e2,<- uh];show _=aZ _++aZ _;rw[<- CK,<- e]
theorem CM{O L:Type}(ys:List L)(xs:List O):(xs.flatMap fun a=>ys.map fun b=>(a,b)).length=xs.length*ys.length:=by
 induction xs with
 |nil=>simp
 |cons x xs ih=>rw[zbN,zai,zac,ih,zaq,zdc,zcL]
theorem IB{l:List br}(nd:l.Nodup)(h:∀p∈l,wB av aw p):l.length<=dh av*dh aw:=by
 have:=eB l ((PG.univ (zN av) (i4 av)).flatMap fun a=>(PG.univ (zN aw) (i4 aw)).map fun b=>(a,b)) nd fun p hp=>zaF.mpr ⟨p.1,(h p hp).one.mem,zae.mpr ⟨p.2,(h p hp).two.mem,rfl⟩⟩;rw[CM] at this;exact this
theorem Gx(av aw:PG.Prog)(p:br):(ck av aw p).length<=10:=by
 unfold ck;split
 .exact zaN _
 .split
  .simp
  .rw[zbx];refine zax (zdj _ _) ?_;rename_i a _ _ _;unfold lD;split
   .simp
   .split
    .simp
    .cases (fN av a.1 a.2 0).1<;>simp
  .exact zaN _
theorem CN{S:br->Prop}(li:∀s,S s->∀x∈led s,S x)(m:Nat):∀(k:Nat)(f:cZ)(as:List (List Int×List br)),jR S f->mP S k as->jR S (lL led n m f as):=by
 induction m with
 |zero=>intro k f as h _;exact h
 |succ m ih=>
  intro k f as h h2;rw[lL];split
  .exact h
  .have:=mQ li (n:=n) (m:=k+1) (aZ as) f h (kR h2);exact ih (k+1) _ _ this.1 this.2.1
def fe (av aw:PG.Prog):Nat:=dh av*dh aw
def gN (av aw:PG.Prog):br:=(jG av,jG aw)
def Vz (av aw:PG.Prog):cZ×Option (List br):=eV (ck av aw) (fe av aw+1) [] (gN av aw) []
def aO (av aw:PG.Prog):cZ:=lL (ck av aw) (fe av aw+1) (fe av aw+2) (Vz av aw).1 (jQ [] (Vz av aw).2)
def i5 (av aw:PG.Prog)(f:cZ):Option (List Int):=(f.find? fun x=>!eU av aw x.1).map (·.2)
theorem IC:i5 av aw (f++[(p,g)])=(i5 av aw f).or (if eU av aw p=true then none else some g):=by
 unfold i5;rw[zc7];cases e:f.find? fun x=>!eU av aw x.1 with
 |some x=>rfl
 |none=>cases h:eU av aw p<;>simp[h]
section
variable{av aw:PG.Prog}
theorem AM(d1:bV av)(d2:bV aw):wB av aw (gN av aw):=⟨cY.first d1,cY.first d2⟩
theorem pO(h:jR (wB av aw) f):f.length<=fe av aw:=by
 have:=IB h.nd fun s hs=>by obtain⟨x,hx,rfl⟩:=zae.mp hs;exact h.Gw x hx
 rwa [zac] at this
theorem mR(d1:bV av)(d2:bV aw):jR (wB av aw) (aO av aw):=by
 have:=nM (fun s h=>xO d1 d2 h) (m:=0) (fe av aw+1) [] (gN av aw) [] .nil (AM d1 d2) (zah _);exact CN (fun s h=>xO d1 d2 h) _ 0 _ _ this.1 this.2.1
theorem qm(d1:bV av)(d2:bV aw):∃k,qy (ck av aw) (gN av aw) k (aO av aw) [] []:=by
 have li:∀s,wB av aw s->∀x∈ck av aw s,wB av aw x:=fun s h=>xO d1 d2 h;have g:=nM li (m:=0) (fe av aw+1) [] (gN av aw) [] .nil (AM d1 d2) (zah _);have h:=qy.Zv li (fun f=>pO) (fe av aw+1) [] [] (gN av aw) [] [] (by simp) .nil (AM d1 d2) (qy.start (led:=ck av aw));exact qy.Vx li (Gx av aw) (fun f=>pO) (zcG _) (fe av aw+2) 0 _ _ (fun _=>by lia) g.1 g.2.1 h
theorem vZ(d1:bV av)(d2:bV aw)(h:i5 av aw (aO av aw)=none):kQ av aw ((aO av aw).map (·.1))=true:=by
 obtain⟨k,b⟩:=qm d1 d2;unfold kQ;rw[za2,decide_eq_true_eq,zbE];refine⟨?_,fun p hp=>?_⟩
 .obtain⟨y,hy,e,_⟩:=b.st.resolve_right fun z=>by cases z
  exact zae.mpr ⟨y,hy,e⟩
 obtain⟨x,hx,rfl⟩:=zae.mp hp;unfold i5 at h;rw[zcD,zcW] at h;have:=h x hx;rw[za2,zbE];refine⟨by simpa using this,fun q hq=>ybT ?_⟩;by_cases l1:(ck av aw x.1).length=1
 .obtain⟨t,e⟩:=zb6.mp l1;rw[e] at hq;cases zaf.mp hq;obtain⟨y,hy,ey,_⟩:=(b.c1 x hx _ e).resolve_right fun z=>by cases z
  exact zae.mpr ⟨y,hy,ey⟩
 .obtain⟨i,hi⟩:=zcK.mp hq;obtain⟨y,hy,ey,_⟩:=(b.c2 x hx l1 i q hi).resolve_right fun z=>z.elim (fun z=>by cases z) fun z=>by cases z
  exact zae.mpr ⟨y,hy,ey⟩
end
def eW (K:zaa)(H:Hp)(f:cZ)(aB:List ((bA×bA)×V)):Prop:=yao (fun (x:br×List Int) (kv:(bA×bA)×V)=>kv.1=ki x.1/\∃a,kv.2=.ref a/\bH K H a (x.2.map V.int)) f aB
section
variable{K:zaa}{H H':Hp}
theorem eW.imp(h:eW K H f aB)(t:∀a xs,bH K H a xs->bH K H' a xs):eW K H' f aB:=yao.Af h fun _ _ ⟨e,a,e2,q⟩=>⟨e,a,e2,t _ _ q⟩
theorem eW.Ts:∀{aB:List ((bA×bA)×V)},eW K H f aB->∀s:br,(cf aB (ki s)).isSome=decide (s∈f.map (·.1)):=by
 induction f with
 |nil=>intro _ h s;cases h;rfl
 |cons x r ih=>
  intro _ h s;cases h with
  |@cons _ kv _ _ a b=>
   obtain⟨k,v⟩:=kv;obtain⟨e,_⟩:=a;simp only at e;subst e;by_cases z:x.1=s
   .rw[cn (by rw[z]),zas,z];simp
   .rw[cu (fun y=>z (pM y)),ih b s,zas];simp[Ne.symm z]
theorem eW.len(h:eW K H f aB):aB.length=f.length:=(yah h).symm
theorem eW.put(h:eW K H f aB)(n:s ∉ f.map (·.1))(q:bH K H a (g.map V.int)):eW K H (f++[(s,g)]) (putK aB (ki s) (.ref a)):=by
 unfold putK;rw[iw,h.Ts,ybU n,ybR zam];exact ybK h ⟨rfl,a,rfl,q⟩
theorem CO:∀{aB:List ((bA×bA)×V)}{i:Nat}{x:br×List Int},eW K H f aB->(f.map (·.1)).Nodup->f[i]?=some x->∃a,cf aB (ki x.1)=some (.ref a)/\bH K H a (x.2.map V.int):=by
 induction f with
 |nil=>intro _ _ _ h _ e;simp at e
 |cons y r ih=>
  intro _ i x h nd e;cases h with
  |@cons _ kv _ _ p b=>
   obtain⟨k,v⟩:=kv;obtain⟨ek,a,ea,qa⟩:=p;simp only at ek ea;subst ek ea;rw[zas,zaV] at nd;cases i with
   |zero=>cases e;exact⟨a,cn rfl,qa⟩
   |succ i=>
    rw[zbC] at e;rw[cu (fun z=>nd.1 (zae.mpr ⟨x,zaD e,(pM z).symm⟩))];exact ih b nd.2 e
end
def EW (K:zaa)(H0 H:Hp)(us:List V)(gv:V):Option (List br)->Prop
 |none=>us=[]
 |some sts=>∃ta la vB,us=[.ref ta]/\bH K H ta [gv,.ref la]/\H0 la=none/\H la=some (.lst vB)/\gH K H sts vB
def ei (K:zaa)(H:Hp)(as:List (List Int×List br))(us:List V):Prop:=yao (fun (a:List Int×List br) (v:V)=>∃ta ga la vB,v=.ref ta/\bH K H ta [.ref ga,.ref la]/\bH K H ga (a.1.map V.int)/\H la=some (.lst vB)/\gH K H a.2 vB) as us
section
variable{K:zaa}{H H':Hp}
theorem ei.imp(h:ei K H as us)(t:∀a xs,bH K H a xs->bH K H' a xs)(l:∀a xs,H a=some (.lst xs)->H' a=some (.lst xs)):ei K H' as us:=
 yao.Af h fun _ _ ⟨ta,ga,la,vB,e,q1,q2,q3,q4⟩=>⟨ta,ga,la,vB,e,t _ _ q1,t _ _ q2,l _ _ q3,q4.oX t⟩
theorem ei.mono(h:ei K H as us)(s:ar H H'):ei K H' as us:=h.imp (fun a xs q=>s.cO q) fun a xs q=>s _ _ q
theorem ei.of(h:EW K H0 H us (.ref ga) o)(q:bH K H ga (g.map V.int))(n:H0 b≠none)(t:∀a xs,bH K H a xs->bH K (wo H b) a xs):ei K (wo H b) (jQ g o) us:=by
 cases o with
 |none=>rw[show us=[] from h];exact .nil
 |some l=>
  obtain⟨ta,la,vB,rfl,q1,n1,q2,q3⟩:=h;refine .cons ⟨ta,ga,la,vB,rfl,t _ _ q1,t _ _ q,?_,q3.oX t⟩ .nil;rw[bE (fun z=>n (by rw[<- z];exact n1))];exact q2
theorem ei.of1(h:EW K H0 H us (.ref ga) o)(q:bH K H ga (g.map V.int)):ei K H (jQ g o) us:=by
 cases o with
 |none=>rw[show us=[] from h];exact .nil
 |some l=>
  obtain⟨ta,la,vB,rfl,q1,n1,q2,q3⟩:=h;exact .cons ⟨ta,ga,la,vB,rfl,q1,q,q2,q3⟩ .nil
end
def o4 (a b c:zdF)(H H':Hp):Prop:=∀d o,d≠a->d≠b->d≠c->H d=some o->H' d=some o
theorem o4.refl:o4 a b c H H:=fun _ _ _ _ _ h=>h
theorem o4.trans(u:o4 a b c H H1)(v:o4 a b c H1 H2):o4 a b c H H2:=fun d o n m k h=>v d o n m k (u d o n m k h)
theorem o4.of(s:ar H H1):o4 a b c H H1:=fun d o _ _ _ h=>s d o h
theorem o4.one(s:bf a H H1):o4 a b c H H1:=fun d o n _ _ h=>s d o n h
theorem o4.two(s:oK b c H H1):o4 a b c H H1:=fun d o _ n m h=>s d o n m h
theorem o4.Zw(u:o4 a b c H H1)(h:H a=none):oK b c H H1:=fun d o n m e=>u d o (ag e h) n m e
theorem o4.free(u:o4 a b c H H1)(n:H1 l=none)(e1:H1 a=some x)(e2:H1 b=some y)(e3:H1 c=some z):H l=none:=by
 cases e:H l with
 |none=>rfl
 |some o=>rw[u l o (ag e1 n).symm (ag e2 n).symm (ag e3 n).symm e] at n;cases n
theorem bH.up3{K:zaa}(h:bH K H a xs)(h0:H D=some (.ext χ))(h1:H s1=some (.ext φ))(h2:H s2=some (.ext M))(u:o4 D s1 s2 H H'):bH K H' a xs:=by
 have k:∀{o:HO},H a=some o->(∀M,o≠.ext M)->H' a=some o:=fun {o} e n=>u _ _ (bz e h0 (n χ)) (bz e h1 (n φ)) (bz e h2 (n M)) e;rcases h with (q |⟨o',q⟩) |q
 .exact .inl (.inl (k q (by intro _ z;cases z)))
 .exact .inl (.inr ⟨o',k q (by intro _ z;cases z)⟩)
 .exact .inr q
def Mb (D a b:zdF)(H:Hp):Hp:=wo (wo (wo H D) a) b
theorem Sk(u:o4 D a b H H'):ar (Mb D a b H) (Mb D a b H'):=fun c o e=>by
 have nb:c≠b:=fun z=>by rw[z] at e;unfold Mb at e;rw[cW] at e;cases e
 unfold Mb at *;rw[bE nb] at e |-;have na:c≠a:=fun z=>by rw[z,cW] at e;cases e
 rw[bE na] at e |-;have nD:c≠D:=fun z=>by rw[z,cW] at e;cases e
 rw[bE nD] at e |-;exact u c o nD na nb e
theorem Gy(e:Mb D a b H c=some o):H c=some o/\c≠D/\c≠a/\c≠b:=by
 have nb:c≠b:=fun z=>by rw[z] at e;unfold Mb at e;rw[cW] at e;cases e
 unfold Mb at e;rw[bE nb] at e;have na:c≠a:=fun z=>by rw[z,cW] at e;cases e
 rw[bE na] at e;have nD:c≠D:=fun z=>by rw[z,cW] at e;cases e
 rw[bE nD] at e;exact⟨e,nD,na,nb⟩
theorem Sl:ar (Mb D a b H) H:=fun _ _ e=>(Gy e).1
def eX (st:Stmt):Expr:=match eE st with
 |_ :: .Assign _ (.Call _ [_,l] _ _) _::_=>l
 |_=>.Constant .none 0 ⟨0,0,0,0⟩
def ui (P:zdR)(w:zdH)(K:zaa)(CC CW c:zdF)(H:Hp)(b w1 s1 w2 s2:zdF)(av aw:PG.Prog):Prop:=oM P w K CC CW (upd H c (.ext fun _=>True)) b w1 s1 w2 s2 av aw
section
variable{P:zdR}{w:zdH}{K:zaa}{CC CW:zdF}{H H':Hp}{b w1 s1 w2 s2 c:zdF}{av aw:PG.Prog}
theorem ui.new(h:oM P w K CC CW H b w1 s1 w2 s2 av aw)(n:H c=none):ui P w K CC CW c (upd H c o) b w1 s1 w2 s2 av aw:=by
 unfold ui;have e:upd (upd H c o) c (.ext fun _=>True)=upd H c (.ext fun _=>True):=funext fun d=>by
  by_cases z:d=c
  .rw[z,ah,ah]
  .rw[au z,au z,au z]
 rw[e];exact h.mono (ar.new n _)
theorem ui.get(h:ui P w K CC CW c H b w1 s1 w2 s2 av aw)(n1:s1≠c)(n2:s2≠c)(u:bf c H H'):oM P w K CC CW H' b w1 s1 w2 s2 av aw:=oM.other h ah n1 n2 fun d x n e=>by rw[au n] at e;exact u d x n e
theorem ui.of(h:oM P w K CC CW H b w1 s1 w2 s2 av aw)(hc:H c=some (.ext φ))(n1:s1≠c)(n2:s2≠c)(u:bf c H H'):ui P w K CC CW c H' b w1 s1 w2 s2 av aw:=h.other hc n1 n2 fun d x n e=>by rw[au n];exact u d x n e
theorem ui.mono(h:ui P w K CC CW c H b w1 s1 w2 s2 av aw)(s:ar H H'):ui P w K CC CW c H' b w1 s1 w2 s2 av aw:=oM.mono h fun d x e=>by
 by_cases z:d=c
 .rw[z,ah] at e |-;exact e
 .rw[au z] at e |-;exact s _ _ e
end
structure GC(P:zdR)(w:zdH)(K:zaa)(CC CW:zdF)(l:Expr)(qual:Str)(H:Hp)(D b w1 s1 w2 s2 fo cc:zdF)(ip:Obj)(av aw:PG.Prog):Prop where
 wt:oM P w K CC CW H b w1 s1 w2 s2 av aw
 d1:bV av
 d2:bV aw
 m1:dh av<=100000
 m2:dh aw<=100000
 lam:OI "both" qual l (Mb D s1 s2 H) fo cc ip (.ref b)
 n1:D≠s1
 n2:D≠s2
section
variable{P:zdR}{w:zdH}{K:zaa}{CC CW:zdF}{l:Expr}{qual:Str}{H H':Hp}{D b w1 s1 w2 s2 fo cc:zdF}{ip:Obj}{av aw:PG.Prog}
theorem GC.up(g:GC P w K CC CW l qual H D b w1 s1 w2 s2 fo cc ip av aw)(u:o4 D s1 s2 H H')(wt:oM P w K CC CW H' b w1 s1 w2 s2 av aw):GC P w K CC CW l qual H' D b w1 s1 w2 s2 fo cc ip av aw:=⟨wt,g.d1,g.d2,g.m1,g.m2,g.lam.mono (Sk u),g.n1,g.n2⟩
theorem GC.mono(g:GC P w K CC CW l qual H D b w1 s1 w2 s2 fo cc ip av aw)(s:ar H H'):GC P w K CC CW l qual H' D b w1 s1 w2 s2 fo cc ip av aw:=g.up (.of s) (g.wt.mono s)
theorem GC.tup(g:GC P w K CC CW l qual H D b w1 s1 w2 s2 fo cc ip av aw){Y:Type}[DecidableEq Y]{J:KH Y}{aB:List (Y×V)}(d:DS J P w K H D aB)(u:o4 D s1 s2 H H'):∀a xs,bH K H a xs->bH K H' a xs:=fun a xs q=>by
 obtain⟨φ,e1⟩:=g.wt.one.uU;obtain⟨M,e2⟩:=g.wt.two.uU;obtain⟨χ,e0⟩:=d.oY;exact q.up3 e0 e1 e2 u
theorem GC.lst(g:GC P w K CC CW l qual H D b w1 s1 w2 s2 fo cc ip av aw){Y:Type}[DecidableEq Y]{J:KH Y}{aB:List (Y×V)}(d:DS J P w K H D aB)(u:o4 D s1 s2 H H'):∀a xs,H a=some (.lst xs)->H' a=some (.lst xs):=fun a xs q=>by
 obtain⟨φ,e1⟩:=g.wt.one.uU;obtain⟨M,e2⟩:=g.wt.two.uU;obtain⟨χ,e0⟩:=d.oY;exact u _ _ (bz q e0 (by intro z;cases z)) (bz q e1 (by intro z;cases z)) (bz q e2 (by intro z;cases z)) q
theorem GC.free(g:GC P w K CC CW l qual H' D b w1 s1 w2 s2 fo cc ip av aw){Y:Type}[DecidableEq Y]{J:KH Y}{aB:List (Y×V)}(d:DS J P w K H' D aB)(u:o4 D s1 s2 H H')(n:H' a=none):H a=none:=by
 obtain⟨φ,e1⟩:=g.wt.one.uU;obtain⟨M,e2⟩:=g.wt.two.uU;obtain⟨χ,e0⟩:=d.oY;exact u.free n e0 e1 e2
end
section
variable{P:zdR}{w:zdH}{K:zaa}{CC CW:zdF}{H H':Hp}{b w1 s1 w2 s2:zdF}{av aw:PG.Prog}
theorem DS.kp{Y:Type}[DecidableEq Y]{J:KH Y}{aB:List (Y×V)}(d:DS J P w K H a aB)(k:Kp H H'):DS J P w K H' a aB:=d.oX (fun o h=>by
 obtain⟨φ,e⟩:=d.oY;rw[e] at h;cases h;exact k _ _ e (by intro _ z;cases z)) fun _ _ h=>h.kp k
theorem AL.kp(h:AL P w K CC CW H wt sg pr)(k:Kp H H'):AL P w K CC CW H' wt sg pr:=by
 obtain⟨dx,ch,aB,h1,h2,h3,h4,h5⟩:=h;exact⟨dx,ch,aB,k _ _ h1 (by intro _ z;cases z),k _ _ h2 (by intro _ z;cases z),h3.kp k,h4.kp k,fun kv m=>by obtain⟨x,a,z,c⟩:=h5 kv m;exact⟨x,a,z,vy k _ _ c⟩⟩
theorem oM.kp(h:oM P w K CC CW H b w1 s1 w2 s2 av aw)(k:Kp H H'):oM P w K CC CW H' b w1 s1 w2 s2 av aw:=⟨h.b_.kp k,h.one.kp k,h.two.kp k,h.ne⟩
theorem AN(e:H d=some o)(n1:d≠D)(n2:d≠a)(n3:d≠c):Mb D a c H d=some o:=by unfold Mb;rw[bE n3,bE n2,bE n1];exact e
end
def Qy (te:TE):TE:=fun G H Q=>∃c xs,H c=some (.lst xs)/\∀o,te G (upd H c (cQ c o)) fun v H'=>H' c=some (cQ c o)/\Q v (upd H' c (.lst xs))
theorem OQ(he:PE X e te):PE X e (Qy te):=by
 intro pins s G H Q I h;obtain⟨c,xs,hc,q⟩:=h;obtain⟨hl,bc,n,hv,hg⟩:=(show bZ X.prog X.w H s.heap c (.lst xs) from I.bS c _ hc)
 have I2:Inv X pins G (upd H c (cQ c {cls:=.type "list",data:=.seq bc.toArray n})) s:=ni (h':=s.heap) (t':=s.toks) I (by rw[hc];exact True.intro) ⟨rfl,fun _ _=>rfl⟩ ⟨_,hg⟩ (cQ.ok hg);refine fC (he pins s G _ _ I2 (q _)) fun v s1 zqz=>?_;obtain⟨x,H1,I1,r1,hx,q1⟩:=zqz;obtain⟨To, -⟩:=(show bZ X.prog X.w H1 s1.heap c (cQ c {cls:=.type "list",data:=.seq bc.toArray n}) from I1.bS c _ hx)
 exact⟨x,_,ni (h':=s1.heap) (t':=s1.toks) I1 (by rw[hx];exact True.intro) ⟨rfl,fun _ _=>rfl⟩ ⟨_,To⟩ (show bZ X.prog X.w _ _ _ (.lst xs) from ⟨hl,bc,n,hv,To⟩),r1,q1⟩
section
variable(P:zdR)(w:zdH)(K:zaa)(CC CW CT:zdF)(l:Expr)(qual:Str)
inductive Gz(vs:List V)(H:Hp)(Q:VK)(E:XK):Prop
 |mk (pa fo D ga cc b w1 s1 w2 s2:zdF) (ip:Obj) (av aw:PG.Prog) (p:br) (f:cZ) (g:List Int) (aB:List ((bA×bA)×V)):vs=[.ref pa,.ref fo,.ref ga,.ref D]->GC P w K CC CW l qual H D b w1 s1 w2 s2 fo cc ip av aw->l0 K H pa p->wB av aw p->bH K H ga (g.map V.int)->DS qx P w K H D aB->eW K H f aB->jR (wB av aw) f->f.length<=2000->
  ((eV (ck av aw) (fe av aw+1) f p g).1.length<=2000->∀L us VA H',o4 D s1 s2 H H'->oM P w K CC CW H' b w1 s1 w2 s2 av aw->H L=none->H' L=some (.lst us)->DS qx P w K H' D VA->eW K H' (eV (ck av aw) (fe av aw+1) f p g).1 VA->EW K H H' us (.ref ga) (eV (ck av aw) (fe av aw+1) f p g).2->Q (.ref L) H')->
  (2000<(eV (ck av aw) (fe av aw+1) f p g).1.length->∀H',o4 D s1 s2 H H'->E (.ref CT) none H')->Gz vs H Q E
inductive CP(vs:List V)(H:Hp)(Q:VK)(E:XK):Prop
 |mk (pa fo cc b w1 s1 w2 s2:zdF) (ip:Obj) (av aw:PG.Prog):vs=[.ref pa,.ref fo]->(∀D,H D=none->GC P w K CC CW l qual H D b w1 s1 w2 s2 fo cc ip av aw)->l0 K H pa (gN av aw)->
  ((aO av aw).length<=2000->∀D aB H',oK s1 s2 H H'->oM P w K CC CW H' b w1 s1 w2 s2 av aw->H D=none->DS qx P w K H' D aB->eW K H' (aO av aw) aB->Q (.ref D) H')->
  (2000<(aO av aw).length->∀H',oK s1 s2 H H'->E (.ref CT) none H')->CP vs H Q E
def CQ (av aw:PG.Prog)(H:Hp)(word:Str)(us:List V):Prop:=match i5 av aw (aO av aw) with
 |some g=>word = "apart"/\us=g.map V.int
 |none=>word = "alike"/\gH K H ((aO av aw).map (·.1)) us
inductive GA(Pt:zdF)(lp:Pos)(vs:List V)(H:Hp)(Q:VK)(E:XK):Prop
 |mk (v1 v2:V) (av aw:PG.Prog) (ps:Array zdG):vs=[v1,v2]->Rep K H (iX av) v1->Rep K H (iX aw) v2->bV av->bV aw->dh av<=100000->dh aw<=100000->H Pt=some (.rE ps)->TabOk qual lp H ps->
  ((aO av aw).length<=2000->∀r L us word H' yu,bf Pt H H'->H L=none->H' r=some (.tup [.str word,.ref L])->H' L=some (.lst us)->CQ K av aw H' word us->H' Pt=some (.rE yu)->TabOk qual lp H' yu->Q (.ref r) H')->
  (2000<(aO av aw).length->∀H' yu,bf Pt H H'->H' Pt=some (.rE yu)->TabOk qual lp H' yu->E (.ref CT) none H')->GA Pt lp vs H Q E
end
structure ma(H:Hp)(D C G:zdF)(d:Dk):Prop where
 nN:H D=some (.lst [.ref C,.int d.pos,.ref G,.int d.left,.int d.row])
 cs:H C=some (.lst (d.cs.map V.int))
 gs:H G=some (.lst (d.gs.map V.bl))
 Tt:D≠C
 VB:D≠G
 VC:C≠G
 len:d.cs.length<=63
 gl:d.gs.length=d.cs.length
 pos:0<=d.pos
section
variable{H H':Hp}{D C G:zdF}{d:Dk}
theorem ma.same(h:ma H D C G d)(s:ar H H'):ma H' D C G d:=⟨s _ _ h.nN,s _ _ h.cs,s _ _ h.gs,h.Tt,h.VB,h.VC,h.len,h.gl,h.pos⟩
theorem ma.put(h:ma H D C G d)(u:bf D H H')(y:H' D=some (.lst [.ref C,.int d'.pos,.ref G,.int d'.left,.int d'.row]))(e1:d'.cs=d.cs)(e2:d'.gs=d.gs)(p:0<=d'.pos):ma H' D C G d':=by
 refine⟨y,?_,?_,h.Tt,h.VB,h.VC,?_,?_,p⟩
 .rw[e1];exact u _ _ h.Tt.symm h.cs
 .rw[e2];exact u _ _ h.VB.symm h.gs
 .rw[e1];exact h.len
 .rw[e1,e2];exact h.gl
end
section
variable(K:zaa)
inductive GB(vs:List V)(H:Hp)(Q:VK)(E:XK):Prop
 |mk (D C G:zdF) (d:Dk) (many:Int):vs=[.ref D,.int many]->ma H D C G d->0<many->many<=1000000000->d.pos<=2 ^ 50->(∀x d' H',PG.draw d many=(x,d')->vX D C H H'->ma H' D C G d'->Q (.int x) H')->GB vs H Q E
def OR:Sp:=fun vs H Q _=>∃(a:zdF) (ns:List Int),vs=[.ref a]/\iR K H a (ns.map V.int)/\ns.length<=63/\
 ∀D C G H',ar H H'->H D=none->H C=none->ma H' D C G (vz ns)->Q (.ref D) H'
end
section
variable{av aw:PG.Prog}
theorem EX(d1:bV av)(d2:bV aw)(c:vY (ck av aw) (gN av aw) p g):p∈(aO av aw).map (·.1):=by
 obtain⟨k,b⟩:=qm d1 d2;obtain⟨y,hy,e,_⟩:=b.Vy c;exact zae.mpr ⟨y,hy,e⟩
theorem vY.step(c:vY led s0 s g)(h:t∈led s):∃g,vY led s0 t g:=by
 by_cases l1:(led s).length=1
 .obtain⟨x,e⟩:=zb6.mp l1;rw[e] at h;cases zaf.mp h;exact⟨g,.one c e⟩
 .obtain⟨i,hi⟩:=zcK.mp h;exact⟨_,.many c l1 hi⟩
theorem GD(d1:bV av)(d2:bV aw){U:List br}(nd:U.Nodup)(h0:gN av aw∈U)(hc:∀x∈U,∀y∈ck av aw x,y∈U)(hr:∀S:br->Prop,S (gN av aw)->(∀x,S x->∀y∈ck av aw x,S y)->∀x∈U,S x) :
 (aO av aw).length=U.length/\∀x,x∈U↔x∈(aO av aw).map (·.1):=by
 obtain⟨k,b⟩:=qm d1 d2;have m:∀x,x∈U↔x∈(aO av aw).map (·.1):=fun x=>by
  constructor
  .intro hx;obtain⟨g,c⟩:=hr (fun x=>∃g,vY (ck av aw) (gN av aw) x g) ⟨[],.start⟩ (fun x ⟨g,c⟩ y hy=>c.step hy) x hx;exact EX d1 d2 c
  .intro hx;obtain⟨y,hy,rfl⟩:=zae.mp hx;have c:=b.sf y hy;generalize y.2=g at c;generalize y.1=s at c;clear hx hy y
   induction c with
   |start=>exact h0
   |one _ e ih=>exact hc _ ih _ (by rw[e];exact zaf.mpr rfl)
   |many _ _ e ih=>exact hc _ ih _ (zaD e)
 refine⟨?_,m⟩;have n2:=(mR d1 d2).nd;rw[<- zac (f:=(·.1)) (as:=aO av aw)];exact zdk (eB _ _ n2 fun x hx=>(m x).mpr hx) (eB _ _ nd fun x hx=>(m x).mp hx)
theorem GF{U:List br}(m:∀x,x∈U↔x∈(aO av aw).map (·.1))(h:∀x∈U,eU av aw x=true):i5 av aw (aO av aw)=none:=by
 unfold i5;rw[zcD,zcW];intro x hx;rw[h x.1 ((m _).mpr (zae.mpr ⟨x,hx,rfl⟩))];decide
theorem AO:∀(n:Nat)(a b:Int)(h:List Int),h.length=n->Dg h->a<=b->nA a (zbf n 0)<=nA b h/\(nA b h<=nA a (zbf n 0)->h=zbf n 0)
 |0,a,b,h,l,_,ab=>by
  cases zcx.mp l;exact⟨ab,fun _=>rfl⟩
 |n+1,a,b,[],l,_,_=>by cases l
 |n+1,a,b,x::r,l,dg,ab=>by
  have hx:=dg x (zao ..);have dr:Dg r:=fun y hy=>dg y (zag _ hy);have lr:r.length=n:=Nat.succ.inj l;obtain⟨p,q⟩:=AO n (10*a+0+1) (10*b+x+1) r lr dr (by lia);refine⟨p,fun z=>?_⟩;have er:=q z;by_cases e:x=0
  .rw[e,er];rfl
  .obtain⟨p2,_⟩:=AO n (10*a+0+1+1) (10*b+x+1) r lr dr (by lia);have up:∀(m:Nat) (u v:Int),u<v->nA u (zbf m 0)<nA v (zbf m 0):=fun m=>by
    induction m with
    |zero=>exact fun u v h=>h
    |succ m ih=>exact fun u v h=>ih _ _ (by lia)
   have:=up n (10*a+0+1) (10*a+0+1+1) (by lia);exact ybX (zcN p2 z) (Int.not_le.mpr this)
theorem GG(d1:bV av)(d2:bV aw)(c0:vY (ck av aw) (gN av aw) p0 (zbf n 0))(a0:eU av aw p0=false)(hn:∀p g,vY (ck av aw) (gN av aw) p g->eU av aw p=false->g.length=n) :
 i5 av aw (aO av aw)=some (zbf n 0):=by
 obtain⟨k,b⟩:=qm d1 d2;obtain⟨y,hy,ey,ly⟩:=b.Vy c0;unfold i5;cases e:(aO av aw).find? (fun x=>!eU av aw x.1) with
 |none=>
  have:=zcW.mp e y hy;rw[ey,a0] at this;exact ybX rfl this
 |some x=>
  obtain⟨ax,i,hi,ex,Tu⟩:=List.find?_eq_some_iff_getElem.mp e;have ax:eU av aw x.1=false:=by simpa using ax
  have hx:x∈aO av aw:=by rw[<- ex];exact zaw hi
  have cx:=b.sf x hx;have lx:=hn _ _ cx ax;have dx:=cx.dg (Gx av aw);obtain⟨j,hj,Xo⟩:=zbQ.mp hy;have ij:i<=j:=by
   refine zb2.mp fun z=>?_;have:=Tu j z;rw[Xo,ey,a0] at this;cases this
  have le:nA 0 x.2<=nA 0 y.2:=by
   rcases zcX ij with z |z
   .have:=zbP.mp b.Vw i j hi hj z
    rwa [ex,Xo] at this
   .subst z;rw[ex] at Xo;rw[Xo];exact za0 _
  rw[za1,(AO n 0 0 x.2 lx dx (za0 _)).2 (zcN le ly)]
end
noncomputable def CS (a b c d:Int):List sW:=[⟨[97],a,0⟩,⟨[97,98],b,0⟩,⟨[98],c,0⟩,⟨[99],d,0⟩]
noncomputable def Nu:Option Int->List cJ
 |none=>[.ask 5 [97],.ask 6 [97,98],.ask 7 [98],.ask 8 [99]]
 |some k=>[.ask 5 [97],.ask 6 [97,98],.ask 7 [98],.ask 8 [99],.say 9 (.num k)]
def pP (a b c d:Int)(n:Option Int):PG.Prog:=⟨CS a b c d,Nu n⟩
noncomputable def asE:Option Int->Int
 |none=>0
 |some _=>9
structure DH(a b c d:Int):Prop where
 a1:2<=a
 a2:a<=10
 b1:2<=b
 b2:b<=10
 c1:2<=c
 c2:c<=10
 d1:2<=d
 d2:d<=10
def OS (n:Option Int):Prop:=∀k,n=some k->0<=k/\k<=999
theorem Qz(z:DH a b c d)(hn:OS n):bV (pP a b c d n):=by
 have nm:([[97],[97,98],[98],[99]]:List PM.W).Nodup:=by decide
 have size:∀x∈CS a b c d,2<=x.size/\x.size<=10/\0<=x.first/\x.first<x.size:=fun x hx=>by
  simp only[CS,zak,zbc,or_false] at hx;obtain⟨a1,a2,b1,b2,c1,c2,d1,d2⟩:=z;rcases hx with rfl |rfl |rfl |rfl
  .exact⟨a1,a2,za0 _,by show (0:Int)<a;lia⟩
  .exact⟨b1,b2,za0 _,by show (0:Int)<b;lia⟩
  .exact⟨c1,c2,za0 _,by show (0:Int)<c;lia⟩
  .exact⟨d1,d2,za0 _,by show (0:Int)<d;lia⟩
 cases n with
 |none=>
  refine⟨⟨?_,nm,by show 4<=10;decide,?_⟩,(show qw (Nu none)<=3 by decide +kernel),(show (gF (Nu none)).length<=1000 by decide +kernel),?_,size⟩
  .show (aE (Nu none)).Pairwise fun a b=>a.row<b.row;decide +kernel
  .show ∀s∈aE (Nu none),0<s.row;decide +kernel
  .simp[pP,Nu,Nk,FZ,CS]
 |some k=>
  obtain⟨k0,k1⟩:=hn k rfl;refine⟨⟨?_,nm,by show 4<=10;decide,?_⟩,?_,?_,?_,size⟩
  .show ([cJ.ask 5 [97],.ask 6 [97,98],.ask 7 [98],.ask 8 [99],.say 9 (.num k)]).Pairwise fun a b=>a.row<b.row;simp[cJ.row]
  .show ∀s∈[cJ.ask 5 [97],.ask 6 [97,98],.ask 7 [98],.ask 8 [99],.say 9 (.num k)],0<s.row;simp[cJ.row]
  .simp[pP,Nu,qw,El]
  .show 5<=1000;decide
  .simp[pP,Nu,Nk,FZ,CS,oI,sX,k0];lia
structure Zx(pr:PG.Prog)(a b c d E:Int):Prop where
 dr:bV pr
 many:dh pr<=100000
 fst:jG pr=(5,[0,0,0,0])
 si:∀r x y z u,(r=0\/r=5\/r=6\/r=7\/r=8\/r=E)->0<=x->x<a->0<=y->y<b->0<=z->z<c->0<=u->u<d->cY pr (r,[x,y,z,u])
 ob:∀r v,(r=5\/r=6\/r=7\/r=8)->dB pr (r,v)=some (.ask (r,v))
 l5:∀x y z u,lD pr (5,[x,y,z,u])=(zaj 10).map fun f:Nat=>(6,[(f:Int)%a,y,z,u])
 l6:∀x y z u,lD pr (6,[x,y,z,u])=(zaj 10).map fun f:Nat=>(7,[x,(f:Int)%b,z,u])
 l7:∀x y z u,lD pr (7,[x,y,z,u])=(zaj 10).map fun f:Nat=>(8,[x,y,(f:Int)%c,u])
 l8:∀x y z u,lD pr (8,[x,y,z,u])=(zaj 10).map fun f:Nat=>(E,[x,y,z,(f:Int)%d])
theorem jH(z:DH a b c d)(hn:OS n):Zx (pP a b c d n) a b c d (asE n):=by
 have dr:=Qz z hn;have many:dh (pP a b c d n)<=100000:=by
  unfold dh;rw[Cr];have h2:=xy (i4 (pP a b c d n)) fun s hs=>by
   obtain⟨x,hx,rfl⟩:=zae.mp hs;exact(dr.size x hx).2.1
  have h3:(zN (pP a b c d n)).length+1<=6:=by
   cases n with
   |none=>show 4+1<=6;decide
   |some k=>show 5+1<=6;decide
  refine zax (zcu h3 h2) ?_;show 6*10 ^ 4<=100000;decide
 refine⟨dr,many,by cases n<;>rfl,fun r x y w u hr x0 x1 y0 y1 w0 w1 u0 u1=>⟨⟨?_,rfl,fun v hv=>?_⟩,⟨⟨x0,x1⟩,⟨y0,y1⟩,⟨w0,w1⟩,⟨u0,u1⟩,trivial⟩⟩,fun r v hr=>?_,?_,?_,?_,?_⟩
 .rcases hr with rfl |rfl |rfl |rfl |rfl |rfl
  .exact .inl rfl
  .cases n with
   |none=>exact .inr ⟨0,(by decide:0<4),rfl⟩
   |some k=>exact .inr ⟨0,(by decide:0<5),rfl⟩
  .cases n with
   |none=>exact .inr ⟨1,(by decide:1<4),rfl⟩
   |some k=>exact .inr ⟨1,(by decide:1<5),rfl⟩
  .cases n with
   |none=>exact .inr ⟨2,(by decide:2<4),rfl⟩
   |some k=>exact .inr ⟨2,(by decide:2<5),rfl⟩
  .cases n with
   |none=>exact .inr ⟨3,(by decide:3<4),rfl⟩
   |some k=>exact .inr ⟨3,(by decide:3<5),rfl⟩
  .cases n with
   |none=>exact .inl rfl
   |some k=>exact .inr ⟨4,(by decide:4<5),rfl⟩
 .obtain⟨a1,a2,b1,b2,c1,c2,d1,d2⟩:=z;simp only[zak,zbc,or_false] at hv;rcases hv with rfl |rfl |rfl |rfl<;>lia
 .rcases hr with rfl |rfl |rfl |rfl<;>cases n<;>rfl
 .intro x y w u;cases n<;>rfl
 .intro x y w u;cases n<;>rfl
 .intro x y w u;cases n<;>rfl
 .intro x y w u;cases n<;>rfl
theorem jo{O L:Type}{f:O->List L}{D:List O}:D.Nodup->(∀x∈D,(f x).Nodup)->(∀x y,x≠y->∀z∈f x,z ∉ f y)->(D.flatMap f).Nodup:=by
 induction D with
 |nil=>intros;exact zbi
 |cons a D ih=>
  intro h hf dis;obtain⟨h1,h2⟩:=zaV.mp h;rw[zbN];refine zbM.mpr ⟨hf a (zao ..),ih h2 (fun x hx=>hf x (zag _ hx)) dis,fun x hx y hy e=>?_⟩;obtain⟨b,hb,hy⟩:=zaF.mp hy;exact dis a b (fun z=>h1 (z▸hb)) x hx (e▸hy)
theorem gO{O L:Type}{f:O->List L}{D:List O}:(∀x∈D,(f x).length=n)->(D.flatMap f).length=D.length*n:=by
 induction D with
 |nil=>intros;simp
 |cons a D ih=>
  intro h;rw[zbN,zai,h a (zao ..),ih fun x hx=>h x (zag _ hx),zaq,zdc,zcL]
structure DkZ(a a':Int)(D:List (Int×Int)):Prop where
 nd:D.Nodup
 mem:∀p,p∈D↔∃f:Nat,f<10/\p=((f:Int)%a,(f:Int)%a')
noncomputable def cw (r x x' y y' z z' u u':Int):br:=((r,[x,y,z,u]),(r,[x',y',z',u']))
def EY (D0:List (Int×Int)):List br:=D0.map fun p=>cw 6 p.1 p.2 0 0 0 0 0 0
def Nv (D0 D1:List (Int×Int)):List br:=D0.flatMap fun p=>D1.map fun q=>cw 7 p.1 p.2 q.1 q.2 0 0 0 0
def OT (D0 D1 D2:List (Int×Int)):List br:=D0.flatMap fun p=>D1.flatMap fun q=>D2.map fun r=>cw 8 p.1 p.2 q.1 q.2 r.1 r.2 0 0
def DI (E:Int)(D0 D1 D2 D3:List (Int×Int)):List br:=D0.flatMap fun p=>D1.flatMap fun q=>D2.flatMap fun r=>D3.map fun s=>cw E p.1 p.2 q.1 q.2 r.1 r.2 s.1 s.2
def GH (E:Int)(tail:Bool)(D0 D1 D2 D3:List (Int×Int)):List br:=[cw 5 0 0 0 0 0 0 0 0]++EY D0++Nv D0 D1++OT D0 D1 D2++DI E D0 D1 D2 D3++(if tail=true then DI 0 D0 D1 D2 D3 else [])
theorem ff(h:cw r x x' y y' z z' u u'=cw r2 x2 x2' y2 VD z2 z2' u2 u2'):r=r2/\x=x2/\x'=x2'/\y=y2/\y'=VD/\z=z2/\z'=z2'/\u=u2/\u'=u2':=by
 simp only[cw,Prod.mk.injEq,List.cons.injEq,and_true] at h;obtain⟨⟨a,b,c,d,e⟩,_,f,g,i,j⟩:=h;exact⟨a,b,f,c,g,d,i,e,j⟩
section
variable{D0 D1 D2 D3:List (Int×Int)}{E:Int}
theorem iD:p∈EY D0↔∃q∈D0,cw 6 q.1 q.2 0 0 0 0 0 0=p:=zae
theorem kj:p∈Nv D0 D1↔∃q∈D0,∃r∈D1,cw 7 q.1 q.2 r.1 r.2 0 0 0 0=p:=by unfold Nv;simp only[zaF,zae]
theorem kl:p∈OT D0 D1 D2↔∃q∈D0,∃r∈D1,∃s∈D2,cw 8 q.1 q.2 r.1 r.2 s.1 s.2 0 0=p:=by unfold OT;simp only[zaF,zae]
theorem eO:p∈DI E D0 D1 D2 D3↔∃q∈D0,∃r∈D1,∃s∈D2,∃t∈D3,cw E q.1 q.2 r.1 r.2 s.1 s.2 t.1 t.2=p:=by unfold DI;simp only[zaF,zae]
theorem EZ(tail:Bool):(GH E tail D0 D1 D2 D3).length=1+D0.length+D0.length*D1.length+D0.length*(D1.length*D2.length)+D0.length*(D1.length*(D2.length*D3.length))+if tail=true then D0.length*(D1.length*(D2.length*D3.length)) else 0:=by
 have l2:(Nv D0 D1).length=D0.length*D1.length:=gO fun p _=>by rw[zac]
 have l3:(OT D0 D1 D2).length=D0.length*(D1.length*D2.length):=gO fun p _=>gO fun q _=>by rw[zac]
 have l4:∀E,(DI E D0 D1 D2 D3).length=D0.length*(D1.length*(D2.length*D3.length)):=fun E=>gO fun p _=>gO fun q _=>gO fun r _=>by rw[zac]
 have l1:(EY D0).length=D0.length:=zac ..;unfold GH;rw[zai,zai,zai,zai,zai,l1,l2,l3,l4];cases tail with
 |true=>rw[ybS rfl,ybS rfl,l4];rfl
 |false=>rw[ybR (by decide),ybR (by decide)];rfl
theorem md{O L:Type}{f:O->L}{l:List O}(h:l.Nodup)(i:∀a b,f a=f b->a=b):(l.map f).Nodup:=List.Pairwise.map _ (fun a b n e=>n (i a b e)) h
theorem Mc(n0:D0.Nodup)(n1:D1.Nodup)(n2:D2.Nodup)(n3:D3.Nodup)(hE:E=0/\tail=false\/E=9):(GH E tail D0 D1 D2 D3).Nodup:=by
 have a1:(EY D0).Nodup:=md n0 fun a b e=>by obtain⟨_,h1,h2,_⟩:=ff e;exact Prod.ext h1 h2
 have a2:(Nv D0 D1).Nodup:=jo n0 (fun p _=>md n1 fun a b e=>by obtain⟨_,_,_,h1,h2,_⟩:=ff e;exact Prod.ext h1 h2) fun p q ne z hz rT=>by
  obtain⟨a,_,rfl⟩:=zae.mp hz;obtain⟨b,_,e⟩:=zae.mp rT;obtain⟨_,h1,h2,_⟩:=ff e;exact ne (Prod.ext h1.symm h2.symm)
 have a3:(OT D0 D1 D2).Nodup:=jo n0 (fun p _=>jo n1 (fun q _=>md n2 fun a b e=>by obtain⟨_,_,_,_,_,h1,h2,_⟩:=ff e;exact Prod.ext h1 h2) fun q r ne z hz rT=>by
  obtain⟨a,_,rfl⟩:=zae.mp hz;obtain⟨b,_,e⟩:=zae.mp rT;obtain⟨_,_,_,h1,h2,_⟩:=ff e;exact ne (Prod.ext h1.symm h2.symm)) fun p q ne z hz rT=>by
  obtain⟨r,_,hz⟩:=zaF.mp hz;obtain⟨a,_,rfl⟩:=zae.mp hz;obtain⟨r2,_,rT⟩:=zaF.mp rT;obtain⟨b,_,e⟩:=zae.mp rT;obtain⟨_,h1,h2,_⟩:=ff e;exact ne (Prod.ext h1.symm h2.symm)
 have a4:∀E,(DI E D0 D1 D2 D3).Nodup:=fun E=>jo n0 (fun p _=>jo n1 (fun q _=>jo n2 (fun r _=>md n3 fun a b e=>by obtain⟨_,_,_,_,_,_,_,h1,h2⟩:=ff e;exact Prod.ext h1 h2) fun r s ne z hz rT=>by
  obtain⟨a,_,rfl⟩:=zae.mp hz;obtain⟨b,_,e⟩:=zae.mp rT;obtain⟨_,_,_,_,_,h1,h2,_⟩:=ff e;exact ne (Prod.ext h1.symm h2.symm)) fun q r ne z hz rT=>by
  obtain⟨s,_,hz⟩:=zaF.mp hz;obtain⟨a,_,rfl⟩:=zae.mp hz;obtain⟨s2,_,rT⟩:=zaF.mp rT;obtain⟨b,_,e⟩:=zae.mp rT;obtain⟨_,_,_,h1,h2,_⟩:=ff e;exact ne (Prod.ext h1.symm h2.symm)) fun p q ne z hz rT=>by
  obtain⟨r,_,hz⟩:=zaF.mp hz;obtain⟨s,_,hz⟩:=zaF.mp hz;obtain⟨a,_,rfl⟩:=zae.mp hz;obtain⟨r2,_,rT⟩:=zaF.mp rT;obtain⟨s2,_,rT⟩:=zaF.mp rT;obtain⟨b,_,e⟩:=zae.mp rT;obtain⟨_,h1,h2,_⟩:=ff e;exact ne (Prod.ext h1.symm h2.symm)
 have r1:∀p∈EY D0,p.1.1=6:=fun p hp=>by obtain⟨_,_,rfl⟩:=iD.mp hp;rfl
 have r2:∀p∈Nv D0 D1,p.1.1=7:=fun p hp=>by obtain⟨_,_,_,_,rfl⟩:=kj.mp hp;rfl
 have r3:∀p∈OT D0 D1 D2,p.1.1=8:=fun p hp=>by obtain⟨_,_,_,_,_,_,rfl⟩:=kl.mp hp;rfl
 have r4:∀E,∀p∈DI E D0 D1 D2 D3,p.1.1=E:=fun E p hp=>by obtain⟨_,_,_,_,_,_,_,_,rfl⟩:=eO.mp hp;rfl
 have app:∀{l m:List br},l.Nodup->m.Nodup->(∀p∈l,∀q∈m,p.1.1≠q.1.1)->(l++m).Nodup:=fun h1 h2 h=>zbM.mpr ⟨h1,h2,fun x hx y hy e=>h x hx y hy (ybW (fun p:br=>p.1.1) e)⟩;have e9:E=0\/E=9:=hE.imp (·.1) id;have b1:([cw 5 0 0 0 0 0 0 0 0]++EY D0).Nodup:=app (zaV.mpr ⟨by simp,zbi⟩) a1 fun p hp q hq=>by rw[zaf.mp hp,r1 q hq];show (5:Int)≠6;decide
 have c1:∀p∈[cw 5 0 0 0 0 0 0 0 0]++EY D0,p.1.1=5\/p.1.1=6:=fun p hp=>(zan.mp hp).imp (fun h=>by rw[zaf.mp h];rfl) (r1 p);have b2:=app b1 a2 fun p hp q hq=>by rw[r2 q hq];rcases c1 p hp with e |e<;>rw[e]<;>decide
 have c2:∀p∈[cw 5 0 0 0 0 0 0 0 0]++EY D0++Nv D0 D1,p.1.1=5\/p.1.1=6\/p.1.1=7:=fun p hp=>(zan.mp hp).elim (fun h=>(c1 p h).imp id .inl) fun h=>.inr (.inr (r2 p h));have b3:=app b2 a3 fun p hp q hq=>by rw[r3 q hq];rcases c2 p hp with e |e |e<;>rw[e]<;>decide
 have c3:∀p∈[cw 5 0 0 0 0 0 0 0 0]++EY D0++Nv D0 D1++OT D0 D1 D2,5<=p.1.1/\p.1.1<=8:=fun p hp=>(zan.mp hp).elim (fun h=>by rcases c2 p h with e |e |e<;>rw[e]<;>decide) fun h=>by rw[r3 p h];decide
 have b4:=app b3 (a4 E) fun p hp q hq=>by have:=c3 p hp;rw[r4 E q hq];rcases e9 with e |e<;>lia
 unfold GH;cases tail with
 |false=>rw[ybR (by decide),zaM];exact b4
 |true=>
  rw[ybS rfl];have e:E=9:=hE.resolve_left fun z=>by cases z.2
  refine app b4 (a4 0) fun p hp q hq=>?_;rw[r4 0 q hq];rcases zan.mp hp with h |h
  .have:=c3 p h;lia
  .rw[r4 E p h];lia
end
section
variable{av aw:PG.Prog}
theorem pQ(d1:bV av)(d2:bV aw)(s1:cY av s)(s2:cY aw s')(o1:dB av s=some (.ask s))(o2:dB aw s'=some (.ask s')):ck av aw (s,s')=(lD av s).zip (lD aw s')/\eU av aw (s,s')=true:=by
 unfold ck eU;rw[kP d1 s1 o1,kP d2 s2 o2];exact⟨ybR (fun z=>z rfl),ybT rfl⟩
theorem Md(d1:bV av)(d2:bV aw)(s1:cY av s)(s2:cY aw s')(o1:dB av s=some (.say n t))(o2:dB aw s'=some (.say n' t')):(n=n'->ck av aw (s,s')=[(t,t')]/\eU av aw (s,s')=true)/\(n≠n'->ck av aw (s,s')=[]/\eU av aw (s,s')=false):=by
 unfold ck eU;rw[kP d1 s1 o1,kP d2 s2 o2];refine⟨fun e=>?_,fun e=>?_⟩
 .subst e;exact⟨ybR (fun z=>z rfl),ybT rfl⟩
 .have ne:Gs (.say n t)≠Gs (.say n' t'):=fun z=>e (by cases z;rfl);exact⟨ybS ne,ybU ne⟩
theorem AQ(d1:bV av)(d2:bV aw)(s1:cY av (0,v))(s2:cY aw (0,v')):ck av aw ((0,v),(0,v'))=[]/\eU av aw ((0,v),(0,v'))=true:=by
 unfold ck eU;rw[kP d1 s1 (x:=.fin) rfl,kP d2 s2 (x:=.fin) rfl];exact⟨ybR (fun z=>z rfl),ybT rfl⟩
variable{a b c d a' b' c' d' E:Int}{D0 D1 D2 D3:List (Int×Int)}
theorem DkZ.Ts(k:DkZ a a' D)(ha:2<=a)(YE:2<=a')(h:p∈D):0<=p.1/\p.1<a/\0<=p.2/\p.2<a':=by
 obtain⟨f,_,rfl⟩:=(k.mem p).mp h;exact⟨zbr _ (by lia),zba _ (by lia),zbr _ (by lia),zba _ (by lia)⟩
theorem DkZ.zip(k:DkZ a a' D){O L:Type}(f:Int->O)(g:Int->L)(y:O×L):y∈((zaj 10).map fun i:Nat=>f ((i:Int)%a)).zip ((zaj 10).map fun i:Nat=>g ((i:Int)%a'))↔∃p∈D,y=(f p.1,g p.2):=by
 rw[zbt,zae]
 constructor
 .rintro ⟨i,hi,rfl⟩
  exact⟨_,(k.mem _).mpr ⟨i,zav.mp hi,rfl⟩,rfl⟩
 .rintro ⟨p,hp,rfl⟩
  obtain⟨i,hi,rfl⟩:=(k.mem p).mp hp;exact⟨i,zav.mpr hi,rfl⟩
structure yH(av aw:PG.Prog)(a b c d a' b' c' d' E:Int)(D0 D1 D2 D3:List (Int×Int)):Prop where
 f1:Zx av a b c d E
 f2:Zx aw a' b' c' d' E
 z1:DH a b c d
 z2:DH a' b' c' d'
 k0:DkZ a a' D0
 k1:DkZ b b' D1
 k2:DkZ c c' D2
 k3:DkZ d d' D3
theorem yH.si(q:yH av aw a b c d a' b' c' d' E D0 D1 D2 D3)(hr:r=0\/r=5\/r=6\/r=7\/r=8\/r=E)(hx:(x,x')∈D0\/x=0/\x'=0)(hy:(y,y')∈D1\/y=0/\y'=0)(hz:(z,z')∈D2\/z=0/\z'=0)(hu:(u,u')∈D3\/u=0/\u'=0):cY av (r,[x,y,z,u])/\cY aw (r,[x',y',z',u']):=by
 obtain⟨a1,_,b1,_,c1,_,d1,_⟩:=q.z1;obtain⟨a2,_,b2,_,c2,_,d2,_⟩:=q.z2;have gen:∀{m m':Int} {D:List (Int×Int)} {v v':Int},DkZ m m' D->2<=m->2<=m'->((v,v')∈D\/v=0/\v'=0)->0<=v/\v<m/\0<=v'/\v'<m':=fun k h1 h2 h=>by
  rcases h with h |⟨rfl,rfl⟩
  .exact k.Ts h1 h2 h
  .exact⟨za0 _,by lia,za0 _,by lia⟩
 have x1:=gen q.k0 a1 a2 hx;have y1:=gen q.k1 b1 b2 hy;have w1:=gen q.k2 c1 c2 hz;have u1:=gen q.k3 d1 d2 hu;exact⟨q.f1.si r x y z u hr x1.1 x1.2.1 y1.1 y1.2.1 w1.1 w1.2.1 u1.1 u1.2.1,q.f2.si r x' y' z' u' hr x1.2.2.1 x1.2.2.2 y1.2.2.1 y1.2.2.2 w1.2.2.1 w1.2.2.2 u1.2.2.1 u1.2.2.2⟩
theorem yH.b5(q:yH av aw a b c d a' b' c' d' E D0 D1 D2 D3):(∀y,y∈ck av aw (cw 5 0 0 0 0 0 0 0 0)↔∃p∈D0,y=cw 6 p.1 p.2 0 0 0 0 0 0)/\eU av aw (cw 5 0 0 0 0 0 0 0 0)=true:=by
 obtain⟨s1,s2⟩:=q.si (r:=5) (.inr (.inl rfl)) (.inr ⟨rfl,rfl⟩) (.inr ⟨rfl,rfl⟩) (.inr ⟨rfl,rfl⟩) (.inr ⟨rfl,rfl⟩);obtain⟨e,al⟩:=pQ q.f1.dr q.f2.dr s1 s2 (q.f1.ob 5 _ (.inl rfl)) (q.f2.ob 5 _ (.inl rfl));refine⟨fun y=>?_,al⟩;show y∈ck av aw ((5,[0,0,0,0]),(5,[0,0,0,0]))↔_;rw[e,q.f1.l5,q.f2.l5];exact q.k0.zip (fun x=>((6:Int),[x,0,0,0])) (fun x=>((6:Int),[x,0,0,0])) y
theorem yH.b6(q:yH av aw a b c d a' b' c' d' E D0 D1 D2 D3)(hp:p∈D0):(∀y,y∈ck av aw (cw 6 p.1 p.2 0 0 0 0 0 0)↔∃r∈D1,y=cw 7 p.1 p.2 r.1 r.2 0 0 0 0)/\eU av aw (cw 6 p.1 p.2 0 0 0 0 0 0)=true:=by
 obtain⟨s1,s2⟩:=q.si (r:=6) (.inr (.inr (.inl rfl))) (.inl hp) (.inr ⟨rfl,rfl⟩) (.inr ⟨rfl,rfl⟩) (.inr ⟨rfl,rfl⟩);obtain⟨e,al⟩:=pQ q.f1.dr q.f2.dr s1 s2 (q.f1.ob 6 _ (.inr (.inl rfl))) (q.f2.ob 6 _ (.inr (.inl rfl)));refine⟨fun y=>?_,al⟩;show y∈ck av aw ((6,[p.1,0,0,0]),(6,[p.2,0,0,0]))↔_;rw[e,q.f1.l6,q.f2.l6];exact q.k1.zip (fun x=>((7:Int),[p.1,x,0,0])) (fun x=>((7:Int),[p.2,x,0,0])) y
theorem yH.b7(q:yH av aw a b c d a' b' c' d' E D0 D1 D2 D3)(hp:p∈D0)(hr:r∈D1):(∀y,y∈ck av aw (cw 7 p.1 p.2 r.1 r.2 0 0 0 0)↔∃s∈D2,y=cw 8 p.1 p.2 r.1 r.2 s.1 s.2 0 0)/\eU av aw (cw 7 p.1 p.2 r.1 r.2 0 0 0 0)=true:=by
 obtain⟨s1,s2⟩:=q.si (r:=7) (.inr (.inr (.inr (.inl rfl)))) (.inl hp) (.inl hr) (.inr ⟨rfl,rfl⟩) (.inr ⟨rfl,rfl⟩);obtain⟨e,al⟩:=pQ q.f1.dr q.f2.dr s1 s2 (q.f1.ob 7 _ (.inr (.inr (.inl rfl)))) (q.f2.ob 7 _ (.inr (.inr (.inl rfl))));refine⟨fun y=>?_,al⟩;show y∈ck av aw ((7,[p.1,r.1,0,0]),(7,[p.2,r.2,0,0]))↔_;rw[e,q.f1.l7,q.f2.l7];exact q.k2.zip (fun x=>((8:Int),[p.1,r.1,x,0])) (fun x=>((8:Int),[p.2,r.2,x,0])) y
theorem yH.b8(q:yH av aw a b c d a' b' c' d' E D0 D1 D2 D3)(hp:p∈D0)(hr:r∈D1)(hs:s∈D2):(∀y,y∈ck av aw (cw 8 p.1 p.2 r.1 r.2 s.1 s.2 0 0)↔∃t∈D3,y=cw E p.1 p.2 r.1 r.2 s.1 s.2 t.1 t.2)/\eU av aw (cw 8 p.1 p.2 r.1 r.2 s.1 s.2 0 0)=true:=by
 obtain⟨s1,s2⟩:=q.si (r:=8) (.inr (.inr (.inr (.inr (.inl rfl))))) (.inl hp) (.inl hr) (.inl hs) (.inr ⟨rfl,rfl⟩);obtain⟨e,al⟩:=pQ q.f1.dr q.f2.dr s1 s2 (q.f1.ob 8 _ (.inr (.inr (.inr rfl)))) (q.f2.ob 8 _ (.inr (.inr (.inr rfl))));refine⟨fun y=>?_,al⟩;show y∈ck av aw ((8,[p.1,r.1,s.1,0]),(8,[p.2,r.2,s.2,0]))↔_;rw[e,q.f1.l8,q.f2.l8];exact q.k3.zip (fun x=>(E,[p.1,r.1,s.1,x])) (fun x=>(E,[p.2,r.2,s.2,x])) y
theorem yH.found(q:yH av aw a b c d a' b' c' d' E D0 D1 D2 D3)(hE:E=0/\tail=false\/E=9)
 (hT:∀p∈D0,∀r∈D1,∀s∈D2,∀t∈D3,ck av aw (cw E p.1 p.2 r.1 r.2 s.1 s.2 t.1 t.2)=if tail=true then [cw 0 p.1 p.2 r.1 r.2 s.1 s.2 t.1 t.2] else []) :
 (aO av aw).length=(GH E tail D0 D1 D2 D3).length/\∀x,x∈GH E tail D0 D1 D2 D3↔x∈(aO av aw).map (·.1):=by
 have fs:gN av aw=cw 5 0 0 0 0 0 0 0 0:=by unfold gN;rw[q.f1.fst,q.f2.fst];rfl
 have mem:∀x,x∈GH E tail D0 D1 D2 D3↔x=cw 5 0 0 0 0 0 0 0 0\/x∈EY D0\/x∈Nv D0 D1\/x∈OT D0 D1 D2\/x∈DI E D0 D1 D2 D3\/tail=true/\x∈DI 0 D0 D1 D2 D3:=fun x=>by
  unfold GH;simp only[zan,zaf];cases tail with
  |true=>simp[or_assoc]
  |false=>simp[or_assoc]
 refine GD q.f1.dr q.f2.dr (Mc q.k0.nd q.k1.nd q.k2.nd q.k3.nd hE) ((mem _).mpr (.inl fs)) (fun x hx y hy=>?_) fun S h0 hS x hx=>?_
 .rw[mem] at hx |-;rcases hx with rfl |hx |hx |hx |hx |⟨ht,hx⟩
  .obtain⟨p,hp,rfl⟩:=(q.b5.1 y).mp hy;exact .inr (.inl (iD.mpr ⟨p,hp,rfl⟩))
  .obtain⟨p,hp,rfl⟩:=iD.mp hx;obtain⟨r,hr,rfl⟩:=((q.b6 hp).1 y).mp hy;exact .inr (.inr (.inl (kj.mpr ⟨p,hp,r,hr,rfl⟩)))
  .obtain⟨p,hp,r,hr,rfl⟩:=kj.mp hx;obtain⟨s,hs,rfl⟩:=((q.b7 hp hr).1 y).mp hy;exact .inr (.inr (.inr (.inl (kl.mpr ⟨p,hp,r,hr,s,hs,rfl⟩))))
  .obtain⟨p,hp,r,hr,s,hs,rfl⟩:=kl.mp hx;obtain⟨t,ht,rfl⟩:=((q.b8 hp hr hs).1 y).mp hy;exact .inr (.inr (.inr (.inr (.inl (eO.mpr ⟨p,hp,r,hr,s,hs,t,ht,rfl⟩)))))
  .obtain⟨p,hp,r,hr,s,hs,t,ht,rfl⟩:=eO.mp hx;rw[hT p hp r hr s hs t ht] at hy;cases tail with
   |false=>rw[ybR (by decide)] at hy;cases hy
   |true=>
    rw[ybS rfl,zaf] at hy;exact .inr (.inr (.inr (.inr (.inr ⟨rfl,eO.mpr ⟨p,hp,r,hr,s,hs,t,ht,hy.symm⟩⟩))))
  .obtain⟨p,hp,r,hr,s,hs,t,ht,rfl⟩:=eO.mp hx;obtain⟨s1,s2⟩:=q.si (r:=0) (.inl rfl) (.inl hp) (.inl hr) (.inl hs) (.inl ht);have e:ck av aw (cw 0 p.1 p.2 r.1 r.2 s.1 s.2 t.1 t.2)=[]:=(AQ q.f1.dr q.f2.dr s1 s2).1;rw[e] at hy;cases hy
 .rw[fs] at h0;have g1:∀p∈D0,S (cw 6 p.1 p.2 0 0 0 0 0 0):=fun p hp=>hS _ h0 _ ((q.b5.1 _).mpr ⟨p,hp,rfl⟩);have g2:∀p∈D0,∀r∈D1,S (cw 7 p.1 p.2 r.1 r.2 0 0 0 0):=fun p hp r hr=>hS _ (g1 p hp) _ (((q.b6 hp).1 _).mpr ⟨r,hr,rfl⟩);have g3:∀p∈D0,∀r∈D1,∀s∈D2,S (cw 8 p.1 p.2 r.1 r.2 s.1 s.2 0 0):=fun p hp r hr s hs=>hS _ (g2 p hp r hr) _ (((q.b7 hp hr).1 _).mpr ⟨s,hs,rfl⟩);have g4:∀p∈D0,∀r∈D1,∀s∈D2,∀t∈D3,S (cw E p.1 p.2 r.1 r.2 s.1 s.2 t.1 t.2):=fun p hp r hr s hs t ht=>hS _ (g3 p hp r hr s hs) _ (((q.b8 hp hr hs).1 _).mpr ⟨t,ht,rfl⟩);rcases(mem x).mp hx with rfl |hx |hx |hx |hx |⟨ht,hx⟩
  .exact h0
  .obtain⟨p,hp,rfl⟩:=iD.mp hx;exact g1 p hp
  .obtain⟨p,hp,r,hr,rfl⟩:=kj.mp hx;exact g2 p hp r hr
  .obtain⟨p,hp,r,hr,s,hs,rfl⟩:=kl.mp hx;exact g3 p hp r hr s hs
  .obtain⟨p,hp,r,hr,s,hs,t,ht,rfl⟩:=eO.mp hx;exact g4 p hp r hr s hs t ht
  .obtain⟨p,hp,r,hr,s,hs,t,ht2,rfl⟩:=eO.mp hx;refine hS _ (g4 p hp r hr s hs t ht2) _ ?_;rw[hT p hp r hr s hs t ht2,ybS ht];exact zaf.mpr rfl
end
section
variable{av aw:PG.Prog}{a b c d a' b' c' d' E:Int}{D0 D1 D2 D3:List (Int×Int)}
theorem yH.VE(q:yH av aw a b c d a' b' c' d' E D0 D1 D2 D3):(ck av aw (cw 5 0 0 0 0 0 0 0 0)=(zaj 10).map fun i:Nat=>cw 6 ((i:Int)%a) ((i:Int)%a') 0 0 0 0 0 0)/\
 (∀p∈D0,ck av aw (cw 6 p.1 p.2 0 0 0 0 0 0)=(zaj 10).map fun i:Nat=>cw 7 p.1 p.2 ((i:Int)%b) ((i:Int)%b') 0 0 0 0)/\
 (∀p∈D0,∀r∈D1,ck av aw (cw 7 p.1 p.2 r.1 r.2 0 0 0 0)=(zaj 10).map fun i:Nat=>cw 8 p.1 p.2 r.1 r.2 ((i:Int)%c) ((i:Int)%c') 0 0)/\
 ∀p∈D0,∀r∈D1,∀s∈D2,ck av aw (cw 8 p.1 p.2 r.1 r.2 s.1 s.2 0 0)=(zaj 10).map fun i:Nat=>cw E p.1 p.2 r.1 r.2 s.1 s.2 ((i:Int)%d) ((i:Int)%d'):=by
 refine⟨?_,fun p hp=>?_,fun p hp r hr=>?_,fun p hp r hr s hs=>?_⟩
 .obtain⟨s1,s2⟩:=q.si (r:=5) (.inr (.inl rfl)) (.inr ⟨rfl,rfl⟩) (.inr ⟨rfl,rfl⟩) (.inr ⟨rfl,rfl⟩) (.inr ⟨rfl,rfl⟩);show ck av aw ((5,[0,0,0,0]),(5,[0,0,0,0]))=_;rw[(pQ q.f1.dr q.f2.dr s1 s2 (q.f1.ob 5 _ (.inl rfl)) (q.f2.ob 5 _ (.inl rfl))).1,q.f1.l5,q.f2.l5,zbt];rfl
 .obtain⟨s1,s2⟩:=q.si (r:=6) (.inr (.inr (.inl rfl))) (.inl hp) (.inr ⟨rfl,rfl⟩) (.inr ⟨rfl,rfl⟩) (.inr ⟨rfl,rfl⟩);show ck av aw ((6,[p.1,0,0,0]),(6,[p.2,0,0,0]))=_;rw[(pQ q.f1.dr q.f2.dr s1 s2 (q.f1.ob 6 _ (.inr (.inl rfl))) (q.f2.ob 6 _ (.inr (.inl rfl)))).1,q.f1.l6,q.f2.l6,zbt];rfl
 .obtain⟨s1,s2⟩:=q.si (r:=7) (.inr (.inr (.inr (.inl rfl)))) (.inl hp) (.inl hr) (.inr ⟨rfl,rfl⟩) (.inr ⟨rfl,rfl⟩);show ck av aw ((7,[p.1,r.1,0,0]),(7,[p.2,r.2,0,0]))=_;rw[(pQ q.f1.dr q.f2.dr s1 s2 (q.f1.ob 7 _ (.inr (.inr (.inl rfl)))) (q.f2.ob 7 _ (.inr (.inr (.inl rfl))))).1,q.f1.l7,q.f2.l7,zbt];rfl
 .obtain⟨s1,s2⟩:=q.si (r:=8) (.inr (.inr (.inr (.inr (.inl rfl))))) (.inl hp) (.inl hr) (.inl hs) (.inr ⟨rfl,rfl⟩);show ck av aw ((8,[p.1,r.1,s.1,0]),(8,[p.2,r.2,s.2,0]))=_;rw[(pQ q.f1.dr q.f2.dr s1 s2 (q.f1.ob 8 _ (.inr (.inr (.inr rfl)))) (q.f2.ob 8 _ (.inr (.inr (.inr rfl))))).1,q.f1.l8,q.f2.l8,zbt];rfl
theorem DkZ.zero(k:DkZ a a' D0):((0:Int),(0:Int))∈D0:=(k.mem _).mpr ⟨0,by decide,by simp⟩
theorem yH.alike(q:yH av aw a b c d a' b' c' d' E D0 D1 D2 D3)(hE:E=0/\tail=false\/E=9)
 (hT:∀p∈D0,∀r∈D1,∀s∈D2,∀t∈D3,ck av aw (cw E p.1 p.2 r.1 r.2 s.1 s.2 t.1 t.2)=(if tail=true then [cw 0 p.1 p.2 r.1 r.2 s.1 s.2 t.1 t.2] else [])/\eU av aw (cw E p.1 p.2 r.1 r.2 s.1 s.2 t.1 t.2)=true) :
 i5 av aw (aO av aw)=none/\(aO av aw).length=(GH E tail D0 D1 D2 D3).length:=by
 obtain⟨l,m⟩:=q.found hE fun p hp r hr s hs t ht=>(hT p hp r hr s hs t ht).1;refine⟨GF m fun x hx=>?_,l⟩;unfold GH at hx;rcases zan.mp hx with hx |hx
 .rcases zan.mp hx with hx |hx
  .rcases zan.mp hx with hx |hx
   .rcases zan.mp hx with hx |hx
    .rcases zan.mp hx with hx |hx
     .rw[zaf.mp hx];exact q.b5.2
     .obtain⟨p,hp,rfl⟩:=iD.mp hx;exact(q.b6 hp).2
    .obtain⟨p,hp,r,hr,rfl⟩:=kj.mp hx;exact(q.b7 hp hr).2
   .obtain⟨p,hp,r,hr,s,hs,rfl⟩:=kl.mp hx;exact(q.b8 hp hr hs).2
  .obtain⟨p,hp,r,hr,s,hs,t,ht,rfl⟩:=eO.mp hx;exact(hT p hp r hr s hs t ht).2
 .cases tail with
  |false=>rw[ybR (by decide)] at hx;cases hx
  |true=>
   rw[ybS rfl] at hx;obtain⟨p,hp,r,hr,s,hs,t,ht,rfl⟩:=eO.mp hx;obtain⟨s1,s2⟩:=q.si (r:=0) (.inl rfl) (.inl hp) (.inl hr) (.inl hs) (.inl ht);exact(AQ q.f1.dr q.f2.dr s1 s2).2
theorem yH.apart(q:yH av aw a b c d a' b' c' d' E D0 D1 D2 D3)(hE:E=9)
 (hT:∀p∈D0,∀r∈D1,∀s∈D2,∀t∈D3,ck av aw (cw E p.1 p.2 r.1 r.2 s.1 s.2 t.1 t.2)=[]/\eU av aw (cw E p.1 p.2 r.1 r.2 s.1 s.2 t.1 t.2)=false) :
 i5 av aw (aO av aw)=some [0,0,0,0]/\(aO av aw).length=(GH E false D0 D1 D2 D3).length:=by
 obtain⟨l,m⟩:=q.found (tail:=false) (.inr hE) fun p hp r hr s hs t ht=>by rw[(hT p hp r hr s hs t ht).1,ybR (by decide)]
 obtain⟨e5,e6,e7,e8⟩:=q.VE;have fs:gN av aw=cw 5 0 0 0 0 0 0 0 0:=by unfold gN;rw[q.f1.fst,q.f2.fst];rfl
 have z0:=q.k0.zero;have z1:=q.k1.zero;have z2:=q.k2.zero;have z3:=q.k3.zero;have hz:∀m:Int,((0:Nat):Int)%m=0:=fun m=>by simp
 have Zy:∀f:Nat->br,((zaj 10).map f).length≠1/\((zaj 10).map f)[0]?=some (f 0):=fun f=>⟨by rw[zac,zaJ];decide,rfl⟩
 have c0:vY (ck av aw) (gN av aw) (cw 5 0 0 0 0 0 0 0 0) []:=fs▸.start;have st:∀{s t:br} {g:List Int} (f:Nat->br),vY (ck av aw) (gN av aw) s g->ck av aw s=(zaj 10).map f->f 0=t->vY (ck av aw) (gN av aw) t (g++[0]):=fun {s t g} f h e et=>by
  have:=vY.many (i:=0) h (by rw[e];exact(Zy f).1) (by rw[e];exact(Zy f).2);rw[et] at this;exact this
 have c1:=st _ c0 e5 (t:=cw 6 0 0 0 0 0 0 0 0) (by simp only[hz]);have c2:=st _ c1 (e6 _ z0) (t:=cw 7 0 0 0 0 0 0 0 0) (by simp only[hz]);have c3:=st _ c2 (e7 _ z0 _ z1) (t:=cw 8 0 0 0 0 0 0 0 0) (by simp only[hz]);have c4:=st _ c3 (e8 _ z0 _ z1 _ z2) (t:=cw E 0 0 0 0 0 0 0 0) (by simp only[hz]);refine⟨GG q.f1.dr q.f2.dr (n:=4) c4 (hT _ z0 _ z1 _ z2 _ z3).2 fun p g cp al=>?_,l⟩;have key:(p=cw 5 0 0 0 0 0 0 0 0/\g.length=0)\/(p∈EY D0/\g.length=1)\/(p∈Nv D0 D1/\g.length=2)\/(p∈OT D0 D1 D2/\g.length=3)\/(p∈DI E D0 D1 D2 D3/\g.length=4):=by
  clear al;have lg:∀(g:List Int) (i:Int),(g++[i]).length=g.length+1:=fun g i=>by simp
  induction cp with
  |start=>exact .inl ⟨fs,rfl⟩
  |one _ e ih=>
   have no:∀(f:Nat->br) (x:br),(zaj 10).map f≠[x]:=fun f x z=>(Zy f).1 (by rw[z];rfl);rcases ih with ⟨rfl,h⟩ |⟨hx,h⟩ |⟨hx,h⟩ |⟨hx,h⟩ |⟨hx,h⟩
   .exact ybX (e5.symm.trans e) (no _ _)
   .obtain⟨p,hp,rfl⟩:=iD.mp hx;exact ybX ((e6 p hp).symm.trans e) (no _ _)
   .obtain⟨p,hp,r,hr,rfl⟩:=kj.mp hx;exact ybX ((e7 p hp r hr).symm.trans e) (no _ _)
   .obtain⟨p,hp,r,hr,s,hs,rfl⟩:=kl.mp hx;exact ybX ((e8 p hp r hr s hs).symm.trans e) (no _ _)
   .obtain⟨p,hp,r,hr,s,hs,t,ht,rfl⟩:=eO.mp hx;rw[(hT p hp r hr s hs t ht).1] at e;cases e
  |many _ _ e ih=>
   have tm:=zaD e;rcases ih with ⟨rfl,h⟩ |⟨hx,h⟩ |⟨hx,h⟩ |⟨hx,h⟩ |⟨hx,h⟩
   .obtain⟨p,hp,rfl⟩:=(q.b5.1 _).mp tm;exact .inr (.inl ⟨iD.mpr ⟨p,hp,rfl⟩,by rw[lg,h]⟩)
   .obtain⟨p,hp,rfl⟩:=iD.mp hx;obtain⟨r,hr,rfl⟩:=((q.b6 hp).1 _).mp tm;exact .inr (.inr (.inl ⟨kj.mpr ⟨p,hp,r,hr,rfl⟩,by rw[lg,h]⟩))
   .obtain⟨p,hp,r,hr,rfl⟩:=kj.mp hx;obtain⟨s,hs,rfl⟩:=((q.b7 hp hr).1 _).mp tm;exact .inr (.inr (.inr (.inl ⟨kl.mpr ⟨p,hp,r,hr,s,hs,rfl⟩,by rw[lg,h]⟩)))
   .obtain⟨p,hp,r,hr,s,hs,rfl⟩:=kl.mp hx;obtain⟨t,ht,rfl⟩:=((q.b8 hp hr hs).1 _).mp tm;exact .inr (.inr (.inr (.inr ⟨eO.mpr ⟨p,hp,r,hr,s,hs,t,ht,rfl⟩,by rw[lg,h]⟩)))
   .obtain⟨p,hp,r,hr,s,hs,t,ht,rfl⟩:=eO.mp hx;rw[(hT p hp r hr s hs t ht).1] at tm;cases tm
 rcases key with ⟨rfl,_⟩ |⟨hx,_⟩ |⟨hx,_⟩ |⟨hx,_⟩ |⟨_,h⟩
 .rw[q.b5.2] at al;cases al
 .obtain⟨p,hp,rfl⟩:=iD.mp hx;rw[(q.b6 hp).2] at al;cases al
 .obtain⟨p,hp,r,hr,rfl⟩:=kj.mp hx;rw[(q.b7 hp hr).2] at al;cases al
 .obtain⟨p,hp,r,hr,s,hs,rfl⟩:=kl.mp hx;rw[(q.b8 hp hr hs).2] at al;cases al
 .exact h
end
theorem Sm(z1:DH a b c d)(z2:DH a' b' c' d')(k0:DkZ a a' D0)(k1:DkZ b b' D1)(k2:DkZ c c' D2)(k3:DkZ d d' D3) :
 (i5 (pP a b c d none) (pP a' b' c' d' none) (aO (pP a b c d none) (pP a' b' c' d' none))=none/\(aO (pP a b c d none) (pP a' b' c' d' none)).length=(GH 0 false D0 D1 D2 D3).length)/\
 (∀k,0<=k->k<=999->i5 (pP a b c d (some k)) (pP a' b' c' d' (some k)) (aO (pP a b c d (some k)) (pP a' b' c' d' (some k)))=none/\(aO (pP a b c d (some k)) (pP a' b' c' d' (some k))).length=(GH 9 true D0 D1 D2 D3).length)/\
 (∀k,0<=k->k+1<=999->i5 (pP a b c d (some k)) (pP a' b' c' d' (some (k+1))) (aO (pP a b c d (some k)) (pP a' b' c' d' (some (k+1))))=some [0,0,0,0]/\(aO (pP a b c d (some k)) (pP a' b' c' d' (some (k+1)))).length=(GH 9 false D0 D1 D2 D3).length):=by
 have sN:∀{k:Int},0<=k->k<=999->OS (some k):=fun h1 h2 j e=>by cases e;exact⟨h1,h2⟩
 refine⟨?_,fun k h1 h2=>?_,fun k h1 h2=>?_⟩
 .have q:yH (pP a b c d none) (pP a' b' c' d' none) a b c d a' b' c' d' 0 D0 D1 D2 D3:=⟨jH z1 (fun k e=>by cases e),jH z2 (fun k e=>by cases e),z1,z2,k0,k1,k2,k3⟩
  refine q.alike (tail:=false) (.inl ⟨rfl,rfl⟩) fun p hp r hr s hs t ht=>?_;obtain⟨s1,s2⟩:=q.si (r:=0) (.inl rfl) (.inl hp) (.inl hr) (.inl hs) (.inl ht);obtain⟨e,al⟩:=AQ q.f1.dr q.f2.dr s1 s2;exact⟨e.trans (ybR (by decide)).symm,al⟩
 .have q:yH (pP a b c d (some k)) (pP a' b' c' d' (some k)) a b c d a' b' c' d' 9 D0 D1 D2 D3:=⟨jH z1 (sN h1 h2),jH z2 (sN h1 h2),z1,z2,k0,k1,k2,k3⟩
  refine q.alike (tail:=true) (.inr rfl) fun p hp r hr s hs t ht=>?_;obtain⟨s1,s2⟩:=q.si (r:=9) (.inr (.inr (.inr (.inr (.inr rfl))))) (.inl hp) (.inl hr) (.inl hs) (.inl ht);obtain⟨e,al⟩:=(Md q.f1.dr q.f2.dr s1 s2 (n:=k) (n':=k) (t:=(0,[p.1,r.1,s.1,t.1])) (t':=(0,[p.2,r.2,s.2,t.2])) rfl rfl).1 rfl;exact⟨e.trans (ybS rfl).symm,al⟩
 .have q:yH (pP a b c d (some k)) (pP a' b' c' d' (some (k+1))) a b c d a' b' c' d' 9 D0 D1 D2 D3:=⟨jH z1 (sN h1 (by lia)),jH z2 (sN (by lia) h2),z1,z2,k0,k1,k2,k3⟩
  refine q.apart rfl fun p hp r hr s hs t ht=>?_;obtain⟨s1,s2⟩:=q.si (r:=9) (.inr (.inr (.inr (.inr (.inr rfl))))) (.inl hp) (.inl hr) (.inl hs) (.inl ht);exact(Md q.f1.dr q.f2.dr s1 s2 (n:=k) (n':=k+1) (t:=(0,[p.1,r.1,s.1,t.1])) (t':=(0,[p.2,r.2,s.2,t.2])) rfl rfl).2 (by lia)
noncomputable def Nw (k:Int):List cJ:=[.ask 5 [97],.ifs 6 [61] (.box [97]) (.num 0) [.say 7 (.num k)] [],.ask 9 [97,98],.ask 10 [98],.ask 11 [99]]
def uj (a b c d:Int)(k:Int):PG.Prog:=⟨CS a b c d,Nw k⟩
theorem VF(z:DH a b c d)(k0:0<=k)(k1:k<=999):bV (uj a b c d k):=by
 have nm:([[97],[97,98],[98],[99]]:List PM.W).Nodup:=by decide
 have rw_:(aE (Nw k)).map (·.row)=[5,6,7,9,10,11]:=rfl;refine⟨⟨?_,nm,by show 4<=10;decide,?_⟩,?_,?_,?_,(Qz (n:=none) z (fun _ e=>by cases e)).size⟩
 .refine(zaL (f:=cJ.row) (R:=(· < ·))).mp ?_;show ((aE (Nw k)).map (·.row)).Pairwise (· < ·);rw[rw_];decide
 .intro s hs;have:s.row∈(aE (Nw k)).map (·.row):=zae.mpr ⟨s,hs,rfl⟩;rw[rw_] at this;simp only[zak,zbc,or_false] at this;lia
 .show qw (Nw k)<=3;simp[Nw,qw,El]
 .show (gF (Nw k)).length<=1000;simp[Nw,gF,lG]
 .simp[uj,Nw,Nk,FZ,CS,oI,sX,RL,k0];lia
structure Zz(pr:PG.Prog)(a b c d k:Int):Prop where
 dr:bV pr
 many:dh pr<=100000
 fst:jG pr=(5,[0,0,0,0])
 si:∀r x y z u,(r=0\/r=5\/r=6\/r=7\/r=9\/r=10\/r=11)->0<=x->x<a->0<=y->y<b->0<=z->z<c->0<=u->u<d->cY pr (r,[x,y,z,u])
 ob:∀r v,(r=5\/r=9\/r=10\/r=11)->dB pr (r,v)=some (.ask (r,v))
 l5:∀x y z u,lD pr (5,[x,y,z,u])=(zaj 10).map fun f:Nat=>(6,[(f:Int)%a,y,z,u])
 s0:∀y z u,dB pr (6,[0,y,z,u])=none/\nK pr (6,[0,y,z,u])=(7,[0,y,z,u])
 s1:∀x y z u,x≠0->dB pr (6,[x,y,z,u])=none/\nK pr (6,[x,y,z,u])=(9,[x,y,z,u])
 s7:∀v,dB pr (7,v)=some (.say k (9,v))
 l9:∀x y z u,lD pr (9,[x,y,z,u])=(zaj 10).map fun f:Nat=>(10,[x,(f:Int)%b,z,u])
 OU:∀x y z u,lD pr (10,[x,y,z,u])=(zaj 10).map fun f:Nat=>(11,[x,y,(f:Int)%c,u])
 l11:∀x y z u,lD pr (11,[x,y,z,u])=(zaj 10).map fun f:Nat=>(0,[x,y,z,(f:Int)%d])
theorem mS(z:DH a b c d)(k0:0<=k)(k1:k<=999):Zz (uj a b c d k) a b c d k:=by
 have dr:=VF z k0 k1;have many:dh (uj a b c d k)<=100000:=by
  unfold dh;rw[Cr];have h2:=xy (i4 (uj a b c d k)) fun s hs=>by
   obtain⟨x,hx,rfl⟩:=zae.mp hs;exact(dr.size x hx).2.1
  have h3:(zN (uj a b c d k)).length+1<=7:=by show 6+1<=7;decide
  refine zax (zcu h3 h2) ?_;show 7*10 ^ 4<=100000;decide
 have st:∀x y w u,fN (uj a b c d k) 6 [x,y,w,u] 0=((if lZ [61] x 0=true then some (7,[x,y,w,u]) else some (9,[x,y,w,u])),none):=fun x y w u=>rfl;refine⟨dr,many,rfl,fun r x y w u hr x0 x1 y0 y1 w0 w1 u0 u1=>⟨⟨?_,rfl,fun v hv=>?_⟩,⟨⟨x0,x1⟩,⟨y0,y1⟩,⟨w0,w1⟩,⟨u0,u1⟩,trivial⟩⟩,fun r v hr=>?_,fun x y w u=>rfl,fun y w u=>⟨rfl,rfl⟩,fun x y w u hx=>?_,fun v=>rfl,fun x y w u=>rfl,fun x y w u=>rfl,fun x y w u=>rfl⟩
 .rcases hr with rfl |rfl |rfl |rfl |rfl |rfl |rfl
  .exact .inl rfl
  .exact .inr ⟨0,(by decide:0<6),rfl⟩
  .exact .inr ⟨1,(by decide:1<6),rfl⟩
  .exact .inr ⟨2,(by decide:2<6),rfl⟩
  .exact .inr ⟨3,(by decide:3<6),rfl⟩
  .exact .inr ⟨4,(by decide:4<6),rfl⟩
  .exact .inr ⟨5,(by decide:5<6),rfl⟩
 .obtain⟨a1,a2,b1,b2,c1,c2,d1,d2⟩:=z;simp only[zak,zbc,or_false] at hv;rcases hv with rfl |rfl |rfl |rfl<;>lia
 .rcases hr with rfl |rfl |rfl |rfl<;>rfl
 .have e:fN (uj a b c d k) 6 [x,y,w,u] 0=(some (9,[x,y,w,u]),none):=by
   rw[st,ybR (by show ¬(decide (x=0)=true);rw[decide_eq_true_eq];exact hx)]
  constructor
  .show (match fN (uj a b c d k) 6 [x,y,w,u] 0 with
    |(none,_)=>some Sn.dR
    |(some y,some n)=>some (Sn.say n y)
    |(some _,none)=>none)=none
   rw[e]
  .show (fN (uj a b c d k) 6 [x,y,w,u] 0).1.getD _=_;rw[e];rfl
noncomputable def oO:List (Int×Int):=[(0,0)]
theorem E2(n0:D0.Nodup)(n1:D1.Nodup)(n2:D2.Nodup)(n3:D3.Nodup):(DI E D0 D1 D2 D3).Nodup:=jo n0 (fun p _=>jo n1 (fun q _=>jo n2 (fun r _=>md n3 fun a b e=>by obtain⟨_,_,_,_,_,_,_,h1,h2⟩:=ff e;exact Prod.ext h1 h2) fun r s ne z hz rT=>by
 obtain⟨a,_,rfl⟩:=zae.mp hz;obtain⟨b,_,e⟩:=zae.mp rT;obtain⟨_,_,_,_,_,h1,h2,_⟩:=ff e;exact ne (Prod.ext h1.symm h2.symm)) fun q r ne z hz rT=>by
 obtain⟨s,_,hz⟩:=zaF.mp hz;obtain⟨a,_,rfl⟩:=zae.mp hz;obtain⟨s2,_,rT⟩:=zaF.mp rT;obtain⟨b,_,e⟩:=zae.mp rT;obtain⟨_,_,_,h1,h2,_⟩:=ff e;exact ne (Prod.ext h1.symm h2.symm)) fun p q ne z hz rT=>by
 obtain⟨r,_,hz⟩:=zaF.mp hz;obtain⟨s,_,hz⟩:=zaF.mp hz;obtain⟨a,_,rfl⟩:=zae.mp hz;obtain⟨r2,_,rT⟩:=zaF.mp rT;obtain⟨s2,_,rT⟩:=zaF.mp rT;obtain⟨b,_,e⟩:=zae.mp rT;obtain⟨_,h1,h2,_⟩:=ff e;exact ne (Prod.ext h1.symm h2.symm)
theorem AR:(DI E D0 D1 D2 D3).length=D0.length*(D1.length*(D2.length*D3.length)):=gO fun p _=>gO fun q _=>gO fun r _=>by rw[zac]
theorem AS:∀p∈DI E D0 D1 D2 D3,p.1.1=E:=fun p hp=>by obtain⟨_,_,_,_,_,_,_,_,rfl⟩:=eO.mp hp;rfl
theorem DkZ.map(k:DkZ a a' D){O:Type}(f:Int->Int->O)(y:O):y∈((zaj 10).map fun i:Nat=>f ((i:Int)%a) ((i:Int)%a'))↔∃p∈D,y=f p.1 p.2:=by
 rw[zae]
 constructor
 .rintro ⟨i,hi,rfl⟩
  exact⟨_,(k.mem _).mpr ⟨i,zav.mp hi,rfl⟩,rfl⟩
 .rintro ⟨p,hp,rfl⟩
  obtain⟨i,hi,rfl⟩:=(k.mem p).mp hp;exact⟨i,zav.mpr hi,rfl⟩
section
variable{av aw:PG.Prog}{a b c d k k':Int}{D0 D1 D2 D3 D:List (Int×Int)}
theorem uk(e1:lK av s=.ask t)(e2:lK aw s'=.ask t'):ck av aw (s,s')=(lD av t).zip (lD aw t')/\eU av aw (s,s')=true:=by
 unfold ck eU;rw[e1,e2];exact⟨ybR (fun z=>z rfl),ybT rfl⟩
theorem OV(e1:lK av s=.say n t)(e2:lK aw s'=.say n' t'):ck av aw (s,s')=(if n=n' then [(t,t')] else [])/\eU av aw (s,s')=decide (n=n'):=by
 unfold ck eU;rw[e1,e2];by_cases e:n=n'
 .subst e;rw[ybS rfl];exact⟨ybR (fun z=>z rfl),(ybT rfl).trans (ybT rfl).symm⟩
 .have ne:Gs (.say n t)≠Gs (.say n' t'):=fun z=>e (by cases z;rfl);rw[ybR e,ybU e];exact⟨ybS ne,ybU ne⟩
structure uV(av aw:PG.Prog)(a b c d k k':Int)(D0 D1 D2 D3:List (Int×Int)):Prop where
 f1:Zz av a b c d k
 f2:Zz aw a b c d k'
 z:DH a b c d
 k0:DkZ a a D0
 k1:DkZ b b D1
 k2:DkZ c c D2
 k3:DkZ d d D3
theorem DkZ.Xp(k:DkZ a a D)(h:p∈D):p.1=p.2:=by obtain⟨_,_,rfl⟩:=(k.mem p).mp h;rfl
theorem uV.si(q:uV av aw a b c d k k' D0 D1 D2 D3){r x x' y y' z z' u u':Int}(hr:r=0\/r=5\/r=6\/r=7\/r=9\/r=10\/r=11)(hx:(x,x')∈D0\/x=0/\x'=0)(hy:(y,y')∈D1\/y=0/\y'=0)(hz:(z,z')∈D2\/z=0/\z'=0)(hu:(u,u')∈D3\/u=0/\u'=0):cY av (r,[x,y,z,u])/\cY aw (r,[x',y',z',u']):=by
 obtain⟨a1,_,b1,_,c1,_,d1,_⟩:=q.z;have gen:∀{m:Int} {D:List (Int×Int)} {v v':Int},DkZ m m D->2<=m->((v,v')∈D\/v=0/\v'=0)->0<=v/\v<m/\0<=v'/\v'<m:=fun k h1 h=>by
  rcases h with h |⟨rfl,rfl⟩
  .exact k.Ts h1 h1 h
  .exact⟨za0 _,by lia,za0 _,by lia⟩
 have x1:=gen q.k0 a1 hx;have y1:=gen q.k1 b1 hy;have w1:=gen q.k2 c1 hz;have u1:=gen q.k3 d1 hu;exact⟨q.f1.si r x y z u hr x1.1 x1.2.1 y1.1 y1.2.1 w1.1 w1.2.1 u1.1 u1.2.1,q.f2.si r x' y' z' u' hr x1.2.2.1 x1.2.2.2 y1.2.2.1 y1.2.2.2 w1.2.2.1 w1.2.2.2 u1.2.2.1 u1.2.2.2⟩
theorem uV.sg(q:uV av aw a b c d k k' D0 D1 D2 D3){r x x' y y' z z' u u':Int}(hr:r=5\/r=9\/r=10\/r=11)(hx:(x,x')∈D0\/x=0/\x'=0)(hy:(y,y')∈D1\/y=0/\y'=0)(hz:(z,z')∈D2\/z=0/\z'=0)(hu:(u,u')∈D3\/u=0/\u'=0):lK av (r,[x,y,z,u])=.ask (r,[x,y,z,u])/\lK aw (r,[x',y',z',u'])=.ask (r,[x',y',z',u']):=by
 obtain⟨s1,s2⟩:=q.si (r:=r) (by rcases hr with rfl |rfl |rfl |rfl<;>decide) hx hy hz hu;exact⟨kP q.f1.dr s1 (q.f1.ob r _ hr),kP q.f2.dr s2 (q.f2.ob r _ hr)⟩
theorem uV.e5(q:uV av aw a b c d k k' D0 D1 D2 D3):ck av aw (cw 5 0 0 0 0 0 0 0 0)=((zaj 10).map fun i:Nat=>cw 6 ((i:Int)%a) ((i:Int)%a) 0 0 0 0 0 0)/\eU av aw (cw 5 0 0 0 0 0 0 0 0)=true:=by
 obtain⟨s1,s2⟩:=q.sg (r:=5) (.inl rfl) (.inr ⟨rfl,rfl⟩) (.inr ⟨rfl,rfl⟩) (.inr ⟨rfl,rfl⟩) (.inr ⟨rfl,rfl⟩);obtain⟨e,al⟩:=uk s1 s2;refine⟨e.trans ?_,al⟩;rw[q.f1.l5,q.f2.l5,zbt];rfl
theorem uV.e9(q:uV av aw a b c d k k' D0 D1 D2 D3)(hp:p∈D0):ck av aw (cw 9 p.1 p.2 0 0 0 0 0 0)=((zaj 10).map fun i:Nat=>cw 10 p.1 p.2 ((i:Int)%b) ((i:Int)%b) 0 0 0 0)/\eU av aw (cw 9 p.1 p.2 0 0 0 0 0 0)=true:=by
 obtain⟨s1,s2⟩:=q.sg (r:=9) (.inr (.inl rfl)) (.inl hp) (.inr ⟨rfl,rfl⟩) (.inr ⟨rfl,rfl⟩) (.inr ⟨rfl,rfl⟩);obtain⟨e,al⟩:=uk s1 s2;refine⟨e.trans ?_,al⟩;rw[q.f1.l9,q.f2.l9,zbt];rfl
theorem uV.e6(q:uV av aw a b c d k k' D0 D1 D2 D3)(hp:p∈D0)(h0:p.1≠0):ck av aw (cw 6 p.1 p.2 0 0 0 0 0 0)=((zaj 10).map fun i:Nat=>cw 10 p.1 p.2 ((i:Int)%b) ((i:Int)%b) 0 0 0 0)/\eU av aw (cw 6 p.1 p.2 0 0 0 0 0 0)=true:=by
 obtain⟨s1,s2⟩:=q.sg (r:=9) (.inr (.inl rfl)) (.inl hp) (.inr ⟨rfl,rfl⟩) (.inr ⟨rfl,rfl⟩) (.inr ⟨rfl,rfl⟩);obtain⟨t1,t2⟩:=q.si (r:=6) (.inr (.inr (.inl rfl))) (.inl hp) (.inr ⟨rfl,rfl⟩) (.inr ⟨rfl,rfl⟩) (.inr ⟨rfl,rfl⟩);obtain⟨o1,n1⟩:=q.f1.s1 p.1 0 0 0 h0;obtain⟨o2,n2⟩:=q.f2.s1 p.2 0 0 0 (q.k0.Xp hp▸h0);have g1:=ud q.f1.dr t1 o1;have g2:=ud q.f2.dr t2 o2;rw[n1] at g1;rw[n2] at g2;obtain⟨e,al⟩:=uk (g1.symm.trans s1) (g2.symm.trans s2);refine⟨e.trans ?_,al⟩;rw[q.f1.l9,q.f2.l9,zbt];rfl
theorem uV.VG(q:uV av aw a b c d k k' D0 D1 D2 D3):ck av aw (cw 6 0 0 0 0 0 0 0 0)=(if k=k' then [cw 9 0 0 0 0 0 0 0 0] else [])/\eU av aw (cw 6 0 0 0 0 0 0 0 0)=decide (k=k'):=by
 obtain⟨s1,s2⟩:=q.si (r:=7) (.inr (.inr (.inr (.inl rfl)))) (.inr ⟨rfl,rfl⟩) (.inr ⟨rfl,rfl⟩) (.inr ⟨rfl,rfl⟩) (.inr ⟨rfl,rfl⟩);obtain⟨t1,t2⟩:=q.si (r:=6) (.inr (.inr (.inl rfl))) (.inr ⟨rfl,rfl⟩) (.inr ⟨rfl,rfl⟩) (.inr ⟨rfl,rfl⟩) (.inr ⟨rfl,rfl⟩);obtain⟨o1,n1⟩:=q.f1.s0 0 0 0;obtain⟨o2,n2⟩:=q.f2.s0 0 0 0;have g1:=ud q.f1.dr t1 o1;have g2:=ud q.f2.dr t2 o2;rw[n1] at g1;rw[n2] at g2;exact OV (g1.symm.trans (kP q.f1.dr s1 (q.f1.s7 _))) (g2.symm.trans (kP q.f2.dr s2 (q.f2.s7 _)))
theorem uV.ZA(q:uV av aw a b c d k k' D0 D1 D2 D3)(hp:p∈D0)(hr:r∈D1):ck av aw (cw 10 p.1 p.2 r.1 r.2 0 0 0 0)=((zaj 10).map fun i:Nat=>cw 11 p.1 p.2 r.1 r.2 ((i:Int)%c) ((i:Int)%c) 0 0)/\eU av aw (cw 10 p.1 p.2 r.1 r.2 0 0 0 0)=true:=by
 obtain⟨s1,s2⟩:=q.sg (r:=10) (.inr (.inr (.inl rfl))) (.inl hp) (.inl hr) (.inr ⟨rfl,rfl⟩) (.inr ⟨rfl,rfl⟩);obtain⟨e,al⟩:=uk s1 s2;refine⟨e.trans ?_,al⟩;rw[q.f1.OU,q.f2.OU,zbt];rfl
theorem uV.ZC(q:uV av aw a b c d k k' D0 D1 D2 D3)(hp:p∈D0)(hr:r∈D1)(hs:s∈D2):ck av aw (cw 11 p.1 p.2 r.1 r.2 s.1 s.2 0 0)=((zaj 10).map fun i:Nat=>cw 0 p.1 p.2 r.1 r.2 s.1 s.2 ((i:Int)%d) ((i:Int)%d))/\eU av aw (cw 11 p.1 p.2 r.1 r.2 s.1 s.2 0 0)=true:=by
 obtain⟨s1,s2⟩:=q.sg (r:=11) (.inr (.inr (.inr rfl))) (.inl hp) (.inl hr) (.inl hs) (.inr ⟨rfl,rfl⟩);obtain⟨e,al⟩:=uk s1 s2;refine⟨e.trans ?_,al⟩;rw[q.f1.l11,q.f2.l11,zbt];rfl
theorem uV.e0(q:uV av aw a b c d k k' D0 D1 D2 D3)(hp:p∈D0)(hr:r∈D1)(hs:s∈D2)(ht:t∈D3):ck av aw (cw 0 p.1 p.2 r.1 r.2 s.1 s.2 t.1 t.2)=[]/\eU av aw (cw 0 p.1 p.2 r.1 r.2 s.1 s.2 t.1 t.2)=true:=by
 obtain⟨s1,s2⟩:=q.si (r:=0) (.inl rfl) (.inl hp) (.inl hr) (.inl hs) (.inl ht);exact AQ q.f1.dr q.f2.dr s1 s2
end
def t9 (k k':Int):List br:=if k=k' then [cw 9 0 0 0 0 0 0 0 0] else []
def Nx (k k':Int)(D0 D D1 D2 D3:List (Int×Int)):List br:=[cw 5 0 0 0 0 0 0 0 0]++EY D0++t9 k k'++DI 10 D D1 oO oO++DI 11 D D1 D2 oO++DI 0 D D1 D2 D3
section
variable{av aw:PG.Prog}{a b c d k k':Int}{D0 D1 D2 D3 D:List (Int×Int)}
theorem GI:(Nx k k' D0 D D1 D2 D3).length=1+D0.length+(if k=k' then 1 else 0)+D.length*D1.length+D.length*(D1.length*D2.length)+D.length*(D1.length*(D2.length*D3.length)):=by
 unfold Nx t9;rw[zai,zai,zai,zai,zai,AR,AR,AR,show (EY D0).length=D0.length from zac ..];show 1+_+_+D.length*(D1.length*(1*1))+D.length*(D1.length*(D2.length*1))+_=_;rw[Nat.mul_one,Nat.mul_one];by_cases e:k=k'
 .rw[ybS e,ybS e];rfl
 .rw[ybR e,ybR e];rfl
theorem um:x∈Nx k k' D0 D D1 D2 D3↔x=cw 5 0 0 0 0 0 0 0 0\/(∃p∈D0,cw 6 p.1 p.2 0 0 0 0 0 0=x)\/(k=k'/\x=cw 9 0 0 0 0 0 0 0 0)\/(∃p∈D,∃r∈D1,cw 10 p.1 p.2 r.1 r.2 0 0 0 0=x)\/(∃p∈D,∃r∈D1,∃s∈D2,cw 11 p.1 p.2 r.1 r.2 s.1 s.2 0 0=x)\/∃p∈D,∃r∈D1,∃s∈D2,∃t∈D3,cw 0 p.1 p.2 r.1 r.2 s.1 s.2 t.1 t.2=x:=by
 unfold Nx t9;rw[zan,zan,zan,zan,zan,eO,eO,eO,iD,zaf];have e9:(x∈if k=k' then [cw 9 0 0 0 0 0 0 0 0] else [])↔k=k'/\x=cw 9 0 0 0 0 0 0 0 0:=by
  by_cases e:k=k'
  .rw[ybS e,zaf];exact⟨fun h=>⟨e,h⟩,(·.2)⟩
  .rw[ybR e];exact⟨(fun h=>by cases h),fun h=>ybX h.1 e⟩
 have o1:∀{P:Int×Int->Prop},(∃p∈oO,P p)↔P (0,0):=⟨fun ⟨p,hp,h⟩=>by rwa [zaf.mp hp] at h,fun h=>⟨_,zaf.mpr rfl,h⟩⟩
 rw[e9];simp only[o1,or_assoc]
theorem ID(n0:D0.Nodup)(n:D.Nodup)(n1:D1.Nodup)(n2:D2.Nodup)(n3:D3.Nodup):(Nx k k' D0 D D1 D2 D3).Nodup:=by
 have nO:oO.Nodup:=zaV.mpr ⟨by simp,zbi⟩;have a1:(EY D0).Nodup:=md n0 fun a b e=>by obtain⟨_,h1,h2,_⟩:=ff e;exact Prod.ext h1 h2
 have r1:∀p∈EY D0,p.1.1=6:=fun p hp=>by obtain⟨_,_,rfl⟩:=iD.mp hp;rfl
 have r9:∀p∈t9 k k',p.1.1=9:=fun p hp=>by
  unfold t9 at hp;by_cases e:k=k'
  .rw[ybS e] at hp;rw[zaf.mp hp];rfl
  .rw[ybR e] at hp;cases hp
 have n9:(t9 k k').Nodup:=by
  unfold t9;by_cases e:k=k'
  .rw[ybS e];exact zaV.mpr ⟨by simp,zbi⟩
  .rw[ybR e];exact zbi
 have app:∀{l m:List br} {P:Int->Prop} {E:Int},l.Nodup->(∀p∈l,P p.1.1)->m.Nodup->(∀p∈m,p.1.1=E)->¬P E->(l++m).Nodup/\∀p∈l++m,P p.1.1\/p.1.1=E:=fun h1 hp h2 hq no=>⟨zbM.mpr ⟨h1,h2,fun x hx y hy e=>no (by have:=hp x hx;rwa [e,hq y hy] at this)⟩,fun p h=>(zan.mp h).imp (hp p) (hq p)⟩
 have b0:([cw 5 0 0 0 0 0 0 0 0]:List br).Nodup:=zaV.mpr ⟨by simp,zbi⟩;obtain⟨b1,c1⟩:=app (P:=(·=5)) b0 (fun p hp=>by rw[zaf.mp hp];rfl) a1 r1 (by decide);obtain⟨b2,c2⟩:=app (P:=fun x=>x=5\/x=6) b1 c1 n9 r9 (by decide);obtain⟨b3,c3⟩:=app (P:=fun x=>(x=5\/x=6)\/x=9) b2 c2 (E2 (E:=10) n n1 nO nO) AS (by decide);obtain⟨b4,c4⟩:=app (P:=fun x=>((x=5\/x=6)\/x=9)\/x=10) b3 c3 (E2 (E:=11) n n1 n2 nO) AS (by decide);exact(app (P:=fun x=>(((x=5\/x=6)\/x=9)\/x=10)\/x=11) b4 c4 (E2 (E:=0) n n1 n2 n3) AS (by decide)).1
theorem uV.found(q:uV av aw a b c d k k' D0 D1 D2 D3)(hD:∀p,p∈D↔p∈D0/\(k=k'\/p.1≠0))(nd:D.Nodup) :
 (aO av aw).length=(Nx k k' D0 D D1 D2 D3).length/\∀x,x∈Nx k k' D0 D D1 D2 D3↔x∈(aO av aw).map (·.1):=by
 have fs:gN av aw=cw 5 0 0 0 0 0 0 0 0:=by unfold gN;rw[q.f1.fst,q.f2.fst];rfl
 have zz:∀{p:Int×Int},p∈D0->p.1=0->p=(0,0):=fun hp e=>Prod.ext e ((q.k0.Xp hp).symm.trans e);have m5:∀y,y∈ck av aw (cw 5 0 0 0 0 0 0 0 0)↔∃p∈D0,y=cw 6 p.1 p.2 0 0 0 0 0 0:=fun y=>by rw[q.e5.1];exact q.k0.map (fun i j=>cw 6 i j 0 0 0 0 0 0) y
 have m9:∀{p},p∈D0->∀y,y∈ck av aw (cw 9 p.1 p.2 0 0 0 0 0 0)↔∃r∈D1,y=cw 10 p.1 p.2 r.1 r.2 0 0 0 0:=fun hp y=>by rw[(q.e9 hp).1];exact q.k1.map (fun i j=>cw 10 _ _ i j 0 0 0 0) y
 have m6:∀{p},p∈D0->p.1≠0->∀y,y∈ck av aw (cw 6 p.1 p.2 0 0 0 0 0 0)↔∃r∈D1,y=cw 10 p.1 p.2 r.1 r.2 0 0 0 0:=fun hp h0 y=>by rw[(q.e6 hp h0).1];exact q.k1.map (fun i j=>cw 10 _ _ i j 0 0 0 0) y
 have m10:∀{p r},p∈D0->r∈D1->∀y,y∈ck av aw (cw 10 p.1 p.2 r.1 r.2 0 0 0 0)↔∃s∈D2,y=cw 11 p.1 p.2 r.1 r.2 s.1 s.2 0 0:=fun hp hr y=>by rw[(q.ZA hp hr).1];exact q.k2.map (fun i j=>cw 11 _ _ _ _ i j 0 0) y
 have m11:∀{p r s},p∈D0->r∈D1->s∈D2->∀y,y∈ck av aw (cw 11 p.1 p.2 r.1 r.2 s.1 s.2 0 0)↔∃t∈D3,y=cw 0 p.1 p.2 r.1 r.2 s.1 s.2 t.1 t.2:=fun hp hr hs y=>by rw[(q.ZC hp hr hs).1];exact q.k3.map (fun i j=>cw 0 _ _ _ _ _ _ i j) y
 refine GD q.f1.dr q.f2.dr (ID q.k0.nd nd q.k1.nd q.k2.nd q.k3.nd) (um.mpr (.inl fs)) (fun x hx y hy=>?_) fun S h0 hS x hx=>?_
 .rw[um] at hx |-;rcases hx with rfl |⟨p,hp,rfl⟩ |⟨e,rfl⟩ |⟨p,hp,r,hr,rfl⟩ |⟨p,hp,r,hr,s,hs,rfl⟩ |⟨p,hp,r,hr,s,hs,t,ht,rfl⟩
  .obtain⟨p,hp,rfl⟩:=(m5 y).mp hy;exact .inr (.inl ⟨p,hp,rfl⟩)
  .by_cases z:p.1=0
   .cases zz hp z;rw[q.VG.1] at hy;by_cases e:k=k'
    .rw[ybS e,zaf] at hy;exact .inr (.inr (.inl ⟨e,hy⟩))
    .rw[ybR e] at hy;cases hy
   .obtain⟨r,hr,rfl⟩:=(m6 hp z y).mp hy;exact .inr (.inr (.inr (.inl ⟨p,(hD p).mpr ⟨hp,.inr z⟩,r,hr,rfl⟩)))
  .obtain⟨r,hr,rfl⟩:=(m9 q.k0.zero y).mp hy;exact .inr (.inr (.inr (.inl ⟨_,(hD _).mpr ⟨q.k0.zero,.inl e⟩,r,hr,rfl⟩)))
  .obtain⟨s,hs,rfl⟩:=(m10 ((hD p).mp hp).1 hr y).mp hy;exact .inr (.inr (.inr (.inr (.inl ⟨p,hp,r,hr,s,hs,rfl⟩))))
  .obtain⟨t,ht,rfl⟩:=(m11 ((hD p).mp hp).1 hr hs y).mp hy;exact .inr (.inr (.inr (.inr (.inr ⟨p,hp,r,hr,s,hs,t,ht,rfl⟩))))
  .rw[(q.e0 ((hD p).mp hp).1 hr hs ht).1] at hy;cases hy
 .rw[fs] at h0;have g6:∀p∈D0,S (cw 6 p.1 p.2 0 0 0 0 0 0):=fun p hp=>hS _ h0 _ ((m5 _).mpr ⟨p,hp,rfl⟩);have g9:k=k'->S (cw 9 0 0 0 0 0 0 0 0):=fun e=>hS _ (g6 _ q.k0.zero) _ (by show _∈ck av aw (cw 6 0 0 0 0 0 0 0 0);rw[q.VG.1,ybS e];exact zaf.mpr rfl);have Xq:∀p∈D,∀r∈D1,S (cw 10 p.1 p.2 r.1 r.2 0 0 0 0):=fun p hp r hr=>by
   obtain⟨h0,h⟩:=(hD p).mp hp;by_cases z:p.1=0
   .cases zz h0 z;exact hS _ (g9 (h.resolve_right fun n=>n rfl)) _ ((m9 q.k0.zero _).mpr ⟨r,hr,rfl⟩)
   .exact hS _ (g6 p h0) _ ((m6 h0 z _).mpr ⟨r,hr,rfl⟩)
  have g11:∀p∈D,∀r∈D1,∀s∈D2,S (cw 11 p.1 p.2 r.1 r.2 s.1 s.2 0 0):=fun p hp r hr s hs=>hS _ (Xq p hp r hr) _ ((m10 ((hD p).mp hp).1 hr _).mpr ⟨s,hs,rfl⟩);rcases um.mp hx with rfl |⟨p,hp,rfl⟩ |⟨e,rfl⟩ |⟨p,hp,r,hr,rfl⟩ |⟨p,hp,r,hr,s,hs,rfl⟩ |⟨p,hp,r,hr,s,hs,t,ht,rfl⟩
  .exact h0
  .exact g6 p hp
  .exact g9 e
  .exact Xq p hp r hr
  .exact g11 p hp r hr s hs
  .exact hS _ (g11 p hp r hr s hs) _ ((m11 ((hD p).mp hp).1 hr hs _).mpr ⟨t,ht,rfl⟩)
theorem uV.ali(q:uV av aw a b c d k k' D0 D1 D2 D3)(hD:∀p,p∈D↔p∈D0/\(k=k'\/p.1≠0))(hx:x∈Nx k k' D0 D D1 D2 D3):eU av aw x=true\/k≠k'/\x=cw 6 0 0 0 0 0 0 0 0:=by
 rcases um.mp hx with rfl |⟨p,hp,rfl⟩ |⟨e,rfl⟩ |⟨p,hp,r,hr,rfl⟩ |⟨p,hp,r,hr,s,hs,rfl⟩ |⟨p,hp,r,hr,s,hs,t,ht,rfl⟩
 .exact .inl q.e5.2
 .by_cases z:p.1=0
  .cases (Prod.ext z ((q.k0.Xp hp).symm.trans z):p=(0,0));by_cases e:k=k'
   .exact .inl (q.VG.2.trans (ybT e))
   .exact .inr ⟨e,rfl⟩
  .exact .inl (q.e6 hp z).2
 .exact .inl (q.e9 q.k0.zero).2
 .exact .inl (q.ZA ((hD p).mp hp).1 hr).2
 .exact .inl (q.ZC ((hD p).mp hp).1 hr hs).2
 .exact .inl (q.e0 ((hD p).mp hp).1 hr hs ht).2
theorem uV.alike(q:uV av aw a b c d k k' D0 D1 D2 D3)(hD:∀p,p∈D↔p∈D0/\(k=k'\/p.1≠0))(nd:D.Nodup)(e:k=k'):i5 av aw (aO av aw)=none:=GF (q.found hD nd).2 fun x hx=>(q.ali hD hx).resolve_right fun h=>h.1 e
theorem uV.apart(q:uV av aw a b c d k k' D0 D1 D2 D3)(hD:∀p,p∈D↔p∈D0/\(k=k'\/p.1≠0))(nd:D.Nodup)(ne:k≠k'):i5 av aw (aO av aw)=some [0]:=by
 obtain⟨l,m⟩:=q.found hD nd;have fs:gN av aw=cw 5 0 0 0 0 0 0 0 0:=by unfold gN;rw[q.f1.fst,q.f2.fst];rfl
 have b6:eU av aw (cw 6 0 0 0 0 0 0 0 0)=false:=q.VG.2.trans (ybU ne);have g5:∀{i:Nat} {t:br},(ck av aw (cw 5 0 0 0 0 0 0 0 0))[i]?=some t->t.1.1=6:=fun h=>by
  rw[q.e5.1] at h;obtain⟨j,_,rfl⟩:=zae.mp (zaD h);rfl
 have l5:(ck av aw (cw 5 0 0 0 0 0 0 0 0)).length≠1:=by rw[q.e5.1,zac,zaJ];decide
 refine GG q.f1.dr q.f2.dr (n:=1) (p0:=cw 6 0 0 0 0 0 0 0 0) ?_ b6 fun p g cp al=>?_
 .have:=vY.many (i:=0) (s:=cw 5 0 0 0 0 0 0 0 0) (t:=cw 6 0 0 0 0 0 0 0 0) (led:=ck av aw) (s0:=gN av aw) (g:=[]) (by rw[<- fs];exact .start) l5 (by rw[q.e5.1];simp);exact this
 .have hp:p=cw 6 0 0 0 0 0 0 0 0:=by
   have:=(q.ali hD ((m p).mpr (EX q.f1.dr q.f2.dr cp)))
   rcases this with h |h
   .rw[h] at al;cases al
   .exact h.2
  subst hp;have no:∀{x:br} {g:List Int},vY (ck av aw) (gN av aw) x g->(x.1.1=5->g=[])/\(x.1.1=6->g.length=1):=by
   intro x g cp;have all:∀{x:br} {g:List Int},vY (ck av aw) (gN av aw) x g->x∈Nx k k' D0 D D1 D2 D3:=fun c=>(m _).mpr (EX q.f1.dr q.f2.dr c);have bk:∀{x y:br},x∈Nx k k' D0 D D1 D2 D3->y∈ck av aw x->y.1.1≠5/\(y.1.1=6->x=cw 5 0 0 0 0 0 0 0 0):=fun {x y} hx hy=>by
    rcases um.mp hx with rfl |⟨p,hp,rfl⟩ |⟨e,rfl⟩ |⟨p,hp,r,hr,rfl⟩ |⟨p,hp,r,hr,s,hs,rfl⟩ |⟨p,hp,r,hr,s,hs,t,ht,rfl⟩
    .rw[q.e5.1] at hy;obtain⟨j,_,rfl⟩:=zae.mp hy;exact⟨by show (6:Int)≠5;decide,fun _=>rfl⟩
    .by_cases z:p.1=0
     .cases (Prod.ext z ((q.k0.Xp hp).symm.trans z):p=(0,0));rw[q.VG.1,ybR ne] at hy;cases hy
     .rw[(q.e6 hp z).1] at hy;obtain⟨j,_,rfl⟩:=zae.mp hy;exact⟨by show (10:Int)≠5;decide,fun h=>ybX h (by show (10:Int)≠6;decide)⟩
    .exact ybX e ne
    .rw[(q.ZA ((hD p).mp hp).1 hr).1] at hy;obtain⟨j,_,rfl⟩:=zae.mp hy;exact⟨by show (11:Int)≠5;decide,fun h=>ybX h (by show (11:Int)≠6;decide)⟩
    .rw[(q.ZC ((hD p).mp hp).1 hr hs).1] at hy;obtain⟨j,_,rfl⟩:=zae.mp hy;exact⟨by show (0:Int)≠5;decide,fun h=>ybX h (by show (0:Int)≠6;decide)⟩
    .rw[(q.e0 ((hD p).mp hp).1 hr hs ht).1] at hy;cases hy
   induction cp with
   |start=>exact⟨fun _=>rfl,fun h=>by rw[fs] at h;exact ybX h (by show (5:Int)≠6;decide)⟩
   |one c e ih=>
    obtain⟨h1,h2⟩:=bk (all c) (by rw[e];exact zaf.mpr rfl);refine⟨fun h=>ybX h h1,fun h=>?_⟩;rw[h2 h] at e;exact ybX (ybW zbg e) l5
   |many c _ e ih=>
    obtain⟨h1,h2⟩:=bk (all c) (zaD e);refine⟨fun h=>ybX h h1,fun h=>?_⟩;rw[ih.1 (by rw[h2 h];rfl)];rfl
  exact(no cp).2 rfl
end
noncomputable def CU (a:Int):List (Int×Int):=(zaj a.toNat).map fun i:Nat=>((i:Int),(i:Int))
noncomputable def Tv (a:Int):List (Int×Int):=(zaj (a.toNat-1)).map fun i:Nat=>((i:Int)+1,(i:Int)+1)
theorem lM(h:2<=a):((CU a).length:Int)=a:=by unfold CU;rw[zac,zaJ];lia
theorem OW(h:2<=a):((Tv a).length:Int)=a-1:=by unfold Tv;rw[zac,zaJ];lia
theorem v7(h1:2<=a)(h2:a<=10):DkZ a a (CU a):=by
 refine⟨md zcc fun i j e=>by cases e;rfl,fun p=>?_⟩;unfold CU;rw[zae]
 constructor
 .rintro ⟨i,hi,rfl⟩
  have hi:=zav.mp hi;have e:(i:Int)%a=i:=Int.emod_eq_of_lt (by lia) (by lia);exact⟨i,by lia,by rw[e]⟩
 .rintro ⟨f,hf,rfl⟩
  have g0:=zbr (f:Int) (show a≠0 by lia);have g1:=zba (f:Int) (show 0<a by lia);refine⟨((f:Int)%a).toNat,zav.mpr (by lia),?_⟩;have e:(((f:Int)%a).toNat:Int)=(f:Int)%a:=by lia
  rw[e]
theorem OX(h:2<=a)(p:Int×Int):p∈Tv a↔p∈CU a/\p.1≠0:=by
 unfold CU Tv;rw[zae,zae]
 constructor
 .rintro ⟨i,hi,rfl⟩
  have hi:=zav.mp hi;exact⟨⟨i+1,zav.mpr (by lia),by simp⟩,by show (i:Int)+1≠0;lia⟩
 .rintro ⟨⟨i,hi,rfl⟩,h0⟩
  have hi:=zav.mp hi;have h0:(i:Int)≠0:=h0;refine⟨i-1,zav.mpr (by lia),?_⟩;have e:((i-1:Nat):Int)+1=i:=by lia
  rw[e]
theorem Me:(Tv a).Nodup:=md zcc fun i j e=>by
 have:=ybW Prod.fst e;have:(i:Int)+1=j+1:=this;lia
theorem So(z:DH a b c d)(k0:0<=k)(k1:k+1<=999) :
 (i5 (uj a b c d k) (uj a b c d k) (aO (uj a b c d k) (uj a b c d k))=none/\((aO (uj a b c d k) (uj a b c d k)).length:Int)=1+a+1+a*b+a*b*c+a*b*c*d)/\
 (i5 (uj a b c d k) (uj a b c d (k+1)) (aO (uj a b c d k) (uj a b c d (k+1)))=some [0]/\((aO (uj a b c d k) (uj a b c d (k+1))).length:Int)=1+a+(a-1)*b+(a-1)*b*c+(a-1)*b*c*d):=by
 have z':=z;obtain⟨a1,a2,b1,b2,c1,c2,d1,d2⟩:=z';have q:uV (uj a b c d k) (uj a b c d k) a b c d k k (CU a) (CU b) (CU c) (CU d):=⟨mS z k0 (by lia),mS z k0 (by lia),z,v7 a1 a2,v7 b1 b2,v7 c1 c2,v7 d1 d2⟩
 have q2:uV (uj a b c d k) (uj a b c d (k+1)) a b c d k (k+1) (CU a) (CU b) (CU c) (CU d):=⟨mS z k0 (by lia),mS z (by lia) k1,z,v7 a1 a2,v7 b1 b2,v7 c1 c2,v7 d1 d2⟩
 have h1:∀p,p∈CU a↔p∈CU a/\(k=k\/p.1≠0):=fun p=>⟨fun h=>⟨h,.inl rfl⟩,(·.1)⟩
 have h2:∀p,p∈Tv a↔p∈CU a/\(k=k+1\/p.1≠0):=fun p=>by
  rw[OX a1];exact⟨fun h=>⟨h.1,.inr h.2⟩,fun h=>⟨h.1,h.2.resolve_left (by lia)⟩⟩
 refine⟨⟨q.alike h1 q.k0.nd rfl,?_⟩,q2.apart h2 Me (by lia),?_⟩
 .rw[(q.found h1 q.k0.nd).1,GI,ybS rfl]
  push_cast
  rw[lM a1,lM b1,lM c1,lM d1];simp only[Int.mul_assoc]
 .rw[(q2.found h2 Me).1,GI,ybR (by lia)]
  push_cast
  rw[lM a1,OW a1,lM b1,lM c1,lM d1];simp only[Int.mul_assoc,zde]
theorem AU(a a':Int):∃D,DkZ a a' D:=by
 have gen:∀l:List (Int×Int),∃us:List (Int×Int),us.Nodup/\∀x,x∈us↔x∈l:=fun l=>by
  induction l with
  |nil=>exact⟨[],zbi,fun x=>Iff.rfl⟩
  |cons x l ih=>
   obtain⟨us,n,m⟩:=ih;by_cases h:x∈us
   .refine⟨us,n,fun y=>?_⟩;rw[zak,m];exact⟨.inr,fun e=>e.elim (fun e=>(m y).mp (e▸h)) id⟩
   .refine⟨x::us,zaV.mpr ⟨h,n⟩,fun y=>?_⟩;rw[zak,zak,m]
 obtain⟨us,n,m⟩:=gen ((zaj 10).map fun f:Nat=>((f:Int)%a,(f:Int)%a'));refine⟨us,n,fun p=>(m p).trans ?_⟩;rw[zae];exact⟨fun ⟨i,hi,e⟩=>⟨i,zav.mp hi,e.symm⟩,fun ⟨i,hi,e⟩=>⟨i,zav.mpr hi,e.symm⟩⟩
theorem Mf(h:(jG av,jG aw) ∉ l):kQ av aw l=false:=by
 unfold kQ;rw[ybU h];rfl
noncomputable def xo:Nat->Nat
 |0=>0
 |n+1=>5*xo n+1
theorem wV:∀n,4*xo n+1=5 ^ n
 |0=>rfl
 |n+1=>by
  have:=wV n;rw[xo,zbm,<- this];lia
theorem E3(n:Nat):∀d,xo (n+d)=5 ^ d*xo n+xo d
 |0=>by simp[xo]
 |d+1=>by
  rw[<- Nat.add_assoc,xo,E3 n d,xo,zbm]
  grind
theorem Sq(e:Nat):xo (2*e)=2*(xo e*(2*xo e+1)):=by
 rw[Nat.two_mul,E3,<- wV e]
 grind
theorem Mg:∀n,xo n%2=n%2
 |0=>rfl
 |n+1=>by
  have:=Mg n;rw[xo];lia
theorem Sr(k y:Nat):Nat.Coprime (2 ^ k) (2*y+1):=Nat.Coprime.pow_left k (by
 unfold Nat.Coprime;rw[Nat.gcd_rec];have:(2*y+1)%2=1:=by lia
 rw[this];simp)
theorem Mh:∀k d,2 ^ k ∣ xo d->2 ^ k ∣ d
 |0,d,_=>by simp
 |k+1,d,h=>by
  have h2:2 ∣ xo d:=Nat.dvd_trans ⟨2 ^ k,by rw[zbm];lia⟩ h;have:=Mg d;obtain⟨e,rfl⟩:∃e,d=2*e:=⟨d/2,by lia⟩
  rw[Sq,zbm,zdD (2 ^ k) 2] at h;have h:=Nat.dvd_of_mul_dvd_mul_left (by decide) h;have h:=Mh k e ((Sr k (xo e)).dvd_of_dvd_mul_right h);rw[zbm,zdD (2 ^ k) 2];exact Nat.mul_dvd_mul_left 2 h
noncomputable def Jt (M i:Nat):Nat->Nat
 |0=>i
 |n+1=>(Jt M i n*5+1)%M
theorem E4(M i:Nat)(hi:i<M):∀n,Jt M i n=(5 ^ n*i+xo n)%M
 |0=>by simp[Jt,xo,Nat.mod_eq_of_lt hi]
 |n+1=>by
  rw[Jt,E4 M i hi n,xo,zbm];rw[Nat.add_mod,Nat.mul_mod,Nat.mod_mod,<- Nat.mul_mod,<- Nat.add_mod]
  congr 1
  grind
theorem OY(hi:i<2 ^ k)(e:Jt (2 ^ k) i (n+d)=Jt (2 ^ k) i n):2 ^ k ∣ d:=by
 rw[E4 _ _ hi,E4 _ _ hi] at e;have e1:5 ^ (n+d)*i+xo (n+d)=(5 ^ n*i+xo n)+5 ^ n*(xo d*(2*(2*i)+1)):=by
  rw[zcL n d,E3 d n,Nat.pow_add,<- wV d]
  grind
 rw[e1] at e;have e2:2 ^ k ∣ 5 ^ n*(xo d*(2*(2*i)+1)):=by
  generalize 5 ^ n*(xo d*(2*(2*i)+1))=y at *;generalize 5 ^ n*i+xo n=x at *;have h1:=Nat.sub_mod_eq_zero_of_mod_eq e;rw[Nat.add_sub_cancel_left] at h1;exact Nat.dvd_of_mod_eq_zero h1
 have c5:Nat.Coprime (2 ^ k) (5 ^ n):=by
  have:=Sr k (2*xo n);rw[show 2*(2*xo n)+1=5 ^ n by rw[<- wV n];lia] at this;exact this
 exact Mh k d ((Sr k (2*i)).dvd_of_dvd_mul_right (c5.dvd_of_dvd_mul_left e2))
theorem GJ(hi:i<2 ^ k)(hr:r<2 ^ k):∃n,n<2 ^ k/\Jt (2 ^ k) i n=r:=by
 refine Classical.byContradiction fun z=>?_;have nd:((zaj (2 ^ k)).map (Jt (2 ^ k) i)).Nodup:=by
  rw[zbs,zaL];refine(zbG (n:=2 ^ k)).imp_of_mem fun {a b} ha hb h e=>?_;have:=OY hi (n:=a) (d:=b-a) (by rw[show a+(b-a)=b by lia];exact e.symm);have hb:=zav.mp hb;have:=Nat.le_of_dvd (by lia) this;lia
 have lt:∀n,Jt (2 ^ k) i n<2 ^ k:=fun n=>by
  cases n with
  |zero=>exact hi
  |succ n=>exact zc9 _ (by lia)
 have:=eB (r::(zaj (2 ^ k)).map (Jt (2 ^ k) i)) (zaj (2 ^ k)) (zaV.mpr ⟨fun h=>by
  obtain⟨n,hn,e⟩:=zae.mp h;exact z ⟨n,zav.mp hn,e⟩,nd⟩) fun x hx=>by
  rcases zak.mp hx with rfl |hx
  .exact zav.mpr hr
  .obtain⟨n,_,rfl⟩:=zae.mp hx;exact zav.mpr (lt n)
 simp at this;lia
def BE (xs:Array Nat):Prop:=xs.toList.Pairwise (· < ·)
theorem BE.lt(h:BE xs)(hj:j<xs.size)(l:i<j):xs[i]'(zbH l hj)<xs[j]:=
 zbP.mp h i j (zbH l hj) hj l
theorem Mi(R:BE xs)(f:Nat):∀(lo hi:Nat),hi<=lo+f->lo<=hi->hi<=xs.size->(∀i (h:i<xs.size),i<lo->xs[i]<j)->(∀i (h:i<xs.size),hi<=i->j<=xs[i])->
 ybu xs j f lo hi<=xs.size/\(∀i (h:i<xs.size),i<ybu xs j f lo hi->xs[i]<j)/\∀i (h:i<xs.size),ybu xs j f lo hi<=i->j<=xs[i]:=by
 induction f with
 |zero=>
  intro lo hi hf l hs a b;exact⟨zax l hs,a,fun i h q=>b i h (zax hf q)⟩
 |succ f ih=>
  intro lo hi hf l hs a b;rw[ybu];by_cases c:lo<hi
  .rw[ybS c];obtain⟨m1,m2,m3,m4⟩:lo<=(lo+hi)/2/\(lo+hi)/2<hi/\(lo+hi)/2<=lo+f/\hi<=(lo+hi)/2+1+f:=by lia
   dsimp only;generalize (lo+hi)/2=m at *;have hm:m<xs.size:=zat m2 hs;have e:xs.getD m j=xs[m]:=by rw[Array.getD,dif_pos hm];rfl
   rw[e];by_cases d:xs[m]<j
   .rw[ybS d];refine ih _ _ m4 m2 hs (fun i h q=>?_) b;rcases zcX (zbA q) with q |q
    .exact zbH (R.lt hm q) d
    .subst q;exact d
   .rw[ybR d];have d:=zb2.mp d;refine ih _ _ m3 m1 (zbw hm) a fun i h q=>?_;rcases zcX q with q |q
    .exact zax d (zbw (R.lt h q))
    .subst q;exact d
  .rw[ybR c];exact⟨zax l hs,a,fun i h q=>b i h (zax (zb2.mp c) q)⟩
theorem xR(R:BE xs):yag xs j<=xs.size/\(∀i (h:i<xs.size),i<yag xs j->xs[i]<j)/\∀i (h:i<xs.size),yag xs j<=i->j<=xs[i]:=
 Mi R _ _ _ (Nat.le_add_left _ _) (zaN _) (zah _) (fun i h q=>ybX q (zcj _)) fun i h q=>ybX h (zb2.mpr q)
theorem BE.ins(R:BE xs)(n:xs[yag xs j]?≠some j):BE (yap xs (yag xs j) j):=by
 obtain⟨h1,h2,h3⟩:=xR (j:=j) R;generalize yag xs j=p at *;have A:∀x∈xs.toList.take p,x<j:=fun x hx=>by
  obtain⟨i,hi,rfl⟩:=List.mem_take_iff_getElem.mp hx;exact h2 i (zat hi (Nat.min_le_right _ _)) (zat hi (zdj _ _))
 have B:∀y∈xs.toList.drop p,j<y:=fun y hy=>by
  obtain⟨k,hk,rfl⟩:=List.mem_drop_iff_getElem.mp hy;have hk:p+k<xs.size:=zcL k p▸hk;have hp:p<xs.size:=zbu (zbo _ _) hk;refine Nat.lt_of_le_of_ne (h3 (p+k) hk (zbo _ _)) fun q=>?_;have q:j=xs[p+k]:=q;cases k with
  |zero=>exact n ((zaU hp).trans (ybW some q.symm))
  |succ k=>exact ybX (h3 p hp (zah _)) (Nat.not_le.mpr (by rw[q];exact R.lt hk (Nat.lt_add_of_pos_right (zcO k))))
 unfold BE;rw[ybr,zcM];refine⟨R.sublist (List.take_sublist _ _),zbv.mpr ⟨B,R.sublist (List.drop_sublist _ _)⟩,fun x hx y hy=>?_⟩;rcases zak.mp hy with rfl |hy
 .exact A x hx
 .exact zbH (A x hx) (B y hy)
theorem BE.nil:BE #[]:=by unfold BE;simp
noncomputable def bM (t:SetTable)(h:Int):Nat->SetTable.Probe
 |0=>t.probeStart h
 |n+1=>t.advance (bM t h n)
theorem uo(e:t.mask=u.mask)(h:Int):∀n,bM t h n=bM u h n
 |0=>by unfold bM SetTable.probeStart;rw[e]
 |n+1=>by
  rw[bM,bM,uo e h n];unfold ybh;rw[e]
theorem AV(t:SetTable)(h:Int):∀n,(bM t h n).dummy=none
 |0=>rfl
 |n+1=>by
  rw[bM];unfold ybh;split
  .exact AV t h n
  .exact AV t h n
noncomputable def VH (mask i pb:Nat):SetTable.Probe:={j:=i,more:=yai mask i-i,i:=i,perturb:=pb,dummy:=none}
theorem Ss(mask i:Nat):yai mask i-i<=9:=by
 unfold yai;split<;>lia
theorem E5(e:bM t h n=VH t.mask i pb):∀m,m<=yai t.mask i-i->bM t h (n+m)={j:=i+m,more:=yai t.mask i-i-m,i:=i,perturb:=pb,dummy:=none}
 |0,_=>e
 |m+1,hm=>by
  rw[<- Nat.add_assoc,bM,E5 e m (by lia)];unfold ybh;rw[ybS (by show yai t.mask i-i-m>0;lia)];rfl
theorem xS(e:bM t h n=VH t.mask i pb):bM t h (n+(yai t.mask i-i)+1)=VH t.mask (ybi t.mask i pb).1 (ybi t.mask i pb).2:=by
 rw[bM,E5 e _ (zah _)];unfold ybh;rw[ybR (by show ¬yai t.mask i-i-(yai t.mask i-i)>0;lia)];rfl
noncomputable def qz (t:SetTable)(h:Int):Nat->Nat×Nat
 |0=>(yav h%(t.mask+1),yav h)
 |m+1=>ybi t.mask (qz t h m).1 (qz t h m).2
theorem GK(t:SetTable)(h:Int):∀m,∃n,n<=10*m/\bM t h n=VH t.mask (qz t h m).1 (qz t h m).2
 |0=>⟨0,zah _,rfl⟩
 |m+1=>by
  obtain⟨n,hn,e⟩:=GK t h m;have:=Ss t.mask (qz t h m).1;exact⟨_,by lia,xS e⟩
theorem GL(t:SetTable)(h:Int):∀m,(qz t h m).2=yav h/32 ^ m
 |0=>by simp[qz]
 |m+1=>by
  rw[qz];show (qz t h m).2/32=_;rw[GL t h m,Nat.div_div_eq_div_mul,zbm]
theorem OZ(h:Int):yav h<2 ^ 64:=by
 unfold yav;have h0:=zbr h (show (2 ^ 64:Int)≠0 by decide);have h1:=zba h (show (0:Int)<2 ^ 64 by decide);lia
theorem AW(t:SetTable)(h:Int):∀n,(qz t h (13+n)).1=Jt (t.mask+1) (qz t h 13).1 n
 |0=>rfl
 |n+1=>by
  have z:(qz t h (13+n)).2=0:=by
   rw[GL];refine Nat.div_eq_of_lt (zat (OZ h) ?_);exact zax (show 2 ^ 64<=32 ^ 13 by decide) (zaS (by decide) (by lia))
  show (ybi t.mask (qz t h (13+n)).1 (qz t h (13+n)).2).1=_;rw[z,AW t h n,Jt];rfl
theorem IE(hm:t.mask+1=2 ^ k)(h:Int)(hr:r<=t.mask):∃n,n<10*yaD t.mask/\(bM t h n).j=r:=by
 have i0:(qz t h 13).1<2 ^ k:=by
  rw[<- hm];exact zc9 _ (zcO _)
 obtain⟨n,hn,e⟩:=GJ i0 (r:=r) (by lia);obtain⟨p,hp,ep⟩:=GK t h (13+n);refine⟨p,?_,?_⟩
 .unfold yaD;lia
 .rw[ep];show (qz t h (13+n)).1=r;rw[AW,hm];exact e
theorem CV(nd:∀j,t.slot j≠.dummy)(he:t.slot (bM t h e).j=.empty):∀(f n:Nat),n<=e->e<n+f->(∀m,n<=m->m<e->t.slot (bM t h m).j≠.empty)->
 (∃m i,n<=m/\m<e/\t.slot (bM t h m).j=.live i/\hx i=h/\yaO t hx h f (bM t h n)=some (.candidate (bM t h m).j i (bM t h (m+1)))/\∀m',n<=m'->m'<m->∀i',t.slot (bM t h m').j=.live i'->hx i'≠h)\/
 (yaO t hx h f (bM t h n)=some (.empty (bM t h e).j none)/\∀m',n<=m'->m'<e->∀i',t.slot (bM t h m').j=.live i'->hx i'≠h)
 |0,n,h1,h2,_=>by lia
 |f+1,n,h1,h2,h3=>by
  by_cases z:n=e
  .subst z;refine .inr ⟨?_,fun m' a b=>by lia⟩;rw[yaO,he];simp only;rw[AV]
  .have hl:n<e:=by lia
   cases hs:t.slot (bM t h n).j with
   |empty=>exact ybX hs (h3 n (zah _) hl)
   |dummy=>exact ybX hs (nd _)
   |live i=>
    by_cases q:hx i=h
    .refine .inl ⟨n,i,zah _,hl,hs,q,?_,fun m' a b=>by lia⟩;rw[yaO,hs];simp only;rw[ybS (by rw[q];exact beq_self_eq_true h)];rfl
    .have step:yaO t hx h (f+1) (bM t h n)=yaO t hx h f (bM t h (n+1)):=by
      rw[yaO,hs];simp only;rw[ybR (by simpa using q)];rfl
     rw[step];rcases CV nd he f (n+1) (by lia) (by lia) (fun m a b=>h3 m (by lia) b) with ⟨m,i2,a1,a2,a3,a4,a5,a6⟩ |⟨b1,b2⟩
     .refine .inl ⟨m,i2,by lia,a2,a3,a4,a5,fun m' c1 c2 i' s'=>?_⟩;by_cases y:m'=n
      .rw[y,hs] at s';cases s';exact q
      .exact a6 m' (by lia) c2 i' s'
     .refine .inr ⟨b1,fun m' c1 c2 i' s'=>?_⟩;by_cases y:m'=n
      .rw[y,hs] at s';cases s';exact q
      .exact b2 m' (by lia) c2 i' s'
theorem GN(j:Nat):ybF (#[]:Array Nat) j=false:=rfl
theorem zU{t:SetTable}(R:BE t.place)(h:t.place[i]?=some j):t.slot j=.live i:=by
 obtain⟨hi,e⟩:=zbK.mp h;have b:=xR (j:=j) R;have eb:yag t.place j=i:=by
  refine zdk (zb2.mp fun z=>?_) (zb2.mp fun z=>?_)
  .have:=b.2.1 i hi z;rw[e] at this;exact zaO _ this
  .have lb:yag t.place j<t.place.size:=zbH z hi;have h1:=b.2.2 _ lb (zah _);have h2:=BE.lt R hi z;rw[e] at h2;exact ybX h2 (zb2.mpr h1)
 unfold SetTable.slot;simp only;rw[eb,h,ybS (beq_self_eq_true _)]
theorem AX{t:SetTable}(R:BE t.place)(nd:t.dummies = #[])(j:Nat):(∃i,t.slot j=.live i/\t.place[i]?=some j)\/t.slot j=.empty/\j ∉ t.place.toList:=by
 by_cases m:j∈t.place.toList
 .obtain⟨i,hi,e⟩:=zbQ.mp m;have h:t.place[i]?=some j:=by
   rw[<- zaB,zad hi,e]
  exact .inl ⟨i,zU R h,h⟩
 .refine .inr ⟨?_,m⟩;unfold SetTable.slot;simp only;rw[ybR,nd,GN]
  .rfl
  .intro z;have z:=eq_of_beq z;exact m (by rw[<- zaB] at z;exact zaD z)
theorem Su{t:SetTable}(R:BE t.place)(nd:t.dummies = #[]):∀j,t.slot j≠.dummy:=fun j z=>by
 rcases AX R nd j with ⟨i,h,_⟩ |⟨h,_⟩
 .rw[h] at z;cases z
 .rw[h] at z;cases z
theorem Mj(h:i<=mask):yai mask i<=mask:=by
 unfold yai;split<;>assumption
theorem E6(mask i:Nat):i<=yai mask i:=by
 unfold yai;split
 .exact zbo _ _
 .exact zah _
theorem AY(t:SetTable)(h:Int):∀n,(bM t h n).j+(bM t h n).more<=t.mask
 |0=>by
  have l:yav h%(t.mask+1)<=t.mask:=zbA (zc9 _ (zcO _));have:=Mj l;have:=E6 t.mask (yav h%(t.mask+1));show yav h%(t.mask+1)+(yai t.mask (yav h%(t.mask+1))-yav h%(t.mask+1))<=t.mask;lia
 |n+1=>by
  have ih:=AY t h n;rw[bM];unfold ybh;split
  .show (bM t h n).j+1+((bM t h n).more-1)<=t.mask;lia
  .generalize e:ybi t.mask (bM t h n).i (bM t h n).perturb=q;obtain⟨i,pb⟩:=q;have l:i<=t.mask:=by
    have:i=(ybi t.mask (bM t h n).i (bM t h n).perturb).1:=by rw[e]
    rw[this];exact zbA (zc9 _ (zcO _))
   have:=Mj l;have:=E6 t.mask i;show i+(yai t.mask i-i)<=t.mask;lia
theorem least{p:Nat->Prop}:∀n,p n->∃e,e<=n/\p e/\∀m,m<e->¬p m:=by
 intro n
 induction n using Nat.strongRecOn with
 |_ n ih=>
  intro h;by_cases z:∃m,m<n/\p m
  .obtain⟨m,hm,pm⟩:=z;obtain⟨e,a,b,c⟩:=ih m hm pm;exact⟨e,zax a (zbw hm),b,c⟩
  .exact⟨n,zah _,h,fun m hm pm=>z ⟨m,hm,pm⟩⟩
structure Ju(t:SetTable)(hs:List Int):Prop where
 QA:BE t.place
 len:t.place.toList.length=hs.length
 O0:t.dummies = #[]
 pow:∃k,t.mask+1=2 ^ k
 low:∀j∈t.place.toList,j<=t.mask
 room:t.place.toList.length<=t.mask
 way:∀(i:Nat) (h:Int) (j:Nat),hs[i]?=some h->t.place.toList[i]?=some j->∃n,(bM t h n).j=j/\∀m,m<n->(bM t h m).j∈t.place.toList
theorem Ju.free(T:Ju t hs)(h:Int):∃e,e<10*yaD t.mask/\(bM t h e).j ∉ t.place.toList/\∀m,m<e->(bM t h m).j∈t.place.toList:=by
 obtain⟨r,hr,nr⟩:∃r,r<=t.mask/\r ∉ t.place.toList:=by
  refine Classical.byContradiction fun z=>?_;have:=eB (zaj (t.mask+1)) t.place.toList zcc fun x hx=>Classical.byContradiction fun y=>z ⟨x,zbA (zav.mp hx),y⟩;rw[zaJ] at this;have:=T.room;lia
 obtain⟨k,hk⟩:=T.pow;obtain⟨n,hn,e⟩:=IE hk h hr;obtain⟨f,a,b,c⟩:=least (p:=fun n=>(bM t h n).j ∉ t.place.toList) n (by rw[e];exact nr);exact⟨f,zbu a hn,b,fun m hm=>Classical.byContradiction fun z=>c m hm z⟩
theorem CY{O:Type}(l:List O)(x:O)(hp:p<=l.length)(i:Nat):(l.take p++x::l.drop p)[i]?=if i<p then l[i]? else if i=p then some x else l[i-1]?:=by
 have lt:(l.take p).length=p:=by rw[zbD];lia
 by_cases h1:i<p
 .rw[ybS h1,zbO (by lia),zda h1]
 .rw[ybR h1,zbJ (by lia),lt];by_cases h2:i=p
  .rw[ybS h2,h2,Nat.sub_self];rfl
  .rw[ybR h2,show i-p=(i-1-p)+1 by lia,zbC,List.getElem?_drop]
   congr 1
   lia
theorem Ju.put(T:Ju t hs)(ne:(bM t h e).j ∉ t.place.toList)(Tu:∀m,m<e->(bM t h m).j∈t.place.toList)(rm:t.place.toList.length+1<=t.mask) :
 (t.put (bM t h e).j).2<=hs.length/\(t.put (bM t h e).j).1.mask=t.mask/\(t.put (bM t h e).j).1.led=t.led/\(t.put (bM t h e).j).1.plain=t.plain/\(t.put (bM t h e).j).1.place.toList.length=t.place.toList.length+1/\
 Ju (t.put (bM t h e).j).1 (hs.take (t.put (bM t h e).j).2++h::hs.drop (t.put (bM t h e).j).2):=by
 have b:=xR (j:=(bM t h e).j) T.QA;have nb:t.place[yag t.place (bM t h e).j]?≠some (bM t h e).j:=fun z=>ne (by rw[<- zaB] at z;exact zaD z);have r1:=BE.ins T.QA nb;have el:=ybr t.place (yag t.place (bM t h e).j) (bM t h e).j;have hp:yag t.place (bM t h e).j<=t.place.toList.length:=by rw[zaI];exact b.1
 have sV:yag t.place (bM t h e).j<=hs.length:=by rw[<- T.len];exact hp
 unfold SetTable.put;simp only;have ep:∀n h',bM {t with place:=yap t.place (yag t.place (bM t h e).j) (bM t h e).j,dummies:=if ybF t.dummies (bM t h e).j=true then SetTable.eraseAt t.dummies (yag t.dummies (bM t h e).j) else t.dummies} h' n=bM t h' n:=fun n h'=>uo (by rfl) h' n;have ll:(t.place.toList.take (yag t.place (bM t h e).j)++(bM t h e).j::t.place.toList.drop (yag t.place (bM t h e).j)).length=t.place.toList.length+1:=by
  rw[zai,zaq,zbD,zbU];lia
 have mem:∀x,x∈t.place.toList->x∈t.place.toList.take (yag t.place (bM t h e).j)++(bM t h e).j::t.place.toList.drop (yag t.place (bM t h e).j):=fun x hx=>by
  rw[<- zbl (yag t.place (bM t h e).j) t.place.toList] at hx;rcases zan.mp hx with hx |hx
  .exact zbb _ hx
  .exact zaK _ (zag _ hx)
 refine⟨sV,trivial,trivial,trivial,by rw[el];exact ll,⟨r1,?_,?_,T.pow,?_,?_,?_⟩⟩
 .show (yap t.place _ _).toList.length=_;rw[el,ll,zai,zaq,zbD,zbU,T.len];lia
 .show (if ybF t.dummies (bM t h e).j=true then _ else t.dummies) = #[];rw[T.O0,GN];rfl
 .intro j hj;have hj:j∈(yap t.place (yag t.place (bM t h e).j) (bM t h e).j).toList:=hj;rw[el] at hj;rcases zan.mp hj with hj |hj
  .exact T.low j (zby hj)
  .rcases zak.mp hj with rfl |hj
   .have:=AY t h e;exact zax (zbo _ _) this
   .exact T.low j (zdu hj)
 .show (yap t.place _ _).toList.length<=t.mask;rw[el,ll];exact rm
 .intro i h' j e1 e2;have e2:(yap t.place (yag t.place (bM t h e).j) (bM t h e).j).toList[i]?=some j:=e2;rw[el,CY _ _ hp] at e2;rw[CY _ _ sV] at e1;have old:∀k,hs[k]?=some h'->t.place.toList[k]?=some j->∃n,(bM t h' n).j=j/\∀m,m<n->(bM t h' m).j∈t.place.toList:=fun k a c=>T.way k h' j a c;have fin:(∃n,(bM t h' n).j=j/\∀m,m<n->(bM t h' m).j∈t.place.toList)->∃n,(bM {t with place:=yap t.place (yag t.place (bM t h e).j) (bM t h e).j,dummies:=if ybF t.dummies (bM t h e).j=true then SetTable.eraseAt t.dummies (yag t.dummies (bM t h e).j) else t.dummies} h' n).j=j/\∀m,m<n->(bM {t with place:=yap t.place (yag t.place (bM t h e).j) (bM t h e).j,dummies:=if ybF t.dummies (bM t h e).j=true then SetTable.eraseAt t.dummies (yag t.dummies (bM t h e).j) else t.dummies} h' m).j∈(yap t.place (yag t.place (bM t h e).j) (bM t h e).j).toList:=fun ⟨n,a,c⟩=>⟨n,by rw[ep];exact a,fun m hm=>by rw[ep,el];exact mem _ (c m hm)⟩
  by_cases h1:i<yag t.place (bM t h e).j
  .rw[ybS h1] at e1 e2;exact fin (old i e1 e2)
  .rw[ybR h1] at e1 e2;by_cases h2:i=yag t.place (bM t h e).j
   .rw[ybS h2] at e1 e2;cases e1;cases e2;exact fin ⟨e,rfl,Tu⟩
   .rw[ybR h2] at e1 e2;exact fin (old (i-1) e1 e2)
def BF (owner:Array (Option Nat))(j:Nat):Prop:=owner.getD j (some 0)=none
theorem E7(h:(zaj n).find? p=some k):k<n/\p k=true/\∀m,m<k->p m=false:=by
 rw[List.find?_range_eq_some] at h;exact⟨zav.mp h.2.1,h.1,fun m hm=>by simpa using h.2.2 m hm⟩
theorem find_none(h:(zaj n).find? p=none):∀m,m<n->p m=false:=by
 rw[List.find?_range_eq_none] at h;exact fun m hm=>by simpa using h m hm
def rp (t:SetTable)(h:Int):Nat->Nat
 |0=>0
 |q+1=>rp t h q+(yai t.mask (qz t h q).1-(qz t h q).1)+1
theorem Ml(t:SetTable)(h:Int):∀q,bM t h (rp t h q)=VH t.mask (qz t h q).1 (qz t h q).2
 |0=>rfl
 |q+1=>xS (Ml t h q)
theorem QB(t:SetTable)(h:Int):a<b->rp t h a<rp t h b:=by
 induction b with
 |zero=>intro z;exact ybX z (zcj _)
 |succ b ih=>
  intro z;have s:rp t h b<rp t h (b+1):=by
   rw[rp];lia
  by_cases e:a=b
  .rw[e];exact s
  .exact zbH (ih (by lia)) s
theorem xT(he:BF owner (bM t h e).j)(hb:∀m,m<e->¬BF owner (bM t h m).j):∀(f q:Nat),rp t h q<=e->(∃Q,Q<q+f/\e<=rp t h Q)->ybb t.mask owner f (qz t h q).1 (qz t h q).2=some (bM t h e).j
 |0,q,h1,⟨Q,h2,h3⟩=>by
  have:=QB t h h2;lia
 |f+1,q,h1,h2=>by
  have en:=Ml t h q;generalize en0:rp t h q=n at *;rw[ybb];have up:=E6 t.mask (qz t h q).1;have at_:∀k,k<=yai t.mask (qz t h q).1-(qz t h q).1->(bM t h (n+k)).j=(qz t h q).1+k:=fun k hk=>by rw[E5 en k hk]
  cases hf:(zaj (yai t.mask (qz t h q).1+1-(qz t h q).1)).find? (fun k=>(owner.getD ((qz t h q).1+k) (some 0)).isNone) with
  |some k=>
   obtain⟨a,b,c⟩:=E7 hf;simp only;have ek:=at_ k (by lia);have fk:BF owner (bM t h (n+k)).j:=by rw[ek];exact Option.isNone_iff_eq_none.mp b
   have:n+k=e:=by
    rcases zc6 (n+k) e with z |z |z
    .exact ybX fk (hb _ z)
    .exact z
    .have ee:=at_ (e-n) (by lia);rw[show n+(e-n)=e by lia] at ee;have:=c (e-n) (by lia);rw[<- ee] at this;rw[show owner.getD (bM t h e).j (some 0)=none from he] at this;cases this
   rw[<- this,ek]
  |none=>
   have c:=find_none hf;simp only;have nx:=xS en;have past:n+(yai t.mask (qz t h q).1-(qz t h q).1)<e:=by
    refine Nat.not_le.mp fun z=>?_;have ee:=at_ (e-n) (by lia);rw[show n+(e-n)=e by lia] at ee;have:=c (e-n) (by lia);rw[<- ee] at this;rw[show owner.getD (bM t h e).j (some 0)=none from he] at this;cases this
   obtain⟨Q,h3,h4⟩:=h2;exact xT he hb f (q+1) (by rw[rp,en0];lia) ⟨Q,by lia,h4⟩
theorem IF(hm:t.mask+1=2 ^ k)(h:Int)(hr:r<=t.mask)(fr:BF owner r):∃e,ybb t.mask owner (yaD t.mask) (yav h%(t.mask+1)) (yav h)=some (bM t h e).j/\BF owner (bM t h e).j/\∀m,m<e->¬BF owner (bM t h m).j:=by
 have i0:(qz t h 13).1<2 ^ k:=by
  rw[<- hm];exact zc9 _ (zcO _)
 obtain⟨n,hn,en⟩:=GJ i0 (r:=r) (by lia);have at_:(bM t h (rp t h (13+n))).j=r:=by
  rw[Ml];show (qz t h (13+n)).1=r;rw[AW,hm];exact en
 obtain⟨e,a,b,c⟩:=least (p:=fun n=>BF owner (bM t h n).j) (rp t h (13+n)) (by rw[at_];exact fr);refine⟨e,?_,b,c⟩;exact xT b c (yaD t.mask) 0 (zaN _) ⟨13+n,by unfold yaD;lia,a⟩
structure Mm(t:SetTable)(owner:Array (Option Nat))(hs:List Int):Prop where
 size:owner.size=t.mask+1
 at_:∀(j k:Nat),owner[j]?=some (some k)->∃h,hs[k]?=some h/\∃e,(bM t h e).j=j/\∀m,m<e->¬BF owner (bM t h m).j
 all:∀k:Nat,k<hs.length->∃j:Nat,owner[j]?=some (some k)
 inj:∀(j j' k:Nat),owner[j]?=some (some k)->owner[j']?=some (some k)->j=j'
theorem Mm.nil(t:SetTable):Mm t (Array.replicate (t.mask+1) none) []:=by
 have no:∀(j k:Nat),(Array.replicate (t.mask+1) (none:Option Nat))[j]?≠some (some k):=fun j k z=>by
  rw[Array.getElem?_replicate] at z;split at z<;>cases z
 exact⟨Array.size_replicate,fun j k z=>ybX z (no j k),fun k z=>ybX z (zcj _),fun j j' k z=>ybX z (no j k)⟩
theorem qo:BF owner j↔owner[j]?=some none:=by
 unfold BF;rw[zcY];cases h:owner[j]? with
 |none=>simp
 |some x=>simp
theorem Mm.IG(O:Mm t owner hs)(hl:hs.length<=t.mask):∃r,r<=t.mask/\BF owner r:=by
 refine Classical.byContradiction fun z=>?_;have ip:∀j:Nat,j<t.mask+1->∃k,owner[j]?=some (some k):=fun j hj=>by
  have ZD:j<owner.size:=by rw[O.size];exact hj
  cases h:owner[j]'ZD with
  |none=>exact ybX ⟨j,zbA hj,qo.mpr (by rw[zaU ZD,h])⟩ z
  |some k=>exact⟨k,by rw[zaU ZD,h]⟩
 have lt:∀(j k:Nat),owner[j]?=some (some k)->k<hs.length:=fun j k e=>by
  obtain⟨h,e2,_⟩:=O.at_ j k e;exact(zap.mp e2).1
 have nd:((zaj (t.mask+1)).map fun j=>((owner[j]?).getD none).getD 0).Nodup:=by
  rw[zbs,zaL];refine(zbG (n:=t.mask+1)).imp_of_mem fun {a b} ha hb h e=>?_;obtain⟨ka,ea⟩:=ip a (zav.mp ha);obtain⟨kb,eb⟩:=ip b (zav.mp hb);rw[ea,eb] at e;have e:ka=kb:=e;rw[<- e] at eb;have:=O.inj a b ka ea eb;lia
 have:=eB _ (zaj hs.length) nd fun x hx=>by
  obtain⟨j,hj,rfl⟩:=zae.mp hx;obtain⟨k,ek⟩:=ip j (zav.mp hj);rw[ek];exact zav.mpr (lt j k ek)
 rw[zac,zaJ,zaJ] at this;lia
theorem Mm.more(O:Mm t owner hs)(f:BF owner (bM t h e).j)(b:∀m,m<e->¬BF owner (bM t h m).j):Mm t (owner.setIfInBounds (bM t h e).j (some hs.length)) (hs++[h]):=by
 have hj:(bM t h e).j<owner.size:=by
  have:=qo.mp f;exact(zbK.mp this).1
 have get:∀j:Nat,(owner.setIfInBounds (bM t h e).j (some hs.length))[j]?=if (bM t h e).j=j then some (some hs.length) else owner[j]?:=fun j=>by
  rw[Array.getElem?_setIfInBounds];by_cases z:(bM t h e).j=j
  .rw[ybS z,ybS z,ybS hj]
  .rw[ybR z,ybR z]
 have VI:∀j,¬BF owner j->¬BF (owner.setIfInBounds (bM t h e).j (some hs.length)) j:=fun j n z=>by
  rw[qo,get] at z;split at z
  .cases z
  .exact n (qo.mpr z)
 have lt:∀(j k:Nat),owner[j]?=some (some k)->k<hs.length:=fun j k e=>by
  obtain⟨h,e2,_⟩:=O.at_ j k e;exact(zap.mp e2).1
 refine⟨by rw[Array.size_setIfInBounds];exact O.size,fun j k z=>?_,fun k hk=>?_,fun j j' k z z'=>?_⟩
 .rw[get] at z;split at z
  .rename_i y;cases z;exact⟨h,by simp,e,y,fun m hm=>VI _ (b m hm)⟩
  .obtain⟨h',e1,n,e2,e3⟩:=O.at_ j k z;exact⟨h',by rw[zbO (lt j k z)];exact e1,n,e2,fun m hm=>VI _ (e3 m hm)⟩
 .rw[zai,zaT] at hk;by_cases z:k=hs.length
  .exact⟨(bM t h e).j,by rw[get,ybS rfl,z]⟩
  .obtain⟨j,ej⟩:=O.all k (by lia);have y:¬(bM t h e).j=j:=fun y=>by
    rw[<- y,qo.mp f] at ej;cases ej
   exact⟨j,by rw[get,ybR y];exact ej⟩
 .rw[get] at z z';split at z
  .rename_i y;cases z;split at z'
   .rename_i y';exact y.symm.trans y'
   .exact ybX (lt j' _ z') (zaO _)
  .split at z'
   .cases z';exact ybX (lt j _ z) (zaO _)
   .exact O.inj j j' k z z'
theorem O1(hm:t.mask+1=2 ^ k)(hs:List Int)(hl:hs.length<=t.mask):∃owner,ybQ t.mask hs.toArray=some owner/\Mm t owner hs:=by
 have key:∀(r p:List Int) (owner:Array (Option Nat)),Mm t owner p->(p++r).length<=t.mask->∃o2,r.foldl (fun (acc:Option (Array (Option Nat)×Nat)) h=>do
  let (owner,k) <- acc
  let j <- ybb t.mask owner (yaD t.mask) (yav h%(t.mask+1)) (yav h)
  pure (owner.setIfInBounds j (some k),k+1)) (some (owner,p.length))=some (o2,(p++r).length)/\Mm t o2 (p++r):=by
  intro r
  induction r with
  |nil=>exact fun p owner O _=>⟨owner,by rw[zaM];rfl,by rw[zaM];exact O⟩
  |cons h r ih=>
   intro p owner O hp;rw[zai,zaq] at hp;obtain⟨q,hq,fq⟩:=O.IG (by lia);obtain⟨e,f1,f2,f3⟩:=IF hm h hq fq;obtain⟨o2,e2,O2⟩:=ih (p++[h]) _ (O.more f2 f3) (by rw[zai,zai,zaT];lia);refine⟨o2,?_,by rw[zaY] at O2;exact O2⟩;rw[zaY,zai,zaT] at e2;rw[List.foldl_cons];simp only[Option.bind_eq_bind,Option.bind_some,f1];exact e2
 obtain⟨o,e,O⟩:=key hs [] _ (Mm.nil t) (by simpa using hl);refine⟨o,?_,O⟩;unfold ybQ;rw[List.foldl_toArray']
 .rw[show ([]:List Int).length=0 from rfl] at e;rw[e];rfl
 .rfl
noncomputable def IH (mask:Nat)(owner:Array (Option Nat)):List (Nat×Nat):=(zaj (mask+1)).filterMap fun j=>(owner.getD j none).map (j,·)
theorem jq:x∈IH mask owner↔x.1<=mask/\owner[x.1]?=some (some x.2):=by
 unfold IH;rw[zcl];have gd:∀j:Nat,owner.getD j none=(owner[j]?).getD none:=fun j=>zcY ..
 constructor
 .rintro ⟨j,hj,e⟩
  rw[gd] at e;obtain⟨k,e1,rfl⟩:=zaZ.mp e;refine⟨zbA (zav.mp hj),?_⟩;show owner[j]?=some (some k);cases h:owner[j]? with
  |none=>rw[h] at e1;cases e1
  |some y=>rw[h] at e1;exact ybW some e1
 .rintro ⟨h1,h2⟩
  exact⟨x.1,zav.mpr (Nat.lt_succ_of_le h1),by rw[gd,h2];rfl⟩
theorem AZ(mask:Nat)(owner:Array (Option Nat)):((IH mask owner).map (·.1)).Pairwise (· < ·):=by
 unfold IH;rw[zaL];refine List.Pairwise.filterMap _ (R:=fun a b=>a<b) (fun a a' h b hb b' UU=>?_) zbG;obtain⟨k,_,rfl⟩:=zaZ.mp hb;obtain⟨k',_,rfl⟩:=zaZ.mp UU;exact h
theorem O3{led plain:Bool}{hs:List Int}(hm:mask+1=2 ^ k)(hl:hs.length<=mask) :
 ∃(t:SetTable) (order:List Nat),SetTable.laid mask finger moves led plain hs.toArray=some (t,order.toArray)/\t.mask=mask/\t.led=led/\t.plain=plain/\t.moves=moves/\order.Nodup/\(∀i,i∈order↔i<hs.length)/\Ju t (order.map fun i=>hs.getD i 0):=by
 obtain⟨owner,e,O⟩:=O1 (t:={mask,place:=#[],dummies:=#[],finger,led,moves,plain}) hm hs hl;have e:ybQ mask hs.toArray=some owner:=e;refine⟨{mask,place:=((IH mask owner).map (·.1)).toArray,dummies:=#[],finger,led,moves,plain},(IH mask owner).map (·.2),?_,rfl,rfl,rfl,rfl,?_,?_,?_⟩
 .unfold SetTable.laid;rw[e];rfl
 .rw[zbs,zaL];refine(zaL.mp (AZ mask owner)).imp_of_mem fun {a b} ha hb h q=>?_;have:=O.inj a.1 b.1 a.2 (jq.mp ha).2 (by rw[q];exact(jq.mp hb).2);lia
 .intro i
  constructor
  .intro h;obtain⟨x,hx,rfl⟩:=zae.mp h;obtain⟨h',e2,_⟩:=O.at_ _ _ (jq.mp hx).2;exact(zap.mp e2).1
  .intro h;obtain⟨j,ej⟩:=O.all i h;refine zae.mpr ⟨(j,i),jq.mpr ⟨?_,ej⟩,rfl⟩;have:=(zbK.mp ej).1;rw[O.size] at this;exact zbA this
 .have len:(IH mask owner).length<=hs.length:=by
   have nd:((IH mask owner).map (·.2)).Nodup:=by
    rw[zbs,zaL];refine(zaL.mp (AZ mask owner)).imp_of_mem fun {a b} ha hb h q=>?_;have:=O.inj a.1 b.1 a.2 (jq.mp ha).2 (by rw[q];exact(jq.mp hb).2);lia
   have:=eB _ (zaj hs.length) nd fun x hx=>by
    obtain⟨y,hy,rfl⟩:=zae.mp hx;obtain⟨h',e2,_⟩:=O.at_ _ _ (jq.mp hy).2;exact zav.mpr (zap.mp e2).1
   rw[zac,zaJ] at this;exact this
  refine⟨AZ mask owner,by simp,rfl,⟨k,hm⟩,fun j hj=>?_,?_,fun i h j e1 e2=>?_⟩
  .obtain⟨x,hx,rfl⟩:=zae.mp (show j∈(IH mask owner).map (·.1) from hj);exact(jq.mp hx).1
  .show ((IH mask owner).map (·.1)).length<=mask;rw[zac];exact zax len hl
  .have e2:((IH mask owner).map (·.1))[i]?=some j:=e2;rw[zar] at e2;obtain⟨x,ex,rfl⟩:=zaZ.mp e2;rw[zar,zar,ex] at e1;have e1:hs.getD x.2 0=h:=by simpa using e1
   obtain⟨h',a1,n,a2,a3⟩:=O.at_ _ _ (jq.mp (zaD ex)).2;rw[zal,a1] at e1;have e1:h'=h:=e1;subst e1;have pm:∀n,bM {mask,place:=((IH mask owner).map (·.1)).toArray,dummies:=#[],finger,led,moves,plain:SetTable} h' n=bM {mask,place:=#[],dummies:=#[],finger,led,moves,plain:SetTable} h' n:=fun n=>uo (by rfl) _ _;refine⟨n,by rw[pm];exact a2,fun m Qk=>?_⟩;have nf:=a3 m Qk;have lw:=AY {mask,place:=#[],dummies:=#[],finger,led,moves,plain:SetTable} h' m;rw[pm];show _∈(IH mask owner).map (·.1);generalize (bM {mask,place:=#[],dummies:=#[],finger,led,moves,plain:SetTable} h' m).j=jj at *;have lj:jj<owner.size:=by rw[O.size];exact Nat.lt_succ_of_le (zax (zbo _ _) lw)
   cases hk:owner[jj]'lj with
   |none=>exact ybX (qo.mpr (by rw[zaU lj,hk])) nf
   |some kk=>exact zae.mpr ⟨(jj,kk),jq.mpr ⟨zax (zbo _ _) lw,by rw[zaU lj,hk]⟩,rfl⟩
theorem CZ(f:Nat):∀(k n:Nat),n<2 ^ (k+f)->∃m,ybe n f (2 ^ k)=2 ^ m/\n<2 ^ m/\k<=m:=by
 induction f with
 |zero=>intro k n h;exact⟨k,rfl,h,zah _⟩
 |succ f ih=>
  intro k n h;rw[ybe];split
  .obtain⟨m,a,b,c⟩:=ih (k+1) n (by rw[show k+1+f=k+(f+1) by lia];exact h);exact⟨m,by rw[<- zbm];exact a,b,by lia⟩
  .exact⟨k,rfl,by lia,zah _⟩
theorem Mn(h:n<2 ^ 60):∃m,SetTable.sizeAbove n=2 ^ m/\n<2 ^ m/\3<=m:=CZ 64 3 n (zat h (zaS (by decide) (by decide)))
def wW (h:yaf):Nat->zdG->Prop
 |0,v=>∀a,v≠.ref a
 |n+1,v=>(∀a,v≠.ref a)\/∃a o bc k,v=.ref a/\h.get? a=some o/\o.cls=.type "tuple"/\o.data=.seq bc k/\∀x∈bc.toList,wW h n x
section
variable{prog:zdR}{w:zdH}{A:zdQ}{E:zdG->zdP->Prop}{s:zdP}
theorem wW.QC:∀(f:Nat){n:Nat}{v:zdG}{Q:Bool->zdP->Prop},wW s.heap n v->(∀b,Q b s)->yab (model prog w) A (hashByValue f v) Q E s
 |f,n,.none,Q,h,q=>by cases f<;>exact zdJ (q _)
 |f,n,.bool _,Q,h,q=>by cases f<;>exact zdJ (q _)
 |f,n,.int _ _,Q,h,q=>by cases f<;>exact zdJ (q _)
 |f,n,.float _ _,Q,h,q=>by cases f<;>exact zdJ (q _)
 |f,n,.str _ _,Q,h,q=>by cases f<;>exact zdJ (q _)
 |f,n,.bytes _ _,Q,h,q=>by cases f<;>exact zdJ (q _)
 |f,n,.ellipsis,Q,h,q=>by cases f<;>exact zdJ (q _)
 |f,n,.notImplemented,Q,h,q=>by cases f<;>exact zdJ (q _)
 |f,n,.type _,Q,h,q=>by cases f<;>exact zdJ (q _)
 |f,n,.builtin _,Q,h,q=>by cases f<;>exact zdJ (q _)
 |0,n,.ref a,Q,h,q=>zdJ (q _)
 |f+1,0,.ref a,Q,h,q=>ybX rfl (h a)
 |f+1,n+1,.ref a,Q,h,q=>by
  rcases h with h |⟨a',o,bc,k,e,g,c,d,all⟩
  .exact ybX rfl (h a)
  cases e;unfold hashByValue;refine zdI (ya9 ⟨o,g,c⟩ F.slot_tuple_hash.lookup ?_);show yab _ _ (seqItems? (.ref a) >>= _) _ _ s;refine zdI (yak g d ?_);show yab _ _ (forIn bc _ _ >>= _) _ _ s;refine zdI ?_;rw[<- zbn];generalize bc.toList=vs at all;refine ybz _ (fun r (c:Option Bool×Unit) s'=>c.1=none/\s'=s/\∀v∈r,wW s.heap n v) _ (fun v r c s' hv=>?_) (fun c s' hv=>?_) _ _ ⟨rfl,rfl,all⟩
  .obtain⟨_,rH,hv⟩:=hv;rw[rH];refine zdI (wW.QC f (hv v (zao ..)) fun b=>?_);cases b
   .simp only[zcv,if_true];exact zdJ (zdJ (q _))
   .simp only[zaQ,zau,if_false];exact zdJ ⟨rfl,rfl,fun z hz=>hv z (zag _ hz)⟩
  .obtain⟨c1,c2⟩:=c;obtain⟨hc,rH,_⟩:=hv;rw[rH];cases (show c1=none from hc);exact zdJ (q _)
theorem wW.Mo:∀(f:Nat){n:Nat}{v:zdG}{Q:Bool->zdP->Prop},n<=f->wW s.heap n v->Q false s->yab (model prog w) A (ofAClassStatement f v) Q E s
 |f,n,.none,Q,l,h,q=>by cases f<;>exact zdJ q
 |f,n,.bool _,Q,l,h,q=>by cases f<;>exact zdJ q
 |f,n,.int _ _,Q,l,h,q=>by cases f<;>exact zdJ q
 |f,n,.float _ _,Q,l,h,q=>by cases f<;>exact zdJ q
 |f,n,.str _ _,Q,l,h,q=>by cases f<;>exact zdJ q
 |f,n,.bytes _ _,Q,l,h,q=>by cases f<;>exact zdJ q
 |f,n,.ellipsis,Q,l,h,q=>by cases f<;>exact zdJ q
 |f,n,.notImplemented,Q,l,h,q=>by cases f<;>exact zdJ q
 |f,n,.type _,Q,l,h,q=>by cases f<;>exact zdJ q
 |f,n,.builtin _,Q,l,h,q=>by cases f<;>exact zdJ q
 |f,0,.ref a,Q,l,h,q=>ybX rfl (h a)
 |0,n+1,.ref a,Q,l,h,q=>ybX l (Nat.not_succ_le_zero _)
 |f+1,n+1,.ref a,Q,l,h,q=>by
  rcases h with h |⟨a',o,bc,k,e,g,c,d,all⟩
  .exact ybX rfl (h a)
  cases e;unfold ofAClassStatement;refine zdI (ya4 ⟨o,g,c⟩ ?_);dsimp only;refine zdI ?_;refine zdJ ?_;simp only[zaQ,zau,if_false];refine zdI (yak g d ?_);dsimp only;refine zdI ?_;rw[<- zbn];generalize bc.toList=vs at all;refine ybz _ (fun r (c:Option Bool×Unit) s'=>c.1=none/\s'=s/\∀v∈r,wW s.heap n v) _ (fun v r c s' hv=>?_) (fun c s' hv=>?_) _ _ ⟨rfl,rfl,all⟩
  .obtain⟨_,rH,hv⟩:=hv;rw[rH];refine zdI (wW.Mo f (Nat.le_of_succ_le_succ l) (hv v (zao ..)) ?_);simp only[zau,if_false];exact zdJ ⟨rfl,rfl,fun z hz=>hv z (zag _ hz)⟩
  .obtain⟨c1,c2⟩:=c;obtain⟨hc,rH,_⟩:=hv;rw[rH];cases (show c1=none from hc);exact zdJ q
end
section
variable{Y:Type}[DecidableEq Y]{prog:zdR}{w:zdH}
structure Jv(knd:HeapKind prog w Y):Prop where
 oX:∀ {h h':yaf} {k:Y} {a:zdF},knd.is h k a->(∀b o bc n,h.get? b=some o->o.cls=.type "tuple"->o.data=.seq bc n->h'.get? b=some o)->knd.is h' k a
 tree:∀{h:yaf} {k:Y} {a:zdF},knd.is h k a->∃n,n<=8/\wW h n (.ref a)
structure A0(knd:HeapKind prog w Y)(h:yaf)(a:zdF)(de:List (Y×zdF))(o:Obj)(es:Array (Int×zdG))(ep:Nat)(t:SetTable):Prop where
 at_:h.get? a=some o
 ex:o.ExactSet
 dat:o.data=.set es ep t
 ents:es.toList=de.map fun x=>(knd.hash x.1,yac x.2)
 BG:Ju t (de.map fun x=>knd.hash x.1)
 odd:t.mask%2=1
 low:t.mask<=8191
 nd:(de.map (·.1)).Nodup
 is:∀x∈de,knd.is h x.1 x.2
variable{knd:HeapKind prog w Y}{A:zdQ}{E:zdG->zdP->Prop}{s:zdP}{a b:zdF}{k:Y}{de:List (Y×zdF)}{o:Obj}{es:Array (Int×zdG)}{ep:Nat}{t:SetTable}
theorem A0.size(S:A0 knd h a de o es ep t):es.size=de.length:=by rw[<- zaI,S.ents,zac]
theorem A0.fits(S:A0 knd h a de o es ep t):t.fits es.size=true:=by
 have l:=S.BG.len;have r:=S.BG.room;rw[zac] at l;rw[l] at r;unfold SetTable.fits SetTable.fill;rw[S.size,S.BG.O0,za2,beq_iff_eq,decide_eq_true_eq,<- zaI,l];exact⟨rfl,r⟩
theorem A0.get(S:A0 knd h a de o es ep t){i:Nat}:es[i]?=(de[i]?).map fun x=>(knd.hash x.1,yac x.2):=by
 rw[<- zaB,S.ents,zar]
theorem Sv(pl:Jv knd)(hb:knd.is s.heap k b):∀(ys:List zdG){Q:Bool->zdP->Prop},(∀y∈ys,∃k' c,y=.ref c/\knd.is s.heap k' c)->Q false s->yab (model prog w) A (searchCouldBeSeen (.ref b) ys) Q E s:=by
 intro ys Q all q;unfold searchCouldBeSeen;refine zdI ?_;refine ybz _ (fun r (c:Option Bool×Unit) s'=>c.1=none/\s'=s/\∀y∈r,∃k' c,y=.ref c/\knd.is s.heap k' c) _ (fun v r c s' hv=>?_) (fun c s' hv=>?_) _ _ ⟨rfl,rfl,all⟩
 .obtain⟨_,rfl,hv⟩:=hv;have fin:(none:Option Bool)=none/\s'=s'/\∀y∈r,∃k' c,y=yac c/\knd.is s'.heap k' c:=⟨rfl,rfl,fun z hz=>hv z (zag _ hz)⟩
  obtain⟨k',c',rfl,hc⟩:=hv v (zao ..);obtain⟨n1,l1,p1⟩:=pl.tree hb;obtain⟨n2,l2,p2⟩:=pl.tree hc;dsimp only;split
  .exact zdJ fin
  .refine zdI (knd.quiet hb ?_);simp only[zaQ,zau,if_false];refine zdI (knd.quiet hc ?_);simp only[zaQ,zau,if_false];refine zdI (p1.Mo 8 l1 ?_);simp only[zau,if_false];refine zdI (p2.Mo 8 l2 ?_);simp only[zau,if_false];exact zdJ fin
 .obtain⟨c1,c2⟩:=c;obtain⟨hc,rfl,_⟩:=hv;cases (show c1=none from hc);exact zdJ q
theorem II(pl:Jv knd)(hr:knd.room A)(S:A0 knd s.heap a de o es ep t)(hb:knd.is s.heap k b)(e1:e<10*yaD t.mask)(e2:(bM t (knd.hash k) e).j ∉ t.place.toList)(e3:∀m,m<e->(bM t (knd.hash k) m).j∈t.place.toList)
 (q1:k∈de.map (·.1)->Q (.there none) s) (q2:k ∉ de.map (·.1)->Q (.free (bM t (knd.hash k) e).j false) s) :
 ∀(f n:Nat) (Mp:Option SetTable.Probe),Mp.getD (t.probeStart (knd.hash k))=bM t (knd.hash k) n->n<=e->e-n<f->(∀m,m<n->∀i,t.slot (bM t (knd.hash k) m).j=.live i->∀x,de[i]?=some x->x.1≠k)->
 yab (model prog w) A (setSearchFrom a (.ref b) (knd.hash k) true f Mp) Q E s:=by
 intro f
 induction f with
 |zero=>intro n _ _ _ l;exact ybX l (zcj _)
 |succ f ih=>
  intro n Mp hs hn hf Tu;have nd:=Su S.BG.QA S.BG.O0;have lv:∀m,m<e->∃i x,t.slot (bM t (knd.hash k) m).j=.live i/\de[i]?=some x/\t.place[i]?=some (bM t (knd.hash k) m).j:=fun m hm=>by
   rcases AX S.BG.QA S.BG.O0 (bM t (knd.hash k) m).j with ⟨i,h1,h2⟩ |⟨_,h2⟩
   .have hi:i<de.length:=by
     have:=(zbK.mp h2).1;have l:=S.BG.len;rw[zac,zaI] at l;omega
    exact⟨i,_,h1,zad hi,h2⟩
   .exact ybX (e3 m hm) h2
  have he:t.slot (bM t (knd.hash k) e).j=.empty:=by
   rcases AX S.BG.QA S.BG.O0 (bM t (knd.hash k) e).j with ⟨i,h1,h2⟩ |⟨h1,_⟩
   .rw[<- zaB] at h2;exact ybX (zaD h2) e2
   .exact h1
  unfold setSearchFrom;refine zdI (ybc S.at_ S.dat S.fits ?_);dsimp only;rw[ybR (show ¬t.gaveWay=true by unfold SetTable.gaveWay;rw[S.odd];decide)];rw[hs];unfold SetTable.probe;rcases CV (hx:=_) (h:=knd.hash k) nd he (10*yaD t.mask) n hn (by first|decide|omega) (fun m _ h2 z=>by
   obtain⟨i,x,h1,_⟩:=lv m h2;rw[h1] at z;cases z) with ⟨m,i,a1,a2,a3,a4,a5,a6⟩ |⟨b1,b2⟩
  .rw[a5];dsimp only;obtain⟨i',x,h1,hx,hp⟩:=lv m a2;rw[h1] at a3;cases a3;have ge:=S.get (i:=i);rw[hx,za1] at ge;have go:yab (model prog w) A (do
    let some (_,y):=es[i]? |unsupported "internal:set-entry"
    let equal <- holding [y] (eqBool y (.ref b))
    let (rH,_,t') <- setState a
    if true&&equal then return .there none
    let some same:=t'.sameMemory t.moves t.mask |unsupported "set.changed-during-lookup:is-the-new-block-at-the-old-address"
    let VJ <- match (if same then t'.slot (bM t (knd.hash k) m).j else .empty) with
     |.live i'=>match rH[i']? with
      |some (_,y')=>do pure (if <- isSame y' y then some i' else none)
      |none=>pure none
     |_=>pure none
    match VJ with
    |none=>rule "set.search.anew";setSearchFrom a (.ref b) (knd.hash k) true f none
    |some i'=>if equal then return .there (some i') else setSearchFrom a (.ref b) (knd.hash k) true f (some (bM t (knd.hash k) (m+1)))) Q E s:=by
    rw[ge];dsimp only;refine zdI (zdK (knd.eqBool hr (S.is x (zaD hx)) hb ?_));refine zdI (ybc S.at_ S.dat S.fits ?_);dsimp only;by_cases c:x.1=k
    .rw[ybT c];rw[ybS (by decide)];exact zdJ (q1 (zae.mpr ⟨x,zaD hx,c⟩))
    .rw[ybU c];rw[ybR (by decide)];have sm:t.sameMemory t.moves t.mask=some true:=by unfold SetTable.sameMemory;rw[ybS (beq_self_eq_true _)]
     rw[sm];dsimp only;rw[ybS rfl,h1];dsimp only;rw[ge];dsimp only;refine zdI (wpAny_isSame_ref_self ?_);rw[ybS rfl];refine zdI (zdJ ?_);dsimp only;rw[ybR (by decide)];refine ih (m+1) _ rfl a2 (by first|decide|omega) fun m' hm' i2 s2 x2 Sd z=>?_;by_cases y:m'<n
     .exact Tu m' y i2 s2 x2 Sd z
     .by_cases y2:m'=m
      .rw[y2,h1] at s2;cases s2;rw[hx] at Sd;cases Sd;exact c z
      .refine a6 m' (by first|decide|omega) (by first|decide|omega) i2 s2 ?_;have g2:=S.get (i:=i2);rw[Sd,za1] at g2;show ((es[i2]?).map (·.1)).getD 0=_;rw[g2,<- z];rfl
   by_cases ld:t.led=true
   .rw[ld];exact go
   .rw[zcA.mpr ld];refine zdI (Sv pl hb _ (fun y hy=>?_) ?_)
    .obtain⟨z,hz,rfl⟩:=zae.mp hy;rw[Array.toList_filter,zcg] at hz;have Xh:=hz.1;rw[S.ents] at Xh;obtain⟨x3,h3,e3⟩:=zae.mp Xh;exact⟨x3.1,x3.2,by rw[<- e3],S.is x3 h3⟩
    .exact go
  .rw[b1];dsimp only;by_cases c:k∈de.map (·.1)
   .obtain⟨x,hx,ex⟩:=zae.mp c;obtain⟨i0,hi0,e0⟩:=zbQ.mp hx;have ZE:de[i0]?=some x:=by rw[zad hi0,e0]
    have l:=S.BG.len;rw[zac] at l;have hj:i0<t.place.toList.length:=by rw[l];exact hi0
    obtain⟨n0,w1,w2⟩:=S.BG.way i0 (knd.hash k) _ (by rw[zar,ZE,<- ex];rfl) (zad hj);have s0:t.slot (bM t (knd.hash k) n0).j=.live i0:=zU S.BG.QA (by rw[w1,<- zaB];exact zad hj);have lt:n0<e:=by
     rcases zc6 n0 e with z |z |z
     .exact z
     .rw[z,he] at s0;cases s0
     .exact ybX (w2 e z) e2
    by_cases y:n0<n
    .exact ybX ex (Tu n0 y i0 s0 x ZE)
    .refine ybX ?_ (b2 n0 (by first|decide|omega) lt i0 s0);have g2:=S.get (i:=i0);rw[ZE,za1] at g2;show ((es[i0]?).map (·.1)).getD 0=_;rw[g2,<- ex];rfl
   .exact zdJ (q2 c)
end
theorem zV(f:Nat):∀(k n:Nat),k<=13->n<2 ^ 13->ybe n f (2 ^ k)<=2 ^ 13:=by
 induction f with
 |zero=>intro k n hk hn;exact zaS (by decide) hk
 |succ f ih=>
  intro k n hk hn;rw[ybe];split
  .rename_i z;have:k<13:=Nat.lt_of_le_of_ne hk fun y=>by rw[y] at z;exact ybX hn (zb2.mpr z)
   rw[<- zbm];exact ih (k+1) n this hn
  .exact zaS (by decide) hk
theorem range_all{O:Type}(l:List O):(zaj l.length).filterMap (l[·]?)=l:=by
 induction l with
 |nil=>rfl
 |cons a l ih=>
  rw[zaq,List.range_succ_eq_map,zbX,zcw,List.filterMap_map];simp only
  congr 1
theorem Ju.O4(T:Ju t hs)(c:Bool):Ju (if c=true then t else {t with plain:=false}) hs:=by
 cases c
 .refine⟨T.QA,T.len,T.O0,T.pow,T.low,T.room,fun i h j e1 e2=>?_⟩;obtain⟨n,a,b⟩:=T.way i h j e1 e2;have ep:∀n,bM {t with plain:=false} h n=bM t h n:=fun n=>uo (by rfl) h n;exact⟨n,by rw[ybR (by decide),ep];exact a,fun m hm=>by rw[ybR (by decide),ep];exact b m hm⟩
 .exact T
section
variable{Y:Type}[DecidableEq Y]{prog:zdR}{w:zdH}{knd:HeapKind prog w Y}{A:zdQ}{E:zdG->zdP->Prop}{s:zdP}{a b:zdF}{k:Y}{de:List (Y×zdF)}{o:Obj}{es:Array (Int×zdG)}{ep:Nat}{t:SetTable}
theorem A0.kept(pl:Jv knd)(ho:h.get? a=some o)(hd:o.data=.set es ep t)(sb:yay a h h')(hk:knd.is h k b):knd.is h' k b:=
 pl.oX hk fun c o' bc n g _ d=>by
  refine(sb.2 c fun z=>?_).trans g;rw[z,ho] at g;cases g;rw[hd] at d;cases d
theorem A0.store(pl:Jv knd)(ho:h.get? a=some o)(ex:o.ExactSet)(hd:o.data=.set es ep t)(en:rH.toList=rU.map fun x=>(knd.hash x.1,yac x.2))(T:Ju t' (rU.map fun x=>knd.hash x.1))(od:t'.mask%2=1)(lw:t'.mask<=8191)(nd:(rU.map (·.1)).Nodup)(is:∀x∈rU,knd.is h x.1 x.2) :
 A0 knd (h.update a (Obj.putSet rH t')) a rU {o with data:=.set rH (ep+1) t' } rH (ep+1) t':=by
 have hg:(h.update a (Obj.putSet rH t')).get? a=some {o with data:=.set rH (ep+1) t' }:=by
  have:=yaz (Obj.putSet rH t') ho (by rw[putSet_of rH t' hd];rfl);rw[putSet_of rH t' hd] at this;exact this
 exact⟨hg,ex,rfl,en,T,od,lw,nd,fun x hx=>A0.kept pl ho hd (yaQ h a _) (is x hx)⟩
theorem Mq(pl:Jv knd)(S:A0 knd s.heap a de o es ep t)(h1:1<=de.length)(h2:de.length<2048)
 (q:∀h' rU o' rH JB t',yay a s.heap h'->A0 knd h' a rU o' rH JB t'->t'.tooFull=false->rU.Perm de->Q () {s with heap:=h' }) :
 yab (model prog w) A (setRelay a (ybJ de.length)) Q E s:=by
 have eg:ybJ de.length=de.length*4:=by unfold ybJ;rw[ybR (by first|decide|omega)]
 rw[eg];obtain⟨m,em,lm,m3⟩:=Mn (n:=de.length*4) (by first|decide|omega);have up:2 ^ m<=2 ^ 13:=by rw[<- em];exact zV 64 3 _ (by decide) (by first|decide|omega)
 have pos:0<2 ^ m:=Nat.two_pow_pos m;have ev:2 ^ m=2*2 ^ (m-1):=by rw[<- Nat.pow_succ',show (m-1).succ=m by first|decide|omega]
 obtain⟨t',order,e1,e2,e3,e4,e5,nd,mem,T⟩:=O3 (mask:=2 ^ m-1) (finger:=t.finger) (moves:=t.movedTo (2 ^ m-1)) (led:=t.led) (plain:=t.plain) (hs:=de.map fun x=>knd.hash x.1) (k:=m) (by first|decide|omega) (by rw[zac];omega);unfold setRelay;refine zdI (ybc S.at_ S.dat S.fits ?_);dsimp only;rw[ybR (show ¬SetTable.sizeAbove (de.length*4)>zdN by rw[em,sizeLine_eq];omega)];have er:t.relaid (es.map (·.1)) (de.length*4)=some (t',order.toArray):=by
  unfold SetTable.relaid;rw[em];have:es.map (·.1)=(de.map fun x=>knd.hash x.1).toArray:=by
   apply Array.toList_inj.mp
   rw[Array.toList_map,S.ents,zbe];rfl
  rw[this];exact e1
 rw[er];have ez:((order.filterMap (de[·]?)).map fun x=>(knd.hash x.1,yac x.2))=order.filterMap (es.toList[·]?):=by
  rw[List.map_filterMap,S.ents]
  congr 1
  funext i
  rw[zar]
 have ls:∀i∈order,i<de.length:=fun i hi=>by have:=(mem i).mp hi;rwa [zac] at this
 have em2:∀l:List Nat,(∀i∈l,i<de.length)->(l.filterMap (de[·]?)).map (fun x=>knd.hash x.1)=l.map fun i=>(de.map fun x=>knd.hash x.1).getD i 0:=by
  intro l
  induction l with
  |nil=>exact fun _=>rfl
  |cons i l ih=>
   intro hl;have hi:=hl i (zao ..);rw[zbX,zad hi];simp only[zas,ih fun j hj=>hl j (zag _ hj)]
   congr 1
   rw[zal,zar,zad hi];rfl
 have pm:(order.filterMap (de[·]?)).Perm de:=by
  have p1:order.Perm (zaj de.length):=(zc4 nd zcc).mpr fun i=>by rw[mem,zav,zac]
  refine(p1.filterMap _).trans ?_;rw[range_all de]
 show yab _ _ (_ >>= _) _ _ s;refine zdI ?_;show yab _ _ (if ((order.toArray.filterMap (es[·]?)).size != es.size)=true then _ else _) _ _ s;have el:(order.toArray.filterMap (es[·]?)).toList=(order.filterMap (de[·]?)).map fun x=>(knd.hash x.1,yac x.2):=by
  rw[ez,Array.toList_filterMap]
  congr 1
  funext i
  exact zaB.symm
 have zl:(order.toArray.filterMap (es[·]?)).size=es.size:=by rw[<- zaI,el,zac,pm.length_eq,S.size]
 rw[ybR (by rw[zl];simp)];refine zdJ ?_;dsimp only;refine wpAny_storeSet_of S.at_ S.dat (q _ _ _ _ _ _ (yaQ s.heap a _) (A0.store pl S.at_ S.ex S.dat el ?_ (by rw[e2];omega) (by rw[e2];omega) ((pm.map _).nodup_iff.mpr S.nd) fun x hx=>S.is x (pm.mem_iff.mp hx)) ?_ pm) (by rw[zl,S.size,sizeLine_eq];omega)
 .rw[em2 order ls];exact T
 .have l:=T.len;rw[zac,zaI] at l;have lo:order.length=de.length:=by
   have:order.Perm (zaj de.length):=(zc4 nd zcc).mpr fun i=>by rw[mem,zav,zac]
   rw[this.length_eq,zaJ]
  unfold SetTable.tooFull SetTable.fill;rw[T.O0,l,lo,e2];have:(#[]:Array Nat).size=0:=rfl;rw[this];exact ybU (by first|decide|omega)
theorem O5(pl:Jv knd)(hr:knd.room A)(S:A0 knd s.heap a de o es ep t)(full:t.tooFull=false)(hb:knd.is s.heap k b)(room:de.length+1<2048)
 (q1:k∈de.map (·.1)->Q false s)
 (q2:k ∉ de.map (·.1)->∀h' rU o' rH JB t',yay a s.heap h'->A0 knd h' a rU o' rH JB t'->t'.tooFull=false->rU.Perm ((k,b)::de)->Q true {s with heap:=h' }) :
 yab (model prog w) A (setAddHashed a (.ref b) (knd.hash k)) Q E s:=by
 obtain⟨e,e1,e2,e3⟩:=S.BG.free (knd.hash k);have ln:=S.BG.len;rw[zac] at ln;have fl:t.place.toList.length+1<=t.mask:=by
  unfold SetTable.tooFull SetTable.fill at full;rw[S.BG.O0,<- zaI] at full;have f2:=of_decide_eq_false full;have:(#[]:Array Nat).size=0:=rfl;rw[this] at f2;omega
 have lw:=S.low;unfold setAddHashed setAddHashedIn;refine zdK (zdI (ybc S.at_ S.dat S.fits ?_));dsimp only;rw[ybR (show ¬byScan (.ref b) es=true by intro z;cases z)];refine zdI (II pl hr S hb e1 e2 e3 (fun z=>?_) (fun z=>?_) 100000 0 none rfl (zaN _) (by unfold yaD at e1;omega) fun m hm=>ybX hm (zcj _))
 .exact zdJ (q1 z)
 .dsimp only;refine zdI (ybc S.at_ S.dat S.fits ?_);dsimp only;obtain⟨p1,p2,p3,p4,p5,p6⟩:=S.BG.put e2 e3 fl;generalize t.put (bM t (knd.hash k) e).j=tp at *;obtain⟨t1,p⟩:=tp;dsimp only at p1 p2 p3 p4 p5 p6 |-;rw[zac] at p1;have fin:∀c:Bool,yab (model prog w) A (do
   storeSet a (yap es p (knd.hash k,yac b)) (if c=true then t1 else {t1 with plain:=false})
   if (!false&&(if c=true then t1 else {t1 with plain:=false}).tooFull)=true then do
    setRelay a (ybJ (es.size+1))
    pure true
    else pure true) Q E s:=by
   intro c;have T2:=p6.O4 c;have m2:(if c=true then t1 else {t1 with plain:=false}).mask=t.mask:=by cases c<;>exact p2
   generalize (if c=true then t1 else {t1 with plain:=false})=t2 at *;have el:(yap es p (knd.hash k,yac b)).toList=(de.take p++(k,b)::de.drop p).map fun x=>(knd.hash x.1,yac x.2):=by
    rw[ybr,S.ents,zaC,zas,List.map_take,List.map_drop]
   have pm:(de.take p++(k,b)::de.drop p).Perm ((k,b)::de):=by
    refine List.perm_middle.trans ?_;rw[zbl]
   have S2:=A0.store pl S.at_ S.ex S.dat el (by rw[zaC,zas,List.map_take,List.map_drop];exact T2) (by rw[m2];exact S.odd) (by rw[m2];exact S.low) ((pm.map _).nodup_iff.mpr (zaV.mpr ⟨z,S.nd⟩)) fun x hx=>by
    rcases zak.mp (pm.mem_iff.mp hx) with rfl |hx
    .exact hb
    .exact S.is x hx
   have k1:=yaQ s.heap a (Obj.putSet (yap es p (knd.hash k,yac b)) t2);have zl:(yap es p (knd.hash k,yac b)).size=de.length+1:=by rw[<- zaI,el,zac,pm.length_eq,zaq]
   refine zdI (wpAny_storeSet_of S.at_ S.dat ?_ (by rw[zl,sizeLine_eq];omega));by_cases y:t2.tooFull=true
   .rw[y,ybS (by decide),S.size];have lk:(de.take p++(k,b)::de.drop p).length=de.length+1:=by rw[pm.length_eq,zaq]
    rw[<- lk];refine zdI (Mq pl S2 (by rw[lk];omega) (by rw[lk];exact room) fun h' rU o' rH JB t' sb S3 nf pm2=>?_);exact zdJ (q2 z h' rU o' rH JB t' (k1.trans sb) S3 nf (pm2.trans pm))
   .rw[zcA.mpr y,ybR (by decide)];exact zdJ (q2 z _ _ _ _ _ _ k1 S2 (zcA.mpr y) pm)
  obtain⟨n,_,pt⟩:=pl.tree hb;split
  .exact zdI (pt.QC 8 fun c=>fin c)
  .exact zdI (zdJ (fin true))
end
section
variable{prog:zdR}{w:zdH}{A:zdQ}{E:zdG->zdP->Prop}{s:zdP}
theorem O6(a:zdG)
 (h:∀led:Bool,(w.params.followText "set-order"=false->led=true)->Q₁ (.ref s.heap.objs.size) {s with heap:=s.heap.push {cls:=.type "set",dict:=none,data:=.set #[] 0 (.fresh 0 0 led)} }) :
 codeAny (model prog w) A (.call (.builtin "set.__new__") ⟨[.type "set",a],[]⟩) (wants Q₁ E) s:=by
 refine codeAny_of_tree ?_;refine zdI (wpAny_of_eq (F.newCall_set_1 a) (zdJ ⟨plainId_quiet F.plain_set_new _,yat F.entry_set_new ?_⟩));rw[yaq F.plain_set_new _];unfold Builtin.«set.__new__» Builtin.Frozenset.newClass;have sub:=sub_set_self;obtain⟨hp,g,d,tk,os⟩:=s;dsimp only
 wp_walk
 refine wpAny_askSetting (zdJ ?_);dsimp only;simp only[newObj];refine zdI (wpAny_alloc (zdJ (zdJ (h _ fun z=>?_))));show (!w.params.followText "set-order")=true;rw[z];rfl
end
section
variable{Y:Type}[DecidableEq Y]{prog:zdR}{w:zdH}{knd:HeapKind prog w Y}{A:zdQ}{E:zdG->zdP->Prop}{s:zdP}
def QD (knd:HeapKind prog w Y)(h:yaf)(a:zdF)(ks:List Y):Prop:=∃de o es ep t,A0 knd h a de o es ep t/\t.tooFull=false/\(∀k,k∈de.map (·.1)↔k∈ks)/\de.length<=ks.length
theorem QD.mv(pl:Jv knd)(S:QD knd h a ks)(e:∀o,h.get? a=some o->h'.get? a=some o)(k:∀b o bc n,h.get? b=some o->o.cls=.type "tuple"->o.data=.seq bc n->h'.get? b=some o):QD knd h' a ks:=by
 obtain⟨de,o,es,ep,t,S,r⟩:=S;exact⟨de,o,es,ep,t,⟨e _ S.at_,S.ex,S.dat,S.ents,S.BG,S.odd,S.low,S.nd,fun x hx=>pl.oX (S.is x hx) k⟩,r⟩
theorem Mr(pl:Jv knd){St:Nat->zdP->Prop}{ks:List (Y×zdF)}(W:WalksS prog w A.in1 I fp wr G n P St)(S:zdF)(hSf:S ∉ fp)
 (hr:knd.room A.in1) (hn:ks.length=n) (hv:∀i v,P i v->∃x,ks[i]?=some x/\v=.ref x.2) (hb:n+1<2048) (hw:∀i s b o,St i s->b∈wr->s.heap.get? b=some o->o.cls≠.type "tuple") :
 ∀(k i:Nat) (s:zdP),n-i=k->i<=n->St i s->(∀x∈ks,knd.is s.heap x.1 x.2)->
  QD knd s.heap S ((ks.take i).map (·.1))->
  (∀s',Moved (S::wr) G s s'->QD knd s'.heap S (ks.map (·.1))->R (.ok (.ret .none)) s')->
  codeAny (model prog w) A (.builtin "set.update.loop" ⟨[.ref S,.ref I],[]⟩) R s:=by
 have nw:S ∉ wr:=fun z=>hSf (W.sub _ z);have up:∀b∈wr,b∈S::wr:=fun b z=>zag _ z;intro k
 induction k with
 |zero=>
  intro i s ek hi st hk hS q;obtain rfl:i=n:=by first|decide|omega
  refine yat F.entry_set_update_loop ?_;rw[yaq ya7 _];refine zdI (W.done s _ _ st fun s' m=>zdJ (q s' (m.mono up) ?_));have:=hS.mv pl (fun o e=>m.heap S o nw e) fun b o bc n g c _=>m.heap b o (fun z=>hw _ _ b o st z g c) g
  rwa [<- hn,zbF] at this
 |succ k ih=>
  intro i s ek hi st hk hS q;have lt:i<n:=by first|decide|omega
  refine yat F.entry_set_update_loop ?_;rw[yaq ya7 _];refine zdI (W.item i s _ _ lt st fun v s' hP BB m=>?_);obtain⟨x,hx,rfl⟩:=hv i v hP;have kt:∀b o bc n,s.heap.get? b=some o->o.cls=.type "tuple"->o.data=.seq bc n->s'.heap.get? b=some o:=fun b o bc n g c _=>m.heap b o (fun z=>hw _ _ b o st z g c) g;obtain⟨de,o,es,ep,t,S1,full,mem,le⟩:=hS.mv pl (fun o e=>m.heap S o nw e) kt;have Xr:∀x∈ks,knd.is s'.heap x.1 x.2:=fun x hx=>pl.oX (hk x hx) kt;have xm:x∈ks:=zaD hx;refine zdI (zdK ?_);unfold setAdd;refine zdK (zdI (knd.pyHash hr (Xr x xm) ?_));have tk:(ks.take (i+1)).map (·.1)=(ks.take i).map (·.1)++[x.1]:=by rw[zcB,hx,zcZ,zaC,zc0]
  have lk:de.length<=i:=by
   have:((ks.take i).map (·.1)).length<=i:=by rw[zac,zbD];omega
   omega
  have nx:∀(c:Bool) (h':yaf),yay S s'.heap h'->QD knd h' S ((ks.take (i+1)).map (·.1))->(∀x∈ks,knd.is h' x.1 x.2)->
   codeAny (model prog w) A (.builtin "set.update.loop" ⟨[.ref S,.ref I],[]⟩) R { {s' with toks:=s'.toks+knd.draws x.1} with heap:=h' }:=fun c h' kp S3 hk3=>
   ih (i+1) _ (by first|decide|omega) lt (W.frame _ s' _ _ BB (zbo _ _) fun b hb o e=>by
    rw[kp.2 b fun z=>hSf (z▸hb)];exact e) hk3 S3 fun s2 m2 S4=>q s2 (Moved.trans W.gtrans ((m.mono up).then_heap (zbo _ _) fun b o hb e=>by
    rw[kp.2 b fun z=>hb (z▸zao)];exact e) m2) S4
  refine O5 (s:={s' with toks:=s'.toks+knd.draws x.1}) pl hr S1 full (Xr x xm) (by first|decide|omega) (fun z=>?_) fun z h' rU o' rH JB t' kp S2 f2 pm=>?_
  .refine zdJ ⟨plainId_quiet ya7 _,nx false s'.heap (Heap.SameBut.refl S s'.heap) ⟨de,o,es,ep,t,S1,full,fun k=>?_,?_⟩ Xr⟩
   .rw[tk,zan,zaf,mem k];refine⟨.inl,fun y=>y.elim id fun y=>?_⟩;rw[y];exact(mem _).mp z
   .rw[tk,zai];omega
  .refine zdJ ⟨plainId_quiet ya7 _,nx true h' kp ⟨rU,o',rH,JB,t',S2,f2,fun k=>?_,?_⟩ fun y hy=>A0.kept pl S1.at_ S1.dat kp (Xr y hy)⟩
   .rw[tk,(pm.map _).mem_iff,zas,zak,zan,zaf,mem k];exact or_comm
   .rw[tk,pm.length_eq,zai,zaq,zaT];omega
theorem Ms(led:Bool):Ju (.fresh 0 0 led) [] where
 QA:=BE.nil
 len:=rfl
 O0:=rfl
 pow:=⟨3,rfl⟩
 low:=fun j hj=>nomatch hj
 room:=zaN _
 way:=fun i h j e _=>nomatch e
set_option maxHeartbeats 3200000 in
theorem IJ(pl:Jv knd){ks:List (Y×zdF)}(hr:knd.room A.in1.in1.in1)(hh:A.handled=none)(hl:s.heap.IsList l items)(hi:items.toList=ks.map fun x=>yac x.2)(hk:∀x∈ks,knd.is s.heap x.1 x.2)(hb:ks.length+1<2048)
 (q:∀(h':yaf) (tk:Nat),QD knd h' s.heap.objs.size (ks.map (·.1))->(∀b o,s.heap.get? b=some o->h'.get? b=some o)->Q (.ref s.heap.objs.size) {s with heap:=h',toks:=tk}) :
 yab (model prog w) A (call (.type "set") [.ref l]) Q E s:=by
 obtain⟨c,tl,ae3⟩:=ya5.mro;have abZ:=ya5.made;have Vg:=ya5.sub;refine wpAny_call (codeAny_of_tree (zdJ ⟨Code.quiet_builtin _ (by decide +kernel),yat F.entry_type_call ?_⟩));rw[Around.under_plain (weight_type_call_type "set" [.ref l] []) rfl];have x1:=ya5.notType;have x2:=ya5.canCreate;have x3:=F.typeCall_set_1 (.ref l)
 repeat (any_goals (first |assumption |wp_step))
 refine yaT (O6 (.ref l) (E:=E) (Q₁:=fun obj s1=>∃led:Bool,(w.params.followText "set-order"=false->led=true)/\obj=.ref s.heap.objs.size/\s1={s with heap:=s.heap.push {cls:=.type "set",dict:=none,data:=.set #[] 0 (.fresh 0 0 led)} }) fun led z=>⟨led,z,rfl,rfl⟩) fun r s1 hr=>?_;rcases r with e |fl
 .exact hr
 rcases fl with obj |_ |_ |_
 all_goals (try exact hr.elim)
 obtain⟨led,ld,rfl,rfl⟩:=hr;generalize eo:({cls:=.type "set",dict:=none,data:=.set #[] 0 (.fresh 0 0 led)}:Obj)=o0 at *;have g0:(s.heap.push o0).get? s.heap.objs.size=some o0:=yae _ (by rw[<- eo];rfl);have ty:Shared.TypeIs {s with heap:=s.heap.push o0} (.ref s.heap.objs.size) "set":=⟨_,g0,by rw[<- eo]⟩
 have y1:=ya5.init.lookup;have y2:=ya5.init.bind (.ref s.heap.objs.size)
 repeat (any_goals (first |assumption |wp_step))
 refine yaT (yaZ (R:=wants (fun r s2=>r=.none/\∃h' tk,s2={s with heap:=h',toks:=tk}/\QD knd h' s.heap.objs.size (ks.map (·.1))/\∀b o,s.heap.get? b=some o->h'.get? b=some o) E) ya5.init.plain F.entry_set_init (check_set_init_1 ty ?_)) fun r2 s2 Sw=>?_
 .obtain⟨ol,gl,cl,nl,dl⟩:=hl;obtain⟨ae4,ab0,ab1,ZF⟩:=ol;simp only at cl dl;subst cl;subst dl;have lS:l<s.heap.objs.size:=yad gl;have gl':=yaa o0 gl;have n1:=F.sub_list_set;have n2:=F.sub_list_frozenset;have n3:(ya8 "list"==ya8 "dict")=false:=by decide
  have hl1:(s.heap.push o0).IsList l items:=⟨_,gl',rfl,nl,rfl⟩
  have g0':(s.heap.push o0).get? s.heap.objs.size=some {cls:=.type "set",dict:=none,data:=.set #[] 0 (.fresh 0 0 led)}:=by rw[eo];exact g0
  unfold Builtin.«set.__init__» noKeywords Builtin.Frozenset.updateFrom;generalize hPI:pyIter=PI
  wp_walk
  subst hPI;refine yaF hl1 (zdI (wpAny_runValue ?_));have hA:A.in1.in1.in1.handled=none:=by simp[hh]
  have nI:l≠(s.heap.push o0).objs.size:=by rw[yan];exact zaz (Nat.lt_succ_of_lt lS)
  have nS:s.heap.objs.size ∉ [(s.heap.push o0).objs.size,l]:=by
   rw[yan];simp only[zak,zbc,or_false,not_or];exact⟨zaz (zcG _),zaW lS⟩
  have hn:ks.length=items.size:=by rw[<- zaI,hi,zac]
  have tup:∀o2 b o bc n,s.heap.get? b=some o->o.cls=.type "tuple"->o.data=.seq bc n->((s.heap.push o0).push o2).get? b=some o:=fun o2 b o bc n g _ _=>yaa _ (yaa _ g);refine Mr pl ((Walks.list hA _ l nI items).toS) s.heap.objs.size nS hr hn (fun i v e=>?_) (by rw[<- hn];exact hb) (fun i s b o st hb g=>?_) (items.size-0) 0 _ (by first|decide|omega) (zaN _) ⟨⟨_,yae _ rfl,rfl,rfl⟩,hl1.push _⟩ ?_ ?_ ?_
  .rw[<- zaB,hi,zar] at e;obtain⟨x,hx,rfl⟩:=zaZ.mp e;exact⟨x,hx,rfl⟩
  .obtain⟨⟨oi,gi,ci,_⟩,_⟩:=st;rw[zaf.mp hb,gi] at g;cases g;rw[ci];decide
  .exact fun x hx=>pl.oX (hk x hx) (tup _)
  .exact⟨[],_, #[],0,.fresh 0 0 led,⟨yaa _ g0',⟨rfl,rfl,rfl⟩,rfl,rfl,Ms led,(show 7%2=1 from rfl),(show 7<=8191 by decide),zbi,fun x hx=>nomatch hx⟩,rfl,fun k=>Iff.rfl,zaN _⟩
  .intro s' m S1;obtain⟨h',g',d',K8,Yn⟩:=s';obtain rfl:g'=s.gens:=m.gens;obtain rfl:d'=s.drawn:=m.drawn;obtain rfl:Yn=s.os:=m.os;refine zdJ (zdJ ⟨rfl,h',K8,rfl,S1,fun b o e=>m.heap b o (fun z=>?_) (yaa _ (yaa _ e))⟩);have lb:=yad e;simp only[zak,zbc,or_false] at z;rw[yan] at z;rcases z with z |z
   .rw[z] at lb;exact ybX lb (zaO _)
   .rw[z] at lb;exact ybX lb (zb2.mpr (zdE _))
 .rcases r2 with e |fl
  .exact Sw
  rcases fl with v |_ |_ |_
  all_goals (try exact Sw.elim)
  obtain⟨rfl,h',tk,rfl,S1,kp⟩:=Sw
  repeat (any_goals (first |assumption |wp_step))
  exact q _ _ S1 kp
end
def GO (a:zdF)(n:Nat):yaf->Prop:=fun h=>∃o es ep t,h.get? a=some o/\o.ExactSet/\o.data=.set es ep t/\t.fits es.size=true/\es.size=n
section
variable{Y:Type}[DecidableEq Y]{J:KH Y}{X:Cx}
theorem GP{prog:zdR}{w:zdH}:∀{de:List (Y×zdF)}{bc:List zdG},Vals (de.map fun x=>V.ref x.2) bc->bc=de.map fun x=>yac x.2
 |[],_,r=>by cases r;rfl
 |x::xs,_,r=>by
  cases r with
  |cons h t=>rw[GP (prog:=prog) (w:=w) t];cases h;rfl
theorem rV(pl:Jv (J.knd X.prog X.w))(hu:X.A.units+64<cLine)(hc:X.calm=true):kK X (.type "set") (fun xs H Q=>∃(l:zdF) (de:List (Y×zdF)),xs=[.ref l]/\iR X.K H l (de.map fun x=>V.ref x.2)/\(∀x∈de,J.on X.K H x.1 x.2)/\de.length<2040/\
 ∀p us,H p=none->List.Nodup us->(∀k,k∈us↔k∈de.map (·.1))->Q (.ref p) (upd H p (.ext (GO p us.length)))):=by
 intro pins s G H xs us Q I r h;obtain⟨l,de,rfl,hq,hk,l4,q⟩:=h;obtain⟨u,rfl,ru⟩:=vals1 r;cases ru;obtain⟨bc,r',pi,hz⟩:=I.list hq;have hA:X.A.handled=none:=I.ok.hd hc;refine IJ (items:=bc.toArray) (ks:=de) pl (J.room (by show X.A.units+1+1+16<cLine;omega)) hA pi.isList (by simpa using GP (prog:=X.prog) (w:=X.w) r') (fun x hx=>J.of I (hk x hx)) (by first|decide|omega) fun h' tk hS kp=>?_;obtain⟨kb,o,es,ep,t,S,full,mem,le⟩:=hS;refine⟨.ref s.heap.objs.size,_,I.laid (t':=tk) kp (zah _) (show bZ X.prog X.w _ h' _ (.ext (GO s.heap.objs.size (kb.map (·.1)).length)) from ⟨⟨o,es,ep,t,S.at_,S.ex,S.dat,S.fits,by rw[S.size,zac]⟩,⟨o,S.at_⟩,?_⟩),rfl,q _ _ (I.bS.fresh (zah _)) S.nd mem⟩
 rintro h1 h2 ⟨o,es,ep,t,g,r⟩ k
 exact⟨o,es,ep,t,k _ g,r⟩
theorem vC:kK X (.builtin "len") (fun xs H Q=>∃(a:zdF) (n:Nat),xs=[.ref a]/\H a=some (.ext (GO a n))/\n<4000/\Q (.int n) H):=by
 intro pins s G H xs us Q I r h;obtain⟨a,n,rfl,e,hn,q⟩:=h;obtain⟨u,rfl,ru⟩:=vals1 r;cases (show u=yac a from ru);obtain⟨⟨o,es,ep,t,g,ex,d,f,rfl⟩, -⟩:=(show bZ X.prog X.w H s.heap a (.ext (GO a n)) from I.bS a _ e)
 exact call_len_set g ex d f (by first|decide|omega) ⟨.int es.size,H,I.tok _,⟨_,rfl⟩,q⟩
end
section
variable{prog:zdR}{w:zdH}
theorem wW.key(e:Lx k v=true):wW h n v:=by
 have:∀a,v≠.ref a:=fun a z=>by
  rcases eJ e with ⟨i,t,_,rfl⟩ |⟨x,t,_,rfl⟩ |⟨b,_,rfl⟩<;>cases z
 cases n with
 |zero=>exact this
 |succ n=>exact .inl this
theorem wW.VL(e:o5 k v=true):wW h n v:=by
 have:∀a,v≠.ref a:=fun a z=>by
  rcases cR e with ⟨i,t,_,rfl⟩ |⟨x,t,_,rfl⟩<;>cases z
 cases n with
 |zero=>exact this
 |succ n=>exact .inl this
theorem wW.ZG(t:IsTupleKey (RZ prog w) h ks a):wW h (m+1) (.ref a):=by
 obtain⟨o,bc,n,g,c,d,r⟩:=t;refine .inr ⟨a,o,bc,n,rfl,g,c,d,?_⟩;generalize bc.toList=vs at r;clear d
 induction r with
 |nil=>intro x hx;cases hx
 |cons e _ ih=>
  intro x hx;rcases zak.mp hx with rfl |hx
  .exact wW.key e
  .exact ih x hx
theorem wW.ZH(t:IsTupleKey (bF prog w) h ks a):wW h (m+1) (.ref a):=by
 obtain⟨o,bc,n,g,c,d,r⟩:=t;refine .inr ⟨a,o,bc,n,rfl,g,c,d,?_⟩;generalize bc.toList=vs at r;clear d
 induction r with
 |nil=>intro x hx;cases hx
 |cons e _ ih=>
  intro x hx;rcases zak.mp hx with rfl |hx
  .exact wW.VL e
  .exact ih x hx
theorem jF.tree(t:jF prog w h x a):wW h (m+2) (.ref a):=by
 obtain⟨o,n,u,b,g,c,d,i,t⟩:=t;refine .inr ⟨a,o,_,n,rfl,g,c,d,fun y hy=>?_⟩;simp only[zak,zbc,or_false] at hy;rcases hy with rfl |rfl
 .exact wW.VL i
 .exact wW.ZH t
theorem GQ{Y:Type}[DecidableEq Y]{knd:KeyKind prog w Y}{ks:List Y}(t:IsTupleKey knd h ks a)(k:∀b o bc n,h.get? b=some o->o.cls=.type "tuple"->o.data=.seq bc n->h'.get? b=some o):IsTupleKey knd h' ks a:=by
 obtain⟨o,bc,n,g,c,d,r⟩:=t;exact⟨o,bc,n,k _ _ _ _ g c d,c,d,r⟩
theorem jF.oX(t:jF prog w h x a)(k:∀b o bc n,h.get? b=some o->o.cls=.type "tuple"->o.data=.seq bc n->h'.get? b=some o):jF prog w h' x a:=by
 obtain⟨o,n,u,b,g,c,d,i,t⟩:=t;exact⟨o,n,u,b,k _ _ _ _ g c d,c,d,i,GQ t k⟩
theorem Sx:Jv (Y8.knd prog w):=⟨fun t k=>GQ t k,fun t=>⟨1,by decide,wW.ZG (m:=0) t⟩⟩
theorem Mt:Jv (qx.knd prog w):=by
 refine⟨fun {h h' x a} t k=>?_,fun {h x a} t=>⟨3,by decide,?_⟩⟩
 .obtain⟨o,n,b,c,g,e,d,i,t⟩:=(show oZ prog w h x a from t)
  exact(show oZ prog w h' x a from ⟨o,n,b,c,k _ _ _ _ g e d,e,d,i.oX k,t.oX k⟩)
 .obtain⟨o,n,b,c,g,e,d,i,t⟩:=(show oZ prog w h x a from t)
  refine .inr ⟨a,o,_,n,rfl,g,e,d,fun y hy=>?_⟩;simp only[zak,zbc,or_false] at hy;rcases hy with rfl |rfl
  .exact jF.tree (m:=0) i
  .exact jF.tree (m:=0) t
end
section
variable(K:zaa)(qual:Str)(Pt:zdF)(lp:Pos)
inductive Mu(vs:List V)(H:Hp)(Q:VK)(E:XK):Prop
 |mk (v1 v2:V) (av aw:PG.Prog) (ps:Array zdG):vs=[v1,v2]->Rep K H (iX av) v1->Rep K H (iX aw) v2->bV av->bV aw->dh av<=100000->dh aw<=100000->2000<(aO av aw).length->H Pt=some (.rE ps)->TabOk qual lp H ps->(∀l H' yu,bf Pt H H'->H' Pt=some (.rE yu)->TabOk qual lp H' yu->H' l=some (.lst ((zaj 14).map fun k=>V.bl (decide (k=12))))->Q (.ref l) H')->Mu vs H Q E
inductive Mv(vs:List V)(H:Hp)(Q:VK)(E:XK):Prop
 |mk (sz:zdF) (a b c d cG:Int):vs=[.ref sz,.int cG]->H sz=some (.lst [.int a,.int b,.int c,.int d])->0<=cG->(∀v H',ar H H'->Rep K H' (iX (pP a b c d (if 0<cG then some cG else none))) v->Q v H')->Mv vs H Q E
inductive GR(vs:List V)(H:Hp)(Q:VK)(E:XK):Prop
 |mk (sz:zdF) (a b c d cG:Int):vs=[.ref sz,.int cG]->H sz=some (.lst [.int a,.int b,.int c,.int d])->(∀v H',ar H H'->Rep K H' (iX (uj a b c d cG)) v->Q v H')->GR vs H Q E
inductive C0(vs:List V)(H:Hp)(Q:VK)(E:XK):Prop
 |mk (D C G:zdF) (d:Dk):vs=[.ref D]->ma H D C G d->d.pos<=1000->(∀l a b c e d' H',vX D C H H'->ma H' D C G d'->d'.pos<=d.pos+13->DH a b c e->H l=none->H' l=some (.lst [.int a,.int b,.int c,.int e])->Q (.ref l) H')->C0 vs H Q E
end
theorem C1(hp:H p=none)(hD:H D=some u)(o:HO):wo (upd H p o) D=upd (wo H D) p o/\wo H D p=none:=by
 have ne:p≠D:=fun e=>by rw[e,hD] at hp;cases hp
 refine⟨funext fun b=>?_,by rw[bE ne];exact hp⟩;by_cases e:b=D
 .subst e;rw[cW,au (Ne.symm ne),cW]
 .rw[bE e];by_cases e2:b=p
  .subst e2;rw[ah,ah]
  .rw[au e2,au e2,bE e]
noncomputable def BH (i:Nat):List Nat:=[[97],[97,98],[98],[99]].getD i []
def Tw (n:Nat):List cJ:=(zaj n).map fun k:Nat=>.ask (5+k) (BH k)
def VM (l:List Int)(n:Nat):List sW:=(zaj n).map fun k:Nat=>⟨BH k,l.getD k 0,0⟩
theorem A1(h:i<4):([V.str (S [97]),V.str (S [97,98]),V.str (S [98]),V.str (S [99])]:List V)[i]?=some (.str (S (BH i))):=by
 have:i=0\/i=1\/i=2\/i=3:=by lia
 rcases this with rfl |rfl |rfl |rfl<;>rfl
theorem wX(h:i<4):([V.int a,V.int b,V.int c,V.int d]:List V)[i]?=some (.int ([a,b,c,d].getD i 0)):=by
 have:i=0\/i=1\/i=2\/i=3:=by lia
 rcases this with rfl |rfl |rfl |rfl<;>rfl
theorem Mw:Tw 4=Nu none:=rfl
theorem C2:VM [a,b,c,d] 4=CS a b c d:=rfl
theorem E8{r:St}(ok:V->Prop)(hl:n<=16000000)(hD:H D=none)(dk:ma H dK C G d)
 (step:∀(i:Nat) x H2 d2,i<n->ma H2 dK C G d2->d2.pos=d.pos+3*i->∀R:VK,(∀v H3 d3,ok v->vX dK C H2 H3->ma H3 dK C G d3->d3.pos=d2.pos+3->R v H3)->te (some x::r) H2 R)
 (q:∀(vs:List V) H2 d2,vs.length=n->(∀m∈vs,ok m)->vX dK C H H2->ma H2 dK C G d2->d2.pos=d.pos+3*n->H2 D=some (.lst vs)->D≠dK->D≠C->Q (.ref D) H2) :
 qJ (NP 0 n) D (gE 0) xi te Q (none::r) (upd H D (.lst [])):=by
 have nD:D≠dK:=fun z=>by rw[z,dk.nN] at hD;cases hD
 have nC:D≠C:=fun z=>by rw[z,dk.cs] at hD;cases hD
 have nG:D≠G:=fun z=>by rw[z,dk.gs] at hD;cases hD
 have dkp:∀{H2:Hp} {d2:Dk} {o:HO},ma H2 dK C G d2->ma (upd H2 D o) dK C G d2:=fun d=>⟨by rw[au nD.symm];exact d.nN,by rw[au nC.symm];exact d.cs,by rw[au nG.symm];exact d.gs,d.Tt,d.VB,d.VC,d.len,d.gl,d.pos⟩
 have cg:∀{H2:Hp} {o:HO},vX dK C H H2->vX dK C H (upd H2 D o):=fun u=>⟨fun b w n e=>by rw[au (ag e hD)];exact u.u b w n e,fun b h=>by
  by_cases e:b=D
  .rw[e,ah];simp
  .rw[au e];exact u.Xn b h⟩
 refine⟨fun i m Z H2=>m=n-i/\i<=n/\(∃x,Z=x::r)/\vX dK C H H2/\∃d2,ma H2 dK C G d2/\d2.pos=d.pos+3*i/\∃vs:List V,H2 D=some (.lst vs)/\vs.length=i/\∀m∈vs,ok m,⟨n,by simp,zaN _,⟨none,rfl⟩,cg .refl,d,dkp dk,by simp,[],ah,rfl,fun m z=>by simp at z⟩,?_⟩
 rintro i m Z H2 ⟨rfl,hi,⟨x,rfl⟩,u2,d2,k2,p2,vs,h2,ly,o2⟩
 by_cases qu:i<n
 .refine .inr ⟨qu,fun Z' H'=>(∃x,Z'=x::r)/\vX dK C H H'/\∃d2,ma H' dK C G d2/\d2.pos=d.pos+3*(i+1:Nat)/\∃vs:List V,H' D=some (.lst vs)/\vs.length=i+1/\∀m∈vs,ok m,fun Z' H' ⟨h1,h3,h4⟩=>⟨n-(i+1),by lia,rfl,qu,h1,h3,h4⟩,fun y H' hy=>?_⟩;obtain⟨rfl,rfl⟩:=hy;simp only[gE,zbV,xi];rw[ybS trivial];refine step i _ _ d2 qu k2 p2 _ fun v H3 d3 hv u3 k3 p3=>⟨vs,u3.get h2 nD nC,?_,⟨_,rfl⟩,cg (u2.trans u3),d3,dkp k3,by rw[p3,p2];lia,vs++[v],ah,by simp[ly],fun m hm=>?_⟩
  .have:zdN=2 ^ 24:=rfl;lia
  .rcases zan.mp hm with hm |hm
   .exact o2 m hm
   .rw[zaf.mp hm];exact hv
 .have e:i=n:=by lia
  subst e;exact .inl ⟨zah _,q vs H2 d2 ly o2 u2 k2 p2 h2 nD nC⟩
section
variable(K:zaa)(qual:Str)(Pt:zdF)(lp:Pos)
inductive QE(vs:List V)(H:Hp)(Q:VK)(E:XK):Prop
 |mk (D C G sz:zdF) (a b c d more:Int) (dk:Dk) (ps:Array zdG):vs=[.ref D,.ref sz,.int more]->ma H D C G dk->dk.pos<=1100->sz≠D->sz≠C->H sz=some (.lst [.int a,.int b,.int c,.int d])->DH a b c d->more=0\/more=1->H Pt=some (.rE ps)->TabOk qual lp H ps->(∀H',Q (.bl true) H')->QE vs H Q E
end
section
variable{K:zaa}{H:Hp}
theorem GS:∀{us:List V},gH K H l us->∃de:List ((bA×bA)×zdF),us=de.map (fun x=>V.ref x.2)/\de.map (·.1)=l.map ki/\∀x∈de,qx.on K H x.1 x.2:=by
 induction l with
 |nil=>intro _ h;cases h;exact⟨[],rfl,rfl,fun x h=>by cases h⟩
 |cons p l ih=>
  intro _ h;cases h with
  |cons h t=>
   obtain⟨a,rfl,q⟩:=h;obtain⟨de,rfl,e2,h⟩:=ih t;refine⟨(ki p,a)::de,rfl,by rw[zas,e2,zas],fun x hx=>?_⟩;rcases zak.mp hx with rfl |hx
   .exact xN q
   .exact h x hx
theorem GU{O:Type}[DecidableEq O]{a b:List O}(ha:a.Nodup)(hb:b.Nodup)(h:∀x,x∈a↔x∈b):a.length=b.length:=
 zdk (eB a b ha fun x hx=>(h x).mp hx) (eB b a hb fun x hx=>(h x).mpr hx)
def Mx (K:zaa)(H:Hp)(ps:List (Int×Int))(us:List V):Prop:=yao (fun q v=>∃a,v=.ref a/\bH K H a [.int q.1,.int q.2]) ps us
noncomputable def qk (q:Int×Int):List Key:=[.inl q.1,.inl q.2]
theorem Sy(h:qk a=qk b):a=b:=by
 unfold qk at h
 injection h with h1 h2
 injection h2 with h2 _
 injection h1 with h1
 injection h2 with h2
 exact Prod.ext h1 h2
theorem My:∀{us:List V},Mx K H l us->∃de:List (List Key×zdF),us=de.map (fun x=>V.ref x.2)/\de.map (·.1)=l.map qk/\∀x∈de,Y8.on K H x.1 x.2:=by
 induction l with
 |nil=>intro _ h;cases h;exact⟨[],rfl,rfl,fun x h=>by cases h⟩
 |cons p l ih=>
  intro _ h;cases h with
  |cons h t=>
   obtain⟨a,rfl,q⟩:=h;obtain⟨de,rfl,e2,h⟩:=ih t;refine⟨(qk p,a)::de,rfl,by rw[zas,e2,zas],fun x hx=>?_⟩;rcases zak.mp hx with rfl |hx
   .exact⟨_,q,.cons (.inl rfl) (.cons (.inl rfl) .nil)⟩
   .exact h x hx
theorem Sz(h:Mx K H ps us)(hE:H E1=some (.lst VN))(hp:H p=none):Mx K (upd (upd H p (.tup [.int x,.int y])) E1 (.lst Jp)) (ps++[(x,y)]) (us++[.ref p]):=by
 have s:=ar.new hp (.tup [.int x,.int y]);have u:bf E1 (upd H p (.tup [.int x,.int y])) (upd (upd H p (.tup [.int x,.int y])) E1 (.lst Jp)):=(bf.refl _ _).put _;have g:Mx K (upd (upd H p (.tup [.int x,.int y])) E1 (.lst Jp)) ps us:=yao.Af h fun _ _ ⟨a,e,q⟩=>⟨a,e,(s.cO q).Ls (s _ _ hE) u⟩
 exact ybK g ⟨p,rfl,bH.Ls (bH.of ah) (s _ _ hE) u⟩
theorem DkZ.set(k:DkZ a a' D){us:List (List Key)}(n:us.Nodup)(h:∀x,x∈us↔x∈((zaj 10).map fun f:Nat=>((f:Int)%a,(f:Int)%a')).map qk):us.length=D.length:=by
 have:=GU n (md k.nd fun a b e=>Sy e) fun x=>(h x).trans (by
  rw[zae,zae];refine exists_congr fun y=>and_congr_left fun _=>?_;rw[k.mem,zae];exact⟨fun ⟨f,hf,e⟩=>⟨f,zav.mp hf,e.symm⟩,fun ⟨f,hf,e⟩=>⟨f,zav.mpr hf,e.symm⟩⟩)
 rwa [zac] at this
theorem DkZ.EA(k:DkZ a a' D):D.length<=10:=by
 have:=eB D ((zaj 10).map fun f:Nat=>((f:Int)%a,(f:Int)%a')) k.nd fun p hp=>by
  obtain⟨f,hf,e⟩:=(k.mem p).mp hp;exact zae.mpr ⟨f,zav.mpr hf,e.symm⟩
 rwa [zac,zaJ] at this
theorem C3(h:gH K H l us){js:List Nat}:(∀j∈js,j<l.length)->gH K H (js.map fun j=>l.getD j ((0,[]),(0,[]))) (js.map fun j=>us.getD j .eA):=by
 induction js with
 |nil=>intros;exact .nil
 |cons j js ih=>
  intro g;have hj:=g j (zao ..);have hl:=yah h;have e:us[j]?=some (us.getD j .eA):=by rw[zal,zad (by lia)];rfl
  obtain⟨p,a,e1,e2,q⟩:=h.get e;refine .cons ⟨a,e2,?_⟩ (ih fun j hj=>g j (zag _ hj));show l0 K H a (l.getD j _);rw[zal,e1];exact q
theorem SA(h:l0 K H a p):Rep K H (yE p) (.ref a):=by
 obtain⟨y,z,h1,⟨va,h2,h3⟩,vb,h4,h5⟩:=h;exact Rep.aT.mpr ⟨a,_,rfl,h1,.cons (Rep.aT.mpr ⟨y,_,rfl,h2,.cons qN (.cons (Rep.aT.mpr ⟨va,_,rfl,h3,mK _⟩) .nil)⟩) (.cons (Rep.aT.mpr ⟨z,_,rfl,h4,.cons qN (.cons (Rep.aT.mpr ⟨vb,_,rfl,h5,mK _⟩) .nil)⟩) .nil)⟩
theorem C4(p:br):ya2 (yE p).py=true:=by
 obtain⟨i1,i2⟩:=wM p.1.2;obtain⟨j1,j2⟩:=wM p.2.2;unfold yE Cv ya2;simp only[Dp.py,Dp.B7,ybH,yaX,PyData.depth,yba,i1,j1,zc2,zc3,decide_eq_true_iff];lia
end
theorem O7{K:zaa}(h:X.K=K)(hu:X.A.units+64<cLine):qv X (yau .NotEq) (RI K true):=h▸RJ hu
theorem O8:qv X (yau .IsNot) (fun x y H Q=>∃a b,x=.bl a/\y=.bl b/\Q (.bl (!decide (a=b))) H):=by
 intro pins s G H x y v u Q I rx ry h;obtain⟨a,b,rfl,rfl,q⟩:=h;cases rx;cases ry;refine wpAny_isNot_plain rfl (bP I q ?_);cases a<;>cases b<;>rfl
theorem Mz:qv X (yau .Is) (fun x y H Q=>∃a b,x=.bl a/\y=.bl b/\Q (.bl (decide (a=b))) H):=by
 intro pins s G H x y v u Q I rx ry h;obtain⟨a,b,rfl,rfl,q⟩:=h;cases rx;cases ry;refine wpAny_is_plain rfl (bP I q ?_);cases a<;>cases b<;>rfl
theorem pR{K:zaa}{l:List Nat}:∀{f:Nat->Bool},aL K H (l.map fun k=>Dp.bl (f k)) (l.map fun k=>V.bl (f k)):=by
 induction l with
 |nil=>intros;exact .nil
 |cons _ _ ih=>intro _;exact .cons (Rep.rM.mpr rfl) ih
theorem lN(g:List Int):ya2 (Dp.tup [.str "apart",.lst (g.map Dp.int)]).py=true:=by
 obtain⟨i1,i2⟩:=wM g;unfold ya2;simp only[Dp.py,Dp.B7,ybH,yaX,PyData.depth,yba,i1,i2,zc2,zc3,show PyData.strOk (zab "apart")=true from by decide +kernel];rfl
theorem zW{K:zaa}(d1:bV av)(d2:bV aw)(h:gH K H ((aO av aw).map (·.1)) us):∃de:List ((bA×bA)×zdF),us=de.map (fun x=>V.ref x.2)/\de.length=(aO av aw).length/\(∀x∈de,qx.on K H x.1 x.2)/\∀ks:List (bA×bA),ks.Nodup->(∀k,k∈ks↔k∈de.map (·.1))->ks.length=(aO av aw).length:=by
 obtain⟨de,e1,e2,g⟩:=GS h;have lk:(de.map (·.1)).length=(aO av aw).length:=by rw[e2,zac,zac]
 refine⟨de,e1,by rwa [zac] at lk,g,fun ks n m=>?_⟩;have:=GU n (md (mR d1 d2).nd fun a b e=>pM e) fun k=>(m k).trans (by rw[e2])
 rwa [zac,zac] at this
noncomputable def DJ (f:Nat->Nat):Nat->Nat
 |0=>1
 |k+1=>DJ f k*f k
def QF (f:Nat->Nat):Nat->Nat
 |0=>1
 |k+1=>QF f k+DJ f (k+1)
theorem MA(h:∀k,f k<=10):∀k,DJ f k<=10 ^ k
 |0=>zah _
 |k+1=>by rw[DJ,zbm];exact zcu (MA h k) (h k)
theorem VO(z1:DH a b c d)(z2:DH a' b' c' d')(k0:DkZ a a' D0)(k1:DkZ b b' D1)(k2:DkZ c c' D2)(k3:DkZ d d' D3)(s0:0<=cG)(s1:cG<=900)(m:more=0\/more=1/\0<cG) :
 ∃av aw,av=pP a b c d (if 0<cG then some cG else none)/\aw=pP a' b' c' d' (if 0<cG+more then some (cG+more) else none)/\bV av/\bV aw/\dh av<=100000/\dh aw<=100000/\jG av=(5,[0,0,0,0])/\jG aw=(5,[0,0,0,0])/\
  (aO av aw).length=QF (fun k=>([D0,D1,D2,D3].getD k []).length) 4+(if 0<cG/\more=0 then DJ (fun k=>([D0,D1,D2,D3].getD k []).length) 4 else 0)/\
  (more=0->i5 av aw (aO av aw)=none)/\(more=1->i5 av aw (aO av aw)=some [0,0,0,0]):=by
 have sN:∀{k:Int},k<=999->OS (if 0<k then some k else none):=fun {k} h j e=>by
  split at e
  .cases e;lia
  .cases e
 have f1:=jH z1 (sN (k:=cG) (by lia));have f2:=jH z2 (sN (k:=cG+more) (by lia));have g:∀t,QF (fun k=>([D0,D1,D2,D3].getD k []).length) 4+t=1+D0.length+D0.length*D1.length+D0.length*(D1.length*D2.length)+D0.length*(D1.length*(D2.length*D3.length))+t:=fun t=>by
  simp[QF,DJ,Nat.mul_assoc]
 have g2:DJ (fun k=>([D0,D1,D2,D3].getD k []).length) 4=D0.length*(D1.length*(D2.length*D3.length)):=by
  simp[DJ,Nat.mul_assoc]
 refine⟨_,_,rfl,rfl,f1.dr,f2.dr,f1.many,f2.many,f1.fst,f2.fst,?_⟩;rw[g,g2];obtain⟨A,B,C⟩:=Sm z1 z2 k0 k1 k2 k3;by_cases hs:0<cG
 .rcases m with rfl |⟨rfl,_⟩
  .rw[zde,ybS hs,ybS ⟨hs,rfl⟩];obtain⟨h1,h2⟩:=B cG s0 (by lia);exact⟨by rw[h2,EZ,ybS rfl],fun _=>h1,fun h=>ybX h (by decide)⟩
  .rw[ybS hs,ybS (show 0<cG+1 by lia),ybR (by lia)];obtain⟨h1,h2⟩:=C cG s0 (by lia);exact⟨by rw[h2,EZ,ybR (by decide)],fun h=>ybX h (by decide),fun _=>h1⟩
 .have e:more=0:=m.elim id fun h=>ybX h.2 hs;subst e;rw[zde,ybR hs,ybR (fun h=>hs h.1)];exact⟨by rw[A.2,EZ,ybR (by decide)],fun _=>A.1,fun h=>ybX h (by decide)⟩
noncomputable def VP (a:Int)(xs:List Int):Nat->Int
 |0=>a
 |k+1=>VP a xs k*xs.getD k 0
def VQ (m a:Int)(xs:List Int):Nat->Int
 |0=>m
 |k+1=>VQ m a xs k+VP a xs (k+1)
theorem VR(z:DH a b c d)(k0:0<=k)(k1:k+1<=999)(m:more=0\/more=1) :
 ∃av aw,av=uj a b c d k/\aw=uj a b c d (k+more)/\bV av/\bV aw/\dh av<=100000/\dh aw<=100000/\
  ((aO av aw).length:Int)=VQ (1+a+1-more) (a-more) [b,c,d] 3/\(more=0->i5 av aw (aO av aw)=none)/\(more=1->i5 av aw (aO av aw)=some [0]):=by
 have f1:=mS z k0 (show k<=999 by lia);have f2:=mS z (show 0<=k+more by lia) (show k+more<=999 by lia);refine⟨_,_,rfl,rfl,f1.dr,f2.dr,f1.many,f2.many,?_⟩;obtain⟨A,B⟩:=So z k0 k1;rcases m with rfl |rfl
 .rw[zde];refine⟨A.2.trans ?_,fun _=>A.1,fun h=>ybX h (by decide)⟩;simp[VQ,VP]
 .refine⟨B.2.trans ?_,fun h=>ybX h (by decide),fun _=>B.1⟩;simp[VQ,VP]
end L2
section
set_option maxHeartbeats 4000000
namespace SD
open PG
open PySem L2
noncomputable def top (i:Nat):Stmt:=PySem.Challenge.pw_everyrow_k61_many_pairs.main.body.getD i (.Pass ⟨0,0,0,0⟩)
abbrev E9:Stmt:=top 2
abbrev kS:Stmt:=top 3
abbrev pS:Stmt:=top 4
abbrev mf:Stmt:=top 5
abbrev vD:Stmt:=top 6
abbrev pT:Stmt:=top 7
abbrev jS:Stmt:=top 8
abbrev A2:Stmt:=top 25
abbrev vE:Stmt:=top 28
abbrev rW:Stmt:=top 29
abbrev rX:Stmt:=top 30
abbrev A3:Stmt:=top 31
abbrev vF:Stmt:=top 34
abbrev gW:Stmt:=top 35
abbrev nQ:Stmt:=top 36
abbrev nR:Stmt:=top 39
abbrev ic:Stmt:=top 40
abbrev mh:Stmt:=top 42
abbrev aU:Stmt:=top 43
abbrev pU:Stmt:=top 45
abbrev vG:Stmt:=top 46
abbrev nU:Stmt:=top 47
abbrev pV:Stmt:=top 48
abbrev kT:Stmt:=top 49
abbrev pW:Stmt:=top 51
abbrev pX:Stmt:=top 52
abbrev kU:Stmt:=top 53
abbrev pY:Stmt:=top 54
abbrev nV:Stmt:=top 55
abbrev nW:Stmt:=top 56
abbrev gX:Stmt:=top 57
abbrev MB:Stmt:=top 58
abbrev dC:Stmt:=inClass (top 27) 0
abbrev dE:Stmt:=inClass (top 44) 0
abbrev bu:Stmt:=inClass (top 44) 1
theorem GV:a9 ["program"] ["program"] (aG E9):=⟨rfl,rfl,rfl,by decide +kernel,rfl,by decide +kernel,by decide +kernel⟩
theorem oN:a9 ["body", "behind", "told", "place", "statement", "after", "inner"] ["body", "behind"] (aG kS):=⟨rfl,rfl,rfl,by decide +kernel,rfl,by decide +kernel,by decide +kernel⟩
theorem uq:a9 ["body", "behind"] ["body", "behind"] (aG pS):=⟨rfl,rfl,rfl,by decide +kernel,rfl,by decide +kernel,by decide +kernel⟩
theorem pZ:a9 ["statement", "after"] ["statement", "after"] (aG mf):=⟨rfl,rfl,rfl,by decide +kernel,rfl,by decide +kernel,by decide +kernel⟩
theorem xU:a9 ["statement", "after", "word"] ["statement", "after"] (aG vD):=⟨rfl,rfl,rfl,by decide +kernel,rfl,by decide +kernel,by decide +kernel⟩
theorem ur:a9 ["statement"] ["statement"] (aG pT):=⟨rfl,rfl,rfl,by decide +kernel,rfl,by decide +kernel,by decide +kernel⟩
theorem mT:a9 ["body", "found", "statement", "inner"] ["body"] (aG jS):=⟨rfl,rfl,rfl,by decide +kernel,rfl,by decide +kernel,by decide +kernel⟩
theorem C5:a9 ["e", "values", "kind", "left", "right"] ["e", "values"] (aG A2):=⟨rfl,rfl,rfl,by decide +kernel,rfl,by decide +kernel,by decide +kernel⟩
theorem xV:a9 ["chart", "row"] ["chart", "row"] (aG vE):=⟨rfl,rfl,rfl,by decide +kernel,rfl,by decide +kernel,by decide +kernel⟩
theorem v8:a9 ["chart", "parts"] ["chart", "parts"] (aG rW):=⟨rfl,rfl,rfl,by decide +kernel,rfl,by decide +kernel,by decide +kernel⟩
theorem v9:a9 ["chart", "named"] ["chart", "named"] (aG rX):=⟨rfl,rfl,rfl,by decide +kernel,rfl,by decide +kernel,by decide +kernel⟩
theorem C6:a9 ["chart", "standing", "statement", "values", "left", "right"] ["chart", "standing"] (aG A3):=⟨rfl,rfl,rfl,by decide +kernel,rfl,by decide +kernel,by decide +kernel⟩
theorem xW:a9 ["chart", "standing", "figure", "row", "statement", "word", "values", "said"] ["chart", "standing", "figure"] (aG vF):=⟨rfl,rfl,rfl,by decide +kernel,rfl,by decide +kernel,by decide +kernel⟩
theorem jY:a9 ["chart", "standing", "row"] ["chart", "standing"] (aG gW):=⟨rfl,rfl,rfl,by decide +kernel,rfl,by decide +kernel,by decide +kernel⟩
theorem qR:a9 ["chart", "standing", "word", "behind"] ["chart", "standing"] (aG nQ):=⟨rfl,rfl,rfl,by decide +kernel,rfl,by decide +kernel,by decide +kernel⟩
theorem qS:a9 ["first", "led_from", "found", "asking", "behind", "figures", "led", "figure", "place"] ["first", "led_from"] (aG nR):=⟨rfl,rfl,rfl,by decide +kernel,rfl,by decide +kernel,by decide +kernel⟩
theorem xX:a9 ["place", "led_from", "figures", "found", "led"] ["place", "led_from", "figures", "found"] (aG ic):=⟨rfl,rfl,rfl,by decide +kernel,rfl,by decide +kernel,by decide +kernel⟩
theorem qb:a9 ["one", "other", "paper", "both", "listed", "pair"] ["one", "other", "paper"] (aG mh):=⟨rfl,rfl,rfl,by decide +kernel,rfl,by decide +kernel,by decide +kernel⟩
theorem qT:a9 ["one", "other", "both", "found", "pair"] ["one", "other"] (aG aU):=⟨rfl,rfl,rfl,by decide +kernel,rfl,by decide +kernel,by decide +kernel⟩
theorem uv:a9 ["chart", "standing", "word"] ["chart", "standing"] (aG pU):=⟨rfl,rfl,rfl,by decide +kernel,rfl,by decide +kernel,by decide +kernel⟩
theorem xY:a9 ["chart", "standing", "word", "told"] ["chart", "standing"] (aG vG):=⟨rfl,rfl,rfl,by decide +kernel,rfl,by decide +kernel,by decide +kernel⟩
theorem qU:a9 ["both"] ["both"] (aG nU):=⟨rfl,rfl,rfl,by decide +kernel,rfl,by decide +kernel,by decide +kernel⟩
theorem uy:a9 ["both", "pair"] ["both", "pair"] (aG pV):=⟨rfl,rfl,rfl,by decide +kernel,rfl,by decide +kernel,by decide +kernel⟩
theorem oP:a9 ["both", "pair", "one", "other"] ["both", "pair"] (aG kT):=⟨rfl,rfl,rfl,by decide +kernel,rfl,by decide +kernel,by decide +kernel⟩
theorem uz:a9 ["deck", "many", "at", "place", "found", "number"] ["deck", "many"] (aG pW):=⟨rfl,rfl,rfl,by decide +kernel,rfl,by decide +kernel,by decide +kernel⟩
theorem uD:a9 ["script", "great"] ["script"] (aG pX):=⟨rfl,rfl,rfl,by decide +kernel,rfl,by decide +kernel,by decide +kernel⟩
theorem oQ:a9 ["one", "other", "told", "e"] ["one", "other"] (aG kU):=⟨rfl,rfl,rfl,by decide +kernel,rfl,by decide +kernel,by decide +kernel⟩
theorem uI:a9 ["sizes", "said", "names", "body"] ["sizes", "said"] (aG pY):=⟨rfl,rfl,rfl,by decide +kernel,rfl,by decide +kernel,by decide +kernel⟩
theorem qV:a9 ["deck", "wide"] ["deck"] (aG nV):=⟨rfl,rfl,rfl,by decide +kernel,rfl,by decide +kernel,by decide +kernel⟩
theorem qW:a9 ["sizes", "said", "one", "body"] ["sizes", "said"] (aG nW):=⟨rfl,rfl,rfl,by decide +kernel,rfl,by decide +kernel,by decide +kernel⟩
theorem jZ:a9 ["deck", "sizes", "more", "said", "one", "other", "many", "last", "size", "found"] ["deck", "sizes", "more"] (aG gX):=⟨rfl,rfl,rfl,by decide +kernel,rfl,by decide +kernel,by decide +kernel⟩
theorem MC:a9 ["script", "deck", "sizes", "others", "said", "more", "many", "last", "k", "one", "other", "found", "rest"] ["script"] (aG MB):=⟨rfl,rfl,rfl,by decide +kernel,rfl,by decide +kernel,by decide +kernel⟩
theorem qX:a9 ["self", "program", "boxes", "body"] ["self", "program"] (aG dC):=⟨rfl,rfl,rfl,by decide +kernel,rfl,by decide +kernel,by decide +kernel⟩
theorem qY:a9 ["self", "program"] ["self", "program"] (aG dE):=⟨rfl,rfl,rfl,by decide +kernel,rfl,by decide +kernel,by decide +kernel⟩
theorem j0:a9 ["self", "standing", "passed", "here", "told", "each"] ["self", "standing"] (aG bu):=⟨rfl,rfl,rfl,by decide +kernel,rfl,by decide +kernel,by decide +kernel⟩
set_option genInjectivity false in
set_option genInjectivity false in
set_option genSizeOf false in
structure Ad where
 mi:zdF
 km:zdO
 dS:zdF
 eC:zdO
 cH:zdF
 cA:zdO
 fH:zdF
 fT:zdO
 kG:zdF
 kW:zdO
 fU:zdF
 gB:zdO
 bj:zdF
 bq:zdO
 nX:zdF
 mU:zdO
 mV:zdF
 nY:zdO
 kX:zdF
 lO:zdO
 kY:zdF
 lP:zdO
 uJ:zdF
 uK:zdO
 mW:zdF
 nZ:zdO
 dU:zdF
 eQ:zdO
 iE:zdF
 jr:zdO
 iF:zdF
 jt:zdO
 fI:zdF
 og:zdO
 gQ:zdF
 iH:zdO
 dH:zdF
 ju:zdO
 jI:zdF
 kn:zdO
 mX:zdF
 oh:zdO
 iI:zdF
 jv:zdO
 jJ:zdF
 ko:zdO
 fV:zdF
 gS:zdO
 jK:zdF
 kr:zdO
 jL:zdF
 kx:zdO
 fW:zdF
 gU:zdO
 jM:zdF
 ky:zdO
 iJ:zdF
 jw:zdO
 iK:zdF
 jx:zdO
 dW:zdF
 eR:zdO
 GW:zdF
 vH:zdO
 dI:zdF
 mm:zdO
 dJ:zdF
 mq:zdO
 bw:zdF
 gJ:zdO
 aH:zdF
 aX:zdF
 fX:zdF
 i6:zdF
 om:zdF
 i7:zdF
 i8:zdF
 fY:zdF
 oo:zdF
 rY:zdF
 ou:zdF
 rZ:zdF
 aC:zdF
 kZ:zdF
 i9:zdF
 gY:zdF
set_option genInjectivity false in
structure Tx(K:zaa)(mg:Str->Option zdG)(t:Ad):Prop where
 A4:cV K mg "flow" E9 ["program"] t.mi t.km
 fZ:cV K mg "flow_of_body" kS ["body", "behind"] t.dS t.eC
 eZ:cV K mg "first_row" pS ["body", "behind"] t.cH t.cA
 jy:cV K mg "behind_body" mf ["statement", "after"] t.fH t.fT
 qp:cV K mg "ways_of" vD ["statement", "after"] t.kG t.kW
 jN:cV K mg "bodies_in" pT ["statement"] t.fU t.gB
 fE:cV K mg "statements_in" jS ["body"] t.bj t.bq
 kz:cV K mg "worth" A2 ["e", "values"] t.nX t.mU
 ja:cV K mg "word_at" vE ["chart", "row"] t.mV t.nY
 k6:cV K mg "by_names" rW ["chart", "parts"] t.kX t.lO
 ox:cV K mg "in_order" rX ["chart", "named"] t.kY t.lP
 uL:cV K mg "holds" A3 ["chart", "standing"] t.uJ t.uK
 jb:cV K mg "step_by" vF ["chart", "standing", "figure"] t.mW t.nZ
 fg:cV K mg "behind_condition" gW ["chart", "standing"] t.dU t.eQ
 iL:cV K mg "all_led_to" nQ ["chart", "standing"] t.iE t.jr
 gC:cV K mg "found_from" nR ["first", "led_from"] t.iF t.jt
 gD:cV K mg "gone_on" ic ["place", "led_from", "figures", "found"] t.fI t.og
 bK:cV K mg "right_alike" mh ["one", "other", "paper"] t.gQ t.iH
 bX:cV K mg "told_apart" aU ["one", "other"] t.dH t.ju
 lQ:cV K mg "is_unseen" pU ["chart", "standing"] t.jI t.kn
 qr:cV K mg "seen_at" vG ["chart", "standing"] t.mX t.oh
 iM:cV K mg "first_pair" nU ["both"] t.iI t.jv
 ie:cV K mg "see_alike" pV ["both", "pair"] t.jJ t.ko
 dX:cV K mg "pairs_behind" kT ["both", "pair"] t.fV t.gS
 aM:cV K mg "_law_draw" pW ["deck", "many"] t.jK t.kr
 ig:cV K mg "_law_deck" pX ["script"] t.jL t.kx
 cB:cV K mg "_law_refused" kU ["one", "other"] t.fW t.gU
 eI:cV K mg "_law_asks" pY ["sizes", "said"] t.jM t.ky
 dM:cV K mg "_law_sizes" nV ["deck"] t.iJ t.jw
 dN:cV K mg "_law_early" nW ["sizes", "said"] t.iK t.jx
 cN:cV K mg "_law_early_right" gX ["deck", "sizes", "more"] t.dW t.eR
 GX:cV K mg "law" MB ["script"] t.GW t.vH
 kA:DE K "__init__" "Chart.__init__" dC t.dI t.mm
 A5:Binds K t.mm ["self", "program"] []
 kB:DE K "__init__" "Watch.__init__" dE t.dJ t.mq
 kC:Binds K t.mq ["self", "program"] []
 fh:DE K "sight_from" "Watch.sight_from" bu t.bw t.gJ
 fj:Binds K t.gJ ["self", "standing"] []
 fB:Meth K t.aX "sight_from" t.bw
 cU:Ng K t.aH
 MD:mg "Chart"=some (.ref t.aH)
 xZ:Mk K t.aH t.dI
 gb:iW K t.aH "names"
 gg:iW K t.aH "sizes"
 gm:iW K t.aH "first"
 cF:iW K t.aH "statements"
 fJ:iW K t.aH "ways"
 cL:Ng K t.aX
 uM:mg "Watch"=some (.ref t.aX)
 mY:Mk K t.aX t.dJ
 bW:iW K t.aX "chart"
 cI:iW K t.aX "sights"
 C7:mg "RowError"=some (.ref t.fX)
 Fb:mg "TooLong"=some (.ref t.i6)
 ME:mg "NoRow"=some (.ref t.om)
 Fc:mg "NoPlace"=some (.ref t.i7)
 Fd:mg "TooDeep"=some (.ref t.i8)
 A6:mg "NoMeasure"=some (.ref t.fY)
 MF:mg "Twice"=some (.ref t.oo)
 O9:mg "Full"=some (.ref t.rY)
 MG:mg "NoBox"=some (.ref t.ou)
 Pa:mg "Open"=some (.ref t.rZ)
 vI:N9 K t.aC
 x5:zbT K (.ref t.aC) (.ref t.aC)=some true
 x6:mg "TooMany"=some (.ref t.aC)
 IK:mg "NoForm"=some (.ref t.kZ)
 Fe:mg "NoneYet"=some (.ref t.i9)
 C8:mg "NoTarget"=some (.ref t.gY)
 se:zbT K (.ref t.aC) (.ref t.fX)=some true
 cE:Nj K t.aC
 sj:zaA K (.ref t.aC) (.type "ValueError")=some true
 j3:zaA K (.ref t.aC) (.ref t.fX)=some true
 gZ:zaA K (.ref t.aC) (.ref t.i6)=some false
 jc:zaA K (.ref t.aC) (.ref t.om)=some false
 g7:zaA K (.ref t.aC) (.ref t.i7)=some false
 g8:zaA K (.ref t.aC) (.ref t.i8)=some false
 gn:zaA K (.ref t.aC) (.ref t.fY)=some false
 jd:zaA K (.ref t.aC) (.ref t.oo)=some false
 jT:zaA K (.ref t.aC) (.ref t.rY)=some false
 je:zaA K (.ref t.aC) (.ref t.ou)=some false
 jU:zaA K (.ref t.aC) (.ref t.rZ)=some false
 hJ:zaA K (.ref t.aC) (.ref t.aC)=some true
 iN:zaA K (.ref t.aC) (.ref t.kZ)=some false
 hV:zaA K (.ref t.aC) (.ref t.i9)=some false
 gK:zaA K (.ref t.aC) (.ref t.gY)=some false
 A7:∃u,mg "END"=some u/\RelV (.int 0) u
 wC:∃u,mg "FIGURE_COUNT"=some u/\RelV (.int 10) u
 x8:∃u,mg "MOST_PLACES"=some u/\RelV (.int 2000) u
 wb:mg "len"=none
 iO:mg "range"=none
 GY:mg "int"=none
 sk:mg "dict"=none
 yc:mg "list"=none
 wY:mg "tuple"=none
 MH:mg "all"=none
 bh:mg "isinstance"=none
 lR:mg "enumerate"=none
 GZ:mg "zip"=none
 oy:mg "ValueError"=none
 C9:mg "set"=none
end SD
end
section
set_option maxHeartbeats 4000000
namespace SD
open PG
open PySem L2
local macro_rules | `(tactic|walk_at "rd")=>`(tactic|((try dsimp only[ JT,JC,JD,Q3,JG,Ys,Yq,JX,Ao,JS,Rj,BV,FD,Fw,JN,Ra,JH,Q9,Rb,NN,Q6,FL,PX,Kd,Ke,Kf,Kg,Kh,Ki,Kj,Kk,Kl,Km,FW,FX,FY,F1,F2,UI,Q5,JF,Hq,gE,PY,PZ,zbV,FN,FO,Ko,FR,FT,ED,EF,EG,FU,P0,UL,Kx,Kq,Kr,Yg,zcP,zcH,zaq,zbI,Ks,Kt,LG,LH,FP]);(try simp only[ JT,JC,JD,Q3,JG,Ys,Yq,JX,Ao,JS,Rj,BV,FD,Fw,JN,RB,RC,Ra,JH,Q9,Rb,NN,Q6,FL,PX,Kd,Ke,Kf,Kg,Kh,Ki,Kj,Kk,Kl,Km,FW,FX,FY,F1,F2,UI,Q5,JF,Hq,gE,tL,YB,PY,PZ,UJ,N4,Kn,RD,RE,zbV,FN,FO,Ko,FR,FT,ED,EF,EG,FU,P0,UL,Kx,Kq,Kr,Yg,zaM,zcP,zcH,N6,N7,true_and,and_true,zaq,zbI,N8,Ks,Kt,LG,LH,FP,Int.reduceLT,Int.reduceLE,Nat.reduceLeDiff,Nat.reduceAdd,and_self])))
local macro_rules | `(tactic|walk_at "x")=>`(tactic|first |rfl |exact .inl rfl |exact .inr rfl |decide |(intro _;rfl) |assumption)
section
variable{P:zdR}{w:zdH}{K:zaa}{mg:Str->Option zdG}{base:yaf}{t:Ad}
theorem Dc(l:vs.length=ss.length):(zaj ss.length).map (fun i=>((Sum.inl (ss.getD i (.stop 0)).row:Key),vs.getD i .eA))=jW ss vs:=by
 apply zcI
 .simp[jW,l]
 .intro i h1 h2;simp at h1;simp[jW,h1,l]
theorem A8{fl:List gy}{vs:List V}(l:vs.length=fl.length):(zaj fl.length).map (fun i=>((Sum.inl (fl.getD i (0,.stop,[])).1:Key),vs.getD i .eA))=zbd (fun r v=>(Sum.inl r.1,v)) fl vs:=by
 apply zcI
 .simp[l]
 .intro i h1 h2;simp at h1;simp[h1,l]
theorem Dd{fl:List gy}{vs:List V}(l:vs.length=fl.length):(zbd (fun r v=>((Sum.inl r.1:Key),v)) fl vs).map (·.1)=fl.map fun r=>(Sum.inl r.1:Key):=by
 apply zcI
 .simp[l]
 .intro i h1 h2;simp
theorem G0{fl:List gy}:∀{us:List V},aL K H (fl.map iY) us->∃ws:List V,ws.length=fl.length/\∀i (hi:i<fl.length),∃a q,us[i]?=some (.ref a)/\ws[i]?=some (.ref q)/\bH K H a [.int fl[i].1,.str (vT fl[i].2.1),.ref q]/\bH K H q (fl[i].2.2.map V.int):=by
 induction fl with
 |nil=>intro us _;exact⟨[],rfl,fun i hi=>by simp at hi⟩
 |cons r fl ih=>
  intro us h;have h0:=h;rw[zas,aL.aP] at h;obtain⟨v,tl,rfl,h1,h2⟩:=h;obtain⟨ws,l,hw⟩:=ih h2;obtain⟨a,q,e,s1,s2⟩:=K6 h0 (i:=0) (y:=v) rfl (by simp);refine⟨.ref q::ws,by simp[l],fun i hi=>?_⟩;cases i with
  |zero=>exact⟨a,q,by rw[e];rfl,rfl,s1,s2⟩
  |succ i=>
   obtain⟨a',q',e1,e2,e3,e4⟩:=hw i (by simpa using hi);exact⟨a',q',by simpa using e1,by simpa using e2,by simpa using e3,by simpa using e4⟩
theorem Ff(pw:(aE b).Pairwise fun a b=>a.row<b.row):((aR b 0).map fun r=>(Sum.inl r.1:Key)).Nodup:=by
 have e:(aR b 0).map (fun r=>(Sum.inl r.1:Key))=(aE b).map fun s=>(Sum.inl s.row:Key):=by
  have h:((aR b 0).map fun r=>(r.1,r.2.1))=(aE b).map fun x=>(x.row,x.wd):=by rw[fF,hX]
  have h2:=ybW (List.map fun r:Int×Wd=>(Sum.inl r.1:Key)) h;rw[zbe,zbe] at h2;exact h2
 rw[e];exact xp pw
theorem yd{bs:List sW}(r:Rep K H (.lst (bs.map vU)) (.ref B)):∃xs,iR K H B xs/\xs.length=bs.length/\∀i x,xs[i]?=some x->∃a,x=.ref a/\bH K H a [.str (S (bs.getD i ⟨[],0,0⟩).name),.int (bs.getD i ⟨[],0,0⟩).size,.int (bs.getD i ⟨[],0,0⟩).first]:=by
 rw[Rep.bG] at r;obtain⟨_,xs,e,q,rs⟩:=r;cases e;have lx:xs.length=bs.length:=by rw[rs.length,zac]
 refine⟨xs,q,lx,fun i x hx=>?_⟩;have li:i<bs.length:=by have:=(zap.mp hx).1;lia
 obtain⟨v,hv,rv⟩:=rs.get (i:=i) (d:=vU bs[i]) (by rw[zar,zad li];rfl);rw[hx] at hv;cases hv;have eg:bs.getD i ⟨[],0,0⟩=bs[i]:=by rw[zal,zad li];rfl
 rw[eg];simp only[vU,Rep.aT,aL.aP,aL.bQ,Rep.bN,Rep.bD] at rv;obtain⟨a,ys,rfl,hS,_,_,rfl,rfl,_,_,rfl,rfl,_,_,rfl,rfl,rfl⟩:=rv;exact⟨a,rfl,hS⟩
theorem su(h:(aB.map (·.1)).Nodup):nj [] aB=aB:=by
 have:=rN aB [] (by simpa using h);simpa using this
theorem yI(T:Tx K mg t)(bJ:bt P w K mg base fR 1 t.cH t.cA ["body", "behind"] (kh K))(bB:bt P w K mg base fR 6 t.bj t.bq ["body"] (jk K 4))(oA:bt P w K mg base fR 7 t.mi t.km ["program"] (vm K)) :
 bt P w K mg base fR 8 t.dI t.mm ["self", "program"] (F9 K t.aH):=by
 refine T.kA.qL qX (fun vs H Q E h=>?_) (fun eY A outer s H vs Q E hr h=>?_)
 .obtain⟨_,_,_,_,rfl,_⟩:=h;rfl
 obtain⟨p,dx,v,pr,rfl,hp,IL,rp,hd,hf,pw,nb,lb,q⟩:=h;have nd:=qX.nd;obtain⟨MI,ye,yf⟩:=T.A7;refine⟨_,[some (.ref p),some v,none,none],(aj (lC 2 nd (aJ aN (pv 1) ao aq))
 (aj (lC 3 nd (aJ aN (pv 1) ao aq))
 (aj (rK (pv 0) (eN (own:=["box"]) (ix:=[]) rfl (by rfl) (by rfl) (eM (pv 2)) (fun _ _ _ _=>(cK (i:=0) (by show List.Nodup (["box"]:List Str);decide +kernel) rfl (zaH rfl))) (fun _ _ _ _=>dZ) (fun _ _ _ _=>(aJ (ji (K:=K) rfl) (pv 0) ao aq))) rfl)
 (aj (rK (pv 0) (dP (rO rfl) rfl T.sk yb0 (ae (eN (own:=["box"]) (ix:=[]) rfl (by rfl) (by rfl) (eM (pv 2)) (fun _ _ _ _=>(cK (i:=0) (by show List.Nodup (["box"]:List Str);decide +kernel) rfl (zaH rfl))) (fun _ _ _ _=>dZ) (fun _ _ _ _=>(aV (ae (aJ (ji (K:=K) rfl) (pv 0) ao aq) (ae (aJ (ji (K:=K) rfl) (pv 0) ao aq) ai a7) a7)))) ai iy)) rfl)
 (aj (rK (pv 0) (aV (ae (lJ bJ T.eZ hr (eL 3 (ae (dq rfl ye yf) ai aD))) (ae (dP qI rfl T.wY yb9 (ae (eN (own:=["box"]) (ix:=[]) rfl (by rfl) (by rfl) (eM (pv 2)) (fun _ _ _ _=>(cK (i:=0) (by show List.Nodup (["box"]:List Str);decide +kernel) rfl (zaH rfl))) (fun _ _ _ _=>dZ) (fun _ _ _ _=>(aJ (ji (K:=K) rfl) (pv 0) ao aq))) ai iy)) ai ba) ba)) rfl)
 (aj (rK (pv 0) (dP (rO rfl) rfl T.sk yb0 (ae (eN (own:=["statement"]) (ix:=[]) rfl (by rfl) (by rfl) (eM (lJ bB T.fE hr (eL 3 ai))) (fun _ _ _ _=>(cK (i:=0) (by show List.Nodup (["statement"]:List Str);decide +kernel) rfl (zaH rfl))) (fun _ _ _ _=>dZ) (fun _ _ _ _=>(aV (ae (aJ (ji (K:=K) rfl) (pv 0) ao aq) (eL 0 ai) a7)))) ai iy)) rfl)
 (aA (rK (pv 0) (dP (rO rfl) rfl T.sk yb0 (ae (eN (own:=["told"]) (ix:=[]) rfl (by rfl) (by rfl) (eM (lJ oA T.A4 hr (eL 1 ai))) (fun _ _ _ _=>(cK (i:=0) (by show List.Nodup (["told"]:List Str);decide +kernel) rfl (zaH rfl))) (fun _ _ _ _=>dZ) (fun _ _ _ _=>(aV (ae (aJ (ji (K:=K) rfl) (pv 0) ao aq) (ae (aJ (ji (K:=K) rfl) (pv 0) ao aq) ai a7) a7)))) ai iy)) rfl)))))))),rfl,?_⟩
 have line:zdN=2 ^ 24:=rfl;have ZI:=rp;unfold iX at ZI;rw[Rep.aT] at ZI;obtain⟨pa,pxs,rfl,hpx,Tz⟩:=ZI;rw[aL.aP] at Tz;obtain⟨v1,t1,rfl,av,Tz⟩:=Tz;rw[aL.aP] at Tz;obtain⟨v2,t2,rfl,aw,Tz⟩:=Tz;obtain⟨bb,_,rfl,_⟩:=Rep.bG.mp aw;obtain⟨bx,_,rfl,_⟩:=Rep.bG.mp av;refine ay fun U1 fQ=>?_;walk_at "rd";refine aI hpx (v:=.ref bx) (az (j:=0) rfl) ((fQ _ _).mpr (ay fun U2 iq=>?_));clear fQ;walk_at "rd";refine aI hpx (v:=.ref bb) (az (j:=1) rfl) ((iq _ _).mpr (ay fun U3 lE=>?_));clear iq;walk_at "rd";simp only[BV,fS];walk_at "rd";obtain⟨xs1,Xi,lx1,g1⟩:=yd av;refine⟨⟨_,Xi⟩,fun D1 hD1=>qg (K:=K) (r:=[]) (fun i=>.str (S (pr.aF.getD i ⟨[],0,0⟩).name)) Xi (by lia) hD1 (fun i x H2 hx s2 R hR=>?_) (fun H2 s2 h2=>⟨p,_,dx,[],rfl,s2 _ _ hp,T.cU,T.gb,by decide,(lE _ _).mpr (ay fun U4 uW=>?_)⟩)⟩
 .obtain⟨a,rfl,ha⟩:=g1 i x hx;walk_at "rd";exact aI (s2.cO ha) (v:=.str (S (pr.aF.getD i ⟨[],0,0⟩).name)) (az (j:=0) rfl) hR
 clear lE;rw[lx1,mI (fun b:sW=>V.str (S b.name))] at h2;have sV:=s2 _ _ hp;have n1:D1≠p:=(ag hp hD1).symm;have u3:bR (·=p) H (upd H2 p (.ins t.aH dx [("names",.ref D1)])):=(bR.of s2).trans (bR.refl.put (O:=(·=p)) rfl _);have QG:(upd H2 p (.ins t.aH dx [("names",.ref D1)])) p=some (.ins t.aH dx [("names",.ref D1)]):=ah;have d1:(upd H2 p (.ins t.aH dx [("names",.ref D1)])) D1=some (.lst (pr.aF.map fun b=>.str (S b.name))):=by rw[au n1];exact h2
 rw[show iu (zab "names") (V.ref D1) []=[(zab "names",V.ref D1)] from rfl];generalize upd H2 p (.ins t.aH dx [("names",.ref D1)])=H3 at *;walk_at "rd";simp only[BV,fS];walk_at "rd";have pr3:=qf hp u3 _ _ av;obtain⟨xs3,hx3,lx3,g3⟩:=yd pr3;refine⟨⟨_,hx3⟩,fun D2 ZJ=>rP (K:=K) (r:=[]) (fun i=>(.inr (S (pr.aF.getD i ⟨[],0,0⟩).name),.int (pr.aF.getD i ⟨[],0,0⟩).size)) hx3 (by lia) ZJ (fun i x H2 hx s2 R hR=>?_) (fun ps H4 s4 h4 F8 ep=>⟨D2,ps,rfl,.of h4,fun q hq=>.of (F8 q hq),?_,fun D3 hD3=>⟨p,_,dx,_,rfl,ar.new hD3 _ _ _ (s4 _ _ QG),T.cU,T.gg,by simp,(uW _ _).mpr (ay fun U5 zX=>?_)⟩⟩)⟩
 .obtain⟨a,rfl,ha⟩:=g3 i x hx;walk_at "rd";exact aI (s2.cO ha) (v:=.str (S (pr.aF.getD i ⟨[],0,0⟩).name)) (az (j:=0) rfl) (aI (s2.cO ha) (v:=.int (pr.aF.getD i ⟨[],0,0⟩).size) (az (j:=1) rfl) hR)
 .have:=ybW zbg ep;simp only[zac,zaJ] at this;lia
 clear uW;have ek:ps.map (fun q=>(q.2.1,q.2.2))=pr.aF.map fun b=>(Sum.inr (S b.name),V.int b.size):=by
  rw[show (fun q:zdF×Key×V=>(q.2.1,q.2.2))=(·.2) from rfl,ep,lx3,mI (fun b:sW=>((Sum.inr (S b.name):Key),V.int b.size))]
 have nk:((pr.aF.map fun b=>((Sum.inr (S b.name):Key),V.int b.size)).map (·.1)).Nodup:=by
  rw[zbe];refine zaL.mpr ((zaL.mp nb).imp fun {a b} BD e=>BD ?_);exact xj.mp (Sum.inr.inj e)
 rw[ek,su nk,show iu (zab "sizes") (V.ref D3) [(zab "names",V.ref D1)]=[(zab "names",V.ref D1),(zab "sizes",V.ref D3)] from rfl];have s4':=s4.trans (ar.new hD3 (.dK (pr.aF.map fun b=>(Sum.inr (S b.name),V.int b.size))));have d3:(upd H4 D3 (.dK (pr.aF.map fun b=>(Sum.inr (S b.name),V.int b.size)))) D3=some (.dK (pr.aF.map fun b=>(Sum.inr (S b.name),V.int b.size))):=ah;generalize upd H4 D3 (.dK (pr.aF.map fun b=>(Sum.inr (S b.name),V.int b.size)))=H5 at *;have n3:D3≠p:=bz d3 (s4' _ _ QG) (by intro z;cases z);have u6:bR (·=p) H3 (upd H5 p (.ins t.aH dx [(zab "names",V.ref D1),(zab "sizes",V.ref D3)])):=(bR.of s4').trans (bR.refl.put (O:=(·=p)) rfl _);have MJ:(upd H5 p (.ins t.aH dx [(zab "names",V.ref D1),(zab "sizes",V.ref D3)])) p=some (.ins t.aH dx [(zab "names",V.ref D1),(zab "sizes",V.ref D3)]):=ah;have d3:(upd H5 p (.ins t.aH dx [(zab "names",V.ref D1),(zab "sizes",V.ref D3)])) D3=some (.dK (pr.aF.map fun b=>(Sum.inr (S b.name),V.int b.size))):=by rw[au n3];exact d3
 generalize upd H5 p (.ins t.aH dx [(zab "names",V.ref D1),(zab "sizes",V.ref D3)])=H6 at *;have d1:=u6 _ _ n1 d1;have u6:=u3.trans u6;have pr6:=qf hp u6 _ _ av;have pb6:=qf hp u6 _ _ aw;walk_at "rd";simp only[BV,fS];walk_at "rd";have lbd:=mG pr.body;obtain⟨xs6,hx6,lx6,g6⟩:=yd pr6;refine⟨bb,pr.body,0,rfl,pb6,by lia,⟨_,hx6⟩,fun D4 hD4=>qg (K:=K) (r:=[]) (fun i=>.int (pr.aF.getD i ⟨[],0,0⟩).first) hx6 (by lia) hD4 (fun i x H2 hx s2 R hR=>?_) (fun H7 s7 h7=>⟨D4,_,rfl,.inl ⟨.of h7,fun D5 hD5 D6 Xs=>⟨p,_,dx,_,rfl,ar.new Xs _ _ _ (ar.new hD5 _ _ _ (s7 _ _ MJ)),T.cU,T.gm,by simp,(zX _ _).mpr (ay fun U6 De=>?_)⟩⟩⟩)⟩
 .obtain⟨a,rfl,ha⟩:=g6 i x hx;walk_at "rd";exact aI (s2.cO ha) (v:=.int (pr.aF.getD i ⟨[],0,0⟩).first) (az (j:=2) rfl) hR
 clear zX;rw[show iu (zab "first") (V.ref D6) [(zab "names",V.ref D1),(zab "sizes",V.ref D3)]=[(zab "names",V.ref D1),(zab "sizes",V.ref D3),(zab "first",V.ref D6)] from rfl];rw[lx6,mI (fun b:sW=>V.int b.first)] at Xs ⊢;have s8:=s7.trans ((ar.new hD5 (.tup (pr.aF.map fun b=>V.int b.first))).trans (ar.new Xs (.tup [V.int (bU pr.body 0),V.ref D5])));have d5:(upd (upd H7 D5 (.tup (pr.aF.map fun b=>V.int b.first))) D6 (.tup [V.int (bU pr.body 0),V.ref D5])) D5=some (.tup (pr.aF.map fun b=>V.int b.first)):=ar.new Xs _ _ _ ah;have d6:(upd (upd H7 D5 (.tup (pr.aF.map fun b=>V.int b.first))) D6 (.tup [V.int (bU pr.body 0),V.ref D5])) D6=some (.tup [V.int (bU pr.body 0),V.ref D5]):=ah;generalize upd (upd H7 D5 (.tup (pr.aF.map fun b=>V.int b.first))) D6 (.tup [V.int (bU pr.body 0),V.ref D5])=H8 at *;have SE:=s8 _ _ MJ;have n5:D5≠p:=bz d5 SE (by intro z;cases z);have n6:D6≠p:=bz d6 SE (by intro z;cases z);have u9:bR (·=p) H6 (upd H8 p (.ins t.aH dx [(zab "names",V.ref D1),(zab "sizes",V.ref D3),(zab "first",V.ref D6)])):=(bR.of s8).trans (bR.refl.put (O:=(·=p)) rfl _);have Ny:(upd H8 p (.ins t.aH dx [(zab "names",V.ref D1),(zab "sizes",V.ref D3),(zab "first",V.ref D6)])) p=some (.ins t.aH dx [(zab "names",V.ref D1),(zab "sizes",V.ref D3),(zab "first",V.ref D6)]):=ah;have d5:(upd H8 p (.ins t.aH dx [(zab "names",V.ref D1),(zab "sizes",V.ref D3),(zab "first",V.ref D6)])) D5=some (.tup (pr.aF.map fun b=>V.int b.first)):=by rw[au n5];exact d5
 have d6:(upd H8 p (.ins t.aH dx [(zab "names",V.ref D1),(zab "sizes",V.ref D3),(zab "first",V.ref D6)])) D6=some (.tup [V.int (bU pr.body 0),V.ref D5]):=by rw[au n6];exact d6
 generalize upd H8 p (.ins t.aH dx [(zab "names",V.ref D1),(zab "sizes",V.ref D3),(zab "first",V.ref D6)])=H9 at *;have d1:=u9 _ _ n1 d1;have d3:=u9 _ _ n3 d3;have u9:=u6.trans u9;have pb9:=qf hp u9 _ _ aw;walk_at "rd";simp only[BV,fS];walk_at "rd";refine⟨bb,pr.body,H9,rfl,ar.refl _,pb9,by lia,hf,fun OU us H10 QH ZK Xt TB=>?_⟩;have sl:=Cb pr.body;have vB:us.length=(aE pr.body).length:=by rw[TB.length,zac]
 refine⟨OU,rfl,⟨_,.of Xt⟩,fun D7 hD7=>rP (K:=K) (r:=[]) (fun i=>(.inl ((aE pr.body).getD i (.stop 0)).row,us.getD i .eA)) (.of Xt) (by lia) hD7 (fun i x H2 hx s2 R hR=>?_) (fun ps H11 s11 Lq F8 ep=>⟨D7,ps,rfl,.of Lq,fun q hq=>.of (F8 q hq),?_,fun D8 hD8=>⟨p,_,dx,_,rfl,ar.new hD8 _ _ _ (s11 _ _ (QH _ _ Ny)),T.cU,T.cF,by simp,(De _ _).mpr ?_⟩⟩)⟩
 .have li:i<(aE pr.body).length:=by have:=(zap.mp hx).1;lia
  obtain⟨v',Nf,rv⟩:=TB.get (i:=i) (d:=jC (aE pr.body)[i]) (by rw[zar,zad li];rfl);rw[hx] at Nf;cases Nf;have e1:(aE pr.body).getD i (.stop 0)=(aE pr.body)[i]:=by rw[zal,zad li];rfl
  have e2:us.getD i .eA=x:=by rw[zal,hx];rfl
  rw[e1,e2] at hR;obtain⟨sa,ys,rfl,hs⟩:=iZ _ rv;walk_at "rd";exact aI ((QH.trans s2).cO hs) (v:=.int (aE pr.body)[i].row) (az (j:=1) rfl) hR
 .have:=ybW zbg ep;simp only[zac,zaJ] at this;lia
 clear De;have ek:ps.map (fun q=>(q.2.1,q.2.2))=jW (aE pr.body) us:=by
  rw[show (fun q:zdF×Key×V=>(q.2.1,q.2.2))=(·.2) from rfl,ep,vB,Dc vB]
 have nk:((jW (aE pr.body) us).map (·.1)).Nodup:=by
  rw[xn _ _ vB];exact xp pw
 rw[ek,su nk,show iu (zab "statements") (V.ref D8) [(zab "names",V.ref D1),(zab "sizes",V.ref D3),(zab "first",V.ref D6)]=[(zab "names",V.ref D1),(zab "sizes",V.ref D3),(zab "first",V.ref D6),(zab "statements",V.ref D8)] from rfl];have ZL:=(QH.trans s11).trans (ar.new hD8 (.dK (jW (aE pr.body) us)));have d8:(upd H11 D8 (.dK (jW (aE pr.body) us))) D8=some (.dK (jW (aE pr.body) us)):=ah;generalize upd H11 D8 (.dK (jW (aE pr.body) us))=Xu at *;have ZM:=ZL _ _ Ny;have n8:D8≠p:=bz d8 ZM (by intro z;cases z);have Jw:bR (·=p) H9 (upd Xu p (.ins t.aH dx [(zab "names",V.ref D1),(zab "sizes",V.ref D3),(zab "first",V.ref D6),(zab "statements",V.ref D8)])):=(bR.of ZL).trans (bR.refl.put (O:=(·=p)) rfl _);have SF:(upd Xu p (.ins t.aH dx [(zab "names",V.ref D1),(zab "sizes",V.ref D3),(zab "first",V.ref D6),(zab "statements",V.ref D8)])) p=some (.ins t.aH dx [(zab "names",V.ref D1),(zab "sizes",V.ref D3),(zab "first",V.ref D6),(zab "statements",V.ref D8)]):=ah;have d8:(upd Xu p (.ins t.aH dx [(zab "names",V.ref D1),(zab "sizes",V.ref D3),(zab "first",V.ref D6),(zab "statements",V.ref D8)])) D8=some (.dK (jW (aE pr.body) us)):=by rw[au n8];exact d8
 generalize upd Xu p (.ins t.aH dx [(zab "names",V.ref D1),(zab "sizes",V.ref D3),(zab "first",V.ref D6),(zab "statements",V.ref D8)])=H13 at *;have d1:=Jw _ _ n1 d1;have d3:=Jw _ _ n3 d3;have d5:=Jw _ _ n5 d5;have d6:=Jw _ _ n6 d6;have r13:=mH Ny Jw _ _ TB;have Jw:=u9.trans Jw;have ZN:=qf hp Jw _ _ rp;walk_at "rd";simp only[BV,fS];walk_at "rd";refine⟨_,pr,rfl,ZN,hd,hf,fun l14 fv H14 s14 afj y14 r14=>?_⟩;obtain⟨ws,ZO,hws⟩:=G0 r14;have lfv:fv.length=(aR pr.body 0).length:=by rw[r14.length,zac]
 have lfl:(aR pr.body 0).length=(aE pr.body).length:=by
  have h1:=ybW zbg (fF pr.body 0);rw[zac] at h1;lia
 refine⟨l14,rfl,⟨_,.of y14⟩,fun D9 hD9=>rP (K:=K) (r:=[]) (fun i=>(.inl ((aR pr.body 0).getD i (0,.stop,[])).1,ws.getD i .eA)) (.of y14) (by lia) hD9 (fun i x H2 hx s2 R hR=>?_) (fun ps H15 ZP h15 F8 ep=>⟨D9,ps,rfl,.of h15,fun q hq=>.of (F8 q hq),?_,fun SG SH=>⟨p,_,dx,_,rfl,ar.new SH _ _ _ (ZP _ _ (s14 _ _ SF)),T.cU,T.fJ,by simp,?_⟩⟩)⟩
 .have li:i<(aR pr.body 0).length:=by have:=(zap.mp hx).1;lia
  obtain⟨a,qq,e1,e2,q1,q2⟩:=hws i li;rw[hx] at e1;cases e1;have g1:(aR pr.body 0).getD i (0,.stop,[])=(aR pr.body 0)[i]:=by rw[zal,zad li];rfl
  have g2:ws.getD i .eA=V.ref qq:=by rw[zal,e2];rfl
  rw[g1,g2] at hR;walk_at "rd";exact aI (s2.cO q1) (v:=.int (aR pr.body 0)[i].1) (az (j:=0) rfl) (aI (s2.cO q1) (v:=.ref qq) (az (j:=2) rfl) hR)
 .have:=ybW zbg ep;simp only[zac,zaJ] at this;lia
 have ek:ps.map (fun q=>(q.2.1,q.2.2))=zbd (fun r v=>(Sum.inl r.1,v)) (aR pr.body 0) ws:=by
  rw[show (fun q:zdF×Key×V=>(q.2.1,q.2.2))=(·.2) from rfl,ep,lfv,A8 ZO]
 have nk:((zbd (fun r v=>((Sum.inl r.1:Key),v)) (aR pr.body 0) ws).map (·.1)).Nodup:=by
  rw[Dd ZO];exact Ff pw
 rw[ek,su nk,show iu (zab "ways") (V.ref SG) [(zab "names",V.ref D1),(zab "sizes",V.ref D3),(zab "first",V.ref D6),(zab "statements",V.ref D8)]=[(zab "names",V.ref D1),(zab "sizes",V.ref D3),(zab "first",V.ref D6),(zab "statements",V.ref D8),(zab "ways",V.ref SG)] from rfl];have s16:=(s14.trans ZP).trans (ar.new SH (.dK (zbd (fun r v=>(Sum.inl r.1,v)) (aR pr.body 0) ws)));have VS:=ZP.trans (ar.new SH (.dK (zbd (fun r v=>(Sum.inl r.1,v)) (aR pr.body 0) ws)));have d10:(upd H15 SG (.dK (zbd (fun r v=>(Sum.inl r.1,v)) (aR pr.body 0) ws))) SG=some (.dK (zbd (fun r v=>(Sum.inl r.1,v)) (aR pr.body 0) ws)):=ah;generalize upd H15 SG (.dK (zbd (fun r v=>(Sum.inl r.1,v)) (aR pr.body 0) ws))=H16 at *;have SI:=s16 _ _ SF;have n10:SG≠p:=bz d10 SI (by intro z;cases z);have put:∀fs,bR (·=p) H16 (upd H16 p (.ins t.aH dx fs)):=fun fs=>bR.refl.put (O:=(·=p)) rfl _;have uE:=fun fs=>(bR.of s16).trans (put fs);have uA:=fun fs=>Jw.trans (uE fs);refine q _ (fun b o n e=>uA _ b o n e) ⟨⟨dx,D1,D3,D6,D5,D8,SG,us,ws,ah,uA _ _ _ (bz IL hp (by intro z;cases z)) IL,uE _ _ _ n1 d1,uE _ _ _ n3 d3,uE _ _ _ n6 d6,uE _ _ _ n5 d5,vB,uE _ _ _ n8 d8,mH SF (uE _) _ _ r13,ZO,put _ _ _ n10 d10,fun i hi=>?_⟩⟩;obtain⟨a,qq,e1,e2,q1,q2⟩:=hws i hi;refine⟨qq,e2,?_⟩;have q2:=VS.cO q2;rcases q2 with (q2 |⟨o,q2⟩) |q2
 .exact .inl (.inl (put _ _ _ (bz q2 SI (by intro z;cases z)) q2))
 .exact .inl (.inr ⟨o,put _ _ _ (bz q2 SI (by intro z;cases z)) q2⟩)
 .exact .inr q2
theorem MK(T:Tx K mg t)(lT:bt P w K mg base fR n t.nX t.mU ["e", "values"] (Vh K n)) :
 bt P w K mg base fR (n+1) t.nX t.mU ["e", "values"] (Vh K (n+1)):=by
 refine T.kz.F.qL C5 (fun vs H Q E h=>?_) (fun eY A outer s H vs Q E hr h=>?_)
 .obtain⟨_,_,_,_,rfl,_⟩:=h;rfl
 obtain⟨v,d,tr,kv,rfl,hv,hd,ok,ht,h6,q⟩:=h;have nd:=C5.nd;have hu:=mD hr;refine⟨_,[some v,some (.ref d),none,none,none],(aj (lC 2 nd (aJ aN (pv 0) ao aq))
 (aj (bL (aW dO (pv 2) bo (aY _))
 (aA (aQ (aJ aN (pv 0) ao aq)))
 a8)
 (aj (bL (aW dO (pv 2) bo (aY _))
 (aA (aQ (jg hu (pv 1) (aJ aN (pv 0) ao aq) (fun _ _=>rfl))))
 a8)
 (aj (lC 3 nd (lJ lT T.kz hr (ae (aJ aN (pv 0) ao aq) (eL 1 ai) a7)))
 (aj (lC 4 nd (lJ lT T.kz hr (ae (aJ aN (pv 0) ao aq) (eL 1 ai) a7)))
 (aj (bL (aW dO (pv 2) bo (aY _))
 (aA (aQ (bg fK (pv 3) (pv 4))))
 a8)
 (aj (bL (aW dO (pv 2) bo (aY _))
 (aA (aQ (bg Ak (pv 3) (pv 4))))
 a8)
 (aA (aQ (bg N3 (pv 3) (pv 4))))))))))),rfl,?_⟩
 have n1:¬("box":Str) = "number":=by decide +kernel
 cases tr with
 |num m=>
  unfold wL at hv;simp only[Rep.aT,aL.aP,aL.bQ,Rep.bN,Rep.bD] at hv;obtain⟨a,xs,rfl,hS,_,_,rfl,rfl,_,_,rfl,rfl,rfl⟩:=hv;walk_at "rd";refine aI hS rfl ?_;walk_at "rd";rw[ybS trivial];exact aI hS rfl (q _ (ar.refl _))
 |box x=>
  unfold wL at hv;simp only[Rep.aT,aL.aP,aL.bQ,Rep.bN,Rep.bD] at hv;obtain⟨a,xs,rfl,hS,_,_,rfl,rfl,_,_,rfl,rfl,rfl⟩:=hv;walk_at "rd";refine aI hS rfl ?_;walk_at "rd";rw[ybR n1,ybS trivial];obtain⟨i,e,_⟩:=ok;have q:=q _ (ar.refl _);rw[gI,Lo e] at q;exact aI hS rfl ⟨d,.int i,rfl,wk.s hd e,q⟩
 |bin o l r=>
  unfold wL at hv;simp only[Rep.aT,aL.aP,aL.bQ,Rep.bN,Rep.bD] at hv;obtain⟨a,xs,rfl,hS,_,_,rfl,rfl,vl,_,rfl,hl,vr,_,rfl,hr',rfl⟩:=hv;obtain⟨ho,ol,or'⟩:=ok;have n2:¬S o = "number":=by rcases ho with rfl |rfl |rfl<;>decide +kernel
  have n3:¬S o = "box":=by rcases ho with rfl |rfl |rfl<;>decide +kernel
  have e1:(S o = "+")↔o=[43]:=by rw[show ("+":Str)=S [43] from rfl,xj]
  have e2:(S o = "-")↔o=[45]:=by rw[show ("-":Str)=S [45] from rfl,xj]
  walk_at "rd";refine aI hS rfl ?_;walk_at "rd";rw[ybR n2,ybR n3];have wl:=tS ol;have wr:=tS or';rw[sX] at ht h6;refine aI hS rfl ⟨vl,d,l,kv,rfl,hl,hd,ol,by lia,by lia,fun H1 s1=>?_⟩;refine aI (s1.cO hS) rfl ⟨vr,d,r,kv,rfl,hr'.mono s1,s1 _ _ hd,or',by lia,by lia,fun H2 s2=>?_⟩;walk_at "rd";have q:=q _ (s1.trans s2);rw[gI] at q;refine kM (fun c=>?_) (fun c=>?_)
  .rw[ybS (e1.mp c)] at q;exact q
  rw[ybR (fun z=>c (e1.mpr z))] at q;refine kM (fun c=>?_) (fun c=>?_)
  .rw[ybS (e2.mp c)] at q;exact q
  rw[ybR (fun z=>c (e2.mpr z))] at q;exact⟨⟨Lp wl (by lia),Lp wr (by lia)⟩,q⟩
theorem vJ(T:Tx K mg t):∀n,bt P w K mg base fR n t.nX t.mU ["e", "values"] (Vh K n)
 |0=>by
  have no:∀vs H Q E,¬Vh K 0 vs H Q E:=fun vs H Q E h=>by cases h;lia
  exact⟨fun vs H Q E h=>ybX h (no vs H Q E),fun A outer s H args us vs Q E _ _ _ _ h=>ybX h (no vs H Q E)⟩
 |n+1=>MK T (vJ T n)
theorem wc(T:Tx K mg t):bt P w K mg base fR 1 t.kX t.lO ["chart", "parts"] (zH K t.aH):=by
 refine T.k6.F.qL v8 (fun vs H Q E h=>?_) (fun eY A outer s H vs Q E hr h=>?_)
 .obtain⟨_,_,_,_,rfl,_⟩:=h;rfl
 obtain⟨p,a,pr,us,rfl,co,ha,lu,nb,lb,q⟩:=h;have nd:=v8.nd;refine⟨_,[some (.ref p),some (.ref a)],(aA (aQ (Ex rfl rfl T.sk rfl T.GZ (ae (dv (pv 0) rfl) (eL 1 ai) lF)))),rfl,?_⟩;obtain⟨dx,nl,sd,fa,va,st,wy,uu,ws,h1,h2,h3,_⟩:=co.at_;walk_at "rd";simp only[tDZ];walk_at "rd";refine⟨p,_,dx,_,.ref nl,rfl,h1,T.cU,T.gb,rfl,?_⟩;refine⟨nl,a,pr.aF.map fun b=>.inr (S b.name),us,rfl,?_,ha,by rw[zac];exact lu,fun d hd=>?_⟩
 .rw[zbe];exact .of h3
 .rw[xt,rN _ [] (by rw[zcP,vV _ _ lu];exact names_nodup nb),zcP];exact q d _ (ar.new hd _) hd ah
theorem Df(T:Tx K mg t):bt P w K mg base fR 1 t.kY t.lP ["chart", "named"] (zI K t.aH):=by
 refine T.ox.F.qL v9 (fun vs H Q E h=>?_) (fun eY A outer s H vs Q E hr h=>?_)
 .obtain⟨_,_,_,_,_,rfl,_⟩:=h;rfl
 obtain⟨p,d,pr,aB,us,rfl,co,hd,lu,hv,lb,q⟩:=h;have nd:=v9.nd;have hu:=mD hr;refine⟨_,[some (.ref p),some (.ref d)],(aA (aQ (dP qI rfl T.wY yb9 (ae (eN (own:=["name"]) (ix:=[1]) rfl (by rfl) (by rfl) (eM (dv (pv 0) rfl)) (fun _ _ _ _=>(cK (i:=0) (by show List.Nodup (["name", "named"]:List Str);decide +kernel) rfl (zaH rfl))) (fun _ _ _ _=>dZ) (fun _ _ _ _=>(jg hu (pv 1) (pv 0) (fun _ _=>rfl)))) ai iy)))),rfl,?_⟩;obtain⟨dx,nl,sd,fa,va,st,wy,uu,ws,h1,h2,h3,_⟩:=co.at_;walk_at "rd";simp only[fS];walk_at "rd";have ln:(pr.aF.map fun b=>V.str (S b.name)).length=pr.aF.length:=zac ..;refine⟨p,_,dx,_,.ref nl,rfl,h1,T.cU,T.gb,rfl,nl,rfl,⟨_,.of h3⟩,fun D hD=>?_⟩;refine qg (K:=K) (r:=[some (V.ref d)]) (fun i=>us.getD i .eA) (.of h3) (by rw[ln];lia) hD (fun i x H2 hx s2 R hR=>?_) (fun H2 s2 h2=>⟨D,_,rfl,.inl ⟨.of h2,fun l hl=>?_⟩⟩)
 .have li:i<pr.aF.length:=by have:=(zap.mp hx).1;rw[ln] at this;exact this
  rw[zar,zad li] at hx;cases hx;have g:=hv i li;have li2:i<us.length:=by lia
  rw[zad li2] at g;have e:us.getD i .eA=us[i]:=by rw[zal,zad li2];rfl
  rw[e] at hR;walk_at "rd";exact⟨d,us[i],rfl,wk.s (s2 _ _ hd) g,hR⟩
 .have e:(zaj (pr.aF.map fun b=>V.str (S b.name)).length).map (fun i=>us.getD i .eA)=us:=by
   rw[ln,<- lu];have:=mI (fun v:V=>v) V.eA us;rw[List.map_id'] at this;exact this
  rw[e];exact q l _ (s2.trans (ar.new hl _)) (.of ah)
theorem oB(T:Tx K mg t):bt P w K mg base fR 1 t.mV t.nY ["chart", "row"] (Cg K t.aH):=by
 refine T.ja.F.qL xV (fun vs H Q E h=>?_) (fun eY A outer s H vs Q E hr h=>?_)
 .obtain⟨_,_,_,rfl,_⟩:=h;rfl
 obtain⟨p,pr,row,rfl,co,pw,q⟩:=h;have nd:=xV.nd;have hu:=mD hr;obtain⟨MI,ye,yf⟩:=T.A7;refine⟨_,[some (.ref p),some (.int row)],(aj (bL (aW dO (pv 1) (dq rfl ye yf) (aY _))
 (aA (aQ bo))
 a8)
 (aA (aQ (aJ aN (jg hu (dv (pv 0) rfl) (pv 1) (fun _ _=>rfl)) ao aq)))),rfl,?_⟩
 obtain⟨dx,nl,sd,fa,va,st,wy,uu,ws,h1,h2,h3,h4,h5,h6,h7,h8,h9,_⟩:=co.at_;walk_at "rd";rcases q with ⟨rfl,q⟩ |⟨n0,i,hi,er,q⟩
 .exact(ybS rfl).mpr q
 .refine(ybR n0).mpr ⟨p,_,dx,_,.ref st,rfl,h1,T.cU,T.cF,rfl,?_⟩;have li:i<uu.length:=by lia
  obtain⟨v,hv,rv⟩:=h9.get (i:=i) (d:=jC (aE pr.body)[i]) (by rw[zar,zad hi];rfl);have g:=tR _ _ h7 pw i hi v hv;obtain⟨sa,ys,rfl,hs⟩:=iZ _ rv;rw[er] at g;exact⟨st,.ref sa,rfl,.inl ⟨_,.inl row,.inl h8,rfl,g.symm⟩,aI hs (v:=.str (vT (aE pr.body)[i].wd)) (az (j:=0) rfl) q⟩
theorem Dh(T:Tx K mg t):bt P w K mg base fR 4 t.uJ t.uK ["chart", "standing"] (Ga K t.aH):=by
 have sC:=wc (P:=P) (w:=w) (base:=base) T;have lT:=vJ (P:=P) (w:=w) (base:=base) T 3;refine T.uL.F.qL C6 (fun vs H Q E h=>?_) (fun eY A outer s H vs Q E hr h=>?_)
 .obtain⟨_,_,_,_,_,_,_,_,_,rfl,_⟩:=h;rfl
 obtain⟨p,sa,pr,vals,i,hi,sg,l,r,rfl,co,ok,⟨va,Pb,VT⟩,lv,cp,tl,tr,q⟩:=h;have nd:=C6.nd;have hu:=mD hr;refine⟨_,[some (.ref p),some (.ref sa),none,none,none,none],(aj (lC 2 nd (jg hu (dv (pv 0) rfl) (aJ aN (pv 1) ao aq) (fun _ _=>rfl)))
 (aj (lC 3 nd (lJ sC T.k6 hr (eL 0 (ae (aJ aN (pv 1) ao aq) ai a7))))
 (aj (lC 4 nd (lJ lT T.kz hr (ae (aJ aN (pv 2) ao aq) (eL 3 ai) a7)))
 (aj (lC 5 nd (lJ lT T.kz hr (ae (aJ aN (pv 2) ao aq) (eL 3 ai) a7)))
 (aj (bL (aW dO (aJ aN (pv 2) ao aq) bo (aY _))
 (aA (aQ (du Uj (pv 4) (pv 5) (aY _))))
 a8)
 (aA (aQ (du dO (pv 4) (pv 5) (aY _))))))))),rfl,?_⟩
 obtain⟨dx,nl,sd,fa,wa,st,wy,uu,ws,h1,h2,h3,h4,h5,h6,h7,h8,h9,_⟩:=co.at_;have li:i<uu.length:=by lia
 obtain⟨v,hv,rv⟩:=h9.get (i:=i) (d:=jC (aE pr.body)[i]) (by rw[zar,zad hi];rfl);have g:=tR _ _ h7 ok.pw i hi v hv;obtain⟨ta,w0,vl,vr,ys,rfl,hs,rl,rr⟩:=Ez rv cp;generalize (aE pr.body)[i]=sm at *;have e1:(V.str (S sg)=V.str (zab "<"))↔sg=[60]:=by rw[show (zab "<":Str)=S [60] from rfl,V.str.injEq,xj]
 refine ay fun U1 fQ=>?_;walk_at "rd";refine⟨p,_,dx,_,.ref st,rfl,h1,T.cU,T.cF,rfl,?_⟩;refine aI Pb (v:=.int sm.row) (az (j:=0) rfl) ⟨st,.ref ta,rfl,.inl ⟨_,.inl sm.row,.inl h8,rfl,g.symm⟩,(fQ _ _).mpr (ay fun U2 iq=>?_)⟩;clear fQ;walk_at "rd";refine aI Pb (v:=.ref va) (az (j:=1) rfl) ⟨p,va,pr,vals.map V.int,rfl,co,VT,by rw[zac];exact lv,ok.nb,ok.EA,fun d H2 s2 hd2 y2=>(iq _ _).mpr (ay fun U3 lE=>?_)⟩;clear iq;walk_at "rd";refine aI (s2.cO hs) (v:=vl) (az (j:=3) rfl) ⟨vl,d,l,_,rfl,rl.mono s2,y2,tl.1,by have:=tl.2;lia,by have:=tl.2;lia,fun H3 s3=>(lE _ _).mpr (ay fun U4 uW=>?_)⟩;clear lE;walk_at "rd";refine aI ((s2.trans s3).cO hs) (v:=vr) (az (j:=4) rfl) ⟨vr,d,r,_,rfl,rr.mono (s2.trans s3),s3 _ _ y2,tr.1,by have:=tr.2;lia,by have:=tr.2;lia,fun H4 s4=>(uW _ _).mpr ?_⟩;clear uW;have q:=q _ ((s2.trans s3).trans s4);unfold lZ at q;walk_at "rd";refine aI (((s2.trans s3).trans s4).cO hs) (v:=.str (S sg)) (az (j:=2) rfl) ⟨rfl,kM (fun e=>?_) (fun e=>?_)⟩
 .rw[ybS (e1.mp e)] at q;exact q
 .rw[ybR (fun z=>e (e1.mpr z))] at q;exact q
theorem qA(T:Tx K mg t):bt P w K mg base fR 5 t.dU t.eQ ["chart", "standing"] (zK K t.aH):=by
 have A9:=Dh (P:=P) (w:=w) (base:=base) T;have jf:=oB (P:=P) (w:=w) (base:=base) T;refine T.fg.F.qL jY (fun vs H Q E h=>?_) (fun eY A outer s H vs Q E hr h=>?_)
 .obtain⟨_,_,_,_,_,_,_,_,_,_,rfl,_⟩:=h;rfl
 obtain⟨p,sa,pr,vals,i,hi,hf,sg,l,r,rfl,co,ok,BI,lv,cp,tl,tr,w0,w1,q⟩:=h;have nd:=jY.nd;have hu:=mD hr;refine⟨_,[some (.ref p),some (.ref sa),none],(aj (lC 2 nd (aJ aN (pv 1) ao aq))
 (aj (bL (rJ (lJ A9 T.uL hr (eL 0 (eL 1 ai))))
 (aA (aQ (aV (ae (aJ aN (jg hu (dv (pv 0) rfl) (pv 2) (fun _ _=>rfl)) ao aq) (ae (aJ aN (pv 1) ao aq) ai a7) a7))))
 a8)
 (aj (bL (aW dO (lJ jf T.ja hr (eL 0 (eL 2 ai))) bo (aY _))
 (aA (aQ lU))
 a8)
 (aA (aQ (aV (ae (aJ aN (jg hu (dv (pv 0) rfl) (pv 2) (fun _ _=>rfl)) ao aq) (ae (aJ aN (pv 1) ao aq) ai a7) a7))))))),rfl,?_⟩
 obtain⟨va,Pb,VT⟩:=id BI;have afp:=ok.pos _ (zaw hi);refine ay fun U1 fQ=>?_;walk_at "rd";refine aI Pb (v:=.int (aE pr.body)[i].row) (az (j:=0) rfl) ((fQ _ _).mpr ?_);clear fQ;walk_at "rd";refine⟨p,sa,pr,vals,i,hi,sg,l,r,rfl,co,ok,BI,lv,cp,tl,tr,fun H2 s2=>?_⟩;obtain⟨dx,fs,wy,wq,g1,g2,g3,g4⟩:=(co.mono s2).way ok i hi hf;have qq:∀(j:Nat) (x:Int),(aR pr.body 0)[i].2.2[j]?=some x->Jm ((aR pr.body 0)[i].2.2.map V.int) (j:Int)=some (V.int x):=fun j x e=>az (by rw[zar,e];rfl);have back:∀(x:Int) (H3:Hp),ar H2 H3->∀pp,H3 pp=none->xu K (upd H3 pp (.tup [V.int x,V.ref va])) (some (x,vals)) (.ref pp):=fun x H3 s3 pp IM=>⟨pp,rfl,va,.of ah,((s2.trans s3).trans (ar.new IM _)).cO VT⟩
 unfold eF at q;rw[cp] at q;simp only at q;refine⟨_,rfl,kM (fun e=>?_) (fun e=>?_)⟩
 .rw[ybS e] at q;have e0:(aR pr.body 0)[i].2.2[0]?=some ((aR pr.body 0)[i].2.2.getD 0 0):=by rw[zal,zad w0];rfl
  refine⟨p,_,dx,fs,.ref wy,rfl,g1,T.cU,T.fJ,g2,wy,.ref wq,rfl,g3,aI g4 (v:=.int ((aR pr.body 0)[i].2.2.getD 0 0)) (qq 0 _ e0) (aI (s2.cO Pb) (v:=.ref va) (az (j:=1) rfl) fun pp IM=>?_)⟩;exact q _ _ (s2.trans (ar.new IM _)) (back _ _ (ar.refl _) pp IM)
 .rw[ybR e] at q;refine⟨p,pr,_,rfl,co.mono s2,ok.pw,.inr ⟨by lia,i,hi,rfl,rfl,kM (fun e2=>?_) (fun e2=>?_)⟩⟩
  .have ew:(aE pr.body)[i].wd=.dR:=(KZ _).mp e2;rw[ybS ew] at q;exact q _ _ s2 rfl
  .have ew:(aE pr.body)[i].wd≠.dR:=fun z=>e2 ((KZ _).mpr z);rw[ybR ew] at q;have w1:=w1 ew;have e1:(aR pr.body 0)[i].2.2[1]?=some ((aR pr.body 0)[i].2.2.getD 1 0):=by rw[zal,zad w1];rfl
   refine⟨p,_,dx,fs,.ref wy,rfl,g1,T.cU,T.fJ,g2,wy,.ref wq,rfl,g3,aI g4 (v:=.int ((aR pr.body 0)[i].2.2.getD 1 0)) (qq 1 _ e1) (aI (s2.cO Pb) (v:=.ref va) (az (j:=1) rfl) fun pp IM=>?_)⟩;exact q _ _ (s2.trans (ar.new IM _)) (back _ _ (ar.refl _) pp IM)
theorem G6:∀w:Wd,Uv (V.str (vT w)) [V.str (zab "must"),V.str (zab "if"),V.str (zab "while")]=decide (w=.dR\/w=.ifs\/w=.mF):=by
 intro w;cases w<;>decide +kernel
theorem Fg:∀w:Wd,(vT w=zab "ask")↔w=.ask:=by
 intro w;cases w<;>decide +kernel
theorem VU:∀w:Wd,(vT w=zab "put")↔w=.put:=by
 intro w;cases w<;>decide +kernel
theorem Pc:∀w:Wd,(vT w=zab "say")↔w=.say:=by
 intro w;cases w<;>decide +kernel
theorem xu.mono(h:xu K H o v)(s:ar H H'):xu K H' o v:=by
 cases o with
 |none=>exact h
 |some x=>obtain⟨a,e,sa⟩:=h;exact⟨a,e,sa.mono s⟩
theorem cond_of(h:st.wd=.dR\/st.wd=.ifs\/st.wd=.mF)(po:Lr bs vals st):∃sg l r,pJ st=some (sg,l,r)/\Ey bs vals l/\Ey bs vals r/\∀ws Nn,iV bs st ws vals Nn=(eF bs st ws vals,none):=by
 cases st<;>simp only[cJ.wd,reduceCtorEq,or_self,or_false,false_or] at h<;>exact⟨_,_,_,rfl,po.1,po.2,fun _ _=>rfl⟩
theorem SJ{st:cJ}(h:st.wd=.ask):∃k b,st=.ask k b:=by
 cases st<;>first |exact⟨_,_,rfl⟩ |cases h
theorem SK{st:cJ}(h:st.wd=.put):∃k b e,st=.put k b e:=by
 cases st<;>first |exact⟨_,_,_,rfl⟩ |cases h
theorem ML{st:cJ}(h:st.wd=.say):∃k e,st=.say k e:=by
 cases st<;>first |exact⟨_,_,rfl⟩ |cases h
theorem Pd{st:cJ}(h0:¬(st.wd=.dR\/st.wd=.ifs\/st.wd=.mF))(h1:st.wd≠.ask)(h2:st.wd≠.put)(h3:st.wd≠.say):∃k,st=.stop k:=by
 cases st<;>simp only[cJ.wd,reduceCtorEq,or_self,or_false,false_or,not_true,not_false_iff,ne_eq] at h0 h1 h2 h3<;>exact⟨_,rfl⟩
theorem IP{b:W}(h:Rep K H (jC (.ask k b)) v):∃a,v=.ref a/\bH K H a [.str "ask",.int k,.str (S b)]:=by
 simp only[jC,Rep.aT,aL.aP,aL.bQ,Rep.bN,Rep.bD] at h;obtain⟨a,ys,rfl,hS,_,_,rfl,rfl,_,_,rfl,rfl,_,_,rfl,rfl,rfl⟩:=h;exact⟨a,rfl,hS⟩
theorem IQ{b:W}(h:Rep K H (jC (.put k b e)) v):∃a u,v=.ref a/\bH K H a [.str "put",.int k,.str (S b),u]/\Rep K H (wL e) u:=by
 simp only[jC,Rep.aT,aL.aP,aL.bQ,Rep.bN,Rep.bD] at h;obtain⟨a,ys,rfl,hS,_,_,rfl,rfl,_,_,rfl,rfl,_,_,rfl,rfl,u,_,rfl,ru,rfl⟩:=h;exact⟨a,u,rfl,hS,ru⟩
theorem IS(h:Rep K H (jC (.say k e)) v):∃a u,v=.ref a/\bH K H a [.str "say",.int k,u]/\Rep K H (wL e) u:=by
 simp only[jC,Rep.aT,aL.aP,aL.bQ,Rep.bN,Rep.bD] at h;obtain⟨a,ys,rfl,hS,_,_,rfl,rfl,_,_,rfl,rfl,u,_,rfl,ru,rfl⟩:=h;exact⟨a,u,rfl,hS,ru⟩
theorem Am(vals:List Int)(j:Nat)(x:Int):(vals.map V.int).set j (.int x)=(vals.set j x).map V.int:=by
 rw[List.map_set]
theorem zY(bp:∀b∈bs,0<b.size)(x:W):0<ib bs x:=by
 unfold ib;cases e:bs[iU bs x]? with
 |none=>decide
 |some b=>exact bp b (zaD e)
theorem sF(T:Tx K mg t):bt P w K mg base fR 6 t.mW t.nZ ["chart", "standing", "figure"] (Cj K t.aH):=by
 have sI:=qA (P:=P) (w:=w) (base:=base) T;have sC:=wc (P:=P) (w:=w) (base:=base) T;have Fh:=Df (P:=P) (w:=w) (base:=base) T;have lT:=vJ (P:=P) (w:=w) (base:=base) T 3;refine T.jb.F.qL xW (fun vs H Q E h=>?_) (fun eY A outer s H vs Q E hr h=>?_)
 .obtain⟨_,_,_,_,_,_,_,_,_,rfl,_⟩:=h;rfl
 obtain⟨p,sa,fv,pr,vals,Nn,i,hi,hf,rfl,co,ok,bp,BI,lv,hfv,po,w0,w1,q⟩:=h;have nd:=xW.nd;have hu:=mD hr;refine⟨_,[some (.ref p),some (.ref sa),some fv,none,none,none,none,none],(aj (lC 3 nd (aJ aN (pv 1) ao aq))
 (aj (lC 4 nd (jg hu (dv (pv 0) rfl) (pv 3) (fun _ _=>rfl)))
 (aj (lC 5 nd (aJ aN (pv 4) ao aq))
 (aj (bL (aW zp (pv 5) (aV (cM (vs:=[.str "must",.str "if",.str "while"]) (by kernel_rfl))) rfl)
 (aA (aQ (aV (ae (lJ sI T.fg hr (eL 0 (eL 1 ai))) (ae lU ai aK) ba))))
 a8)
 (aj (lC 6 nd (lJ sC T.k6 hr (eL 0 (ae (aJ aN (pv 1) ao aq) ai a7))))
 (aj (lC 7 nd lU)
 (aj (bL (aW dO (pv 5) bo (aY _))
 (aA (FJ hu (pv 6) (aJ aN (pv 4) ao aq) (bg jP (pv 2) (jg hu (dv (pv 0) rfl) (aJ aN (pv 4) ao aq) (fun _ _=>rfl))) rfl))
 (aA (bL (aW dO (pv 5) bo (aY _))
 (aA (FJ hu (pv 6) (aJ aN (pv 4) ao aq) (bg jP (lJ lT T.kz hr (ae (aJ aN (pv 4) ao aq) (eL 6 ai) a7)) (jg hu (dv (pv 0) rfl) (aJ aN (pv 4) ao aq) (fun _ _=>rfl))) rfl))
 (aA (bL (aW dO (pv 5) bo (aY _))
 (aA (lC 7 nd (lJ lT T.kz hr (ae (aJ aN (pv 4) ao aq) (eL 6 ai) a7))))
 a8)))))
 (aA (aQ (aV (ae (aV (ae (aJ aN (jg hu (dv (pv 0) rfl) (pv 3) (fun _ _=>rfl)) ao aq) (ae (lJ Fh T.ox hr (eL 0 (eL 6 ai))) ai ba) a7)) (eL 7 ai) dQ))))))))))),rfl,?_⟩
 obtain⟨va,Pb,VT⟩:=id BI;obtain⟨dx,nl,sd,fa,va',st,wy,uu,ws,h1,h2,h3,h4,h5,h6,h7,h8,h9,_⟩:=co.at_;have li:i<uu.length:=by lia
 obtain⟨v,hv,rv⟩:=h9.get (i:=i) (d:=jC (aE pr.body)[i]) (by rw[zar,zad hi];rfl);have g:=tR _ _ h7 ok.pw i hi v hv;have sel:∃ta ds,v=.ref ta/\bH K H ta (.str (vT (aE pr.body)[i].wd)::ds):=by
  generalize (aE pr.body)[i]=sm at rv;cases sm<;>(rw[jC,Rep.aT] at rv;obtain⟨ta,ys,rfl,hs,rs⟩:=rv;rw[aL.aP] at rs;obtain⟨v0,t0,rfl,e0,rs⟩:=rs;rw[Rep.bN] at e0;subst e0;exact⟨ta,_,rfl,hs⟩)
 obtain⟨ta,ds,rfl,hs⟩:=sel;refine ay fun U1 fQ=>?_;walk_at "rd";refine aI Pb (v:=.int (aE pr.body)[i].row) (az (j:=0) rfl) ((fQ _ _).mpr (ay fun U2 iq=>?_));clear fQ;walk_at "rd";refine⟨p,_,dx,_,.ref st,rfl,h1,T.cU,T.cF,rfl,⟨st,.ref ta,rfl,.inl ⟨_,.inl _,.inl h8,rfl,g.symm⟩,(iq _ _).mpr (ay fun U3 lE=>?_)⟩⟩;clear iq;walk_at "rd";refine aI hs (v:=.str (vT (aE pr.body)[i].wd)) (az (j:=0) rfl) ((lE _ _).mpr ?_);clear lE;refine ay fun U4 uW=>?_;walk_at "rd";intro z hz;have sz:=ar.new hz (HO.tup [V.str (zab "must"),V.str (zab "if"),V.str (zab "while")]);refine⟨z,_,rfl,.inr (.of ah),rfl,rfl,_,rfl,kM (fun e=>?_) (fun e=>?_)⟩
 .have e:=e;simp only[zau,if_false,G6,decide_eq_true_eq] at e;obtain⟨sg,l,r,cp,tl,tr,es⟩:=cond_of e po;rw[es] at q;refine⟨p,sa,pr,vals,i,hi,hf,sg,l,r,rfl,co.mono sz,ok,BI.mono sz,lv,cp,tl,tr,w0,fun nm=>w1 (by rcases e with e |e |e;exact ybX e nm;exact .inl e;exact .inr e),fun v H2 s2 os pp IM=>?_⟩;exact q pp v _ ((sz.trans s2).trans (ar.new IM _)) (.of ah) (xu.mono os (ar.new IM _))
 have e0:=e;simp only[zau,if_false,G6,decide_eq_true_eq] at e0;refine(uW _ _).mpr (ay fun U5 zX=>?_);clear uW e;walk_at "rd";refine aI (sz.cO Pb) (v:=.ref va) (az (j:=1) rfl) ⟨p,va,pr,vals.map V.int,rfl,co.mono sz,sz.cO VT,by rw[zac];exact lv,ok.nb,ok.EA,fun d H2 s2' hd2 y2=>(zX _ _).mpr (ay fun U6 De=>?_)⟩;clear zX;have s2:=sz.trans s2';have hd:=sz.free hd2;walk_at "rd";refine(De _ _).mpr (ay fun U7 SM=>?_);clear De;have fin:∀(H5:Hp) (aB:List (Key×V)) (us:List Int) (sd:Option Int),ar H H5->H5 d=some (.dK aB)->us.length=pr.aF.length->(∀i (hi:i<pr.aF.length),cf aB (.inr (S pr.aF[i].name))=(us.map V.int)[i]?)->
  iV pr.aF (aE pr.body)[i] (aR pr.body 0)[i].2.2 vals Nn=(some ((aR pr.body 0)[i].2.2.getD 0 0,us),sd)->
  U7 [some (.ref p),some (.ref sa),some fv,some (.int (aE pr.body)[i].row),some (.ref ta),some (.str (vT (aE pr.body)[i].wd)),some (.ref d),some (Ql sd)] H5:=by
  intro H5 aB us sd' s5 hd5 lu look es;rw[es] at q;refine(SM _ _).mpr ?_;clear SM;walk_at "rd";obtain⟨dx,fs,wy,wq,g1,g2,g3,g4⟩:=(co.mono s5).way ok i hi hf;have e0:(aR pr.body 0)[i].2.2[0]?=some ((aR pr.body 0)[i].2.2.getD 0 0):=by rw[zal,zad w0];rfl
  have qq:Jm ((aR pr.body 0)[i].2.2.map V.int) ((0:Nat):Int)=some (V.int ((aR pr.body 0)[i].2.2.getD 0 0)):=az (by rw[zar,e0];rfl);refine⟨p,_,dx,fs,.ref wy,rfl,g1,T.cU,T.fJ,g2,wy,.ref wq,rfl,g3,aI g4 (v:=.int ((aR pr.body 0)[i].2.2.getD 0 0)) qq ?_⟩;refine⟨p,d,pr,aB,us.map V.int,rfl,co.mono s5,hd5,by rw[zac];exact lu,look,ok.EA,fun a H6 s6 sq p1 Ba p2 sV=>?_⟩;exact q p2 _ _ (((s5.trans s6).trans (ar.new Ba _)).trans (ar.new sV _)) (.of ah) ⟨p1,rfl,a,(ar.new sV _).cO (.of ah),((ar.new Ba _).trans (ar.new sV _)).cO sq⟩
 have VV:(eT pr.aF (vals.map V.int)).length<zdN:=by
  have line:zdN=2 ^ 24:=rfl;have:=ok.EA;unfold eT;rw[List.length_zipWith];lia
 have keep:∀i (hi:i<pr.aF.length),cf (eT pr.aF (vals.map V.int)) (.inr (S pr.aF[i].name))=(vals.map V.int)[i]?:=fun i hi=>by
  have li:i<(vals.map V.int).length:=by rw[zac];lia
  rw[mJ pr.aF (vals.map V.int) (by rw[zac];exact lv) ok.nb i hi _ (zad li),zad li]
 have put:∀(b:W),b∈pr.aF.map (·.name)->∀(x:Int),(wz pr.aF vals b x).length=pr.aF.length/\∀i (hi:i<pr.aF.length),cf (putK (eT pr.aF (vals.map V.int)) (.inr (S b)) (.int x)) (.inr (S pr.aF[i].name))=((wz pr.aF vals b x).map V.int)[i]?:=fun b hb x=>by
  refine⟨by unfold wz;rw[zdi];exact lv,fun i hi=>?_⟩;rw[EB (by rw[zac];exact lv) ok.nb hb,Am];rfl
 have VW:∀H3 o,ar H H3->ar H (upd H3 d o):=fun H3 o s3=>((bf.of s3:bf d H H3).put o).same hd;walk_at "rd";refine kM (fun e=>?_) (fun e=>?_)
 .obtain⟨k,b,Nz⟩:=SJ ((Fg _).mp e);have rv:=rv;rw[Nz] at rv po;obtain⟨_,ee,hT⟩:=IP rv;cases ee;have efv:=hfv ((Fg _).mp e);subst efv;obtain⟨l1,l2⟩:=put b po (Nn%ib pr.aF b);refine⟨p,_,dx,_,.ref sd,rfl,s2 _ _ h1,T.cU,T.gg,rfl,aI (s2.cO hT) (v:=.str (S b)) (az (j:=2) rfl) ⟨sd,.int (ib pr.aF b),rfl,.inl ⟨_,.inr (S b),.inl (s2 _ _ h4),rfl,(Ci ok.nb po).symm⟩,?_⟩⟩;refine⟨_,_,rfl,rfl,zY bp b,aI (s2.cO hT) (v:=.str (S b)) (az (j:=2) rfl) ⟨d,_,rfl,.inl ⟨_,.inr (S b),y2,rfl,VV,rfl⟩,?_⟩⟩;exact fin _ _ _ none (VW _ _ s2) ah l1 l2 (by rw[Nz];rfl)
 refine kM (fun e2=>?_) (fun e2=>?_)
 .obtain⟨k,b,tr,Nz⟩:=SK ((VU _).mp e2);have rv:=rv;rw[Nz] at rv po;obtain⟨_,u,ee,hT,ru⟩:=IQ rv;cases ee;obtain⟨l1,l2⟩:=put b po.1 (wv pr.aF vals tr%ib pr.aF b);refine aI (s2.cO hT) (v:=u) (az (j:=3) rfl) ⟨u,d,tr,_,rfl,ru.mono s2,y2,po.2.1,by have:=po.2.2;lia,by have:=po.2.2;lia,fun H3 VX=>?_⟩;have s3:=s2.trans VX;refine⟨p,_,dx,_,.ref sd,rfl,s3 _ _ h1,T.cU,T.gg,rfl,aI (s3.cO hT) (v:=.str (S b)) (az (j:=2) rfl) ⟨sd,.int (ib pr.aF b),rfl,.inl ⟨_,.inr (S b),.inl (s3 _ _ h4),rfl,(Ci ok.nb po.1).symm⟩,?_⟩⟩;refine⟨_,_,rfl,rfl,zY bp b,aI (s3.cO hT) (v:=.str (S b)) (az (j:=2) rfl) ⟨d,_,rfl,.inl ⟨_,.inr (S b),VX _ _ y2,rfl,VV,rfl⟩,?_⟩⟩;exact fin _ _ _ none (VW _ _ s3) ah l1 l2 (by rw[Nz];rfl)
 refine kM (fun e3=>?_) (fun e3=>?_)
 .obtain⟨k,tr,Nz⟩:=ML ((Pc _).mp e3);have rv:=rv;rw[Nz] at rv po;obtain⟨_,u,ee,hT,ru⟩:=IS rv;cases ee;refine aI (s2.cO hT) (v:=u) (az (j:=2) rfl) ⟨u,d,tr,_,rfl,ru.mono s2,y2,po.1,by have:=po.2;lia,by have:=po.2;lia,fun H3 VX=>?_⟩;exact fin _ _ _ (some _) (s2.trans VX) (VX _ _ y2) lv keep (by rw[Nz];rfl)
 obtain⟨k,Nz⟩:=Pd e0 (fun z=>e ((Fg _).mpr z)) (fun z=>e2 ((VU _).mpr z)) (fun z=>e3 ((Pc _).mpr z));exact fin _ _ _ none s2 y2 lv keep (by rw[Nz];rfl)
theorem VY:∀w:Wd,Uv (V.str (vT w)) [V.str (zab "put"),V.str (zab "if"),V.str (zab "while"),V.str (zab "stop")]=decide (w=.put\/w=.ifs\/w=.mF\/w=.stop):=by
 intro w;cases w<;>decide +kernel
theorem QI:∀w:Wd,(vT w=zab "must")↔w=.dR:=by
 intro w;cases w<;>decide +kernel
theorem MM(dr:bV pr)(hi:i<(aE pr.body).length)(hf:i<(aR pr.body 0).length) :
 dB pr ((aE pr.body)[i].row,vals)=if (aE pr.body)[i].wd=.ask then some (.ask ((aE pr.body)[i].row,vals)) else match iV pr.aF (aE pr.body)[i] (aR pr.body 0)[i].2.2 vals 0 with
  |(none,_)=>some .dR
  |(some y,some n)=>some (.say n y)
  |(some _,none)=>none:=by
 have QJ:(aE pr.body)[i].row≠0:=by have:=dr.ok.pos _ (zaw hi);lia
 unfold dB;rw[ybR QJ,xB dr.ok hi hf];have ea:vt pr.body (aE pr.body)[i].row=decide ((aE pr.body)[i].wd=.ask):=by unfold vt;rw[tT dr.ok.pw i hi]
 simp only[ea,decide_eq_true_eq]
 try rfl
theorem Bb(T:Tx K mg t):bt P w K mg base fR 5 t.jI t.kn ["chart", "standing"] (Cz K t.aH):=by
 have jf:=oB (P:=P) (w:=w) (base:=base) T;have A9:=Dh (P:=P) (w:=w) (base:=base) T;refine T.lQ.F.qL uv (fun vs H Q E h=>?_) (fun eY A outer s H vs Q E hr h=>?_)
 .obtain⟨_,_,_,_,rfl,_⟩:=h;rfl
 obtain⟨ch,sa,pr,⟨row,vals⟩,rfl,co,dr,BI,si,q⟩:=h;have nd:=uv.nd;refine⟨_,[some (.ref ch),some (.ref sa),none],(aj (lC 2 nd (lJ jf T.ja hr (eL 0 (ae (aJ aN (pv 1) ao aq) ai a7))))
 (aj (bL (aW dO (pv 2) bo (aY _))
 (aA (aQ (lJ A9 T.uL hr (eL 0 (eL 1 ai)))))
 a8)
 (aA (aQ (du zp (pv 2) (aV (cM (vs:=[.str "put",.str "if",.str "while",.str "stop"]) (by kernel_rfl))) rfl))))),rfl,?_⟩
 obtain⟨va,AB,BR⟩:=id BI;refine ay fun U1 fQ=>?_;walk_at "rd";refine aI AB (v:=.int row) (az (j:=0) rfl) ?_;rcases si.ok.row with h0 |⟨i,hi,er⟩
 .replace h0:row=0:=h0;subst h0;refine⟨ch,pr,0,rfl,co,dr.ok.pw,.inl ⟨rfl,(fQ _ _).mpr (ay fun U2 iq=>?_)⟩⟩;walk_at "rd";refine(ybR (by decide +kernel)).mpr ((iq _ _).mpr ?_);walk_at "rd";intro p hp;refine⟨p,_,rfl,.inr (.of ah),rfl,rfl,?_⟩;have:=q _ (ar.new hp (.tup [V.str (zab "put"),V.str (zab "if"),V.str (zab "while"),V.str (zab "stop")]));unfold dB at this;rw[ybS rfl] at this;rw[show (Uv (V.str (zab "end")) [V.str (zab "put"),V.str (zab "if"),V.str (zab "while"),V.str (zab "stop")])=false by decide +kernel];exact this
 replace er:(aE pr.body)[i].row=row:=er;subst er;have QJ:(aE pr.body)[i].row≠0:=by have:=dr.ok.pos _ (zaw hi);lia
 obtain⟨hf,ek,ew⟩:=kO pr.body i hi;obtain⟨po,so⟩:=AA si.ok.len dr.ok.nb si.ok.small (jh pr.body _ dr.own (zaw hi));rw[MM dr hi hf] at q;refine⟨ch,pr,_,rfl,co,dr.ok.pw,.inr ⟨QJ,i,hi,rfl,(fQ _ _).mpr (ay fun U2 iq=>?_)⟩⟩;clear fQ;walk_at "rd";refine kM (fun e=>?_) (fun e=>(iq _ _).mpr ?_)
 .have e:=(QI _).mp e;obtain⟨sg,l,r,cp,tl,tr,es⟩:=cond_of (.inl e) po;refine⟨ch,sa,pr,vals,i,hi,sg,l,r,rfl,co,dr.ok,BI,si.ok.len,cp,tl,tr,fun H' s'=>?_⟩;rw[ybR (by rw[e];decide),es] at q;have:=q H' s';unfold eF at this;simp only[cp] at this;cases hc:lZ sg (wv pr.aF vals l) (wv pr.aF vals r) with
  |true=>rw[hc,ybS rfl] at this;exact this
  |false=>rw[hc,ybR zam,ybS e] at this;exact this
 .have e:(aE pr.body)[i].wd≠.dR:=fun z=>e ((QI _).mpr z);walk_at "rd";intro p hp;refine⟨p,_,rfl,.inr (.of ah),rfl,rfl,?_⟩;have:=q _ (ar.new hp (.tup [V.str (zab "put"),V.str (zab "if"),V.str (zab "while"),V.str (zab "stop")]));rw[VY];have eo:(if (aE pr.body)[i].wd=.ask then some (Sn.ask ((aE pr.body)[i].row,vals)) else match iV pr.aF (aE pr.body)[i] (aR pr.body 0)[i].2.2 vals 0 with
   |(none,_)=>some Sn.dR
   |(some y,some n)=>some (.say n y)
   |(some _,none)=>none).isNone=decide ((aE pr.body)[i].wd=.put\/(aE pr.body)[i].wd=.ifs\/(aE pr.body)[i].wd=.mF\/(aE pr.body)[i].wd=.stop):=by
   generalize (aE pr.body)[i]=sm at *;cases sm with
   |ask=>rfl
   |put=>rfl
   |say=>rfl
   |dR=>exact ybX rfl e
   |stop=>rfl
   |ifs k sg l r a b=>
    simp only[iV,eF,pJ,cJ.wd];cases lZ sg (wv pr.aF vals l) (wv pr.aF vals r)<;>rfl
   |mF k sg l r a=>
    simp only[iV,eF,pJ,cJ.wd];cases lZ sg (wv pr.aF vals l) (wv pr.aF vals r)<;>rfl
  rw[<- eo];exact this
theorem Fi(T:Tx K mg t):bt P w K mg base fR 7 t.mX t.oh ["chart", "standing"] (CA K t.aH):=by
 have jf:=oB (P:=P) (w:=w) (base:=base) T;have kI:=sF (P:=P) (w:=w) (base:=base) T;refine T.qr.F.qL xY (fun vs H Q E h=>?_) (fun eY A outer s H vs Q E hr h=>?_)
 .obtain⟨_,_,_,_,_,rfl,_⟩:=h;rfl
 obtain⟨ch,sa,pr,⟨row,vals⟩,x,rfl,co,dr,BI,si,ob,q⟩:=h;have nd:=xY.nd;refine⟨_,[some (.ref ch),some (.ref sa),none,none],(aj (lC 2 nd (lJ jf T.ja hr (eL 0 (ae (aJ aN (pv 1) ao aq) ai a7))))
 (aj (bL (aW dO (pv 2) bo (aY _))
 (aA (aQ (aV (ae (aV (ae bo ai aK)) (eL 1 ai) dQ))))
 a8)
 (aj (bL (aW dO (pv 2) bo (aY _))
 (aj (lC 3 nd (lJ kI T.jb hr (eL 0 (eL 1 (ae lU ai aK)))))
 (aA (aQ (aV (ae (aV (ae bo (ae (aJ aN (pv 3) ao aq) ai a7) aK)) (ae (aJ aN (pv 3) ao aq) ai a7) dQ)))))
 a8)
 (aA (aQ (aV (ae (aV (eL 2 ai)) (ae lU ai aK) dQ))))))),rfl,?_⟩
 obtain⟨va,AB,BR⟩:=id BI;refine ay fun U1 fQ=>?_;walk_at "rd";refine aI AB (v:=.int row) (az (j:=0) rfl) ?_;rcases si.ok.row with h0 |⟨i,hi,er⟩
 .replace h0:row=0:=h0;subst h0;have ex:x=.fin:=by
   unfold dB at ob;rw[ybS rfl] at ob;cases ob;rfl
  subst ex;refine⟨ch,pr,0,rfl,co,dr.ok.pw,.inl ⟨rfl,(fQ _ _).mpr (ay fun U2 iq=>?_)⟩⟩;walk_at "rd";refine(ybR (by decide +kernel)).mpr ((iq _ _).mpr (ay fun U3 lE=>?_));walk_at "rd";refine(ybR (by decide +kernel)).mpr ((lE _ _).mpr ?_);walk_at "rd";intro p hp p2 sV;have s1:=ar.new hp (.tup [V.str (zab "end")]);have s2:=ar.new sV (.tup [V.ref p,V.eA]);refine q _ _ (s1.trans s2) (Rep.aT.mpr ⟨p2,_,rfl,.of ah,.cons (Rep.aT.mpr ⟨p,_,rfl,.of (s2 _ _ ah),.cons (Rep.bN.mpr rfl) .nil⟩) (.cons (Rep.kg.mpr rfl) .nil)⟩)
 replace er:(aE pr.body)[i].row=row:=er;subst er;have QJ:(aE pr.body)[i].row≠0:=by have:=dr.ok.pos _ (zaw hi);lia
 obtain⟨hf,ek,ew⟩:=kO pr.body i hi;obtain⟨w0,w1⟩:=hZ pr.body 0 _ (zaw hf);rw[ew] at w1;obtain⟨po,so⟩:=AA si.ok.len dr.ok.nb si.ok.small (jh pr.body _ dr.own (zaw hi));have bp:∀b∈pr.aF,0<b.size:=fun b hb=>by have:=dr.size b hb;lia
 rw[MM dr hi hf] at ob;refine⟨ch,pr,_,rfl,co,dr.ok.pw,.inr ⟨QJ,i,hi,rfl,(fQ _ _).mpr (ay fun U2 iq=>?_)⟩⟩;clear fQ;walk_at "rd";refine kM (fun e=>?_) (fun e=>(iq _ _).mpr (ay fun U3 lE=>?_))
 .have e:=(Fg _).mp e;rw[ybS e] at ob;cases ob;intro p hp p2 sV;have s1:=ar.new hp (.tup [V.str (zab "ask")]);have s2:=ar.new sV (.tup [V.ref p,V.ref sa]);exact q _ _ (s1.trans s2) (Rep.aT.mpr ⟨p2,_,rfl,.of ah,.cons (Rep.aT.mpr ⟨p,_,rfl,.of (s2 _ _ ah),.cons (Rep.bN.mpr rfl) .nil⟩) (.cons (Gb (BI.mono (s1.trans s2))) .nil)⟩)
 clear iq;have e:(aE pr.body)[i].wd≠.ask:=fun z=>e ((Fg _).mpr z);rw[ybR e] at ob;walk_at "rd";refine kM (fun e2=>?_) (fun e2=>(lE _ _).mpr ?_)
 .have e2:=(Pc _).mp e2;obtain⟨k,ee,es⟩:=ML e2;refine⟨ch,sa,.eA,pr,vals,0,i,hi,hf,rfl,co,dr.ok,bp,BI,si.ok.len,fun z=>ybX z e,po,w0,w1,fun q1 sv H2 s2 k1 o1=>?_⟩;rw[es] at ob k1 o1;simp only[iV] at ob k1 o1;cases ob;obtain⟨ya,rfl,SN⟩:=o1;refine aI k1 (az (j:=1) rfl) fun p hp=>?_;have s3:=ar.new hp (.tup [V.str (zab "say"),V.int (wv pr.aF vals ee)]);refine aI (s3.cO k1) (az (j:=0) rfl) fun p2 sV=>?_;have s4:=ar.new sV (.tup [V.ref p,V.ref ya]);exact q _ _ (s2.trans (s3.trans s4)) (Rep.aT.mpr ⟨p2,_,rfl,.of ah,.cons (Rep.aT.mpr ⟨p,_,rfl,.of (s4 _ _ ah),.cons (Rep.bN.mpr rfl) (.cons (Rep.bD.mpr rfl) .nil)⟩) (.cons (Gb (SN.mono (s3.trans s4))) .nil)⟩)
 .have e2:(aE pr.body)[i].wd≠.say:=fun z=>e2 ((Pc _).mpr z);have em:(aE pr.body)[i].wd=.dR/\x=.dR:=by
   generalize (aE pr.body)[i]=sm at *;cases sm with
   |ask=>exact ybX rfl e
   |put=>cases ob
   |say=>exact ybX rfl e2
   |dR k sg l r=>
    refine⟨rfl,?_⟩;simp only[iV,eF,pJ,cJ.wd] at ob;cases hc:lZ sg (wv pr.aF vals l) (wv pr.aF vals r)<;>rw[hc] at ob<;>cases ob
    rfl
   |stop=>cases ob
   |ifs k sg l r a b=>
    simp only[iV,eF,pJ,cJ.wd] at ob;cases hc:lZ sg (wv pr.aF vals l) (wv pr.aF vals r)<;>rw[hc] at ob<;>cases ob
   |mF k sg l r a=>
    simp only[iV,eF,pJ,cJ.wd] at ob;cases hc:lZ sg (wv pr.aF vals l) (wv pr.aF vals r)<;>rw[hc] at ob<;>cases ob
  obtain⟨em,rfl⟩:=em;rw[em];walk_at "rd";intro p hp p2 sV;have s1:=ar.new hp (.tup [V.str (vT .dR)]);have s2:=ar.new sV (.tup [V.ref p,V.eA]);exact q _ _ (s1.trans s2) (Rep.aT.mpr ⟨p2,_,rfl,.of ah,.cons (Rep.aT.mpr ⟨p,_,rfl,.of (s2 _ _ ah),.cons (Rep.bN.mpr rfl) .nil⟩) (.cons (Rep.kg.mpr rfl) .nil)⟩)
theorem j4(T:Tx K mg t):bt P w K mg base fR 8 t.bw t.gJ ["self", "standing"] (CD P w K t.aH t.aX):=by
 have Di:=Bb (P:=P) (w:=w) (base:=base) T;have IT:=Fi (P:=P) (w:=w) (base:=base) T;have kI:=sF (P:=P) (w:=w) (base:=base) T;refine T.fh.qL j0 (fun vs H Q E h=>?_) (fun eY A outer s H vs Q E hr h=>?_)
 .obtain⟨_,_,_,_,_,rfl,_⟩:=h;rfl
 obtain⟨wt,sg,sa,pr,s0,rfl,wo,dr,BI,si,acq,q⟩:=h;have nd:=j0.nd;have hu:=mD hr;obtain⟨dx,ch,yg,hw,IL,co,dsg,ZQ⟩:=wo;refine⟨_,[some (.ref wt),some (.ref sa),none,none,none,none],(aj (lC 2 nd (xx (J:=qi)))
 (aj (lC 3 nd (pv 1))
 (aj (w6 yaG (PW.pt (pw_and (aW (qh (J:=qi) (Io hr)) (pv 3) (dv (pv 0) rfl) rfl) (pw_and (aW (qh (J:=qi) (Io hr)) (pv 3) (pv 2) rfl) (pw_and1 (rJ (lJ Di T.lQ hr (ae (dv (pv 0) rfl) (eL 3 ai) lF)))))))
 (aj (tU (J:=qi) (Io hr) (pv 2) (pv 3) o8 rfl)
 (aA (lC 3 nd (aJ aN (lJ kI T.jb hr (ae (dv (pv 0) rfl) (eL 3 (ae lU ai aK)) lF)) ao aq)))))
 (aj (bL (aW (Lz (J:=qi) (Io hr)) (pv 3) (dv (pv 0) rfl) rfl)
 (aA (lC 4 nd (Co (J:=qi) (Io hr) (dv (pv 0) rfl) (pv 3) fM)))
 (aA (bL (aW (Lz (J:=qi) (Io hr)) (pv 3) (pv 2) rfl)
 (aA (lC 4 nd (aV (ae (aV (ae bo ai aK)) (ae lU ai aK) dQ))))
 (aA (lC 4 nd (lJ IT T.qr hr (ae (dv (pv 0) rfl) (eL 3 ai) lF)))))))
 (aj (kJ yaG rfl (xH (J:=qi) (pv 2)) (Jr 5 nd)
 (aA (tU (J:=qi) (Io hr) (dv (pv 0) rfl) (pv 5) (pv 4) rfl)))
 (aj (tU (J:=qi) (Io hr) (dv (pv 0) rfl) (pv 3) (pv 4) rfl)
 (aA (aQ (pv 4))))))))),rfl,?_⟩
 have line:zdN=2 ^ 24:=rfl;refine ay fun U1 fQ=>?_;walk_at "rd";intro D hD yD;refine(fQ _ _).mpr (ay fun U2 iq=>?_);clear fQ;have d1:=EE (J:=qi) (P:=P) (w:=w) (K:=K) (H:=H) yD;have s1:=ar.new hD (.ext (iA qi P w D []));generalize upd H D (.ext (iA qi P w D []))=H1 at *;walk_at "rd";refine(iq _ _).mpr (ay fun U3 lE=>?_);clear iq;obtain⟨φD,eD⟩:=d1.oY;obtain⟨φg,eg⟩:=dsg.oY;have Xv:sg≠D:=ag eg hD;have Xw:wt≠D:=ag hw hD;have ZR:wt≠sg:=bz hw eg (by intro z;cases z);have VZ:=co.mono s1;have V0:=dsg.mono s1;have ZS:=BI.mono s1;have Fj:=s1 _ _ hw;have ZT:=s1 _ _ IL;have ZU:=ZQ.mono s1;have ndD:dx≠D:=ag IL hD;have ndg:dx≠sg:=bz IL eg (by intro z;cases z);have fin:∀(ha:zdF) (cur:fD) (gone:List fD) (Hx:Hp),bf D H1 Hx->DS qi P w K Hx D (qQ gone)->df K Hx ha cur.1 cur.2->cY pr cur->gone.length<=dh pr->(s0∈gone\/s0=cur)->(∀g∈gone,cY pr g/\dB pr g=none/\lK pr g=lK pr cur/\(nK pr g∈gone\/nK pr g=cur))->((cf yg (ik cur)).isSome=true\/cur∈gone\/∃x,dB pr cur=some x)->U3 [some (.ref wt),some (.ref sa),some (.ref D),some (.ref ha),none,none] Hx:=by
  intro ha cur gone Hx ux dD stx six EA TC es hc;have e0:lK pr s0=lK pr cur:=TC.elim (fun h=>(es _ h).2.2.1) fun h=>by rw[h]
  have TF:DS qi P w K Hx sg yg:=V0.other eD Xv ux;have SO:=ZU.ext eD ux;have V5:=ux _ _ ndD ZT;have QK:=ux _ _ Xw Fj;have V6:=VZ.ext eD ux;have kD:∀b o,H b=some o->Hx b=some o:=fun b o e=>ux b o (ag e hD) (s1 b o e);refine(lE _ _).mpr (ay fun U4 uW=>?_);clear lE;have keep:∀(v:V) (Hy:Hp),ar Hx Hy->Rep K Hy (EO (lK pr cur)) v->U4 [some (.ref wt),some (.ref sa),some (.ref D),some (.ref ha),some v,none] Hy:=by
   intro v Hy sy rv;have dDy:=dD.mono sy;have dgy:=TF.mono sy;have ZV:=SO.mono sy;have coy:=V6.mono sy;have ZW:=sy _ _ V5;have hwy:=sy _ _ QK;have SN:=stx.mono sy;have kDy:∀b o,H b=some o->Hy b=some o:=fun b o e=>sy _ _ (kD b o e);clear dD TF QK V6 stx ux SO V5;refine(uW _ _).mpr (ay fun U5 zX=>?_);clear uW;refine pL fun U hU=>?_;simp only[Gn];walk_at "rd";refine⟨D,_,rfl,dDy,fun o ps fz po=>hU _ _ ?_⟩;clear hU;obtain⟨φy,V7⟩:=dDy.oY;have uF:bf D Hy (upd Hy D (cQ D o)):=(bf.refl _ _).put _;have G9:∀a xs,bH K Hy a xs->bH K (upd Hy D (cQ D o)) a xs:=fun a xs h=>h.mL V7 uF;have yF1:(upd Hy D (cQ D o)) D=some (cQ D o):=ah;have rv1:=lI V7 uF _ _ rv;have SQ:=uF _ _ Xw hwy;have dg1:=dgy.other V7 Xv uF;have ZX:=ZV.ext V7 uF;have ZY:=coy.ext V7 uF;have ZZ:=uF _ _ ndD ZW;have Z0:df K (upd Hy D (cQ D o)) ha cur.1 cur.2:=by
    obtain⟨va,k1,k2⟩:=SN;exact⟨va,G9 _ _ k1,G9 _ _ k2⟩
   have kD1:∀b o',H b=some o'->(upd Hy D (cQ D o)) b=some o':=fun b o' e=>uF _ _ (ag e hD) (kDy b o' e);have lps:ps.length=gone.length:=by have:=yah po;rw[qQ,zac] at this;exact this.symm
   have Z1:∀i b w',ps[i]?=some (b,w')->∃g∈gone,qi.on K (upd Hy D (cQ D o)) (ik g) b:=fun i b w' hi=>by
    obtain⟨kv,QL,on,_⟩:=fG po hi;have hm:=zaD QL;unfold qQ at hm;obtain⟨g,hg,rfl⟩:=zae.mp hm;exact⟨g,hg,qi.up G9 on⟩
   generalize upd Hy D (cQ D o)=Hz at *;obtain⟨φz,TH⟩:=dg1.oY;obtain⟨Pv,qB,oC⟩:=Nq fun (i:Nat) (Y:St) (Hw:Hp) zq=>∀(z:Option V) (aB:List (bA×V)),Y=[some (.ref wt),some (.ref sa),some (.ref D),some (.ref ha),some v,z]->bf sg Hz Hw->DS qi P w K Hw sg aB->oJ K Hw pr aB->zq;refine AF (d:=D) (o:=o) (ps:=ps) Pv (qB _ _ _ fun _ zk=>zk none yg rfl (.refl _ _) dg1 ZX) (fun i Y Hw _ hv=>?_) (fun i b w' Y Hw hi hv=>?_) (fun Y Hw hv=>?_)
   .exact oC _ _ _ hv _ fun _ _ _ u _ _=>u _ _ Xv.symm yF1
   .refine oC _ _ _ hv _ fun z aB ze uw dw lw=>?_;subst ze;clear hv;obtain⟨g,hg,on⟩:=Z1 i b w' hi;have lw2:=Gu dw.nodup lw;have on1:=qi.up (fun c ys q=>bH.mL q TH uw) on;simp only[gE,zbV];walk_at "rd";refine⟨wt,_,dx,_,.ref sg,rfl,uw _ _ ZR SQ,T.cL,T.cI,rfl,sg,b,aB,ik g,rfl,rfl,dw,on1,by lia,fun H4 d4 e4=>?_⟩;obtain⟨φ,rfl⟩:=e4;have u4:bf sg Hz (upd Hw sg (.ext φ)):=uw.put _;obtain⟨φw,Z3⟩:=dw.oY;exact qB _ _ _ fun _ zk=>zk _ _ rfl u4 d4 ((lw.ext Z3 ((bf.refl _ _).put _)).put (es g hg).1 (by rw[(es g hg).2.2.1];exact lI TH u4 _ _ rv1))
   .refine oC _ _ _ hv _ fun z aB ze uw dw lw=>?_;subst ze;clear hv;refine(zX _ _).mpr (ay fun U6 De=>?_);clear zX;walk_at "rd";have BR:df K Hw ha cur.1 cur.2:=by
     obtain⟨va,k1,k2⟩:=Z0;exact⟨va,k1.mL TH uw,k2.mL TH uw⟩
    have lw2:=Gu dw.nodup lw;refine⟨wt,_,dx,_,.ref sg,rfl,uw _ _ ZR SQ,T.cL,T.cI,rfl,sg,ha,aB,ik cur,rfl,rfl,dw,tX BR,by lia,fun H4 d4 e4=>(De _ _).mpr ?_⟩;clear De;obtain⟨φ,rfl⟩:=e4;have u4:=uw.put (.ext φ);walk_at "rd";obtain⟨φw,Z3⟩:=dw.oY;have r4:=lI TH u4 _ _ rv1;refine q v _ (fun b o' n e=>u4 b o' n (kD1 b o' e)) ⟨dx,ch,_,u4 _ _ ZR SQ,u4 _ _ ndg ZZ,ZY.ext TH u4,d4,(lw.ext Z3 ((bf.refl _ _).put _)).put six r4⟩ ?_;rw[e0];exact r4
  walk_at "rd";refine⟨wt,_,dx,_,.ref sg,rfl,QK,T.cL,T.cI,rfl,sg,ha,yg,ik cur,rfl,rfl,TF,tX stx,?_⟩;cases V8:cf yg (ik cur) with
  |some v0=>
   refine(ybS rfl).mpr ⟨wt,_,dx,_,.ref sg,rfl,QK,T.cL,T.cI,rfl,sg,ha,yg,ik cur,v0,rfl,rfl,TF,tX stx,V8,keep v0 Hx (.refl _) ?_⟩;obtain⟨s',e',_,r'⟩:=SO _ (CB V8);rw[tV e'];exact r'
  |none=>
  refine(ybR zam).mpr ?_;refine⟨D,ha,_,ik cur,rfl,rfl,dD,tX stx,?_⟩;rw[xA];by_cases zw:cur∈gone
  .rw[ybT zw];refine(ybS rfl).mpr fun p hp p2 sV=>?_;have sa1:=ar.new hp (.tup [V.str (zab "round")]);have sa2:=ar.new sV (.tup [V.ref p,V.eA]);refine keep _ _ (sa1.trans sa2) ?_;rw[Sg (gone:=gone) (fun g hg=>⟨(es g hg).2.1,(es g hg).2.2.2.elim id fun z=>z▸zw⟩) zw];exact Rep.aT.mpr ⟨p2,_,rfl,.of ah,.cons (Rep.aT.mpr ⟨p,_,rfl,.of (sa2 _ _ ah),.cons (Rep.bN.mpr rfl) .nil⟩) (.cons (Rep.kg.mpr rfl) .nil)⟩
  .rw[ybU zw];obtain⟨x,hx⟩:=(hc.resolve_left (by rw[V8];exact zam)).resolve_left zw;refine(ybR zam).mpr ⟨wt,_,dx,_,.ref ch,rfl,QK,T.cL,T.bW,rfl,ch,ha,pr,cur,x,rfl,V6,dr,stx,six,hx,fun v Hy sy rv=>keep v Hy sy ?_⟩;rw[kP dr six hx];exact rv
 refine EC fun Bd QM=>?_;walk_at "rd";obtain⟨Iv,QN,MN⟩:=Nq fun (m:Nat) (Y:St) (Hx:Hp) zq=>∀(ha:zdF) (cur:fD) (gone:List fD),Y=[some (.ref wt),some (.ref sa),some (.ref D),some (.ref ha),none,none]->bf D H1 Hx->DS qi P w K Hx D (qQ gone)->df K Hx ha cur.1 cur.2->cY pr cur->gone.Nodup->(s0∈gone\/s0=cur)->(∀g∈gone,cY pr g/\dB pr g=none/\lK pr g=lK pr cur/\(nK pr g∈gone\/nK pr g=cur))->m=dh pr-gone.length->zq;refine⟨Iv,⟨_,QN _ _ _ fun _ zk=>zk sa s0 [] rfl (.refl _ _) d1 ZS si zbi (.inr rfl) (fun x h=>by cases h) rfl⟩,?_⟩;intro m Y Hx hv;refine MN _ _ _ hv _ fun ha cur gone ze ux NA stx six V9 TC es em=>?_;subst ze em;clear hv;have EA:=tY V9 fun x hx=>(es x hx).1;have TF:DS qi P w K Hx sg yg:=V0.other eD Xv ux;have QK:=ux _ _ Xw Fj;have V6:=VZ.ext eD ux;walk_at "rd";refine⟨wt,_,dx,_,.ref sg,rfl,QK,T.cL,T.cI,rfl,sg,ha,yg,ik cur,rfl,rfl,TF,tX stx,?_⟩;cases V8:cf yg (ik cur) with
 |some v0=>exact(ybR zam).mpr (fin ha cur gone Hx ux NA stx six EA TC es (.inl (by rw[V8];rfl)))
 |none=>
 refine(ybS rfl).mpr ?_;refine⟨D,ha,_,ik cur,rfl,rfl,NA,tX stx,?_⟩;rw[xA];by_cases zw:cur∈gone
 .rw[ybT zw];exact fin ha cur gone Hx ux NA stx six EA TC es (.inr (.inl zw))
 rw[ybU zw];refine(ybS rfl).mpr ⟨wt,_,dx,_,.ref ch,rfl,QK,T.cL,T.bW,rfl,ch,ha,pr,cur,rfl,V6,dr,stx,six,fun H4 s4=>⟨_,rfl,?_⟩⟩;have ux4:bf D H1 H4:=ux.trans (.of s4);have Z4:=NA.mono s4;have SR:=stx.mono s4;cases ho:dB pr cur with
 |some x=>exact(ybR (by simp)).mpr (fin ha cur gone H4 ux4 Z4 SR six EA TC es (.inr (.inr ⟨x,ho⟩)))
 |none=>
  have TJ:(gone++[cur]).Nodup:=zbM.mpr ⟨V9,by simp,fun a ha b hb=>by rw[zaf.mp hb];exact fun z=>zw (z▸ha)⟩;have es1:∀g∈gone++[cur],cY pr g/\dB pr g=none/\lK pr g=lK pr (nK pr cur)/\(nK pr g∈gone++[cur]\/nK pr g=nK pr cur):=fun g hg=>by
   rw[ud dr six ho];rcases zan.mp hg with hg |hg
   .obtain⟨a1,a2,a3,a4⟩:=es g hg;exact⟨a1,a2,a3,.inl (zan.mpr (a4.imp id fun z=>zaf.mpr z))⟩
   .rw[zaf.mp hg];exact⟨six,ho,rfl,.inr rfl⟩
  have es2:s0∈gone++[cur]\/s0=nK pr cur:=.inl (zan.mpr (TC.imp id fun z=>zaf.mpr z));have Z5:=tY TJ fun x hx=>(es1 x hx).1;have l1:(gone++[cur]).length=gone.length+1:=by simp
  obtain⟨h0,hna,NO,hsd⟩:=Cy ho;refine(ybS rfl).mpr ⟨Iv (dh pr-(gone++[cur]).length),fun Y' H' h=>⟨_,by lia,h⟩,QM _ _ _ (ay fun V1 MO=>?_)⟩;clear fin QM;walk_at "rd";refine⟨D,ha,_,ik cur,rfl,rfl,Z4,tX SR,by rw[qQ,zac];lia,fun H6 d6 e6=>(MO _ _).mpr ?_⟩;clear MO;obtain⟨φ6,e6⟩:=e6;obtain⟨φ4,eD4⟩:=Z4.oY;have Z6:bf D H4 H6:=by rw[e6];exact(bf.refl _ _).put _
  rw[Ip zw] at d6;have TK:=ux4.trans Z6;have hw6:=TK _ _ Xw Fj;have co6:=VZ.ext eD TK;have Z7:df K H6 ha cur.1 cur.2:=by
   obtain⟨va,k1,k2⟩:=SR;exact⟨va,k1.mL eD4 Z6,k2.mL eD4 Z6⟩
  clear e6;obtain⟨row,vals⟩:=cur;obtain⟨i,hi,er⟩:=six.ok.row.resolve_left h0;replace er:(aE pr.body)[i].row=row:=er;subst er;obtain⟨hf,ek,ew⟩:=kO pr.body i hi;obtain⟨w0,w1⟩:=hZ pr.body 0 _ (zaw hf);rw[ew] at w1;obtain⟨po,so⟩:=AA six.ok.len dr.ok.nb six.ok.small (jh pr.body _ dr.own (zaw hi));have bp:∀b∈pr.aF,0<b.size:=fun b hb=>by have:=dr.size b hb;lia
  have ea:vt pr.body (aE pr.body)[i].row=decide ((aE pr.body)[i].wd=.ask):=by unfold vt;rw[tT dr.ok.pw i hi]
  have e:(aE pr.body)[i].wd≠.ask:=fun z=>by
   rw[ea,ybT z] at hna;cases hna
  walk_at "rd";refine⟨wt,_,dx,_,.ref ch,rfl,hw6,T.cL,T.bW,rfl,ch,ha,.eA,pr,vals,0,i,hi,hf,rfl,co6,dr.ok,bp,Z7,six.ok.len,fun z=>ybX z e,po,w0,w1,fun q1 sv H7 s7 k1 o1=>?_⟩;rw[<- xB dr.ok hi hf] at k1 o1;refine aI k1 (v:=sv) (az (j:=0) rfl) ?_;rw[NO] at o1;obtain⟨ya,rfl,SN⟩:=o1;exact QN _ _ _ fun _ zk=>zk ya _ (gone++[((aE pr.body)[i].row,vals)]) rfl (TK.trans (.of s7)) (d6.mono s7) SN (six.Ol dr ho) TJ es2 es1 rfl
theorem qZ(T:Tx K mg t)(bJ:bt P w K mg base fR 1 t.cH t.cA ["body", "behind"] (kh K))(bB:bt P w K mg base fR 6 t.bj t.bq ["body"] (jk K 4))(oA:bt P w K mg base fR 7 t.mi t.km ["program"] (vm K)) :
 bt P w K mg base fR 10 t.dJ t.mq ["self", "program"] (L6 P w K t.aH t.aX):=by
 have Bc:=yI (P:=P) (w:=w) (base:=base) T bJ bB oA;refine T.kB.qL qY (fun vs H Q E h=>?_) (fun eY A outer s H vs Q E hr h=>?_)
 .obtain⟨_,_,_,_,rfl,_⟩:=h;rfl
 obtain⟨wt,dx,v,pr,rfl,hw,IL,rp,dr,q⟩:=h;have nd:=qY.nd;refine⟨_,[some (.ref wt),some v],(aj (rK (pv 0) (tF T.xZ Bc (hr.mono (by first|decide|omega)) rfl T.MD T.A5 .nil cS (eL 1 ai)) rfl)
 (aA (rK (pv 0) (xx (J:=qi)) rfl))),rfl,?_⟩
 refine ay fun U1 fQ=>?_;walk_at "rd";intro x Z8 hx Z9 ne;have s1:ar H (upd (upd H Z8 (.own x)) x (.ins t.aH Z8 [])):=(ar.new Z9 _).trans (ar.new (by rw[au ne.symm];exact hx) _);have nwx:wt≠x:=ag hw hx;refine⟨x,Z8,v,pr,rfl,ah,by rw[au ne];exact ah,rp.mono s1,dr.dep,dr.EA,dr.ok.pw,dr.ok.nb,dr.ok.EA,fun H2 u2 co=>⟨rfl,?_⟩⟩;have s2:ar H H2:=((bf.of s1).trans u2).same hx;have He:=s2 _ _ hw;refine⟨wt,_,dx,_,rfl,He,T.cL,T.bW,by decide,(fQ _ _).mpr ?_⟩;clear fQ;have u3:bf wt H2 (upd H2 wt (.ins t.aX dx (iu (zab "chart") (V.ref x) []))):=(bf.refl _ _).put _;have hw3:(upd H2 wt (.ins t.aX dx (iu (zab "chart") (V.ref x) []))) wt=_:=ah;have co3:=co.ins He nwx.symm u3;generalize upd H2 wt (.ins t.aX dx (iu (zab "chart") (V.ref x) []))=H3 at *;walk_at "rd";intro D hD yD;have d4:=EE (J:=qi) (P:=P) (w:=w) (K:=K) (H:=H3) yD;have s4:=ar.new hD (.ext (iA qi P w D []));have hw4:=s4 _ _ hw3;have co4:=co3.mono s4;have nDw:D≠wt:=(ag hw3 hD).symm;have uH:bf wt H (upd H3 D (.ext (iA qi P w D []))):=(bf.of s2).trans (u3.trans (bf.of s4));have Xx:H D=none:=by
  cases y:H D with
  |none=>rfl
  |some o=>have:=((bf.of s2).trans u3) D o nDw y;rw[hD] at this;cases this
 generalize upd H3 D (.ext (iA qi P w D []))=H4 at *;refine⟨wt,_,dx,_,rfl,hw4,T.cL,T.cI,zbu (Gd (zah 0)) (by decide),?_⟩;have u5:bf wt H4 (upd H4 wt (.ins t.aX dx (iu (zab "sights") (V.ref D) (iu (zab "chart") (V.ref x) [])))):=(bf.refl _ _).put _;have ndw:dx≠wt:=bz IL hw (by intro z;cases z);refine q D _ (uH.trans u5) Xx (Zs.toM ⟨dx,x,by rw[ah];rfl,?_,co4.ins hw4 nwx.symm u5,d4.ins hw4 u5⟩);exact u5 _ _ ndw (uH _ _ ndw IL)
theorem we(h:vp K C H p pr):∃dx fs fa,H p=some (.ins C dx fs)/\fs.lookup (zab "first")=some (.ref fa)/\df K H fa (jG pr).1 (jG pr).2:=by
 obtain⟨dx,nl,sd,fa,va,st,wy,us,ws,h1,h2,h3,h4,h5,h6,_⟩:=h.at_;exact⟨dx,_,fa,h1,rfl,va,.of h5,by rw[zbe];exact .of h6⟩
theorem q0(T:Tx K mg t):bt P w K mg base fR 1 t.iI t.jv ["both"] (CF P w K t.aH t.aX):=by
 refine T.iM.F.qL qU (fun vs H Q E h=>?_) (fun eY A outer s H vs Q E hr h=>?_)
 .obtain⟨_,_,_,_,_,_,_,rfl,_⟩:=h;rfl
 obtain⟨b,w1,s1,w2,s2,av,aw,rfl,wt,q⟩:=h;have nd:=qU.nd;refine⟨_,[some (.ref b)],(aA (aQ (aV (ae (dv (dv (aJ aN (pv 0) ao aq) rfl) rfl) (ae (dv (dv (aJ aN (pv 0) ao aq) rfl) rfl) ai lF) lF)))),rfl,?_⟩;obtain⟨SS,Xy,kv1,Fj,_,VZ,_⟩:=wt.one;obtain⟨NA,Xz,XA,He,_,ZY,_⟩:=wt.two;obtain⟨cx1,fs1,fa1,c1,l1,AB⟩:=we VZ;obtain⟨cx2,fs2,fa2,c2,l2,BR⟩:=we ZY;walk_at "rd";refine aI wt.b_ (v:=.ref w1) (az (j:=0) rfl) ⟨w1,_,SS,_,.ref Xy,rfl,Fj,T.cL,T.bW,rfl,Xy,_,cx1,_,.ref fa1,rfl,c1,T.cU,T.gm,l1,?_⟩;refine aI wt.b_ (v:=.ref w2) (az (j:=1) rfl) ⟨w2,_,NA,_,.ref Xz,rfl,He,T.cL,T.bW,rfl,Xz,_,cx2,_,.ref fa2,rfl,c2,T.cU,T.gm,l2,fun p hp=>?_⟩;have s3:=ar.new hp (.tup [V.ref fa1,V.ref fa2]);exact q p _ s3 ⟨fa1,fa2,.of ah,AB.mono s3,BR.mono s3⟩
theorem Hf(h:Rep K H (EO x) v):∃a y z,v=.ref a/\bH K H a [y,z]/\Rep K H (AI (Gs x)) y/\Rep K H (zL (Sh x)) z:=by
 rw[OM,Rep.aT] at h;obtain⟨a,xs,rfl,hS,r⟩:=h;rw[aL.aP] at r;obtain⟨y,t1,rfl,ry,r⟩:=r;rw[aL.aP] at r;obtain⟨z,t2,rfl,rz,r⟩:=r;rw[aL.bQ] at r;subst r;exact⟨a,y,z,rfl,hS,ry,rz⟩
theorem oE(T:Tx K mg t):bt P w K mg base fR 9 t.jJ t.ko ["both", "pair"] (L7 P w K t.aH t.aX):=by
 have dY:=j4 (P:=P) (w:=w) (base:=base) T;refine T.ie.F.qL uy (fun vs H Q E h=>?_) (fun eY A outer s H vs Q E hr h=>?_)
 .obtain⟨_,_,_,_,_,_,_,_,_,rfl,_⟩:=h;rfl
 obtain⟨b,w1,s1,w2,s2,pa,av,aw,p,rfl,wt,d1,d2,pat,pin,m1,m2,q⟩:=h;have nd:=uy.nd;refine⟨_,[some (.ref b),some (.ref pa)],(aA (aQ (du (Ej (xk hr)) (aJ aN (wF (aJ aN (pv 0) ao aq) T.cL T.fB dY (hr.mono (by first|decide|omega)) T.fj .nil cS (ae (aJ aN (pv 1) ao aq) ai a7)) ao aq) (aJ aN (wF (aJ aN (pv 0) ao aq) T.cL T.fB dY (hr.mono (by first|decide|omega)) T.fj .nil cS (ae (aJ aN (pv 1) ao aq) ai a7)) ao aq) (aY _)))),rfl,?_⟩;obtain⟨x1,x2,hp,AB,BR⟩:=id pat;obtain⟨SS,Xy,kv1,Fj,_⟩:=id wt.one;walk_at "rd";refine aI wt.b_ (v:=.ref w1) (az (j:=0) rfl) ⟨w1,SS,_,rfl,Fj,rfl,?_⟩;refine aI hp (v:=.ref x1) (az (j:=0) rfl) ⟨w1,s1,x1,av,p.1,rfl,wt.one,d1,AB,pin.one,m1,fun v H1 u1 n1 r1=>?_⟩;have zZ:=wt.Qw u1 n1;have G9:=wt.tup (oK.one u1);obtain⟨a1,y1,z1,rfl,Sf,ry1,_⟩:=Hf r1;refine aI Sf (v:=y1) (az (j:=0) rfl) ?_;obtain⟨NA,Xz,XA,He,_⟩:=id zZ.two;refine aI zZ.b_ (v:=.ref w2) (az (j:=1) rfl) ⟨w2,NA,_,rfl,He,rfl,?_⟩;have SU:df K H1 x2 p.2.1 p.2.2:=let ⟨va,k1,k2⟩:=BR;⟨va,G9 _ _ k1,G9 _ _ k2⟩;refine aI (G9 _ _ hp) (v:=.ref x2) (az (j:=1) rfl) ⟨w2,s2,x2,aw,p.2,rfl,zZ.two,d2,SU,pin.two,m2,fun v2 H2 u2 n2 r2=>?_⟩;have IU:=zZ.Qx u2 n2;obtain⟨φ2,XB⟩:=zZ.two.uU;obtain⟨a2,y2,z2,rfl,TL,ry2,_⟩:=Hf r2;refine aI TL (v:=y2) (az (j:=0) rfl) ⟨_,_,lI XB u2 _ _ ry1,ry2,zR _,zR _,?_⟩;have:=q H2 ((oK.one u1).trans (oK.two u2)) IU;rw[Si];exact this
theorem IV:∀sm:cJ,¬vT sm.wd=zab "end":=fun sm=>by cases sm<;>(simp only[cJ.wd];decide +kernel)
theorem yJ(T:Tx K mg t):bt P w K mg base fR 7 t.iE t.jr ["chart", "standing"] (Qq K t.aH):=by
 have jf:=oB (P:=P) (w:=w) (base:=base) T;have kI:=sF (P:=P) (w:=w) (base:=base) T;refine T.iL.F.qL qR (fun vs H Q E h=>?_) (fun eY A outer s H vs Q E hr h=>?_)
 .obtain⟨_,_,_,_,rfl,_⟩:=h;rfl
 obtain⟨ch,sa,pr,st,rfl,co,dr,BI,si,q⟩:=h;have nd:=qR.nd;obtain⟨MP,yh,yi⟩:=T.wC;refine⟨_,[some (.ref ch),some (.ref sa),none,none],(aj (lC 2 nd (lJ jf T.ja hr (eL 0 (ae (aJ aN (pv 1) ao aq) ai a7))))
 (aj (bL (aW dO (pv 2) bo (aY _))
 (aA (aQ (bY ai)))
 a8)
 (aj (bL (aW dO (pv 2) bo (aY _))
 (aA (aQ (eN (own:=["figure"]) (ix:=[0,1]) rfl (by rfl) (by rfl) (gu rfl T.iO (ae (dq rfl yh yi) ai aD)) (fun _ _ _ _=>(cK (i:=0) (by show List.Nodup (["figure", "chart", "standing"]:List Str);decide +kernel) rfl (zaH rfl))) (fun _ _ _ _=>dZ) (fun _ _ _ _=>(aJ (ji (K:=K) rfl) (lJ kI T.jb hr (eL 1 (eL 2 (eL 0 ai)))) ao aq)))))
 a8)
 (aj (lC 3 nd (aJ aN (lJ kI T.jb hr (eL 0 (eL 1 (ae lU ai aK)))) ao aq))
 (aj (bL (aW Rh (pv 3) lU (aY _))
 (aA (aQ (bY ai)))
 a8)
 (aA (aQ (bY (eL 3 ai))))))))),rfl,?_⟩
 obtain⟨row,vals⟩:=st;obtain⟨va,AB,BR⟩:=id BI;refine ay fun U1 fQ=>?_;walk_at "rd";refine aI AB (v:=.int row) (az (j:=0) rfl) ?_;rcases si.ok.row with h0 |⟨i,hi,er⟩
 .replace h0:row=0:=h0;subst h0;refine⟨ch,pr,0,rfl,co,dr.ok.pw,.inl ⟨rfl,(fQ _ _).mpr ?_⟩⟩;refine ay fun U2 iq=>?_;walk_at "rd";exact(ybS trivial).mpr fun L hL=>q L _ _ (ar.new hL _) hL ah .nil
 replace er:(aE pr.body)[i].row=row:=er;subst er;have QJ:(aE pr.body)[i].row≠0:=by have:=dr.ok.pos _ (zaw hi);lia
 obtain⟨hf,ek,ew⟩:=kO pr.body i hi;obtain⟨w0,w1⟩:=hZ pr.body 0 _ (zaw hf);rw[ew] at w1;obtain⟨po,so⟩:=AA si.ok.len dr.ok.nb si.ok.small (jh pr.body _ dr.own (zaw hi));have bp:∀b∈pr.aF,0<b.size:=fun b hb=>by have:=dr.size b hb;lia
 have ea:vt pr.body (aE pr.body)[i].row=decide ((aE pr.body)[i].wd=.ask):=by unfold vt;rw[tT dr.ok.pw i hi]
 have es:∀f,fN pr (aE pr.body)[i].row vals f=iV pr.aF (aE pr.body)[i] (aR pr.body 0)[i].2.2 vals f:=fun f=>by unfold fN;rw[tT dr.ok.pw i hi,Ge dr.ok.pw i hi hf]
 unfold lD at q;simp only[ybR QJ,ea,decide_eq_true_eq] at q;refine⟨ch,pr,_,rfl,co,dr.ok.pw,.inr ⟨QJ,i,hi,rfl,(fQ _ _).mpr (ay fun U2 iq=>?_)⟩⟩;clear fQ;walk_at "rd";refine(ybR (IV _)).mpr ((iq _ _).mpr (ay fun U3 lE=>?_));clear iq;walk_at "rd";refine kM (fun e=>?_) (fun e=>(lE _ _).mpr ?_)
 .have e:=(Fg _).mp e;simp only[e,if_true] at q;simp only[fS];walk_at "rd";refine⟨10,rfl,by decide,by decide,fun D hD=>?_⟩;refine Cs (J:=NP 0 10) (fun Z=>∃x,Z=[x,some (.ref ch),some (.ref sa)]) ((zaj 10).map fun f=>V.int (f:Nat)) (fun j ys H2=>ar H H2/\xC K H2 ((zaj j).map fun f=>((fN pr (aE pr.body)[i].row vals (f:Nat)).1.getD ((aE pr.body)[i].row,vals))) ys) ?_ ?_ ?_ (by simp) hD ⟨none,rfl⟩ ⟨ar.new hD _,.nil⟩ ?_ ?_
  .intro j H2 _ hj;show j<10;simpa using hj
  .intro H2 _;show 10<=_;simp
  .intro j H2 x H3 _ hj hy;have lj:j<10:=by simpa using hj
   obtain⟨rfl,rfl⟩:=hy;exact⟨rfl,by simp[lj]⟩
  .rintro j x ys Z H2 hx ⟨x0,rfl⟩ s2 yD ly ⟨_,sy⟩ R hR
   have lj:j<10:=by have:=(zap.mp hx).1;simpa using this
   have hx:x=.int (j:Nat):=by simpa[lj] using hx.symm
   subst hx;walk_at "rd";refine⟨ch,sa,_,pr,vals,(j:Nat),i,hi,hf,rfl,co.mono s2,dr.ok,bp,BI.mono s2,si.ok.len,fun _=>rfl,po,w0,w1,fun q1 sv H3 s3 k1 o1=>?_⟩;rw[<- es] at k1 o1;have hn:=LJ (pr:=pr) (aE pr.body)[i].row vals (j:Nat) (by rw[ea];exact ybT e);refine aI k1 (v:=sv) (az (j:=0) rfl) (hR _ _ _ ⟨_,rfl⟩ s3 ⟨?_,?_⟩)
   .exact(((bf.of (s2.trans s3)).put _).same hD)
   .rw[za7,zaC];cases ho:(fN pr (aE pr.body)[i].row vals (j:Nat)).1 with
    |none=>exact ybX ho hn
    |some y=>
     rw[ho] at o1;obtain⟨ya,rfl,SN⟩:=o1;have yD3:=s3 _ _ yD;have z:=Cu (x:=y) (Gk sy fun _ _ _ h=>h.mono s3) SN;simp only[zas,za8,ho,zdb];exact Gk z fun _ _ _ h=>h.upL yD3 ((bf.refl D H3).put _)
  .rintro ys H2 s2 yD ly ⟨_,sy⟩
   rw[zac,zaJ] at sy;exact q D ys H2 s2 hD yD sy
 .have e:(aE pr.body)[i].wd≠.ask:=fun z=>e ((Fg _).mpr z);simp only[ybR e] at q;walk_at "rd";refine⟨ch,sa,.eA,pr,vals,0,i,hi,hf,rfl,co,dr.ok,bp,BI,si.ok.len,fun z=>ybX z e,po,w0,w1,fun q1 sv H2 s2 k1 o1=>?_⟩;rw[<- es] at k1 o1;refine aI k1 (v:=sv) (az (j:=0) rfl) ?_;cases ho:(fN pr (aE pr.body)[i].row vals 0).1 with
  |none=>
   rw[ho] at o1 q;exact(ybS o1).mpr fun p hp=>q p _ _ (s2.trans (ar.new hp _)) (s2.free hp) ah .nil
  |some x=>
   rw[ho] at o1 q;obtain⟨xa,rfl,xs⟩:=o1;exact(ybR (by intro z;cases z)).mpr fun p hp=>q p _ _ (s2.trans (ar.new hp _)) (s2.free hp) ah (.cons ⟨xa,rfl,xs.mono (ar.new hp _)⟩ .nil)
theorem ints_rep{l:List Int}:∀{ys:List V},aL K H (l.map Dp.int) ys->ys=l.map V.int:=by
 induction l with
 |nil=>intro ys h;rw[za8,aL.bQ] at h;exact h
 |cons n l ih=>
  intro ys h;rw[zas,aL.aP] at h;obtain⟨y,t,rfl,r,h⟩:=h;rw[Rep.bD.mp r,ih h];rfl
theorem Pe(r:Rep K H (AI h) v):∃a ys,v=.ref a/\bH K H a (.str (Js h)::ys):=by
 cases h<;>(simp only[AI,Rep.aT] at r;obtain⟨a,xs,rfl,hS,r⟩:=r;rw[aL.aP] at r;obtain⟨y,t1,rfl,ry,r⟩:=r;cases Rep.bN.mp ry;exact⟨a,_,rfl,hS⟩)
theorem Be{s:fD}(h:Rep K H (zL (some s)) v):∃a,v=.ref a/\df K H a s.1 s.2:=by
 rw[zL,Rep.aT] at h;obtain⟨a,xs,rfl,hS,r⟩:=h;rw[aL.aP] at r;obtain⟨y,t1,rfl,ry,r⟩:=r;cases Rep.bD.mp ry;rw[aL.aP] at r;obtain⟨z,t2,rfl,rz,r⟩:=r;rw[aL.bQ] at r;subst r;obtain⟨va,ys,rfl,h2,r2⟩:=Rep.aT.mp rz;refine⟨a,rfl,va,hS,?_⟩;have e:ys=s.2.map V.int:=ints_rep r2;rw[<- e];exact h2
theorem oR(T:Tx K mg t):bt P w K mg base fR 11 t.fV t.gS ["both", "pair"] (ue P w K t.aH t.aX):=by
 have dY:=j4 (P:=P) (w:=w) (base:=base) T;have jO:=oE (P:=P) (w:=w) (base:=base) T;have uN:=yJ (P:=P) (w:=w) (base:=base) T;refine T.dX.F.qL oP (fun vs H Q E h=>?_) (fun eY A outer s H vs Q E hr h=>?_)
 .obtain⟨_,_,_,_,_,_,_,_,_,rfl,_⟩:=h;rfl
 obtain⟨b,w1,s1,w2,s2,pa,av,aw,p,rfl,wt,d1,d2,pat,pin,m1,m2,q⟩:=h;have nd:=oP.nd;refine⟨_,[some (.ref b),some (.ref pa),none,none],(aj (bL (Ai (rJ (lJ jO T.ie hr (eL 0 (eL 1 ai)))))
 (aA (aQ (bY ai)))
 a8)
 (aj (lC 2 nd (wF (aJ aN (pv 0) ao aq) T.cL T.fB dY (hr.mono (by first|decide|omega)) T.fj .nil cS (ae (aJ aN (pv 1) ao aq) ai a7)))
 (aj (lC 3 nd (wF (aJ aN (pv 0) ao aq) T.cL T.fB dY (hr.mono (by first|decide|omega)) T.fj .nil cS (ae (aJ aN (pv 1) ao aq) ai a7)))
 (aj (bL (aW dO (aJ aN (aJ aN (pv 2) ao aq) ao aq) bo (aY _))
 (aA (aQ (bY (ae (aV (ae (aJ aN (pv 2) ao aq) (ae (aJ aN (pv 3) ao aq) ai a7) a7)) ai dQ))))
 a8)
 (aj (bL (aW dO (aJ aN (aJ aN (pv 2) ao aq) ao aq) bo (aY _))
 (aA (aQ (EN rfl rfl T.yc rfl T.GZ (ae (lJ uN T.iL hr (ae (dv (aJ aN (pv 0) ao aq) rfl) (ae (aJ aN (pv 2) ao aq) ai a7) lF)) (ae (lJ uN T.iL hr (ae (dv (aJ aN (pv 0) ao aq) rfl) (ae (aJ aN (pv 3) ao aq) ai a7) lF)) ai ba) ba))))
 a8)
 (aA (aQ (bY ai)))))))),rfl,?_⟩
 refine ay fun U1 fQ=>?_;walk_at "rd";refine⟨b,w1,s1,w2,s2,pa,av,aw,p,rfl,wt,d1,d2,pat,pin,m1,m2,fun H1 u1 zZ=>?_⟩;unfold eU;by_cases hh:Gs (lK av p.1)=Gs (lK aw p.2)
 rotate_left
 .rw[ybU hh];refine⟨_,rfl,(ybS rfl).mpr fun l hl=>q l [] _ (u1.trans (.of (ar.new hl _))) (zZ.mono (ar.new hl _)) (zZ.free u1 hl) ah ?_⟩;unfold ck;rw[ybS hh];exact .nil
 rw[ybT hh];refine⟨_,rfl,(ybR zam).mpr ((fQ _ _).mpr (ay fun U2 iq=>?_))⟩;clear fQ;have aae:=pat.oX (wt.tup u1);obtain⟨x1,x2,hp,AB,BR⟩:=id aae;obtain⟨SS,Xy,kv1,Fj,_⟩:=id zZ.one;walk_at "rd";refine aI zZ.b_ (v:=.ref w1) (az (j:=0) rfl) ⟨w1,SS,_,rfl,Fj,rfl,?_⟩;refine aI hp (v:=.ref x1) (az (j:=0) rfl) ⟨w1,s1,x1,av,p.1,rfl,zZ.one,d1,AB,pin.one,m1,fun v H2 u2 n2 r2=>(iq _ _).mpr (ay fun U3 lE=>?_)⟩;clear iq;have IU:=zZ.Qw u2 n2;have tt2:=zZ.tup (oK.one u2);obtain⟨a1,y1,z1,rfl,Sf,ry1,rz1⟩:=Hf r2;obtain⟨NA,Xz,XA,He,_⟩:=id IU.two;have SU:df K H2 x2 p.2.1 p.2.2:=let ⟨va,k1,k2⟩:=BR;⟨va,tt2 _ _ k1,tt2 _ _ k2⟩;walk_at "rd";refine aI IU.b_ (v:=.ref w2) (az (j:=1) rfl) ⟨w2,NA,_,rfl,He,rfl,?_⟩;refine aI (tt2 _ _ hp) (v:=.ref x2) (az (j:=1) rfl) ⟨w2,s2,x2,aw,p.2,rfl,IU.two,d2,SU,pin.two,m2,fun v2 H3 u3 n3 r3=>(lE _ _).mpr (ay fun U4 uW=>?_)⟩;clear lE;have NB:=IU.Qx u3 n3;have tt3:=IU.tup (oK.two u3);obtain⟨φ2,XB⟩:=IU.two.uU;obtain⟨a2,y2,z2,rfl,TL,ry2,XC⟩:=Hf r3;have aag:=lI XB u3 _ _ ry1;have Pf:=lI XB u3 _ _ rz1;have Pg:=tt3 _ _ Sf;have Jw:oK s1 s2 H H3:=u1.trans ((oK.one u2).trans (oK.two u3));obtain⟨ha,hys,rfl,hha⟩:=Pe aag;have qq:∀l us H',ar H3 H'->H3 l=none->H' l=some (.lst us)->gH K H' (ck av aw p) us->Q (.ref l) H':=fun l us H' s' n=>q l us H' (Jw.trans (.of s')) (NB.mono s') (NB.free Jw n);clear q;unfold ck at qq;simp only[hh,ne_eq,not_true_eq_false,if_false] at qq;have n1:∀h:Hd,Js h=zab "say"->∃n,h=.say n:=fun h e=>by cases h<;>first |exact⟨_,rfl⟩ |exact ybX e (by decide +kernel)
 have n2:∀h:Hd,Js h=zab "ask"->h=.ask:=fun h e=>by cases h<;>first |rfl |exact ybX e (by decide +kernel) |exact ybX e (show ¬(zab "say":Str)=zab "ask" by decide +kernel)
 walk_at "rd";refine aI Pg (v:=.ref ha) (az (j:=0) rfl) (aI hha (v:=.str (Js (Gs (lK av p.1)))) (az (j:=0) rfl) ⟨rfl,?_⟩);refine kM (fun e=>?_) (fun e=>(uW _ _).mpr (ay fun U5 zX=>?_))
 .obtain⟨n,e1⟩:=n1 _ (V.str.inj e);have e2:=hh.symm.trans e1;cases g1:lK av p.1<;>rw[g1] at e1<;>cases e1
  cases g2:lK aw p.2<;>rw[g2] at e2<;>cases e2
  rename_i sa sb;rw[g1] at Pf;rw[g2] at XC;simp only[g1,g2] at qq;obtain⟨b1,rfl,t1⟩:=Be Pf;obtain⟨b2,rfl,t2⟩:=Be XC;refine aI Pg (v:=.ref b1) (az (j:=1) rfl) (aI TL (v:=.ref b2) (az (j:=1) rfl) fun c hc l hl=>?_);have sc:=ar.new hc (.tup [V.ref b1,V.ref b2]);have sl:=ar.new hl (.lst [V.ref c]);exact qq l _ _ (sc.trans sl) (sc.free hl) ah (.cons ⟨c,rfl,b1,b2,.of (sl _ _ ah),t1.mono (sc.trans sl),t2.mono (sc.trans sl)⟩ .nil)
 clear uW;walk_at "rd";refine aI Pg (v:=.ref ha) (az (j:=0) rfl) (aI hha (v:=.str (Js (Gs (lK av p.1)))) (az (j:=0) rfl) ⟨rfl,?_⟩);refine kM (fun e3=>?_) (fun e3=>(zX _ _).mpr ?_)
 .have e1:=n2 _ (V.str.inj e3);have e2:=hh.symm.trans e1;cases g1:lK av p.1<;>rw[g1] at e1<;>cases e1
  cases g2:lK aw p.2<;>rw[g2] at e2<;>cases e2
  rename_i sa sb;rw[g1] at Pf;rw[g2] at XC;simp only[g1,g2] at qq;obtain⟨b1,rfl,t1⟩:=Be Pf;obtain⟨b2,rfl,t2⟩:=Be XC;have XD:=xM d1 _ [] p.1 sa pin.one (by show Sh (lK av p.1)=_;rw[g1];rfl);have si2:=xM d2 _ [] p.2 sb pin.two (by show Sh (lK aw p.2)=_;rw[g2];rfl);obtain⟨k1,k2⟩:=AJ _ _ _ _ g1;obtain⟨k3,k4⟩:=AJ _ _ _ _ g2;obtain⟨ex1,eh1,afS,aah,_,aai,_⟩:=id NB.one;simp only[tLZ];walk_at "rd";refine aI NB.b_ (v:=.ref w1) (az (j:=0) rfl) ⟨w1,_,ex1,_,.ref eh1,rfl,aah,T.cL,T.bW,rfl,?_⟩;refine aI Pg (v:=.ref b1) (az (j:=1) rfl) ⟨eh1,b1,av,sa,rfl,aai,d1,t1,XD,fun l1 Jp H4 s4 f4 y4 Wa=>?_⟩;have wt4:=NB.mono s4;obtain⟨ex2,eh2,afU,aaj,_,aak,_⟩:=id wt4.two;refine aI wt4.b_ (v:=.ref w2) (az (j:=1) rfl) ⟨w2,_,ex2,_,.ref eh2,rfl,aaj,T.cL,T.bW,rfl,?_⟩;refine aI (s4.cO TL) (v:=.ref b2) (az (j:=1) rfl) ⟨eh2,b2,aw,sb,rfl,aak,d2,t2.mono s4,si2,fun l2 Ln H5 s5 f5 y5 Wb=>?_⟩;have lu1:Jp.length=10:=by rw[<- yah Wa];exact uf k1 k2
  have lu2:Ln.length=10:=by rw[<- yah Wb];exact uf k3 k4
  refine⟨l1,l2,Jp,Ln,rfl,.of (s5 _ _ y4),.of y5,by lia,fun pz ps H6 f6 s6 y6 lp hq=>?_⟩;refine qq pz _ H6 (s4.trans (s5.trans s6)) ((s4.trans s5).free f6) y6 (zS (by rw[zbx,uf k1 k2,uf k3 k4,zac];lia) fun i a v ea ev=>?_);rw[zar] at ev;obtain⟨c,hc,rfl⟩:=zaZ.mp ev;rw[zbR] at ea;have li:i<ps.length:=(zap.mp hc).1;obtain⟨_,ht⟩:=hq i c _ _ hc (zad (by lia)) (zad (by lia));obtain⟨q1,c1,g1',e1',t1'⟩:=Gv Wa (zad (show i<Jp.length by lia));obtain⟨q2,c2,NC,e2',t2'⟩:=Gv Wb (zad (show i<Ln.length by lia));rw[ea.1] at g1';rw[ea.2] at NC;cases g1';cases NC;rw[e1',e2'] at ht;exact⟨c,rfl,c1,c2,.of ht,t1'.mono (s5.trans s6),t2'.mono s6⟩
 .clear zX;walk_at "rd";refine fun l hl=>qq l [] _ (ar.new hl _) hl ah ?_;cases g1:lK av p.1 with
  |say=>rw[g1] at e;exact ybX rfl e
  |ask=>rw[g1] at e3;exact ybX rfl e3
  |_=>exact .nil
theorem aan:tZ "pair" "both" (mM (eX aU)):=⟨rfl,rfl,rfl,rfl,rfl,fun z h=>by
 have key:∀p∈(mM (eX aU)).names,(p.2=.cell\/p.2=.free)->p.1 = "both":=by decide +kernel
 rcases h with h |h
 .exact key _ (PySem.mem_of_lookup h) (.inl rfl)
 .exact key _ (PySem.mem_of_lookup h) (.inr rfl),by decide +kernel⟩
theorem Fl(T:Tx K mg t):bt P w K mg base (o3 P w) 14 t.fI t.og ["place", "led_from", "figures", "found"] (Gz P w K t.aH t.aX t.aC (eX aU) "told_apart.<locals>.<lambda>"):=by
 have k7:=oR (P:=P) (w:=w) (base:=base) T;refine T.gD.F.okX xX (fun vs H Q E h=>?_) (fun eY A outer s H vs Q E hr h=>?_)
 .obtain⟨_,_,_,_,_,_,_,_,_,_,_,_,_,_,_,_,_,rfl⟩:=h;rfl
 obtain⟨pa0,fo,D,ga,cc,b,w1,s1,w2,s2,ip,av,aw,p0,f0,g,yg,rfl,ND,aao,aap,hga,ds0,fa0,aaq,hf0,q,qE⟩:=h;have nd:=xX.nd;have hu:=mD hr;obtain⟨NF,yK,yM⟩:=T.x8;have xD:∀(u:zdG) (cc c':zdF) (pm vW:zdG),bindArgs (zds "<lambda>" "told_apart.<locals>.<lambda>" (EJ (eX aU)) (wO (eX aU)) (mM (eX aU)) [("both",cc)] pm (.ref c') vW) ⟨[u],[]⟩=(pure [(("pair":Str),u)]:Sem (List (Str×zdG))):=fun _ _ _ _ _=>rfl;have pj:∀(fo cc c':zdF) (s':zdP) (H':Hp),PE (Ct fR P w K mg base ["pair", "both"] "told_apart.<locals>.<lambda>" (mM (eX aU)) fo (.ref c') [("both",cc)] (gV (o3 P w) P w K mg base ["place", "led_from", "figures", "found", "led"] "gone_on" (aG ic) t.fI eY A outer s H E).A (gV (o3 P w) P w K mg base ["place", "led_from", "figures", "found", "led"] "gone_on" (aG ic) t.fI eY A outer s H E).stack s' H' E0) (wO (eX aU)) (BW (ue P w K t.aH t.aX) [] E0 (xf (fO 1) (xf (fO 0) NS))):=by
  intro fo cc c' s' H';exact bC k7 ((hr.deeper _).mono (by first|decide|omega)) rfl T.dX.m T.dX.F.kp T.dX.b .nil cS (ae (pv 1) (ae (pv 0) ai aD) aD)
 have RA:∀pins G (H':Hp) (s':zdP) e Ni a o,Inv (gV (o3 P w) P w K mg base ["place", "led_from", "figures", "found", "led"] "gone_on" (aG ic) t.fI eY A outer s H E) pins G H' s'->H' a=some (cQ a o)->fR (gV (o3 P w) P w K mg base ["place", "led_from", "figures", "found", "led"] "gone_on" (aG ic) t.fI eY A outer s H E).stack (wo H' a) s' E0 e Ni->(gV (o3 P w) P w K mg base ["place", "led_from", "figures", "found", "led"] "gone_on" (aG ic) t.fI eY A outer s H E).xe e Ni:=fun _ _ _ _ _ _ _ _ _ _ h=>h.elim;refine⟨_,[some (.ref pa0),some (.ref fo),some (.ref ga),some (.ref D),none],(aj (w6 KA (aW (qh (J:=qx) (Io hr)) (pv 0) (pv 3) rfl)
 (aj (bL (aW dO (bT (Iq (J:=qx)) rfl T.wb yb4 (eL 3 ai)) (dq rfl yK yM) (aY _))
 (aA (KC RF T.vI rfl T.x6 rfl (ae bo ai aK)))
 a8)
 (aj (tU (J:=qx) (Io hr) (pv 3) (pv 0) (pv 2) rfl)
 (aj (lC 4 nd (LN (CX:=fR) (E:=E0) (x:="pair") (y:="both") (name:="<lambda>") (qual:="told_apart.<locals>.<lambda>") (params:=EJ (eX aU)) (body:=wO (eX aU)) (scope:=mM (eX aU)) (tb:=BW (ue P w K t.aH t.aX) [] E0 (xf (fO 1) (xf (fO 0) NS))) hr aan (pv 1) (eL 0 ai) RA xD pj))
 (aj (bL (aW PK (bT tI rfl T.wb yb4 (eL 4 ai)) ao (aY _))
 (aA (aQ (bY (ae (aV (eL 2 (eL 4 ai))) ai dQ))))
 a8)
 (aA (lC 0 nd (aJ dy (pv 4) ao aq))))))))
 (aA (aQ (bY ai)))),rfl,?_⟩
 have line:zdN=2 ^ 24:=rfl;generalize hN:fe av aw=N at *;refine ay fun U2 iq=>?_;refine EC fun Bd QM=>?_;walk_at "rd";obtain⟨Iv,QN,MN⟩:=Nq fun (m:Nat) (G:St) (Hx:Hp) zq=>∀(pa:zdF) (p:br) (f:cZ) (aB:List ((bA×bA)×V)) (z:Option V) (k:Nat),G=[some (.ref pa),some (.ref fo),some (.ref ga),some (.ref D),z]->o4 D s1 s2 H Hx->GC P w K t.aH t.aX (eX aU) "told_apart.<locals>.<lambda>" Hx D b w1 s1 w2 s2 fo cc ip av aw->DS qx P w K Hx D aB->eW K Hx f aB->l0 K Hx pa p->wB av aw p->jR (wB av aw) f->eV (ck av aw) (N+1) f0 p0 g=eV (ck av aw) (N+1-k) f p g->k<=f.length->f.length<=2000->m=N-f.length->zq;refine⟨Iv,⟨_,QN _ _ _ fun _ zk=>zk pa0 p0 f0 yg none 0 rfl .refl ND ds0 fa0 aao aap aaq rfl (zaN _) hf0 rfl⟩,?_⟩;intro m G Hx hv;refine MN _ _ _ hv _ fun pa p f aB z k ze ux gc ds fa pat pin QO eg hk XE em=>?_;subst ze em;clear hv;have aar:f.length<=N:=by rw[<- hN];exact pO QO
 obtain⟨n,en⟩:∃n,N+1-k=n+1:=⟨N-k,by lia⟩
 rw[en] at eg;walk_at "rd";refine⟨D,pa,aB,ki p,rfl,rfl,ds,xN pat,?_⟩;rw[fa.Ts p];by_cases hx:p∈f.map (·.1)
 .refine(ybR (by rw[ybT hx];decide)).mpr ((iq _ _).mpr ?_);walk_at "rd";intro L hL;have e2:eV (ck av aw) (n+1) f p g=(f,none):=by rw[eV,ybS hx]
  rw[eg,e2] at q;have sL:=ar.new hL (.lst []);exact q XE L [] aB _ (ux.trans (.of sL)) (gc.wt.mono sL) (gc.free ds ux hL) ah (ds.mono sL) (fa.imp fun a xs h=>sL.cO h) rfl
 refine(ybS (by rw[ybU hx];decide)).mpr ?_;have Wc:=QO.put (g:=g) hx pin;have Z5:(f++[(p,g)]).length<=N:=by rw[<- hN];exact pO Wc
 have l1:(f++[(p,g)]).length=f.length+1:=by simp
 refine⟨Iv (N-(f++[(p,g)]).length),fun G' H' h=>⟨_,by lia,h⟩,?_⟩;refine QM _ _ _ (ay fun V1 MO=>?_);clear QM iq;have lk:=fa.len;walk_at "rd";refine⟨D,aB,rfl,ds,?_⟩;refine kM (fun e=>?_) (fun e=>(MO _ _).mpr (ay fun V2 XF=>?_))
 .have g9:(f++[(p,g)]).length<=(eV (ck av aw) (N+1) f0 p0 g).1.length:=by
   rw[eg,eV,ybR hx];split
   .exact vA _ _ _ _ _
   .exact zah _
  exact⟨by decide,qE (by lia) Hx ux⟩
 clear MO;obtain⟨φx,eDx⟩:=ds.oY;walk_at "rd";refine⟨D,pa,aB,ki p,rfl,rfl,ds,xN pat,by lia,fun H6 d6 e6=>(XF _ _).mpr (ay fun V3 hV3=>?_)⟩;clear XF;obtain⟨φ',rfl⟩:=e6;have u6:bf D Hx (upd Hx D (.ext φ')):=(bf.refl _ _).put _;have t6:∀a xs,bH K Hx a xs->bH K (upd Hx D (.ext φ')) a xs:=fun a xs h=>h.mL eDx u6;have TK:o4 D s1 s2 H (upd Hx D (.ext φ')):=ux.trans (.one u6);have aas:=t6 _ _ (ND.tup ds0 ux _ _ hga);have fa6:=(fa.imp t6).put hx aas;have aat:=pat.oX t6;have DK:=gc.up (.one u6) (gc.wt.other eDx gc.n1.symm gc.n2.symm u6);clear u6 t6;generalize upd Hx D (.ext φ')=H6 at *;walk_at "rd";have We:=DK.lam;obtain⟨g3,ncD,nc1,nc2⟩:H6 cc=some (cQ cc ip)/\cc≠D/\cc≠s1/\cc≠s2:=by
  obtain⟨_,_,_,_,_,_,_,_,_,_,_,g3,_⟩:=We;exact Gy g3
 have tw:∀a xs,bH K H6 a xs->bH K (wo H6 cc) a xs:=fun a xs h=>h.mL g3 wQ;refine⟨.ref pa,fo,cc,ip,.ref b,rfl,rfl,We.mono Sl,b,w1,s1,w2,s2,pa,av,aw,p,rfl,DK.wt.other g3 nc1.symm nc2.symm wQ,DK.d1,DK.d2,aat.oX tw,pin,DK.m1,DK.m2,fun l us H7 u7 wt7 hl yl Wf n7=>(hV3 _ _).mpr (ay fun V4 hV4=>?_)⟩;clear hV3 tw;have nl:l≠cc:=fun y=>by rw[y,n7] at yl;cases yl
 have s8:=ar.new n7 (cQ cc ip);have XG:oK s1 s2 H6 (upd H7 cc (cQ cc ip)):=fun c o h1 h2 e=>by
  by_cases z:c=cc
  .rw[z,g3] at e;rw[z,ah];exact e
  .rw[au z];exact u7 c o h1 h2 (by rw[bE z];exact e)
 have yl8:=s8 _ _ yl;have Ph:=Wf.mono s8;have wt8:=wt7.mono s8;have hl6:H6 l=none:=by rw[bE nl] at hl;exact hl
 clear s8 u7 wt7 hl yl Wf n7;generalize upd H7 cc (cQ cc ip)=H8 at *;have t68:=DK.wt.tup XG;have ux8:o4 D s1 s2 H H8:=TK.trans (.two XG);have d8:DS qx P w K H8 D _:=d6.oX (fun o h=>XG _ _ DK.n1 DK.n2 h) t68;have fa8:=fa6.imp t68;have gc8:=DK.up (.two XG) wt8;have vB:us.length=(ck av aw p).length:=(yah Ph).symm;walk_at "rd";refine⟨l,us,rfl,.inl (.of yl8),?_⟩;have ug:∀t1,ck av aw p=[t1]->eV (ck av aw) (n+1) f p g=eV (ck av aw) n (f++[(p,g)]) t1 g:=fun t1 e=>by
  rw[eV,ybR hx];split
  .rename_i t2 e2;rw[e] at e2;cases e2;rfl
  .rename_i l2 e2;exact ybX e (e2 t1)
 have ug2:(∀t1,ck av aw p≠[t1])->eV (ck av aw) (n+1) f p g=(f++[(p,g)],some (ck av aw p)):=fun e=>by
  rw[eV,ybR hx];split
  .rename_i t2 e2;exact ybX e2 (e t2)
  .rfl
 have li:=xO gc.d1 gc.d2 pin;refine kM (fun e=>?_) (fun e=>fun p8 SE p9 Ny=>?_)
 .obtain⟨t1,et⟩:∃t1,ck av aw p=[t1]:=zb6.mp (by lia);have ug:=ug t1 et;rw[et] at Ph li;cases Ph with
  |cons z1 z2=>
  cases z2;obtain⟨ta,rfl,aay⟩:=z1;refine(hV4 _ _).mpr ?_;walk_at "rd";refine cT (.of yl8) (v:=.ref ta) (az (j:=0) rfl) (QN _ _ _ fun _ zk=>zk ta t1 (f++[(p,g)]) _ (some (.ref l)) (k+1) rfl ux8 gc8 d8 fa8 aay (li t1 (by simp)) Wc ?_ (by lia) (by lia) rfl);rw[eg,ug,show N+1-(k+1)=n by lia]
 .have ug2:=ug2 fun t1 z=>by rw[z] at vB;exact e (by rw[vB];rfl)
  rw[eg,ug2] at q;have sp:=ar.new SE (.tup [.ref ga,.ref l]);have yp:(upd H8 p8 (.tup [.ref ga,.ref l])) p8=_:=ah;have Vu:=ar.new Ny (.lst [.ref p8]);have sA:=sp.trans Vu;exact q (by show (f++[(p,g)]).length<=2000;lia) p9 _ _ _ (ux8.trans (.of sA)) (wt8.mono sA) (gc8.free d8 ux8 (sp.free Ny)) ah (d8.mono sA) (fa8.imp fun a xs h=>sA.cO h) ⟨p8,l,us,rfl,.of (Vu _ _ yp),DK.free d6 TK hl6,sA _ _ yl8,Ph.mono sA⟩
theorem yN(T:Tx K mg t):bt P w K mg base (o3 P w) 15 t.iF t.jt ["first", "led_from"] (CP P w K t.aH t.aX t.aC (eX aU) "told_apart.<locals>.<lambda>"):=by
 have Aa:=Fl (P:=P) (w:=w) (base:=base) T;refine T.gC.F.okX qS (fun vs H Q E h=>?_) (fun eY A outer s H vs Q E hr h=>?_)
 .obtain⟨_,_,_,_,_,_,_,_,_,_,_,rfl⟩:=h;rfl
 obtain⟨pa,fo,cc,b0,w1,s1,w2,s2,ip,av,aw,rfl,Wg,pat,q,qE⟩:=h;have nd:=qS.nd;have hu:=mD hr;refine⟨_,[some (.ref pa),some (.ref fo),none,none,none,none,none,none,none],(aj (lC 2 nd (xx (J:=qx)))
 (aj (lC 3 nd (bC Aa (hr.mono (by first|decide|omega)) rfl T.gD.m T.gD.F.kp T.gD.b .nil Kz (eL 0 (eL 1 (ae (aV ai) (eL 2 ai) dQ)))))
 (aj (w6 KA (BU (pv 3) (fun _=>rfl))
 (aj (lC 4 nd (bY ai))
 (aj (kJ KA rfl (eM (pv 3)) (DP rfl (mB (Jr 5 nd) (mB (Jr 6 nd) Aj)))
 (aA (kJ KA rfl (FV rfl T.lR (eL 6 ai)) (DP rfl (mB (Jr 7 nd) (mB (Jr 8 nd) Aj)))
 (aA (m8 (zr zbq zcq zcr uZ (pv 4) (ae (OQ (bC Aa (hr.mono (by first|decide|omega)) rfl T.gD.m T.gD.F.kp T.gD.b .nil Kz (eL 8 (eL 1 (ae (bg OB (pv 5) (aV (eL 7 ai))) (eL 2 ai) nv))))) ai ba)))))))
 (aA (lC 3 nd (pv 4))))))
 (aA (aQ (pv 2)))))),rfl,?_⟩
 have line:zdN=2 ^ 24:=rfl;refine ay fun U1 fQ=>?_;walk_at "rd";intro D hD yD;have ND:=Wg D hD;clear Wg;have li:∀s,wB av aw s->∀x∈ck av aw s,wB av aw x:=fun s h=>xO ND.d1 ND.d2 h;refine(fQ _ _).mpr (ay fun U2 iq=>?_);clear fQ;have d1:=EE (J:=qx) (P:=P) (w:=w) (K:=K) (H:=H) yD;have sD:=ar.new hD (.ext (iA qx P w D []));generalize upd H D (.ext (iA qx P w D []))=H1 at *;walk_at "rd";intro p hp;generalize e2:upd H1 p _=H2;have sp:=gT e2 hp;have yp:H2 p=some (.tup []):=by rw[<- e2];exact ah
 clear e2;have Wh:=sD.trans sp;have Wi:=AM ND.d1 ND.d2;have XH:=ND.mono Wh;have d2:=d1.mono sp;obtain⟨XI,gk2,gk3⟩:=nM li (m:=0) (fe av aw+1) [] (gN av aw) [] .nil Wi (zah _);refine⟨pa,fo,D,p,cc,b0,w1,s1,w2,s2,ip,av,aw,gN av aw,[],[],[],rfl,XH,pat.mono Wh,Wi,.of yp,d2,.nil,.nil,zaN _,fun hle L us aB H3 u3 NB hL yL d3 fa3 ak3=>(iq _ _).mpr (ay fun U3 lE=>?_),fun SV H9 u9=>qE (zat SV (rR _ _ _ _ _)) H9 (((o4.of Wh).trans u9).Zw hD)⟩;clear iq;have u03:o4 D s1 s2 H H3:=(o4.of Wh).trans u3;have gc3:=XH.up u3 NB;have QG:bH K H3 p (([]:List Int).map V.int):=XH.tup d2 u3 _ _ (.of yp);have as3:=ei.of1 (g:=[]) ak3 QG;refine EC fun Bd QM=>?_;walk_at "rd";have ef0:aO av aw=lL (ck av aw) (fe av aw+1) (fe av aw+2-0) (eV (ck av aw) (fe av aw+1) [] (gN av aw) []).1 (jQ [] (eV (ck av aw) (fe av aw+1) [] (gN av aw) []).2):=rfl;generalize hN:fe av aw=N at *;have Pj:∀ {f:cZ},jR (wB av aw) f->f.length<=N:=fun h=>by rw[<- hN];exact pO h
 obtain⟨Iv,QN,MN⟩:=Nq fun (m:Nat) (Y:St) (Hx:Hp) zq=>∀(z4 z5 z6 z7 z8:Option V) (L:zdF) (us:List V) (as:List (List Int×List br)) (f:cZ) (aB:List ((bA×bA)×V)) (lv:Nat),Y=[some (.ref pa),some (.ref fo),some (.ref D),some (.ref L),z4,z5,z6,z7,z8]->o4 D s1 s2 H Hx->GC P w K t.aH t.aX (eX aU) "told_apart.<locals>.<lambda>" Hx D b0 w1 s1 w2 s2 fo cc ip av aw->DS qx P w K Hx D aB->eW K Hx f aB->jR (wB av aw) f->Hx L=some (.lst us)->ei K Hx as us->mP (wB av aw) lv as->aO av aw=lL (ck av aw) (N+1) (N+2-lv) f as->(as≠[]->lv<f.length)->f.length<=2000->m=N+1-lv->zq;refine⟨Iv,⟨_,QN _ _ _ fun _ zk=>zk none none none none none L us _ _ aB 0 rfl u03 gc3 d3 fa3 XI yL as3 gk2 ef0 (fun h=>?_) hle rfl⟩,?_⟩
 .have:=zcf.mpr h;rw[zbI] at gk3;lia
 clear XI gk2 gk3 as3 QG u03 gc3 ak3 fa3 d3 yL hL u3 NB Wh yp sp d1 d2 sD hp XH ef0;intro m Y Hx hv;refine MN _ _ _ hv _ fun z4 z5 z6 z7 z8 L us as f aB lv ze ux TM dx fx ok yL asx QP ef hlv XE em=>?_;subst ze em;clear hv;have vB:as.length=us.length:=yah asx;have aar:=Pj ok;walk_at "rd";cases as with
 |nil=>
  have e0:us=[]:=zcx.mp vB.symm;subst e0;refine⟨false,.inl ⟨_,.of yL,rfl⟩,(ybR (by decide)).mpr ((lE _ _).mpr ?_)⟩;walk_at "rd";rw[IA] at ef;rw[ef] at q;exact q XE D aB Hx (ux.Zw hD) TM.wt hD dx fx
 |cons a0 XJ=>
 have Ek:(a0::XJ)≠[]:=by simp
 have hlv:=hlv Ek;obtain⟨u0,VN,rfl⟩:∃u0 VN,us=u0::VN:=by cases us with |nil=>cases vB |cons a b=>exact⟨_,_,rfl⟩
 refine⟨true,.inl ⟨_,.of yL,rfl⟩,(ybS rfl).mpr ?_⟩;have ef:aO av aw=lL (ck av aw) (N+1) (N+2-(lv+1)) (bI (ck av aw) (N+1) f (aZ (a0::XJ))).1 (bI (ck av aw) (N+1) f (aZ (a0::XJ))).2:=by
  rw[ef,show N+2-lv=(N+2-(lv+1))+1 by lia,lL,ybR Ek]
 generalize a0::XJ=as at *;generalize u0::VN=us at *;refine⟨Iv (N+1-(lv+1)),fun Y' H' h=>⟨_,by lia,h⟩,?_⟩;refine QM _ _ _ (ay fun V1 MO=>?_);clear QM lE;walk_at "rd";intro b hb;refine(MO _ _).mpr (ay fun V2 XF=>?_);clear MO;have sb:=ar.new hb (.lst []);have yb:(upd Hx b (.lst [])) b=some (.lst []):=ah;have yL1:(wo (upd Hx b (.lst [])) b) L=some (.lst us):=by rw[fc];exact Gm (ar.refl _) hb _ _ yL
 have as1:ei K (wo (upd Hx b (.lst [])) b) as us:=by rw[fc];exact asx.mono (Gm (ar.refl _) hb)
 have hb0:H b=none:=TM.free dx ux hb;have SS:=dx.mono sb;have fx1:=fx.imp fun a xs h=>sb.cO h;have ux1:=ux.trans (.of sb);have gc1:=ui.new TM.wt hb (o:=.lst []);have Hg:D≠b/\s1≠b/\s2≠b:=by
  obtain⟨φ,e⟩:=dx.oY;obtain⟨M,e1⟩:=TM.wt.one.uU;obtain⟨χ,e2⟩:=TM.wt.two.uU;exact⟨ag e hb,ag e1 hb,ag e2 hb⟩
 generalize upd Hx b (.lst [])=H1 at *;clear dx fx ux TM asx yL sb hb;refine tO fun U hU=>?_;walk_at "rd";refine⟨⟨us,.of (mO _ _ yL1)⟩,hU _ _ ?_⟩;clear hU;have gok:∀i,jR (wB av aw) (bI (ck av aw) (N+1) f (aZ (as.take i))).1/\mP (wB av aw) (lv+1) (bI (ck av aw) (N+1) f (aZ (as.take i))).2/\f.length+(bI (ck av aw) (N+1) f (aZ (as.take i))).2.length<=(bI (ck av aw) (N+1) f (aZ (as.take i))).1.length:=fun i=>mQ li _ _ ok (kR (m:=lv) ⟨fun a ha=>QP.Gw a (zby ha),fun a ha=>QP.len a (zby ha)⟩);obtain⟨Pv,qB,oC⟩:=Nq fun (i:Nat) (Y:St) (H5:Hp) zq=>∀(z5 z6 z7 z8:Option V) (yv:List V) (bs:List (List Int×List br)) (f5:cZ) (IW:List ((bA×bA)×V)),Y=[some (.ref pa),some (.ref fo),some (.ref D),some (.ref L),some (.ref b),z5,z6,z7,z8]->o4 D s1 s2 H H5->ui P w K t.aH t.aX b H5 b0 w1 s1 w2 s2 av aw->DS qx P w K H5 D IW->eW K H5 f5 IW->(wo H5 b) L=some (.lst us)->ei K (wo H5 b) as us->H5 b=some (.lst yv)->ei K (wo H5 b) bs yv->bI (ck av aw) (N+1) f (aZ (as.take i))=(f5,bs)->f5.length<=2000->zq;refine pe (K:=K) (a:=L) (xs:=us) Pv (qB _ _ _ fun _ zk=>zk _ _ _ _ [] [] f aB rfl ux1 gc1 SS fx1 yL1 as1 yb .nil rfl XE) (fun i Y H5 _ hv=>?_) ?_ ?_
 .exact oC _ _ _ hv _ fun _ _ _ _ _ _ _ _ _ _ _ _ _ Wj _ _ _ _ _=>.of (mO _ _ Wj)
 .intro i y Y H5 hi hv;refine oC _ _ _ hv _ fun z5 z6 z7 z8 yv bs f5 IW ze u5 XM d5 XN Wj XO XQ XR e5 hf5=>?_;subst ze;clear hv;obtain⟨a,ha,ta,ga,la,MQ,rfl,q1,q2,q3,q4⟩:=fG XO hi;have XS:a∈as:=zaD ha;have hll:a.2.length=MQ.length:=yah q4;refine⟨ta,_,rfl,mO.cO q1,rfl,_,_,rfl,_,_,rfl,rfl,?_⟩;simp only[zbV];refine LK fun U hU=>?_;walk_at "rd";refine⟨la,rfl,⟨MQ,.of (mO _ _ q3)⟩,hU _ _ ?_⟩;clear hU;obtain⟨Pw,MR,Fm⟩:=Nq fun (j:Nat) (Y:St) (H6:Hp) zq=>∀(z7 z8:Option V) (yv:List V) (bs:List (List Int×List br)) (f6:cZ) (IX:List ((bA×bA)×V)),Y=[some (.ref pa),some (.ref fo),some (.ref D),some (.ref L),some (.ref b),some (.ref ga),some (.ref la),z7,z8]->o4 D s1 s2 H H6->ui P w K t.aH t.aX b H6 b0 w1 s1 w2 s2 av aw->DS qx P w K H6 D IX->eW K H6 f6 IX->(wo H6 b) L=some (.lst us)->ei K (wo H6 b) as us->H6 b=some (.lst yv)->ei K (wo H6 b) bs yv->bH K (wo H6 b) ga (a.1.map V.int)->(wo H6 b) la=some (.lst MQ)->gH K (wo H6 b) a.2 MQ->bI (ck av aw) (N+1) f (aZ (as.take i)++eG a j)=(f6,bs)->f6.length<=2000->zq;refine B8 (K:=K) (a:=la) (xs:=MQ) Pw (MR _ _ _ fun _ zk=>zk _ _ yv bs f5 IW rfl u5 XM d5 XN Wj XO XQ XR q2 q3 q4 (by rw[show eG a 0=[] from rfl,zaM];exact e5) hf5) ?_ ?_ ?_
  .intro j Y H6 _ hv;exact Fm _ _ _ hv _ fun _ _ _ _ _ _ _ _ _ _ _ _ _ _ _ _ yl _ _ _=>.of (mO _ _ yl)
  .intro j x Y H6 pp hx hv IM;clear q1 q2 q3 q4 e5 XR XQ XO Wj XN d5 u5 XM;refine Fm _ _ _ hv _ fun z7 z8 yv bs f6 IX ze u6 DK d6 XT yL6 as6 yb6 XU q2 q3 q4 e6 hf6=>?_;subst ze;clear hv;have lj:j<a.2.length:=by have:=(zap.mp hx).1;lia
   obtain⟨t1,ht1,xa,rfl,AB⟩:=fG q4 hx;have Wk:=mQ li (n:=N+1) (m:=lv+1) (aZ (as.take i)++eG a j) f ok fun x hx=>by
    rcases zan.mp hx with hx |hx
    .exact kR (m:=lv) ⟨fun a ha=>QP.Gw a (zby ha),fun a ha=>QP.len a (zby ha)⟩ x hx
    .exact CJ (m:=lv) (QP.Gw a XS) (QP.len a XS) (by lia) x hx
   rw[e6] at Wk;obtain⟨Wl,_,ln6⟩:=Wk;have Wl:jR (wB av aw) f6:=Wl;have ln6:f.length+bs.length<=f6.length:=ln6;have agb:=Pj Wl;have s7:=ar.new IM (.tup [.int j,.ref xa]);have ypp:(upd H6 pp (.tup [.int j,.ref xa])) pp=_:=ah;generalize upd H6 pp (.tup [.int j,.ref xa])=H7 at *;refine⟨pp,_,rfl,.of ypp,rfl,?_⟩;refine⟨_,_,rfl,_,_,rfl,rfl,?_⟩;simp only[zbV];walk_at "rd";simp only[Qy];walk_at "rd";have yb7:=s7 _ _ yb6;refine⟨.inl ⟨rfl,_,.of yb7⟩,b,yv,yb7,fun o p hp=>?_⟩;have uG:bf b H7 (upd H7 b (cQ b o)):=(bf.refl _ _).put _;have tG:∀c xs,bH K H6 c xs->bH K (upd H7 b (cQ b o)) c xs:=fun c xs h=>(s7.cO h).Ls yb7 uG;have ybG:(upd H7 b (cQ b o)) b=some (cQ b o):=ah;have wtG:=(DK.mono s7).get Hg.2.1 Hg.2.2 uG;have dG:=d6.oX (H':=upd H7 b (cQ b o)) (fun x h=>uG _ _ Hg.1 (s7 _ _ h)) tG;have sG:ar (wo H6 b) (wo (upd H7 b (cQ b o)) b):=by rw[fc];exact qj s7
   have u0G:o4 D s1 s2 H (upd H7 b (cQ b o)):=fun z x n1 n2 n3 e=>uG z x (ag e hb0) (s7 _ _ (u6 z x n1 n2 n3 e));have f6G:=XT.imp tG;have stG:=(AB.mono mO).oX tG;clear s7 uG DK d6 XT ypp IM AB;generalize upd H7 b (cQ b o)=G7 at *;have s8:=ar.new hp (.tup [.int j]);have yp:(upd G7 p (.tup [.int j])) p=_:=ah;generalize upd G7 p (.tup [.int j])=G8 at *;have la1:=QP.len a XS;refine⟨ga,p,_,_,rfl,rfl,s8.cO (tG _ _ (mO.cO q2)),.of yp,by rw[zac,zaT];lia,fun gp H9 s9 XW=>?_⟩;have SW:=s8.trans s9;have u09:=u0G.trans (.of SW);have XW:bH K H9 gp ((a.1++[((j:Nat):Int)]).map V.int):=by rw[zaC];exact XW
   clear s8 s9 yp hp;have XD:wB av aw t1:=QP.Gw a XS t1 (zaD ht1);have Wm:=ND.up u09 (wtG.mono SW);have d9:=dG.mono SW;have f9a:=f6G.imp (H':=H9) fun a xs h=>SW.cO h;have eb9:=SW _ _ ybG;have e7:(bI (ck av aw) (N+1) f (aZ (as.take i)++eG a (j+1)))=((eV (ck av aw) (N+1) f6 t1 (a.1++[((j:Nat):Int)])).1,bs++jQ (a.1++[((j:Nat):Int)]) (eV (ck av aw) (N+1) f6 t1 (a.1++[((j:Nat):Int)])).2):=by
    rw[yG,<- zaY,rQ,e6];have:a.2.getD j ((0,[]),(0,[]))=t1:=by rw[zal,ht1];rfl
    simp only[this,EU]
   have grow:(eV (ck av aw) (N+1) f6 t1 (a.1++[((j:Nat):Int)])).1.length<=(aO av aw).length:=by
    obtain⟨r,er⟩:=CL ha (j:=j) (by lia);have h1:=pN (ck av aw) (N+1) r (bI (ck av aw) (N+1) f (aZ (as.take i)++eG a (j+1))).1;rw[ef];refine zax ?_ (rR _ _ _ _ _);rw[er,rQ];refine zax ?_ h1;rw[e7];exact zah _
   refine⟨xa,fo,D,gp,cc,b0,w1,s1,w2,s2,ip,av,aw,t1,f6,a.1++[((j:Nat):Int)],IX,rfl,Wm,stG.mono SW,XD,XW,d9,f9a,Wl,hf6,fun hle L9 Wn aaK HA uA wtA hL9 yL9 dA fA akA=>?_,fun SV HA uA=>qE (by rw[hN] at SV;lia) HA ((u09.trans uA).Zw hD)⟩;rw[hN] at fA akA hle;have tA:=Wm.tup d9 uA;have lA:=Wm.lst d9 uA;have XX:HA b=some (cQ b o):=uA _ _ Hg.1.symm Hg.2.1.symm Hg.2.2.symm eb9;refine⟨XX,?_⟩;have u0A:=u09.trans uA;obtain⟨XI,gk2,gk3⟩:=nM li (m:=lv+1) (N+1) f6 t1 (a.1++[((j:Nat):Int)]) Wl XD (by rw[zai,zaT];lia);have agm:=Pj XI;have Tw:=ei.of akA (tA _ _ XW) (by rw[eb9];simp) (fun c xs h=>h.mL XX wQ);have lb:bs.length=yv.length:=yah XU;have l9:=yah Tw;have nL9:L9≠b:=(ag eb9 hL9).symm;refine⟨b,L9,yv,Wn,rfl,rfl,ah,by rw[au nL9];exact yL9,by lia,?_⟩;have uB:bf b HA (upd (upd HA b (.lst yv)) b (.lst (yv++Wn))):=((bf.refl _ _).put _).put _;have tB:∀c xs,bH K HA c xs->bH K (upd (upd HA b (.lst yv)) b (.lst (yv++Wn))) c xs:=fun c xs h=>h.mL XX uB;have sw:ar (wo H6 b) (wo H9 b):=sG.trans (qj SW);have uw:o4 D s1 s2 (wo H9 b) (wo HA b):=fun c o n1 n2 n3 e=>by
    have nc:c≠b:=fun z=>by rw[z,cW] at e;cases e
    rw[bE nc] at e |-;exact uA c o n1 n2 n3 e
   have tW:∀c xs,bH K (wo H6 b) c xs->bH K (wo HA b) c xs:=fun c xs h=>by
    obtain⟨φ,e0⟩:=d9.oY;obtain⟨M,e1⟩:=Wm.wt.one.uU;obtain⟨χ,e2⟩:=Wm.wt.two.uU;exact bH.up3 (sw.cO h) (by rw[bE Hg.1];exact e0) (by rw[bE Hg.2.1];exact e1) (by rw[bE Hg.2.2];exact e2) uw
   have lW:∀c xs,(wo H6 b) c=some (.lst xs)->(wo HA b) c=some (.lst xs):=fun c xs h=>by
    have e:=sw _ _ h;have nc:c≠b:=fun z=>by rw[z,cW] at h;cases h
    rw[bE nc] at e |-;exact lA _ _ e
   have u0B:o4 D s1 s2 H (upd (upd HA b (.lst yv)) b (.lst (yv++Wn))):=fun z o n1 n2 n3 e=>uB z o (ag e hb0) (u0A z o n1 n2 n3 e);refine MR _ _ _ fun _ zk=>zk _ _ (yv++Wn) (bs++jQ (a.1++[((j:Nat):Int)]) (eV (ck av aw) (N+1) f6 t1 (a.1++[((j:Nat):Int)])).2) _ aaK rfl u0B (ui.of wtA XX Hg.2.1 Hg.2.2 uB) (dA.oX (fun o h=>uB _ _ Hg.1 h) tB) (fA.imp tB) ?_ ?_ ah ?_ ?_ ?_ ?_ e7 hle
   .rw[fc,fc];exact lW _ _ yL6
   .rw[fc,fc];exact as6.imp tW lW
   .rw[fc,fc];exact xG (XU.imp tW lW) Tw
   .rw[fc,fc];exact tW _ _ q2
   .rw[fc,fc];exact lW _ _ q3
   .rw[fc,fc];exact q4.oX tW
  .intro Y H6 hv;refine Fm _ _ _ hv _ fun z7 z8 yv bs f6 IX ze u6 DK d6 XT yL6 as6 yb6 XU q2 q3 q4 e6 hf6=>?_;subst ze;refine qB _ _ _ fun _ zk=>zk _ _ _ _ yv bs f6 IX rfl u6 DK d6 XT yL6 as6 yb6 XU ?_ hf6;rw[zcB,ha,zcZ,uh,hll];exact e6
 .intro Y H5 hv;refine oC _ _ _ hv _ fun z5 z6 z7 z8 yv bs f5 IW ze u5 XM d5 XN Wj XO XQ XR e5 hf5=>?_;subst ze;refine(XF _ _).mpr ?_;walk_at "rd";have g5:=gok us.length;rw[<- vB,zbF] at e5 g5;rw[e5] at g5 ef;obtain⟨ok5,ao5,ln5⟩:=g5;have ln5:f.length+bs.length<=f5.length:=ln5;refine QN _ _ _ fun _ zk=>zk _ _ _ _ _ b yv bs f5 IW (lv+1) rfl u5 (ND.up u5 (XM.get Hg.2.1 Hg.2.2 (.refl _ _))) d5 XN ok5 XQ (XR.mono mO) ao5 ef (fun h=>?_) hf5 rfl;have:=zcf.mpr h;lia
theorem vK:∀s:cJ,(V.str (vT s.wd)=V.str (zab "while"))↔s.wd=.mF:=by
 intro s;cases s<;>simp only[cJ.wd]<;>decide +kernel
theorem Bf:∀s:cJ,(V.str (vT s.wd)=V.str (zab "if"))↔s.wd=.ifs:=by
 intro s;cases s<;>simp only[cJ.wd]<;>decide +kernel
theorem Hh:∀s:cJ,(V.str (vT s.wd)=V.str (zab "stop"))↔s.wd=.stop:=by
 intro s;cases s<;>simp only[cJ.wd]<;>decide +kernel
theorem Hi(h:aL K H (d0::d1::d2::d3::d4::d5::ds) xs):∃v0 v1 v2 v3 v4 v5 r,xs=v0::v1::v2::v3::v4::v5::r/\Rep K H d5 v5/\aL K H ds r:=by
 rw[aL.aP] at h;obtain⟨v0,t0,rfl,_,h⟩:=h;rw[aL.aP] at h;obtain⟨v1,t1,rfl,_,h⟩:=h;rw[aL.aP] at h;obtain⟨v2,t2,rfl,_,h⟩:=h;rw[aL.aP] at h;obtain⟨v3,t3,rfl,_,h⟩:=h;rw[aL.aP] at h;obtain⟨v4,t4,rfl,_,h⟩:=h;rw[aL.aP] at h;obtain⟨v5,t5,rfl,e5,h⟩:=h;exact⟨v0,v1,v2,v3,v4,v5,t5,rfl,e5,h⟩
theorem kE(T:Tx K mg t):bt P w K mg base fR 1 t.cH t.cA ["body", "behind"] (kh K):=by
 refine T.eZ.F.qL uq (fun vs H Q E h=>?_) (fun eY A outer s H vs Q E hr h=>?_)
 .obtain⟨_,_,_,rfl,_⟩:=h;rfl
 obtain⟨b,body,x,rfl,rb,lb,q⟩:=h;have nd:=uq.nd;refine⟨_,[some (V.ref b),some (V.int x)],(aj (bL (BU (pv 0) (fun _=>rfl))
 (aA (aQ (aJ aN (aJ dy (pv 0) ao aq) ao aq)))
 a8)
 (aA (aQ (pv 1)))),rfl,?_⟩
 walk_at "rd";rw[Rep.bG] at rb;obtain⟨_,xs,e,hx,rs⟩:=rb;cases e;have line:zdN=2 ^ 24:=rfl;cases body with
 |nil=>
  rw[za8,aL.bQ] at rs;subst rs;exact⟨false,.inl ⟨_,hx,rfl⟩,q⟩
 |cons st r=>
  rw[zas,aL.aP] at rs;obtain⟨v,t,rfl,rv,rs⟩:=rs;obtain⟨a,ys,rfl,hs⟩:=iZ st rv;refine⟨true,.inl ⟨_,hx,rfl⟩,?_⟩;refine(ybS rfl).mpr (cT (v:=.ref a) hx (az (j:=0) rfl) ?_);exact aI hs (v:=.int st.row) (az (j:=1) rfl) q
theorem yj(T:Tx K mg t):bt P w K mg base fR 1 t.fH t.fT ["statement", "after"] (xl K):=by
 refine T.jy.F.qL pZ (fun vs H Q E h=>?_) (fun eY A outer s H vs Q E hr h=>?_)
 .obtain⟨_,_,_,rfl,_⟩:=h;rfl
 obtain⟨v,st,x,rfl,rv,q⟩:=h;have nd:=pZ.nd;refine⟨_,[some v,some (V.int x)],(aj (bL (aW dO (aJ aN (pv 0) ao aq) bo (aY _))
 (aA (aQ (aJ aN (pv 0) ao aq)))
 a8)
 (aA (aQ (pv 1)))),rfl,?_⟩
 obtain⟨a,ys,rfl,hs⟩:=iZ st rv;walk_at "rd";refine aI hs (az (j:=0) rfl) ⟨rfl,kM (fun e=>?_) (fun e=>?_)⟩
 .have ew:=(vK st).mp e;refine aI hs (v:=.int st.row) (az (j:=1) rfl) ?_;cases st<;>first |exact q |cases ew
 .have ew:st.wd≠.mF:=fun z=>e ((vK st).mpr z);cases st<;>first |exact q |exact ybX rfl ew
theorem uO(T:Tx K mg t):bt P w K mg base fR 1 t.fU t.gB ["statement"] (tP K):=by
 refine T.jN.F.qL ur (fun vs H Q E h=>?_) (fun eY A outer s H vs Q E hr h=>?_)
 .obtain⟨_,_,_,rfl,_⟩:=h;rfl
 obtain⟨v,st,H0,rfl,rv,s0,q⟩:=h;have nd:=ur.nd;refine⟨_,[some v],(aj (bL (aW dO (aJ aN (pv 0) ao aq) bo (aY _))
 (aA (aQ (bY (ae (aJ aN (pv 0) ao aq) (ae (aJ aN (pv 0) ao aq) ai a7) a7))))
 a8)
 (aj (bL (aW dO (aJ aN (pv 0) ao aq) bo (aY _))
 (aA (aQ (bY (ae (aJ aN (pv 0) ao aq) ai a7))))
 a8)
 (aA (aQ (bY ai))))),rfl,?_⟩
 obtain⟨a,ys,rfl,hs⟩:=iZ st rv;have hs:=s0.cO hs;walk_at "rd";refine aI hs (az (j:=0) rfl) ⟨rfl,kM (fun e=>?_) (fun e=>aI hs (az (j:=0) rfl) ⟨rfl,kM (fun e2=>?_) (fun e2=>?_)⟩)⟩
 .have ew:=(Bf st).mp e;cases st<;>first |(exfalso;cases ew;done) |skip
  rename_i k sg l r x y;rw[jC,Rep.aT] at rv;obtain⟨_,xs,e0,hx,rs⟩:=rv;cases e0;obtain⟨v0,v1,v2,v3,v4,v5,rr,rfl,r5,rs⟩:=Hi rs;rw[aL.aP] at rs;obtain⟨v6,t6,rfl,r6,_⟩:=rs;refine aI (s0.cO hx) (v:=v5) (az (j:=5) rfl) (aI (s0.cO hx) (v:=v6) (az (j:=6) rfl) fun p hp=>?_);rw[pE] at r5 r6;exact q p _ _ (ar.new hp _) hp ah (.cons r5 (.cons r6 .nil))
 .have ew:=(vK st).mp e2;cases st<;>first |(exfalso;cases ew;done) |skip
  rename_i k sg l r x;rw[jC,Rep.aT] at rv;obtain⟨_,xs,e0,hx,rs⟩:=rv;cases e0;obtain⟨v0,v1,v2,v3,v4,v5,rr,rfl,r5,rs⟩:=Hi rs;refine aI (s0.cO hx) (v:=v5) (az (j:=5) rfl) fun p hp=>?_;rw[pE] at r5;exact q p _ _ (ar.new hp _) hp ah (.cons r5 .nil)
 .intro p hp;have e1:st.wd≠.ifs:=fun z=>e ((Bf st).mpr z);have e2':st.wd≠.mF:=fun z=>e2 ((vK st).mpr z);refine q p [] _ (ar.new hp _) hp ah ?_;cases st<;>first |exact .nil |exact ybX rfl e1 |exact ybX rfl e2'
theorem Fn(T:Tx K mg t):bt P w K mg base fR 2 t.kG t.kW ["statement", "after"] (En K):=by
 have bJ:bt P w K mg base fR 1 t.cH t.cA ["body", "behind"] (kh K):=kE T;refine T.qp.F.qL xU (fun vs H Q E h=>?_) (fun eY A outer s H vs Q E hr h=>?_)
 .obtain⟨_,_,_,rfl,_⟩:=h;rfl
 obtain⟨v,st,x,rfl,rv,hl,q⟩:=h;have nd:=xU.nd;obtain⟨MI,ye,yf⟩:=T.A7;refine⟨_,[some v,some (V.int x),none],(aj (lC 2 nd (aJ aN (pv 0) ao aq))
 (aj (bL (aW dO (pv 2) bo (aY _))
 (aA (aQ (aV (ae (dq rfl ye yf) ai aD))))
 a8)
 (aj (bL (aW dO (pv 2) bo (aY _))
 (aA (aQ (aV (ae (lJ bJ T.eZ hr (ae (aJ aN (pv 0) ao aq) (eL 1 ai) a7)) (ae (lJ bJ T.eZ hr (ae (aJ aN (pv 0) ao aq) (eL 1 ai) a7)) ai ba) ba))))
 a8)
 (aj (bL (aW dO (pv 2) bo (aY _))
 (aA (aQ (aV (ae (lJ bJ T.eZ hr (ae (aJ aN (pv 0) ao aq) (ae (aJ aN (pv 0) ao aq) ai a7) a7)) (eL 1 ai) ba))))
 a8)
 (aA (aQ (aV (eL 1 ai)))))))),rfl,?_⟩
 obtain⟨a,ys,rfl,hs⟩:=iZ st rv;refine ay fun U1 fQ=>?_;walk_at "rd";refine aI hs (az (j:=0) rfl) ((fQ _ _).mpr ?_);walk_at "rd";have MS:∀b∈aS st,b.length<=100000:=hl;refine kM (fun e=>?_) (fun e=>kM (fun e1=>?_) (fun e1=>kM (fun e2=>?_) (fun e2=>?_)))
 .have ew:=(Hh st).mp (by rw[e]);cases st<;>first |(exfalso;cases ew;done) |skip
  intro p hp;exact q _ _ (ar.new hp _) (Rep.new hp (.cons (Rep.bD.mpr rfl) .nil))
 .have ew:=(Bf st).mp (by rw[e1]);cases st<;>first |(exfalso;cases ew;done) |skip
  rename_i k sg l r y z;rw[jC,Rep.aT] at rv;obtain⟨_,xs,e0,hx,rs⟩:=rv;cases e0;obtain⟨v0,v1,v2,v3,v4,v5,rr,rfl,r5,rs⟩:=Hi rs;rw[aL.aP] at rs;obtain⟨v6,t6,rfl,r6,_⟩:=rs;rw[pE] at r5 r6;obtain⟨a5,_,rfl,_⟩:=Rep.bG.mp r5;obtain⟨a6,_,rfl,_⟩:=Rep.bG.mp r6;refine aI hx (v:=.ref a5) (az (j:=5) rfl) ⟨a5,y,x,rfl,r5,MS y (by simp[aS]),aI hx (v:=.ref a6) (az (j:=6) rfl) ⟨a6,z,x,rfl,r6,MS z (by simp[aS]),fun p hp=>?_⟩⟩;exact q _ _ (ar.new hp _) (Rep.new hp (.cons (Rep.bD.mpr rfl) (.cons (Rep.bD.mpr rfl) .nil)))
 .have ew:=(vK st).mp (by rw[e2]);cases st<;>first |(exfalso;cases ew;done) |skip
  rename_i k sg l r y;rw[jC,Rep.aT] at rv;obtain⟨_,xs,e0,hx,rs⟩:=rv;cases e0;obtain⟨v0,v1,v2,v3,v4,v5,rr,rfl,r5,rs⟩:=Hi rs;rw[pE] at r5;obtain⟨a5,_,rfl,_⟩:=Rep.bG.mp r5;refine aI hx (v:=.ref a5) (az (j:=5) rfl) (aI hs (v:=.int k) (az (j:=1) rfl) ⟨a5,y,k,rfl,r5,MS y (by simp[aS]),fun p hp=>?_⟩);exact q _ _ (ar.new hp _) (Rep.new hp (.cons (Rep.bD.mpr rfl) (.cons (Rep.bD.mpr rfl) .nil)))
 .intro p hp;have n1:st.wd≠.stop:=fun z=>e (V.str.inj ((Hh st).mpr z));have n2:st.wd≠.ifs:=fun z=>e1 (V.str.inj ((Bf st).mpr z));have n3:st.wd≠.mF:=fun z=>e2 (V.str.inj ((vK st).mpr z));have ew:pF st x=[x]:=by
   cases st<;>first |rfl |exact ybX rfl n1 |exact ybX rfl n2 |exact ybX rfl n3
  rw[ew] at q;exact q _ _ (ar.new hp _) (Rep.new hp (.cons (Rep.bD.mpr rfl) .nil))
theorem MT(T:Tx K mg t)(bB:bt P w K mg base fR (n+2) t.bj t.bq ["body"] (jk K n)) :
 bt P w K mg base fR (n+3) t.bj t.bq ["body"] (jk K (n+1)):=by
 have qc:bt P w K mg base fR 1 t.fU t.gB ["statement"] (tP K):=uO T;refine T.fE.F.qL mT (fun vs H Q E h=>?_) (fun eY A outer s H vs Q E hr h=>?_)
 .obtain⟨_,_,_,rfl,_⟩:=h;rfl
 obtain⟨b,body,H0,rfl,s0,rb,hd,hf,q⟩:=h;have nd:=mT.nd;refine⟨_,[some (V.ref b),none,none,none],(aj (lC 1 nd (bY ai))
 (aj (kJ yaG rfl (eM (pv 0)) (Jr 2 nd)
 (aj (m8 (zr zbq zcs zct qe (pv 1) (eL 2 ai)))
 (aA (kJ yaG rfl (eM (lJ qc T.jN hr (eL 2 ai))) (Jr 3 nd)
 (aA (m8 (zr zbq zcq zcr uZ (pv 1) (ae (lJ bB T.fE hr (eL 3 ai)) ai ba))))))))
 (aA (aQ (pv 1))))),rfl,?_⟩
 have line:zdN=2 ^ 24:=rfl;rw[Rep.bG] at rb;obtain⟨_,xs,e,hx,rs⟩:=rb;cases e;have lx:xs.length=body.length:=by rw[rs.length,zac]
 have lb:=mG body;have sl:=Cb body;refine ay fun U1 fQ=>?_;walk_at "rd";intro d XY;have s1:=ar.new XY (.lst []);have y1:(upd H d (.lst [])) d=some (.lst []):=ah;generalize upd H d (.lst [])=H1 at *;refine(fQ _ _).mpr (ay fun U2 iq=>?_);clear fQ;refine tO fun U hU=>?_;walk_at "rd";refine⟨⟨xs,(s0.trans s1).seq hx⟩,hU _ _ ?_⟩;clear hU;obtain⟨Pv,qB,oC⟩:=Nq fun (i:Nat) (G:St) (H3:Hp) zq=>∀(z2 z3:Option V) (us:List V),G=[some (V.ref b),some (V.ref d),z2,z3]->ar H H3->us.length=(aE (body.take i)).length->H3 d=some (.lst us)->aL K H0 ((aE (body.take i)).map jC) us->zq;refine pe (K:=K) (a:=b) (xs:=xs) Pv ((qB _ _ _ fun _ zk=>zk none none [] rfl s1 rfl y1 .nil)) (fun i G H3 _ hv=>?_) ?_ ?_
 .refine oC _ _ _ hv _ fun _ _ _ _ s3 _ _ _=>?_;exact(s0.trans s3).seq hx
 .intro i y G H3 hi hv;refine oC _ _ _ hv _ fun z2 z3 us ze1 s3 lu y3 r3=>?_;subst ze1;clear hv;have done:=fun G H7=>qB (i+1) G H7;have li:i<body.length:=by have:=(zap.mp hi).1;lia
  obtain⟨v,hv,rv⟩:=rs.get (i:=i) (d:=jC body[i]) (by rw[zar,zad li];rfl);rw[hi] at hv;cases hv;have mem:body[i]∈body:=zaw li;obtain⟨fm,dm⟩:=vk body _ mem;have et:aE (body.take (i+1))=aE (body.take i)++body[i]::(aS body[i]).flatMap aE:=by
   rw[zcJ li,L2.pG,K0,Oh]
  rw[et] at done;have eb:aE body=(aE (body.take i)++body[i]::(aS body[i]).flatMap aE)++aE (body.drop (i+1)):=by
   rw[<- et,<- L2.pG,zbl]
  rw[eb] at sl;have sl:(aE (body.take i)++body[i]::(aS body[i]).flatMap aE).length<=1000:=by
   rw[zai] at sl;lia
  generalize body[i]=st at *;generalize aE (body.take i)=pre at *;simp only[gE,zbV];refine ay fun U3 lE=>?_;walk_at "rd";refine⟨.inl ⟨rfl,_,.of y3⟩,d,us,y,rfl,rfl,y3,by simp only[zai,zaq] at sl;lia,(lE _ _).mpr ?_⟩;clear lE;have y4:(upd H3 d (.lst (us++[y]))) d=some (.lst (us++[y])):=ah;have s4:ar H (upd H3 d (.lst (us++[y]))):=fun z o e=>by rw[au (ag e XY)];exact s3 z o e
  generalize upd H3 d (.lst (us++[y]))=H4 at *;refine tO fun U hU=>?_;walk_at "rd";refine⟨y,st,H0,rfl,rv,s0.trans s4,fun p bv H5 s5' hp h5 rc=>⟨p,rfl,⟨_,.of h5⟩,hU _ _ ?_⟩⟩;clear hU;have s5:=s4.trans s5';have y5:=s5' _ _ y4;have npd:p≠d:=(ag y4 hp).symm;have lbv:bv.length=(aS st).length:=by rw[rc.length,zac]
  obtain⟨Pw,MR,Fm⟩:=Nq fun (j:Nat) (G:St) (H6:Hp) zq=>∀(z3:Option V) (DL:List V),G=[some (V.ref b),some (V.ref d),some y,z3]->ar H H6->H6 p=some (.lst bv)->DL.length=(pre++st::((aS st).take j).flatMap aE).length->H6 d=some (.lst DL)->aL K H0 ((pre++st::((aS st).take j).flatMap aE).map jC) DL->zq;refine pe (K:=K) (a:=p) (xs:=bv) Pw ((MR _ _ _ fun _ zk=>zk z3 (us++[y]) rfl s5 h5 (by simp[lu]) y5 ?_)) (fun j G H6 _ hv=>?_) ?_ ?_
  .rw[List.take_zero,zdd,zaC];exact r3.append (.cons rv .nil)
  .refine Fm _ _ _ hv _ fun _ _ _ _ h6 _ _ _=>?_;exact .of h6
  .intro j y' G H6 hj hv;refine Fm _ _ _ hv _ fun z3' DL ze1 s6 h6 lu6 y6 r6=>?_;subst ze1;clear hv;have QQ:=fun G H7=>MR (j+1) G H7;have lj:j<(aS st).length:=by have:=(zap.mp hj).1;lia
   obtain⟨v,hv,rbj⟩:=rc.get (i:=j) (d:=.lst ((aS st)[j].map jC)) (by rw[zar,zad lj];rfl);rw[hj] at hv;cases hv;have mj:(aS st)[j]∈aS st:=zaw lj;obtain⟨fb,db⟩:=nE st _ mj;have ej:((aS st).take (j+1)).flatMap aE=((aS st).take j).flatMap aE++aE (aS st)[j]:=by
    rw[zcJ lj,zbY];simp
   have ea:(aS st).flatMap aE=((aS st).take j).flatMap aE++aE (aS st)[j]++((aS st).drop (j+1)).flatMap aE:=by
    rw[<- ej,<- zbY,zbl]
   rw[ej] at QQ;rw[ea] at sl;generalize (aS st)[j]=bb at *;generalize ((aS st).take j).flatMap aE=mid at *;generalize ((aS st).drop (j+1)).flatMap aE=rest at *;have Uq:(pre++st::mid).length+(aE bb).length<=1000:=by
    simp only[zai,zaq] at sl |-;lia
   obtain⟨ab,_,rfl,_⟩:=Rep.bG.mp rbj;simp only[gE,zbV];walk_at "rd";refine⟨.inl ⟨rfl,_,.of y6⟩,ab,bb,H0,rfl,s0.trans s6,rbj,by lia,by lia,fun d2 Ln H7 s7 hd2 y7 r7=>?_⟩;have l2:Ln.length=(aE bb).length:=by rw[r7.length,zac]
   refine⟨d,d2,_,_,rfl,rfl,s7 _ _ y6,y7,by lia,?_⟩;refine QQ _ _ (fun _ zk=>zk _ (DL++Ln) rfl (fun z o e=>by rw[au (ag e XY)];exact s7 _ _ (s6 z o e)) (by rw[au npd];exact s7 _ _ h6) (by simp only[zai,zaq] at *;lia) ah ?_);rw[show pre++st::(mid++aE bb)=(pre++st::mid)++aE bb by simp,zaC];exact r6.append r7
  .intro G H6 hv;refine Fm _ _ _ hv _ fun z3' DL ze2 s6 h6 lu6 y6 r6=>?_;subst ze2;rw[lbv,zbF] at lu6 r6;exact done _ _ (fun _ zk=>zk _ _ DL rfl s6 lu6 y6 r6)
 .intro G H3 hv;refine oC _ _ _ hv _ fun z2 z3 us ze2 s3 lu y3 r3=>?_;subst ze2;rw[lx,zbF] at lu r3;refine(iq _ _).mpr ?_;walk_at "rd";exact q d us H3 s3 XY y3 r3
theorem vL(T:Tx K mg t):∀n,bt P w K mg base fR (n+2) t.bj t.bq ["body"] (jk K n)
 |0=>by
  have no:∀vs H Q E,¬jk K 0 vs H Q E:=fun vs H Q E h=>by cases h;lia
  exact⟨fun vs H Q E h=>ybX h (no vs H Q E),fun A outer s H args us vs Q E _ _ _ _ h=>ybX h (no vs H Q E)⟩
 |n+1=>MT T (vL T n)
theorem MU(a:lY K Oo H ds vs)(b:lY K Oo H es us):lY K Oo H (ds++es) (vs++us):=fun H2 u=>(a H2 u).append (b H2 u)
theorem Ab:∀(n:Nat){ds:List cJ}{vs:List V},aL K H (ds.map jC) vs->aL K H ((ds.drop n).map jC) (vs.drop n)
 |0,_,_,h=>h
 |n+1,[],vs,h=>by
  rw[za8,aL.bQ] at h;subst h;exact .nil
 |n+1,d::ds,vs,h=>by
  rw[zas,aL.aP] at h;obtain⟨v,t,rfl,_,h⟩:=h;exact Ab n h
theorem MV(T:Tx K mg t)(k8:bt P w K mg base fR (n+2) t.dS t.eC ["body", "behind"] (tQ K n)) :
 bt P w K mg base fR (n+3) t.dS t.eC ["body", "behind"] (tQ K (n+1)):=by
 have bJ:bt P w K mg base fR 1 t.cH t.cA ["body", "behind"] (kh K):=kE T;have IY:bt P w K mg base fR 2 t.kG t.kW ["statement", "after"] (En K):=Fn T;have qc:bt P w K mg base fR 1 t.fU t.gB ["statement"] (tP K):=uO T;have yO:bt P w K mg base fR 1 t.fH t.fT ["statement", "after"] (xl K):=yj T;refine T.fZ.F.qL oN (fun vs H Q E h=>?_) (fun eY A outer s H vs Q E hr h=>?_)
 .obtain⟨_,_,_,rfl,_⟩:=h;rfl
 obtain⟨b,body,x,rfl,rb,hd,hf,q⟩:=h;have nd:=oN.nd;refine⟨_,[some (V.ref b),some (V.int x),none,none,none,none,none],(aj (lC 2 nd (bY ai))
 (aj (kJ yaG rfl (FV rfl T.lR (eL 0 ai)) (DP rfl (mB (Jr 3 nd) (mB (Jr 4 nd) Aj)))
 (aj (lC 5 nd (lJ bJ T.eZ hr (ae (tH wJ (pv 0) (wH (bg fK (pv 3) ao)) wG) (eL 1 ai) a7)))
 (aj (m8 (zr zbq zcs zct qe (pv 2) (ae (aV (ae (aJ aN (pv 4) ao aq) (ae (aJ aN (pv 4) ao aq) (ae (lJ IY T.qp hr (eL 4 (eL 5 ai))) ai ba) a7) a7)) ai dQ)))
 (aA (kJ yaG rfl (eM (lJ qc T.jN hr (eL 4 ai))) (Jr 6 nd)
 (aA (m8 (zr zbq zcq zcr uZ (pv 2) (ae (lJ k8 T.fZ hr (eL 6 (ae (lJ yO T.jy hr (eL 4 (eL 5 ai))) ai ba))) ai ba)))))))))
 (aA (aQ (pv 2))))),rfl,?_⟩
 have line:zdN=2 ^ 24:=rfl;rw[Rep.bG] at rb;obtain⟨_,xs,e,hx,rs⟩:=rb;cases e;have lx:xs.length=body.length:=by rw[rs.length,zac]
 have lb:=mG body;refine ay fun U1 fQ=>?_;walk_at "rd";intro tl XZ;have s1:=ar.new XZ (.lst []);have y1:(upd H tl (.lst [])) tl=some (.lst []):=ah;generalize upd H tl (.lst [])=H1 at *;refine(fQ _ _).mpr (ay fun U2 iq=>?_);clear fQ;walk_at "rd";obtain⟨Pv,qB⟩:∃Pv:Nat->St->Hp->Prop,∀i G H2,Pv i G H2↔∃(z3 z4 z5 z6:Option V) (pre:List gy) (us:List V),G=[some (V.ref b),some (V.int x),some (V.ref tl),z3,z4,z5,z6]/\ar H H2/\H2 tl=some (.lst us)/\lY K (·=tl) H2 (pre.map iY) us/\us.length=pre.length/\pre++aR (body.drop i) x=aR body x:=⟨_,fun _ _ _=>Iff.rfl⟩
 refine⟨_,rfl,⟨xs,s1.seq hx⟩,B8 (K:=K) (a:=b) (xs:=xs) Pv ((qB _ _ _).mpr ⟨none,none,none,none,[],[],rfl,s1,y1,.nil,rfl,rfl⟩) (fun i G H2 _ hv=>?_) ?_ ?_⟩
 .obtain⟨_,_,_,_,_,_,_,s2,_⟩:=(qB _ _ _).mp hv;exact s2.seq hx
 .intro i y G H2 tp hi hv Ti;obtain⟨z3,z4,z5,z6,pre,us,rfl,s2,y2,f2,lu,ep⟩:=(qB _ _ _).mp hv;clear hv;have done:=fun G H7=>(qB (i+1) G H7).mpr;have li:i<body.length:=by have:=(zap.mp hi).1;lia
  obtain⟨v,hv,rv⟩:=rs.get (i:=i) (d:=jC body[i]) (by rw[zar,zad li];rfl);rw[hi] at hv;cases hv;have ed:body.drop i=body[i]::body.drop (i+1):=zck li;rw[ed,aR,KU] at ep;have mem:body[i]∈body:=zaw li;obtain⟨fm,dm⟩:=vk body _ mem;generalize NO:body[i]=st at *;have s3:=s2.trans (ar.new Ti (.tup [V.int i,y]));have n3:tl≠tp:=ag y2 Ti;have y3:=ar.new Ti (.tup [V.int i,y]) _ _ y2;have f3:=f2.up (.of (ar.new Ti (.tup [V.int i,y])));have t3:(upd H2 tp (.tup [V.int i,y])) tp=some (.tup [V.int i,y]):=ah;generalize upd H2 tp (.tup [V.int i,y])=H3 at *;obtain⟨sa,ys,rfl,hs⟩:=iZ st rv;refine⟨tp,_,rfl,.of t3,rfl,_,_,rfl,_,_,rfl,rfl,?_⟩;refine ay fun U3 lE=>?_;walk_at "rd";refine⟨_,rfl,b,_,rfl,s3.seq hx,fun p4 Pk=>?_⟩;have ec:Ap xs (some ((i:Int)+1)) none=xs.drop (i+1):=by
   unfold Ap;rw[HT.BZ,show (i:Int)+1=((i+1:Nat):Int) by lia,HT.FE];rw[show min (i+1) xs.length=i+1 by lia];exact zdm (by rw[zbU];lia)
  rw[ec];have s4:=s3.trans (ar.new Pk (.lst (xs.drop (i+1))));have y4:=ar.new Pk (.lst (xs.drop (i+1))) _ _ y3;have f4:=f3.up (.of (ar.new Pk (.lst (xs.drop (i+1)))));have l4:(upd H3 p4 (.lst (xs.drop (i+1)))) p4=some (.lst (xs.drop (i+1))):=ah;generalize upd H3 p4 (.lst (xs.drop (i+1)))=H4 at *;have rd4:Rep K H4 (.lst ((body.drop (i+1)).map jC)) (.ref p4):=Rep.bG.mpr ⟨p4,_,rfl,.of l4,Ab (i+1) (rs.mono s4)⟩;refine⟨p4,body.drop (i+1),x,rfl,rd4,by rw[zbU];lia,(lE _ _).mpr (ay fun U4 uW=>?_)⟩;clear lE;generalize bU (body.drop (i+1)) x=af at *;have hs4:=(show bH K H4 sa _ from s4.cO hs)
  walk_at "rd";refine⟨.inl ⟨rfl,_,.of y4⟩,aI hs4 (v:=.int st.row) (az (j:=1) rfl) (aI hs4 (v:=.str (vT st.wd)) (az (j:=0) rfl) ?_)⟩;have sh:KW st:=fun bb Zg=>by
   have:=(nE st bb Zg).1;have:=mG bb;lia
  refine⟨.ref sa,st,af,rfl,rv.mono s4,sh,fun u H5 s5 ru p6 MJ=>?_⟩;have y5:=s5 _ _ y4;have f5:=f4.up (.of s5);have fu:Fix K (·=tl) H5 (.tup ((pF st af).map .int)) u:=RM y5 (by rw[Of];exact vj _) ru;have n6:p6≠tl:=(ag y5 MJ).symm;have s6:=ar.new MJ (.tup [V.int st.row,V.str (vT st.wd),u]);have ft:Fix K (·=tl) (upd H5 p6 (.tup [V.int st.row,V.str (vT st.wd),u])) (iY (st.row,st.wd,pF st af)) (.ref p6):=Fix.tup ah n6 (.cons .int (.cons .str (.cons (fu.up (.of s6)) .nil)));have f6:=f5.up (.of s6);have y6:=s6 _ _ y5;have s46:=(s4.trans s5).trans s6;generalize upd H5 p6 (.tup [V.int st.row,V.str (vT st.wd),u])=H6 at *;have agv:pre.length<=1000:=by
   have h1:=ybW zbg ep;have h2:=ybW zbg (fF body x);simp only[zai,zac,zaq] at h1 h2;lia
  refine⟨tl,us,_,rfl,rfl,y6,by lia,?_⟩;have s7:ar H (upd H6 tl (.lst (us++[V.ref p6]))):=fun z o e=>by rw[au (ag e XZ)];exact s46 z o e
  have f7:=(f6.snoc ft).up (bR.refl.put (O:=(·=tl)) rfl (.lst (us++[V.ref p6])));have y7:(upd H6 tl (.lst (us++[V.ref p6]))) tl=some (.lst (us++[V.ref p6])):=ah;generalize upd H6 tl (.lst (us++[V.ref p6]))=H7 at *;refine(uW _ _).mpr ?_;clear uW;refine tO fun U hU=>?_;walk_at "rd";refine⟨.ref sa,st,H,rfl,rv,s7,fun l8 bv H8 s8 hl8 y8 r8=>⟨l8,rfl,⟨bv,.of y8⟩,hU _ _ ?_⟩⟩;have lbv:bv.length=(aS st).length:=by rw[r8.length,zac]
  have l8t:l8≠tl:=fun z=>by rw[z,y7] at hl8;cases hl8
  obtain⟨Pw,MR⟩:∃Pw:Nat->St->Hp->Prop,∀j G H9,Pw j G H9↔∃(z6:Option V) (us:List V) (Dj:List gy),G=[some (V.ref b),some (V.int x),some (V.ref tl),some (V.int i),some (V.ref sa),some (V.int af),z6]/\ar H H9/\(∀z o,z≠tl->H8 z=some o->H9 z=some o)/\H9 tl=some (.lst us)/\lY K (·=tl) H9 (Dj.map iY) us/\us.length=Dj.length/\
   Dj++((aS st).drop j).flatMap (fun bb=>aR bb (iz st af))=pre++(st.row,st.wd,pF st af)::(aS st).flatMap (fun bb=>aR bb (iz st af)):=⟨_,fun _ _ _=>Iff.rfl⟩
  refine pe (K:=K) (a:=l8) (xs:=bv) Pw ((MR _ _ _).mpr ⟨z6,_,pre++[(st.row,st.wd,pF st af)],rfl,s7.trans s8,fun z o _ e=>e,s8 _ _ y7,by rw[zaC];exact f7.up (.of s8),by simp[lu],by simp⟩) (fun j G H9 _ hv=>?_) ?_ ?_
  .obtain⟨_,_,_,_,_,k9,_⟩:=(MR _ _ _).mp hv;exact .of (k9 _ _ l8t y8)
  .intro j y G H9 hj hv;obtain⟨z6',DL,Dj,rfl,s9,k9,y9,f9,lu9,e9⟩:=(MR _ _ _).mp hv;clear hv;have lj:j<(aS st).length:=by have:=(zap.mp hj).1;lia
   obtain⟨v,hv,rb⟩:=r8.get (i:=j) (d:=.lst ((aS st)[j].map jC)) (by rw[zar,zad lj];rfl);rw[hj] at hv;cases hv;have mj:(aS st)[j]∈aS st:=zaw lj;obtain⟨fb,db⟩:=nE st _ mj;have ej:(aS st).drop j=(aS st)[j]::(aS st).drop (j+1):=zck lj;rw[ej,zbN] at e9;generalize (aS st)[j]=bb at *;obtain⟨ab,_,rfl,_⟩:=Rep.bG.mp rb;walk_at "rd";refine⟨.inl ⟨rfl,_,.of y9⟩,.ref sa,st,af,rfl,rv.mono s9,?_⟩;refine⟨ab,bb,_,rfl,rb.mono s9,by lia,by lia,fun OU Pl H10 QH ZK Xt TB=>?_⟩;have Wo:=QH _ _ y9;have Wq:=f9.up (.of QH);have Xq:lY K (·=tl) H10 ((aR bb (iz st af)).map iY) Pl:=Og Wo (zy _) TB;have OU:Pl.length=(aR bb (iz st af)).length:=by rw[TB.length,zac]
   have tot:Dj.length+(aR bb (iz st af)).length<=2000:=by
    have h1:=ybW zbg e9;have h2:=ybW zbg ep;have h3:=ybW zbg (fF body x);simp only[zai,zac,zaq] at h1 h2 h3;lia
   refine⟨tl,_,DL,Pl,rfl,rfl,Wo,Xt,by lia,?_⟩;refine(MR _ _ _).mpr ⟨_,DL++Pl,Dj++aR bb (iz st af),rfl,fun z o e=>?_,fun z o nz e=>?_,ah,?_,by simp[lu9,OU],by rw[<- e9];simp⟩
   .rw[au (ag e XZ)];exact QH _ _ (s9 _ _ e)
   .rw[au nz];exact QH _ _ (k9 z o nz e)
   .rw[zaC];exact(MU Wq Xq).up (bR.refl.put (O:=(·=tl)) rfl _)
  .intro G H9 hv;obtain⟨z6',DL,Dj,rfl,s9,k9,y9,f9,lu9,e9⟩:=(MR _ _ _).mp hv;rw[lbv,List.drop_length,zdd,zaM] at e9;refine done _ _ ⟨_,_,_,_,Dj,DL,rfl,s9,y9,f9,lu9,?_⟩;rw[e9,<- ep];simp
 .intro G H2 hv;obtain⟨z3,z4,z5,z6,pre,us,rfl,s2,y2,f2,lu,ep⟩:=(qB _ _ _).mp hv;rw[lx,List.drop_length,aR,zaM] at ep;refine(iq _ _).mpr ?_;walk_at "rd";rw[ep] at f2;exact q tl us H2 s2 XZ y2 f2.YO
theorem Ac(T:Tx K mg t):∀n,bt P w K mg base fR (n+2) t.dS t.eC ["body", "behind"] (tQ K n)
 |0=>by
  have no:∀vs H Q E,¬tQ K 0 vs H Q E:=fun vs H Q E h=>by cases h;lia
  exact⟨fun vs H Q E h=>ybX h (no vs H Q E),fun A outer s H args us vs Q E _ _ _ _ h=>ybX h (no vs H Q E)⟩
 |n+1=>MV T (Ac T n)
theorem Hj(T:Tx K mg t):bt P w K mg base fR 7 t.mi t.km ["program"] (vm K):=by
 have k8:=Ac (P:=P) (w:=w) (base:=base) T 4;refine T.A4.F.qL GV (fun vs H Q E h=>?_) (fun eY A outer s H vs Q E hr h=>?_)
 .obtain⟨_,_,rfl,_⟩:=h;rfl
 obtain⟨v,pr,rfl,rp,hd,hf,q⟩:=h;have nd:=GV.nd;obtain⟨MI,ye,yf⟩:=T.A7;refine⟨_,[some v],(aA (aQ (lJ k8 T.fZ hr (ae (aJ aN (pv 0) ao aq) (ae (dq rfl ye yf) ai aD) a7)))),rfl,?_⟩;unfold iX at rp;rw[Rep.aT] at rp;obtain⟨a,xs,rfl,hx,rs⟩:=rp;rw[aL.aP] at rs;obtain⟨v1,t1,rfl,r1,rs⟩:=rs;rw[aL.aP] at rs;obtain⟨v2,t2,rfl,r2,rs⟩:=rs;obtain⟨b,_,rfl,_⟩:=Rep.bG.mp r2;walk_at "rd";refine aI hx (v:=.ref b) (az (j:=1) rfl) ?_;exact⟨b,pr.body,0,rfl,r2,by lia,hf,fun l us H' s' hl y r=>q l us H' s' hl y r⟩
theorem Hk:∀{aB:List ((bA×bA)×V)}{us:List V},eW K H f aB->yao (fun (kv:(bA×bA)×V)(v:V)=>∃a,v=.ref a/\qx.on K H' kv.1 a) aB us->gH K H' (f.map (·.1)) us:=by
 induction f with
 |nil=>intro _ _ h p;cases h;cases p;exact .nil
 |cons x r ih=>
  intro _ _ h p;cases h with
  |cons a b=>
   cases p with
   |cons c d=>
    obtain⟨z,rfl,on⟩:=c;rw[a.1] at on;exact .cons ⟨z,rfl,AK on⟩ (ih b d)
theorem mw(T:Tx K mg t)(B:jm K mg base c Pt)(hc:vx K t.dH c)(bJ:bt P w K mg base fR 1 t.cH t.cA ["body", "behind"] (kh K))(bB:bt P w K mg base fR 6 t.bj t.bq ["body"] (jk K 4))(oA:bt P w K mg base fR 7 t.mi t.km ["program"] (vm K)) :
 bt P w K mg base (o3 P w) 17 t.dH t.ju ["one", "other"] (GA K t.aC "told_apart.<locals>.<lambda>" Pt (xF (eX aU))):=by
 have iP:=qZ (P:=P) (w:=w) (base:=base) T bJ bB oA;have oF:=q0 (P:=P) (w:=w) (base:=base) T;have jO:=oE (P:=P) (w:=w) (base:=base) T;have Bg:=yN (P:=P) (w:=w) (base:=base) T;refine T.bX.F.Zr qT hc (fun vs H Q E h=>?_) (fun A outer s H vs Q E hr h=>?_)
 .obtain⟨_,_,_,_,_,rfl⟩:=h;rfl
 obtain⟨v1,v2,av,aw,ps,rfl,r1,r2,d1,d2,m1,m2,Gi,tok,q,qE⟩:=h;have nd:=qT.nd;have line:zdN=2 ^ 24:=rfl;refine⟨_,[some v1,some v2,none,none,none],(aj (bO (i:=2) nd rfl (zce rfl) (aV (ae (tF T.mY iP (hr.mono (by first|decide|omega)) rfl T.uM T.kC .nil cS (eL 0 ai)) (ae (tF T.mY iP (hr.mono (by first|decide|omega)) rfl T.uM T.kC .nil cS (eL 1 ai)) ai ba) ba)))
 (aj (lC 3 nd (Iy (i:=2) (y:="both") Bg (hr.mono (by first|decide|omega)) rfl T.gC.m T.gC.F.kp T.gC.b Kz (ae (lJ oF T.iM hr (eL 2 ai)) (ae (R6 (y:="both") B rfl rfl ⟨_,rfl,rfl⟩ rfl) ai rfl) ba) rfl rfl rfl))
 (aj (kJ KA rfl (xH (J:=qx) (pv 3)) (Jr 4 nd)
 (aA (bL (Ai (rJ (lJ jO T.ie hr (eL 2 (eL 4 ai)))))
 (aA (aQ (Gp (aV (ae bo (ae (dP As rfl T.yc yb5 (ae (Co (J:=qx) (Io hr) (pv 3) (pv 4) fM) ai a7)) ai ba) aK)))))
 a8)))
 (aA (aQ (Gp (aV (ae bo (ae (dP (EH (J:=qx) rfl) rfl T.yc yb5 (eL 3 ai)) ai ba) aK)))))))),rfl,?_⟩
 refine ay fun U1 fQ=>?_;walk_at "rd";intro w1 dx Fj IL ne;have s1:ar H (upd (upd H dx (.own w1)) w1 (.ins t.aX dx [])):=(ar.new IL _).trans (ar.new (by rw[au ne.symm];exact Fj) _);refine⟨w1,dx,v1,av,rfl,ah,by rw[au ne];exact ah,r1.mono s1,d1,fun uP H2 u2 Pm zZ=>⟨rfl,?_⟩⟩;have s2:ar H H2:=((bf.of s1).trans u2).same Fj;have g1:H uP=none:=s1.free Pm;intro w2 ex He hex ne2;have s3:ar H2 (upd (upd H2 ex (.own w2)) w2 (.ins t.aX ex [])):=(ar.new hex _).trans (ar.new (by rw[au ne2.symm];exact He) _);refine⟨w2,ex,v2,aw,rfl,ah,by rw[au ne2];exact ah,(r2.mono s2).mono s3,d2,fun sJ H4 u4 Pn IU=>⟨rfl,?_⟩⟩;have s4:ar H2 H4:=((bf.of s3).trans u4).same He;have g2:H2 sJ=none:=s3.free Pn;have NC:H sJ=none:=s2.free g2;obtain⟨φ1,X0⟩:=zZ.uU;have n12:uP≠sJ:=ag X0 g2;intro b hb;have s5:=ar.new hb (.tup [V.ref w1,V.ref w2]);have Wr:oM P w K t.aH t.aX (upd H4 b (.tup [V.ref w1,V.ref w2])) b w1 uP w2 sJ av aw:=⟨.of ah,(zZ.mono s4).mono s5,IU.mono s5,n12⟩
 have SX:ar H (upd H4 b (.tup [V.ref w1,V.ref w2])):=s2.trans (s4.trans s5);clear s5 s4 u4 u2 s3 zZ IU hb s2 s1 Pm Pn X0;generalize upd H4 b (.tup [V.ref w1,V.ref w2])=H5 at *;refine(fQ _ _).mpr (ay fun U2 iq=>?_);clear fQ;walk_at "rd";simp only[Gr];walk_at "rd";refine⟨b,w1,uP,w2,sJ,av,aw,rfl,Wr,fun fp H6 s6 pf=>?_⟩;have Ws:=SX.trans s6;have Dl:=Wr.mono s6;obtain⟨φa,ea⟩:=Dl.one.uU;obtain⟨φb,eb⟩:=Dl.two.uU;refine⟨ps,Ws _ _ Gi,tok.kp (.same Ws),fun fo cc c' pm vW oc vs yu tk H7 ecc Qm Q0 kp only yfo Po NL X1 Wt SY=>⟨_,rfl,fun Xb ip uc aaS BA Wu ruc=>?_⟩⟩;cases ecc.symm.trans aaS;have u67:bf Pt H6 H7:=fun b o n e=>kp b o n e;have k67:Kp H6 H7:=Kp.of u67 (Ws _ _ Gi);have sc:=ar.new BA (cQ cc ip);have TN:(upd H7 cc (cQ cc ip)) cc=some (cQ cc ip):=ah;have MW:=sc _ _ Wt;have Dm:=(Dl.kp k67).mono sc;have pf8:l0 K (upd H7 cc (cQ cc ip)) fp (gN av aw):=(pf.oX fun _ _ h=>h.kp k67).mono sc;have MX:H6 cc=none:=by
  cases y:H6 cc with
  |none=>rfl
  |some o=>
   by_cases z:cc=Pt
   .rw[z,Wt] at BA;cases BA
   .rw[kp cc o z y] at BA;cases BA
 have QR:cc≠uP/\cc≠sJ:=⟨(ag ea MX).symm,(ag eb MX).symm⟩
 have nfx:fo≠uP/\fo≠sJ:=⟨(ag ea Qm).symm,(ag eb Qm).symm⟩
 have yQ:c'≠uP/\c'≠sJ:=by
  rcases Q0 with z |z
  .exact⟨(ag ea z).symm,(ag eb z).symm⟩
  .rcases tok with y |⟨c2,oc2,vs2,Qh,y,hy,_⟩
   .rw[y] at z;have:=ybW Array.size z;simp at this
   .rw[y] at z;have z:some (yac c2)=some (yac c'):=ybW (fun a:Array zdG=>a.toList.getLast?) z;cases z;exact⟨ag hy g1,ag hy NC⟩
 have X2:bf Pt H (upd H7 cc (cQ cc ip)):=fun d o n e=>sc _ _ (u67 d o n (Ws _ _ e));have Wg:∀D,(upd H7 cc (cQ cc ip)) D=none->GC P w K t.aH t.aX (eX aU) "told_apart.<locals>.<lambda>" (upd H7 cc (cQ cc ip)) D b w1 uP w2 sJ fo cc ip av aw:=fun D hD=>by
  obtain⟨φ,e1⟩:=Dm.one.uU;obtain⟨M,e2⟩:=Dm.two.uU;exact⟨Dm,d1,d2,m1,m2,⟨c',pm,vW,uc,oc,vs,tk,AN (sc _ _ yfo) (ag (sc _ _ yfo) hD) nfx.1 nfx.2,AN (sc _ _ Po) (ag (sc _ _ Po) hD) yQ.1 yQ.2,NL,X1,AN TN (ag TN hD) QR.1 QR.2,Wu,ruc⟩,(ag e1 hD).symm,(ag e2 hD).symm⟩
 have Wv:H cc=none:=by
  cases y:H cc with
  |none=>rfl
  |some o=>rw[Ws _ _ y] at MX;cases MX
 have TQ:Pt≠uP/\Pt≠sJ:=⟨ag Gi g1,ag Gi NC⟩
 have up:∀H9,oK uP sJ (upd H7 cc (cQ cc ip)) H9->bf Pt H (wo H9 cc)/\(wo H9 cc) Pt=some (.rE yu)/\TabOk "told_apart.<locals>.<lambda>" (xF (eX aU)) (wo H9 cc) yu:=fun H9 u9=>by
  refine⟨fun d o n e=>?_,by rw[bE (ag Wt BA)];exact u9 _ _ TQ.1 TQ.2 MW,.inr ⟨c',oc,vs,tk,SY,by rw[bE (ag Po BA)];exact u9 _ _ yQ.1 yQ.2 (sc _ _ Po),NL,X1⟩⟩;rw[bE (ag e Wv)];exact u9 _ _ (ag e g1) (ag e NC) (X2 d o n e)
 refine⟨fp,fo,cc,b,w1,uP,w2,sJ,ip,av,aw,rfl,Wg,pf8,fun hle D aB H9 u9 wt9 hD d9 f9=>?_,fun SV H9 u9=>⟨u9 _ _ QR.1 QR.2 TN,qE SV _ yu (up H9 u9).1 (up H9 u9).2.1 (up H9 u9).2.2⟩⟩;clear up;have MY:=u9 _ _ QR.1 QR.2 TN;have Ww:=u9 _ _ TQ.1 TQ.2 MW;refine⟨MY,(iq _ _).mpr (ay fun U3 lE=>?_)⟩;clear iq;have uw:bf cc H9 (wo H9 cc):=wQ;have tw:∀a xs,bH K H9 a xs->bH K (wo H9 cc) a xs:=fun a xs h=>h.mL MY uw;have nDc:D≠cc:=fun z=>by rw[z,TN] at hD;cases hD
 have wtw:=wt9.other MY QR.1.symm QR.2.symm uw;have dw:=d9.other MY nDc uw;have fw:=f9.imp tw;have u0w:∀d o,d≠Pt->H d=some o->(wo H9 cc) d=some o:=fun d o n e=>by
  rw[bE (ag e Wv)];exact u9 _ _ (ag e g1) (ag e NC) (X2 d o n e)
 have aaV:(wo H9 cc) Pt=some (.rE yu):=by rw[bE (ag Wt BA)];exact Ww
 have Xx:H D=none:=by
  cases y:H D with
  |none=>rfl
  |some o=>rw[X2 D o (ag MW hD).symm y] at hD;cases hD
 have aaW:TabOk "told_apart.<locals>.<lambda>" (xF (eX aU)) (wo H9 cc) yu:=.inr ⟨c',oc,vs,tk,SY,by rw[bE (ag Po BA)];exact u9 _ _ yQ.1 yQ.2 (sc _ _ Po),NL,X1⟩;have QO:=mR d1 d2;have Pj:=hle;have Wx:Pt≠D:=ag MW hD;have ncD:c'≠D:=ag (sc _ _ Po) hD;have QS:uP≠D/\sJ≠D:=by
  obtain⟨φ,e1⟩:=Dm.one.uU;obtain⟨M,e2⟩:=Dm.two.uU;exact⟨ag e1 hD,ag e2 hD⟩
 have ycw:(wo H9 cc) c'=some (cQ c' oc):=by rw[bE (ag Po BA)];exact u9 _ _ yQ.1 yQ.2 (sc _ _ Po)
 clear u9 wt9 d9 f9 MY Ww uw tw Wg pf8 Dm TN MW sc BA X2 k67 u67 Dl Wr SX s6 pf ea eb Wt kp only yfo MX Qm nDc hD Wu ruc ecc aaW;have tel:∀word us Hy,(match i5 av aw (aO av aw) with |some g=>word=("apart":Str)/\us=g.map V.int |none=>word=("alike":Str)/\gH K Hy ((aO av aw).map (·.1)) us)->CQ K av aw Hy word us:=fun _ _ _ h=>h;have BF:∀ {Hy:Hp} {l:zdF} {x:HO},(∀d o,d≠Pt->H d=some o->Hy d=some o)->Hy Pt=some x->Hy l=none->H l=none:=fun {Hy l x} h hp hl=>by
  cases y:H l with
  |none=>rfl
  |some o=>rw[h l o (ag hp hl).symm y] at hl;cases hl
 generalize wo H9 cc=Hw at *;refine pL fun U hU=>?_;simp only[Gn];walk_at "rd";refine⟨D,aB,rfl,dw,fun o ks fz po=>hU _ _ ?_⟩;clear hU;obtain⟨φD,eD⟩:=dw.oY;have uF:bf D Hw (upd Hw D (cQ D o)):=(bf.refl _ _).put _;have G9:∀a xs,bH K Hw a xs->bH K (upd Hw D (cQ D o)) a xs:=fun a xs h=>h.mL eD uF;have X3:=wtw.other eD QS.1 QS.2 uF;have yF:(upd Hw D (cQ D o)) D=some (cQ D o):=ah;have aaX:=uF _ _ Wx aaV;have ycF:=uF _ _ ncD ycw;have u0F:∀d x,d≠Pt->H d=some x->(upd Hw D (cQ D o)) d=some x:=fun d x n e=>uF _ _ (ag e Xx) (u0w d x n e);have lks:ks.length=(aO av aw).length:=by rw[<- fw.len];exact(yah po).symm
 generalize upd Hw D (cQ D o)=Hz at *;have fin:∀(Hx:Hp) (φ:yaf->Prop),oK uP sJ Hz Hx->∀r L us word H',ar (upd Hx D (.ext φ)) H'->(upd Hx D (.ext φ)) L=none->H' r=some (.tup [.str word,.ref L])->H' L=some (.lst us)->CQ K av aw H' word us->Q (.ref r) H':=by
  intro Hx φ ux r L us word H' s' hL yr yL tl;have a1:∀d x,d≠Pt->H d=some x->(upd Hx D (.ext φ)) d=some x:=fun d x n e=>by
   rw[au (ag e Xx)];exact ux _ _ (ag e g1) (ag e NC) (u0F d x n e)
  have a2:(upd Hx D (.ext φ)) Pt=some (.rE yu):=by rw[au Wx];exact ux _ _ TQ.1 TQ.2 aaX
  have a3:(upd Hx D (.ext φ)) c'=some (cQ c' oc):=by rw[au ncD];exact ux _ _ yQ.1 yQ.2 ycF
  exact q hle r L us word H' yu (fun d x n e=>s' _ _ (a1 d x n e)) (BF a1 a2 hL) yr yL tl (s' _ _ a2) (.inr ⟨c',oc,vs,tk,SY,s' _ _ a3,NL,X1⟩)
 clear q BF;obtain⟨Pv,qB,oC⟩:=Nq fun (i:Nat) (Y:St) (Hx:Hp) zq=>∀(z:Option V),Y=[some v1,some v2,some (.ref b),some (.ref D),z]->oK uP sJ Hz Hx->oM P w K t.aH t.aX Hx b w1 uP w2 sJ av aw->i5 av aw ((aO av aw).take i)=none->zq;refine AF (d:=D) (o:=o) (ps:=ks) Pv (qB _ _ _ fun _ zk=>zk none rfl oK.refl X3 rfl) (fun i Y Hx _ hv=>?_) (fun i c0 v' Y Hx hi hv=>?_) (fun Y Hx hv=>?_)
 .exact oC _ _ _ hv _ fun _ _ u _ _=>u _ _ QS.1.symm QS.2.symm yF
 .refine oC _ _ _ hv _ fun z ze ux wx hn=>?_;subst ze;clear hv;obtain⟨kv,QL,on,rfl⟩:=fG po hi;obtain⟨x,hx,ek,_⟩:=fG fw QL;rw[ek] at on;have tx:=X3.tup ux;have aaY:=AK (qx.up (fun a xs h=>tx _ _ (G9 _ _ h)) on);have pin:=QO.Gw x (zaD hx);have il:i<(aO av aw).length:=(zap.mp hx).1;simp only[gE,zbV,LS];walk_at "rd";refine⟨b,w1,uP,w2,sJ,c0,av,aw,x.1,rfl,wx,d1,d2,aaY,pin,m1,m2,fun H3 u3 NB=>⟨_,rfl,?_⟩⟩;have X4:=ux.trans u3;cases ha:eU av aw x.1 with
  |true=>
   refine(ybR zam).mpr (qB _ _ _ fun _ zk=>zk _ rfl X4 NB ?_);rw[zcB,hx,zcZ,IC,hn,ha];rfl
  |false=>
  have yF3:=X4 _ _ QS.1.symm QS.2.symm yF;have t3:∀a xs,bH K Hw a xs->bH K H3 a xs:=fun a xs h=>X3.tup X4 _ _ (G9 _ _ h);obtain⟨φ,h1,h2,d4⟩:=fz.Vq yF3 t3;have u4:bf D H3 (upd H3 D (.ext φ)):=(bf.refl _ _).put _;obtain⟨a,e1,qa⟩:=CO fw QO.nd hx;have t4:∀a xs,bH K Hw a xs->bH K (upd H3 D (.ext φ)) a xs:=fun a xs h=>(t3 _ _ h).mL yF3 u4;have on4:=qx.up t4 on;have qa4:=t4 _ _ qa;refine(ybS rfl).mpr ⟨D,o,φ,yF3,h1,h2,?_⟩;have fn:=fin H3 φ X4;clear fin;generalize upd H3 D (.ext φ)=H4 at *;refine⟨D,c0,aB,ki x.1,.ref a,rfl,rfl,d4,on4,e1,a,_,rfl,.inr qa4,fun l hl=>?_⟩;walk_at "rd";intro r Sw;have sl:=ar.new hl (.lst (x.2.map V.int));have sr:=ar.new Sw (.tup [V.str (zab "apart"),V.ref l]);refine fn r l _ _ _ (sl.trans sr) hl ah (sr _ _ ah) (tel _ _ _ ?_);have ef:aO av aw=(aO av aw).take i++[x]++(aO av aw).drop (i+1):=by
   rw[zaY,List.singleton_append,<- (zap.mp hx).2,<- zck il,zbl]
  have ed:i5 av aw (aO av aw)=some x.2:=by
   rw[ef];unfold i5 at hn |-;rw[zc7,zc7,zcD.mp hn];simp[ha]
  rw[ed];exact⟨rfl,rfl⟩
 refine oC _ _ _ hv _ fun z ze ux wx hn=>?_;subst ze;clear hv;rw[lks,zbF] at hn;refine(lE _ _).mpr ?_;walk_at "rd";simp only[LS];walk_at "rd";have yFx:=ux _ _ QS.1.symm QS.2.symm yF;have t3:∀a xs,bH K Hw a xs->bH K Hx a xs:=fun a xs h=>X3.tup ux _ _ (G9 _ _ h);obtain⟨φ,h1,h2,d4⟩:=fz.Vq yFx t3;refine⟨D,o,φ,yFx,h1,h2,D,aB,rfl,d4,fun l us hl pu=>?_⟩;walk_at "rd";intro r Sw;have u4:bf D Hx (upd Hx D (.ext φ)):=(bf.refl _ _).put _;have fn:=fin Hx φ ux;clear fin;have QT:gH K (upd Hx D (.ext φ)) ((aO av aw).map (·.1)) us:=Hk fw pu;generalize upd Hx D (.ext φ)=H4 at *;have sl:=ar.new hl (.lst us);have sr:=ar.new Sw (.tup [V.str (zab "alike"),V.ref l]);refine fn r l _ _ _ (sl.trans sr) hl ah (sr _ _ ah) (tel _ _ _ ?_);rw[hn];exact⟨rfl,QT.mono (sl.trans sr)⟩
theorem oS(T:Tx K mg t)(B:jm K mg base c Pt)(hc:vx K t.dH c)(bJ:bt P w K mg base fR 1 t.cH t.cA ["body", "behind"] (kh K))(bB:bt P w K mg base fR 6 t.bj t.bq ["body"] (jk K 4))(oA:bt P w K mg base fR 7 t.mi t.km ["program"] (vm K)) :
 bt P w K mg base fR 20 t.fW t.gU ["one", "other"] (Mu K "told_apart.<locals>.<lambda>" Pt (xF (eX aU))):=by
 have iQ:=mw (P:=P) (w:=w) (base:=base) T B hc bJ bB oA;refine T.cB.F.qL oQ (fun vs H Q E h=>?_) (fun eY A outer s H vs Q E hr h=>?_)
 .obtain⟨_,_,_,_,_,rfl⟩:=h;rfl
 obtain⟨v,v2,pr,aw,ps,rfl,hv,hv2,d,d2,mn,NG,cnt,yP,tb,q⟩:=h;have nd:=oQ.nd;refine⟨_,[some v,some v2,none,none],(@aj _ _ _ _ _ (@bO _ _ 2 _ _ _ _ nd rfl (zaH rfl) (@bY _ _ _ _ (@ai _)) (by first |rfl |exact .inl rfl |exact .inr rfl |decide |(intro _;rfl) |assumption) (by first |rfl |exact .inl rfl |exact .inr rfl |decide |(intro _;rfl) |assumption)) (@aj _ _ _ _ _ (KI (i:=3) nd rfl rfl rfl iQ (hr.mono (by first|decide|omega)) rfl T.bX.m T.bX.F.kp T.bX.b (fun _ _=>(@ae _ _ _ _ _ (pv 0) (@ae _ _ _ _ _ (pv 1) (@ai _) (@aD _ _ _ _)) (@aD _ _ _ _))) rfl rfl rfl T.C7 (fun _=>(@aj _ _ _ _ _ (@bO _ _ 2 _ _ _ _ nd rfl (zaH rfl) (@bY _ _ _ _ (@ae _ _ _ _ _ (@bT _ _ _ _ _ _ _ _ _ (eS (K:=K) rfl) rfl T.bh yb3 (@ae _ _ _ _ _ (pv 3) (@ae _ _ _ _ _ (dq (v:=.ref t.om) rfl T.ME rfl) (@ai _) (@aD _ _ _ _)) (@aD _ _ _ _)) (by first |rfl |exact .inl rfl |exact .inr rfl |decide |(intro _;rfl) |assumption) (by first |rfl |exact .inl rfl |exact .inr rfl |decide |(intro _;rfl) |assumption) (by first |rfl |exact .inl rfl |exact .inr rfl |decide |(intro _;rfl) |assumption) (by first |rfl |exact .inl rfl |exact .inr rfl |decide |(intro _;rfl) |assumption)) (@ae _ _ _ _ _ (@bT _ _ _ _ _ _ _ _ _ (eS (K:=K) rfl) rfl T.bh yb3 (@ae _ _ _ _ _ (pv 3) (@ae _ _ _ _ _ (dq (v:=.ref t.i7) rfl T.Fc rfl) (@ai _) (@aD _ _ _ _)) (@aD _ _ _ _)) (by first |rfl |exact .inl rfl |exact .inr rfl |decide |(intro _;rfl) |assumption) (by first |rfl |exact .inl rfl |exact .inr rfl |decide |(intro _;rfl) |assumption) (by first |rfl |exact .inl rfl |exact .inr rfl |decide |(intro _;rfl) |assumption) (by first |rfl |exact .inl rfl |exact .inr rfl |decide |(intro _;rfl) |assumption)) (@ae _ _ _ _ _ (@bT _ _ _ _ _ _ _ _ _ (eS (K:=K) rfl) rfl T.bh yb3 (@ae _ _ _ _ _ (pv 3) (@ae _ _ _ _ _ (dq (v:=.ref t.i6) rfl T.Fb rfl) (@ai _) (@aD _ _ _ _)) (@aD _ _ _ _)) (by first |rfl |exact .inl rfl |exact .inr rfl |decide |(intro _;rfl) |assumption) (by first |rfl |exact .inl rfl |exact .inr rfl |decide |(intro _;rfl) |assumption) (by first |rfl |exact .inl rfl |exact .inr rfl |decide |(intro _;rfl) |assumption) (by first |rfl |exact .inl rfl |exact .inr rfl |decide |(intro _;rfl) |assumption)) (@ae _ _ _ _ _ (@bT _ _ _ _ _ _ _ _ _ (eS (K:=K) rfl) rfl T.bh yb3 (@ae _ _ _ _ _ (pv 3) (@ae _ _ _ _ _ (dq (v:=.ref t.i8) rfl T.Fd rfl) (@ai _) (@aD _ _ _ _)) (@aD _ _ _ _)) (by first |rfl |exact .inl rfl |exact .inr rfl |decide |(intro _;rfl) |assumption) (by first |rfl |exact .inl rfl |exact .inr rfl |decide |(intro _;rfl) |assumption) (by first |rfl |exact .inl rfl |exact .inr rfl |decide |(intro _;rfl) |assumption) (by first |rfl |exact .inl rfl |exact .inr rfl |decide |(intro _;rfl) |assumption)) (@ai _) (@ba _ _ _ _ _ _)) (@ba _ _ _ _ _ _)) (@ba _ _ _ _ _ _)) (@ba _ _ _ _ _ _))) (by first |rfl |exact .inl rfl |exact .inr rfl |decide |(intro _;rfl) |assumption) (by first |rfl |exact .inl rfl |exact .inr rfl |decide |(intro _;rfl) |assumption)) (@aj _ _ _ _ _ (@bO _ _ 2 _ _ _ _ nd rfl (zaH rfl) (@bg _ _ _ _ _ _ _ _ (@Ee _) (pv 2) (@bY _ _ _ _ (@ae _ _ _ _ _ (@bT _ _ _ _ _ _ _ _ _ (eS (K:=K) rfl) rfl T.bh yb3 (@ae _ _ _ _ _ (pv 3) (@ae _ _ _ _ _ (dq (v:=.ref t.fY) rfl T.A6 rfl) (@ai _) (@aD _ _ _ _)) (@aD _ _ _ _)) (by first |rfl |exact .inl rfl |exact .inr rfl |decide |(intro _;rfl) |assumption) (by first |rfl |exact .inl rfl |exact .inr rfl |decide |(intro _;rfl) |assumption) (by first |rfl |exact .inl rfl |exact .inr rfl |decide |(intro _;rfl) |assumption) (by first |rfl |exact .inl rfl |exact .inr rfl |decide |(intro _;rfl) |assumption)) (@ae _ _ _ _ _ (@bT _ _ _ _ _ _ _ _ _ (eS (K:=K) rfl) rfl T.bh yb3 (@ae _ _ _ _ _ (pv 3) (@ae _ _ _ _ _ (dq (v:=.ref t.oo) rfl T.MF rfl) (@ai _) (@aD _ _ _ _)) (@aD _ _ _ _)) (by first |rfl |exact .inl rfl |exact .inr rfl |decide |(intro _;rfl) |assumption) (by first |rfl |exact .inl rfl |exact .inr rfl |decide |(intro _;rfl) |assumption) (by first |rfl |exact .inl rfl |exact .inr rfl |decide |(intro _;rfl) |assumption) (by first |rfl |exact .inl rfl |exact .inr rfl |decide |(intro _;rfl) |assumption)) (@ae _ _ _ _ _ (@bT _ _ _ _ _ _ _ _ _ (eS (K:=K) rfl) rfl T.bh yb3 (@ae _ _ _ _ _ (pv 3) (@ae _ _ _ _ _ (dq (v:=.ref t.rZ) rfl T.Pa rfl) (@ai _) (@aD _ _ _ _)) (@aD _ _ _ _)) (by first |rfl |exact .inl rfl |exact .inr rfl |decide |(intro _;rfl) |assumption) (by first |rfl |exact .inl rfl |exact .inr rfl |decide |(intro _;rfl) |assumption) (by first |rfl |exact .inl rfl |exact .inr rfl |decide |(intro _;rfl) |assumption) (by first |rfl |exact .inl rfl |exact .inr rfl |decide |(intro _;rfl) |assumption)) (@ae _ _ _ _ _ (@bT _ _ _ _ _ _ _ _ _ (eS (K:=K) rfl) rfl T.bh yb3 (@ae _ _ _ _ _ (pv 3) (@ae _ _ _ _ _ (dq (v:=.ref t.rY) rfl T.O9 rfl) (@ai _) (@aD _ _ _ _)) (@aD _ _ _ _)) (by first |rfl |exact .inl rfl |exact .inr rfl |decide |(intro _;rfl) |assumption) (by first |rfl |exact .inl rfl |exact .inr rfl |decide |(intro _;rfl) |assumption) (by first |rfl |exact .inl rfl |exact .inr rfl |decide |(intro _;rfl) |assumption) (by first |rfl |exact .inl rfl |exact .inr rfl |decide |(intro _;rfl) |assumption)) (@ai _) (@ba _ _ _ _ _ _)) (@ba _ _ _ _ _ _)) (@ba _ _ _ _ _ _)) (@ba _ _ _ _ _ _)))) (by first |rfl |exact .inl rfl |exact .inr rfl |decide |(intro _;rfl) |assumption) (by first |rfl |exact .inl rfl |exact .inr rfl |decide |(intro _;rfl) |assumption)) (@aj _ _ _ _ _ (@bO _ _ 2 _ _ _ _ nd rfl (zaH rfl) (@bg _ _ _ _ _ _ _ _ (@Ee _) (pv 2) (@bY _ _ _ _ (@ae _ _ _ _ _ (@bT _ _ _ _ _ _ _ _ _ (eS (K:=K) rfl) rfl T.bh yb3 (@ae _ _ _ _ _ (pv 3) (@ae _ _ _ _ _ (dq (v:=.ref t.ou) rfl T.MG rfl) (@ai _) (@aD _ _ _ _)) (@aD _ _ _ _)) (by first |rfl |exact .inl rfl |exact .inr rfl |decide |(intro _;rfl) |assumption) (by first |rfl |exact .inl rfl |exact .inr rfl |decide |(intro _;rfl) |assumption) (by first |rfl |exact .inl rfl |exact .inr rfl |decide |(intro _;rfl) |assumption) (by first |rfl |exact .inl rfl |exact .inr rfl |decide |(intro _;rfl) |assumption)) (@ae _ _ _ _ _ (@bT _ _ _ _ _ _ _ _ _ (eS (K:=K) rfl) rfl T.bh yb3 (@ae _ _ _ _ _ (pv 3) (@ae _ _ _ _ _ (dq (v:=.ref t.kZ) rfl T.IK rfl) (@ai _) (@aD _ _ _ _)) (@aD _ _ _ _)) (by first |rfl |exact .inl rfl |exact .inr rfl |decide |(intro _;rfl) |assumption) (by first |rfl |exact .inl rfl |exact .inr rfl |decide |(intro _;rfl) |assumption) (by first |rfl |exact .inl rfl |exact .inr rfl |decide |(intro _;rfl) |assumption) (by first |rfl |exact .inl rfl |exact .inr rfl |decide |(intro _;rfl) |assumption)) (@ae _ _ _ _ _ (@bT _ _ _ _ _ _ _ _ _ (eS (K:=K) rfl) rfl T.bh yb3 (@ae _ _ _ _ _ (pv 3) (@ae _ _ _ _ _ (dq (v:=.ref t.i9) rfl T.Fe rfl) (@ai _) (@aD _ _ _ _)) (@aD _ _ _ _)) (by first |rfl |exact .inl rfl |exact .inr rfl |decide |(intro _;rfl) |assumption) (by first |rfl |exact .inl rfl |exact .inr rfl |decide |(intro _;rfl) |assumption) (by first |rfl |exact .inl rfl |exact .inr rfl |decide |(intro _;rfl) |assumption) (by first |rfl |exact .inl rfl |exact .inr rfl |decide |(intro _;rfl) |assumption)) (@ae _ _ _ _ _ (@bT _ _ _ _ _ _ _ _ _ (eS (K:=K) rfl) rfl T.bh yb3 (@ae _ _ _ _ _ (pv 3) (@ae _ _ _ _ _ (dq (v:=.ref t.gY) rfl T.C8 rfl) (@ai _) (@aD _ _ _ _)) (@aD _ _ _ _)) (by first |rfl |exact .inl rfl |exact .inr rfl |decide |(intro _;rfl) |assumption) (by first |rfl |exact .inl rfl |exact .inr rfl |decide |(intro _;rfl) |assumption) (by first |rfl |exact .inl rfl |exact .inr rfl |decide |(intro _;rfl) |assumption) (by first |rfl |exact .inl rfl |exact .inr rfl |decide |(intro _;rfl) |assumption)) (@ai _) (@ba _ _ _ _ _ _)) (@ba _ _ _ _ _ _)) (@ba _ _ _ _ _ _)) (@ba _ _ _ _ _ _)))) (by first |rfl |exact .inl rfl |exact .inr rfl |decide |(intro _;rfl) |assumption) (by first |rfl |exact .inl rfl |exact .inr rfl |decide |(intro _;rfl) |assumption)) (@aA _ _ _ (@bO _ _ 2 _ _ _ _ nd rfl (zaH rfl) (@bg _ _ _ _ _ _ _ _ (@Ee _) (pv 2) (@bY _ _ _ _ (@ae _ _ _ _ _ (@bT _ _ _ _ _ _ _ _ _ (eS (K:=K) rfl) rfl T.bh yb3 (@ae _ _ _ _ _ (pv 3) (@ae _ _ _ _ _ (dq (v:=.ref t.aC) rfl T.x6 rfl) (@ai _) (@aD _ _ _ _)) (@aD _ _ _ _)) (by first |rfl |exact .inl rfl |exact .inr rfl |decide |(intro _;rfl) |assumption) (by first |rfl |exact .inl rfl |exact .inr rfl |decide |(intro _;rfl) |assumption) (by first |rfl |exact .inl rfl |exact .inr rfl |decide |(intro _;rfl) |assumption) (by first |rfl |exact .inl rfl |exact .inr rfl |decide |(intro _;rfl) |assumption)) (@ae _ _ _ _ _ (Q4 (@bT _ _ _ _ _ _ _ _ _ (HV (K:=K) rfl) rfl T.bh yb3 (@ae _ _ _ _ _ (pv 3) (@ae _ _ _ _ _ (NM (v:=.ty "ValueError") rfl T.oy ybY rfl) (@ai _) (@aD _ _ _ _)) (@aD _ _ _ _)) (by first |rfl |exact .inl rfl |exact .inr rfl |decide |(intro _;rfl) |assumption) (by first |rfl |exact .inl rfl |exact .inr rfl |decide |(intro _;rfl) |assumption) (by first |rfl |exact .inl rfl |exact .inr rfl |decide |(intro _;rfl) |assumption) (by first |rfl |exact .inl rfl |exact .inr rfl |decide |(intro _;rfl) |assumption))) (@ai _) UK) (@ba _ _ _ _ _ _)))) (by first |rfl |exact .inl rfl |exact .inr rfl |decide |(intro _;rfl) |assumption) (by first |rfl |exact .inl rfl |exact .inr rfl |decide |(intro _;rfl) |assumption)))))))) (@aA _ _ _ (@aQ _ _ _ _ (pv 2))))),rfl,?_⟩;have line:zdN=2 ^ 24:=rfl;refine ay fun U1 fQ=>?_;walk_at "rd";intro p hp;have s1:=ar.new hp (.lst []);generalize upd H p (.lst [])=H1 at *;refine(fQ _ _).mpr (ay fun U2 iq=>?_);clear fQ;simp only[KG];walk_at "rd";refine⟨_,_,pr,aw,ps,rfl,Rep.mono s1 hv,Rep.mono s1 hv2,d,d2,mn,NG,s1 _ _ yP,tb.up fun _ _ e=>s1 _ _ e,fun h=>ybX h (by lia),fun _ H2 ps2 u2 y2 t2=>?_⟩;refine⟨T.se,_,rfl,fun y hy=>?_⟩;have s3:=ar.new hy (tM y t.aC);have h3:(upd H2 y (tM y t.aC)) y=some (tM y t.aC):=ah;generalize upd H2 y (tM y t.aC)=H3 at *;refine⟨y,_,_,_,rfl,h3,T.cE,T.jc,?_⟩;refine⟨y,_,_,_,rfl,h3,T.cE,T.g7,?_⟩;refine⟨y,_,_,_,rfl,h3,T.cE,T.gZ,?_⟩;refine⟨y,_,_,_,rfl,h3,T.cE,T.g8,?_⟩;intro p4 Pk;have s4:=s3.Aw Pk (.lst [V.bl false,V.bl false,V.bl false,V.bl false]);have h4:=ar.new Pk (.lst [V.bl false,V.bl false,V.bl false,V.bl false]) _ _ h3;have l4:(upd H3 p4 (.lst [V.bl false,V.bl false,V.bl false,V.bl false])) p4=some (.lst [V.bl false,V.bl false,V.bl false,V.bl false]):=ah;generalize upd H3 p4 (.lst [V.bl false,V.bl false,V.bl false,V.bl false])=H4 at *;have z4:=l4;refine⟨y,_,_,_,rfl,h4,T.cE,T.gn,?_⟩;refine⟨y,_,_,_,rfl,h4,T.cE,T.jd,?_⟩;refine⟨y,_,_,_,rfl,h4,T.cE,T.jU,?_⟩;refine⟨y,_,_,_,rfl,h4,T.cE,T.jT,?_⟩;intro p5 TR;have s5:=s4.Aw TR (.lst [V.bl false,V.bl false,V.bl false,V.bl false]);have h5:=ar.new TR (.lst [V.bl false,V.bl false,V.bl false,V.bl false]) _ _ h4;have z5:=ar.new TR (.lst [V.bl false,V.bl false,V.bl false,V.bl false]) _ _ z4;have l5:(upd H4 p5 (.lst [V.bl false,V.bl false,V.bl false,V.bl false])) p5=some (.lst [V.bl false,V.bl false,V.bl false,V.bl false]):=ah;generalize upd H4 p5 (.lst [V.bl false,V.bl false,V.bl false,V.bl false])=H5 at *;refine⟨_,_,_,_,rfl,rfl,z5,l5,by rw[line];decide,fun p6 MJ=>?_⟩;have s6:=s5.Aw MJ (.lst ([V.bl false,V.bl false,V.bl false,V.bl false]++[V.bl false,V.bl false,V.bl false,V.bl false]));have h6:=ar.new MJ (.lst ([V.bl false,V.bl false,V.bl false,V.bl false]++[V.bl false,V.bl false,V.bl false,V.bl false])) _ _ h5;have l6:(upd H5 p6 (.lst ([V.bl false,V.bl false,V.bl false,V.bl false]++[V.bl false,V.bl false,V.bl false,V.bl false]))) p6=some (.lst ([V.bl false,V.bl false,V.bl false,V.bl false]++[V.bl false,V.bl false,V.bl false,V.bl false])):=ah;generalize upd H5 p6 (.lst ([V.bl false,V.bl false,V.bl false,V.bl false]++[V.bl false,V.bl false,V.bl false,V.bl false]))=H6 at *;have z6:=l6;refine⟨y,_,_,_,rfl,h6,T.cE,T.je,?_⟩;refine⟨y,_,_,_,rfl,h6,T.cE,T.iN,?_⟩;refine⟨y,_,_,_,rfl,h6,T.cE,T.hV,?_⟩;refine⟨y,_,_,_,rfl,h6,T.cE,T.gK,?_⟩;intro p7 TU;have s7:=s6.Aw TU (.lst [V.bl false,V.bl false,V.bl false,V.bl false]);have h7:=ar.new TU (.lst [V.bl false,V.bl false,V.bl false,V.bl false]) _ _ h6;have z7:=ar.new TU (.lst [V.bl false,V.bl false,V.bl false,V.bl false]) _ _ z6;have l7:(upd H6 p7 (.lst [V.bl false,V.bl false,V.bl false,V.bl false])) p7=some (.lst [V.bl false,V.bl false,V.bl false,V.bl false]):=ah;generalize upd H6 p7 (.lst [V.bl false,V.bl false,V.bl false,V.bl false])=H7 at *;refine⟨_,_,_,_,rfl,rfl,z7,l7,by rw[line];decide,fun p8 SE=>?_⟩;have s8:=s7.Aw SE (.lst (([V.bl false,V.bl false,V.bl false,V.bl false]++[V.bl false,V.bl false,V.bl false,V.bl false])++[V.bl false,V.bl false,V.bl false,V.bl false]));have h8:=ar.new SE (.lst (([V.bl false,V.bl false,V.bl false,V.bl false]++[V.bl false,V.bl false,V.bl false,V.bl false])++[V.bl false,V.bl false,V.bl false,V.bl false])) _ _ h7;have l8:(upd H7 p8 (.lst (([V.bl false,V.bl false,V.bl false,V.bl false]++[V.bl false,V.bl false,V.bl false,V.bl false])++[V.bl false,V.bl false,V.bl false,V.bl false]))) p8=some (.lst (([V.bl false,V.bl false,V.bl false,V.bl false]++[V.bl false,V.bl false,V.bl false,V.bl false])++[V.bl false,V.bl false,V.bl false,V.bl false])):=ah;generalize upd H7 p8 (.lst (([V.bl false,V.bl false,V.bl false,V.bl false]++[V.bl false,V.bl false,V.bl false,V.bl false])++[V.bl false,V.bl false,V.bl false,V.bl false]))=H8 at *;have z8:=l8;refine⟨y,_,_,_,rfl,h8,T.cE,T.hJ,?_⟩;refine⟨y,_,_,_,rfl,h8,T.cE,T.sj,?_⟩;rw[show (!true)=false from rfl];intro p9 Ny;have s9:=s8.Aw Ny (.lst [V.bl true,V.bl false]);have h9:=ar.new Ny (.lst [V.bl true,V.bl false]) _ _ h8;have z9:=ar.new Ny (.lst [V.bl true,V.bl false]) _ _ z8;have l9:(upd H8 p9 (.lst [V.bl true,V.bl false])) p9=some (.lst [V.bl true,V.bl false]):=ah;generalize upd H8 p9 (.lst [V.bl true,V.bl false])=H9 at *;refine⟨_,_,_,_,rfl,rfl,z9,l9,by rw[line];decide,fun pa hpa=>?_⟩;show U2 [some v,some v2,some (V.ref pa),none] _;refine(iq _ _).mpr ?_;walk_at "rd";have sa:=s9.Aw hpa (.lst ((([V.bl false,V.bl false,V.bl false,V.bl false]++[V.bl false,V.bl false,V.bl false,V.bl false])++[V.bl false,V.bl false,V.bl false,V.bl false])++[V.bl true,V.bl false]));exact q _ _ ps2 (((bf.of s1).trans u2).trans (bf.of sa)) (sa _ _ y2) (t2.up fun _ _ e=>sa _ _ e) ah
theorem qd(T:Tx K mg t)(bJ:bt P w K mg base fR 1 t.cH t.cA ["body", "behind"] (kh K))(bB:bt P w K mg base fR 6 t.bj t.bq ["body"] (jk K 4))(oA:bt P w K mg base fR 7 t.mi t.km ["program"] (vm K)) :
 bt P w K mg base fR 13 t.gQ t.iH ["one", "other", "paper"] (CG K):=by
 have iP:=qZ (P:=P) (w:=w) (base:=base) T bJ bB oA;have oF:=q0 (P:=P) (w:=w) (base:=base) T;have jO:=oE (P:=P) (w:=w) (base:=base) T;have k7:=oR (P:=P) (w:=w) (base:=base) T;refine T.bK.F.qL qb (fun vs H Q E h=>?_) (fun eY A outer s H vs Q E hr h=>?_)
 .obtain⟨_,_,_,_,_,_,_,rfl,_⟩:=h;rfl
 obtain⟨v1,v2,pa,av,aw,l,us,rfl,r1,r2,d1,d2,m1,m2,hpa,hl,zw,EA,q⟩:=h;have nd:=qb.nd;have line:zdN=2 ^ 24:=rfl;have vB:us.length=l.length:=(yah hl).symm;refine⟨_,[some v1,some v2,some (.ref pa),none,none,none],(aj (lC 3 nd (aV (ae (tF T.mY iP (hr.mono (by first|decide|omega)) rfl T.uM T.kC .nil cS (eL 0 ai)) (ae (tF T.mY iP (hr.mono (by first|decide|omega)) rfl T.uM T.kC .nil cS (eL 1 ai)) ai ba) ba)))
 (aj (bO (i:=4) nd rfl (zce rfl) (dP (EL (J:=qx) (fun _ _ _ _ h t=>Sb h t) rfl (xk hr)) rfl T.sk yb0 (ae (eN (own:=["pair"]) (ix:=[]) rfl (by rfl) (by rfl) (eM (pv 2)) (fun _ _ _ _=>(cK (i:=0) (by show List.Nodup (["pair"]:List Str);decide +kernel) rfl (zaH rfl))) (fun _ _ _ _=>dZ) (fun _ _ _ _=>(aV (eL 0 (ae o8 ai aK))))) ai iy)))
 (aj (bL (aW (qh (J:=qx) (Io hr)) (lJ oF T.iM hr (eL 3 ai)) (pv 4) rfl)
 (aA (aQ o8))
 a8)
 (aj (kJ yaG rfl (xH (J:=qx) (pv 4)) (Jr 5 nd)
 (aj (bL (Ai (rJ (lJ jO T.ie hr (eL 3 (eL 5 ai)))))
 (aA (aQ o8))
 a8)
 (aA (bL (Ai (rJ (bT (KO rfl) rfl T.MH ybZ (ae (eN (own:=["behind"]) (ix:=[4]) rfl (by rfl) (by rfl) (eM (lJ k7 T.dX hr (eL 3 (eL 5 ai)))) (fun _ _ _ _=>(cK (i:=0) (by show List.Nodup (["behind", "listed"]:List Str);decide +kernel) rfl (zaH rfl))) (fun _ _ _ _=>dZ) (fun _ _ _ _=>(du (Sj (J:=qx) (P:=P) (w:=w) (K:=K) rfl rfl rfl (Io hr)) (pv 0) (pv 1) rfl))) ai iy))))
 (aA (aQ o8))
 a8))))
 (aA (aQ o8)))))),rfl,?_⟩
 refine ay fun U1 fQ=>?_;walk_at "rd";intro w1 dx Fj IL ne;have s1:ar H (upd (upd H dx (.own w1)) w1 (.ins t.aX dx [])):=(ar.new IL _).trans (ar.new (by rw[au ne.symm];exact Fj) _);refine⟨w1,dx,v1,av,rfl,ah,by rw[au ne];exact ah,r1.mono s1,d1,fun uP H2 u2 Pm zZ=>⟨rfl,?_⟩⟩;have s2:ar H H2:=((bf.of s1).trans u2).same Fj;have g1:H uP=none:=s1.free Pm;intro w2 ex He hex ne2;have s3:ar H2 (upd (upd H2 ex (.own w2)) w2 (.ins t.aX ex [])):=(ar.new hex _).trans (ar.new (by rw[au ne2.symm];exact He) _);refine⟨w2,ex,v2,aw,rfl,ah,by rw[au ne2];exact ah,(r2.mono s2).mono s3,d2,fun sJ H4 u4 Pn IU=>⟨rfl,?_⟩⟩;have s4:ar H2 H4:=((bf.of s3).trans u4).same He;have g2:H2 sJ=none:=s3.free Pn;have NC:H sJ=none:=s2.free g2;obtain⟨φ1,X0⟩:=zZ.uU;have n12:uP≠sJ:=ag X0 g2;intro b hb;have s5:=ar.new hb (.tup [V.ref w1,V.ref w2]);have Wr:oM P w K t.aH t.aX (upd H4 b (.tup [V.ref w1,V.ref w2])) b w1 uP w2 sJ av aw:=⟨.of ah,(zZ.mono s4).mono s5,IU.mono s5,n12⟩
 have SX:ar H (upd H4 b (.tup [V.ref w1,V.ref w2])):=s2.trans (s4.trans s5);generalize upd H4 b (.tup [V.ref w1,V.ref w2])=H5 at *;refine(fQ _ _).mpr (ay fun U2 iq=>?_);clear fQ;have Wy:=SX.seq hpa;have hl5:=hl.mono SX;walk_at "rd";simp only[fS];walk_at "rd";refine⟨⟨us,Wy⟩,fun D hD=>?_⟩;refine nF (K:=K) (r:=[]) (fun i ys H2=>∃ps:List (zdF×br×zdF),ys=ps.map (fun q=>V.ref q.1)/\ps.map (·.2.1)=l.take i/\∀q∈ps,H2 q.1=some (.tup [.ref q.2.2,.bl true])/\l0 K H5 q.2.2 q.2.1) Wy (by lia) hD ⟨[],rfl,by simp,fun _ z=>by cases z⟩ (fun i x ys H6 hx s6 yD ly pv R hR=>?_) (fun ys H6 s6 yD pv=>?_)
 .obtain⟨ps,rfl,e1,F8⟩:=pv;obtain⟨p,a,ep,rfl,pat⟩:=hl5.get hx;walk_at "rd";intro c hc;have sc:=ar.new hc (.tup [V.ref a,V.bl true]);refine hR _ _ sc ⟨ps++[(c,p,a)],by simp,by rw[zaC,e1,List.take_succ,ep];rfl,fun q hq=>?_⟩;have cD:c≠D:=(ag yD hc).symm;rcases zan.mp hq with hq |hq
  .obtain⟨h1,h2⟩:=F8 q hq;have qD:q.1≠D:=bz h1 yD (by intro z;cases z);exact⟨by rw[au qD];exact sc _ _ h1,h2⟩
  .cases zaf.mp hq;exact⟨by rw[au cD];exact ah,pat⟩
 obtain⟨ps,rfl,e1,F8⟩:=pv;rw[vB,zbF] at e1;have Dl:=Wr.mono s6;refine⟨D,ps.map fun q=>(q.1,ki q.2.1,q.2.2,V.bl true),rfl,by rw[zbe];exact .of yD,fun q hq=>?_,by have:=ybW zbg e1;rw[zac] at this;rw[zac];lia,fun d H7 hd e7 ds7=>(iq _ _).mpr (ay fun U3 lE=>?_)⟩
 .obtain⟨z,hz,rfl⟩:=zae.mp hq;obtain⟨h1,h2⟩:=F8 z hz;exact⟨.of h1,xN (h2.mono s6)⟩
 clear iq;have ekn:nJ [] ((ps.map fun q=>(q.1,ki q.2.1,q.2.2,V.bl true)).map fun q=>(q.2.1,q.2.2.2))=Nr l:=by
  unfold Nr;rw[zbe,<- e1,zbe];rfl
 rw[ekn] at ds7;obtain⟨φ7,e7⟩:=e7;have s67:ar H6 H7:=by rw[e7];exact ar.new hd _
 have Wz:=Dl.mono s67;have s07:ar H H7:=SX.trans (s6.trans s67);clear F8 e7 ekn;walk_at "rd";refine⟨b,w1,uP,w2,sJ,av,aw,rfl,Wz,fun fp H8 s8 pf=>⟨d,fp,_,ki (jG av,jG aw),rfl,rfl,ds7.mono s8,xN pf,?_⟩⟩;rw[ES];have s08:=s07.trans s8;by_cases hf:(jG av,jG aw)∈l
 rotate_left
 .rw[ybU hf];refine(ybS rfl).mpr ?_;have:=q H8 s08;rw[show kQ av aw l=false by unfold kQ;rw[ybU hf,zdp]] at this;exact this
 rw[ybT hf];refine(ybR zam).mpr ((lE _ _).mpr (ay fun U4 uW=>?_));clear lE;have Dm:=Wz.mono s8;have ds8:=ds7.mono s8;refine pL fun U hU=>?_;simp only[Gn];walk_at "rd";refine⟨d,_,rfl,ds8,fun o ps fz po=>hU _ _ ?_⟩;clear hU;obtain⟨φd,ed⟩:=ds8.oY;have UQ:H6 d=none:=hd;have TJ:uP≠d:=by
  obtain⟨φ,e⟩:=Dl.one.uU;exact ag e UQ
 have nd2:sJ≠d:=by
  obtain⟨φ,e⟩:=Dl.two.uU;exact ag e UQ
 have uF:bf d H8 (upd H8 d (cQ d o)):=(bf.refl _ _).put _;have G9:∀a xs,bH K H8 a xs->bH K (upd H8 d (cQ d o)) a xs:=fun a xs h=>h.mL ed uF;have S0:=Dm.other ed TJ nd2 uF;have yF:(upd H8 d (cQ d o)) d=some (cQ d o):=ah;have fzF:=fz.up G9;have lps:ps.length=(Nr l).length:=(yah po).symm;have Z1:∀i c v',ps[i]?=some (c,v')->∃(kv:(bA×bA)×V) (p:br),(Nr l)[i]?=some kv/\kv.1=ki p/\p∈l/\l0 K (upd H8 d (cQ d o)) c p:=fun i c v' hi=>by
  obtain⟨kv,QL,on,_⟩:=fG po hi;obtain⟨p,hp,e⟩:=Ma (zaD QL);rw[e] at on;exact⟨kv,p,QL,e,hp,(AK on).oX G9⟩
 have kH:∀c o',H c=some o'->c≠d/\(upd H8 d (cQ d o)) c=some o':=fun c o' e=>by
  have n:c≠d:=ag ((SX.trans s6) _ _ e) UQ;exact⟨n,uF _ _ n (s08 _ _ e)⟩
 have TV:∀c o',H c=some o'->c≠uP/\c≠sJ:=fun c o' e=>⟨ag e g1,ag e NC⟩
 generalize upd H8 d (cQ d o)=Hz at *;obtain⟨Pv,qB,oC⟩:=Nq fun (i:Nat) (Y:St) (Hw:Hp) zq=>∀(z:Option V),Y=[some v1,some v2,some (.ref pa),some (.ref b),some (.ref d),z]->oK uP sJ Hz Hw->oM P w K t.aH t.aX Hw b w1 uP w2 sJ av aw->(∀j,j<i->∀kv,(Nr l)[j]?=some kv->∀p,kv.1=ki p->Nt av aw l p=true)->zq;refine AF (d:=d) (o:=o) (ps:=ps) Pv (qB _ _ _ fun _ zk=>zk none rfl oK.refl S0 (fun j hj=>by lia)) (fun i Y Hw _ hv=>?_) (fun i c v' Y Hw hi hv=>?_) (fun Y Hw hv=>?_)
 .exact oC _ _ _ hv _ fun _ _ u _ _=>u _ _ TJ.symm nd2.symm yF
 .refine oC _ _ _ hv _ fun z ze uw ww gd=>?_;subst ze;clear hv;obtain⟨kv,p,QL,ekv,hp,pat⟩:=Z1 i c v' hi;have WA:=pat.oX (S0.tup uw);have bad:∀H',oK uP sJ Hw H'->Nt av aw l p=false->Q (.bl false) H':=fun H' u g=>by
   have:=q H' fun a o' e=>u _ _ (TV a o' e).1 (TV a o' e).2 (uw _ _ (TV a o' e).1 (TV a o' e).2 (kH a o' e).2);rw[CI hp g] at this;exact this
  simp only[gE,zbV];refine ay fun V1 MO=>?_;walk_at "rd";refine⟨b,w1,uP,w2,sJ,c,av,aw,p,rfl,ww,d1,d2,WA,zw p hp,m1,m2,fun H9 u9 w9=>⟨_,rfl,?_⟩⟩;cases ha:eU av aw p with
  |false=>exact(ybS rfl).mpr (bad H9 u9 (by unfold Nt;rw[ha];rfl))
  |true=>
  refine(ybR zam).mpr ((MO _ _).mpr ?_);clear MO;walk_at "rd";simp only[fS];walk_at "rd";refine⟨b,w1,uP,w2,sJ,c,av,aw,p,rfl,w9,d1,d2,WA.oX (ww.tup u9),zw p hp,m1,m2,fun lb ub HA uA wA _ yA Wf=>?_⟩;have uwA:oK uP sJ Hz HA:=uw.trans (u9.trans uA);have fzA:=fzF.up (S0.tup uwA);have yFA:=uwA _ _ TJ.symm nd2.symm yF;have lub:ub.length=(ck av aw p).length:=(yah Wf).symm;have OU:(ck av aw p).length<=10:=by
   unfold ck;split
   .exact zaN _
   .split
    .simp
    .rw[zbx];refine zax (zdj _ _) ?_;rename_i a _ _ _;unfold lD;split
     .simp
     .split
      .simp
      .cases (fN av a.1 a.2 0).1<;>simp
    .exact zaN _
  refine⟨lb,rfl,⟨ub,.of yA⟩,fun D2 ZJ=>?_⟩;refine qg (K:=K) (r:=[some (.ref d)]) (fun i=>V.bl (decide ((ck av aw p).getD i ((0,[]),(0,[]))∈l))) (.of yA) (by lia) ZJ (fun i x HB hx sB R hR=>?_) (fun HB sB yB=>?_)
  .obtain⟨p2,a2,QU,rfl,aa4⟩:=Wf.get hx;walk_at "rd";refine⟨d,a2,_,ki p2,o,rfl,rfl,sB _ _ yFA,fzA.up fun _ _ z=>sB.cO z,xN (aa4.mono sB),?_⟩;rw[ES];rw[zal,QU] at hR;exact hR
  have e3:(zaj ub.length).map (fun i=>V.bl (decide ((ck av aw p).getD i ((0,[]),(0,[]))∈l)))=((ck av aw p).map fun b=>decide (b∈l)).map V.bl:=by
   rw[lub,zbe];exact mI (fun b=>V.bl (decide (b∈l))) _ _
  rw[e3] at yB;refine⟨D2,_,rfl,.of yB,?_⟩;have ea:(((ck av aw p).map fun b=>decide (b∈l)).all id)=(ck av aw p).all fun b=>decide (b∈l):=by rw[List.all_map];rfl
  rw[ea];cases hb2:(ck av aw p).all fun b=>decide (b∈l) with
  |false=>exact(ybS rfl).mpr (bad HB (u9.trans (uA.trans (.of sB))) (by unfold Nt;rw[ha,hb2];rfl))
  |true=>
  refine(ybR zam).mpr (qB _ _ _ fun _ zk=>zk _ rfl (uwA.trans (.of sB)) (wA.mono sB) fun j hj XA e2 p2 QU=>?_);rcases Nat.lt_or_ge j i with h |h
  .exact gd j h XA e2 p2 QU
  .have:j=i:=by lia
   subst this;rw[QL] at e2;cases e2;rw[ekv] at QU;cases pM QU;unfold Nt;rw[ha,hb2];rfl
 .refine oC _ _ _ hv _ fun z ze uw ww gd=>?_;subst ze;clear hv;refine(uW _ _).mpr ?_;walk_at "rd";have:=q Hw fun a o' e=>uw _ _ (TV a o' e).1 (TV a o' e).2 (kH a o' e).2;rw[ET hf fun kv hk p ep=>by
   obtain⟨j,hj⟩:=zcK.mp hk;have lj:=(zap.mp hj).1;exact gd j (by lia) kv hj p ep] at this
  exact this
theorem yR(T:Tx K mg t):bt P w K mg base fR 1 t.iK t.jx ["sizes", "said"] (GR K):=by
 refine T.dN.F.qL qW (fun vs H Q E h=>?_) (fun eY A outer s H vs Q E hr h=>?_)
 .obtain⟨_,_,_,_,_,_,rfl⟩:=h;rfl
 obtain⟨sz,a,b,c,d,cG,rfl,TX,q⟩:=h;have nd:=qW.nd;refine⟨_,[some (.ref sz),some (.int cG),none,none],(@aj _ _ _ _ _ (@bO _ _ 2 _ _ _ _ nd rfl (zaH rfl) (@aV _ _ _ _ _ (@ae _ _ _ _ _ (@bo _ _ _ _) (@ae _ _ _ _ _ (@ao _ _ _ _) (@ae _ _ _ _ _ (@bo _ _ _ _) (@ae _ _ _ _ _ (@aV _ _ _ _ _ (@cM _ _ ([.str "box",.str "a"]) (by kernel_rfl))) (@ae _ _ _ _ _ (@aV _ _ _ _ _ (@cM _ _ ([.str "number",.int 0]) (by kernel_rfl))) (@ae _ _ _ _ _ (@bY _ _ _ _ (@ae _ _ _ _ _ (@aV _ _ _ _ _ (@ae _ _ _ _ _ (@bo _ _ _ _) (@ae _ _ _ _ _ (@ao _ _ _ _) (@ae _ _ _ _ _ (@aV _ _ _ _ _ (@ae _ _ _ _ _ (@bo _ _ _ _) (@ae _ _ _ _ _ (pv 1) (@ai _) (@aD _ _ _ _)) (@aK _ _ _ _ _))) (@ai _) (@dQ _ _ _ _ _)) (@aK _ _ _ _ _)) (@aK _ _ _ _ _))) (@ai _) (@dQ _ _ _ _ _))) (@ae _ _ _ _ _ (@bY _ _ _ _ (@ai _)) (@ai _) (@Ax _ _ _ _)) (@Ax _ _ _ _)) (@dQ _ _ _ _ _)) (@dQ _ _ _ _ _)) (@aK _ _ _ _ _)) (@aK _ _ _ _ _)) (@aK _ _ _ _ _))) (by first |rfl |exact .inl rfl |exact .inr rfl |decide |(intro _;rfl) |assumption) (by first |rfl |exact .inl rfl |exact .inr rfl |decide |(intro _;rfl) |assumption)) (@aj _ _ _ _ _ (@bO _ _ 3 _ _ _ _ nd rfl (zaH rfl) (@bY _ _ _ _ (@ae _ _ _ _ _ (@aV _ _ _ _ _ (@cM _ _ ([.str "ask",.int 5,.str "a"]) (by kernel_rfl))) (@ae _ _ _ _ _ (pv 2) (@ae _ _ _ _ _ (@aV _ _ _ _ _ (@cM _ _ ([.str "ask",.int 9,.str "ab"]) (by kernel_rfl))) (@ae _ _ _ _ _ (@aV _ _ _ _ _ (@cM _ _ ([.str "ask",.int 10,.str "b"]) (by kernel_rfl))) (@ae _ _ _ _ _ (@aV _ _ _ _ _ (@cM _ _ ([.str "ask",.int 11,.str "c"]) (by kernel_rfl))) (@ai _) (@dQ _ _ _ _ _)) (@dQ _ _ _ _ _)) (@dQ _ _ _ _ _)) (@aD _ _ _ _)) (@dQ _ _ _ _ _))) (by first |rfl |exact .inl rfl |exact .inr rfl |decide |(intro _;rfl) |assumption) (by first |rfl |exact .inl rfl |exact .inr rfl |decide |(intro _;rfl) |assumption)) (@aA _ _ _ (@aQ _ _ _ _ (@aV _ _ _ _ _ (@ae _ _ _ _ _ (@eN _ _ _ _ _ _ _ ["k"] [0] _ _ _ _ rfl (by rfl) (by rfl) (@gu _ _ _ _ _ _ rfl T.iO (@ae _ _ _ _ _ (@ao _ _ _ _) (@ai _) (@aK _ _ _ _ _)) (by first |rfl |exact .inl rfl |exact .inr rfl |decide |(intro _;rfl) |assumption)) (fun _ _ _ _=>(@cK _ _ 0 _ (by show List.Nodup (["k", "sizes"]:List Str);decide +kernel) rfl (zaH rfl) (by first |rfl |exact .inl rfl |exact .inr rfl |decide |(intro _;rfl) |assumption))) (fun _ _ _ _=>(@dZ _)) (fun _ _ _ _=>(@aV _ _ _ _ _ (@ae _ _ _ _ _ (@aJ _ _ _ _ _ _ _ (jD (K:=K) rfl) (@bY _ _ _ _ (@cM _ _ ([.str "a",.str "ab",.str "b",.str "c"]) (by kernel_rfl))) (pv 0) (@fM _ _)) (@ae _ _ _ _ _ (@aJ _ _ _ _ _ _ _ (jD (K:=K) rfl) (pv 1) (pv 0) (@fM _ _)) (@ae _ _ _ _ _ (@ao _ _ _ _) (@ai _) (@aK _ _ _ _ _)) (@a7 _ _ _ _ _)) (@a7 _ _ _ _ _)))) (by first |rfl |exact .inl rfl |exact .inr rfl |decide |(intro _;rfl) |assumption)) (@ae _ _ _ _ _ (pv 3) (@ai _) (@aD _ _ _ _)) (@iy _ _ _ _ _ _))))))),rfl,?_⟩;have line:zdN=2 ^ 24:=rfl;refine ay fun U1 fQ=>?_;walk_at "rd";intro p1 Ba;generalize e1:upd H p1 _=H1;have s1:=gT e1 Ba;have r1:Rep K H1 (wL (.box [97])) (.ref p1):=DG e1 Ba (.cons rS (.cons rS .nil));clear e1;intro p2 sV;generalize e2:upd H1 p2 _=H2;have s2:=gT e2 sV;have r2:Rep K H2 (wL (.num 0)) (.ref p2):=DG e2 sV (.cons rS (.cons qN .nil));clear e2;intro p3 QG;generalize e3:upd H2 p3 _=H3;have s3:=gT e3 QG;have r3:Rep K H3 (wL (.num cG)) (.ref p3):=DG e3 QG (.cons rS (.cons qN .nil));clear e3;intro p4 Pk;generalize e4:upd H3 p4 _=H4;have s4:=gT e4 Pk;have r4:Rep K H4 (jC (.say 7 (.num cG))) (.ref p4):=DG e4 Pk (.cons rS (.cons qN (.cons r3 .nil)));clear e4;intro p5 TR;generalize e5:upd H4 p5 _=H5;have s5:=gL e5 TR;have r5:Rep K H5 (.lst (B9 [.say 7 (.num cG)])) (.ref p5):=Vj e5 TR (.cons r4 .nil);clear e5;intro p6 MJ;generalize e6:upd H5 p6 _=H6;have s6:=gL e6 MJ;have r6:Rep K H6 (.lst (B9 [])) (.ref p6):=Vj e6 MJ .nil;clear e6;intro p7 TU;generalize e7:upd H6 p7 _=H7;have s7:=gT e7 TU;have r7:Rep K H7 (jC (.ifs 6 [61] (.box [97]) (.num 0) [.say 7 (.num cG)] [])) (.ref p7):=DG e7 TU (.cons rS (.cons qN (.cons rS (.cons (Rep.mono ((((s2.trans s3).trans s4).trans s5).trans s6) r1) (.cons (Rep.mono (((s3.trans s4).trans s5).trans s6) r2) (.cons (Rep.mono s6 r5) (.cons r6 .nil)))))));clear e7;have S7:=(((((s1.trans s2).trans s3).trans s4).trans s5).trans s6).trans s7;clear s1 s2 s3 s4 s5 s6 s7;refine(fQ _ _).mpr (ay fun U2 iq=>?_);clear fQ;walk_at "rd";intro q1 WB;generalize e1:upd H7 q1 _=G1;have s1:=gT e1 WB;have f1:Rep K G1 (jC (.ask 5 [97])) (.ref q1):=DG e1 WB (.cons rS (.cons qN (.cons rS .nil)));clear e1;intro q2 WC;generalize e2:upd G1 q2 _=G2;have s2:=gT e2 WC;have f2:Rep K G2 (jC (.ask 9 [97,98])) (.ref q2):=DG e2 WC (.cons rS (.cons qN (.cons rS .nil)));clear e2;intro q3 WD;generalize e3:upd G2 q3 _=G3;have s3:=gT e3 WD;have f3:Rep K G3 (jC (.ask 10 [98])) (.ref q3):=DG e3 WD (.cons rS (.cons qN (.cons rS .nil)));clear e3;intro q4 WE;generalize e4:upd G3 q4 _=G4;have s4:=gT e4 WE;have f4:Rep K G4 (jC (.ask 11 [99])) (.ref q4):=DG e4 WE (.cons rS (.cons qN (.cons rS .nil)));clear e4;intro q5 WG;generalize e5:upd G4 q5 _=G5;have s5:=gL e5 WG;have f5:Rep K G5 (.lst ((Nw cG).map jC)) (.ref q5):=Vj e5 WG (.cons (Rep.mono ((s2.trans s3).trans s4) f1) (.cons (Rep.mono (((s1.trans s2).trans s3).trans s4) r7) (.cons (Rep.mono (s3.trans s4) f2) (.cons (Rep.mono s4 f3) (.cons f4 .nil)))));clear e5;have S5:=S7.trans ((((s1.trans s2).trans s3).trans s4).trans s5);clear s1 s2 s3 s4 s5;refine(iq _ _).mpr ?_;clear iq;walk_at "rd";simp only[fS];walk_at "rd";refine⟨_,rfl,by lia,by lia,fun E1 MZ=>?_⟩;refine kF (n:=4) (r:=[some (.ref sz)]) (fun i ys Hz=>aL K (wo Hz E1) ((VM [a,b,c,d] i).map vU) ys) (by lia) MZ .nil (fun i ys K2 hi s3 z2 ly r2 R hR=>?_) (fun xs K2 s3 z2 lx r2=>?_)
 .walk_at "rd";intro p8 h8;generalize e8:upd K2 p8 _=K3;have s8:=gL e8 h8;have y8:=Vk e8;clear e8;refine cT (.of y8) (az (j:=i) (A1 hi)) (cT (.of (s8 _ _ (s3 _ _ (S5 _ _ TX)))) (az (j:=i) (wX hi)) ?_);intro p3 h3;have e2:=ar.new h3 (.tup [.str (S (BH i)),.int ([a,b,c,d].getD i 0),.int 0]);obtain⟨w1,w2⟩:=C1 h3 (s8 _ _ z2) (.tup [.str (S (BH i)),.int ([a,b,c,d].getD i 0),.int 0]);have g2:Rep K (wo (upd K3 p3 (.tup [.str (S (BH i)),.int ([a,b,c,d].getD i 0),.int 0])) E1) (vU ⟨BH i,[a,b,c,d].getD i 0,0⟩) (.ref p3):=by rw[w1];exact Rep.new w2 (.cons rS (.cons qN (.cons qN .nil)))
  clear w1 w2;generalize upd K3 p3 (.tup [.str (S (BH i)),.int ([a,b,c,d].getD i 0),.int 0])=K4 at *;refine hR _ _ (s8.trans e2) ?_;rw[fc];unfold VM;rw[za7,zaC,zaC];exact(aL.mono (qj (s8.trans e2)) r2).append (.cons g2 .nil)
 rw[C2] at r2;intro p4 h4;have n4:=ar.new h4 (.tup [.ref E1,.ref q5]);exact q _ _ ((S5.trans s3).trans n4) (Rep.aT.mpr ⟨_,_,rfl,.of ah,.cons (Rep.bG.mpr ⟨_,_,rfl,.of (n4 _ _ z2),aL.mono n4 (aL.mono mO r2)⟩) (.cons (Rep.mono (s3.trans n4) f5) .nil)⟩)
theorem oG(T:Tx K mg t):bt P w K mg base fR 1 t.jK t.kr ["deck", "many"] GB:=by
 refine T.aM.F.qL uz (fun vs H Q E h=>?_) (fun eY A outer s H vs Q E hr h=>?_)
 .obtain⟨_,_,_,_,_,rfl,_⟩:=h;rfl
 obtain⟨D,C,G,d,many,rfl,dk,hm,Qk,UO,q⟩:=h;have nd:=uz.nd;have hu:=mD hr;refine⟨_,[some (V.ref D),some (V.int many),none,none,none,none],(aj (lC 2 nd (aJ dy (pv 0) ao aq))
 (aj (JJ (bg fK (pv 2) ao) (JI (pv 0) ao set_list))
 (aj (bL (aW (HY (mD hr)) (aJ dy (pv 0) ao aq) (bY ai) (aY _))
 (aA (aQ (bg jP (bg fK (bg kL (bg kL (pv 2) (pv 2)) ao) (bg Al (pv 2) ao)) (pv 1))))
 a8)
 (aj (lC 3 nd (bg jP (pv 2) (bT tI rfl T.wb yb4 (ae (aJ dy (pv 0) ao aq) ai a7))))
 (aj (bL (rJ (aJ dy (aJ dy (pv 0) ao aq) (pv 3) fM))
 (aj (lC 4 nd (bg jP (aJ dy (aJ dy (pv 0) ao aq) (pv 3) fM) (pv 1)))
 (aj (JJ (bg Al (aJ dy (aJ dy (pv 0) ao aq) (pv 3) fM) (pv 1)) (JI (aJ dy (pv 0) ao aq) (pv 3) set_list))
 (aA (aQ (pv 4)))))
 a8)
 (aj (lC 5 nd (bg jP (bg kL (bg fK (bg jP (aJ dy (aJ dy (pv 0) ao aq) (pv 3) fM) ao) (bg kL ao (bg fK (pv 2) ao))) ao) ao))
 (aj (lC 5 nd (bg jP (bg kL (pv 5) (pv 5)) ao))
 (aA (aQ (bg jP (bg Al (bg jP (bg kL (pv 5) ao) ao) ao) (pv 1))))))))))),rfl,?_⟩
 have line:zdN=2 ^ 24:=rfl;refine ay fun U1 fQ=>?_;walk_at "rd";refine cT (.of dk.nN) (az (j:=1) rfl) ((fQ _ _).mpr (ay fun U2 iq=>?_));clear fQ;walk_at "rd";refine⟨D,_,1,1,rfl,rfl,dk.nN,rfl,?_⟩;have u1:bf D H (upd H D (.lst [.ref C,.int (d.pos+1),.ref G,.int d.left,.int d.row])):=(bf.refl D H).put _;have y1:(upd H D (.lst [.ref C,.int (d.pos+1),.ref G,.int d.left,.int d.row])) D=_:=ah;have c1:vX D C H (upd H D (.lst [.ref C,.int (d.pos+1),.ref G,.int d.left,.int d.row])):=vX.put _ (.inl rfl);show U2 _ (upd H D (.lst [.ref C,.int (d.pos+1),.ref G,.int d.left,.int d.row]));generalize upd H D (.lst [.ref C,.int (d.pos+1),.ref G,.int d.left,.int d.row])=H1 at *;have p0:=dk.pos;have QV:ma H1 D C G {d with pos:=d.pos+1}:=dk.put u1 y1 rfl rfl (show 0<=d.pos+1 by lia);refine(iq _ _).mpr (ay fun U3 lE=>?_);clear iq;walk_at "rd";refine cT (.of QV.nN) (az (j:=0) rfl) fun p hp=>?_;have s2:=ar.new hp (.lst []);have y2:(upd H1 p (.lst [])) p=_:=ah;have yw:=QV.same s2;have c2:=c1.trans (vX.of s2);generalize upd H1 p (.lst [])=H2 at *;have cm:HF d.pos d.pos:=mulL (by lia) (by lia);refine⟨C,p,_,rfl,rfl,.of yw.cs,.of y2,?_⟩;unfold PG.draw at q;cases hc:d.cs with
 |nil=>
  rw[ybS hc] at q;refine(ybS (by simp[hc])).mpr ⟨cm,mulR (by decide) (by decide),hm,q _ _ H2 rfl c2 yw⟩
 |cons z zs=>
  have ne:d.cs≠[]:=by rw[hc];simp
  rw[<- hc];refine(ybR (by simp[hc])).mpr ((lE _ _).mpr (ay fun U4 uW=>?_));clear lE;rw[ybR ne] at q;have lp:0<d.cs.length:=zcf.mpr ne;have m1:=zbr d.pos (b:=(d.cs.length:Int)) (by lia);have m2:=zba d.pos (b:=(d.cs.length:Int)) (by lia);walk_at "rd";refine cT (.of yw.nN) (az (j:=0) rfl) ⟨C,_,rfl,.inl (.of yw.cs),?_⟩;rw[zac];refine⟨by show (0:Int)<_;simp only;lia,(uW _ _).mpr (ay fun U5 zX=>?_)⟩;clear uW;obtain⟨k,ek⟩:∃k:Nat,d.pos%(d.cs.length:Int)=(k:Int):=⟨_,(zdx m1).symm⟩
  simp only[ek,zbL] at q |-;have lk:k<d.cs.length:=by lia
  have gk:k<d.gs.length:=by rw[dk.gl];exact lk
  have eg:d.gs.getD k false=d.gs[k]:=by rw[zal,zad gk];rfl
  have ec:d.cs.getD k 0=d.cs[k]:=by rw[zal,zad lk];rfl
  rw[eg,ec] at q;have iC:(d.cs.map V.int)[k]?=some (V.int d.cs[k]):=by rw[zar,zad lk];rfl
  have iG:(d.gs.map V.bl)[k]?=some (V.bl d.gs[k]):=by rw[zar,zad gk];rfl
  walk_at "rd";refine cT (.of yw.nN) (az (j:=2) rfl) (cT (.of yw.gs) (az iG) ⟨_,rfl,?_⟩);by_cases hg:d.gs[k]=true
  .rw[ybS hg] at q;refine(ybS hg).mpr (cT (.of yw.nN) (az (j:=0) rfl) (cT (.of yw.cs) (az iC) ⟨_,_,rfl,rfl,hm,cT (.of yw.nN) (az (j:=0) rfl) (cT (.of yw.cs) (az iC) ⟨_,_,rfl,rfl,?_,cT (.of yw.nN) (az (j:=0) rfl) ⟨C,_,k,k,rfl,rfl,yw.cs,(by unfold PL;rw[zac];simp;lia),?_⟩⟩)⟩))
   .exact⟨hm,by lia⟩
   .have cC:vX D C H2 (upd H2 C (.lst ((d.cs.set k (d.cs[k]/many)).map V.int))):=vX.put _ (.inr rfl);have uC:bf C H2 (upd H2 C (.lst ((d.cs.set k (d.cs[k]/many)).map V.int))):=(bf.refl _ _).put _;rw[<- List.map_set];exact q _ _ _ rfl (c2.trans cC) ⟨uC _ _ dk.Tt yw.nN,ah,uC _ _ dk.VC.symm yw.gs,dk.Tt,dk.VB,dk.VC,by simpa using dk.len,by simpa using dk.gl,QV.pos⟩
  .rw[ybR hg] at q;refine(ybR hg).mpr ((zX _ _).mpr (ay fun U6 De=>?_));clear zX;walk_at "rd";refine cT (.of yw.nN) (az (j:=0) rfl) (cT (.of yw.cs) (az iC) ⟨_,_,rfl,rfl,(by decide:(0:Int)<2147483629),mulL (by decide) (by decide),_,_,rfl,rfl,_,_,rfl,rfl,mulR (by decide) (by decide),_,_,rfl,rfl,(by decide:(0:Int)<2147483629),(De _ _).mpr (ay fun U7 SM=>?_)⟩);clear De;simp only[];have b1:=zbr ((d.cs[k]%2147483629+62233*(d.pos+1))*48271) (b:=2147483629) (by decide);have b2:=zba ((d.cs[k]%2147483629+62233*(d.pos+1))*48271) (b:=2147483629) (by decide);generalize (d.cs[k]%2147483629+62233*(d.pos+1))*48271%2147483629=n1 at *;walk_at "rd";refine⟨mulL (by lia) (by lia),(SM _ _).mpr ?_⟩;walk_at "rd";exact⟨mulR (by decide) (by decide),hm,q _ _ H2 rfl c2 yw⟩
theorem Ae{ns:List Int}{r:St}(f:Int->V)(hS:iR K H a (ns.map V.int))(hl:ns.length<=16000000)(hD:H D=none)
 (step:∀z H2,ar H H2->∀R:VK,R (f z) H2->te (some (.int z)::r) H2 R)
 (q:∀H2,ar H H2->H2 D=some (.lst (ns.map f))->Q (.ref D) H2):qJ (Hs K a) D (gE 0) xi te Q (none::r) (upd H D (.lst [])):=by
 refine nF (fun i ys _=>ys=(ns.take i).map f) hS (by rw[zac];exact hl) hD (by simp) (fun i x ys H2 hx s2 h2 ly p2 R hR=>?_) (fun ys H2 s2 h2 p2=>q H2 s2 ?_)
 .rw[zar] at hx;obtain⟨z,hz,rfl⟩:=zaZ.mp hx;refine step z H2 s2 R (hR _ _ (.refl _) ?_);show ys++[f z]=(ns.take (i+1)).map f;rw[p2,List.take_succ,hz,zaC];rfl
 .have p2:ys=(ns.take (ns.map V.int).length).map f:=p2;rw[zac,zbF] at p2;rw[<- p2];exact h2
theorem Bh(T:Tx K mg t):bt P w K mg base fR 1 t.jL t.kx ["script"] (OR K):=by
 refine T.ig.F.qL uD (fun vs H Q E h=>?_) (fun eY A outer s H vs Q E hr h=>?_)
 .obtain⟨_,_,rfl,_⟩:=h;rfl
 obtain⟨a,ns,rfl,hS,WH,q⟩:=h;have nd:=uD.nd;have hu:=mD hr;refine⟨_,[some (V.ref a),none],(aj (Av (i:=1) nd rfl (zaH rfl) (own:=["cell"]) (ix:=[]) rfl (by rfl) (by rfl) (eM (tH wJ (pv 0) wG (wH ao))) (fun _ _ _ _=>(cK (i:=0) (by show List.Nodup (["cell"]:List Str);decide +kernel) rfl (zaH rfl))) (fun _ _ _ _=>dZ) (fun _ _ _ _=>(du FC (pv 0) (bg DT ao ao) (aY _))))
 (aA (aQ (bY (ae (eN (own:=["cell"]) (ix:=[]) rfl (by rfl) (by rfl) (eM (tH wJ (pv 0) wG (wH ao))) (fun _ _ _ _=>(cK (i:=0) (by show List.Nodup (["cell"]:List Str);decide +kernel) rfl (zaH rfl))) (fun _ _ _ _=>dZ) (fun _ _ _ _=>(bg Ak (pv 0) (bg kL (bg DT ao ao) (dP vS rfl T.GY yb2 (ae (du FC (pv 0) (bg DT ao ao) (aY _)) ai Ku)))))) (ae ao (eL 1 (ae ao (ae ao ai aK) aK)) aK) iy))))),rfl,?_⟩
 have line:zdN=2 ^ 24:=rfl;have WI:Ui 10 18:=⟨by decide,by decide,by decide⟩
 have e18:(10:Int) ^ Int.toNat 18=10 ^ 18:=rfl;refine ay fun U1 fQ=>?_;walk_at "rd";simp only[fS];walk_at "rd";refine⟨_,rfl,a,_,rfl,hS,fun S TL=>⟨S,rfl,?_⟩⟩;rw[Qd ns WH];have s1:=ar.new TL (.lst (ns.map V.int));have y1:(upd H S (.lst (ns.map V.int))) S=_:=ah;generalize upd H S (.lst (ns.map V.int))=H1 at *;refine⟨⟨_,.of y1⟩,fun G hG=>Ae (fun z=>V.bl (decide (z ≥ 10 ^ 18))) (.of y1) (by lia) hG (fun z H2 s2 R hR=>?_) (fun H2 s2 y2=>(fQ _ _).mpr ?_)⟩
 .walk_at "rd";exact⟨WI,hR⟩
 clear fQ;have hG0:H G=none:=vq s1 hG;have sG:ar H H2:=s1.trans s2;walk_at "rd";simp only[fS];walk_at "rd";refine⟨_,rfl,a,_,rfl,sG.seq hS,fun S3 hS3=>⟨S3,rfl,?_⟩⟩;rw[Qd ns WH];have s3:=ar.new hS3 (.lst (ns.map V.int));have y3:(upd H2 S3 (.lst (ns.map V.int))) S3=_:=ah;generalize upd H2 S3 (.lst (ns.map V.int))=H3 at *;refine⟨⟨_,.of y3⟩,fun C hC=>Ae (fun z=>V.int (if z ≥ 10 ^ 18 then z-10 ^ 18 else z)) (.of y3) (by lia) hC (fun z H4 s4 R hR=>?_) (fun H4 s4 y4 D hD=>?_)⟩
 .walk_at "rd";by_cases hz:z ≥ (10:Int) ^ 18
  .rw[show decide ((10:Int) ^ Int.toNat 18<=z)=true from ybT hz];rw[ybS hz] at hR;refine⟨WI,WI,true,rfl,mulR (by decide) (by decide),?_⟩;rw[ybS rfl,Int.mul_one];exact hR
  .rw[show decide ((10:Int) ^ Int.toNat 18<=z)=false from ybU hz];rw[ybR hz] at hR;refine⟨WI,WI,false,rfl,mulR (by decide) (by decide),?_⟩;rw[ybR zam,Int.mul_zero,Int.sub_zero];exact hR
 .have s04:=sG.trans (s3.trans s4);have VD:=(s3.trans s4) _ _ y2;have sD:=ar.new hD (.lst [V.ref C,V.int 0,V.ref G,V.int 0,V.int 0]);refine q D C G _ (s04.trans sD) (vq s04 hD) (vq (sG.trans s3) hC) ⟨ah,?_,?_,(ag y4 hD).symm,(ag VD hD).symm,(ag (s3 _ _ y2) hC).symm,?_,?_,za0 _⟩
  .rw[sD _ _ y4];unfold vz;simp only[zbe];rfl
  .rw[sD _ _ VD];unfold vz;simp only[zbe];rfl
  .unfold vz;simp only[zac];exact WH
  .unfold vz;simp only[zac]
theorem qC(T:Tx K mg t)(B:jm K mg base c Pt)(hc:vx K t.dH c):bt P w K mg base fR 22 t.dW t.eR ["deck", "sizes", "more"] (QE "told_apart.<locals>.<lambda>" Pt (xF (eX aU))):=by
 have b9:=oG (P:=P) (w:=w) (base:=base) T;have uQ:=yR (P:=P) (w:=w) (base:=base) T;have g1:=kE (P:=P) (w:=w) (base:=base) T;have g2:=vL (P:=P) (w:=w) (base:=base) T 4;have g3:=Hj (P:=P) (w:=w) (base:=base) T;have lh:=oS (P:=P) (w:=w) (base:=base) T B hc g1 g2 g3;have iQ:=mw (P:=P) (w:=w) (base:=base) T B hc g1 g2 g3;have jz:=qd (P:=P) (w:=w) (base:=base) T g1 g2 g3;refine T.cN.F.qL jZ (fun vs H Q E h=>?_) (fun eY A outer s H vs Q E hr h=>?_)
 .obtain⟨_,_,_,_,_,_,_,_,_,_,_,rfl⟩:=h;rfl
 obtain⟨D,C,G,sz,a,b,c',d',more,dk,ps,rfl,TY,hp,Jx,Jy,TX,z,hm,yP,tb,q⟩:=h;have nd:=jZ.nd;refine⟨_,[some (.ref D),some (.ref sz),some (.int more),none,none,none,none,none,none,none],(@aj _ _ _ _ _ (@bO _ _ 3 _ _ _ _ nd rfl (zaH rfl) (@bC _ _ _ _ _ _ _ _ _ _ _ _ _ _ _ _ b9 (hr.mono (by first|decide|omega)) rfl T.aM.m T.aM.F.kp T.aM.b .nil cS (@ae _ _ _ _ _ (pv 0) (@ae _ _ _ _ _ (@ao _ _ _ _) (@ai _) (@aK _ _ _ _ _)) (@aD _ _ _ _)) (by first |rfl |exact .inl rfl |exact .inr rfl |decide |(intro _;rfl) |assumption) (by first |rfl |exact .inl rfl |exact .inr rfl |decide |(intro _;rfl) |assumption) (by first |rfl |exact .inl rfl |exact .inr rfl |decide |(intro _;rfl) |assumption)) (by first |rfl |exact .inl rfl |exact .inr rfl |decide |(intro _;rfl) |assumption) (by first |rfl |exact .inl rfl |exact .inr rfl |decide |(intro _;rfl) |assumption)) (@aj _ _ _ _ _ (@bO _ _ 4 _ _ _ _ nd rfl (zaH rfl) (@bC _ _ _ _ _ _ _ _ _ _ _ _ _ _ _ _ uQ (hr.mono (by first|decide|omega)) rfl T.dN.m T.dN.F.kp T.dN.b .nil cS (@ae _ _ _ _ _ (pv 1) (@ae _ _ _ _ _ (pv 3) (@ai _) (@aD _ _ _ _)) (@aD _ _ _ _)) (by first |rfl |exact .inl rfl |exact .inr rfl |decide |(intro _;rfl) |assumption) (by first |rfl |exact .inl rfl |exact .inr rfl |decide |(intro _;rfl) |assumption) (by first |rfl |exact .inl rfl |exact .inr rfl |decide |(intro _;rfl) |assumption)) (by first |rfl |exact .inl rfl |exact .inr rfl |decide |(intro _;rfl) |assumption) (by first |rfl |exact .inl rfl |exact .inr rfl |decide |(intro _;rfl) |assumption)) (@aj _ _ _ _ _ (@bO _ _ 5 _ _ _ _ nd rfl (zaH rfl) (@bC _ _ _ _ _ _ _ _ _ _ _ _ _ _ _ _ uQ (hr.mono (by first|decide|omega)) rfl T.dN.m T.dN.F.kp T.dN.b .nil cS (@ae _ _ _ _ _ (pv 1) (@ae _ _ _ _ _ (@bg _ _ _ _ _ _ _ _ (@fK _) (pv 3) (pv 2)) (@ai _) (@nv _ _ _ _ _ _)) (@aD _ _ _ _)) (by first |rfl |exact .inl rfl |exact .inr rfl |decide |(intro _;rfl) |assumption) (by first |rfl |exact .inl rfl |exact .inr rfl |decide |(intro _;rfl) |assumption) (by first |rfl |exact .inl rfl |exact .inr rfl |decide |(intro _;rfl) |assumption)) (by first |rfl |exact .inl rfl |exact .inr rfl |decide |(intro _;rfl) |assumption) (by first |rfl |exact .inl rfl |exact .inr rfl |decide |(intro _;rfl) |assumption)) (@aj _ _ _ _ _ (@bO _ _ 6 _ _ _ _ nd rfl (zaH rfl) (@bg _ _ _ _ _ _ _ _ (@Ak _) (@bg _ _ _ _ _ _ _ _ (@fK _) (@bg _ _ _ _ _ _ _ _ (@fK _) (@ao _ _ _ _) (@aJ _ _ _ _ _ _ _ (@dy _) (pv 1) (@ao _ _ _ _) (@aq _ _ _))) (@ao _ _ _ _)) (pv 2)) (by first |rfl |exact .inl rfl |exact .inr rfl |decide |(intro _;rfl) |assumption) (by first |rfl |exact .inl rfl |exact .inr rfl |decide |(intro _;rfl) |assumption)) (@aj _ _ _ _ _ (@bO _ _ 7 _ _ _ _ nd rfl (zaH rfl) (@bg _ _ _ _ _ _ _ _ (@Ak _) (@aJ _ _ _ _ _ _ _ (@dy _) (pv 1) (@ao _ _ _ _) (@aq _ _ _)) (pv 2)) (by first |rfl |exact .inl rfl |exact .inr rfl |decide |(intro _;rfl) |assumption) (by first |rfl |exact .inl rfl |exact .inr rfl |decide |(intro _;rfl) |assumption)) (@aj _ _ _ _ _ (@kJ _ _ _ _ _ _ _ _ yaG rfl (@eM _ _ _ _ (@tH _ _ _ _ _ _ _ _ _ _ (@wJ _) (pv 1) (@wH _ _ _ (@ao _ _ _ _)) (@wG _))) (@cK _ _ 8 _ nd rfl (zaH rfl) (by first |rfl |exact .inl rfl |exact .inr rfl |decide |(intro _;rfl) |assumption)) (@aj _ _ _ _ _ (@bO _ _ 7 _ _ _ _ nd rfl (zaH rfl) (@bg _ _ _ _ _ _ _ _ (@kL _) (pv 7) (pv 8)) (by first |rfl |exact .inl rfl |exact .inr rfl |decide |(intro _;rfl) |assumption) (by first |rfl |exact .inl rfl |exact .inr rfl |decide |(intro _;rfl) |assumption)) (@aA _ _ _ (@bO _ _ 6 _ _ _ _ nd rfl (zaH rfl) (@bg _ _ _ _ _ _ _ _ (@fK _) (pv 6) (pv 7)) (by first |rfl |exact .inl rfl |exact .inr rfl |decide |(intro _;rfl) |assumption) (by first |rfl |exact .inl rfl |exact .inr rfl |decide |(intro _;rfl) |assumption)))) (by first |rfl |exact .inl rfl |exact .inr rfl |decide |(intro _;rfl) |assumption)) (@aj _ _ _ _ _ (@bL _ _ _ _ _ _ _ _ (@aW _ _ _ _ _ _ _ _ (@BS _) (pv 6) (@ao _ _ _ _) (aY _)) (@aA _ _ _ (@aQ _ _ _ _ (@du _ _ _ _ _ _ _ _ (@F3 _ (xk hr)) (@bC _ _ _ _ _ _ _ _ _ _ _ _ _ _ _ _ lh (hr.mono (by first|decide|omega)) rfl T.cB.m T.cB.F.kp T.cB.b .nil cS (@ae _ _ _ _ _ (pv 4) (@ae _ _ _ _ _ (pv 5) (@ai _) (@aD _ _ _ _)) (@aD _ _ _ _)) (by first |rfl |exact .inl rfl |exact .inr rfl |decide |(intro _;rfl) |assumption) (by first |rfl |exact .inl rfl |exact .inr rfl |decide |(intro _;rfl) |assumption) (by first |rfl |exact .inl rfl |exact .inr rfl |decide |(intro _;rfl) |assumption)) (@eN _ _ _ _ _ _ _ ["k"] [] _ _ _ _ rfl (by rfl) (by rfl) (@gu _ _ _ _ _ _ rfl T.iO (@ae _ _ _ _ _ (@ao _ _ _ _) (@ai _) (@aK _ _ _ _ _)) (by first |rfl |exact .inl rfl |exact .inr rfl |decide |(intro _;rfl) |assumption)) (fun _ _ _ _=>(@cK _ _ 0 _ (by show List.Nodup (["k"]:List Str);decide +kernel) rfl (zaH rfl) (by first |rfl |exact .inl rfl |exact .inr rfl |decide |(intro _;rfl) |assumption))) (fun _ _ _ _=>(@dZ _)) (fun _ _ _ _=>(@du _ _ _ _ _ _ _ _ (@dO _) (pv 0) (@ao _ _ _ _) (aY _))) (by first |rfl |exact .inl rfl |exact .inr rfl |decide |(intro _;rfl) |assumption)) (aY _)))) (@a8 _)) (@aj _ _ _ _ _ (@bO _ _ 9 _ _ _ _ nd rfl (zaH rfl) (@bC _ _ _ _ _ _ _ _ _ _ _ _ _ _ _ _ iQ (hr.mono (by first|decide|omega)) rfl T.bX.m T.bX.F.kp T.bX.b .nil KP (@ae _ _ _ _ _ (pv 4) (@ae _ _ _ _ _ (pv 5) (@ai _) (@aD _ _ _ _)) (@aD _ _ _ _)) (by first |rfl |exact .inl rfl |exact .inr rfl |decide |(intro _;rfl) |assumption) (by first |rfl |exact .inl rfl |exact .inr rfl |decide |(intro _;rfl) |assumption) (by first |rfl |exact .inl rfl |exact .inr rfl |decide |(intro _;rfl) |assumption)) (by first |rfl |exact .inl rfl |exact .inr rfl |decide |(intro _;rfl) |assumption) (by first |rfl |exact .inl rfl |exact .inr rfl |decide |(intro _;rfl) |assumption)) (@aj _ _ _ _ _ (@bL _ _ _ _ _ _ _ _ (@aW _ _ _ _ _ _ _ _ (@dO _) (pv 2) (@ao _ _ _ _) (aY _)) (@aA _ _ _ (@aQ _ _ _ _ (@du _ _ _ _ _ _ _ _ (Ej (xk hr)) (pv 9) (@aV _ _ _ _ _ (@ae _ _ _ _ _ (@bo _ _ _ _) (@ae _ _ _ _ _ (@bY _ _ _ _ (@ae _ _ _ _ _ (@ao _ _ _ _) (@ai _) (@aK _ _ _ _ _))) (@ai _) (@Ax _ _ _ _)) (@aK _ _ _ _ _))) (aY _)))) (@a8 _)) (@aA _ _ _ (@aQ _ _ _ _ (DO (@du _ _ _ _ _ _ _ _ (@dO _) (@aJ _ _ _ _ _ _ _ (@aN _) (pv 9) (@ao _ _ _ _) (@aq _ _ _)) (@bo _ _ _ _) (aY _)) (DO (@du _ _ _ _ _ _ _ _ Mz (@bC _ _ _ _ _ _ _ _ _ _ _ _ _ _ _ _ jz (hr.mono (by first|decide|omega)) rfl T.bK.m T.bK.F.kp T.bK.b .nil cS (@ae _ _ _ _ _ (pv 4) (@ae _ _ _ _ _ (pv 5) (@ae _ _ _ _ _ (@aJ _ _ _ _ _ _ _ (@aN _) (pv 9) (@ao _ _ _ _) (@aq _ _ _)) (@ai _) (@a7 _ _ _ _ _)) (@aD _ _ _ _)) (@aD _ _ _ _)) (by first |rfl |exact .inl rfl |exact .inr rfl |decide |(intro _;rfl) |assumption) (by first |rfl |exact .inl rfl |exact .inr rfl |decide |(intro _;rfl) |assumption) (by first |rfl |exact .inl rfl |exact .inr rfl |decide |(intro _;rfl) |assumption)) (@o8 _ _ _ _) (aY _)) (JE (@du _ _ _ _ _ _ _ _ FC (@bT _ _ _ _ _ _ _ _ _ vC rfl T.wb yb4 (@ae _ _ _ _ _ (@dP _ _ _ _ _ _ _ _ _ (rV (J:=qx) Mt (xk hr) rfl) rfl T.C9 yb8 (@ae _ _ _ _ _ (@aJ _ _ _ _ _ _ _ (@ji _ K rfl) (pv 9) (@ao _ _ _ _) (@aq _ _ _)) (@ai _) (@a7 _ _ _ _ _)) (by first |rfl |exact .inl rfl |exact .inr rfl |decide |(intro _;rfl) |assumption) (by first |rfl |exact .inl rfl |exact .inr rfl |decide |(intro _;rfl) |assumption) (by first |rfl |exact .inl rfl |exact .inr rfl |decide |(intro _;rfl) |assumption) (by first |rfl |exact .inl rfl |exact .inr rfl |decide |(intro _;rfl) |assumption)) (@ai _) (@ba _ _ _ _ _ _)) (by first |rfl |exact .inl rfl |exact .inr rfl |decide |(intro _;rfl) |assumption) (by first |rfl |exact .inl rfl |exact .inr rfl |decide |(intro _;rfl) |assumption) (by first |rfl |exact .inl rfl |exact .inr rfl |decide |(intro _;rfl) |assumption) (by first |rfl |exact .inl rfl |exact .inr rfl |decide |(intro _;rfl) |assumption)) (pv 6) (aY _)))))))))))))))),rfl,?_⟩;have line:zdN=2 ^ 24:=rfl;have d0:=TY.pos;refine ay fun U1 fQ=>?_;walk_at "rd";refine⟨D,C,G,dk,999,rfl,TY,by decide,by decide,by lia,fun cG d1 H1 e1 c1 k1=>(fQ _ _).mpr (ay fun U2 iq=>?_)⟩;clear fQ;obtain⟨x0,x9⟩:=jn e1 (by decide);have NH:Pt≠D:=fun z=>by rw[z,TY.nN] at yP;cases yP
 have NI:Pt≠C:=fun z=>by rw[z,TY.cs] at yP;cases yP
 have WJ:=c1.get yP NH NI;have tb1:=tb.up (H':=H1) fun b φ e=>c1.get e (fun z=>by rw[z,TY.nN] at e;cases e) (fun z=>by rw[z,TY.cs] at e;cases e);have Pp:=c1.get TX Jx Jy;clear e1 k1 c1 yP tb TX;walk_at "rd";refine⟨sz,a,b,c',d',cG,rfl,Pp,fun v1 H2 s2 r1=>(iq _ _).mpr (ay fun U3 lE=>?_)⟩;clear iq;walk_at "rd";refine⟨sz,a,b,c',d',cG+more,rfl,s2 _ _ Pp,fun v2 H3 s3 r2=>(lE _ _).mpr (ay fun U4 uW=>?_)⟩;clear lE;have Qg:=s2.trans s3;have WK:=Qg _ _ WJ;have tb3:=tb1.up (H':=H3) fun _ _ e=>Qg _ _ e;have Pq:=Qg _ _ Pp;clear Qg s2 Pp tb1 WJ;walk_at "rd";refine cT (.of Pq) (az (j:=0) rfl) (tL.mpr (tL.mpr (tL.mpr ((uW _ _).mpr (ay fun U5 zX=>?_)))));clear uW;walk_at "rd";refine cT (.of Pq) (az (j:=0) rfl) (tL.mpr ((zX _ _).mpr (ay fun U6 De=>?_)));clear zX;refine pL fun U hU=>?_;walk_at "rd";refine⟨_,rfl,sz,_,rfl,.of Pq,fun p hp=>⟨p,rfl,⟨_,.of ah⟩,hU _ _ ?_⟩⟩;clear hU;rw[show Ap [V.int a,V.int b,V.int c',V.int d'] (some 1) none=[V.int b,V.int c',V.int d'] from rfl];generalize e4:upd H3 p _=H4;have s4:=gL e4 hp;have y4:=Vk e4;clear e4;obtain⟨Pv,qB⟩:∃Pv:Nat->St->Hp->Prop,∀i Y Hx,Pv i Y Hx↔∃z8:Option V,Y=[some (.ref D),some (.ref sz),some (.int more),some (.int cG),some v1,some v2,some (.int (VQ (1+a+1-more) (a-more) [b,c',d'] i)),some (.int (VP (a-more) [b,c',d'] i)),z8,none]/\ar H4 Hx:=⟨_,fun _ _ _=>Iff.rfl⟩
 refine pe (K:=K) (a:=p) (xs:=[V.int b,V.int c',V.int d']) Pv ((qB _ _ _).mpr ⟨none,rfl,.refl _⟩) (fun i Y Hx hi hv=>?_) (fun i x Y Hx hx hv=>?_) (fun Y Hx hv=>?_)
 .obtain⟨_,_,sx⟩:=(qB _ _ _).mp hv;exact .of (sx _ _ y4)
 .obtain⟨z8,rfl,sx⟩:=(qB _ _ _).mp hv;obtain⟨rfl,l2,OU⟩:x=.int ([b,c',d'].getD i 0)/\2<=[b,c',d'].getD i 0/\[b,c',d'].getD i 0<=10:=by
   obtain⟨a1,a2,b1,b2,cc1,Xb,dd1,Tf⟩:=z
   match i,hx with
   |0,hx=>cases hx;exact⟨rfl,b1,b2⟩
   |1,hx=>cases hx;exact⟨rfl,cc1,Xb⟩
   |2,hx=>cases hx;exact⟨rfl,dd1,Tf⟩
  clear hx hv;walk_at "rd";exact⟨mulR (by lia) (by lia),(qB _ _ _).mpr ⟨_,rfl,sx⟩⟩
 obtain⟨z8,rfl,sx⟩:=(qB _ _ _).mp hv;clear hv qB Pv;refine(De _ _).mpr ?_;clear De;obtain⟨av,aw,e1,e2,Hl,Hm,QW,NG,cnt,dn,ds⟩:=VR z x0 (by lia) hm;rw[<- e1] at r1;rw[<- e2] at r2;clear e1 e2;have r1:=Rep.mono (s4.trans sx) (Rep.mono s3 r1);have r2:=Rep.mono (s4.trans sx) r2;have S6:=sx _ _ (s4 _ _ WK);have tb5:=tb3.up (H':=Hx) fun _ _ e=>sx _ _ (s4 _ _ e);clear tb3 WK s4 sx s3 Pq y4;walk_at "rd";split
 .next SV=>
  refine⟨v1,v2,av,aw,ps,rfl,r1,r2,Hl,Hm,QW,NG,by lia,S6,tb5,fun l H6 ps6 u6 y6 t6 yl=>?_⟩;simp only[fS];walk_at "rd";refine⟨_,rfl,by lia,by lia,fun E1 MZ=>?_⟩;refine kF (n:=14) (r:=[]) (fun i ys Hy=>ys=(zaj i).map fun k=>V.bl (decide (k=12))) (by decide) MZ rfl (fun i ys H7 hi s7 y7 ly pv R hR=>?_) (fun ys H7 s7 y7 ly pv=>?_)
  .walk_at "rd";refine hR _ _ (ar.refl _) ?_;rw[pv,za7,zaC,zc0]
   congr 2
   exact ybW V.bl (decide_eq_decide.mpr (by lia))
  .subst pv;exact⟨.lst ((zaj 14).map fun k=>Dp.bl (decide (k=12))),Rep.bG.mpr ⟨_,_,rfl,.of (s7 _ _ yl),pR⟩,Rep.bG.mpr ⟨_,_,rfl,.of y7,pR⟩,⟨_,rfl⟩,by decide,q _⟩
 .next hle=>
  refine⟨v1,v2,av,aw,ps,rfl,r1,r2,Hl,Hm,QW,NG,S6,tb5,fun hf r L us word H6 ps6 u6 hL yr yL tl y6 t6=>?_,fun h=>ybX h (by lia)⟩;unfold CQ at tl;split
  .next Ox=>
   rw[ds Ox] at tl;obtain⟨rfl,rfl⟩:=tl;intro p1 Ba p2 sV;generalize e7:upd H6 p1 _=H7 at *;have s7:=gL e7 Ba;have r7:Rep K H7 (.lst ([(0:Int)].map Dp.int)) (.ref p1):=Vj e7 Ba (.cons qN .nil);clear e7;generalize e8:upd H7 p2 _=H8 at *;have s8:=gT e8 sV;have r8:Rep K H8 (.tup [.str "apart",.lst ([(0:Int)].map Dp.int)]) (.ref p2):=DG e8 sV (.cons rS (.cons r7 .nil));clear e8;have s:=s7.trans s8;refine⟨_,_,Rep.aT.mpr ⟨r,_,rfl,.of (s _ _ yr),.cons (Rep.bN.mpr rfl) (.cons (Cn (l:=[0]) (.of (s _ _ yL))) .nil)⟩,r8,lN [0],lN [0],?_⟩;rw[eqv_refl];exact q _
  .next Ox=>
   rw[dn (by lia)] at tl;obtain⟨rfl,QT⟩:=tl;refine aI (.of yr) (v:=.str "alike") (az (j:=0) rfl) ⟨rfl,(ybS rfl).mpr (aI (.of yr) (v:=.ref L) (az (j:=1) rfl) ⟨v1,v2,L,av,aw,(aO av aw).map (·.1),us,rfl,vy (.of u6 S6) _ _ r1,vy (.of u6 S6) _ _ r2,Hl,Hm,QW,NG,.of yL,QT,fun p hp=>?_,by rw[zac];lia,fun HE sE=>⟨_,_,rfl,rfl,?_⟩⟩)⟩
   .obtain⟨x,hx,rfl⟩:=zae.mp hp;exact(mR Hl Hm).Gw x hx
   .rw[vZ Hl Hm (dn (by lia)),ybS rfl];obtain⟨de,rfl,lk,on,nk⟩:=zW Hl Hm (QT.mono sE);refine aI (.of (sE _ _ yr)) (v:=.ref L) (az (j:=1) rfl) ⟨L,de,rfl,.of (sE _ _ yL),on,by lia,fun p ks hp n m=>⟨p,_,rfl,ah,by rw[nk ks n m];lia,?_⟩⟩;rw[nk ks n m,ybT (by lia)];exact q _
theorem Bi(T:Tx K mg t):bt P w K mg base fR 1 t.jM t.ky ["sizes", "said"] (Mv K):=by
 refine T.eI.F.qL uI (fun vs H Q E h=>?_) (fun eY A outer s H vs Q E hr h=>?_)
 .obtain⟨_,_,_,_,_,_,rfl⟩:=h;rfl
 obtain⟨sz,a,b,c,d,cG,rfl,TX,s0,q⟩:=h;have nd:=uI.nd;refine⟨_,[some (.ref sz),some (.int cG),none,none],(@aj _ _ _ _ _ (@bO _ _ 2 _ _ _ _ nd rfl (zce rfl) (@bY _ _ _ _ (@cM _ _ ([.str "a",.str "ab",.str "b",.str "c"]) (by kernel_rfl))) (by first |rfl |exact .inl rfl |exact .inr rfl |decide |(intro _;rfl) |assumption) (by first |rfl |exact .inl rfl |exact .inr rfl |decide |(intro _;rfl) |assumption)) (@aj _ _ _ _ _ (@Av _ _ _ _ _ _ _ ["k"] [2] _ _ _ _ 3 _ _ _ nd rfl (zaH rfl) rfl (by rfl) (by rfl) (@gu _ _ _ _ _ _ rfl T.iO (@ae _ _ _ _ _ (@ao _ _ _ _) (@ai _) (@aK _ _ _ _ _)) (by first |rfl |exact .inl rfl |exact .inr rfl |decide |(intro _;rfl) |assumption)) (fun _ _ _ _=>(@cK _ _ 0 _ (by show List.Nodup (["k", "names"]:List Str);decide +kernel) rfl (zaH rfl) (by first |rfl |exact .inl rfl |exact .inr rfl |decide |(intro _;rfl) |assumption))) (fun _ _ _ _=>(@dZ _)) (fun _ _ _ _=>(@aV _ _ _ _ _ (@ae _ _ _ _ _ (@bo _ _ _ _) (@ae _ _ _ _ _ (@bg _ _ _ _ _ _ _ _ (@fK _) (@ao _ _ _ _) (pv 0)) (@ae _ _ _ _ _ (@aJ _ _ _ _ _ _ _ (jD (K:=K) rfl) (pv 1) (pv 0) (@fM _ _)) (@ai _) (@a7 _ _ _ _ _)) (@nv _ _ _ _ _ _)) (@aK _ _ _ _ _)))) (by first |rfl |exact .inl rfl |exact .inr rfl |decide |(intro _;rfl) |assumption) (by first |rfl |exact .inl rfl |exact .inr rfl |decide |(intro _;rfl) |assumption) (by first |rfl |exact .inl rfl |exact .inr rfl |decide |(intro _;rfl) |assumption)) (@aj _ _ _ _ _ (@bL _ _ _ _ _ _ _ _ (@aW _ _ _ _ _ _ _ _ (@BS _) (pv 1) (@ao _ _ _ _) (aY _)) (@aA _ _ _ (@m8 _ _ _ _ (@zr _ _ _ _ _ _ _ _ _ _ _ _ zbq zcs zct qe (pv 3) (@ae _ _ _ _ _ (@aV _ _ _ _ _ (@ae _ _ _ _ _ (@bo _ _ _ _) (@ae _ _ _ _ _ (@ao _ _ _ _) (@ae _ _ _ _ _ (@aV _ _ _ _ _ (@ae _ _ _ _ _ (@bo _ _ _ _) (@ae _ _ _ _ _ (pv 1) (@ai _) (@aD _ _ _ _)) (@aK _ _ _ _ _))) (@ai _) (@dQ _ _ _ _ _)) (@aK _ _ _ _ _)) (@aK _ _ _ _ _))) (@ai _) (@dQ _ _ _ _ _)) (by first |rfl |exact .inl rfl |exact .inr rfl |decide |(intro _;rfl) |assumption) (by first |rfl |exact .inl rfl |exact .inr rfl |decide |(intro _;rfl) |assumption) (by first |rfl |exact .inl rfl |exact .inr rfl |decide |(intro _;rfl) |assumption) (by first |rfl |exact .inl rfl |exact .inr rfl |decide |(intro _;rfl) |assumption) (by first |rfl |exact .inl rfl |exact .inr rfl |decide |(intro _;rfl) |assumption)) (by first |rfl |exact .inl rfl |exact .inr rfl |decide |(intro _;rfl) |assumption))) (@a8 _)) (@aA _ _ _ (@aQ _ _ _ _ (@aV _ _ _ _ _ (@ae _ _ _ _ _ (@eN _ _ _ _ _ _ _ ["k"] ([0,2]) _ _ _ _ rfl (by rfl) (by rfl) (@gu _ _ _ _ _ _ rfl T.iO (@ae _ _ _ _ _ (@ao _ _ _ _) (@ai _) (@aK _ _ _ _ _)) (by first |rfl |exact .inl rfl |exact .inr rfl |decide |(intro _;rfl) |assumption)) (fun _ _ _ _=>(@cK _ _ 0 _ (by show List.Nodup (["k", "sizes", "names"]:List Str);decide +kernel) rfl (zaH rfl) (by first |rfl |exact .inl rfl |exact .inr rfl |decide |(intro _;rfl) |assumption))) (fun _ _ _ _=>(@dZ _)) (fun _ _ _ _=>(@aV _ _ _ _ _ (@ae _ _ _ _ _ (@aJ _ _ _ _ _ _ _ (jD (K:=K) rfl) (pv 2) (pv 0) (@fM _ _)) (@ae _ _ _ _ _ (@aJ _ _ _ _ _ _ _ (jD (K:=K) rfl) (pv 1) (pv 0) (@fM _ _)) (@ae _ _ _ _ _ (@ao _ _ _ _) (@ai _) (@aK _ _ _ _ _)) (@a7 _ _ _ _ _)) (@a7 _ _ _ _ _)))) (by first |rfl |exact .inl rfl |exact .inr rfl |decide |(intro _;rfl) |assumption)) (@ae _ _ _ _ _ (pv 3) (@ai _) (@aD _ _ _ _)) (@iy _ _ _ _ _ _)))))))),rfl,?_⟩;have line:zdN=2 ^ 24:=rfl;refine ay fun U1 fQ=>?_;walk_at "rd";intro p1 Ba;generalize e1:upd H p1 _=H1;have s1:=gL e1 Ba;have y1:=Vk e1;clear e1;refine(fQ _ _).mpr (ay fun U2 iq=>?_);clear fQ;walk_at "rd";simp only[fS];walk_at "rd";refine⟨_,rfl,by lia,by lia,fun D hD=>?_⟩;refine kF (n:=4) (r:=[some (.ref p1)]) (fun i ys Hy=>aL K (wo Hy D) ((Tw i).map jC) ys) (by lia) hD .nil (fun i ys H2 hi s2 y2 ly p2 R hR=>?_) (fun us H2 s2 y2 lu p2=>?_)
 .walk_at "rd";refine cT (.of (s2 _ _ y1)) (az (j:=i) (A1 hi)) ?_;intro p3 h3;have e2:=ar.new h3 (.tup [.str (zab "ask"),.int (5+i),.str (S (BH i))]);obtain⟨w1,w2⟩:=C1 h3 y2 (.tup [.str (zab "ask"),.int (5+i),.str (S (BH i))]);have g2:Rep K (wo (upd H2 p3 (.tup [.str (zab "ask"),.int (5+i),.str (S (BH i))])) D) (jC (.ask (5+i) (BH i))) (.ref p3):=by rw[w1];exact Rep.new w2 (.cons rS (.cons qN (.cons rS .nil)))
  clear w1 w2;generalize upd H2 p3 (.tup [.str (zab "ask"),.int (5+i),.str (S (BH i))])=H4 at *;refine hR _ _ e2 ?_;rw[fc];unfold Tw;rw[za7,zaC,zaC];exact(aL.mono (qj e2) p2).append (.cons g2 .nil)
 rw[Mw] at p2;have ZL:=s1.trans s2;refine(iq _ _).mpr (ay fun U3 lE=>?_);clear iq;have fin:∀(n:Option Int) (DL:List V) (Hy:Hp),ar H1 Hy->Hy D=some (.lst DL)->aL K Hy ((Nu n).map jC) DL->n=(if 0<cG then some cG else none)->U3 [some (V.ref sz),some (V.int cG),some (V.ref p1),some (V.ref D)] Hy:=fun n DL Hy sy yD rb en=>by
  refine(lE _ _).mpr ?_;walk_at "rd";simp only[fS];walk_at "rd";refine⟨_,rfl,by lia,by lia,fun E1 MZ=>?_⟩;refine kF (n:=4) (r:=[some (.ref sz),some (.ref p1)]) (fun i ys Hz=>aL K (wo Hz E1) ((VM [a,b,c,d] i).map vU) ys) (by lia) MZ .nil (fun i ys G2 hi s3 z2 ly r2 R hR=>?_) (fun xs G2 s3 z2 lx r2=>?_)
  .walk_at "rd";refine cT (.of (s3 _ _ (sy _ _ y1))) (az (j:=i) (A1 hi)) (cT (.of (s3 _ _ (sy _ _ (s1 _ _ TX)))) (az (j:=i) (wX hi)) ?_);intro p3 h3;have e2:=ar.new h3 (.tup [.str (S (BH i)),.int ([a,b,c,d].getD i 0),.int 0]);obtain⟨w1,w2⟩:=C1 h3 z2 (.tup [.str (S (BH i)),.int ([a,b,c,d].getD i 0),.int 0]);have g2:Rep K (wo (upd G2 p3 (.tup [.str (S (BH i)),.int ([a,b,c,d].getD i 0),.int 0])) E1) (vU ⟨BH i,[a,b,c,d].getD i 0,0⟩) (.ref p3):=by rw[w1];exact Rep.new w2 (.cons rS (.cons qN (.cons qN .nil)))
   clear w1 w2;generalize upd G2 p3 (.tup [.str (S (BH i)),.int ([a,b,c,d].getD i 0),.int 0])=G4 at *;refine hR _ _ e2 ?_;rw[fc];unfold VM;rw[za7,zaC,zaC];exact(aL.mono (qj e2) r2).append (.cons g2 .nil)
  rw[C2] at r2;intro p4 h4;have s4:=s3.Aw h4 (.tup [.ref E1,.ref D]);refine q _ _ ((s1.trans sy).trans s4) ?_;rw[<- en];have n4:=ar.new h4 (.tup [.ref E1,.ref D]);exact Rep.aT.mpr ⟨_,_,rfl,.of ah,.cons (Rep.bG.mpr ⟨_,_,rfl,.of (n4 _ _ z2),aL.mono n4 (aL.mono mO r2)⟩) (.cons (Rep.bG.mpr ⟨_,_,rfl,.of (s4 _ _ yD),aL.mono s4 rb⟩) .nil)⟩
 walk_at "rd";by_cases hs:0<cG
 .rw[ybS hs];refine⟨.inl ⟨rfl,_,.of y2⟩,fun p5 h5 p6 h6=>?_⟩;have e5:=ar.new h5 (.tup [.str (zab "number"),.int cG]);obtain⟨w1,w2⟩:=C1 h5 y2 (.tup [.str (zab "number"),.int cG]);have g5:Rep K (wo (upd H2 p5 (.tup [.str (zab "number"),.int cG])) D) (wL (.num cG)) (.ref p5):=by rw[w1];exact Rep.new w2 (.cons rS (.cons qN .nil))
  clear w1 w2;generalize upd H2 p5 (.tup [.str (zab "number"),.int cG])=H5 at *;have e6:=ar.new h6 (.tup [.str (zab "say"),.int 9,.ref p5]);obtain⟨w1,w2⟩:=C1 h6 (e5 _ _ y2) (.tup [.str (zab "say"),.int 9,.ref p5]);have g6:Rep K (wo (upd H5 p6 (.tup [.str (zab "say"),.int 9,.ref p5])) D) (jC (.say 9 (.num cG))) (.ref p6):=by rw[w1];exact Rep.new w2 (.cons rS (.cons qN (.cons g5 .nil)))
  clear w1 w2;generalize upd H5 p6 (.tup [.str (zab "say"),.int 9,.ref p5])=H6 at *;refine⟨D,us,.ref p6,rfl,rfl,e6 _ _ (e5 _ _ y2),by lia,?_⟩;refine fin (some cG) (us++[.ref p6]) _ (fun x o e=>?_) ah ?_ (ybS hs).symm
  .rw[au (ag e hD)];exact e6 _ _ (e5 _ _ (s2 _ _ e))
  .have g:=(aL.mono (qj (e5.trans e6)) p2).append (.cons g6 .nil);rw[<- fc (o:=.lst (us++[.ref p6]))] at g;exact aL.mono mO g
 .rw[ybR hs];exact fin none us H2 s2 y2 (aL.mono mO p2) (ybR hs).symm
theorem yS(T:Tx K mg t):bt P w K mg base fR 2 t.iJ t.jw ["deck"] C0:=by
 have b9:=oG (P:=P) (w:=w) (base:=base) T;refine T.dM.F.qL qV (fun vs H Q E h=>?_) (fun eY A outer s H vs Q E hr h=>?_)
 .obtain⟨_,_,_,_,rfl⟩:=h;rfl
 obtain⟨D,C,G,d,rfl,dk,hp,q⟩:=h;have nd:=qV.nd;refine⟨_,[some (.ref D),none],(@aj _ _ _ _ _ (@bO _ _ 1 _ _ _ _ nd rfl (zce rfl) (@aJ _ _ _ _ _ _ _ (@dy _) (@bY _ _ _ _ (@cM _ _ ([.int 0,.int 0,.int 1,.int 2]) (by kernel_rfl))) (@bC _ _ _ _ _ _ _ _ _ _ _ _ _ _ _ _ b9 (hr.mono (by first|decide|omega)) rfl T.aM.m T.aM.F.kp T.aM.b .nil cS (@ae _ _ _ _ _ (pv 0) (@ae _ _ _ _ _ (@ao _ _ _ _) (@ai _) (@aK _ _ _ _ _)) (@aD _ _ _ _)) (by first |rfl |exact .inl rfl |exact .inr rfl |decide |(intro _;rfl) |assumption) (by first |rfl |exact .inl rfl |exact .inr rfl |decide |(intro _;rfl) |assumption) (by first |rfl |exact .inl rfl |exact .inr rfl |decide |(intro _;rfl) |assumption)) FQ) (by first |rfl |exact .inl rfl |exact .inr rfl |decide |(intro _;rfl) |assumption) (by first |rfl |exact .inl rfl |exact .inr rfl |decide |(intro _;rfl) |assumption)) (@aA _ _ _ (@aQ _ _ _ _ (@eN _ _ _ _ _ _ _ ["k"] ([0,1]) _ _ _ _ rfl (by rfl) (by rfl) (@gu _ _ _ _ _ _ rfl T.iO (@ae _ _ _ _ _ (@ao _ _ _ _) (@ai _) (@aK _ _ _ _ _)) (by first |rfl |exact .inl rfl |exact .inr rfl |decide |(intro _;rfl) |assumption)) (fun _ _ _ _=>(@cK _ _ 0 _ (by show List.Nodup (["k", "deck", "wide"]:List Str);decide +kernel) rfl (zaH rfl) (by first |rfl |exact .inl rfl |exact .inr rfl |decide |(intro _;rfl) |assumption))) (fun _ _ _ _=>(@dZ _)) (fun _ _ _ _=>(@aJ _ _ _ _ _ _ _ (jD (K:=K) rfl) (@bY _ _ _ _ (@ae _ _ _ _ _ (@bg _ _ _ _ _ _ _ _ (@fK _) (@ao _ _ _ _) (@bC _ _ _ _ _ _ _ _ _ _ _ _ _ _ _ _ b9 (hr.mono (by first|decide|omega)) rfl T.aM.m T.aM.F.kp T.aM.b .nil cS (@ae _ _ _ _ _ (pv 1) (@ae _ _ _ _ _ (@ao _ _ _ _) (@ai _) (@aK _ _ _ _ _)) (@aD _ _ _ _)) (by first |rfl |exact .inl rfl |exact .inr rfl |decide |(intro _;rfl) |assumption) (by first |rfl |exact .inl rfl |exact .inr rfl |decide |(intro _;rfl) |assumption) (by first |rfl |exact .inl rfl |exact .inr rfl |decide |(intro _;rfl) |assumption))) (@ae _ _ _ _ _ (@bg _ _ _ _ _ _ _ _ (@fK _) (@ao _ _ _ _) (@bC _ _ _ _ _ _ _ _ _ _ _ _ _ _ _ _ b9 (hr.mono (by first|decide|omega)) rfl T.aM.m T.aM.F.kp T.aM.b .nil cS (@ae _ _ _ _ _ (pv 1) (@ae _ _ _ _ _ (@ao _ _ _ _) (@ai _) (@aK _ _ _ _ _)) (@aD _ _ _ _)) (by first |rfl |exact .inl rfl |exact .inr rfl |decide |(intro _;rfl) |assumption) (by first |rfl |exact .inl rfl |exact .inr rfl |decide |(intro _;rfl) |assumption) (by first |rfl |exact .inl rfl |exact .inr rfl |decide |(intro _;rfl) |assumption))) (@ae _ _ _ _ _ (@bg _ _ _ _ _ _ _ _ (@fK _) (@ao _ _ _ _) (@bC _ _ _ _ _ _ _ _ _ _ _ _ _ _ _ _ b9 (hr.mono (by first|decide|omega)) rfl T.aM.m T.aM.F.kp T.aM.b .nil cS (@ae _ _ _ _ _ (pv 1) (@ae _ _ _ _ _ (@ao _ _ _ _) (@ai _) (@aK _ _ _ _ _)) (@aD _ _ _ _)) (by first |rfl |exact .inl rfl |exact .inr rfl |decide |(intro _;rfl) |assumption) (by first |rfl |exact .inl rfl |exact .inr rfl |decide |(intro _;rfl) |assumption) (by first |rfl |exact .inl rfl |exact .inr rfl |decide |(intro _;rfl) |assumption))) (@ai _) (@nv _ _ _ _ _ _)) (@nv _ _ _ _ _ _)) (@nv _ _ _ _ _ _))) (pv 2) (@fM _ _))) (by first |rfl |exact .inl rfl |exact .inr rfl |decide |(intro _;rfl) |assumption))))),rfl,?_⟩;have line:zdN=2 ^ 24:=rfl;have d0:=dk.pos;refine ay fun U1 fQ=>?_;walk_at "rd";intro p1 Ba;generalize e1:upd H p1 _=H1;have s1:=gL e1 Ba;have y1:=Vk e1;clear e1;refine⟨D,C,G,d,4,rfl,dk.same s1,by decide,by decide,by lia,fun x d1 H2 ex c2 k2=>?_⟩;have hx:=jn ex (by decide);have px:=iB ex;have n1:p1≠D:=fun z=>by rw[z,dk.nN] at Ba;cases Ba
 have n2:p1≠C:=fun z=>by rw[z,dk.cs] at Ba;cases Ba
 have y2:=c2.get y1 n1 n2;obtain⟨wd,hw,e⟩:∃wd:Nat,wd<3/\Jm ([.int 0,.int 0,.int 1,.int 2]:List V) x=some (.int (wd:Int)):=by
  have:x=0\/x=1\/x=2\/x=3:=by lia
  rcases this with rfl |rfl |rfl |rfl
  .exact⟨0,by decide,rfl⟩
  .exact⟨0,by decide,rfl⟩
  .exact⟨1,by decide,rfl⟩
  .exact⟨2,by decide,rfl⟩
 refine cT (.of y2) e ((fQ _ _).mpr ?_);clear fQ;walk_at "rd";simp only[fS];walk_at "rd";refine⟨_,rfl,by decide,by decide,fun L hL=>?_⟩;refine E8 (n:=4) (r:=[some (V.ref D),some (.int wd)]) (fun v=>∃x:Int,v=.int x/\2<=x/\x<=10) (by decide) hL k2 (fun i x H2 d2 hi k2 p2 R hR=>?_) (fun vs H3 d2 lv ov c3 k3 p3 yL nLD nLC=>?_)
 .walk_at "rd";refine⟨D,C,G,d2,4,rfl,k2,by decide,by decide,by rw[p2];lia,fun a da Ha ea ca ka=>tL.mpr ?_⟩;have ha:=jn ea (by decide);have pa:=iB ea;refine⟨D,C,G,da,2,rfl,ka,by decide,by decide,by rw[pa,p2];lia,fun b db Hb eb cb kb=>tL.mpr ?_⟩;have hb:=jn eb (by decide);have pb:=iB eb;refine⟨D,C,G,db,9,rfl,kb,by decide,by decide,by rw[pb,pa,p2];lia,fun c dc Hc ec cc kc=>tL.mpr ?_⟩;have hc:=jn ec (by decide);have pc:=iB ec;intro p5 h5;have s5:=ar.new h5 (.lst [V.int (5+a),V.int (6+b),V.int (2+c)]);obtain⟨n,en,n0,n9⟩:∃n:Int,([V.int (5+a),V.int (6+b),V.int (2+c)]:List V)[wd]?=some (.int n)/\2<=n/\n<=10:=by
   have:wd=0\/wd=1\/wd=2:=by lia
   rcases this with rfl |rfl |rfl
   .exact⟨_,rfl,by lia,by lia⟩
   .exact⟨_,rfl,by lia,by lia⟩
   .exact⟨_,rfl,by lia,by lia⟩
  refine cT (.of ah) (az (j:=wd) en) (hR _ _ dc ⟨n,rfl,n0,n9⟩ (((ca.trans cb).trans cc).trans (.of s5)) (kc.same s5) (by rw[pc,pb,pa];lia))
 obtain⟨x1,x2,x3,x4,rfl⟩:∃x1 x2 x3 x4,vs=[x1,x2,x3,x4]:=by
  match vs,lv with
  |[x1,x2,x3,x4],_=>exact⟨x1,x2,x3,x4,rfl⟩
 obtain⟨va,rfl,a1,a2⟩:=ov x1 (by simp);obtain⟨vb,rfl,b1,b2⟩:=ov x2 (by simp);obtain⟨vc,rfl,c1,c4⟩:=ov x3 (by simp);obtain⟨vd,rfl,d1',d2'⟩:=ov x4 (by simp);clear ov lv;have hL0:H L=none:=by
  cases e:H L with
  |none=>rfl
  |some o=>exact ybX hL (c2.Xn L (by rw[s1 _ _ e];simp))
 exact q L va vb vc vd d2 H3 (((vX.of s1).trans c2).trans c3) k3 (by rw[p3,px];lia) ⟨a1,a2,b1,b2,c1,c4,d1',d2'⟩ hL0 yL
theorem S8(T:Tx K mg t)(B:jm K mg base c Pt)(hc:vx K t.dH c):bt P w K mg base fR 30 t.GW t.vH ["script"] (AE K Pt):=by
 have Dn:=Bh (P:=P) (w:=w) (base:=base) T;have b9:=oG (P:=P) (w:=w) (base:=base) T;have uR:=yS (P:=P) (w:=w) (base:=base) T;have wg:=Bi (P:=P) (w:=w) (base:=base) T;have g1:=kE (P:=P) (w:=w) (base:=base) T;have g2:=vL (P:=P) (w:=w) (base:=base) T 4;have g3:=Hj (P:=P) (w:=w) (base:=base) T;have lh:=oS (P:=P) (w:=w) (base:=base) T B hc g1 g2 g3;have sM:=qC (P:=P) (w:=w) (base:=base) T B hc;have iQ:=mw (P:=P) (w:=w) (base:=base) T B hc g1 g2 g3;have jz:=qd (P:=P) (w:=w) (base:=base) T g1 g2 g3;refine T.GX.F.qL MC (fun vs H Q E h=>?_) (fun eY A outer s H vs Q E hr h=>?_)
 .obtain⟨_,_,rfl,_⟩:=h;rfl
 obtain⟨a,ns,rfl,hS,WH,Gi,q⟩:=h;have nd:=MC.nd;have hu:=mD hr;refine⟨_,[some (V.ref a),none,none,none,none,none,none,none,none,none,none,none,none],(@aj _ _ _ _ _ (@bO _ _ 1 _ _ _ _ nd rfl (zaH rfl) (@bC _ _ _ _ _ _ _ _ _ _ _ _ _ _ _ _ Dn (hr.mono (by first|decide|omega)) rfl T.ig.m T.ig.F.kp T.ig.b .nil cS (@ae _ _ _ _ _ (pv 0) (@ai _) (@aD _ _ _ _)) (by first |rfl |exact .inl rfl |exact .inr rfl |decide |(intro _;rfl) |assumption) (by first |rfl |exact .inl rfl |exact .inr rfl |decide |(intro _;rfl) |assumption) (by first |rfl |exact .inl rfl |exact .inr rfl |decide |(intro _;rfl) |assumption)) (by first |rfl |exact .inl rfl |exact .inr rfl |decide |(intro _;rfl) |assumption) (by first |rfl |exact .inl rfl |exact .inr rfl |decide |(intro _;rfl) |assumption)) (@aj _ _ _ _ _ (@bO _ _ 2 _ _ _ _ nd rfl (zce rfl) (@bC _ _ _ _ _ _ _ _ _ _ _ _ _ _ _ _ uR (hr.mono (by first|decide|omega)) rfl T.dM.m T.dM.F.kp T.dM.b .nil cS (@ae _ _ _ _ _ (pv 1) (@ai _) (@aD _ _ _ _)) (by first |rfl |exact .inl rfl |exact .inr rfl |decide |(intro _;rfl) |assumption) (by first |rfl |exact .inl rfl |exact .inr rfl |decide |(intro _;rfl) |assumption) (by first |rfl |exact .inl rfl |exact .inr rfl |decide |(intro _;rfl) |assumption)) (by first |rfl |exact .inl rfl |exact .inr rfl |decide |(intro _;rfl) |assumption) (by first |rfl |exact .inl rfl |exact .inr rfl |decide |(intro _;rfl) |assumption)) (@aj _ _ _ _ _ (@bO _ _ 3 _ _ _ _ nd rfl (zce rfl) (@aJ _ _ _ _ _ _ _ (@dy _) (@bY _ _ _ _ (@ae _ _ _ _ _ (pv 2) (@ae _ _ _ _ _ (pv 2) (@ae _ _ _ _ _ (@bC _ _ _ _ _ _ _ _ _ _ _ _ _ _ _ _ uR (hr.mono (by first|decide|omega)) rfl T.dM.m T.dM.F.kp T.dM.b .nil cS (@ae _ _ _ _ _ (pv 1) (@ai _) (@aD _ _ _ _)) (by first |rfl |exact .inl rfl |exact .inr rfl |decide |(intro _;rfl) |assumption) (by first |rfl |exact .inl rfl |exact .inr rfl |decide |(intro _;rfl) |assumption) (by first |rfl |exact .inl rfl |exact .inr rfl |decide |(intro _;rfl) |assumption)) (@ai _) (@ba _ _ _ _ _ _)) (@aD _ _ _ _)) (@aD _ _ _ _))) (@bC _ _ _ _ _ _ _ _ _ _ _ _ _ _ _ _ b9 (hr.mono (by first|decide|omega)) rfl T.aM.m T.aM.F.kp T.aM.b .nil cS (@ae _ _ _ _ _ (pv 1) (@ae _ _ _ _ _ (@ao _ _ _ _) (@ai _) (@aK _ _ _ _ _)) (@aD _ _ _ _)) (by first |rfl |exact .inl rfl |exact .inr rfl |decide |(intro _;rfl) |assumption) (by first |rfl |exact .inl rfl |exact .inr rfl |decide |(intro _;rfl) |assumption) (by first |rfl |exact .inl rfl |exact .inr rfl |decide |(intro _;rfl) |assumption)) FQ) (by first |rfl |exact .inl rfl |exact .inr rfl |decide |(intro _;rfl) |assumption) (by first |rfl |exact .inl rfl |exact .inr rfl |decide |(intro _;rfl) |assumption)) (@aj _ _ _ _ _ (@bL _ _ _ _ _ _ _ _ (@aW _ _ _ _ _ _ _ _ (@dO _) (@bC _ _ _ _ _ _ _ _ _ _ _ _ _ _ _ _ b9 (hr.mono (by first|decide|omega)) rfl T.aM.m T.aM.F.kp T.aM.b .nil cS (@ae _ _ _ _ _ (pv 1) (@ae _ _ _ _ _ (@ao _ _ _ _) (@ai _) (@aK _ _ _ _ _)) (@aD _ _ _ _)) (by first |rfl |exact .inl rfl |exact .inr rfl |decide |(intro _;rfl) |assumption) (by first |rfl |exact .inl rfl |exact .inr rfl |decide |(intro _;rfl) |assumption) (by first |rfl |exact .inl rfl |exact .inr rfl |decide |(intro _;rfl) |assumption)) (@ao _ _ _ _) (aY _)) (@aA _ _ _ (@aQ _ _ _ _ (@bC _ _ _ _ _ _ _ _ _ _ _ _ _ _ _ _ sM (hr.mono (by first|decide|omega)) rfl T.cN.m T.cN.F.kp T.cN.b .nil cS (@ae _ _ _ _ _ (pv 1) (@ae _ _ _ _ _ (pv 2) (@ae _ _ _ _ _ (@bC _ _ _ _ _ _ _ _ _ _ _ _ _ _ _ _ b9 (hr.mono (by first|decide|omega)) rfl T.aM.m T.aM.F.kp T.aM.b .nil cS (@ae _ _ _ _ _ (pv 1) (@ae _ _ _ _ _ (@ao _ _ _ _) (@ai _) (@aK _ _ _ _ _)) (@aD _ _ _ _)) (by first |rfl |exact .inl rfl |exact .inr rfl |decide |(intro _;rfl) |assumption) (by first |rfl |exact .inl rfl |exact .inr rfl |decide |(intro _;rfl) |assumption) (by first |rfl |exact .inl rfl |exact .inr rfl |decide |(intro _;rfl) |assumption)) (@ai _) (@ba _ _ _ _ _ _)) (@aD _ _ _ _)) (@aD _ _ _ _)) (by first |rfl |exact .inl rfl |exact .inr rfl |decide |(intro _;rfl) |assumption) (by first |rfl |exact .inl rfl |exact .inr rfl |decide |(intro _;rfl) |assumption) (by first |rfl |exact .inl rfl |exact .inr rfl |decide |(intro _;rfl) |assumption)))) (@a8 _)) (@aj _ _ _ _ _ (@bO _ _ 4 _ _ _ _ nd rfl (zaH rfl) (@bg _ _ _ _ _ _ _ _ (@kL _) (@bC _ _ _ _ _ _ _ _ _ _ _ _ _ _ _ _ b9 (hr.mono (by first|decide|omega)) rfl T.aM.m T.aM.F.kp T.aM.b .nil cS (@ae _ _ _ _ _ (pv 1) (@ae _ _ _ _ _ (@ao _ _ _ _) (@ai _) (@aK _ _ _ _ _)) (@aD _ _ _ _)) (by first |rfl |exact .inl rfl |exact .inr rfl |decide |(intro _;rfl) |assumption) (by first |rfl |exact .inl rfl |exact .inr rfl |decide |(intro _;rfl) |assumption) (by first |rfl |exact .inl rfl |exact .inr rfl |decide |(intro _;rfl) |assumption)) (@bg _ _ _ _ _ _ _ _ (@fK _) (@ao _ _ _ _) (@bC _ _ _ _ _ _ _ _ _ _ _ _ _ _ _ _ b9 (hr.mono (by first|decide|omega)) rfl T.aM.m T.aM.F.kp T.aM.b .nil cS (@ae _ _ _ _ _ (pv 1) (@ae _ _ _ _ _ (@ao _ _ _ _) (@ai _) (@aK _ _ _ _ _)) (@aD _ _ _ _)) (by first |rfl |exact .inl rfl |exact .inr rfl |decide |(intro _;rfl) |assumption) (by first |rfl |exact .inl rfl |exact .inr rfl |decide |(intro _;rfl) |assumption) (by first |rfl |exact .inl rfl |exact .inr rfl |decide |(intro _;rfl) |assumption)))) (by first |rfl |exact .inl rfl |exact .inr rfl |decide |(intro _;rfl) |assumption) (by first |rfl |exact .inl rfl |exact .inr rfl |decide |(intro _;rfl) |assumption)) (@aj _ _ _ _ _ (@bO _ _ 5 _ _ _ _ nd rfl (zaH rfl) (@bg _ _ _ _ _ _ _ _ (@kL _) (@bC _ _ _ _ _ _ _ _ _ _ _ _ _ _ _ _ b9 (hr.mono (by first|decide|omega)) rfl T.aM.m T.aM.F.kp T.aM.b .nil cS (@ae _ _ _ _ _ (pv 1) (@ae _ _ _ _ _ (@ao _ _ _ _) (@ai _) (@aK _ _ _ _ _)) (@aD _ _ _ _)) (by first |rfl |exact .inl rfl |exact .inr rfl |decide |(intro _;rfl) |assumption) (by first |rfl |exact .inl rfl |exact .inr rfl |decide |(intro _;rfl) |assumption) (by first |rfl |exact .inl rfl |exact .inr rfl |decide |(intro _;rfl) |assumption)) (@dP _ _ _ _ _ _ _ _ _ (@vS _) rfl T.GY yb2 (@ae _ _ _ _ _ (@du _ _ _ _ _ _ _ _ (@BS _) (pv 4) (@ao _ _ _ _) (aY _)) (@ai _) (@Ku _ _ _ _ _ _)) (by first |rfl |exact .inl rfl |exact .inr rfl |decide |(intro _;rfl) |assumption) (by first |rfl |exact .inl rfl |exact .inr rfl |decide |(intro _;rfl) |assumption) (by first |rfl |exact .inl rfl |exact .inr rfl |decide |(intro _;rfl) |assumption) (by first |rfl |exact .inl rfl |exact .inr rfl |decide |(intro _;rfl) |assumption))) (by first |rfl |exact .inl rfl |exact .inr rfl |decide |(intro _;rfl) |assumption) (by first |rfl |exact .inl rfl |exact .inr rfl |decide |(intro _;rfl) |assumption)) (@aj _ _ _ _ _ (@bO _ _ 6 _ _ _ _ nd rfl (zaH rfl) (@ao _ _ _ _) (by first |rfl |exact .inl rfl |exact .inr rfl |decide |(intro _;rfl) |assumption) (by first |rfl |exact .inl rfl |exact .inr rfl |decide |(intro _;rfl) |assumption)) (@aj _ _ _ _ _ (@bO _ _ 7 _ _ _ _ nd rfl (zaH rfl) (@ao _ _ _ _) (by first |rfl |exact .inl rfl |exact .inr rfl |decide |(intro _;rfl) |assumption) (by first |rfl |exact .inl rfl |exact .inr rfl |decide |(intro _;rfl) |assumption)) (@aj _ _ _ _ _ (@kJ _ _ _ _ _ _ _ _ yaG rfl (@gu _ _ _ _ _ _ rfl T.iO (@ae _ _ _ _ _ (@ao _ _ _ _) (@ai _) (@aK _ _ _ _ _)) (by first |rfl |exact .inl rfl |exact .inr rfl |decide |(intro _;rfl) |assumption)) (@cK _ _ 8 _ nd rfl (zce rfl) (by first |rfl |exact .inl rfl |exact .inr rfl |decide |(intro _;rfl) |assumption)) (@aj _ _ _ _ _ (@bO _ _ 7 _ _ _ _ nd rfl (zaH rfl) (@bg _ _ _ _ _ _ _ _ (@kL _) (pv 7) (@bT _ _ _ _ _ _ _ _ _ vC rfl T.wb yb4 (@ae _ _ _ _ _ (@dP _ _ _ _ _ _ _ _ _ (rV (J:=Y8) Sx (xk hr) rfl) rfl T.C9 yb8 (@ae _ _ _ _ _ (@eN _ _ _ _ _ _ _ ["figure"] ([2,3,8]) _ _ _ _ rfl (by rfl) (by rfl) (@gu _ _ _ _ _ _ rfl T.iO (@ae _ _ _ _ _ (@ao _ _ _ _) (@ai _) (@aK _ _ _ _ _)) (by first |rfl |exact .inl rfl |exact .inr rfl |decide |(intro _;rfl) |assumption)) (fun _ _ _ _=>(@cK _ _ 0 _ (by show List.Nodup (["figure", "sizes", "others", "k"]:List Str);decide +kernel) rfl (zaH rfl) (by first |rfl |exact .inl rfl |exact .inr rfl |decide |(intro _;rfl) |assumption))) (fun _ _ _ _=>(@dZ _)) (fun _ _ _ _=>(@aV _ _ _ _ _ (@ae _ _ _ _ _ (@bg _ _ _ _ _ _ _ _ (@jP _) (pv 0) (@aJ _ _ _ _ _ _ _ (jD (K:=K) rfl) (pv 1) (pv 3) (@fM _ _))) (@ae _ _ _ _ _ (@bg _ _ _ _ _ _ _ _ (@jP _) (pv 0) (@aJ _ _ _ _ _ _ _ (jD (K:=K) rfl) (pv 2) (pv 3) (@fM _ _))) (@ai _) (@nv _ _ _ _ _ _)) (@nv _ _ _ _ _ _)))) (by first |rfl |exact .inl rfl |exact .inr rfl |decide |(intro _;rfl) |assumption)) (@ai _) (@iy _ _ _ _ _ _)) (by first |rfl |exact .inl rfl |exact .inr rfl |decide |(intro _;rfl) |assumption) (by first |rfl |exact .inl rfl |exact .inr rfl |decide |(intro _;rfl) |assumption) (by first |rfl |exact .inl rfl |exact .inr rfl |decide |(intro _;rfl) |assumption) (by first |rfl |exact .inl rfl |exact .inr rfl |decide |(intro _;rfl) |assumption)) (@ai _) (@ba _ _ _ _ _ _)) (by first |rfl |exact .inl rfl |exact .inr rfl |decide |(intro _;rfl) |assumption) (by first |rfl |exact .inl rfl |exact .inr rfl |decide |(intro _;rfl) |assumption) (by first |rfl |exact .inl rfl |exact .inr rfl |decide |(intro _;rfl) |assumption) (by first |rfl |exact .inl rfl |exact .inr rfl |decide |(intro _;rfl) |assumption))) (by first |rfl |exact .inl rfl |exact .inr rfl |decide |(intro _;rfl) |assumption) (by first |rfl |exact .inl rfl |exact .inr rfl |decide |(intro _;rfl) |assumption)) (@aA _ _ _ (@bO _ _ 6 _ _ _ _ nd rfl (zaH rfl) (@bg _ _ _ _ _ _ _ _ (@fK _) (pv 6) (pv 7)) (by first |rfl |exact .inl rfl |exact .inr rfl |decide |(intro _;rfl) |assumption) (by first |rfl |exact .inl rfl |exact .inr rfl |decide |(intro _;rfl) |assumption)))) (by first |rfl |exact .inl rfl |exact .inr rfl |decide |(intro _;rfl) |assumption)) (@aj _ _ _ _ _ (@bL _ _ _ _ _ _ _ _ (@PW.pt _ _ _ (@pw_and _ _ _ _ _ _ _ (@aW _ _ _ _ _ _ _ _ (@BS _) (pv 4) (@ao _ _ _ _) (aY _)) (@pw_and1 _ _ _ _ (@aW _ _ _ _ _ _ _ _ (@dO _) (pv 5) (@ao _ _ _ _) (aY _))))) (@aA _ _ _ (@bO _ _ 6 _ _ _ _ nd rfl (zaH rfl) (@bg _ _ _ _ _ _ _ _ (@fK _) (pv 6) (pv 7)) (by first |rfl |exact .inl rfl |exact .inr rfl |decide |(intro _;rfl) |assumption) (by first |rfl |exact .inl rfl |exact .inr rfl |decide |(intro _;rfl) |assumption))) (@a8 _)) (@aj _ _ _ _ _ (@bO _ _ 9 _ _ _ _ nd rfl (zaH rfl) (@bC _ _ _ _ _ _ _ _ _ _ _ _ _ _ _ _ wg (hr.mono (by first|decide|omega)) rfl T.eI.m T.eI.F.kp T.eI.b .nil cS (@ae _ _ _ _ _ (pv 2) (@ae _ _ _ _ _ (pv 4) (@ai _) (@aD _ _ _ _)) (@aD _ _ _ _)) (by first |rfl |exact .inl rfl |exact .inr rfl |decide |(intro _;rfl) |assumption) (by first |rfl |exact .inl rfl |exact .inr rfl |decide |(intro _;rfl) |assumption) (by first |rfl |exact .inl rfl |exact .inr rfl |decide |(intro _;rfl) |assumption)) (by first |rfl |exact .inl rfl |exact .inr rfl |decide |(intro _;rfl) |assumption) (by first |rfl |exact .inl rfl |exact .inr rfl |decide |(intro _;rfl) |assumption)) (@aj _ _ _ _ _ (@bO _ _ 10 _ _ _ _ nd rfl (zaH rfl) (@bC _ _ _ _ _ _ _ _ _ _ _ _ _ _ _ _ wg (hr.mono (by first|decide|omega)) rfl T.eI.m T.eI.F.kp T.eI.b .nil cS (@ae _ _ _ _ _ (pv 3) (@ae _ _ _ _ _ (@bg _ _ _ _ _ _ _ _ (@fK _) (pv 4) (pv 5)) (@ai _) (@nv _ _ _ _ _ _)) (@aD _ _ _ _)) (by first |rfl |exact .inl rfl |exact .inr rfl |decide |(intro _;rfl) |assumption) (by first |rfl |exact .inl rfl |exact .inr rfl |decide |(intro _;rfl) |assumption) (by first |rfl |exact .inl rfl |exact .inr rfl |decide |(intro _;rfl) |assumption)) (by first |rfl |exact .inl rfl |exact .inr rfl |decide |(intro _;rfl) |assumption) (by first |rfl |exact .inl rfl |exact .inr rfl |decide |(intro _;rfl) |assumption)) (@aj _ _ _ _ _ (@bL _ _ _ _ _ _ _ _ (@aW _ _ _ _ _ _ _ _ (@BS _) (pv 6) (@ao _ _ _ _) (aY _)) (@aA _ _ _ (@aQ _ _ _ _ (@du _ _ _ _ _ _ _ _ (@F3 _ (xk hr)) (@bC _ _ _ _ _ _ _ _ _ _ _ _ _ _ _ _ lh (hr.mono (by first|decide|omega)) rfl T.cB.m T.cB.F.kp T.cB.b .nil cS (@ae _ _ _ _ _ (pv 9) (@ae _ _ _ _ _ (pv 10) (@ai _) (@aD _ _ _ _)) (@aD _ _ _ _)) (by first |rfl |exact .inl rfl |exact .inr rfl |decide |(intro _;rfl) |assumption) (by first |rfl |exact .inl rfl |exact .inr rfl |decide |(intro _;rfl) |assumption) (by first |rfl |exact .inl rfl |exact .inr rfl |decide |(intro _;rfl) |assumption)) (@eN _ _ _ _ _ _ _ ["k"] [] _ _ _ _ rfl (by rfl) (by rfl) (@gu _ _ _ _ _ _ rfl T.iO (@ae _ _ _ _ _ (@ao _ _ _ _) (@ai _) (@aK _ _ _ _ _)) (by first |rfl |exact .inl rfl |exact .inr rfl |decide |(intro _;rfl) |assumption)) (fun _ _ _ _=>(@cK _ _ 0 _ (by show List.Nodup (["k"]:List Str);decide +kernel) rfl (zaH rfl) (by first |rfl |exact .inl rfl |exact .inr rfl |decide |(intro _;rfl) |assumption))) (fun _ _ _ _=>(@dZ _)) (fun _ _ _ _=>(@du _ _ _ _ _ _ _ _ (@dO _) (pv 0) (@ao _ _ _ _) (aY _))) (by first |rfl |exact .inl rfl |exact .inr rfl |decide |(intro _;rfl) |assumption)) (aY _)))) (@a8 _)) (@aj _ _ _ _ _ (@bO _ _ 11 _ _ _ _ nd rfl (zaH rfl) (@bC _ _ _ _ _ _ _ _ _ _ _ _ _ _ _ _ iQ (hr.mono (by first|decide|omega)) rfl T.bX.m T.bX.F.kp T.bX.b .nil KP (@ae _ _ _ _ _ (pv 9) (@ae _ _ _ _ _ (pv 10) (@ai _) (@aD _ _ _ _)) (@aD _ _ _ _)) (by first |rfl |exact .inl rfl |exact .inr rfl |decide |(intro _;rfl) |assumption) (by first |rfl |exact .inl rfl |exact .inr rfl |decide |(intro _;rfl) |assumption) (by first |rfl |exact .inl rfl |exact .inr rfl |decide |(intro _;rfl) |assumption)) (by first |rfl |exact .inl rfl |exact .inr rfl |decide |(intro _;rfl) |assumption) (by first |rfl |exact .inl rfl |exact .inr rfl |decide |(intro _;rfl) |assumption)) (@aj _ _ _ _ _ (@bL _ _ _ _ _ _ _ _ (@aW _ _ _ _ _ _ _ _ (@dO _) (pv 5) (@ao _ _ _ _) (aY _)) (@aA _ _ _ (@aQ _ _ _ _ (@du _ _ _ _ _ _ _ _ (Ej (xk hr)) (pv 11) (@aV _ _ _ _ _ (@ae _ _ _ _ _ (@bo _ _ _ _) (@ae _ _ _ _ _ (@bY _ _ _ _ (@cM _ _ ([.int 0,.int 0,.int 0,.int 0]) (by kernel_rfl))) (@ai _) (@Ax _ _ _ _)) (@aK _ _ _ _ _))) (aY _)))) (@a8 _)) (@aj _ _ _ _ _ (@bL _ _ _ _ _ _ _ _ (@PW.pt _ _ _ (@pw_or _ _ _ _ _ _ _ (@aW _ _ _ _ _ _ _ _ (@PK _) (@aJ _ _ _ _ _ _ _ (@aN _) (pv 11) (@ao _ _ _ _) (@aq _ _ _)) (@bo _ _ _ _) (aY _)) (@pw_or1 _ _ _ _ (@aW _ _ _ _ _ _ _ _ O8 (@bC _ _ _ _ _ _ _ _ _ _ _ _ _ _ _ _ jz (hr.mono (by first|decide|omega)) rfl T.bK.m T.bK.F.kp T.bK.b .nil cS (@ae _ _ _ _ _ (pv 9) (@ae _ _ _ _ _ (pv 10) (@ae _ _ _ _ _ (@aJ _ _ _ _ _ _ _ (@aN _) (pv 11) (@ao _ _ _ _) (@aq _ _ _)) (@ai _) (@a7 _ _ _ _ _)) (@aD _ _ _ _)) (@aD _ _ _ _)) (by first |rfl |exact .inl rfl |exact .inr rfl |decide |(intro _;rfl) |assumption) (by first |rfl |exact .inl rfl |exact .inr rfl |decide |(intro _;rfl) |assumption) (by first |rfl |exact .inl rfl |exact .inr rfl |decide |(intro _;rfl) |assumption)) (@o8 _ _ _ _) (aY _))))) (@aA _ _ _ (@aQ _ _ _ _ (@o8 _ _ _ _))) (@a8 _)) (@aj _ _ _ _ _ (@Av _ _ _ _ _ _ _ ["pair"] [] _ _ _ _ 12 _ _ _ nd rfl (zaH rfl) rfl (by rfl) (by rfl) (@eM _ _ _ _ (@aJ _ _ _ _ _ _ _ (@aN _) (pv 11) (@ao _ _ _ _) (@aq _ _ _))) (fun _ _ _ _=>(@cK _ _ 0 _ (by show List.Nodup (["pair"]:List Str);decide +kernel) rfl (zaH rfl) (by first |rfl |exact .inl rfl |exact .inr rfl |decide |(intro _;rfl) |assumption))) (fun _ _ _ _=>(N1 (@aW _ _ _ _ _ _ _ _ (O7 (K:=K) rfl (xk hr)) (pv 0) (@aV _ _ _ _ _ (@ae _ _ _ _ _ (@aV _ _ _ _ _ (@ae _ _ _ _ _ (@ao _ _ _ _) (@ae _ _ _ _ _ (@aV _ _ _ _ _ (@cM _ _ ([.int 0,.int 0,.int 0,.int 0]) (by kernel_rfl))) (@ai _) (@dQ _ _ _ _ _)) (@aK _ _ _ _ _))) (@ae _ _ _ _ _ (@aV _ _ _ _ _ (@ae _ _ _ _ _ (@ao _ _ _ _) (@ae _ _ _ _ _ (@aV _ _ _ _ _ (@cM _ _ ([.int 0,.int 0,.int 0,.int 0]) (by kernel_rfl))) (@ai _) (@dQ _ _ _ _ _)) (@aK _ _ _ _ _))) (@ai _) (@dQ _ _ _ _ _)) (@dQ _ _ _ _ _))) (aY _)))) (fun _ _ _ _=>(pv 0)) (by first |rfl |exact .inl rfl |exact .inr rfl |decide |(intro _;rfl) |assumption) (by first |rfl |exact .inl rfl |exact .inr rfl |decide |(intro _;rfl) |assumption) (by first |rfl |exact .inl rfl |exact .inr rfl |decide |(intro _;rfl) |assumption)) (@aA _ _ _ (@aQ _ _ _ _ (DO (@du _ _ _ _ _ _ _ _ Mz (@bC _ _ _ _ _ _ _ _ _ _ _ _ _ _ _ _ jz (hr.mono (by first|decide|omega)) rfl T.bK.m T.bK.F.kp T.bK.b .nil cS (@ae _ _ _ _ _ (pv 9) (@ae _ _ _ _ _ (pv 10) (@ae _ _ _ _ _ (pv 12) (@ai _) (@aD _ _ _ _)) (@aD _ _ _ _)) (@aD _ _ _ _)) (by first |rfl |exact .inl rfl |exact .inr rfl |decide |(intro _;rfl) |assumption) (by first |rfl |exact .inl rfl |exact .inr rfl |decide |(intro _;rfl) |assumption) (by first |rfl |exact .inl rfl |exact .inr rfl |decide |(intro _;rfl) |assumption)) (@o8 _ _ _ _) (aY _)) (JE (@du _ _ _ _ _ _ _ _ FC (@bT _ _ _ _ _ _ _ _ _ vC rfl T.wb yb4 (@ae _ _ _ _ _ (@dP _ _ _ _ _ _ _ _ _ (rV (J:=qx) Mt (xk hr) rfl) rfl T.C9 yb8 (@ae _ _ _ _ _ (@aJ _ _ _ _ _ _ _ (@ji _ K rfl) (pv 11) (@ao _ _ _ _) (@aq _ _ _)) (@ai _) (@a7 _ _ _ _ _)) (by first |rfl |exact .inl rfl |exact .inr rfl |decide |(intro _;rfl) |assumption) (by first |rfl |exact .inl rfl |exact .inr rfl |decide |(intro _;rfl) |assumption) (by first |rfl |exact .inl rfl |exact .inr rfl |decide |(intro _;rfl) |assumption) (by first |rfl |exact .inl rfl |exact .inr rfl |decide |(intro _;rfl) |assumption)) (@ai _) (@ba _ _ _ _ _ _)) (by first |rfl |exact .inl rfl |exact .inr rfl |decide |(intro _;rfl) |assumption) (by first |rfl |exact .inl rfl |exact .inr rfl |decide |(intro _;rfl) |assumption) (by first |rfl |exact .inl rfl |exact .inr rfl |decide |(intro _;rfl) |assumption) (by first |rfl |exact .inl rfl |exact .inr rfl |decide |(intro _;rfl) |assumption)) (pv 6) (aY _))))))))))))))))))))))),rfl,?_⟩;have line:zdN=2 ^ 24:=rfl;refine ay fun U1 fQ=>?_;walk_at "rd";refine⟨a,ns,rfl,hS,WH,fun D C G H1 s1 nD nC QV=>(fQ _ _).mpr (ay fun U2 iq=>?_)⟩;clear fQ;have pz:(vz ns).pos=0:=rfl;have NH:Pt≠D:=ag Gi nD;have NI:Pt≠C:=ag Gi nC;have WJ:=s1 _ _ Gi;clear hS Gi s1;walk_at "rd";refine⟨D,C,G,_,rfl,QV,by rw[pz];decide,fun sz a0 b0 c0 e0 d2 H2 c2 yw p2 z1 nl yl=>(iq _ _).mpr (ay fun U3 lE=>?_)⟩;clear iq;rw[pz] at p2;have Jx:sz≠D:=fun e=>by rw[e,QV.nN] at nl;cases nl
 have Jy:sz≠C:=fun e=>by rw[e,QV.cs] at nl;cases nl
 have yP2:=c2.get WJ NH NI;clear c2 nl WJ QV;walk_at "rd";refine⟨D,C,G,_,rfl,yw,by lia,fun s3 a1 b1 c1 e1 d3 H3 c3 X5 p3 z3 WL yl3=>?_⟩;have nTD:s3≠D:=fun e=>by rw[e,yw.nN] at WL;cases WL
 have nTC:s3≠C:=fun e=>by rw[e,yw.cs] at WL;cases WL
 have WK:=c3.get yP2 NH NI;have ys3:=c3.get yl Jx Jy;clear c3 WL yP2 yl yw;intro lp TZ;generalize e4:upd H3 lp _=H4;have s4:=gL e4 TZ;have y4:=Vk e4;clear e4;refine⟨D,C,G,d3,3,rfl,X5.same s4,by decide,by decide,by lia,fun x d5 H5 e5 c5 dk5=>?_⟩;have nLD:lp≠D:=fun e=>by rw[e,X5.nN] at TZ;cases TZ
 have nLC:lp≠C:=fun e=>by rw[e,X5.cs] at TZ;cases TZ
 obtain⟨x0,x3⟩:=jn e5 (by decide);have p5:=iB e5;have y5:=c5.get y4 nLD nLC;have S6:=c5.get (s4 _ _ WK) NH NI;have X6:=c5.get (s4 _ _ ys3) Jx Jy;have yt5:=c5.get (s4 _ _ yl3) nTD nTC;obtain⟨so,a2,b2,c2,e2,z2,ax,yo5,X7,X8⟩:∃so a2 b2 c2 e2,DH a2 b2 c2 e2/\Jm ([.ref sz,.ref sz,.ref s3]:List V) x=some (.ref so)/\H5 so=some (.lst [.int a2,.int b2,.int c2,.int e2])/\so≠D/\so≠C:=by
  have:x=0\/x=1\/x=2:=by lia
  rcases this with rfl |rfl |rfl
  .exact⟨sz,_,_,_,_,z1,rfl,X6,Jx,Jy⟩
  .exact⟨sz,_,_,_,_,z1,rfl,X6,Jx,Jy⟩
  .exact⟨s3,_,_,_,_,z3,rfl,yt5,nTD,nTC⟩
 clear e5 c5 y4 WK ys3 yt5 s4 TZ X5 yl3 z3 nTD nTC nLD nLC;refine cT (.of y5) ax ((lE _ _).mpr (ay fun U4 uW=>?_));clear lE ax y5 x0 x3;walk_at "rd";refine⟨D,C,G,d5,2,rfl,dk5,by decide,by decide,by lia,fun x d6 H6 e6 c6 dk6=>?_⟩;have p6:=iB e6;have yP6:=c6.get S6 NH NI;have ys6:=c6.get X6 Jx Jy;have yo6:=c6.get yo5 X7 X8;clear c6 e6 S6 X6 yo5 dk5;refine⟨rfl,?_⟩;split
 .refine⟨D,C,G,d6,2,rfl,dk6,by decide,by decide,by lia,fun m d7 H7 e7 c7 X9=>?_⟩;have:=jn e7 (by decide);have p7:=iB e7;exact⟨D,C,G,sz,a0,b0,c0,e0,m,d7, #[],rfl,X9,by lia,Jx,Jy,c7.get ys6 Jx Jy,z1,by lia,c7.get yP6 NH NI,.inl rfl,q⟩
 refine(uW _ _).mpr (ay fun U5 zX=>?_);clear uW;walk_at "rd";refine⟨D,C,G,d6,2,rfl,dk6,by decide,by decide,by lia,fun x1 d7 H7 e7 c7 X9=>?_⟩;obtain⟨x10,x11⟩:=jn e7 (by decide);have p7:=iB e7;refine⟨D,C,G,d7,900,rfl,X9,by decide,by decide,by lia,fun x2 d8 H8 e8 c8 dk8=>?_⟩;obtain⟨x20,x21⟩:=jn e8 (by decide);have p8:=iB e8;have yP8:=c8.get (c7.get yP6 NH NI) NH NI;have ys8:=c8.get (c7.get ys6 Jx Jy) Jx Jy;have yo8:=c8.get (c7.get yo6 X7 X8) X7 X8;clear c7 c8 e7 e8 dk6 X9 yP6 ys6 yo6;refine tL.mpr ?_;walk_at "rd";refine⟨mulL (by lia) (by lia),(zX _ _).mpr (ay fun U6 De=>?_)⟩;clear zX;obtain⟨cG,es,hs0,hs9⟩:∃cG:Int,x1*(1+x2)=cG/\0<=cG/\cG<=900:=by
  have:x1=0\/x1=1:=by lia
  rcases this with rfl |rfl
  .exact⟨0,by lia,by lia,by lia⟩
  .exact⟨1+x2,by lia,by lia,by lia⟩
 rw[es];clear es x10 x11 x20 x21;walk_at "rd";refine⟨D,C,G,d8,2,rfl,dk8,by decide,by decide,by lia,fun x3 d9 H9 e9 c9 dk9=>?_⟩;obtain⟨x30,x31⟩:=jn e9 (by decide);have yP9:=c9.get yP8 NH NI;have ys9:=c9.get ys8 Jx Jy;have yo9:=c9.get yo8 X7 X8;clear c9 e9 dk8 yP8 ys8 yo8 dk9 p2 p3 p5 p6 p7 p8;refine⟨_,rfl,?_⟩;walk_at "rd";refine⟨mulL (by lia) (by lia),(De _ _).mpr (ay fun U7 SM=>?_)⟩;clear De;obtain⟨more,em,hm⟩:∃more:Int,x3*(if decide (0<cG)=true then 1 else 0)=more/\(more=0\/more=1/\0<cG):=by
  have:x3=0\/x3=1:=by lia
  by_cases h:0<cG
  .rw[ybT h,ybS rfl];exact⟨x3,by lia,by lia⟩
  .rw[ybU h,ybR (by decide)];exact⟨0,by lia,.inl rfl⟩
 rw[em];clear em x30 x31;walk_at "rd";refine(SM _ _).mpr (ay fun U8 hU8=>?_);clear SM;walk_at "rd";refine(hU8 _ _).mpr (ay fun U9 hU9=>?_);clear hU8;obtain⟨D0,k0⟩:=AU a0 a2;obtain⟨D1,k1⟩:=AU b0 b2;obtain⟨D2,k2⟩:=AU c0 c2;obtain⟨D3,k3⟩:=AU e0 e2;obtain⟨av,aw,ep1,QU,Hl,Hm,QW,NG,fs1,fs2,cnt,dn,ds⟩:=VO z1 z2 k0 k1 k2 k3 hs0 hs9 hm;have kk:∀i,i<4->DkZ ([a0,b0,c0,e0].getD i 0) ([a2,b2,c2,e2].getD i 0) ([D0,D1,D2,D3].getD i []):=fun i hi=>by
  match i,hi with
  |0,_=>exact k0
  |1,_=>exact k1
  |2,_=>exact k2
  |3,_=>exact k3
 have sz2:∀i,i<4->2<=[a0,b0,c0,e0].getD i 0/\2<=[a2,b2,c2,e2].getD i 0:=fun i hi=>by
  obtain⟨_,_,_,_,_,_,_,_⟩:=z1;obtain⟨_,_,_,_,_,_,_,_⟩:=z2
  match i,hi with
  |0,_=>exact⟨by assumption,by assumption⟩
  |1,_=>exact⟨by assumption,by assumption⟩
  |2,_=>exact⟨by assumption,by assumption⟩
  |3,_=>exact⟨by assumption,by assumption⟩
 refine pL fun U hU=>?_;walk_at "rd";refine⟨_,rfl,by decide,by decide,hU _ _ ?_⟩;clear hU;obtain⟨f,ef⟩:∃f:Nat->Nat,f=fun k=>([D0,D1,D2,D3].getD k []).length:=⟨_,rfl⟩
 rw[<- ef] at cnt;have Wq:∀k,f k<=10:=fun k=>by
  rw[ef];by_cases h:k<4
  .exact(kk k h).EA
  .show ([D0,D1,D2,D3].getD k []).length<=10;rw[zal,zbk (by show 4<=k;lia)];exact zaN _
 obtain⟨Pv,qB⟩:∃Pv:Nat->St->Hp->Prop,∀i M Hx,Pv i M Hx↔∃z8:Option V,M=[some (.ref a),some (.ref D),some (.ref sz),some (.ref so),some (.int cG),some (.int more),some (.int (QF f i:Nat)),some (.int (DJ f i:Nat)),z8,none,none,none,none]/\ar H9 Hx:=⟨_,fun _ _ _=>Iff.rfl⟩
 refine Hv (lo:=0) (n:=4) Pv ((qB _ _ _).mpr ⟨none,rfl,.refl _⟩) (fun i M Hx hi hv=>?_) (fun M Hx hv=>?_)
 .obtain⟨z8,rfl,sx⟩:=(qB _ _ _).mp hv;clear hv;obtain⟨m2,m22⟩:=sz2 i hi;have kd:=kk i hi;have ysx:=sx _ _ ys9;have yox:=sx _ _ yo9;have lle:DJ f i<=10 ^ 4:=zax (MA Wq i) (zaS (by decide) (by lia));rw[Int.zero_add];walk_at "rd";simp only[fS];walk_at "rd";refine⟨_,rfl,by lia,by lia,fun E1 MZ=>?_⟩;refine kF (n:=10) (r:=[some (.ref sz),some (.ref so),some (.int i)]) (fun j ys Hy=>Mx K Hy ((zaj j).map fun g:Nat=>((g:Int)%([a0,b0,c0,e0].getD i 0),(g:Int)%([a2,b2,c2,e2].getD i 0))) ys) (by lia) MZ .nil (fun j ys G2 hj t2 w2 ly pd R hR=>?_) (fun ys G2 t2 w2 ly pd=>?_)
  .walk_at "rd";refine cT (.of (t2 _ _ ysx)) (az (j:=i) (wX hi)) ?_;walk_at "rd";refine⟨by lia,cT (.of (t2 _ _ yox)) (az (j:=i) (wX hi)) ?_⟩;walk_at "rd";refine⟨by lia,fun p hp=>hR _ _ (ar.new hp _) ?_⟩;rw[za7,zaC];exact Sz pd w2 hp
  .obtain⟨de,rfl,ek,on⟩:=My pd;rw[zac] at ly;refine⟨E1,de,rfl,.of w2,on,by lia,fun p us hp n m=>?_⟩;have ul:us.length=f i:=by
    rw[ef];exact kd.set n fun x=>(m x).trans (by rw[ek])
   have fi:=Wq i;rw[ul];have w1:(DJ f i*f i:Int)=(DJ f (i+1):Nat):=by
    show _=((DJ f i*f i:Nat):Int)
    push_cast
    rfl
   have w3:(QF f i+DJ f (i+1):Int)=(QF f (i+1):Nat):=by
    show _=((QF f i+DJ f (i+1):Nat):Int)
    push_cast
    rfl
   refine⟨p,_,rfl,ah,by lia,mulR (by lia) (by lia),?_⟩;rw[w1,w3];exact(qB _ _ _).mpr ⟨_,rfl,sx.trans (t2.Aw hp _)⟩
 obtain⟨z8,rfl,sx⟩:=(qB _ _ _).mp hv;clear hv qB Pv;refine(hU9 _ _).mpr (ay fun U10 WM=>?_);clear hU9;walk_at "rd"
 suffices key:U10 [some (V.ref a),some (V.ref D),some (V.ref sz),some (V.ref so),some (V.int cG),some (V.int more),some (V.int ((aO av aw).length:Nat)),some (V.int ↑(DJ f 4)),z8,none,none,none,none] Hx by
  rw[cnt] at key;split
  .next h1=>
   split
   .next h2=>
    rw[ybS ⟨h1,h2⟩] at key
    push_cast at key
    exact key
   .next h2=>
    rw[ybR (fun h=>h2 h.2)] at key;exact key
  .next h1=>
   rw[ybR (fun h=>h1 h.1)] at key;rw[ybR zam];exact key
 refine(WM _ _).mpr (ay fun U11 WN=>?_);clear WM cnt kk sz2 Wq;walk_at "rd";refine⟨sz,_,_,_,_,cG,rfl,sx _ _ ys9,hs0,fun v1 HA sA r1=>(WN _ _).mpr (ay fun U12 WO=>?_)⟩;clear WN;walk_at "rd";refine⟨so,_,_,_,_,cG+more,rfl,sA _ _ (sx _ _ yo9),by lia,fun v2 HB sB r2=>(WO _ _).mpr (ay fun U13 WQ=>?_)⟩;clear WO;rw[<- ep1] at r1;rw[<- QU] at r2;have r1:=Rep.mono sB r1;have WR:=sB _ _ (sA _ _ (sx _ _ yP9));clear ep1 QU sx sA sB ys9 yo9 yP9;walk_at "rd";split
 .next SV=>
  refine⟨v1,v2,av,aw, #[],rfl,r1,r2,Hl,Hm,QW,NG,by lia,WR,.inl rfl,fun l H6 ps6 u6 y6 t6 yl=>?_⟩;simp only[fS];walk_at "rd";refine⟨_,rfl,by lia,by lia,fun E1 MZ=>?_⟩;refine kF (n:=14) (r:=[]) (fun i ys Hy=>ys=(zaj i).map fun k=>V.bl (decide (k=12))) (by decide) MZ rfl (fun i ys H7 hi s7 y7 ly pv R hR=>?_) (fun ys H7 s7 y7 ly pv=>?_)
  .walk_at "rd";refine hR _ _ (ar.refl _) ?_;rw[pv,za7,zaC,zc0]
   congr 2
   exact ybW V.bl (decide_eq_decide.mpr (by lia))
  .subst pv;exact⟨.lst ((zaj 14).map fun k=>Dp.bl (decide (k=12))),Rep.bG.mpr ⟨_,_,rfl,.of (s7 _ _ yl),pR⟩,Rep.bG.mpr ⟨_,_,rfl,.of y7,pR⟩,⟨_,rfl⟩,by decide,q _⟩
 next hle=>
 refine(WQ _ _).mpr (ay fun U14 WS=>?_);clear WQ;walk_at "rd";refine⟨v1,v2,av,aw, #[],rfl,r1,r2,Hl,Hm,QW,NG,WR,.inl rfl,fun hf r L us word HC psC uC hL yr yL tl yC tC=>(WS _ _).mpr (ay fun U15 WT=>?_),fun h=>ybX h (by lia)⟩;clear WS tC yC;unfold CQ at tl;walk_at "rd";split
 .next Ox=>
  rw[ds Ox] at tl;obtain⟨rfl,rfl⟩:=tl;intro p1 Ba p2 sV;generalize e7:upd HC p1 _=H7 at *;have s7:=gL e7 Ba;have r7:Rep K H7 (.lst ([(0:Int),0,0,0].map Dp.int)) (.ref p1):=Vj e7 Ba (.cons qN (.cons qN (.cons qN (.cons qN .nil))));clear e7;generalize e8:upd H7 p2 _=H8 at *;have s8:=gT e8 sV;have r8:Rep K H8 (.tup [.str "apart",.lst ([(0:Int),0,0,0].map Dp.int)]) (.ref p2):=DG e8 sV (.cons rS (.cons r7 .nil));clear e8;have s:=s7.trans s8;refine⟨_,_,Rep.aT.mpr ⟨r,_,rfl,.of (s _ _ yr),.cons (Rep.bN.mpr rfl) (.cons (Cn (l:=[0,0,0,0]) (.of (s _ _ yL))) .nil)⟩,r8,lN _,lN _,?_⟩;rw[eqv_refl];exact q _
 next Ox=>
 have m0:more=0:=by lia
 rw[dn m0] at tl;obtain⟨rfl,QT⟩:=tl;refine(WT _ _).mpr (ay fun U16 WU=>?_);clear WT;have r1:=vy (.of uC WR) _ _ r1;have r2:=vy (.of uC WR) _ _ r2;clear uC WR hL;walk_at "rd";have QO:=mR Hl Hm;have ll:((aO av aw).map (·.1)).length=(aO av aw).length:=zac _;have vB:=yah QT;refine aI (.of yr) (v:=.str "alike") (az (j:=0) rfl) ⟨rfl,(ybS rfl).mpr (aI (.of yr) (v:=.ref L) (az (j:=1) rfl) ⟨v1,v2,L,av,aw,(aO av aw).map (·.1),us,rfl,r1,r2,Hl,Hm,QW,NG,.of yL,QT,fun p hp=>?_,by lia,fun HD sD=>⟨_,_,rfl,rfl,?_⟩⟩)⟩
 .obtain⟨x,hx,rfl⟩:=zae.mp hp;exact QO.Gw x hx
 rw[vZ Hl Hm (dn m0),ybS rfl];refine(WU _ _).mpr (ay fun U17 WV=>?_);clear WU;simp only[fS];walk_at "rd";simp only[fS];walk_at "rd";have S9:=QT.mono sD;have yLD:=sD _ _ yL;refine aI (.of (sD _ _ yr)) (v:=.ref L) (az (j:=1) rfl) ⟨L,rfl,⟨us,.of yLD⟩,fun E1 MZ=>?_⟩;refine Em (K:=K) (r:=[]) (fun i=>!PyData.eqv (yE (((aO av aw).map (·.1)).getD i ((0,[]),(0,[])))).py (yE (jG av,jG aw)).py) (fun i=>us.getD i .eA) (.of yLD) (by lia) MZ (fun i y hy G2 t2 R hR=>?_) (fun i y hy _ G2 t2 R hR=>?_) (fun G2 t2 w2=>?_)
 .obtain⟨p,b,e1,rfl,pa⟩:=S9.get hy;have ra:=SA (pa.oX fun _ _ h=>t2.cO h);rw[zal,e1] at hR;rw[fs1,fs2] at hR;walk_at "rd";intro q1 WB;generalize h1:upd G2 q1 _=K1 at *;have n1:=gT h1 WB;have t1:Rep K K1 (.tup (([0,0,0,0]:List Int).map Dp.int)) (.ref q1):=DG h1 WB (.cons qN (.cons qN (.cons qN (.cons qN .nil))));clear h1;intro q2 WC;generalize h2:upd K1 q2 _=K2 at *;have n2:=gT h2 WC;have t2':Rep K K2 (Cv (5,[0,0,0,0])) (.ref q2):=DG h2 WC (.cons qN (.cons t1 .nil));clear h2;intro q3 WD;generalize h3:upd K2 q3 _=K3 at *;have n3:=gT h3 WD;have t3:Rep K K3 (.tup (([0,0,0,0]:List Int).map Dp.int)) (.ref q3):=DG h3 WD (.cons qN (.cons qN (.cons qN (.cons qN .nil))));clear h3;intro q4 WE;generalize h4:upd K3 q4 _=K4 at *;have n4:=gT h4 WE;have t4:Rep K K4 (Cv (5,[0,0,0,0])) (.ref q4):=DG h4 WE (.cons qN (.cons t3 .nil));clear h4;intro q5 WG;generalize h5:upd K4 q5 _=K5 at *;have n5:=gT h5 WG;have t5:Rep K K5 (yE ((5,[0,0,0,0]),(5,[0,0,0,0]))) (.ref q5):=DG h5 WG (.cons (Rep.mono (n3.trans n4) t2') (.cons t4 .nil));clear h5;have S5:=(((n1.trans n2).trans n3).trans n4).trans n5;exact⟨_,_,Rep.mono S5 ra,t5,C4 _,C4 _,_,rfl,hR _ S5⟩
 .walk_at "rd";rw[zal,hy] at hR;exact hR _ (.refl _)
 have jl:∀j∈(zaj us.length).filter (fun i=>!PyData.eqv (yE (((aO av aw).map (·.1)).getD i ((0,[]),(0,[])))).py (yE (jG av,jG aw)).py),j<((aO av aw).map (·.1)).length:=fun j hj=>by
  rw[vB];exact zav.mp (zcg.mp hj).1
 have pr:=C3 (S9.mono t2) jl;refine(WV _ _).mpr ?_;clear WV;walk_at "rd";refine⟨v1,v2,E1,av,aw,_,_,rfl,Rep.mono (sD.trans t2) r1,Rep.mono (sD.trans t2) r2,Hl,Hm,QW,NG,.of w2,pr,fun p hp=>?_,?_,fun HE sE=>⟨_,_,rfl,rfl,?_⟩⟩
 .obtain⟨j,hj,rfl⟩:=zae.mp hp;have lj:=jl j hj;rw[zal,zad lj];obtain⟨x,hx,e⟩:=zae.mp (zaw lj);show wB av aw (((aO av aw).map (·.1))[j]);rw[<- e];exact QO.Gw x hx
 .rw[zac];have:=zdr (fun i=>!PyData.eqv (yE (((aO av aw).map (·.1)).getD i ((0,[]),(0,[])))).py (yE (jG av,jG aw)).py) (zaj us.length);rw[zaJ] at this;lia
 rw[Mf (fun h=>by
  obtain⟨j,hj,e⟩:=zae.mp h;have:=(zcg.mp hj).2;rw[e,eqv_refl] at this;cases this),ybS rfl]
 obtain⟨de,rfl,lk,on,nk⟩:=zW Hl Hm ((S9.mono t2).mono sE);refine aI (.of (sE _ _ (t2 _ _ (sD _ _ yr)))) (v:=.ref L) (az (j:=1) rfl) ⟨L,de,rfl,.of (sE _ _ (t2 _ _ yLD)),on,by lia,fun p ks hp n m=>⟨p,_,rfl,ah,by rw[nk ks n m];lia,?_⟩⟩;rw[nk ks n m,ybT (za0 _)];exact q _
end
end SD
end
section
set_option maxHeartbeats 4000000
namespace SD
open PG
open PySem L2
section
variable{P:zdR}{w:zdH}{K:zaa}{mg:Str->Option zdG}{base:yaf}
theorem all_mk{l:PySem.W.OpenLaw}(X:K.In h)(G:h.Ns zdM mg)(hfa:mg "law"=some (.ref fa))
 {mi dS cH fH kG fU bj nX mV kX kY uJ mW dU iE iF fI gQ dH jI mX iI jJ fV jK jL fW jM iJ iK dW GW:zdF}
 {aH:zdF}
 {dI:zdF} {yT rd:Option zdF} {yU:Array (Option zdG)} {yV rg rh rj mx rn:zdG}
 {aX:zdF}
 {dJ:zdF} {yW rq:Option zdF} {yX:Array (Option zdG)} {yY rA rB rC my rD:zdG}
 {bw:zdF} {qF j5:Option zdF} {qG:Array (Option zdG)} {qH j6 j7 j8 gM j9:zdG}
 {fX:zdF}
 {i6:zdF}
 {om:zdF}
 {i7:zdF}
 {i8:zdF}
 {fY:zdF}
 {oo:zdF}
 {rY:zdF}
 {ou:zdF}
 {rZ:zdF}
 {aC:zdF}
 {kZ:zdF}
 {i9:zdF}
 {gY:zdF}
 {WW:_}
 {yk:_}
 {yZ:_}
 (Ta:FH K "flow" E9 mi)
 (ym:FH K "flow_of_body" kS dS)
 (Dq:FH K "first_row" pS cH)
 (za:FH K "behind_body" mf fH)
 (IZ:FH K "ways_of" vD kG)
 (Dr:FH K "bodies_in" pT fU)
 (wD:FH K "statements_in" jS bj)
 (Pr:FH K "worth" A2 nX)
 (Ja:FH K "word_at" vE mV)
 (Fo:FH K "by_names" rW kX)
 (Fp:FH K "in_order" rX kY)
 (Pu:FH K "holds" A3 uJ)
 (Jb:FH K "step_by" vF mW)
 (sO:FH K "behind_condition" gW dU)
 (Bj:FH K "all_led_to" nQ iE)
 (Bk:FH K "found_from" nR iF)
 (Jc:FH K "gone_on" ic fI)
 (zb:FH K "right_alike" mh gQ)
 (uS:FH K "told_apart" aU dH)
 (Ds:FH K "is_unseen" pU jI)
 (Jd:FH K "seen_at" vG mX)
 (Bl:FH K "first_pair" nU iI)
 (Dt:FH K "see_alike" pV jJ)
 (yn:FH K "pairs_behind" kT fV)
 (Du:FH K "_law_draw" pW jK)
 (Dv:FH K "_law_deck" pX jL)
 (yo:FH K "_law_refused" kU fW)
 (Dw:FH K "_law_asks" pY jM)
 (Bm:FH K "_law_sizes" nV iJ)
 (Bn:FH K "_law_early" nW iK)
 (sP:FH K "_law_early_right" gX dW)
 (QX:FH K "law" MB GW)
 (Px:zaE K zdM "Chart"=some (some (.ref aH)))
 (M0:zbW K aH Str.empty=true)
 (M1:zbB K aH=true)
 (M3:zcC K aH=true)
 (M4:zaG K (.ref aH) "__setattr__"=some (some (.builtin "object.__setattr__")))
 (Bo:zaG K (.ref aH) "__init__"=some (some (.ref dI)))
 (Bp:K.lookup dI=some ⟨yV,yT,.func (za9 "__init__" "Chart.__init__" (gR dC) (eE dC) (aG dC) .none rg rh rj rd mx rn),yU⟩)
 (Bq:zbS K mx "Chart.__init__"=true)
 (Br:za6 K (.ref dI)=true)
 (Bs:zcn K (.ref dI)=true)
 (xZ:zcR K aH=true)
 (M5:za6 K (.ref aH)=true)
 (gb:zaG K (.ref aH) "names"=some none)
 (gg:zaG K (.ref aH) "sizes"=some none)
 (gm:zaG K (.ref aH) "first"=some none)
 (cF:zaG K (.ref aH) "statements"=some none)
 (fJ:zaG K (.ref aH) "ways"=some none)
 (Py:zaE K zdM "Watch"=some (some (.ref aX)))
 (M6:zbW K aX Str.empty=true)
 (M7:zbB K aX=true)
 (M8:zcC K aX=true)
 (M9:zaG K (.ref aX) "__setattr__"=some (some (.builtin "object.__setattr__")))
 (Bt:zaG K (.ref aX) "__init__"=some (some (.ref dJ)))
 (Bu:K.lookup dJ=some ⟨yY,yW,.func (za9 "__init__" "Watch.__init__" (gR dE) (eE dE) (aG dE) .none rA rB rC rq my rD),yX⟩)
 (Bv:zbS K my "Watch.__init__"=true)
 (Bw:za6 K (.ref dJ)=true)
 (Bx:zcn K (.ref dJ)=true)
 (mY:zcR K aX=true)
 (Na:za6 K (.ref aX)=true)
 (sQ:zaG K (.ref aX) "sight_from"=some (some (.ref bw)))
 (sR:K.lookup bw=some ⟨qH,qF,.func (za9 "sight_from" "Watch.sight_from" (gR bu) (eE bu) (aG bu) .none j6 j7 j8 j5 gM j9),qG⟩)
 (sS:zbS K gM "Watch.sight_from"=true)
 (lB:za6 K (.ref bw)=true)
 (sT:zcn K (.ref bw)=true)
 (bW:zaG K (.ref aX) "chart"=some none)
 (cI:zaG K (.ref aX) "sights"=some none)
 (Fq:zaE K zdM "RowError"=some (some (.ref fX)))
 (Je:zaE K zdM "TooLong"=some (some (.ref i6)))
 (Pz:zaE K zdM "NoRow"=some (some (.ref om)))
 (Jf:zaE K zdM "NoPlace"=some (some (.ref i7)))
 (Jg:zaE K zdM "TooDeep"=some (some (.ref i8)))
 (Dx:zaE K zdM "NoMeasure"=some (some (.ref fY)))
 (PB:zaE K zdM "Twice"=some (some (.ref oo)))
 (Tb:zaE K zdM "Full"=some (some (.ref rY)))
 (PC:zaE K zdM "NoBox"=some (some (.ref ou)))
 (Tc:zaE K zdM "Open"=some (some (.ref rZ)))
 (Jh:zaE K zdM "TooMany"=some (some (.ref aC)))
 (vI:zdv K aC [.type "ValueError",.type "Exception",.type "BaseException",.type "object"] "ValueError.__new__"=true)
 (x5:zbT K (.ref aC) (.ref aC)=some true)
 (Nb:zaE K zdM "NoForm"=some (some (.ref kZ)))
 (Ji:zaE K zdM "NoneYet"=some (some (.ref i9)))
 (Fs:zaE K zdM "NoTarget"=some (some (.ref gY)))
 (se:zbT K (.ref aC) (.ref fX)=some true)
 (Dy:zbB K aC=true)
 (Dz:zaG K (.ref aC) "__getattribute__"=some (some (.builtin "BaseException.__getattribute__")))
 (DA:zaG K (.ref aC) "__getattr__"=some none)
 (DB:zaG K (.ref aC) "__class__"=some (some (.builtin "object.__class__")))
 (DC:zc5 K aC (.type "object")=some true)
 (DD:zc5 K aC (.type "BaseException")=some true)
 (sj:zaA K (.ref aC) (.type "ValueError")=some true)
 (j3:zaA K (.ref aC) (.ref fX)=some true)
 (gZ:zaA K (.ref aC) (.ref i6)=some false)
 (jc:zaA K (.ref aC) (.ref om)=some false)
 (g7:zaA K (.ref aC) (.ref i7)=some false)
 (g8:zaA K (.ref aC) (.ref i8)=some false)
 (gn:zaA K (.ref aC) (.ref fY)=some false)
 (jd:zaA K (.ref aC) (.ref oo)=some false)
 (jT:zaA K (.ref aC) (.ref rY)=some false)
 (je:zaA K (.ref aC) (.ref ou)=some false)
 (jU:zaA K (.ref aC) (.ref rZ)=some false)
 (hJ:zaA K (.ref aC) (.ref aC)=some true)
 (iN:zaA K (.ref aC) (.ref kZ)=some false)
 (hV:zaA K (.ref aC) (.ref i9)=some false)
 (gK:zaA K (.ref aC) (.ref gY)=some false)
 (WX:zaE K zdM "END"=some (some (.int 0 WW)))
 (yq:zaE K zdM "FIGURE_COUNT"=some (some (.int 10 yk)))
 (zc:zaE K zdM "MOST_PLACES"=some (some (.int 2000 yZ)))
 (wb:zaE K zdM "len"=some none)
 (iO:zaE K zdM "range"=some none)
 (GY:zaE K zdM "int"=some none)
 (sk:zaE K zdM "dict"=some none)
 (yc:zaE K zdM "list"=some none)
 (wY:zaE K zdM "tuple"=some none)
 (MH:zaE K zdM "all"=some none)
 (bh:zaE K zdM "isinstance"=some none)
 (lR:zaE K zdM "enumerate"=some none)
 (GZ:zaE K zdM "zip"=some none)
 (oy:zaE K zdM "ValueError"=some none)
 (C9:zaE K zdM "set"=some none)
 {c Pt:zdF} (LQ:zcF K "told_apart"=some (c,Pt)):∃fd:zdO,(∀(s:zdP) (v:zdG),BindsTo s fd ⟨[v],[]⟩ [("script",v)])/\∀base:yaf,K.In base->base.Ns zdM mg->jm K mg base c Pt->bt l.prog w K mg base fR 30 fa fd ["script"] (AE K Pt):=by
 have e:=hfa.symm.trans (zaR X G QX.1);cases e;obtain⟨km,A4⟩:=qP X G Ta (ps:=["program"]) fun _ _ _ _ _ _=>R3 fun _=>rfl;obtain⟨eC,fZ⟩:=qP X G ym (ps:=["body", "behind"]) fun _ _ _ _ _ _=>wN fun _ _=>rfl;obtain⟨cA,eZ⟩:=qP X G Dq (ps:=["body", "behind"]) fun _ _ _ _ _ _=>wN fun _ _=>rfl;obtain⟨fT,jy⟩:=qP X G za (ps:=["statement", "after"]) fun _ _ _ _ _ _=>wN fun _ _=>rfl;obtain⟨kW,qp⟩:=qP X G IZ (ps:=["statement", "after"]) fun _ _ _ _ _ _=>wN fun _ _=>rfl;obtain⟨gB,jN⟩:=qP X G Dr (ps:=["statement"]) fun _ _ _ _ _ _=>R3 fun _=>rfl;obtain⟨bq,fE⟩:=qP X G wD (ps:=["body"]) fun _ _ _ _ _ _=>R3 fun _=>rfl;obtain⟨mU,kz⟩:=qP X G Pr (ps:=["e", "values"]) fun _ _ _ _ _ _=>wN fun _ _=>rfl;obtain⟨nY,ja⟩:=qP X G Ja (ps:=["chart", "row"]) fun _ _ _ _ _ _=>wN fun _ _=>rfl;obtain⟨lO,k6⟩:=qP X G Fo (ps:=["chart", "parts"]) fun _ _ _ _ _ _=>wN fun _ _=>rfl;obtain⟨lP,ox⟩:=qP X G Fp (ps:=["chart", "named"]) fun _ _ _ _ _ _=>wN fun _ _=>rfl;obtain⟨uK,uL⟩:=qP X G Pu (ps:=["chart", "standing"]) fun _ _ _ _ _ _=>wN fun _ _=>rfl;obtain⟨nZ,jb⟩:=qP X G Jb (ps:=["chart", "standing", "figure"]) fun _ _ _ _ _ _=>Za fun _ _ _=>rfl;obtain⟨eQ,fg⟩:=qP X G sO (ps:=["chart", "standing"]) fun _ _ _ _ _ _=>wN fun _ _=>rfl;obtain⟨jr,iL⟩:=qP X G Bj (ps:=["chart", "standing"]) fun _ _ _ _ _ _=>wN fun _ _=>rfl;obtain⟨jt,gC⟩:=qP X G Bk (ps:=["first", "led_from"]) fun _ _ _ _ _ _=>wN fun _ _=>rfl;obtain⟨og,gD⟩:=qP X G Jc (ps:=["place", "led_from", "figures", "found"]) fun _ _ _ _ _ _=>bn4 fun _ _ _ _=>rfl;obtain⟨iH,bK⟩:=qP X G zb (ps:=["one", "other", "paper"]) fun _ _ _ _ _ _=>Za fun _ _ _=>rfl;obtain⟨ju,bX⟩:=qP X G uS (ps:=["one", "other"]) fun _ _ _ _ _ _=>wN fun _ _=>rfl;obtain⟨kn,lQ⟩:=qP X G Ds (ps:=["chart", "standing"]) fun _ _ _ _ _ _=>wN fun _ _=>rfl;obtain⟨oh,qr⟩:=qP X G Jd (ps:=["chart", "standing"]) fun _ _ _ _ _ _=>wN fun _ _=>rfl;obtain⟨jv,iM⟩:=qP X G Bl (ps:=["both"]) fun _ _ _ _ _ _=>R3 fun _=>rfl;obtain⟨ko,ie⟩:=qP X G Dt (ps:=["both", "pair"]) fun _ _ _ _ _ _=>wN fun _ _=>rfl;obtain⟨gS,dX⟩:=qP X G yn (ps:=["both", "pair"]) fun _ _ _ _ _ _=>wN fun _ _=>rfl;obtain⟨kr,aM⟩:=qP X G Du (ps:=["deck", "many"]) fun _ _ _ _ _ _=>wN fun _ _=>rfl;obtain⟨kx,ig⟩:=qP X G Dv (ps:=["script"]) fun _ _ _ _ _ _=>R3 fun _=>rfl;obtain⟨gU,cB⟩:=qP X G yo (ps:=["one", "other"]) fun _ _ _ _ _ _=>wN fun _ _=>rfl;obtain⟨ky,eI⟩:=qP X G Dw (ps:=["sizes", "said"]) fun _ _ _ _ _ _=>wN fun _ _=>rfl;obtain⟨jw,dM⟩:=qP X G Bm (ps:=["deck"]) fun _ _ _ _ _ _=>R3 fun _=>rfl;obtain⟨jx,dN⟩:=qP X G Bn (ps:=["sizes", "said"]) fun _ _ _ _ _ _=>wN fun _ _=>rfl;obtain⟨eR,cN⟩:=qP X G sP (ps:=["deck", "sizes", "more"]) fun _ _ _ _ _ _=>Za fun _ _ _=>rfl;obtain⟨vH,GX⟩:=qP X G QX (ps:=["script"]) fun _ _ _ _ _ _=>R3 fun _=>rfl;have kA:=Au (st:=dC) Bp Bq Br;have By:=kA.binds (ps:=["self", "program"]) fun _ _ _ _ _ _=>wN fun _ _=>rfl;have kB:=Au (st:=dE) Bu Bv Bw;have Bz:=kB.binds (ps:=["self", "program"]) fun _ _ _ _ _ _=>wN fun _ _=>rfl;have fh:=Au (st:=bu) sR sS lB;have sU:=fh.binds (ps:=["self", "standing"]) fun _ _ _ _ _ _=>wN fun _ _=>rfl
 let t:Ad:=⟨mi,
  km,dS,eC,cH,cA,fH,fT,kG,kW,fU,gB,bj,bq,nX,mU,mV,nY,kX,lO,kY,lP,uJ,uK,mW,nZ,dU,eQ,iE,jr,iF,jt,fI,og,gQ,iH,dH,ju,jI,kn,mX,oh,iI,jv,jJ,ko,fV,gS,jK,kr,jL,kx,fW,gU,jM,ky,iJ,jw,iK,jx,dW,eR,fa,vH,dI,za9 "__init__" "Chart.__init__" (gR dC) (eE dC) (aG dC) .none rg rh rj rd mx rn,
  dJ,za9 "__init__" "Watch.__init__" (gR dE) (eE dE) (aG dE) .none rA rB rC rq my rD,
  bw,za9 "sight_from" "Watch.sight_from" (gR bu) (eE bu) (aG bu) .none j6 j7 j8 j5 gM j9,
  aH,aX,fX,i6,om,i7,i8,fY,oo,rY,ou,rZ,aC,kZ,i9,gY⟩
 have T:Tx K mg t:=⟨A4,
  fZ,eZ,jy,qp,jN,fE,kz,ja,k6,ox,uL,jb,fg,iL,gC,gD,bK,bX,lQ,qr,iM,ie,dX,aM,ig,cB,eI,dM,dN,cN,GX,kA,By,kB,Bz,fh,sU,⟨sQ,sT,lB⟩,⟨M0,M1,M3,M4⟩,zaR X G Px,
  ⟨xZ,Bo,Bs,M5⟩,gb,gg,gm,cF,fJ,⟨M6,M7,M8,M9⟩,zaR X G Py,
  ⟨mY,Bt,Bx,Na⟩,bW,cI,zaR X G Fq,
  zaR X G Je,
  zaR X G Pz,
  zaR X G Jf,
  zaR X G Jg,
  zaR X G Dx,
  zaR X G PB,
  zaR X G Tb,
  zaR X G PC,
  zaR X G Tc,
  ⟨vI⟩,x5,zaR X G Jh,
  zaR X G Nb,
  zaR X G Ji,
  zaR X G Fs,
  se,⟨Dy,Dz,DA,DB,DC,DD⟩,sj,j3,gZ,jc,g7,g8,gn,jd,jT,je,jU,hJ,iN,hV,gK,⟨_,zaR X G WX,_,rfl⟩,
  ⟨_,zaR X G yq,_,rfl⟩,
  ⟨_,zaR X G zc,_,rfl⟩,
  zaX X G wb,
  zaX X G iO,
  zaX X G GY,
  zaX X G sk,
  zaX X G yc,
  zaX X G wY,
  zaX X G MH,
  zaX X G bh,
  zaX X G lR,
  zaX X G GZ,
  zaX X G oy,
  zaX X G C9⟩
 obtain⟨_,_,_,_,_,_,_,_,_,z,_⟩:=GX.F.ex;exact⟨t.vH,fun s v=>by rw[show t.vH=_ from z];exact .of_eq rfl,fun base _ _ B=>S8 T B (LR LQ uS.1)⟩
theorem walk{l:PySem.W.OpenLaw}{K:Params->zaa}(hn:l.most=some 63)(UA:d.params.defaults=[])
 (hY:∀(w:zdH) (h:yaf),YP w h->(K w.params).In h) (LO:(PyProof.Rows.recsOf q).find? (fun e=>e.name==("told_apart":Str))=some dF) (LQ:∀w:zdH,zcF (K w.params) "told_apart"=some (c,Pt)) (Vo:∀w:zdH,(K w.params).lookup Pt=none)
 (F:∀(w:zdH) (mg:Str->Option zdG) (fa:zdF) (h:yaf),(K w.params).In h->h.Ns zdM mg->mg d.name=some (.ref fa)->
  ∃fd:zdO,(∀(s:zdP) (u:zdG),BindsTo s fd ⟨[u],[]⟩ [("script",u)])/\∀base:yaf,(K w.params).In base->base.Ns zdM mg->jm (K w.params) mg base c Pt->bt l.prog w (K w.params) mg base fR 30 fa fd ["script"] (AE (K w.params) Pt)) :
 PySem.W.WalkO q loose XP YP l.row.toRowW d [] (fun f vs=>PySem.call f vs):=
 L2.LP (n:=63) (k:=30) (x:="script") (CX:=fun _=>fR) (sp:=fun w=>AE (K w.params) Pt) hn (by decide) UA ⟨rfl,by decide,by decide⟩ hY LO LQ Vo F (fun _ _ a ns hl hS hP=>⟨a,ns,rfl,hS,hl,hP,fun _=>rfl⟩) fun _ _ _ _ _ z=>z
end
end SD
end
structure PySem.W.Fast:Prop where(tw6472602310821276462 tw1989944712797096380 tw17288634700825481897 tw17250917909660366992 tw2733305562639463489 tw977585197683652629 tw22744962685620129 tw15710658975419670147 tw4734283642509038930 tw6161350691247987636 tw3937375095154466211 tw13488437412298196119 tw13127856249597906454 tw6638279661056289052 tw14628653557220914143 tw13325154555345138810 tw6197208565907631166 tw5302067228286257027 tw11756826250751506773 tw13980496604446182393 tw17606190165854538763 tw4554967897359391114 tw18073177559439012665 tw10917973218643005881 tw8802687203390943911 tw13699782367013459392 tw6460088899763484857 tw10724493997610421812 tw4012079170407668850 tw3215486520820868093 tw12968404809491443198 tw4744745696333393585 tw5148974286707975996 tw4768124436851469730 tw17567733906330353948 tw17586001503213792156 tw721762272842121953 tw10825694574289459994 tw5698500461401510479 tw16568544349888021806 tw643854133863463835 tw2749508822444490481 tw9588848293125213594 tw12817207874613073006 tw1107100477241430552 tw11903129720337918776 tw4720269834217460048 tw6250935003231000508 tw15770828401475471996 tw1095670358846304639 tw7641942569034182716 tw15912573706508790237 tw1346438413803653461 tw6821727448536215086 tw16907762700681469111 tw14824647140162027709 tw9407087440846746164 tw12604042488537178346 tw7617163547661680961 tw16096324655607237594 tw16952882241566809502 tw6473349378157202747 tw12213241873094849319 tw13418399825064612693 tw15993292243024395036 tw17367575965096662180 tw16886165280946474896 tw15665776108521127444 tw2552949035319905581 tw14869931571362398695 tw14442752547647461023 tw6672477166826670185 tw7317947317028900787 tw3452237938312770781 tw14551883221069045309 tw17018250004965861122 tw10863307895101009999 tw16391905784704737720 tw15477771155311755576 tw16375880921928775563 tw14204788153993291853 tw17242859447788527894 tw3653080293424311665 tw15916180877556570526 tw10298681935414150107 tw4854161984197974618 tw7149263640092195997 tw18238266456590263234 tw10712119369019433575 tw11564560849104870632 tw7949668278828716127 tw1095433828954309020 tw4261515882920759580 tw17559554467052688236 tw6713762762595740822 tw10753135875210600633 tw938175746245099499 tw603857806691210167 tw11940081236808095049 tw10679308344503482288 tw10037948028550343431 tw11921562342199114723 tw11137208410994072178 tw1907518889269825054 tw9260319450531473105 tw1661655157631570748 tw16536937223277572321 tw11951540189774570812 tw14588123173499511672 tw10628760417736660544 tw11821805213931085793 tw17343866114289441722 tw2489668278005641323 tw17225872790105978937 tw11302499514024915537 tw15792505070096695236 tw7134355004490050381 tw14057246576385792562 tw13991857504383601244 tw4239344582073962824 tw2905026572446994384 tw7730798470120028782 tw18137509688472287532 tw13057972586161749959 tw15887513606945501130 tw422569144944963886 tw15637782861170035514 tw16622841997276310153 tw16217245043195562557 tw3732998376732804228 tw18054476241175167107 tw15911182660089318412 tw2833458822725992525 tw8642906560058464466 tw6174099302477253042 tw5482857015154358996 tw978189033578267313 tw4185382026440331239 tw9952940345428046807 tw17606545378301139702 tw10194924095593940925 tw5138671867959899557 tw15363974968259152079 tw8248062840062245613 tw17144325267687103715 tw17955078957664166225 tw167066228825057651 tw16986593185313045075 tw2068851627291199336 tw2311285039712410286 tw3578242675609041312 tw17101904973662516201 tw15608978080393931399 tw16690905455964441850 tw10406542318792018198 tw3777532043904412746 tw7489300339186650791 tw16697929956793582035 tw4891698597129937991 tw7337208295728334603 tw8476340728962091481 tw5054152706132787325 tw17476148961077419530 tw9797054336739466883 tw15201787144213262334 tw6601706275562778322 tw10356457468233156764 tw11683095640808309278 tw2597599312791037505 tw10139016212955102457 tw7082919417812603555 tw18103331322394116195 tw2367574457424592050 tw9354704662818576244 tw7184813905201012684 tw13025923794231188894 tw8674342707233997704 tw136470576740758554 tw15575076678064072583 tw2392435273791857105 tw14852536396984590724 tw14754495044274905747 tw9782832738116847697 tw3088455523392269465 tw8721364351355964921 tw9143009655320528664 tw6150388260415629093 tw819685525013131830 tw6995436311298534084 tw17242447967712233368 tw17774161227591186626 tw5723992402311288064 tw9146315546784137334 tw9494721937029116613 tw1362766381993416136 tw8589528632668304 tw10530337886058748709 tw9777503243414379550 tw14994010370940177981 tw18346612651038189128 tw3315362864326614069 tw16202288558579177434 tw15094018122901947762 tw10571693588404580769 tw10130605034580035959 tw13885020723583955028 tw11939323068089122273 tw3907007508462100061:True)
end
open PySem PySem.W PyProof.Rows
set_option maxRecDepth 100000 in
set_option maxHeartbeats 0 in
theorem PySem.Challenge.cw_everyrow_k61_many_pairs_holds : PySem.Challenge.rw_everyrow_k61_many_pairs.Holds := by
 w_on; o_law; k_head; (case hw=>w_witness2)
 k_fill
 refine' SD.walk (l:=PySem.Challenge.rw_everyrow_k61_many_pairs) (c:=328) (Pt:=324) rfl rfl (fun w h Y=>PySem.W.km_in_of Y) ?R ?T ?L ?F
 case R=>exact rfl
 case T=>exact fun w=>by kernel_rfl
 case L=>exact fun w=>by kernel_rfl
 case F=>
   intro w mg fa h KX G UB
   refine' SD.all_mk KX G UB ?_ ?_ ?_ ?_ ?_ ?_ ?_ ?_ ?_ ?_ ?_ ?_ ?_ ?_ ?_ ?_ ?_ ?_ ?_ ?_ ?_ ?_ ?_ ?_ ?_ ?_ ?_ ?_ ?_ ?_ ?_ ?_ ?_ ?_ ?_ ?_ ?_ ?_ ?_ ?_ ?_ ?_ ?_ ?_ ?_ ?_ ?_ ?_ ?_ ?_ ?_ ?_ ?_ ?_ ?_ ?_ ?_ ?_ ?_ ?_ ?_ ?_ ?_ ?_ ?_ ?_ ?_ ?_ ?_ ?_ ?_ ?_ ?_ ?_ ?_ ?_ ?_ ?_ ?_ ?_ ?_ ?_ ?_ ?_ ?_ ?_ ?_ ?_ ?_ ?_ ?_ ?_ ?_ ?_ ?_ ?_ ?_ ?_ ?_ ?_ ?_ ?_ ?_ ?_ ?_ ?_ ?_ ?_ ?_ ?_ ?_ ?_ ?_ ?_ ?_ ?_ ?_ ?_ ?_ ?_ ?_ ?tb
   rotate_left 81
   iterate 32 (refine' L2.FH.of ?a ?l ?c ?k; (case a=>k_is); (case l=>k_is); (case c=>k_is); (case k=>k_is))
   iterate 47 (k_is)
   iterate 1 (k_exc)
   iterate 1 (kts_exm)
   iterate 3 (k_is)
   iterate 1 (kts_exm)
   iterate 6 (k_is)
   iterate 15 (kit_is)
   iterate 15 (k_is)
   (case tb=>kernel_rfl)
