import PyProof.Rows.All
import Wide.All
import OpenK.AllK
import Wide.FinOn
import PyProof.EqAt
import PyProof.EqKinds
import PyProof.TupleCall
import KE.BitLaws
import Open.SpecLaws
import KE.OsHead
import KE.OsGo
import KE.SpHead
import KE.OsShapes
import RowsSpec
import KE.KTryMore
import Wide.Seal
import PySem.Challenge.RW0_leastmachines_s01_answers
import PyWrlins
import PySem.Challenge.RW_leastmachines_s01_answers
set_option Elab.async false
set_option linter.all false
set_option maxRecDepth 100000
open PySem renaming wpAny_bind->yaa,Shared->yah,wpAny_pure->yai,Spec->yas,Program->yav,sizeLine->yay,FuncData->ya2,mainGlobals->ya8,wpAny_callSpecial?_slot->ybl,wpAny_setField_rec->ybo,sizeLine_eq->ybr,mem_of_lookup->ybs,wpAny_call_entry->yb6,boot_len->yb9,starEach->ycb,wpAny_field->yci,wpAny_holding->yco,wpAny_mono->ydd,wpAny_pyIter_tuple->ydh,wpAny_Call_Name_kw->ydi,wpAny_seqItems->ydx,wpAny_isInstance->yd1,wpAny_attempt->yd4,bootBuiltins->yd5,wpAny_passesOwn->yev,wpAny_setState_of->yez,wpAny_setEntries_of->ye7,wpAny_specialOf->yfh,wpAny_updateSeq->yfl,wpAny_truthy_bool->yfp,wpAny_newObj_type->yfq,wpAny_pyIter_list->yge,wpAny_rule->ygj,isSubtype_stop->ygo,wpAny_newTuple->ygp,Paired->ygq,wpAny_execs_nil->yg6,wpAny_ite_split->yhd,wpAny_fieldsOf->yhv,wpAny_pyIter_slot->yh2,wpAny_standAt->yic,wpAny_letGo->yij,wpAny_pyHash_int->yip,wpAny_eqBool_int->yiq,wpAny_execs_cons->yir,wpAny_askSetting->yit,wpAny_isTrue_Compare1->yi2,wpAny_loadPart'->yi9,isSubtype_tuple_tuple->yjj,wpAny_updateSeq_pair->yju,isSubtype_type->yjx,wpAny_handleBy_cons->yj5,wpAny_mkInt->yj7,attributeBase->ykk,wpAny_onRaise->yks,wpAny_load->ykx,wpAny_call->ykz,Within->ylg,wpAny_typeOf->ylo,callType_new->ylq,wpAny_alloc->yl6,getD_mem->ymn
open List renaming length_map->yab,getElem?_eq_getElem->yad,range->yae,getElem?_eq_some_iff->yag,getElem?_map->yaj,getD_eq_getElem?_getD->yal,mem_cons_of_mem->yam,mem_cons->yap,mem_cons_self->yaq,mem_of_getElem?->yat,mem_range->yau,size_toArray->ya3,mem_singleton->ya4,length_range->ya5,mem_map->ya6,length_append->ya7,map_append->ya9,getElem?_eq_none->ybd,mem_filter->ybu,append_assoc->ybv,map_congr_left->ybw,length_cons->ybx,replicate->yby,getElem?_eq_none_iff->ybz,mem_append->yb1,map_map->yb7,map_cons->yb8,mem_append_right->yce,take_append_drop->ycf,contains_iff_mem->ycg,mem_append_left->ycu,getElem?_range->ycz,range_succ->yc0,ext_getElem?->yc3,not_mem_nil->yda,any_eq_true->ydb,forIn_cons->ydj,idxOf_lt_length_of_mem->ydk,getElem?_of_mem->ydo,take_length->ydq,length_drop->ydr,replicate_succ->yds,flatten_cons->ydt,take_add_one->ydu,flatten_append->ydv,nodup_cons->ydy,length_take->yd0,filter_cons->yd2,forIn_nil->yd8,all_eq_true->yem,lookup_cons->yen,length_singleton->yep,pairwise_cons->yeq,getElem?_append_left->yer,append_nil->yex,getElem?_take_of_lt->yey,filterMap_cons->ye5,length_eq_zero_iff->ye6,drop_drop->yfb,lookup->yfe,find?_cons->yfg,getElem?_toArray->yfj,length_filter_le->yfn,getElem?_set_self->yga,drop_eq_nil_of_le->ygb,pairwise_lt_range->ygc,map_nil->ygr,getElem_inj->ygt,getElem_mem->ygu,take_append_of_le_length->ygx,mem_flatMap->ygy,getElem?_set_ne->ygz,any_cons->yg0,sum_cons->yg3,idxOf_cons->yhb,length_eraseIdx_of_lt->yhj,filter_append->yhm,getElem?_drop->yho,nodup_nil->yhr,drop_eq_getElem_cons->yhs,idxOf_append->yhz,nodup_range->yis,take_of_length_le->yix,not_of_lt_findIdx->yiy,of_mem_zip->yi7,length_replicate->yi8,length_set->yja,foldl_cons->yjc,nil_append->yjd,singleton_append->yjl,mem_iff_getElem->yjt,length_pos_iff->yj3,drop_succ_cons->ykc,mem_filterMap->ykj,getElem_range->ykp,nodup_append->yk1,foldl_append->yk9,foldr_append->yla,filter_congr->ylb,any_map->ylk,flatten_nil->ylw,zipIdx_cons->ylz,length->yl5,zipIdx_nil->ymc,range_zero->ymd,foldr_cons->yme,take_take->ymq,foldr_nil->ymr,foldl->ymu
open PySem.W renaming Frag->yac,exmOne->yax,findIn->yb5,mg_none_of->ych,nsIn->ycn,mg_of->ycq,emptyDict->yde,keepIn->yd7,instObj->yed,fnOf->yeo,boot_heap->yft,plainGet->yfw,callWith_K->yf1,hasDictIn->ygf,length_le_weightAllW->yg1,hideAll->yg4,hideAll_get->yg5,plainGet_of->yg7,callWith_K0->yg8,lookIn->yhp,codeIn->yhq,methodObj->yhx,plainOver->yhy,excIn->yii,cellsFrom_some->yiw,isFn->yi3,takerIn->yi4,makesIn->yi5,methodCall_KW->yi6,pyHash_slot->yj6,of_hideAll->ykh,ktu_apart->yk8,handedIn->ylu,WRecords->ylv,exm_one->yma,SharedT->ymi,WalkOS->ymp
open Rows renaming Machine->yaf,reg->ybf,step->ybt,machineBy->yb0,spread->yb3,worth->ycd,turned->ycp,crossed->yd9,first->yec,counts->yej,equalStep->yet,found->yfa,joined->yfo,some_->yfz,bitsOf->ygm,hangs->ygn,swapped->yhn,MANY->yh4,none_->yh5,start->yh6,sets->yh8,isReg->yh9,count->yib,atMost->yin,SETS->yjm,all_->yjn,bitOf->yjq,equals->yj9,leaves->yka,enough->ykb,Answer->ykd,setsIf->yke,isVar->yle,fits->ymf,says->ymg,Call->ymh
open PySem.Heap renaming get?_push_of_some->yak,lt_size->yar,get?_push_size->yaw,size_push->ybe,SameBut->ycc,get?_update_self->ycm,get?_update_other->ycv,FlyingW->ylm,IsTuple->ylp
open Int renaming toNat_natCast->yan,natCast_nonneg->yca,ofNat_inj->yf5,natCast_pow->yf6,zero_add->ygs,fdiv_eq_ediv_of_nonneg->yhh,one_mul->yio,natCast_ediv->yiu,mul_zero->ylr,sub_zero->yls,mul_one->yl4
open Nat renaming le_refl->yao,lt_of_lt_of_le->yaz,ne_of_lt->yba,zero_le->ybj,le_trans->ybq,ne_of_gt->yb2,le_of_lt->ycx,le_add_right->yc9,lt_irrefl->ydw,lt_succ_self->ydz,lt_succ_of_lt->yeb,pow_succ->ye3,zero_add->yfi,mul_le_mul_right->yfv,mul_comm->yfy,testBit_eq_decide_div_mod_eq->yf9,div_div_eq_div_mul->ygd,le_of_succ_le->ygg,div_eq_of_lt->ygv,not_lt_zero->yha,le_of_eq->yhk,lt_of_le_of_lt->yhl,add_le_add->yht,le_succ->yid,pow_pos->yih,le_mul_of_pos_left->yiz,min_eq_left->yjf,mul_add_div->yjg,add_zero->yjh,le_of_ble_eq_true->yjp,mul_le_mul->yjy,add_le_add_left->yj4,mul_assoc->ykq,lt_trichotomy->yk2,pow_zero->ylt,mod_eq_of_lt->yly,add_mul->yl8,mul_pos->yl9,not_lt->ymw,mod_lt->ymx,not_le->ymz
open Array renaming length_toList->ya0,getElem?_eq_getElem->yct,getElem?_toList->yc1,getElem?_eq_none_iff->yek,forIn_toList->yfd,toList_push->ygi,mk->yjr,append_assoc->yki,toList->ylh,size_push->ymb
open Option.some renaming inj->ya1,injEq->ygh
open Bool renaming false_ne_true->ybb,false_eq_true->yb4,and_eq_true->ycj,noConfusion->yck,eq_iff_iff->yef,and_eq_true_iff->yfu,or_eq_true_iff->yfx,not_true->yf3,or_false->ykm,not_eq_true'->yk3,true_or->yll,not_eq_true->ylx,false_and->yml,and_false->ymm
open PySem.Builtin.SmallTypes renaming nextOf->ybc,ownedTupleIsFree->ybn,ownedTupleHandOut->yc8
open PyWrlins renaming whole->ybg,shape->yc2,answers->yiv,answers_asked->yi1,calls->yms
open PySem.Paired renaming length->ybh,snoc->yl7
open RowsNeutral renaming step->ybi,shown->ycl,asked1->ydl,whole->yfs,natural->yhf,callOf->ykt,nats->yl1
open Or renaming inl->ybk,inr->yc5
open PySem.Value renaming ref->ybm,type->ydc,none->ydn,isInt->ye4,int->yf0,bool->yhw,isInt_shape->ykw
open PySem.SetTable renaming below->ybp,grown->ye9,insertAt->yh0,has->yln
open PySem.Builtin renaming bitAnd->ycr,bitXor->yd6
open PySem.Obj renaming mapSeq->ycs,data_mapFields->ykr
open PySem.PyData renaming int->ycw,eqvAll->yfr,canLayAll0->yia,depthAll->yjo,canLay0->ymt,eqv->ym0
open PyProof.Rows renaming callWith_type1->ycy,boot_sum->yl3
open PySem.F renaming plainAttrs_list->yc4,slot_zip_next->yeh,slot_tuple_iterator_next->yel,slot_list_append->ye1,type_list_append->ye2,plain_extend_loop->ye8,slot_list_extend->yff,slot_enumerate_next->yfm,args_zip_next_1->ygk,entry_zip_next->ygw,args_tuple_iterator_next_1->yg2,entry_tuple_iterator_next->yhe,excBase_ValueError->yhi,type_list_extend->yh7,slot_list_index->yie,args_enumerate_next_1->yim,entry_enumerate_next->yi0,slot_tuple_eq->yji,slot_dict_len->yjk,args_list_extend_2->yjs,args_object_init_3->yjv,entry_list_extend->yj1,entry_extend_loop->yj8,plain_list_iadd->yk7,typeCall_zip_2->yl0
open PySem.Str renaming ofString->yc6
open False renaming elim->yc7
open PySem.Builtin.List renaming listTooLong->ydf,listExtendWith->yeg,listSameRef->ye0,listLengthHint->yfk
open PySem.PassesOwn renaming leaving->ydg,never->yei
open Prod.mk renaming inj->ydm,injEq->yif
open PySem.Around renaming under_plainId->ydp,under->yli
open PyFlat renaming rows->yd3,calls->yea,call->ygl,row->ylc
open Ne renaming symm->yee
open Classical renaming byContradiction->yeu,propDecidable->yf7
open True renaming intro->yew
open Option renaming map_eq_some_iff->yfc,map_some->yje,isSome_some->ykn
open PySem.NameKind renaming free->yf2,cell->yko
open PyProof.Rows.F renaming plain_set_update_loop->yf4,entry_set_update_loop->yik
open PySem.SeqAt renaming shaped->yf8,EqAt->yk0
open ForInStep renaming yield->yg9
open PySem.Heap.SameBut renaming update->yhc,refl->yk6
open PySem.Calls renaming Name_function_global->yhg,call_function_entry->yhu,spliced_cons->ykl,spliced_nil->yky
open PySem.SetTable.probe renaming go->yh1
open Rows.Machine renaming end_->yh3
open List.cons renaming inj->yig
open PySem.Shared renaming heap->yil
open PySem.SeqAt.EqAt renaming same->yjb,none_int->yjz,int_none->yj0,int_str->ykf,str_int->ykg
open List.Perm renaming refl->yjw
open Nat.le renaming dest->yj2
open Sum renaming inl->yku,inr->ykv
open PySem.SetTable.below renaming go->yk4
open List.Pairwise renaming nil->yk5
open PySem.W.Codec renaming app->ylf
open PySem.Code renaming isFrame->ylj
open PySem.Builtin.Frozenset renaming updateFrom->yl2,newClass->ymj,sizeOf->ymy
open RowsNeutral.callOf renaming match_1->ymk
open PySem.Value.type renaming inj->ymo
open PySem.SetTable.Met.empty renaming injEq->ymv
section
namespace L2
open PySem PySem.Spec PyProof.Rows
abbrev Key:=Sum Int Str
def keyIs:Key->Value->Bool
 | .inl k,v=>ye4 k v
 | .inr x,v=>Value.isStrOf x v
def keyH(w:World):Key->Int
 | .inl k=>hashInt k
 | .inr x=>hashStr w x
theorem zbw:∀{k:Key} {v:Value},keyIs k v=true->(∃ i t,k=yku i/\v=yf0 i t)\/(∃ x t,k=ykv x/\v=Value.str x t)
 | .inl i,v,h=>by
  obtain⟨t,e⟩:=ykw (k:=i) (v:=v) h
  exact .inl ⟨i,t,rfl,e⟩
 | .inr x,v,h=>by
  obtain⟨t,e⟩:=Value.isStrOf_shape (x:=x) (v:=v) h
  exact .inr ⟨x,t,rfl,e⟩
theorem zy6(a b:Int):decide ((yku a:Key)=yku b)=(a == b):=by
 by_cases e:a=b
 ·subst e;simp
 ·have h:¬ (yku a:Key)=yku b:=fun q=>e (Sum.inl.inj q)
  rw[decide_eq_false h]
  exact(beq_eq_false_iff_ne.mpr e).symm
theorem zy7(a b:Str):decide ((ykv a:Key)=ykv b)=decide (a=b):=by
 by_cases e:a=b
 ·subst e;simp
 ·have h:¬ (ykv a:Key)=ykv b:=fun q=>e (Sum.inr.inj q)
  rw[decide_eq_false h,decide_eq_false e]
theorem zy8(a:Int)(b:Str):decide ((yku a:Key)=ykv b)=false:=decide_eq_false (fun q=>nomatch q)
theorem zy9(a:Str)(b:Int):decide ((ykv a:Key)=yku b)=false:=decide_eq_false (fun q=>nomatch q)
def zls(prog:yav)(w:World):PySem.KeyKind prog w Key where
 is:=keyIs
 hash:=keyH w
 inj:=fun v a b ha hb=>by
  rcases zbw ha with⟨i,t,rfl,rfl⟩|⟨x,t,rfl,rfl⟩
  ·rcases zbw hb with⟨j,u,rfl,e⟩|⟨y,u,rfl,e⟩
   ·injection e with e1 _;rw[e1]
   ·exact nomatch e
  ·rcases zbw hb with⟨j,u,rfl,e⟩|⟨y,u,rfl,e⟩
   ·exact nomatch e
   ·injection e with e1 _;rw[e1]
 byValue:=fun k v h=>by
  rcases zbw h with⟨i,t,rfl,rfl⟩|⟨x,t,rfl,rfl⟩<;>rfl
 pyHash:=fun hv h=>by
  rcases zbw hv with⟨i,t,rfl,rfl⟩|⟨x,t,rfl,rfl⟩
  ·exact yip h
  ·exact wpAny_pyHash_str h
 eqBool:=fun hu hv h=>by
  rcases zbw hu with⟨i,t,rfl,rfl⟩|⟨x,t,rfl,rfl⟩
  ·rcases zbw hv with⟨j,u,rfl,rfl⟩|⟨y,u,rfl,rfl⟩
   ·rw[zy6]at h;exact yiq h
   ·rw[zy8]at h;exact ykf i t y u _ _ _ _ h
  ·rcases zbw hv with⟨j,u,rfl,rfl⟩|⟨y,u,rfl,rfl⟩
   ·rw[zy9]at h;exact ykg x t j u _ _ _ _ h
   ·rw[zy7]at h;exact wpAny_eqBool_str h
 «strs» := fun k x t v h=>by
  rcases zbw h with⟨i,u,rfl,e⟩|⟨y,u,rfl,e⟩
  ·exact nomatch e
  ·injection e with e1 _
   subst e1
   cases v<;>rfl
end L2
namespace L2
open PySem PySem.Spec PyProof.Rows
inductive V where
 | non | bl (b:Bool) | int (i:Int) | str (x:Str) | byt (b:Array UInt8) | flt (b:UInt64) | ref (a:Addr) | ty (n:String)
 deriving DecidableEq
def RelV:V->Value->Prop
 | .non,u=>u=ydn
 | .bl b,u=>u=yhw b
 | .int i,u=>∃ t,u=yf0 i t
 | .str x,u=>∃ t,u=Value.str x t
 | .byt b,u=>∃ t,u=Value.bytes b t
 | .flt b,u=>∃ t,u=Value.float b t
 | .ref a,u=>u=ybm a
 | .ty n,u=>u=ydc n
abbrev Vals:List V->List Value->Prop:=Paired RelV
theorem Vals.length{xs:List V}{us:List Value}(r:Vals xs us):xs.length=us.length:=ybh r
theorem Vals.get:∀{xs:List V} {us:List Value} {i:Nat} {x:V},Vals xs us->xs[i]?=some x->∃ u,us[i]?=some u/\RelV x u
 | _,_,_,_,.nil,e=>by simp at e
 | _,_,0,_,.cons r _,e=>by simp at e;subst e;exact⟨_,rfl,r⟩
 | _,_,i+1,x,.cons _ t,e=>by
  obtain⟨u,h1,h2⟩:=Vals.get (i:=i) (x:=x) t (by simpa using e)
  exact⟨u,by simpa using h1,h2⟩
theorem Vals.set{x:V}{u:Value}(r:RelV x u):∀{xs:List V} {us:List Value} (i:Nat),Vals xs us->Vals (xs.set i x) (us.set i u)
 | _,_,_,.nil=>.nil
 | _,_,0,.cons _ t=>.cons r t
 | _,_,i+1,.cons q t=>.cons q (Vals.set r i t)
theorem Vals.append:∀{xs ys:List V} {us ws:List Value},Vals xs us->Vals ys ws->Vals (xs++ys) (us++ws)
 | _,_,_,_,.nil,s=>s
 | _,_,_,_,.cons r t,s=>.cons r (Vals.append t s)
def RelO:Option V->Option Value->Prop
 | some v,some u=>RelV v u
 | none,none=>True
 | _,_=>False
def KV{κ:Type}:List (κ × V)->List (κ × Value)->Prop:=Paired fun (p:κ × V) (q:κ × Value)=>p.1=q.1/\RelV p.2 q.2
def kV:Key->V
 | .inl i=>.int i
 | .inr x=>.str x
inductive HO where
  | lst (xs:List V)
  | tup (xs:List V)
  | dK (kvs:List (Key × V)) | dT (kvs:List (List Key × V))
  | set (S:Int->Bool) (n:Nat)
  | ins (C dx:Addr) (fs:List (Str × V))
  | own (x:Addr)
  | xd (fs:List (Str × V))
  | met (f x:Addr)
  | rng (lo hi:Int)
  | frz (o:Obj) (u:HO)
  | tbl (ps:Array Value)
  | ext (φ:Heap->Prop)
abbrev Hp:=Addr->Option HO
def upd(H:Hp)(a:Addr)(o:HO):Hp:=fun b=>if b=a then some o else H b
theorem zd{H:Hp}{a:Addr}{o:HO}:upd H a o a=some o:=by unfold upd;rw[if_pos rfl]
theorem zh{H:Hp}{a b:Addr}{o:HO}(h:b≠a):upd H a o b=H b:=by unfold upd;rw[if_neg h]
theorem za9{H:Hp}{a b:Addr}{o u:HO}(h:H a=some o)(h':H b=some u)(d:o≠u):a≠b:=by
 intro e;subst e;rw[h]at h';exact d (ya1 h')
theorem zn{H:Hp}{a b:Addr}{o:HO}(h:H a=some o)(h':H b=none):a≠b:=by
 intro e;subst e;rw[h]at h';cases h'
section
variable (P:yav)(w:World)
def ObjOk(H:Hp)(h:Heap)(a:Addr):HO->Prop
 | .lst xs=>xs.length<=yay/\∃(its:List Value) (n:Nat),Vals xs its/\h.get? a=some { cls:=.type "list",data:=.seq its.toArray n }
 | .tup xs=>xs.length<=yay/\∃ its:List Value,Vals xs its/\IsTup h a its.toArray
 | .dK kvs=>kvs.length<=yay/\(a == sysModules)=false/\∃ vs,KV kvs vs/\h.DictOf (zls P w) a vs
 | .dT kvs=>kvs.length<=yay/\(a == sysModules)=false/\∃ xs:List (List Key × Addr × Value),
   Paired (fun (p:List Key × V) (q:List Key × Addr × Value)=>p.1=q.1/\H q.2.1=some (.tup (p.1.map kV))/\RelV p.2 q.2.2) kvs xs /\
   ∃ o es ep,h.get? a=some o/\o.ExactDict/\o.data = .dict es ep/\es.toList=xs.map (entryOfKey (tupleKind (zls P w)))/\(xs.map (·.1)).Nodup
 | .set S n=>h.SetOf (intKind P w) a S n
 | .ins C dx fs=>H dx=some (.own a)/\fs.length<=1000/\dx≠a/\h.get? a=some (yed C dx) /\
   ∃ mA,h.Ns1 dx mA/\(∀ f,RelO (fs.lookup f) (mA f))/\ylg mA (fs.map (·.1))
 | .own _=>∃ o,h.get? a=some o
 | .xd fs=>∃ mA,h.Ns1 a mA/\∀ f,RelO (fs.lookup f) (mA f)
 | .rng lo hi=>∃ t u v,h.get? a=some { cls:=.type "range",data:=.fields #[.int lo t,.int hi u,.int 1 v] }
 | .frz o u=>h.get? a=some o/\ObjOk H h a u
 | .tbl ps=>h.get? a=some { cls:=.none,data:=.fields ps }
 | .met f x=>h.get? a=some (yhx (.ref f) (.ref x))
 | .ext φ=>φ h/\(∃ o,h.get? a=some o)/\∀ h1 h2:Heap,φ h1->(∀ o,h1.get? a=some o->h2.get? a=some o)->φ h2
def HOk(H:Hp)(h:Heap):Prop:=∀ a o,H a=some o->ObjOk P w H h a o
end
section
variable {P:yav}{w:World}{H H':Hp}{h h':Heap}{a:Addr}{o:HO}
theorem ObjOk.lt(x:ObjOk P w H h a o):a<h.objs.size:=by
 cases o with
 | lst xs=>obtain⟨_,_,_,_,e⟩:=x;exact yar e
 | tup xs=>obtain⟨_,_,_,p⟩:=x;exact p.lt
 | dK kvs=>obtain⟨_,_,_,_,o,_,_,e,_⟩:=x;exact yar e
 | dT kvs=>obtain⟨_,_,_,_,o,_,_,e,_⟩:=x;exact yar e
 | set S n=>obtain⟨o,_,_,_,e,_⟩:=x;exact yar e
 | ins C dx fs=>obtain⟨_,_,_,e,_⟩:=x;exact yar e
 | own y=>obtain⟨_,e⟩:=x;exact yar e
 | xd fs=>obtain⟨_,⟨_,_,_,e,_⟩,_⟩:=x;exact yar e
 | rng lo hi=>obtain⟨_,_,_,e⟩:=x;exact yar e
 | frz ob u=>obtain⟨e,_⟩:=x;exact yar e
 | tbl ps=>exact yar (show h.get? a=some _ from x)
 | met f y=>exact yar (show h.get? a=some _ from x)
 | ext φ=>obtain⟨_,⟨_,e⟩,_⟩:=x;exact yar e
theorem ygq.mapP{α β:Type}{F G:α->β->Prop}:∀{l₁:List α} {l₂:List β},Paired F l₁ l₂->(∀ a b,F a b->G a b)->Paired G l₁ l₂
 | _,_,.nil,_=>.nil
 | _,_,.cons r t,f=>.cons (f _ _ r) (ygq.mapP t f)
theorem ObjOk.stay(x:ObjOk P w H h a o)(k:∀ b u,(b=a\/H b=some (.own a))->h.get? b=some u->h'.get? b=some u)(ho:∀ b,H b=some (.own a)->H' b=some (.own a))(ht:∀ b xs,H b=some (.tup xs)->H' b=some (.tup xs)):ObjOk P w H' h' a o:=by
 induction o with
 | lst xs=>obtain⟨z,its,n,r,e⟩:=x;exact⟨z,its,n,r,k _ _ (.inl rfl) e⟩
 | tup xs=>obtain⟨z,its,r,ob,e,c⟩:=x;exact⟨z,its,r,ob,k _ _ (.inl rfl) e,c⟩
 | dK kvs=>obtain⟨z,y,vs,r,ob,es,ep,e,c⟩:=x;exact⟨z,y,vs,r,ob,es,ep,k _ _ (.inl rfl) e,c⟩
 | dT kvs =>
  obtain⟨z,y,xs,r,ob,es,ep,e,c⟩:=x
  exact⟨z,y,xs,ygq.mapP r fun p q z=>⟨z.1,ht _ _ z.2.1,z.2.2⟩,ob,es,ep,k _ _ (.inl rfl) e,c⟩
 | set S n=>obtain⟨ob,es,ep,t,e,c⟩:=x;exact⟨ob,es,ep,t,k _ _ (.inl rfl) e,c⟩
 | ins C dx fs =>
  obtain⟨d,z,ne,e,mA,⟨od,es,ep,e2,c⟩,r⟩:=x
  exact⟨ho _ d,z,ne,k _ _ (.inl rfl) e,mA,⟨od,es,ep,k _ _ (.inr d) e2,c⟩,r⟩
 | own y=>obtain⟨ob,e⟩:=x;exact⟨ob,k _ _ (.inl rfl) e⟩
 | xd fs=>obtain⟨mA,⟨od,es,ep,e,c⟩,r⟩:=x;exact⟨mA,⟨od,es,ep,k _ _ (.inl rfl) e,c⟩,r⟩
 | rng lo hi=>obtain⟨t,u,v,e⟩:=x;exact⟨t,u,v,k _ _ (.inl rfl) e⟩
 | frz ob u ih=>obtain⟨e,q⟩:=x;exact⟨k _ _ (.inl rfl) e,ih q⟩
 | tbl ps =>
  have e:h.get? a=some { cls:=.none,data:=.fields ps }:=x
  show h'.get? a=some { cls:=.none,data:=.fields ps }
  exact k a _ (.inl rfl) e
 | met f y =>
  have e:h.get? a=some (yhx (.ref f) (.ref y)):=x
  show h'.get? a=some (yhx (.ref f) (.ref y))
  exact k a _ (.inl rfl) e
 | ext φ=>obtain⟨p,⟨o,e⟩,st⟩:=x;exact⟨st _ _ p fun o q=>k _ _ (.inl rfl) q,⟨o,k _ _ (.inl rfl) e⟩,st⟩
theorem HOk.lt(x:HOk P w H h)(e:H a=some o):a<h.objs.size:=(x a o e).lt
theorem HOk.fresh(x:HOk P w H h)(e:h.objs.size<=a):H a=none:=by
 cases q:H a with
 | none=>rfl
 | some u=>exact absurd (yaz (x.lt q) e) (ydw _)
theorem HOk.kept(x:HOk P w H h)(k:∀ b u,h.get? b=some u->h'.get? b=some u):HOk P w H h':=fun a o e =>
 (x a o e).stay (fun b u _ q=>k b u q) (fun _ q=>q) fun _ _ q=>q
theorem HOk.laid(x:HOk P w H h)(k:∀ b u,h.get? b=some u->h'.get? b=some u)(hp:h.objs.size<=a)(new:ObjOk P w (upd H a o) h' a o):HOk P w (upd H a o) h':=fun b u e=>by
 have hn:=x.fresh hp
 by_cases hb:b=a
 ·subst hb;rw[zd]at e;cases e;exact new
 ·rw[zh hb]at e
  exact(x b u e).stay (fun c v _ q=>k c v q) (fun c q=>by rw[zh (zn q hn)];exact q) fun c xs q=>by rw[zh (zn q hn)];exact q
end
def Rd(H:Hp)(a:Addr)(u:HO):Prop:=H a=some u\/∃ o,H a=some (.frz o u)
theorem Rd.ok{P:yav}{w:World}{H:Hp}{h:Heap}{a:Addr}{u:HO}(r:Rd H a u)(x:HOk P w H h):ObjOk P w H h a u:=by
 rcases r with r | ⟨o,r⟩
 ·exact x a u r
 ·obtain⟨_,q⟩:=x a _ r
  exact q
def Mut:Option HO->Prop
 | some (.lst _)=>True
 | some (.dK _)=>True
 | some (.dT _)=>True
 | some (.set _ _)=>True
 | some (.ins _ _ _)=>True
 | some (.ext _)=>True
 | _=>False
section
variable {P:yav}{w:World}{H:Hp}{h h':Heap}{x e:Addr}{o':HO}
theorem HOk.write(ok:HOk P w H h)(mu:Mut (H x))(he:e=x\/H e=some (.own x))(k:∀ b u,b≠e->h.get? b=some u->h'.get? b=some u)(heo:∃ u,h'.get? e=some u)(new:ObjOk P w (upd H x o') h' x o'):HOk P w (upd H x o') h':=fun b u q=>by
 have nown:∀ c y,H c=some (.own y)->c≠x:=fun c y r z=>by subst z;rw[r]at mu;exact mu
 have ntup:∀ c xs,H c=some (.tup xs)->c≠x:=fun c xs r z=>by subst z;rw[r]at mu;exact mu
 by_cases hb:b=x
 ·subst hb;rw[zd]at q;cases q;exact new
 ·rw[zh hb]at q
  by_cases hbe:b=e
  ·have q':H b=some (.own x):=by
    rcases he with z | z
    ·exact absurd (hbe.trans z) hb
    ·rw[hbe];exact z
   rw[q]at q';cases q'
   obtain⟨v,hv⟩:=heo
   exact⟨v,by rw[hbe];exact hv⟩
  ·refine(ok b u q).stay (fun c v hc r=>k c v ?_ r) (fun c r=>by rw[zh (nown c b r)];exact r) fun c xs r=>by rw[zh (ntup c xs r)];exact r
   rcases hc with rfl | hc
   ·exact hbe
   ·rintro rfl
    rcases he with z | z
    ·exact nown c b hc z
    ·rw[hc]at z;cases z;exact hb rfl
end
structure Un(fs ex:List Addr)(H H':Hp)(h h':Heap):Prop where
 keep:∀ b o,h.get? b=some o->H b=none->b ∉ fs->b ∉ ex->h'.get? b=some o
 slot:∀ b o,h.get? b=some o->H b=none->b∈fs->b ∉ ex->∃ sl,h'.get? b=some { o with slots:=sl }
 free:∀ b o,h.get? b=some o->H b=none->b ∉ ex->H' b=none
 there:∀ b o,h.get? b=some o->b ∉ ex->∃ o',h'.get? b=some o'
 tups:∀ b xs,H b=some (.tup xs)->H' b=some (.tup xs)
 frzs:∀ b o u,H b=some (.frz o u)->H' b=some (.frz o u)
 tbls:∀ b ps,H b=some (.tbl ps)->∃ more,H' b=some (.tbl (ps++more))
section
variable {fs fs' ex ex':List Addr}{H H1 H2:Hp}{h h1 h2 h':Heap}{a x e:Addr}{o:HO}
theorem Un.any(u:Un fs ex H H1 h h1){b:Addr}{ob:Obj}(q:h.get? b=some ob)(n:H b=none)(hx:b ∉ ex):∃ sl,h1.get? b=some { ob with slots:=sl }:=by
 by_cases hb:b∈fs
 ·exact u.slot b ob q n hb hx
 ·exact⟨ob.slots,u.keep b ob q n hb hx⟩
theorem Un.kept(k:∀ b u,h.get? b=some u->h'.get? b=some u):Un fs ex H H h h' :=
 ⟨fun b ob q _ _ _=>k b ob q,fun b ob q _ _ _=>⟨ob.slots,k b ob q⟩,fun _ _ _ n _=>n,fun b ob q _=>⟨ob,k b ob q⟩,fun _ _ q=>q,fun _ _ _ q=>q,fun _ ps q=>⟨#[],by rw[q];simp⟩⟩
theorem Un.refl:Un fs ex H H h h:=Un.kept fun _ _ q=>q
theorem Un.laid(k:∀ b u,h.get? b=some u->h'.get? b=some u)(hp:h.objs.size<=a)(hn:H a=none):Un fs ex H (upd H a o) h h' where
 keep:=fun b u q _ _ _=>k b u q
 slot:=fun b u q _ _ _=>⟨u.slots,k b u q⟩
 free:=fun b u q n _=>by rw[zh (yba (yaz (yar q) hp))];exact n
 there:=fun b u q _=>⟨u,k b u q⟩
 tups:=fun b xs q=>by rw[zh (zn q hn)];exact q
 frzs:=fun b u xs q=>by rw[zh (zn q hn)];exact q
 tbls:=fun b ps q=>⟨#[],by rw[zh (zn q hn),q];simp⟩
theorem Un.write(mu:Mut (H x))(he:e=x\/H e=some (.own x))(k:∀ b u,b≠e->h.get? b=some u->h'.get? b=some u)(heo:∃ u,h'.get? e=some u):Un fs ex H (upd H x o) h h':=by
 have hx:∀ b,H b=none->b≠x:=fun b n z=>by subst z;rw[n]at mu;exact mu
 have hb:∀ b,H b=none->b≠e:=fun b n z=>by
  subst z
  rcases he with r | r
  ·exact hx b n r
  ·rw[n]at r;cases r
 have hm:∀ b u,H b=some u->¬ Mut (some u)->b≠x:=fun b u q nm z=>by subst z;rw[q]at mu;exact nm mu
 refine⟨fun b u q n _ _=>k b u (hb b n) q,fun b u q n _ _=>⟨u.slots,k b u (hb b n) q⟩,fun b u q n _=>by rw[zh (hx b n)];exact n,fun b u q _=>?_,
  fun b xs q=>by rw[zh (hm b _ q fun z=>z)];exact q,fun b u xs q=>by rw[zh (hm b _ q fun z=>z)];exact q,fun b ps q=>⟨#[],by rw[zh (hm b _ q fun z=>z),q];simp⟩⟩
 by_cases hbe:b=e
 ·subst hbe;exact heo
 ·exact⟨u,k b u hbe q⟩
end
def trk(h:Heap)(H:Hp):List Addr:=(yae h.objs.size).filter fun a=>(H a).isSome
def hidT(h:Heap)(H:Hp):Heap:=yg4 h (trk h H)
theorem zsc(h:Heap)(H:Hp):(hidT h H).objs.size=h.objs.size:=PySem.W.hideAll_size _ _
theorem zup{h:Heap}{H:Hp}{b:Addr}{o:Obj}(e:h.get? b=some o)(n:H b=none):(hidT h H).get? b=some o :=
 yg5 _ e fun hm=>by
  have q:(H b).isSome=true:=(ybu.mp hm).2
  rw[n]at q;simp at q
theorem zwy{h:Heap}{H:Hp}{b:Addr}{o:Obj}(e:(hidT h H).get? b=some o):h.get? b=some o/\H b=none:=by
 have e':h.get? b=some o:=ykh (trk h H) e
 refine⟨e',?_⟩
 cases q:H b with
 | none=>rfl
 | some x =>
  have hm:b∈trk h H:=ybu.mpr ⟨yau.mpr (yar e'),by simp[q]⟩
  have z:(hidT h H).get? b=none:=PySem.W.hideAll_none (trk h H) hm
  rw[z]at e;cases e
end L2
namespace L2
open PySem PySem.Spec PyProof.Rows
structure Mod(K:yac)(mg:Str->Option Value)(base:Heap):Prop where
 kin:K.In base
 glob:base.Ns ya8 mg
 blt:∃ mb,base.Ns builtinsNs mb/\∀ x:Str,x ≠ "__name__" -> mb x=yd5 x
 nolimit:base.NoLimit
structure Cx where
 prog:yav
 w:World
 K:yac
 mg:Str->Option Value
 base:Heap
 A:Around
 N:List Str
 s_0:yah
 H_0:Hp
 env:Env
 outer:List Env
 stack:List Env
 ex:List Addr
 fn:Str->Bool
 calm:Bool
 pn:List (Addr × Obj)
 xe:Value->yah->Prop
def frs(l:List Env):List Addr:=l.filterMap (·.frame)
abbrev Cx.fs(X:Cx):List Addr:=frs X.outer
def Vis(sc:Scope)(x:Str):Prop:=sc.names.lookup x=some .local\/sc.names.lookup x=some .cell\/sc.names.lookup x=some .free
def Loc(sc:Scope)(x:Str):Prop:=sc.names.lookup x=some .local\/sc.names.lookup x=some .cell
def Look(env:Env)(h:Heap)(m:Str->Option Value)(x:Str)(u:Value):Prop :=
 (env.kindOf x=some .local/\m x=some u)\/((env.kindOf x=some .cell\/env.kindOf x=some .free)/\∃ c,env.cells.lookup x=some c/\h.IsCell c (some u))
structure Cx.Ok(X:Cx):Prop where
 mod:Mod X.K X.mg X.base
 kind:X.env.scope.kind = .function
 glob:X.env.globals=ya8
 blt:X.env.builtins=builtinsNs
 above:X.s_0.heap.objs.size<=X.env.locals
 inj:∀ x y c,X.env.cells.lookup x=some c->X.env.cells.lookup y=some c->x=y
 has:∀ x,(X.env.kindOf x=some .cell\/X.env.kindOf x=some .free)->∃ c,X.env.cells.lookup x=some c
 cab:∀ x c,X.fn x=true->X.env.cells.lookup x=some c->X.s_0.heap.objs.size<=c
 hd:X.calm=true->X.A.handled=none
 frames:X.A.frames=some X.stack
 stk:X.stack=X.outer\/(X.stack=X.env::X.outer/\X.env.frame=some X.env.locals)
 exf:∀ b∈X.ex,b≠X.env.locals/\∀ x c,X.env.cells.lookup x=some c->c≠b
 bs:∀ b o,X.base.get? b=some o->X.s_0.heap.get? b=some o/\X.H_0 b=none
 bsz:X.base.objs.size<=X.s_0.heap.objs.size
 noex:∀ b o,X.base.get? b=some o->b ∉ X.ex
 exfs:∀ b∈X.ex,b ∉ X.fs
 funs:X.s_0.heap.FunFrames X.base X.outer
 frf:∀ b∈X.fs,X.H_0 b=none
structure Inv(X:Cx)(pins:List (Addr × Obj))(σ:List (Option V))(H:Hp)(s:yah):Prop where
 ok:X.Ok
 os:s.os=X.s_0.os
 bare:AllBare s.gens
 base:Un X.fs X.ex X.H_0 H X.s_0.heap s.heap
 loc:∃ m,s.heap.Ns X.env.locals m/\∀(i:Nat) (x:Str) (v:V),X.N[i]?=some x->σ[i]?=some (some v)->Vis X.env.scope x->∃ u,RelV v u/\Look X.env s.heap m x u
 cell:∀ x c,X.env.cells.lookup x=some c->∃ v,s.heap.IsCell c v
 free:H X.env.locals=none
 freeC:∀ x c,X.env.cells.lookup x=some c->H c=none
 pin:∀ p∈X.pn++pins,s.heap.get? p.1=some p.2/\H p.1=none/\p.1≠X.env.locals/\p.1 ∉ X.fs/\∀ v,p.2.data≠.cell v
 hok:HOk X.prog X.w H s.heap
 len:σ.length=X.N.length
section
variable {X:Cx}{pins:List (Addr × Obj)}{σ:List (Option V)}{H H':Hp}{s:yah}{h':Heap}
theorem Cx.Ok.nofr(ok:X.Ok){b:Addr}{o:Obj}(e:X.base.get? b=some o):b ∉ X.fs:=fun hb=>by
 have:=(ok.funs.mem hb).1
 rw[e]at this;cases this
theorem Inv.bs(I:Inv X pins σ H s):∀ b o,X.base.get? b=some o->s.heap.get? b=some o/\H b=none:=fun b o e =>
 ⟨I.base.keep b o (I.ok.bs b o e).1 (I.ok.bs b o e).2 (I.ok.nofr e) (I.ok.noex b o e),I.base.free b o (I.ok.bs b o e).1 (I.ok.bs b o e).2 (I.ok.noex b o e)⟩
theorem Inv.bk(I:Inv X pins σ H s):∀ b o,X.base.get? b=some o->s.heap.get? b=some o:=fun b o e=>(I.bs b o e).1
theorem Inv.mod(I:Inv X pins σ H s):Mod X.K X.mg X.base:=I.ok.mod
theorem Inv.kIn(I:Inv X pins σ H s):X.K.In s.heap:=I.ok.mod.kin.keeps I.bk
theorem Inv.lt(I:Inv X pins σ H s):X.env.locals<s.heap.objs.size:=let ⟨_,hn,_⟩:=I.loc;hn.lt
theorem Inv.sz(I:Inv X pins σ H s):X.s_0.heap.objs.size<=s.heap.objs.size:=ybq I.ok.above (ycx I.lt)
theorem Inv.nofs(I:Inv X pins σ H s){a:Addr}(h:s.heap.objs.size<=a):a ∉ X.fs:=fun hb=>by
 obtain⟨_,o,ho,_⟩:=I.ok.funs.mem hb
 exact absurd (yaz (yar ho) (ybq I.sz h)) (ydw _)
theorem Inv.cne(I:Inv X pins σ H s):∀ x c,X.env.cells.lookup x=some c->c≠X.env.locals:=fun x c e z=>by
 obtain⟨v,o,ho,hd⟩:=I.cell x c e
 obtain⟨m,⟨o',es,ep,ho',hd',_⟩,_⟩:=I.loc
 rw[z,ho']at ho;cases ho;rw[hd']at hd;cases hd
theorem Inv.funs(I:Inv X pins σ H s):s.heap.FunFrames X.base X.outer:=by
 have all:∀(l:List Env),(∀ b∈frs l,b∈X.fs)->X.s_0.heap.FunFrames X.base l->s.heap.FunFrames X.base l:=by
  intro l
  induction l with
  | nil=>intro _ _;trivial
  | cons env r ih =>
   intro hs hl
   obtain⟨hk,⟨L,o,hf,hn,ho,hd⟩,hr⟩:=hl
   have hL:L∈X.fs:=hs L (by unfold frs;rw[ye5,hf];exact yaq)
   obtain⟨sl,e⟩:=I.base.slot L o ho (I.ok.frf L hL) hL fun z=>I.ok.exfs L z hL
   exact⟨hk,⟨L,_,hf,hn,e,hd⟩,ih (fun b hb=>hs b (by unfold frs;rw[ye5,hf];exact yam _ hb)) hr⟩
 exact all X.outer (fun _ hb=>hb) I.ok.funs
theorem Inv.stack(I:Inv X pins σ H s):s.heap.FunFrames X.base X.stack:=by
 rcases I.ok.stk with e | ⟨e,hf⟩
 ·rw[e];exact I.funs
 ·rw[e]
  obtain⟨m,hn,_⟩:=I.loc
  refine .cons (by rw[I.ok.kind];decide) hf hn ?_ I.funs
  exact Heap.get?_none_of_le (ybq I.ok.bsz I.ok.above)
theorem Inv.stkSub(I:Inv X pins σ H s):∀ b∈frs X.stack,b∈X.env.locals::X.fs:=fun b hb=>by
 rcases I.ok.stk with e | ⟨e,hf⟩
 ·rw[e]at hb;exact yam _ hb
 ·rw[e]at hb
  unfold frs at hb
  rw[ye5,hf]at hb
  exact hb
theorem Inv.stkFree(I:Inv X pins σ H s):∀ b∈frs X.stack,H b=none:=fun b hb=>by
 rcases yap.mp (I.stkSub b hb) with e | hb
 ·rw[e];exact I.free
 ·obtain⟨_,o,ho,_⟩:=I.ok.funs.mem hb
  exact I.base.free b o ho (I.ok.frf b hb) fun z=>I.ok.exfs b z hb
theorem Inv.step{g':Array GenState}{t':Nat}{d':Drawn}{ch:List Addr}(I:Inv X pins σ H s)(hch:∀ b∈ch,(b∈X.ex\/X.s_0.heap.objs.size<=b)/\b≠X.env.locals/\(∀ x c,X.env.cells.lookup x=some c->c≠b)/\∀ p∈X.pn++pins,p.1≠b)(keep:∀ b o,b≠X.env.locals->b ∉ X.fs->b ∉ ch->s.heap.get? b=some o->H b=none->h'.get? b=some o)(slot:∀ b o,b≠X.env.locals->b∈X.fs->b ∉ ch->s.heap.get? b=some o->H b=none->∃ sl,h'.get? b=some { o with slots:=sl })(free:∀ b o,b ∉ ch->s.heap.get? b=some o->H b=none->H' b=none)(there:∀ b o,b ∉ ch->s.heap.get? b=some o->∃ o',h'.get? b=some o')(tups:∀ b xs,H b=some (.tup xs)->H' b=some (.tup xs))(frzs:∀ b o u,H b=some (.frz o u)->H' b=some (.frz o u))(tbls:∀ b ps,H b=some (.tbl ps)->∃ more,H' b=some (.tbl (ps++more)))(ns:∀ m,s.heap.Ns X.env.locals m->h'.Ns X.env.locals m)(hok:HOk X.prog X.w H' h')(hg:AllBare g') :
  Inv X pins σ H' { s with heap:=h',gens:=g',drawn:=d',toks:=t' }:=by
 have neL:∀ b o,X.s_0.heap.get? b=some o->b≠X.env.locals:=fun b o e=>yba (yaz (yar e) I.ok.above)
 have neC:∀ b o,X.s_0.heap.get? b=some o->b ∉ X.ex->b ∉ ch:=fun b o e hx hb=>by
  rcases (hch b hb).1 with z | z
  ·exact hx z
  ·exact absurd (yaz (yar e) z) (ydw _)
 have cellK:∀ x c,X.env.cells.lookup x=some c->∀ v,s.heap.IsCell c v->h'.IsCell c v:=fun x c e v ⟨o,ho,hd⟩=>by
  have nch:c ∉ ch:=fun z=>(hch c z).2.2.1 x c e rfl
  by_cases hc:c∈X.fs
  ·obtain⟨sl,q⟩:=slot c o (I.cne x c e) hc nch ho (I.freeC x c e)
   exact⟨_,q,hd⟩
  ·exact⟨o,keep c o (I.cne x c e) hc nch ho (I.freeC x c e),hd⟩
 refine⟨I.ok,I.os,hg,⟨fun b o e n hb hx=>?_,fun b o e n hb hx=>?_,fun b o e n hx=>?_,fun b o e hx=>?_,fun b xs e=>tups b xs (I.base.tups b xs e),fun b o xs e=>frzs b o xs (I.base.frzs b o xs e),fun b ps e=>?_⟩,?_,fun x c e=>?_,?_,fun x c e=>?_,fun p hp=>?_,hok,I.len⟩
 ·exact keep b o (neL b o e) hb (neC b o e hx) (I.base.keep b o e n hb hx) (I.base.free b o e n hx)
 ·obtain⟨sl,e1⟩:=I.base.slot b o e n hb hx
  obtain⟨sl',e2⟩:=slot b _ (neL b o e) hb (neC b o e hx) e1 (I.base.free b o e n hx)
  exact⟨sl',e2⟩
 ·obtain⟨o',e1⟩:=I.base.there b o e hx
  exact free b o' (neC b o e hx) e1 (I.base.free b o e n hx)
 ·obtain⟨o',e1⟩:=I.base.there b o e hx
  exact there b o' (neC b o e hx) e1
 ·obtain⟨m1,e1⟩:=I.base.tbls b ps e
  obtain⟨m2,e2⟩:=tbls b _ e1
  exact⟨m1++m2,by rw[e2,yki]⟩
 ·obtain⟨m,hn,hl⟩:=I.loc
  refine⟨m,ns m hn,fun i x v e1 e2 e3=>?_⟩
  obtain⟨u,r,l⟩:=hl i x v e1 e2 e3
  refine⟨u,r,?_⟩
  rcases l with l | ⟨k,c,e,z⟩
  ·exact .inl l
  ·exact .inr ⟨k,c,e,cellK x c e _ z⟩
 ·obtain⟨v,z⟩:=I.cell x c e
  exact⟨v,cellK x c e v z⟩
 ·obtain⟨m,⟨o,_,_,ho,_⟩,_⟩:=I.loc
  exact free _ o (fun z=>(hch _ z).2.1 rfl) ho I.free
 ·obtain⟨v,o,ho,hd⟩:=I.cell x c e
  exact free c o (fun z=>(hch c z).2.2.1 x c e rfl) ho (I.freeC x c e)
 ·obtain⟨e,n,ne,nf,d⟩:=I.pin p hp
  have nch:p.1 ∉ ch:=fun z=>(hch p.1 z).2.2.2 p hp rfl
  exact⟨keep p.1 p.2 ne nf nch e n,free p.1 p.2 nch e n,ne,nf,d⟩
theorem Inv.un{t':Nat}(I:Inv X pins σ H s)(u:Un X.fs [] H H' s.heap h')(hok:HOk X.prog X.w H' h'):Inv X pins σ H' { s with heap:=h',toks:=t' }:=by
 obtain⟨m,⟨o,es,ep,ho,r⟩,_⟩:=id I.loc
 obtain⟨sl,hL⟩:=u.any ho I.free (by simp)
 exact I.step (g':=s.gens) (d':=s.drawn) (ch:=[]) (fun _ z=>nomatch z) (fun b o _ hb _ e n=>u.keep b o e n hb (by simp)) (fun b o _ hb _ e n=>u.slot b o e n hb (by simp)) (fun b o _ e n=>u.free b o e n (by simp)) (fun b o _ e=>u.there b o e (by simp)) u.tups u.frzs u.tbls (fun m' hm=>by
  obtain⟨o',es',ep',ho',r'⟩:=hm
  rw[ho]at ho';cases ho'
  exact⟨_,es',ep',hL,r'⟩) hok I.bare
theorem Inv.call{g':Array GenState}{t':Nat}{d':Drawn}{ch:List Addr}(I:Inv X pins σ H s)(u:Un (frs X.stack) ch H H' s.heap h')(hok:HOk X.prog X.w H' h')(hg:AllBare g')(hch:∀ b∈ch,(b∈X.ex\/X.s_0.heap.objs.size<=b)/\b≠X.env.locals/\(∀ x c,X.env.cells.lookup x=some c->c≠b)/\∀ p∈X.pn++pins,p.1≠b) :
  Inv X pins σ H' { s with heap:=h',gens:=g',drawn:=d',toks:=t' }:=by
 obtain⟨m,⟨o,es,ep,ho,r⟩,_⟩:=id I.loc
 obtain⟨sl,hL⟩:=u.any ho I.free fun z=>(hch _ z).2.1 rfl
 exact I.step (ch:=ch) hch (fun b o hL hb hc e n=>u.keep b o e n (fun z=>(yap.mp (I.stkSub b z)).elim hL hb) hc) (fun b o _ _ hc e n=>u.any e n hc) (fun b o hc e n=>u.free b o e n hc) (fun b o hc e=>u.there b o e hc) u.tups u.frzs u.tbls (fun m' hm=>by
  obtain⟨o',es',ep',ho',r'⟩:=hm
  rw[ho]at ho';cases ho'
  exact⟨_,es',ep',hL,r'⟩) hok hg
theorem Inv.turned{t':Nat}{it:Addr}(I:Inv X pins σ H s)(k:∀ b o,b≠it->s.heap.get? b=some o->h'.get? b=some o)(hn:H it=none)(hL:it≠X.env.locals)(h1:it∈X.ex\/X.s_0.heap.objs.size<=it)(h2:∀ x c,X.env.cells.lookup x=some c->c≠it)(h3:∀ p∈X.pn++pins,p.1≠it):Inv X pins σ H { s with heap:=h',toks:=t' }:=by
 have nit:∀ b u,H b=some u->b≠it:=fun b u e z=>by rw[z,hn]at e;cases e
 refine I.step (g':=s.gens) (d':=s.drawn) (ch:=[it]) (fun b hb=>?_) (fun b o _ _ hc e _=>k b o (fun z=>hc (by simp[z])) e) (fun b o _ _ hc e _=>⟨o.slots,k b o (fun z=>hc (by simp[z])) e⟩) (fun _ _ _ _ n=>n)
  (fun b o hc e=>⟨o,k b o (fun z=>hc (by simp[z])) e⟩) (fun _ _ e=>e) (fun _ _ _ e=>e) (fun b ps e=>⟨#[],by rw[e];simp⟩) (fun m hm=>?_) (fun b u e=>?_) I.bare
 ·have e:b=it:=by simpa using hb
  subst e
  exact⟨h1,hL,h2,h3⟩
 ·obtain⟨o,es,ep,ho,r⟩:=hm
  exact⟨o,es,ep,k _ o (yee hL) ho,r⟩
 ·refine(I.hok b u e).stay (fun c v hc q=>k c v ?_ q) (fun _ q=>q) fun _ _ q=>q
  rcases hc with z | z
  ·rw[z];exact nit b u e
  ·exact nit c _ z
theorem Inv.tok(I:Inv X pins σ H s)(t:Nat):Inv X pins σ H { s with toks:=t }:=I.un (h':=s.heap) (t':=t) Un.refl I.hok
theorem Inv.kept{t':Nat}(I:Inv X pins σ H s)(k:∀ b u,s.heap.get? b=some u->h'.get? b=some u):Inv X pins σ H { s with heap:=h',toks:=t' }:=I.un (Un.kept k) (I.hok.kept k)
theorem Inv.laid{a:Addr}{o:HO}{t':Nat}(I:Inv X pins σ H s)(k:∀ b u,s.heap.get? b=some u->h'.get? b=some u)(hp:s.heap.objs.size<=a)(new:ObjOk X.prog X.w (upd H a o) h' a o) :
  Inv X pins σ (upd H a o) { s with heap:=h',toks:=t' }:=I.un (Un.laid k hp (I.hok.fresh hp)) (I.hok.laid k hp new)
theorem Inv.write{x e:Addr}{o:HO}{t':Nat}(I:Inv X pins σ H s)(mu:Mut (H x))(he:e=x\/H e=some (.own x))(k:∀ b u,b≠e->s.heap.get? b=some u->h'.get? b=some u)(heo:∃ u,h'.get? e=some u)(new:ObjOk X.prog X.w (upd H x o) h' x o):Inv X pins σ (upd H x o) { s with heap:=h',toks:=t' }:=I.un (Un.write mu he k heo) (I.hok.write mu he k heo new)
theorem Inv.weak{σ':List (Option V)}(I:Inv X pins σ H s)(hl:σ'.length = σ.length)(w:∀(i:Nat) v,σ'[i]?=some (some v)->σ[i]?=some (some v)):Inv X pins σ' H s :=
 ⟨I.ok,I.os,I.bare,I.base,let ⟨m,hn,hl'⟩:=I.loc;⟨m,hn,fun i x v e1 e2 e3=>hl' i x v e1 (w i v e2) e3⟩,I.cell,I.free,I.freeC,I.pin,I.hok,hl.trans I.len⟩
theorem Inv.pins_of{pins':List (Addr × Obj)}(I:Inv X pins σ H s)(h:∀ p∈pins',s.heap.get? p.1=some p.2/\H p.1=none/\p.1≠X.env.locals/\p.1 ∉ X.fs/\∀ v,p.2.data≠.cell v):Inv X pins' σ H s :=
 ⟨I.ok,I.os,I.bare,I.base,I.loc,I.cell,I.free,I.freeC,fun p hp=>(yb1.mp hp).elim (fun z=>I.pin p (ycu _ z)) (h p),I.hok,I.len⟩
theorem zjv{N:List Str}(hN:N.Nodup){i j:Nat}{x:Str}(a:N[i]?=some x)(b:N[j]?=some x):i=j:=by
 obtain⟨h1,e1⟩:=yag.mp a
 obtain⟨h2,e2⟩:=yag.mp b
 exact(ygt hN).mp (e1.trans e2.symm)
theorem zmf{M:Model}{A:Around}{E:Value->yah->Prop}{i:Nat}{x:Str}{v:V}{u:Value}{Q:Unit->yah->Prop}(I:Inv X pins σ H s)(hN:X.N.Nodup)(hi:X.N[i]?=some x)(hx:Loc X.env.scope x)(r:RelV v u)(h:∀ s',Inv X pins (σ.set i (some v)) H s'->(∃ a,ycc a s.heap s'.heap/\(a=X.env.locals\/X.env.cells.lookup x=some a))->Q () s')(hf:X.fn x=true\/X.env.scope.names.lookup x=some .local:=by first | exact .inl rfl | exact .inr rfl | assumption):wpAny M A (storeName X.env x u) Q E s:=by
 obtain⟨m,hn,hl⟩:=id I.loc
 have hcls:(X.env.scope.kind == .class || (X.env.scope.kind == .module && X.env.locals != X.env.globals))=false:=by rw[I.ok.kind];rfl
 have hiσ:i<σ.length:=by rw[I.len];exact(yag.mp hi).1
 have cne:=I.cne
 have tracked:∀{a:Addr} {h':Heap},(∃ o,s.heap.get? a=some o/\H a=none)->ycc a s.heap h'->HOk X.prog X.w H h':=fun {a h'} ha hs b ob e=>by
  obtain⟨_,_,hfree⟩:=ha
  refine(I.hok b ob e).stay (fun c w' hc q=>(hs.2 c ?_).trans q) (fun _ q=>q) fun _ _ q=>q
  rintro rfl
  rcases hc with rfl | hc
  ·rw[hfree]at e;cases e
  ·rw[hfree]at hc;cases hc
 rcases hx with hk | hk
 ·refine wpAny_storeName_local hk hn (fun h' hn' hs=>?_) hcls
  obtain⟨oL,_,_,hoL,_⟩:=id hn
  refine h _ ⟨I.ok,I.os,I.bare,⟨fun b o e n hb hx=>?_,fun b o e n hb hx=>?_,I.base.free,fun b o e hx=>?_,I.base.tups,I.base.frzs,I.base.tbls⟩,⟨_,hn',fun j y v' e1 e2 e3=>?_⟩,fun y c e=>?_,I.free,I.freeC,fun p hp=>?_,tracked ⟨oL,hoL,I.free⟩ hs,by simpa using I.len⟩ ⟨_,hs,.inl rfl⟩
  ·exact(hs.2 b (yba (yaz (yar e) I.ok.above))).trans (I.base.keep b o e n hb hx)
  ·obtain⟨sl,e1⟩:=I.base.slot b o e n hb hx
   exact⟨sl,(hs.2 b (yba (yaz (yar e) I.ok.above))).trans e1⟩
  ·obtain⟨o',e1⟩:=I.base.there b o e hx
   exact⟨o',(hs.2 b (yba (yaz (yar e) I.ok.above))).trans e1⟩
  ·by_cases hj:j=i
   ·subst hj
    rw[hi]at e1;cases e1
    rw[yga hiσ]at e2
    cases e2
    exact⟨u,r,.inl ⟨hk,by simp⟩⟩
   ·rw[ygz (yee hj)]at e2
    obtain⟨u',r',q⟩:=hl j y v' e1 e2 e3
    refine⟨u',r',?_⟩
    rcases q with⟨k,e⟩|⟨k,c,e,z⟩
    ·refine .inl ⟨k,?_⟩
     have:y≠x:=fun e=>hj (zjv hN e1 (e ▸ hi))
     simp[this,e]
    ·exact .inr ⟨k,c,e,z.sameBut hs (cne y c e)⟩
  ·obtain⟨w',z⟩:=I.cell y c e
   exact⟨w',z.sameBut hs (cne y c e)⟩
  ·obtain⟨e,n,ne,nf,d⟩:=I.pin p hp
   exact⟨(hs.2 p.1 ne).trans e,n,ne,nf,d⟩
 ·have hfn:X.fn x=true:=by
   rcases hf with z | z
   ·exact z
   ·rw[z]at hk;cases hk
  obtain⟨c,hc⟩:=I.ok.has x (.inl hk)
  obtain⟨w',z⟩:=I.cell x c hc
  refine wpAny_storeName_cell I.ok.kind hk hc z (fun h' hc' hs=>?_)
  obtain⟨oc,hoc,hocd⟩:=id z
  refine h { s with heap:=h' } ⟨I.ok,I.os,I.bare,⟨fun b o e n hb hx=>?_,fun b o e n hb hx=>?_,I.base.free,fun b o e hx=>?_,I.base.tups,I.base.frzs,I.base.tbls⟩,⟨m,hn.sameBut hs (yee (cne x c hc)),fun j y v' e1 e2 e3=>?_⟩,fun y c' e=>?_,I.free,I.freeC,fun p hp=>?_,tracked ⟨oc,hoc,I.freeC x c hc⟩ hs,by simpa using I.len⟩ ⟨c,hs,.inr hc⟩
  ·exact(hs.2 b (yba (yaz (yar e) (I.ok.cab x c hfn hc)))).trans (I.base.keep b o e n hb hx)
  ·obtain⟨sl,e1⟩:=I.base.slot b o e n hb hx
   exact⟨sl,(hs.2 b (yba (yaz (yar e) (I.ok.cab x c hfn hc)))).trans e1⟩
  ·obtain⟨o',e1⟩:=I.base.there b o e hx
   exact⟨o',(hs.2 b (yba (yaz (yar e) (I.ok.cab x c hfn hc)))).trans e1⟩
  ·by_cases hj:j=i
   ·subst hj
    rw[hi]at e1;cases e1
    rw[yga hiσ]at e2
    cases e2
    exact⟨u,r,.inr ⟨.inl hk,c,hc,hc'⟩⟩
   ·rw[ygz (yee hj)]at e2
    obtain⟨u',r',q⟩:=hl j y v' e1 e2 e3
    refine⟨u',r',?_⟩
    rcases q with q | ⟨k,c',e,z'⟩
    ·exact .inl q
    ·refine .inr ⟨k,c',e,z'.sameBut hs ?_⟩
     rintro rfl
     exact hj (zjv hN e1 (I.ok.inj _ _ _ e hc ▸ hi))
  ·by_cases hcc:c'=c
   ·subst hcc;exact⟨_,hc'⟩
   ·obtain⟨w2,z2⟩:=I.cell y c' e
    exact⟨w2,z2.sameBut hs hcc⟩
  ·obtain⟨e,n,ne,nf,d⟩:=I.pin p hp
   refine⟨(hs.2 p.1 ?_).trans e,n,ne,nf,d⟩
   intro q
   rw[q,hoc]at e
   have q':oc=p.2:=ya1 e
   exact d w' (by rw[<- q'];exact hocd)
theorem znn{M:Model}{A:Around}{E:Value->yah->Prop}{i:Nat}{x:Str}{v:V}{u:Value}{Q:Unit->yah->Prop}(I:Inv X pins σ H s)(hN:X.N.Nodup)(hi:X.N[i]?=some x)(hx:Loc X.env.scope x)(r:RelV v u)(h:∀ s',Inv X pins (σ.set i (some v)) H s'->Q () s')(hf:X.fn x=true\/X.env.scope.names.lookup x=some .local:=by first | exact .inl rfl | exact .inr rfl | assumption):wpAny M A (storeName X.env x u) Q E s :=
 zmf I hN hi hx r (fun s' I' _=>h s' I') hf
theorem Inv.call'{s':yah}{ch:List Addr}(I:Inv X pins σ H s)(ho:s'.os=s.os)(u:Un (frs X.stack) ch H H' s.heap s'.heap)(hok:HOk X.prog X.w H' s'.heap)(hg:AllBare s'.gens)(hch:∀ b∈ch,(b∈X.ex\/X.s_0.heap.objs.size<=b)/\b≠X.env.locals/\(∀ x c,X.env.cells.lookup x=some c->c≠b)/\∀ p∈X.pn++pins,p.1≠b):Inv X pins σ H' s':=by
 obtain⟨h',g',d',t',o'⟩:=s'
 have e:o'=s.os:=ho
 subst e
 exact I.call (g':=g') (t':=t') (d':=d') u hok hg hch
end
abbrev XK:=Value->Option Addr->Hp->Prop
abbrev St:=List (Option V)
abbrev VK:=V->Hp->Prop
abbrev TE:=St->Hp->VK->Prop
abbrev TT:=St->Hp->(Bool->Hp->Prop)->Prop
abbrev TA:=St->Hp->(List V->Hp->Prop)->Prop
structure Ends where
 nx:St->Hp->Prop
 rt:VK
 bk:St->Hp->Prop:=fun _ _=>False
 ct:St->Hp->Prop:=fun _ _=>False
abbrev TS:=Ends->St->Hp->Prop
def EP(X:Cx)(pins:List (Addr × Obj))(σ:St)(Q:VK)(u:Value)(s':yah):Prop:=∃ v H',Inv X pins σ H' s'/\RelV v u/\Q v H'
def TP(X:Cx)(pins:List (Addr × Obj))(σ:St)(Q:Bool->Hp->Prop)(b:Bool)(s':yah):Prop:=∃ H',Inv X pins σ H' s'/\Q b H'
def AP(X:Cx)(pins:List (Addr × Obj))(σ:St)(Q:List V->Hp->Prop)(us:List Value)(s':yah):Prop:=∃ vs H',Inv X pins σ H' s'/\Vals vs us/\Q vs H'
def SP(X:Cx)(pins:List (Addr × Obj))(D:Ends)(f:Flow)(s':yah):Prop :=
 match f with
 | .next=>∃ σ' H',Inv X pins σ' H' s'/\D.nx σ' H'
 | .brk=>∃ σ' H',Inv X pins σ' H' s'/\D.bk σ' H'
 | .cont=>∃ σ' H',Inv X pins σ' H' s'/\D.ct σ' H'
 | .ret u=>∃ v σ' H',Inv X pins σ' H' s'/\RelV v u/\D.rt v H'
def PE(X:Cx)(e:Expr)(t:TE):Prop :=
 ∀(pins:List (Addr × Obj)) (s:yah) (σ:St) (H:Hp) (Q:VK),Inv X pins σ H s->t σ H Q->wpAny (model X.prog X.w) X.A (eval e X.env) (EP X pins σ Q) X.xe s
def PT(X:Cx)(e:Expr)(t:TT):Prop :=
 ∀(pins:List (Addr × Obj)) (s:yah) (σ:St) (H:Hp) (Q:Bool->Hp->Prop),Inv X pins σ H s->t σ H Q->wpAny (model X.prog X.w) X.A (isTrue e X.env (eval e X.env)) (TP X pins σ Q) X.xe s
def PW(X:Cx)(e:Expr)(t:TT):Prop :=
 ∀(whole:Sem Value) (pins:List (Addr × Obj)) (s:yah) (σ:St) (H:Hp) (Q:Bool->Hp->Prop),Inv X pins σ H s->t σ H Q->wpAny (model X.prog X.w) X.A (isTrue e X.env whole) (TP X pins σ Q) X.xe s
theorem PW.pt{X:Cx}{e:Expr}{t:TT}(h:PW X e t):PT X e t:=h _
def PA(X:Cx)(es:List Expr)(t:TA):Prop :=
 ∀(pos:Pos) (pins:List (Addr × Obj)) (s:yah) (σ:St) (H:Hp) (Q:List V->Hp->Prop),Inv X pins σ H s->t σ H Q->wpAny (model X.prog X.w) X.A (spliced (backTo pos (ycb es X.env))) (AP X pins σ Q) X.xe s
def PS(X:Cx)(st:Stmt)(t:TS):Prop :=
 ∀(pins:List (Addr × Obj)) (s:yah) (σ:St) (H:Hp) (D:Ends),Inv X pins σ H s->t D σ H->wpAny (model X.prog X.w) X.A (exec st X.env) (SP X pins D) X.xe s
def PSs(X:Cx)(st:List Stmt)(t:TS):Prop :=
 ∀(pins:List (Addr × Obj)) (s:yah) (σ:St) (H:Hp) (D:Ends),Inv X pins σ H s->t D σ H->wpAny (model X.prog X.w) X.A (execs st X.env) (SP X pins D) X.xe s
theorem thn{α:Type}{t:Sem α}{Q Q':α->yah->Prop}{M:Model}{A:Around}{E:Value->yah->Prop}{s:yah}(h:wpAny M A t Q E s)(hQ:∀ a s,Q a s->Q' a s):wpAny M A t Q' E s:=ydd h hQ fun _ _ x=>x
end L2
namespace L2
open PySem PySem.Spec PyProof.Rows
section
variable {X:Cx}
def tVar(i:Nat):TE:=fun σ H Q=>∃ v,σ[i]?=some (some v)/\Q v H
def tC(v:V):TE:=fun _ H Q=>Q v H
theorem zza{i:Nat}{x:Str}{pos:Pos}(hN:X.N[i]?=some x)(hv:Vis X.env.scope x)(hd:(x == ("__debug__" : Str))=false:=by decide)(hcd:(x == ("__classdict__" : Str))=false:=by decide):PE X (.Name x pos) (tVar i):=by
 intro pins s σ H Q I h
 obtain⟨v,e,h⟩:=h
 obtain⟨m,hn,hl⟩:=I.loc
 obtain⟨u,r,l⟩:=hl i x v hN e hv
 have fin:EP X pins σ Q u s:=⟨v,H,I,r,h⟩
 rcases l with⟨hk,hm⟩|⟨hk,c,hc,hcell⟩
 ·exact wpAny_Name (wpAny_loadName_local I.ok.kind hk hn hm fin) hd
 ·rcases hk with hk | hk
  ·exact wpAny_Name (wpAny_loadName_cell I.ok.kind hk hc hcell fin) hd
  ·exact wpAny_Name (wpAny_loadName_free I.ok.kind hk hc hcell fin hcd) hd
theorem zg{i j pos}:PE X (.Constant (.int i) j pos) (tC (.int i)):=fun _ _ _ H _ I h=>wpAny_Constant_int ⟨.int i,H,I.tok _,⟨_,rfl⟩,h⟩
theorem zsd{j pos}:PE X (.Constant .none j pos) (tC .non):=fun _ _ _ H _ I h=>Constant_none ⟨.non,H,I,rfl,h⟩
def Gl(X:Cx)(x:Str):Prop:=X.env.kindOf x=some .globalImplicit
theorem zd1{E:Value->yah->Prop}{pins:List (Addr × Obj)}{s:yah}{σ:St}{H:Hp}{x:Str}{u:Value}{pos:Pos}{Q:Value->yah->Prop}(I:Inv X pins σ H s)(hg:Gl X x)(hm:X.mg x=some u)(h:Q u s)(hd:(x == ("__debug__" : Str))=false:=by decide):wpAny (model X.prog X.w) X.A (eval (.Name x pos) X.env) Q E s :=
 yhg I.ok.kind hg (Calls.loadGlobal_global (by rw[I.ok.glob];exact I.mod.glob.keeps I.bk) hm h) hd
theorem zf5{E:Value->yah->Prop}{pins:List (Addr × Obj)}{s:yah}{σ:St}{H:Hp}{x:Str}{u:Value}{pos:Pos}{Q:Value->yah->Prop}(I:Inv X pins σ H s)(hg:Gl X x)(hm:X.mg x=none)(hv:yd5 x=some u)(h:Q u s)(hn:x ≠ "__name__" := by decide)(hd:(x == ("__debug__" : Str))=false:=by decide):wpAny (model X.prog X.w) X.A (eval (.Name x pos) X.env) Q E s:=by
 obtain⟨mb,h1,h2⟩:=I.mod.blt
 exact yhg I.ok.kind hg (Calls.loadGlobal_builtin (by rw[I.ok.glob];exact I.mod.glob.keeps I.bk) hm (by rw[I.ok.blt];exact h1.keeps I.bk) ((h2 x hn).trans hv) h) hd
theorem zx{x:Str}{v:V}{u:Value}{pos:Pos}(hg:Gl X x)(hm:X.mg x=some u)(r:RelV v u)(hd:(x == ("__debug__" : Str))=false:=by decide):PE X (.Name x pos) (tC v) :=
 fun _ _ _ H _ I h=>zd1 I hg hm ⟨v,H,I,r,h⟩ hd
variable {a b:Expr}{ta tb:TE}{pos:Pos}
def PC(X:Cx)(op:CmpOp)(a b:Expr)(t:TE):Prop :=
 ∀(pins:List (Addr × Obj)) (s:yah) (σ:St) (H:Hp) (Q:VK),Inv X pins σ H s->t σ H Q ->
  wpAny (model X.prog X.w) X.A (eval a X.env) (fun v s₁=>wpAny (model X.prog X.w) X.A (eval b X.env) (fun u s₂=>wpAny (model X.prog X.w) X.A (compareOp op v u) (EP X pins σ Q) X.xe s₂) X.xe s₁) X.xe s
theorem zuq(b:Expr){op:CmpOp}(h:op≠.In)(h2:op≠.NotIn):behindInMarks op b=false:=by
 have e1:(op == CmpOp.In)=false:=by cases op<;>first | rfl | exact absurd rfl h
 have e2:(op == CmpOp.NotIn)=false:=by cases op<;>first | rfl | exact absurd rfl h2
 cases b<;>simp[behindInMarks,e1,e2]
def tIsN(ta:TE):TE:=fun σ H Q=>ta σ H fun x H1=>Q (.bl (decide (x = .non))) H1
theorem RelV.none_iff{x:V}{v:Value}(r:RelV x v):(v == ydn)=decide (x = .non):=by
 cases x with
 | non=>cases r;rfl
 | bl _=>cases r;rfl
 | int _=>obtain⟨t,rfl⟩:=r;rfl
 | str _=>obtain⟨t,rfl⟩:=r;rfl
 | byt _=>obtain⟨t,rfl⟩:=r;rfl
 | flt _=>obtain⟨t,rfl⟩:=r;rfl
 | ref _=>cases r;rfl
 | ty _=>cases r;rfl
theorem zno{j pos'}(ha:PE X a ta):PC X .Is a (.Constant .none j pos') (tIsN ta):=by
 intro pins s σ H Q I h
 refine thn (ha pins s σ H _ I h) fun v s1 ⟨x,H1,I1,r1,q1⟩=>?_
 exact Constant_none (is_none_gen ⟨.bl _,H1,I1,by rw[r1.none_iff];rfl,q1⟩)
def tB(t:TE):TT:=fun σ H Q=>t σ H fun x H1=>∃ c,x = .bl c/\Q c H1
theorem zh2{op:CmpOp}{t:TE}(h:PC X op a b t)(h1:behindInMarks op b=false:=by first | exact zuq _ (by decide) (by decide) | rfl):PT X (.Compare a [op] [b] pos) (tB t):=by
 intro pins s σ H Q I hw
 refine yi2 (thn (h pins s σ H _ I hw) fun v s1 h1=>thn h1 fun u s2 h2=>thn h2 fun c s3 ⟨x,H1,I1,r1,q1⟩=>?_) h1
 obtain⟨d,rfl,q⟩:=q1
 cases r1
 exact yfp ⟨H1,I1,q⟩
theorem zfe{e:Expr}{t:TE}(h:PE X e t)(he:∀ whole,isTrue e X.env whole=(do let v <- whole;standAt e.pos;holding [v] (truthy v)):=by intro _;rfl):PT X e (tB t):=by
 intro pins s σ H Q I hw
 refine isTrue_plain (thn (h pins s σ H _ I hw) fun v s1 ⟨x,H1,I1,r1,q1⟩=>?_) (he _)
 obtain⟨d,rfl,q⟩:=q1
 cases r1
 exact yfp ⟨H1,I1,q⟩
variable {tA tB':TT}{rest:List Expr}
def tOr(t u:TT):TT:=fun σ H Q=>t σ H fun c H1=>if c=true then Q true H1 else u σ H1 Q
theorem zse(ha:PT X a tA):PW X (.BoolOp .Or [a] pos) tA:=by
 intro wh pins s σ H Q I h
 refine isTrue_or (thn (ha pins s σ H Q I h) fun c s1 e=>?_)
 cases c with
 | false=>exact isTrue_or_nil e
 | true=>exact e
theorem zwo(ha:PT X a tA)(hb:PW X (.BoolOp .Or (b::rest) pos) tB'):PW X (.BoolOp .Or (a::b::rest) pos) (tOr tA tB'):=by
 intro wh pins s σ H Q I h
 refine isTrue_or (thn (ha pins s σ H _ I h) fun c s1 ⟨H1,I1,q1⟩=>?_)
 cases c with
 | true=>exact⟨H1,I1,q1⟩
 | false=>exact hb wh pins s1 σ H1 Q I1 q1
def tIf(t:TT)(ta tb:TE):TE:=fun σ H Q=>t σ H fun c H1=>if c=true then ta σ H1 Q else tb σ H1 Q
theorem zhk{c:Expr}(hc:PT X c tA)(ha:PE X a ta)(hb:PE X b tb):PE X (.IfExp c a b pos) (tIf tA ta tb):=by
 intro pins s σ H Q I h
 refine wpAny_IfExp (thn (hc pins s σ H _ I h) fun d s1 ⟨H1,I1,q1⟩=>?_)
 cases d with
 | true=>exact ha pins s1 σ H1 Q I1 q1
 | false=>exact hb pins s1 σ H1 Q I1 q1
end
end L2
namespace L2
open PySem PySem.Spec PyProof.Rows
def SqL(K:yac)(H:Hp)(a:Addr)(xs:List V):Prop :=
 Rd H a (.lst xs) \/
  ∃(o:Obj) (its:Array Value) (n:Nat),K.lookup a=some o/\o.cls = .type "list" /\ o.dict=none/\o.data = .seq its n/\its.size<=yay/\Vals xs its.toList
def SqT(K:yac)(H:Hp)(a:Addr)(xs:List V):Prop :=
 Rd H a (.tup xs) \/
  ∃(o:Obj) (its:Array Value) (n:Nat),K.lookup a=some o/\o.cls = .type "tuple" /\ o.data = .seq its n/\its.size<=yay/\Vals xs its.toList
def absV:Value->Option V
 | .none=>some .non
 | .bool b=>some (.bl b)
 | .int i _=>some (.int i)
 | .str x _=>some (.str x)
 | .bytes b _=>some (.byt b)
 | .float b _=>some (.flt b)
 | .ref a=>some (.ref a)
 | .type n=>some (.ty n)
 | _=>none
theorem RelV.abs{x:V}{u:Value}(r:RelV x u):absV u=some x:=by
 cases x with
 | non=>cases r;rfl
 | bl _=>cases r;rfl
 | int _=>obtain⟨t,rfl⟩:=r;rfl
 | str _=>obtain⟨t,rfl⟩:=r;rfl
 | byt _=>obtain⟨t,rfl⟩:=r;rfl
 | flt _=>obtain⟨t,rfl⟩:=r;rfl
 | ref _=>cases r;rfl
 | ty _=>cases r;rfl
theorem RelV.inj{x y:V}{u:Value}(r:RelV x u)(q:RelV y u):x=y:=ya1 (r.abs.symm.trans q.abs)
theorem Vals.inj:∀{xs ys:List V} {us:List Value},Vals xs us->Vals ys us->xs=ys
 | _,_,_,.nil,.nil=>rfl
 | _,_,_,.cons r t,.cons r' t'=>by rw[r.inj r',Vals.inj t t']
section
variable {X:Cx}{pins:List (Addr × Obj)}{σ:St}{H:Hp}{s:yah}{a:Addr}{xs ys:List V}
theorem SqL.of{K:yac}(h:H a=some (.lst xs)):SqL K H a xs:=.inl (.inl h)
theorem SqT.of{K:yac}(h:H a=some (.tup xs)):SqT K H a xs:=.inl (.inl h)
theorem Inv.list(I:Inv X pins σ H s)(h:SqL X.K H a xs):∃ its:List Value,Vals xs its/\PlainL s.heap a its.toArray/\xs.length<=yay:=by
 rcases h with h | ⟨o,its,n,hk,hc,hd,hs,hz,r⟩
 ·obtain⟨z,its,n,r,e⟩:=h.ok I.hok
  exact⟨its,r,⟨_,n,e,rfl,rfl,rfl⟩,z⟩
 ·refine⟨its.toList,r,⟨o,n,I.kIn a o hk,hc,hd,by simpa using hs⟩,?_⟩
  have e:=r.length
  simp only[ya0]at e
  omega
theorem Inv.tuple(I:Inv X pins σ H s)(h:SqT X.K H a xs):∃ its:List Value,Vals xs its/\IsTup s.heap a its.toArray/\xs.length<=yay:=by
 rcases h with h | ⟨o,its,n,hk,hc,hs,hz,r⟩
 ·obtain⟨z,its,r,p⟩:=h.ok I.hok
  exact⟨its,r,p,z⟩
 ·refine⟨its.toList,r,⟨o,I.kIn a o hk,hc,n,by simpa using hs⟩,?_⟩
  have e:=r.length
  simp only[ya0]at e
  omega
theorem Inv.list_inj(I:Inv X pins σ H s)(h:SqL X.K H a xs)(h':SqL X.K H a ys):xs=ys:=by
 obtain⟨its,r,⟨o,n,e,_,_,d⟩,_⟩:=I.list h
 obtain⟨its',r',⟨o',n',e',_,_,d'⟩,_⟩:=I.list h'
 rw[e]at e';cases e'
 rw[d]at d'
 injection d' with d1 _
 have:its=its':=by simpa using congrArg ylh d1
 subst this
 exact r.inj r'
theorem Inv.tuple_inj(I:Inv X pins σ H s)(h:SqT X.K H a xs)(h':SqT X.K H a ys):xs=ys:=by
 obtain⟨its,r,⟨o,e,_,n,d⟩,_⟩:=I.tuple h
 obtain⟨its',r',⟨o',e',_,n',d'⟩,_⟩:=I.tuple h'
 rw[e]at e';cases e'
 rw[d]at d'
 injection d' with d1 _
 have:its=its':=by simpa using congrArg ylh d1
 subst this
 exact r.inj r'
end
abbrev Cx.wish(X:Cx)(E:Value->yah->Prop):Cx:={ X with xe:=E }
abbrev Cx.nox(X:Cx):Cx:=X.wish fun _ _=>False
theorem Cx.Ok.wish{X:Cx}(ok:X.Ok)(E:Value->yah->Prop):(X.wish E).Ok :=
 ⟨ok.mod,ok.kind,ok.glob,ok.blt,ok.above,ok.inj,ok.has,ok.cab,ok.hd,ok.frames,ok.stk,ok.exf,ok.bs,ok.bsz,ok.noex,ok.exfs,ok.funs,ok.frf⟩
theorem Cx.Ok.unwish{X:Cx}{E:Value->yah->Prop}(ok:(X.wish E).Ok):X.Ok :=
 ⟨ok.mod,ok.kind,ok.glob,ok.blt,ok.above,ok.inj,ok.has,ok.cab,ok.hd,ok.frames,ok.stk,ok.exf,ok.bs,ok.bsz,ok.noex,ok.exfs,ok.funs,ok.frf⟩
section
variable {X:Cx}{pins:List (Addr × Obj)}{σ:St}{H:Hp}{s:yah}{E:Value->yah->Prop}
theorem Inv.wish(I:Inv X pins σ H s)(E:Value->yah->Prop):Inv (X.wish E) pins σ H s:=⟨I.ok.wish E,I.os,I.bare,I.base,I.loc,I.cell,I.free,I.freeC,I.pin,I.hok,I.len⟩
theorem Inv.unwish(I:Inv (X.wish E) pins σ H s):Inv X pins σ H s:=⟨I.ok.unwish,I.os,I.bare,I.base,I.loc,I.cell,I.free,I.freeC,I.pin,I.hok,I.len⟩
theorem SP.unwish{D:Ends}{f:Flow}{s':yah}(h:SP (X.wish E) pins D f s'):SP X pins D f s':=by
 cases f with
 | next=>obtain⟨σ',H',I,q⟩:=h;exact⟨σ',H',I.unwish,q⟩
 | brk=>obtain⟨σ',H',I,q⟩:=h;exact⟨σ',H',I.unwish,q⟩
 | cont=>obtain⟨σ',H',I,q⟩:=h;exact⟨σ',H',I.unwish,q⟩
 | ret u=>obtain⟨v,σ',H',I,r,q⟩:=h;exact⟨v,σ',H',I.unwish,r,q⟩
theorem PSs.nox{st:List Stmt}{t:TS}(h:PSs X.nox st t):PSs X st t:=fun pins s σ H D I hw =>
 ydd (h pins s σ H D (I.wish _) hw) (fun _ _ q=>q.unwish) fun _ _ z=>yc7 z
end
section
variable {X:Cx}{st:Stmt}{rest:List Stmt}{t u:TS}{e:Expr}{te:TE}{pos:Pos}
def tNext:TS:=fun D σ H=>D.nx σ H
def tSeq(t u:TS):TS:=fun D σ H=>t { D with nx:=u D } σ H
theorem zap:PSs X [] tNext:=fun _ _ σ H _ I h=>yg6 ⟨σ,H,I,h⟩
theorem zc(h1:PS X st t)(h2:PSs X rest u):PSs X (st::rest) (tSeq t u):=by
 intro pins s σ H D I h
 refine yir (thn (h1 pins s σ H { D with nx:=u D } I h) fun f s1 q=>?_)
 cases f with
 | next =>
  obtain⟨σ',H',I',q⟩:=q
  exact h2 pins s1 σ' H' D I' q
 | ret v=>exact q
 | brk=>exact q
 | cont=>exact q
theorem zf(h1:PS X st t):PSs X [st] t:=by
 intro pins s σ H D I h
 refine yir (thn (h1 pins s σ H D I h) fun f s1 q=>?_)
 cases f with
 | next=>exact yg6 q
 | ret v=>exact q
 | brk=>exact q
 | cont=>exact q
theorem Inv.quiet{pins:List (Addr × Obj)}{σ:St}{H:Hp}{s:yah}(I:Inv X pins σ H s):interactive X.env=false:=by simp[interactive,I.ok.kind]
def tDrop(te:TE):TS:=fun D σ H=>te σ H fun _ H1=>D.nx σ H1
theorem zad(he:PE X e te)(hs:swapsWith e none pos.line X.env=pure false:=by rfl):PS X (.Expr e pos) (tDrop te):=by
 intro pins s σ H D I h
 exact wpAny_Expr_any (thn (he pins s σ H _ I h) fun v s1 ⟨x,H1,I1,r1,q1⟩=>⟨σ,H1,I1,q1⟩) I.quiet hs
def tRet(te:TE):TS:=fun D σ H=>te σ H D.rt
theorem zk(he:PE X e te):PS X (.Return (some e) pos) (tRet te):=by
 intro pins s σ H D I h
 exact wpAny_Return_some (thn (he pins s σ H _ I h) fun v s1 ⟨x,H1,I1,r1,q1⟩=>⟨x,σ,H1,I1,r1,q1⟩)
def tIfS(c:TT)(t u:TS):TS:=fun D σ H=>c σ H fun b H1=>if b=true then t D σ H1 else u D σ H1
theorem zbk{c:Expr}{a b:List Stmt}{tc:TT}(hc:PT X c tc)(ha:PSs X a t)(hb:PSs X b u):PS X (.If c a b pos) (tIfS tc t u):=by
 intro pins s σ H D I h
 refine wpAny_If (thn (hc pins s σ H _ I h) fun d s1 ⟨H1,I1,q1⟩=>?_)
 cases d with
 | true=>exact ha pins s1 σ H1 D I1 q1
 | false=>exact hb pins s1 σ H1 D I1 q1
end
abbrev TG:=V->St->Hp->(St->Hp->Prop)->Prop
abbrev TGs:=List V->St->Hp->(St->Hp->Prop)->Prop
def PG(X:Cx)(target:Expr)(t:TG):Prop :=
 ∀(pins:List (Addr × Obj)) (s:yah) (σ:St) (H:Hp) (v:V) (u:Value) (Q:St->Hp->Prop),Inv X pins σ H s->RelV v u->t v σ H Q ->
  wpAny (model X.prog X.w) X.A (assign target X.env u) (fun _ s'=>∃ σ' H',Inv X pins σ' H' s'/\Q σ' H') X.xe s
def PGs(X:Cx)(ts:List Expr)(t:TGs):Prop :=
 ∀(pins:List (Addr × Obj)) (s:yah) (σ:St) (H:Hp) (vs:List V) (us:List Value) (Q:St->Hp->Prop),Inv X pins σ H s->Vals vs us->t vs σ H Q ->
  wpAny (model X.prog X.w) X.A (assignInOrder ((assignEach ts X.env).map (·.2)) us) (fun _ s'=>∃ σ' H',Inv X pins σ' H' s'/\Q σ' H') X.xe s
abbrev TSet:=V->V->V->Hp->(Hp->Prop)->Prop
def PSet(X:Cx)(t:TSet):Prop :=
 ∀(pins:List (Addr × Obj)) (s:yah) (σ:St) (H:Hp) (o i v:V) (ov iv u:Value) (Q:Hp->Prop),Inv X pins σ H s->RelV o ov->RelV i iv->RelV v u->t o i v H Q ->
  wpAny (model X.prog X.w) X.A (setItem ov iv u) (fun _ s'=>∃ H',Inv X pins σ H' s'/\Q H') X.xe s
section
variable {X:Cx}{pos:Pos}
def gName(i:Nat):TG:=fun v σ H Q=>Q (σ.set i (some v)) H
theorem zt{i:Nat}{x:Str}(hN:X.N.Nodup)(hi:X.N[i]?=some x)(hx:Loc X.env.scope x)(hf:X.fn x=true\/X.env.scope.names.lookup x=some .local:=by first | exact .inl rfl | exact .inr rfl | assumption):PG X (.Name x pos) (gName i):=by
 intro pins s σ H v u Q I r h
 exact wpAny_assign_Name (znn I hN hi hx r (fun s' I'=>⟨_,H,I',h⟩) hf)
def gNil:TGs:=fun vs σ H Q=>vs=[]/\Q σ H
def gCons(t:TG)(u:TGs):TGs:=fun vs σ H Q=>∃ v r,vs=v::r/\t v σ H fun σ' H'=>u r σ' H' Q
theorem zgy:PGs X [] gNil:=by
 intro pins s σ H vs us Q I r h
 obtain⟨e,h⟩:=h
 subst e
 cases r
 exact assignInOrder_nil ⟨σ,H,I,h⟩
theorem zcy{e:Expr}{es:List Expr}{t:TG}{u:TGs}(h1:PG X e t)(h2:PGs X es u)(hs:(assignEach (e::es) X.env).map (·.2)=assign e X.env::(assignEach es X.env).map (·.2):=by rfl):PGs X (e::es) (gCons t u):=by
 intro pins s σ H vs us Q I r h
 obtain⟨v,vr,e1,h⟩:=h
 subst e1
 cases r with
 | cons r rr =>
  rw[hs]
  refine assignInOrder_cons (thn (h1 pins s σ H _ _ _ I r h) fun _ s1 ⟨σ1,H1,I1,q1⟩=>?_)
  exact h2 pins s1 σ1 H1 _ _ Q I1 rr q1
def gTup(K:yac)(n:Nat)(t:TGs):TG:=fun v σ H Q=>∃ a xs,v = .ref a/\SqT K H a xs/\xs.length=n/\t xs σ H Q
theorem zh3{es:List Expr}{k:Nat}{t:TGs}{n:Nat}(hc:X.calm=true)(h:PGs X es t)(hn:(assignEach es X.env).length=n:=by rfl)(hst:(assignEach es X.env).findIdx? (·.1)=none:=by rfl):PG X (.Tuple es k pos) (gTup X.K n t):=by
 intro pins s σ H v u Q I r hw
 obtain⟨a,xs,e1,hq,hl,hw⟩:=hw
 subst e1
 cases r
 obtain⟨its,rv,ht,hz⟩:=I.tuple hq
 refine assign_Tuple_tuple (I.ok.hd hc) ht (by simp[hn,<- hl,rv.length]) hst fun h' hx=>?_
 have I1:Inv X pins σ H { s with heap:=h' }:=I.kept (t':=s.toks) fun b o e=>hx b o (yba (yar e)) e
 exact h pins _ σ H xs _ Q I1 (by simpa using rv) hw
def gSub(to ti:TE)(t:TSet):TG:=fun v σ H Q=>to σ H fun o H1=>ti σ H1 fun i H2=>t o i v H2 fun H3=>Q σ H3
theorem zzb{o i:Expr}{to ti:TE}{t:TSet}(ho:PE X o to)(hi:PE X i ti)(hs:PSet X t)(ha:∀ v,assign (.Subscript o i pos) X.env v=(do
   let ov <- holding [v] (eval o X.env)
   let iv <- holding [v,ov] (eval i X.env)
   standAt pos
   holding [v,ov,iv] (setItem ov iv v)
   release [v,ov,iv] []):=by intro _;rfl):PG X (.Subscript o i pos) (gSub to ti t):=by
 intro pins s σ H v u Q I r h
 rw[ha]
 refine yaa (yco (thn (ho pins s σ H _ I h) fun ov s1 ⟨x,H1,I1,r1,q1⟩=>?_))
 refine yaa (yco (thn (hi pins s1 σ H1 _ I1 q1) fun iv s2 ⟨y,H2,I2,r2,q2⟩=>?_))
 refine yaa (yic (yaa (yco (thn (hs pins s2 σ H2 x y v ov iv u _ I2 r1 r2 r q2) fun _ s3 ⟨H3,I3,q3⟩=>?_))))
 exact wpAny_release ⟨σ,H3,I3,q3⟩
def tAsg(te:TE)(g:TG):TS:=fun D σ H=>te σ H fun x H1=>g x σ H1 D.nx
theorem zzc{tg e:Expr}{te:TE}{g:TG}(he:PE X e te)(hg:PG X tg g)(hs:swapsWithSole [tg] e pos.line X.env=pure false:=by rfl)(hw:swappedStores [tg] e X.env=pure none:=by rfl)(h1:(assignEach [tg] X.env).map (·.2)=[assign tg X.env]:=by rfl):PS X (.Assign [tg] e pos) (tAsg te g):=by
 intro pins s σ H D I h
 refine wpAny_Assign_stores (thn (he pins s σ H _ I h) fun v s1 ⟨x,H1,I1,r1,q1⟩=>?_) hs hw
 rw[h1]
 exact thn (hg pins s1 σ H1 x v _ I1 r1 q1) fun _ s2 q=>q
theorem zz{i:Nat}{x:Str}{e:Expr}{te:TE}{pos':Pos}(hN:X.N.Nodup)(hi:X.N[i]?=some x)(hx:Loc X.env.scope x)(he:PE X e te)(hs:swapsWith e (some (.Name x pos')) pos.line X.env=pure false:=by rfl)(hf:X.fn x=true\/X.env.scope.names.lookup x=some .local:=by first | exact .inl rfl | exact .inr rfl | assumption) :
  PS X (.Assign [.Name x pos'] e pos) (tAsg te (gName i)):=by
 intro pins s σ H D I h
 refine wpAny_Assign_Name (thn (he pins s σ H _ I h) fun v s1 ⟨y,H1,I1,r1,q1⟩=>?_) hs
 exact znn I1 hN hi hx r1 (fun s2 I2=>⟨_,H1,I2,q1⟩) hf
end
section
variable {X:Cx}{pos:Pos}
def zsf(c:TT)(tb:TS):TS:=fun D σ H=>∃ W:Nat->St->Hp->Prop,(∃ m,W m σ H)/\∀ m σ H,W m σ H ->
 c σ H fun b H1=>if b=true then ∃ N:St->Hp->Prop,(∀ σ' H',N σ' H'->∃ m',m'<m/\W m' σ' H')/\tb { D with nx:=N,ct:=N,bk:=D.nx } σ H1 else D.nx σ H1
theorem zcz{c:Expr}{body:List Stmt}{tc:TT}{tb:TS}(hp:PassesOwn (model X.prog X.w) X.A X.env X.xe)(hc:PT X c tc)(hb:PSs X body tb):PS X (.While c body [] pos) (zsf tc tb):=by
 intro pins s σ H D I h
 obtain⟨W,⟨m0,w0⟩,turn⟩:=h
 refine wpAny_While (codeAny_whileLoop (fun n s'=>∃ σ' H',Inv X pins σ' H' s'/\W n σ' H') ?_ m0 ⟨σ,H,I,w0⟩)
 rintro n s1 ⟨σ1,H1,I1,w1⟩
 refine yev hp (thn (hc pins s1 σ1 H1 _ I1 (turn n σ1 H1 w1)) fun b s2 ⟨H2,I2,q2⟩=>?_)
 cases b with
 | true =>
  obtain⟨N,hN,q2⟩:=q2
  rw[if_pos rfl]
  refine yev hp (thn (hb pins s2 σ1 H2 _ I2 q2) fun f s3 q3=>?_)
  cases f with
  | next =>
   obtain⟨σ3,H3,I3,n3⟩:=q3
   obtain⟨m',hm,w3⟩:=hN σ3 H3 n3
   exact⟨m',hm,σ3,H3,I3,w3⟩
  | cont =>
   obtain⟨σ3,H3,I3,n3⟩:=q3
   obtain⟨m',hm,w3⟩:=hN σ3 H3 n3
   exact⟨m',hm,σ3,H3,I3,w3⟩
  | brk=>exact q3
  | ret v=>exact q3
 | false =>
  rw[if_neg ybb]
  exact yg6 ⟨σ1,H2,I2,q2⟩
end
structure It where
 go:Nat->Hp->Prop
 yld:Nat->Hp->V->Hp->Prop
 stop:Nat->Hp->Prop
def FpOk(X:Cx)(pins:List (Addr × Obj))(H:Hp)(b:Addr):Prop :=
 H b=none/\b≠X.env.locals/\b ∉ X.fs/\(b∈X.ex\/X.s_0.heap.objs.size<=b)/\(∀ x c,X.env.cells.lookup x=some c->c≠b)/\∀ p∈X.pn++pins,p.1≠b
theorem Inv.fpOk{X:Cx}{pins:List (Addr × Obj)}{σ:St}{H H':Hp}{s:yah}{b:Addr}(I:Inv X pins σ H s)(hb:s.heap.objs.size<=b)(hn:H' b=none):FpOk X pins H' b:=by
 refine⟨hn,yb2 (yaz I.lt hb),I.nofs hb,.inr (ybq I.sz hb),fun x c e z=>?_,fun p hp z=>?_⟩
 ·obtain⟨v,q⟩:=I.cell x c e
  exact absurd (yaz q.lt (by rw[z];exact hb)) (ydw _)
 ·exact absurd (yaz (yar (I.pin p hp).1) (by rw[z];exact hb)) (ydw _)
structure Turn(P:yav)(w:World)(K:yac)(tg:Expr)(J:It)(fp:List Addr)(it:Addr)(tn:Nat->Heap->Prop):Prop where
 mem:it∈fp
 obj:∀ i h,tn i h->∀ b∈fp,∃ o,h.get? b=some o/\∀ v,o.data≠.cell v
 keep:∀ i h h',tn i h->(∀ b∈fp,∀ o,h.get? b=some o->h'.get? b=some o)->tn i h'
 item:∀(X:Cx),X.prog=P->X.w=w->X.K=K->X.calm=true->∀(i:Nat) (pins:List (Addr × Obj)) (s:yah) (σ:St) (H:Hp) (E:Value->yah->Prop),Inv X pins σ H s->(∀ b∈fp,FpOk X pins H b)->tn i s.heap->J.go i H ->
  wpAny (model P w) X.A (pyNext (.ref it)) (fun r s1=>∃ u,r=some u /\
   wpAny (model P w) X.A (letOwnedTupleGo tg (.ref it) u) (fun _ s2=>∃ x H',Inv X pins σ H' s2/\RelV x u/\J.yld i H x H'/\tn (i+1) s2.heap/\∀ b∈fp,H' b=none) E s1) E s
 done:∀(X:Cx),X.prog=P->X.w=w->X.K=K->X.calm=true->∀(i:Nat) (pins:List (Addr × Obj)) (s:yah) (σ:St) (H:Hp) (E:Value->yah->Prop),Inv X pins σ H s->(∀ b∈fp,FpOk X pins H b)->tn i s.heap->J.stop i H ->
  wpAny (model P w) X.A (pyNext (.ref it)) (fun r s1=>r=none/\Inv X pins σ H s1) E s
 self:∀(A:Around) (i:Nat) (s:yah) (Q:Value->yah->Prop) (E:Value->yah->Prop),tn i s.heap->Q (.ref it) s->wpAny (model P w) A (pyIter (.ref it)) Q E s
abbrev TI:=St->Hp->(It->Hp->Prop)->Prop
def PIE(X:Cx)(pins:List (Addr × Obj))(σ:St)(tg:Expr)(R:It->Hp->Prop)(itv:Value)(s2:yah):Prop :=
 ∃(it:Addr) (fp:List Addr) (tn:Nat->Heap->Prop) (J:It) (H':Hp),itv = .ref it/\Inv X pins σ H' s2/\Turn X.prog X.w X.K tg J fp it tn/\tn 0 s2.heap/\(∀ b∈fp,FpOk X pins H' b)/\R J H'
def PI(X:Cx)(tg iter:Expr)(wi:TI):Prop :=
 ∀(pins:List (Addr × Obj)) (s:yah) (σ:St) (H:Hp) (R:It->Hp->Prop),Inv X pins σ H s->wi σ H R ->
  wpAny (model X.prog X.w) X.A (eval iter X.env) (fun v s1=>wpAny (model X.prog X.w) X.A (pyIter v) (PIE X pins σ tg R) X.xe s1) X.xe s
theorem zqx{M:Model}{A:Around}{E:Value->yah->Prop}{s:yah}{tg:Expr}{it:Addr}{u:Value}{o:Obj}{n:String}{vs:Array Value}{Q:Unit->yah->Prop}(ho:s.heap.get? it=some o)(hc:o.cls = .type n)(hd:o.data = .fields vs)(hn:["enumerate","zip","dict_itemiterator","dict_reverseitemiterator","odict_iterator","itertools.zip_longest","itertools.pairwise"].contains n=false)(hQ:Q () s):wpAny M A (letOwnedTupleGo tg (.ref it) u) Q E s:=by
 unfold letOwnedTupleGo
 cases tg<;>first
  | exact yai hQ
  | (cases u<;>first
    | exact yai hQ
    | (refine yaa (ykx ho ?_);rw[hc,hd];show wpAny M A (if (["enumerate","zip","dict_itemiterator","dict_reverseitemiterator","odict_iterator","itertools.zip_longest","itertools.pairwise"].contains n && vs[0]? == some (rawInt _))=true then _ else _) Q E s;rw[if_neg (by intro h;rw[hn,yml]at h;cases h)];exact yai hQ))
def Itl(K:yac)(a:Addr):It :=
 ⟨fun i H=>∃ xs x,SqL K H a xs/\xs[i]?=some x,fun i H x H'=>H'=H/\∀ xs,SqL K H a xs->xs[i]?=some x,fun i H=>∃ xs,SqL K H a xs/\xs.length<=i⟩
def Itt(K:yac)(a:Addr):It :=
 ⟨fun i H=>∃ xs x,SqT K H a xs/\xs[i]?=some x,fun i H x H'=>H'=H/\∀ xs,SqT K H a xs->xs[i]?=some x,fun i H=>∃ xs,SqT K H a xs/\xs.length<=i⟩
def Itr(lo:Int)(n:Nat):It:=⟨fun i _=>i<n,fun i H x H'=>H'=H/\x = .int (lo+i),fun i _=>n<=i⟩
theorem zsg{P:yav}{w:World}{K:yac}{tg:Expr}(a it:Addr):Turn P w K tg (Itl K a) [it] it (fun i h=>h.IsListIter it a i) where
 mem:=by simp
 obj:=fun i h st b hb=>by
  have e:b=it:=by simpa using hb
  subst e
  obtain⟨o,e,c,d⟩:=st
  exact⟨o,e,fun v z=>by rw[d]at z;cases z⟩
 keep:=fun i h h' st k=>st.at fun o e=>k it (by simp) o e
 item:=by
  intro X hP hw hK hc i pins s σ H E I hf st hg
  subst hP hw hK
  obtain⟨xs,x,hq,hx⟩:=hg
  obtain⟨its,rv,p,hz⟩:=I.list hq
  obtain⟨u,hu,ru⟩:=rv.get hx
  obtain⟨f0,f1,f2,f3,f4,f5⟩:=hf it (by simp)
  refine wpAny_pyNext_list_item st p.isList (x:=u) (by simpa using hu) fun h' st' sb=>?_
  have I1:Inv X pins σ H { s with heap:=h' }:=I.turned (t':=s.toks) (fun b o hb e=>(sb.2 b hb).trans e) f0 f1 f3 f4 f5
  obtain⟨o,e,c,d⟩:=id st'
  exact⟨u,rfl,zqx (s:={ s with heap:=h' }) e c d (by decide) ⟨x,H,I1,ru,⟨rfl,fun ys hy=>by rw[I.list_inj hy hq];exact hx⟩,st',fun b hb=>(hf b hb).1⟩⟩
 done:=by
  intro X hP hw hK hc i pins s σ H E I hf st hg
  subst hP hw hK
  obtain⟨xs,hq,hx⟩:=hg
  obtain⟨its,rv,p,hz⟩:=I.list hq
  obtain⟨f0,f1,f2,f3,f4,f5⟩:=hf it (by simp)
  have hl:=rv.length
  exact wpAny_pyNext_list_end (I.ok.hd hc) st p.isList (by simp;omega) fun h' eb=>⟨rfl,I.turned (t':=s.toks) (fun b o hb e=>eb b o hb e) f0 f1 f3 f4 f5⟩
 self:=fun _ _ _ _ _ st h=>wpAny_pyIter_listiter st h
theorem zqy{P:yav}{w:World}{K:yac}{tg:Expr}(a it:Addr):Turn P w K tg (Itt K a) [it] it (fun i h=>h.IsTupleIter it a i) where
 mem:=by simp
 obj:=fun i h st b hb=>by
  have e:b=it:=by simpa using hb
  subst e
  obtain⟨o,e,c,d⟩:=st
  exact⟨o,e,fun v z=>by rw[d]at z;cases z⟩
 keep:=fun i h h' st k=>st.at fun o e=>k it (by simp) o e
 item:=by
  intro X hP hw hK hc i pins s σ H E I hf st hg
  subst hP hw hK
  obtain⟨xs,x,hq,hx⟩:=hg
  obtain⟨its,rv,p,hz⟩:=I.tuple hq
  obtain⟨u,hu,ru⟩:=rv.get hx
  obtain⟨f0,f1,f2,f3,f4,f5⟩:=hf it (by simp)
  refine wpAny_pyNext_tuple_item st (show s.heap.IsTuple a its.toArray from p) (x:=u) (by simpa using hu) fun h' st' sb=>?_
  have I1:Inv X pins σ H { s with heap:=h' }:=I.turned (t':=s.toks) (fun b o hb e=>(sb.2 b hb).trans e) f0 f1 f3 f4 f5
  obtain⟨o,e,c,d⟩:=id st'
  exact⟨u,rfl,zqx (s:={ s with heap:=h' }) e c d (by decide) ⟨x,H,I1,ru,⟨rfl,fun ys hy=>by rw[I.tuple_inj hy hq];exact hx⟩,st',fun b hb=>(hf b hb).1⟩⟩
 done:=by
  intro X hP hw hK hc i pins s σ H E I hf st hg
  subst hP hw hK
  obtain⟨xs,hq,hx⟩:=hg
  obtain⟨its,rv,p,hz⟩:=I.tuple hq
  obtain⟨f0,f1,f2,f3,f4,f5⟩:=hf it (by simp)
  have hl:=rv.length
  exact wpAny_pyNext_tuple_end (I.ok.hd hc) st (show s.heap.IsTuple a its.toArray from p) (by simp;omega) fun h' eb=>⟨rfl,I.turned (t':=s.toks) (fun b o hb e=>eb b o hb e) f0 f1 f3 f4 f5⟩
 self:=fun _ _ _ _ _ st h=>wpAny_pyIter_tupleiter st h
theorem zqz{P:yav}{w:World}{K:yac}{tg:Expr}(it:Addr)(lo:Int)(n:Nat):Turn P w K tg (Itr lo n) [it] it (fun i h=>IsRangeIter h it (lo+(i:Nat)*1) ((n:Int) - (i:Nat)) 1) where
 mem:=by simp
 obj:=fun i h st b hb=>by
  have e:b=it:=by simpa using hb
  subst e
  exact⟨_,st,fun v z=>by
   have z':Data.fields _=Data.cell v:=z
   cases z'⟩
 keep:=fun i h h' st k=>k it (by simp) _ st
 item:=by
  intro X hP hw hK hc i pins s σ H E I hf st hg
  subst hP hw hK
  obtain⟨f0,f1,f2,f3,f4,f5⟩:=hf it (by simp)
  have W:=Walks.range (prog:=X.prog) (w:=X.w) (I.ok.hd hc) it lo 1 n
  refine W.item i s _ _ hg st fun v h' tk hv st' kk=>?_
  obtain⟨t,rfl⟩:=hv
  have I1:Inv X pins σ H { s with heap:=h',toks:=tk }:=I.turned (fun b o hb e=>kk b o (by simpa using hb) e) f0 f1 f3 f4 f5
  refine⟨_,rfl,zqx (s:={ s with heap:=h',toks:=tk }) (n := "range_iterator") st' rfl rfl (by decide) ⟨.int (lo+i),H,I1,⟨t,?_⟩,⟨rfl,rfl⟩,st',fun b hb=>(hf b hb).1⟩⟩
  rw[yl4]
 done:=by
  intro X hP hw hK hc i pins s σ H E I hf st hg
  subst hP hw hK
  obtain⟨f0,f1,f2,f3,f4,f5⟩:=hf it (by simp)
  exact wpAny_pyNext_range_end (I.ok.hd hc) st (by have:n<=i:=hg;omega) fun h' eb=>⟨rfl,I.turned (t':=s.toks) (fun b o hb e=>eb b o hb e) f0 f1 f3 f4 f5⟩
 self:=fun _ _ _ _ _ st h=>wpAny_pyIter_rangeiter st h
end L2
namespace L2
open PySem PySem.Spec PyProof.Rows
section
variable {X:Cx}{tg:Expr}
def iList(K:yac)(tl:TE):TI:=fun σ H R=>tl σ H fun x H1=>∃ a,x = .ref a/\(∃ xs,SqL K H1 a xs)/\R (Itl K a) H1
def iTup(K:yac)(tl:TE):TI:=fun σ H R=>tl σ H fun x H1=>∃ a,x = .ref a/\(∃ xs,SqT K H1 a xs)/\R (Itt K a) H1
theorem zba{l:Expr}{tl:TE}(hl:PE X l tl):PI X tg l (iList X.K tl):=by
 intro pins s σ H R I h
 refine thn (hl pins s σ H _ I h) fun v s1 ⟨x,H1,I1,r1,q1⟩=>?_
 obtain⟨a,e,⟨xs,hq⟩,q⟩:=q1
 subst e
 cases r1
 obtain⟨its,rv,p,hz⟩:=I1.list hq
 refine yge p.isList ?_
 refine⟨s1.heap.objs.size,[s1.heap.objs.size],_,_,H1,rfl,I1.kept (t':=s1.toks) fun b o e=>yak _ e,zsg a _,⟨_,yaw _ rfl,rfl,rfl⟩,fun b hb=>?_,q⟩
 have e:b=s1.heap.objs.size:=by simpa using hb
 subst e
 exact I1.fpOk (yao _) (I1.hok.fresh (yao _))
theorem zd9{l:Expr}{tl:TE}(hl:PE X l tl):PI X tg l (iTup X.K tl):=by
 intro pins s σ H R I h
 refine thn (hl pins s σ H _ I h) fun v s1 ⟨x,H1,I1,r1,q1⟩=>?_
 obtain⟨a,e,⟨xs,hq⟩,q⟩:=q1
 subst e
 cases r1
 obtain⟨its,rv,p,hz⟩:=I1.tuple hq
 refine ydh (show s1.heap.IsTuple a its.toArray from p) ?_
 refine⟨s1.heap.objs.size,[s1.heap.objs.size],_,_,H1,rfl,I1.kept (t':=s1.toks) fun b o e=>yak _ e,zqy a _,⟨_,yaw _ rfl,rfl,rfl⟩,fun b hb=>?_,q⟩
 have e:b=s1.heap.objs.size:=by simpa using hb
 subst e
 exact I1.fpOk (yao _) (I1.hok.fresh (yao _))
theorem zur{pins:List (Addr × Obj)}{σ:St}{H:Hp}{s:yah}{R:It->Hp->Prop}{E:Value->yah->Prop}{lo hi:Int}{t u v:Tok}{tk:Nat}(I:Inv X pins σ H s)(h1:-(2 ^ 62)<=lo)(h2:lo<2 ^ 62)(h3:-(2 ^ 62)<=hi)(h4:hi<2 ^ 62)(q:R (Itr lo (hi - lo).toNat) H):wpAny (model X.prog X.w) X.A (pyIter (.ref s.heap.objs.size)) (PIE X pins σ tg R) E { s with heap:=s.heap.push { cls:=.type "range",data:=.fields #[.int lo t,.int hi u,.int 1 v] },toks:=tk }:=by
 refine wpAny_pyIter_range (IsRange.new ..) (small_one h1 h2 h3 h4) ?_
 have I1:Inv X pins σ H { s with heap:=s.heap.push { cls:=.type "range",data:=.fields #[.int lo t,.int hi u,.int 1 v] },toks:=tk }:=I.kept fun b o e=>yak _ e
 refine⟨(s.heap.push { cls:=.type "range",data:=.fields #[.int lo t,.int hi u,.int 1 v] }).objs.size,[(s.heap.push { cls:=.type "range",data:=.fields #[.int lo t,.int hi u,.int 1 v] }).objs.size],_,_,H,rfl,
  I1.kept (t':=tk) fun b o e=>yak _ e,zqz _ lo (hi - lo).toNat,?_,fun b hb=>?_,q⟩
 ·have e1:lo+((0:Nat):Int)*1=lo:=by simp
  have e2:(((hi - lo).toNat:Nat):Int) - ((0:Nat):Int)=Builtin.Range.rangeSize lo hi 1:=by rw[rangeSize_one];split<;>omega
  show IsRangeIter _ _ (lo+((0:Nat):Int)*1) ((((hi - lo).toNat:Nat):Int) - ((0:Nat):Int)) 1
  rw[e1,e2]
  exact yaw _ rfl
 ·have e:b=(s.heap.push { cls:=.type "range",data:=.fields #[.int lo t,.int hi u,.int 1 v] }).objs.size:=by simpa using hb
  subst e
  exact I1.fpOk (yao _) (I1.hok.fresh (yao _))
def iRng1(ta:TA):TI:=fun σ H R=>ta σ H fun vs H1=>∃ j:Int,vs=[.int j]/\-(2 ^ 62)<=j/\j<2 ^ 62/\R (Itr 0 j.toNat) H1
theorem zau{a:Expr}{ta:TA}{p pos:Pos}(hg:Gl X "range")(hm:X.mg "range" = none)(ha:PA X [a] ta)(hs:ycb [a] X.env=[(false,eval a X.env)]:=by rfl):PI X tg (.Call (.Name "range" p) [a] [] pos) (iRng1 ta):=by
 intro pins s σ H R I h
 refine Call_ (zf5 I hg hm boot_range (ycy (thn (ha pos pins s σ H _ I h) fun us s1 ⟨vs,H1,I1,r1,q1⟩=>?_) hs rfl))
 obtain⟨j,e,q1,q2,q⟩:=q1
 subst e
 cases r1 with
 | cons r rr =>
  cases rr
  obtain⟨t,rfl⟩:=r
  exact call_range_1 (zur I1 (by omega) (by omega) q1 q2 (by simpa using q))
def tFor(wi:TI)(g:TG)(tb:TS):TS:=fun D σ H=>wi σ H fun J H1=>∃ W:Nat->Nat->St->Hp->Prop,(∃ m,W 0 m σ H1)/\∀ i m σ H,W i m σ H ->
 (J.stop i H/\D.nx σ H)\/(J.go i H/\∃ N:St->Hp->Prop,(∀ σ' H',N σ' H'->∃ m',m'<m/\W (i+1) m' σ' H')/\∀ x H',J.yld i H x H'->g x σ H' fun σ2 H2=>tb { D with nx:=N,ct:=N,bk:=D.nx } σ2 H2)
def zh4(fp:List Addr)(h:Heap):List (Addr × Obj):=fp.filterMap fun b=>(h.get? b).map fun o=>(b,o)
theorem zhl{fp:List Addr}{h:Heap}{b:Addr}{o:Obj}(hb:b∈fp)(e:h.get? b=some o):(b,o)∈zh4 fp h:=ykj.mpr ⟨b,hb,by rw[e];rfl⟩
theorem zsh{fp:List Addr}{h:Heap}{p:Addr × Obj}(hp:p∈zh4 fp h):p.1∈fp/\h.get? p.1=some p.2:=by
 obtain⟨b,hb,e⟩:=List.mem_filterMap.mp hp
 cases q:h.get? b with
 | none=>rw[q]at e;cases e
 | some o =>
  rw[q]at e
  have e':(b,o)=p:=ya1 e
  subst e'
  exact⟨hb,q⟩
theorem Inv.pinned{pins:List (Addr × Obj)}{σ:St}{H:Hp}{s:yah}{fp:List Addr}(I:Inv X pins σ H s)(hf:∀ b∈fp,FpOk X pins H b)(ho:∀ b∈fp,∃ o,s.heap.get? b=some o/\∀ v,o.data≠.cell v):Inv X (pins++zh4 fp s.heap) σ H s :=
 I.pins_of fun p hp=>(yb1.mp hp).elim (fun z=>I.pin p (yce _ z)) fun z=>by
  obtain⟨hb,e⟩:=zsh z
  obtain⟨f0,f1,f2,_⟩:=hf p.1 hb
  obtain⟨o,e',d⟩:=ho p.1 hb
  rw[e]at e';cases e'
  exact⟨e,f0,f1,f2,d⟩
theorem Inv.unpinned{pins pl:List (Addr × Obj)}{σ:St}{H:Hp}{s:yah}(I:Inv X (pins++pl) σ H s):Inv X pins σ H s:=I.pins_of fun p hp=>I.pin p (yce _ (ycu _ hp))
theorem zf6{iter:Expr}{body:List Stmt}{wi:TI}{g:TG}{tb:TS}{pos:Pos}(hp:PassesOwn (model X.prog X.w) X.A X.env X.xe)(hc:X.calm=true)(hi:PI X tg iter wi)(hg:PG X tg g)(hb:PSs X body tb)(hs:∀ x,foldedSetIterable iter X.env x=pure x:=by intro _;rfl):PS X (.For tg iter body [] pos) (tFor wi g tb):=by
 intro pins s σ H D I h
 refine wpAny_For (thn (hi pins s σ H _ I h) fun v s1 h1=>thn h1 fun itv s2 h2=>?_) hs
 obtain⟨it,fp,tn,J,H2,e,I2,T,st2,f2,W,⟨m0,w0⟩,turn⟩:=h2
 subst e
 have stat:∀{H':Hp},(∀ b∈fp,H' b=none)->∀ b∈fp,FpOk X pins H' b:=fun hn b hb=>⟨hn b hb,(f2 b hb).2⟩
 refine codeAny_forLoop_any (fun n s'=>∃ i σ' H',Inv X pins σ' H' s'/\tn i s'.heap/\(∀ b∈fp,H' b=none)/\W i n σ' H') ?_ m0 ⟨0,σ,H2,I2,st2,fun b hb=>(f2 b hb).1,w0⟩
 rintro n s3 ⟨i,σ3,H3,I3,st3,fr3,w3⟩
 rcases turn i n σ3 H3 w3 with⟨stop,qn⟩|⟨go,N,hN,step⟩
 ·refine yev hp (thn (T.done X rfl rfl rfl hc i pins s3 σ3 H3 X.xe I3 (stat fr3) st3 stop) fun r s4 ⟨hr,I4⟩=>?_)
  subst hr
  exact yg6 ⟨σ3,H3,I4,qn⟩
 ·refine yev hp (thn (T.item X rfl rfl rfl hc i pins s3 σ3 H3 X.xe I3 (stat fr3) st3 go) fun r s4 ⟨u,hr,h4⟩=>?_)
  subst hr
  refine yev hp (thn h4 fun _ s5 ⟨x,H5,I5,r5,y5,st5,fr5⟩=>?_)
  have I5':=I5.pinned (stat fr5) (T.obj _ _ st5)
  refine yev hp (thn (hg _ s5 σ3 H5 x u _ I5' r5 (step x H5 y5)) fun _ s6 ⟨σ6,H6,I6,q6⟩=>?_)
  refine yev hp (thn (hb _ s6 σ6 H6 _ I6 q6) fun f s7 q7=>?_)
  have again:∀{σ7:St} {H7:Hp},Inv X (pins++zh4 fp s5.heap) σ7 H7 s7->N σ7 H7->∃ m,m<n/\∃ i σ' H',Inv X pins σ' H' s7/\tn i s7.heap/\(∀ b∈fp,H' b=none)/\W i m σ' H':=fun {σ7 H7} I7 n7=>by
   obtain⟨m',hm,w7⟩:=hN σ7 H7 n7
   refine⟨m',hm,i+1,σ7,H7,I7.unpinned,T.keep _ _ _ st5 fun b hb o e=>(I7.pin (b,o) (yce _ (yce _ (zhl hb e)))).1,fun b hb=>?_,w7⟩
   obtain⟨o,e,d⟩:=T.obj _ _ st5 b hb
   exact(I7.pin (b,o) (yce _ (yce _ (zhl hb e)))).2.1
  cases f with
  | next=>obtain⟨σ7,H7,I7,n7⟩:=q7;exact again I7 n7
  | cont=>obtain⟨σ7,H7,I7,n7⟩:=q7;exact again I7 n7
  | brk=>obtain⟨σ7,H7,I7,q7⟩:=q7;exact⟨σ7,H7,I7.unpinned,q7⟩
  | ret v=>obtain⟨x7,σ7,H7,I7,r7,q7⟩:=q7;exact⟨x7,σ7,H7,I7.unpinned,r7,q7⟩
end
theorem znp{K:yac}{a:Addr}{xs:List V}{g:TG}{tb:TS}{D:Ends}{σ:St}{H:Hp}(Pv:Nat->St->Hp->Prop)(h0:Pv 0 σ H)(hl:∀ i σ H,i<=xs.length->Pv i σ H->SqL K H a xs)(hs:∀ i x σ H,xs[i]?=some x->Pv i σ H->g x σ H fun σ2 H2=>tb { D with nx:=Pv (i+1),ct:=Pv (i+1),bk:=D.nx } σ2 H2)(hd:∀ σ H,Pv xs.length σ H->D.nx σ H) :
  ∃ W:Nat->Nat->St->Hp->Prop,(∃ m,W 0 m σ H)/\∀ i m σ H,W i m σ H ->
   ((Itl K a).stop i H/\D.nx σ H)\/((Itl K a).go i H/\∃ N:St->Hp->Prop,(∀ σ' H',N σ' H'->∃ m',m'<m/\W (i+1) m' σ' H')/\∀ x H',(Itl K a).yld i H x H'->g x σ H' fun σ2 H2=>tb { D with nx:=N,ct:=N,bk:=D.nx } σ2 H2):=by
 refine⟨fun i m σ H=>m=xs.length - i/\i<=xs.length/\Pv i σ H,⟨xs.length,by simp,ybj _,h0⟩,?_⟩
 rintro i m σ H ⟨rfl,hi,p⟩
 have q:=hl i σ H hi p
 by_cases hlt:i<xs.length
 ·refine .inr ⟨⟨xs,xs[i],q,by simp[hlt]⟩,Pv (i+1),fun σ' H' p'=>⟨xs.length - (i+1),by omega,rfl,hlt,p'⟩,fun x H' y=>?_⟩
  obtain⟨e,y⟩:=y
  subst e
  exact hs i x σ _ (y xs q) p
 ·have e:i=xs.length:=by omega
  subst e
  exact .inl ⟨⟨xs,q,yao _⟩,hd σ H p⟩
theorem zwz{K:yac}{a:Addr}{xs:List V}{g:TG}{tb:TS}{D:Ends}{σ:St}{H:Hp}(Pv:Nat->St->Hp->Prop)(h0:Pv 0 σ H)(hl:∀ i σ H,i<=xs.length->Pv i σ H->SqT K H a xs)(hs:∀ i x σ H,xs[i]?=some x->Pv i σ H->g x σ H fun σ2 H2=>tb { D with nx:=Pv (i+1),ct:=Pv (i+1),bk:=D.nx } σ2 H2)(hd:∀ σ H,Pv xs.length σ H->D.nx σ H) :
  ∃ W:Nat->Nat->St->Hp->Prop,(∃ m,W 0 m σ H)/\∀ i m σ H,W i m σ H ->
   ((Itt K a).stop i H/\D.nx σ H)\/((Itt K a).go i H/\∃ N:St->Hp->Prop,(∀ σ' H',N σ' H'->∃ m',m'<m/\W (i+1) m' σ' H')/\∀ x H',(Itt K a).yld i H x H'->g x σ H' fun σ2 H2=>tb { D with nx:=N,ct:=N,bk:=D.nx } σ2 H2):=by
 refine⟨fun i m σ H=>m=xs.length - i/\i<=xs.length/\Pv i σ H,⟨xs.length,by simp,ybj _,h0⟩,?_⟩
 rintro i m σ H ⟨rfl,hi,p⟩
 have q:=hl i σ H hi p
 by_cases hlt:i<xs.length
 ·refine .inr ⟨⟨xs,xs[i],q,by simp[hlt]⟩,Pv (i+1),fun σ' H' p'=>⟨xs.length - (i+1),by omega,rfl,hlt,p'⟩,fun x H' y=>?_⟩
  obtain⟨e,y⟩:=y
  subst e
  exact hs i x σ _ (y xs q) p
 ·have e:i=xs.length:=by omega
  subst e
  exact .inl ⟨⟨xs,q,yao _⟩,hd σ H p⟩
theorem zmg{lo:Int}{n:Nat}{g:TG}{tb:TS}{D:Ends}{σ:St}{H:Hp}(Pv:Nat->St->Hp->Prop)(h0:Pv 0 σ H)(hs:∀ i σ H,i<n->Pv i σ H->g (.int (lo+i)) σ H fun σ2 H2=>tb { D with nx:=Pv (i+1),ct:=Pv (i+1),bk:=D.nx } σ2 H2)(hd:∀ σ H,Pv n σ H->D.nx σ H) :
  ∃ W:Nat->Nat->St->Hp->Prop,(∃ m,W 0 m σ H)/\∀ i m σ H,W i m σ H ->
   ((Itr lo n).stop i H/\D.nx σ H)\/((Itr lo n).go i H/\∃ N:St->Hp->Prop,(∀ σ' H',N σ' H'->∃ m',m'<m/\W (i+1) m' σ' H')/\∀ x H',(Itr lo n).yld i H x H'->g x σ H' fun σ2 H2=>tb { D with nx:=N,ct:=N,bk:=D.nx } σ2 H2):=by
 refine⟨fun i m σ H=>m=n - i/\i<=n/\Pv i σ H,⟨n,by simp,ybj _,h0⟩,?_⟩
 rintro i m σ H ⟨rfl,hi,p⟩
 by_cases hlt:i<n
 ·refine .inr ⟨hlt,Pv (i+1),fun σ' H' p'=>⟨n - (i+1),by omega,rfl,hlt,p'⟩,fun x H' y=>?_⟩
  obtain⟨e,y⟩:=y
  subst e y
  exact hs i σ _ hlt p
 ·have e:i=n:=by omega
  subst e
  exact .inl ⟨yao _,hd σ H p⟩
end L2
namespace L2
open PySem PySem.Spec PyProof.Rows
abbrev R2:=V->V->Hp->VK->Prop
def OpR(X:Cx)(f:Value->Value->Sem Value)(r:R2):Prop :=
 ∀(pins:List (Addr × Obj)) (s:yah) (σ:St) (H:Hp) (x y:V) (v u:Value) (Q:VK),Inv X pins σ H s->RelV x v->RelV y u->r x y H Q ->
  wpAny (model X.prog X.w) X.A (f v u) (EP X pins σ Q) X.xe s
def UnR(X:Cx)(f:Value->Sem Value)(r:V->Hp->VK->Prop):Prop :=
 ∀(pins:List (Addr × Obj)) (s:yah) (σ:St) (H:Hp) (x:V) (v:Value) (Q:VK),Inv X pins σ H s->RelV x v->r x H Q ->
  wpAny (model X.prog X.w) X.A (f v) (EP X pins σ Q) X.xe s
def CallR(X:Cx)(f:Value)(r:List V->Hp->VK->Prop):Prop :=
 ∀(pins:List (Addr × Obj)) (s:yah) (σ:St) (H:Hp) (xs:List V) (us:List Value) (Q:VK),Inv X pins σ H s->Vals xs us->r xs H Q ->
  wpAny (model X.prog X.w) X.A (call f us) (EP X pins σ Q) X.xe s
def TruR(X:Cx)(r:V->Hp->(Bool->Hp->Prop)->Prop):Prop :=
 ∀(pins:List (Addr × Obj)) (s:yah) (σ:St) (H:Hp) (x:V) (v:Value) (Q:Bool->Hp->Prop),Inv X pins σ H s->RelV x v->r x H Q ->
  wpAny (model X.prog X.w) X.A (truthy v) (TP X pins σ Q) X.xe s
def tOp(r:R2)(ta tb:TE):TE:=fun σ H Q=>ta σ H fun x H1=>tb σ H1 fun y H2=>r x y H2 Q
def tUn(r:V->Hp->VK->Prop)(ta:TE):TE:=fun σ H Q=>ta σ H fun x H1=>r x H1 Q
def rI(C:Int->Int->Prop)(g:Int->Int->V):R2:=fun x y H Q=>∃ i j,x = .int i/\y = .int j/\C i j/\Q (g i j) H
def rI0(g:Int->Int->V):R2:=fun x y H Q=>∃ i j,x = .int i/\y = .int j/\Q (g i j) H
def rU(g:Int->V):V->Hp->VK->Prop:=fun x H Q=>∃ i,x = .int i/\Q (g i) H
section
variable {X:Cx}{a b c:Expr}{ta tb tc:TE}{pos:Pos}
theorem binT(ha:PE X a ta)(hb:PE X b tb){pins:List (Addr × Obj)}{s:yah}{σ:St}{H:Hp}{R:V->V->Hp->Prop}(I:Inv X pins σ H s)(h:ta σ H fun x H1=>tb σ H1 fun y H2=>R x y H2){Q:Value->yah->Prop}{f:Value->Value->Sem Value}(hf:∀ v u s2 x y H2,Inv X pins σ H2 s2->RelV x v->RelV y u->R x y H2->wpAny (model X.prog X.w) X.A (f v u) Q X.xe s2) :
  wpAny (model X.prog X.w) X.A (eval a X.env) (fun v s₁=>wpAny (model X.prog X.w) X.A (eval b X.env) (fun u s₂=>wpAny (model X.prog X.w) X.A (f v u) Q X.xe s₂) X.xe s₁) X.xe s:=by
 refine thn (ha pins s σ H _ I h) fun v s1 ⟨x,H1,I1,r1,q1⟩=>?_
 refine thn (hb pins s1 σ H1 _ I1 q1) fun u s2 ⟨y,H2,I2,r2,q2⟩=>?_
 exact hf v u s2 x y H2 I2 r1 r2 q2
theorem zaa{op:Operator}{r:R2}(ho:OpR X (binaryOp op) r)(ha:PE X a ta)(hb:PE X b tb):PE X (.BinOp a op b pos) (tOp r ta tb):=by
 intro pins s σ H Q I h
 exact wpAny_BinOp (binT ha hb I h fun v u s2 x y H2 I2 rx ry q=>ho pins s2 σ H2 x y v u Q I2 rx ry q)
theorem zbl{op:UnaryOp}{r:V->Hp->VK->Prop}(ho:UnR X (unaryOp op) r)(ha:PE X a ta):PE X (.UnaryOp op a pos) (tUn r ta):=by
 intro pins s σ H Q I h
 exact UnaryOp_ (thn (ha pins s σ H _ I h) fun v s1 ⟨x,H1,I1,r1,q1⟩=>ho pins s1 σ H1 x v Q I1 r1 q1)
theorem opI{f:Value->Value->Sem Value}{C:Int->Int->Prop}{g:Int->Int->Int}(rule:∀(i j:Int) (t u:Tok) (s:yah) (Q:Value->yah->Prop) (E:Value->yah->Prop),C i j->Q (.int (g i j) s.toks) { s with toks:=s.toks+1 }->wpAny (model X.prog X.w) X.A (f (.int i t) (.int j u)) Q E s) :
  OpR X f (rI C fun i j=>.int (g i j)):=by
 intro pins s σ H x y v u Q I rx ry h
 obtain⟨i,j,rfl,rfl,hc,q⟩:=h
 obtain⟨t,rfl⟩:=rx
 obtain⟨t',rfl⟩:=ry
 exact rule i j t t' s _ _ hc ⟨.int (g i j),H,I.tok _,⟨_,rfl⟩,q⟩
theorem opI0{f:Value->Value->Sem Value}{g:Int->Int->Int}(rule:∀(i j:Int) (t u:Tok) (s:yah) (Q:Value->yah->Prop) (E:Value->yah->Prop),Q (.int (g i j) s.toks) { s with toks:=s.toks+1 }->wpAny (model X.prog X.w) X.A (f (.int i t) (.int j u)) Q E s) :
  OpR X f (rI0 fun i j=>.int (g i j)):=by
 intro pins s σ H x y v u Q I rx ry h
 obtain⟨i,j,rfl,rfl,q⟩:=h
 obtain⟨t,rfl⟩:=rx
 obtain⟨t',rfl⟩:=ry
 exact rule i j t t' s _ _ ⟨.int (g i j),H,I.tok _,⟨_,rfl⟩,q⟩
theorem opB0{f:Value->Value->Sem Value}{g:Int->Int->Bool}(rule:∀(i j:Int) (t u:Tok) (s:yah) (Q:Value->yah->Prop) (E:Value->yah->Prop),Q (.bool (g i j)) s->wpAny (model X.prog X.w) X.A (f (.int i t) (.int j u)) Q E s) :
  OpR X f (rI0 fun i j=>.bl (g i j)):=by
 intro pins s σ H x y v u Q I rx ry h
 obtain⟨i,j,rfl,rfl,q⟩:=h
 obtain⟨t,rfl⟩:=rx
 obtain⟨t',rfl⟩:=ry
 exact rule i j t t' s _ _ ⟨.bl (g i j),H,I,rfl,q⟩
def CDiv(i j:Int):Prop:=0<j/\j<1073741824
def CPow(i j:Int):Prop:=0<=j/\j<=1000000/\i.natAbs<2 ^ 64
def CMul(i j:Int):Prop:=(-(2 ^ 64)<i/\i<2 ^ 64)\/(-(2 ^ 64)<j/\j<2 ^ 64)
theorem CMul.ok{i j:Int}(h:CMul i j):IntMulOk i j:=by
 rcases h with⟨h1,h2⟩|⟨h1,h2⟩
 ·exact .of_left (intBits_le_64 h1 h2)
 ·exact .of_right (intBits_le_64 h1 h2)
theorem zq0(k:Nat):(0:Int)<=2 ^ k:=by
 rw[two_pow_cast]
 exact yca _
theorem zkc:OpR X (binaryOp .Add) (rI0 fun i j=>.int (i+j)):=opI0 fun _ _ _ _ _ _ _ q=>add_int q
theorem zea:OpR X (binaryOp .Sub) (rI0 fun i j=>.int (i - j)):=opI0 fun _ _ _ _ _ _ _ q=>sub_int q
theorem zgz:OpR X (binaryOp .Mult) (rI CMul fun i j=>.int (i*j)):=opI fun _ _ _ _ _ _ _ hc q=>mul_int q hc.ok
theorem zpu:OpR X (binaryOp .FloorDiv) (rI CDiv fun i j=>.int (i / j)):=opI fun i j _ _ _ _ _ hc q=>by
 have h1:(0:Int)<j:=hc.1
 have h2:j<1073741824:=hc.2
 exact floordiv_int (by omega) (by rw[yhh i (by omega)];exact q) (.inl (PyProof.noPylong_small (by omega)))
theorem zg0:OpR X (binaryOp .Mod) (rI (fun _ j=>0<j) fun i j=>.int (i % j)):=opI fun i j _ _ _ _ _ hc q=>by
 have h1:(0:Int)<j:=hc
 exact mod_int' (by omega) (by rw[Int.fmod_eq_emod_of_nonneg i (by omega)];exact q)
theorem zff:OpR X (binaryOp .LShift) (rI CPow fun i j=>.int (i*2 ^ j.toNat)):=opI fun _ _ _ _ _ _ _ hc q=>lshift_int_small hc.1 hc.2.1 hc.2.2 q
theorem zf7:OpR X (binaryOp .RShift) (rI (fun _ j=>0<=j) fun i j=>.int (i / 2 ^ j.toNat)):=opI fun i j _ _ _ _ _ hc q =>
 rshift_int hc (by rw[yhh i (zq0 _)];exact q)
theorem zg1:OpR X (binaryOp .BitAnd) (rI0 fun i j=>.int (ycr i j)):=opI0 fun _ _ _ _ _ _ _ q=>and_int q
theorem zkd:OpR X (binaryOp .BitXor) (rI0 fun i j=>.int (yd6 i j)):=opI0 fun _ _ _ _ _ _ _ q=>xor_int q
theorem unI{f:Value->Sem Value}{g:Int->Int}(rule:∀(i:Int) (t:Tok) (s:yah) (Q:Value->yah->Prop) (E:Value->yah->Prop),Q (.int (g i) s.toks) { s with toks:=s.toks+1 }->wpAny (model X.prog X.w) X.A (f (.int i t)) Q E s) :
  UnR X f (rU fun i=>.int (g i)):=by
 intro pins s σ H x v Q I rx h
 obtain⟨i,rfl,q⟩:=h
 obtain⟨t,rfl⟩:=rx
 exact rule i t s _ _ ⟨.int (g i),H,I.tok _,⟨_,rfl⟩,q⟩
theorem za5:UnR X (unaryOp .USub) (rU fun i=>.int (-i)):=unI fun _ _ _ _ _ q=>neg_int q
end
def scal:V->V->Bool
 | .non,.non=>true | .non,.int _=>true | .int _,.non=>true | .non,.bl _=>true | .bl _,.non=>true | .non,.str _=>true | .str _,.non=>true
 | .int _,.int _=>true | .bl _,.bl _=>true | .str _,.str _=>true | .byt _,.byt _=>true
 | .int _,.str _=>true | .str _,.int _=>true | .bl _,.str _=>true | .str _,.bl _=>true
 | _,_=>false
def rEq:R2:=fun x y H Q=>scal x y=true/\Q (.bl (decide (x=y))) H
theorem zw0{i j:Int}:decide (V.int i=V.int j)=(i == j):=by
 rw[yef]
 simp
theorem zzd{i j:Bool}:decide (V.bl i=V.bl j)=(i == j):=by
 rw[yef]
 simp
theorem zw1{i j:Str}:decide (V.str i=V.str j)=(i == j):=by
 rw[yef]
 simp
theorem zw2{i j:Array UInt8}:decide (V.byt i=V.byt j)=(i.toList == j.toList):=by
 rw[yef]
 cases i
 cases j
 simp
section
variable {X:Cx}{a b c:Expr}{ta tb tc:TE}{pos:Pos}
theorem zcb{pins:List (Addr × Obj)}{σ:St}{H:Hp}{s:yah}{Q:VK}{k k':Bool}(I:Inv X pins σ H s)(q:Q (.bl k) H)(e:k=k'):EP X pins σ Q (.bool k') s:=by
 subst e
 exact⟨.bl k,H,I,rfl,q⟩
theorem zco:OpR X (compareOp .Eq) rEq:=by
 intro pins s σ H x y v u Q I rx ry h
 obtain⟨hs,q⟩:=h
 cases x with
 | non =>
  cases rx
  cases y with
  | non=>cases ry;exact PySem.EqNone.eq_none_none (zcb I q (by simp))
  | bl j=>cases ry;exact PySem.EqNone.eq_none_bool (zcb I q (by simp))
  | int j=>obtain⟨t',rfl⟩:=ry;exact PySem.EqNone.eq_none_int (zcb I q (by simp))
  | str j=>obtain⟨t',rfl⟩:=ry;exact PySem.EqNone.eq_none_str (zcb I q (by simp))
  | _=>exact absurd (show false=true from hs) ybb
 | bl i =>
  cases rx
  cases y with
  | non=>cases ry;exact PySem.EqNone.eq_bool_none (zcb I q (by simp))
  | bl j=>cases ry;exact eq_bool (zcb I q zzd)
  | str j=>obtain⟨t',rfl⟩:=ry;exact PySem.EqMixed.eq_bool_str (zcb I q (by simp))
  | _=>exact absurd (show false=true from hs) ybb
 | int i =>
  obtain⟨t,rfl⟩:=rx
  cases y with
  | non=>cases ry;exact PySem.EqNone.eq_int_none (zcb I q (by simp))
  | int j=>obtain⟨t',rfl⟩:=ry;exact eq_int (zcb I q zw0)
  | str j=>obtain⟨t',rfl⟩:=ry;exact PySem.EqMixed.eq_int_str (zcb I q (by simp))
  | _=>exact absurd (show false=true from hs) ybb
 | str i =>
  obtain⟨t,rfl⟩:=rx
  cases y with
  | non=>cases ry;exact PySem.EqNone.eq_str_none (zcb I q (by simp))
  | bl j=>cases ry;exact PySem.EqMixed.eq_str_bool (zcb I q (by simp))
  | int j=>obtain⟨t',rfl⟩:=ry;exact PySem.EqMixed.eq_str_int (zcb I q (by simp))
  | str j=>obtain⟨t',rfl⟩:=ry;exact eq_str (zcb I q zw1)
  | _=>exact absurd (show false=true from hs) ybb
 | byt i =>
  obtain⟨t,rfl⟩:=rx
  cases y with
  | byt j=>obtain⟨t',rfl⟩:=ry;exact PySem.W.eq_bytes (zcb I q zw2)
  | _=>exact absurd (show false=true from hs) ybb
 | _=>cases y<;>exact absurd (show false=true from hs) ybb
theorem zq1:OpR X (compareOp .Lt) (rI0 fun i j=>.bl (decide (i<j))):=opB0 fun _ _ _ _ _ _ _ q=>lt_int q
theorem zgi:OpR X (compareOp .Gt) (rI0 fun i j=>.bl (decide (j<i))):=opB0 fun _ _ _ _ _ _ _ q=>gt_int q
theorem z0w:OpR X (compareOp .GtE) (rI0 fun i j=>.bl (decide (j<=i))):=opB0 fun _ _ _ _ _ _ _ q=>ge_int q
theorem zaj(b:Expr){op:CmpOp}(h:op≠.In:=by decide)(h2:op≠.NotIn:=by decide):behindInMarks op b=false:=by
 have e1:(op == CmpOp.In)=false:=by cases op<;>first | rfl | exact absurd rfl h
 have e2:(op == CmpOp.NotIn)=false:=by cases op<;>first | rfl | exact absurd rfl h2
 cases b<;>simp[behindInMarks,e1,e2]
theorem zlu{op:CmpOp}{r:R2}(ho:OpR X (compareOp op) r)(ha:PE X a ta)(hb:PE X b tb)(hm:behindInMarks op b=false):PE X (.Compare a [op] [b] pos) (tOp r ta tb):=by
 intro pins s σ H Q I h
 exact wpAny_Compare1 (binT ha hb I h fun v u s2 x y H2 I2 rx ry q=>ho pins s2 σ H2 x y v u Q I2 rx ry q) hm
def tTest(t:TE):TT:=fun σ H Q=>t σ H fun x H'=>∃ k,x = .bl k/\Q k H'
theorem zah{op:CmpOp}{r:R2}(ho:OpR X (compareOp op) r)(ha:PE X a ta)(hb:PE X b tb)(hm:behindInMarks op b=false):PT X (.Compare a [op] [b] pos) (tTest (tOp r ta tb)):=by
 intro pins s σ H Q I h
 refine yi2 (thn (ha pins s σ H _ I h) fun v s1 ⟨x,H1,I1,r1,q1⟩=>thn (hb pins s1 σ H1 _ I1 q1) fun u s2 ⟨y,H2,I2,r2,q2⟩ =>
  thn (ho pins s2 σ H2 x y v u _ I2 r1 r2 q2) fun c s3 ⟨z,H3,I3,r3,k,e,q3⟩=>?_) hm
 subst e
 cases r3
 exact yfp ⟨H3,I3,q3⟩
def TruV(K:yac)(x:V)(H:Hp)(k:Bool):Prop :=
 match x with
 | .non=>k=false
 | .bl b=>k=b
 | .int i=>k=(i != 0)
 | .str y=>y.length<=yay/\k=((y.length:Int) != 0)
 | .byt y=>y.size<=yay/\k=((y.size:Int) != 0)
 | .ref p=>(∃ xs,SqL K H p xs/\k = !xs.isEmpty)\/(∃ xs,SqT K H p xs/\k = !xs.isEmpty)\/∃ kvs,H p=some (.dK kvs)/\k = !kvs.isEmpty
 | _=>False
theorem zq2{κ:Type}{kvs:List (κ × V)}{vs:List (κ × Value)}(r:KV kvs vs):(!vs.isEmpty) = !kvs.isEmpty:=by
 cases r<;>rfl
theorem zke{xs:List V}{its:List Value}(r:Vals xs its):(!its.toArray.isEmpty) = !xs.isEmpty:=by
 cases r<;>simp
theorem zg2:(yay:Nat)<2 ^ 63:=by rw[ybr];decide
theorem zze:TruR X (fun x H Q=>∃ k,TruV X.K x H k/\Q k H):=by
 intro pins s σ H x v Q I rx h
 obtain⟨k,e,q⟩:=h
 have hl:=zg2
 have hs:yay=16777216:=ybr
 cases x with
 | non =>
  cases rx
  have e':k=false:=e
  subst e'
  exact truthy_none ⟨H,I,q⟩
 | bl b =>
  cases rx
  have e':k=b:=e
  subst e'
  exact yfp ⟨H,I,q⟩
 | int i =>
  obtain⟨t,rfl⟩:=rx
  have e':k=(i != 0):=e
  subst e'
  exact PySem.P.truthy_int ⟨H,I,q⟩
 | str y =>
  obtain⟨t,rfl⟩:=rx
  obtain⟨hy,e'⟩:y.length<=yay/\k=((y.length:Int) != 0):=e
  subst e'
  exact PySem.P.truthy_str (by omega) ⟨H,I.tok _,q⟩
 | byt y =>
  obtain⟨t,rfl⟩:=rx
  obtain⟨hy,e'⟩:y.size<=yay/\k=((y.size:Int) != 0):=e
  subst e'
  exact PySem.W.truthy_bytes (by omega) ⟨H,I.tok _,q⟩
 | ref p =>
  cases rx
  have e':(∃ xs,SqL X.K H p xs/\k = !xs.isEmpty)\/(∃ xs,SqT X.K H p xs/\k = !xs.isEmpty)\/∃ kvs,H p=some (.dK kvs)/\k = !kvs.isEmpty:=e
  rcases e' with⟨xs,hx,e'⟩|⟨xs,hx,e'⟩|⟨kvs,hx,e'⟩
  ·subst e'
   obtain⟨its,r,pl,hz⟩:=I.list hx
   have hlen:=r.length
   exact wpAny_truthy_list pl.isList (by simp only[ya3];omega) ⟨H,I.tok _,by rw[zke r];exact q⟩
  ·subst e'
   obtain⟨its,r,pl,hz⟩:=I.tuple hx
   have hlen:=r.length
   exact truthy_tuple pl (by simp only[ya3];omega) ⟨H,I.tok _,by rw[zke r];exact q⟩
  ·subst e'
   obtain⟨hz,hS,vs,r,m⟩:kvs.length<=yay/\(p == sysModules)=false/\∃ vs,KV kvs vs/\s.heap.DictOf (zls X.prog X.w) p vs:=I.hok p _ hx
   have hlen:kvs.length=vs.length:=ybh r
   exact wpAny_truthy_dict hS m (by omega) ⟨H,I.tok _,by rw[zq2 r];exact q⟩
 | _=>exact(show False from e).elim
theorem zus(ha:PE X a ta)(he:∀ whole,isTrue a X.env whole=(do let v <- whole;standAt a.pos;holding [v] (truthy v))) :
  PT X a (fun σ H Q=>ta σ H fun x H'=>∃ k,TruV X.K x H' k/\Q k H'):=by
 intro pins s σ H Q I h
 exact isTrue_plain (thn (ha pins s σ H _ I h) fun v s1 ⟨x,H1,I1,r1,q1⟩=>zze pins s1 σ H1 x v Q I1 r1 q1) (he _)
theorem vals1{x:V}{us:List Value}(r:Vals [x] us):∃ u,us=[u]/\RelV x u:=by
 cases r with
 | cons r1 r2=>cases r2;exact⟨_,rfl,r1⟩
theorem vals2{x y:V}{us:List Value}(r:Vals [x,y] us):∃ u w',us=[u,w']/\RelV x u/\RelV y w':=by
 cases r with
 | cons r1 r2 =>
  cases r2 with
  | cons r3 r4=>cases r4;exact⟨_,_,rfl,r1,r3⟩
end
end L2
namespace L2
open PySem PySem.Spec PyProof.Rows
structure ObjM(h:Heap)(x dx C:Addr)(mA:Str->Option Value):Prop where
 obj:h.get? x=some (yed C dx)
 ns:h.Ns1 dx mA
 ne:dx≠x
theorem zsi{h:Heap}{dx:Addr}{mA:Str->Option Value}(n:h.Ns1 dx mA):∃ od,h.get? dx=some od/\∀ name,yhp name od=some (mA name):=by
 obtain⟨o,es,ep,ho,hd,hk,_,hm⟩:=n
 refine⟨o,ho,fun name=>?_⟩
 have e:=hm name
 unfold nsFind findBy at e
 rw[<- Array.find?_toList]at e
 unfold yhp
 rw[hd]
 dsimp only
 split
 ·rename_i y q
  rw[q]at e
  exact congrArg some e
 ·rename_i q
  rw[q]at e
  have a:es.toList.any (·.refKey)=false:=by
   rw[List.any_eq_false]
   intro y hy
   obtain⟨z,t,hkey⟩:=hk y (Array.mem_toList_iff.mp hy)
   simp[DictEntry.refKey,hkey]
  have a':¬ es.toList.any (·.refKey)=true:=by rw[a];exact ybb
  rw[if_neg a']
  exact congrArg some e
theorem ObjM.look{h:Heap}{x dx C:Addr}{mA:Str->Option Value}(I:ObjM h x dx C mA):∃ od,PySem.W.InstAt h x (yed C dx) C (some od)/\∀ name,yhp name od=some (mA name) :=
 let ⟨od,ho,hl⟩:=zsi I.ns
 ⟨od,⟨I.obj,rfl,rfl,ho⟩,hl⟩
section
variable {prog:yav}{w:World}{A:Around}{E:Value->yah->Prop}{s:yah}{K:yac}{x dx C f:Addr}{mA:Str->Option Value}{name:Str}{v:Value}
theorem zw3{expr:Bool}{Q:Value->yah->Prop}(X:K.In s.heap)(I:ObjM s.heap x dx C mA)(hg:yfw K C name=true)(hh:ygf K C=true)(ha:yb5 K (.ref C) name=some none)(hv:mA name=some v)(hv':ylu v=true)(h:Q v { s with toks:=s.toks+1 }) :
  wpAny (model prog w) A (getAttr (.ref x) name expr) Q E s:=by
 obtain⟨od,J,hl⟩:=I.look
 exact PySem.W.get_value X J (yg7 hg).1 (PySem.W.findObj_own hh ha rfl (by rw[hl,hv])) hv' h
theorem zut{pl:Sem Bool}{Q:Value × List Value->yah->Prop}(X:K.In s.heap)(I:ObjM s.heap x dx C mA)(hg:yfw K C name=true)(hf:yb5 K (.ref C) name=some (some (.ref f)))(ht:yi3 K (.ref f)=true)(hv:mA name=none)(h:Q (.ref f,[.ref x]) s) :
  wpAny (model prog w) A (getMethod (.ref x) name pl) Q E s:=by
 obtain⟨od,J,hl⟩:=I.look
 exact PySem.W.method_fn X J (yg7 hg).1 (yg7 hg).2 hf (beq_iff_eq.mp ht) (by show(yhp name od).map (·.isSome)=some false;rw[hl,hv];rfl) h
theorem zw4{ns:List Str}{Q:Unit->yah->Prop}(X:K.In s.heap)(I:ObjM s.heap x dx C mA)(hs:yb5 K (.ref C) "__setattr__" = some (some (.builtin "object.__setattr__")))(hp:yhy K C=true)(ht:yi4 K C name=some none)(hh:ygf K C=true)(hw:ylg mA ns)(hsz:ns.length<=yay)(h:∀ h',ObjM h' x dx C (fun y=>if y=name then some v else mA y)->ycc dx s.heap h'->Q () { s with heap:=h',toks:=s.toks+2 }) :
  wpAny (model prog w) A (setAttr (.ref x) name v) Q E s:=by
 obtain⟨od,J,hl⟩:=I.look
 refine PySem.W.set_plain X J hs (PySem.W.osa_open (s:={ s with toks:=s.toks+1 }) (r:=none) X J hp ht fun b=>?_)
 obtain⟨cd,hc,hd'⟩:=PySem.W.any_some hh
 have hx:s.heap.get? x=some ⟨.ref C,some dx,.plain,#[]⟩:=I.obj
 refine yaa (yai (yaa (yaa (wpAny_loadPart hx (yaa (PySem.W.Looks.here (s:={ s with toks:=s.toks+1 }) (PySem.W.looks_clsIn X hc) ?_))))))
 rw[hd']
 refine yai (a:=some dx) (yaa (yai (yaa ?_)))
 refine wpAny_nsSet1 (s:={ s with toks:=s.toks+1 }) I.ns fun h' hn2 hs2=>?_
 obtain⟨oD,esD,epD,hoD,hdD,hcD⟩:=hn2.count (PySem.Within.cons name v hw)
 refine yaa (wpAny_lookBehind hoD (by rw[hdD];exact pastItsLine_dict (ybq hcD (by rw[ybx];omega))) ?_)
 exact yai (h _ ⟨(hs2.2 _ (yee I.ne)).trans I.obj,hn2,I.ne⟩ hs2)
theorem zuu{R:Result->yah->Prop}{vs:List Value}{kw:List (Str × Value)}(X:K.In s.heap)(hm:yi5 K C=true)(hi:yb5 K (.ref C) "__init__" = some (some (.ref f)))(hf:PySem.W.typeIn K (.ref f)=some (.type "function"))(h:codeAny (model prog w) (A.under (.builtin "type.__call__" ⟨.ref C::vs,kw⟩)) (.call (.ref f) ⟨.ref (s.heap.objs.size+1)::vs,kw⟩) (PySem.W.InitBack (s.heap.objs.size+1) R)
   { s with heap:=(s.heap.push yde).push (yed C s.heap.objs.size) }) :
  codeAny (model prog w) A (.call (.ref C) ⟨vs,kw⟩) R s:=by
 obtain⟨hh,g,d,t,os⟩:=s
 exact PySem.W.make_core (PySem.W.makes_of X hm) (PySem.W.looks_findIn X hi) (fun self=>PySem.W.bind_fn X self hf) (.inl rfl) h
end
def putF(f:Str)(v:V):List (Str × V)->List (Str × V)
 | []=>[(f,v)]
 | (g,x)::r=>if g=f then(g,v)::r else(g,x)::putF f v r
theorem zjh(f g:Str)(v:V):∀ fs:List (Str × V),(putF f v fs).lookup g=if g=f then some v else fs.lookup g
 | []=>by
  show yfe g [(f,v)]=_
  by_cases h:g=f
  ·have hb:(g == f)=true:=beq_iff_eq.mpr h
   simp only[yfe,hb,if_pos h]
  ·have hb:(g == f)=false:=beq_eq_false_iff_ne.mpr h
   simp only[yfe,hb,if_neg h]
 | (k,x)::r=>by
  have ih:=zjh f g v r
  rw[show putF f v ((k,x)::r)=(if k=f then(k,v)::r else(k,x)::putF f v r) from rfl]
  by_cases hk:k=f
  ·rw[if_pos hk]
   by_cases h:g=k
   ·have hb:(g == k)=true:=beq_iff_eq.mpr h
    simp only[yfe,hb,if_pos (h.trans hk)]
   ·have hb:(g == k)=false:=beq_eq_false_iff_ne.mpr h
    simp only[yfe,hb,if_neg (fun e:g=f=>h (e.trans hk.symm))]
  ·rw[if_neg hk]
   by_cases h:g=k
   ·have hb:(g == k)=true:=beq_iff_eq.mpr h
    simp only[yfe,hb,if_neg (fun e:g=f=>hk (h.symm.trans e))]
   ·have hb:(g == k)=false:=beq_eq_false_iff_ne.mpr h
    simp only[yfe,hb]
    exact ih
theorem zh5(f:Str)(v:V):∀ fs:List (Str × V),f∈(putF f v fs).map (·.1)/\∀ g,g∈fs.map (·.1)->g∈(putF f v fs).map (·.1)
 | []=>⟨by simp[putF],fun g h=>by simp at h⟩
 | (k,x)::r=>by
  obtain⟨i1,i2⟩:=zh5 f v r
  rw[show putF f v ((k,x)::r)=(if k=f then(k,v)::r else(k,x)::putF f v r) from rfl]
  by_cases hk:k=f
  ·rw[if_pos hk]
   subst hk
   exact⟨by simp,fun g h=>by simpa using h⟩
  ·rw[if_neg hk]
   refine⟨?_,fun g h=>?_⟩
   ·rw[yb8]
    exact yam _ i1
   ·rw[yb8]at h ⊢
    rcases yap.mp h with e | e
    ·exact List.mem_cons.mpr (.inl e)
    ·exact yam _ (i2 g e)
theorem zji(f:Str)(v:V):∀ fs:List (Str × V),(putF f v fs).length<=fs.length+1
 | []=>by simp[putF]
 | (k,x)::r=>by
  have ih:=zji f v r
  rw[show putF f v ((k,x)::r)=(if k=f then(k,v)::r else(k,x)::putF f v r) from rfl]
  by_cases hk:k=f
  ·rw[if_pos hk,ybx,ybx];omega
  ·rw[if_neg hk,ybx,ybx];omega
theorem RelO.some_of{v:V}{o:Option Value}(r:RelO (some v) o):∃ u,o=some u/\RelV v u:=by
 cases o with
 | none=>exact(show False from r).elim
 | some u=>exact⟨u,rfl,r⟩
theorem RelO.none_of{o:Option Value}(r:RelO none o):o=none:=by
 cases o with
 | none=>rfl
 | some u=>exact(show False from r).elim
theorem zsj{v:V}{u:Value}(r:RelV v u):ylu u=true:=by
 cases v with
 | non=>cases (show u=ydn from r);rfl
 | bl b=>cases (show u=yhw b from r);rfl
 | int i=>obtain⟨t,e⟩:=(show ∃ t,u=yf0 i t from r);cases e;rfl
 | str x=>obtain⟨t,e⟩:=(show ∃ t,u=Value.str x t from r);cases e;rfl
 | byt b=>obtain⟨t,e⟩:=(show ∃ t,u=Value.bytes b t from r);cases e;rfl
 | flt b=>obtain⟨t,e⟩:=(show ∃ t,u=Value.float b t from r);cases e;rfl
 | ref a=>cases (show u=ybm a from r);rfl
 | ty n=>cases (show u=ydc n from r);rfl
section
variable {P:yav}{w:World}{H H':Hp}{h h':Heap}{a C dx:Addr}{fs fs':List (Str × V)}
theorem zlv(hok:HOk P w H h)(e:H a=some (.ins C dx fs)):∃ mA,ObjM h a dx C mA/\(∀ f,RelO (fs.lookup f) (mA f))/\ylg mA (fs.map (·.1))/\fs.length<=1000/\H dx=some (.own a):=by
 obtain⟨d,z,ne,ob,mA,n,r,q⟩:=(show ObjOk P w H h a (.ins C dx fs) from hok a _ e)
 exact⟨mA,⟨ob,n,ne⟩,r,q,z,d⟩
end
structure Cls(K:yac)(C:Addr):Prop where
 pg:yfw K C Str.empty=true
 hd:ygf K C=true
 po:yhy K C=true
 sa:yb5 K (.ref C) "__setattr__" = some (some (.builtin "object.__setattr__"))
theorem Cls.get{K:yac}{C:Addr}(c:Cls K C)(f:Str):yfw K C f=true:=c.pg
def NoAttr(K:yac)(C:Addr)(f:Str):Prop:=yb5 K (.ref C) f=some none
theorem NoAttr.taker{K:yac}{C:Addr}{f:Str}(n:NoAttr K C f):yi4 K C f=some none:=by
 unfold yi4
 rw[show yb5 K (.ref C) f=some none from n]
 rfl
structure Meth(K:yac)(C:Addr)(m:Str)(f:Addr):Prop where
 at_:yb5 K (.ref C) m=some (some (.ref f))
 fn:yi3 K (.ref f)=true
 kp:yd7 K (.ref f)=true
section
variable {X:Cx}{pins:List (Addr × Obj)}{σ:St}{H:Hp}{s:yah}{a C dx:Addr}{fs:List (Str × V)}{f:Str}{v:V}{A:Around}{E:Value->yah->Prop}
theorem zq3{b:Bool}{Q:Value->yah->Prop}(I:Inv X pins σ H s)(e:H a=some (.ins C dx fs))(c:Cls X.K C)(n:NoAttr X.K C f)(l:fs.lookup f=some v)(h:∀ u s',Inv X pins σ H s'->RelV v u->Q u s'):wpAny (model X.prog X.w) A (getAttr (.ref a) f b) Q E s:=by
 obtain⟨mA,O,r,_,_,_⟩:=zlv I.hok e
 obtain⟨u,hu,ru⟩:=RelO.some_of (v:=v) (o:=mA f) (by rw[<- l];exact r f)
 exact zw3 I.kIn O (c.get f) c.hd n hu (zsj ru) (h u _ (I.tok _) ru)
theorem zkf{m:Str}{g:Addr}{pl:Sem Bool}{Q:Value × List Value->yah->Prop}(I:Inv X pins σ H s)(e:H a=some (.ins C dx fs))(c:Cls X.K C)(k:Meth X.K C m g)(l:fs.lookup m=none)(h:Q (.ref g,[.ref a]) s):wpAny (model X.prog X.w) A (getMethod (.ref a) m pl) Q E s:=by
 obtain⟨mA,O,r,_,_,_⟩:=zlv I.hok e
 have hn:mA m=none:=RelO.none_of (by rw[<- l];exact r m)
 exact zut I.kIn O (c.get m) k.at_ k.fn hn h
theorem zq4{y:V}{u:Value}{Q:Unit->yah->Prop}(I:Inv X pins σ H s)(e:H a=some (.ins C dx fs))(c:Cls X.K C)(n:NoAttr X.K C f)(hl:fs.length<1000)(ry:RelV y u)(h:∀ s',Inv X pins σ (upd H a (.ins C dx (putF f y fs))) s'->Q () s'):wpAny (model X.prog X.w) A (setAttr (.ref a) f u) Q E s:=by
 obtain⟨mA,O,r,wi,_,ho⟩:=zlv I.hok e
 have hz:(fs.map (·.1)).length<=yay:=by rw[yab,ybr];omega
 refine zw4 I.kIn O c.sa c.po n.taker c.hd wi hz fun h' O' sb=>h _ ?_
 have hd:∃ o,h'.get? dx=some o:=let ⟨o,_,_,e',_⟩:=O'.ns;⟨o,e'⟩
 refine I.write (x:=a) (e:=dx) (by rw[e];exact yew) (.inr ho) (fun b q hb z=>(sb.2 b hb).trans z) hd ?_
 refine⟨by rw[zh O.ne];exact ho,?_,O.ne,O'.obj,_,O'.ns,fun g=>?_,fun g hg=>?_⟩
 ·have:=zji f y fs;omega
 ·show RelO ((putF f y fs).lookup g) (if g=f then some u else mA g)
  rw[zjh]
  by_cases q:g=f
  ·rw[if_pos q,if_pos q];exact ry
  ·rw[if_neg q,if_neg q];exact r g
 ·by_cases q:g=f
  ·rw[q];exact(zh5 f y fs).1
  ·refine(zh5 f y fs).2 g (wi g fun z=>hg ?_)
   show(if g=f then some u else mA g)=none
   rw[if_neg q];exact z
theorem Inv.made(I:Inv X pins σ H s):Inv X pins σ (upd (upd H s.heap.objs.size (.own (s.heap.objs.size+1))) (s.heap.objs.size+1) (.ins C s.heap.objs.size []))
  { s with heap:=(s.heap.push yde).push (yed C s.heap.objs.size) }:=by
 have e1:(s.heap.push yde).get? s.heap.objs.size=some yde:=yaw s.heap rfl
 have e2:((s.heap.push yde).push (yed C s.heap.objs.size)).get? (s.heap.objs.size+1)=some (yed C s.heap.objs.size):=by
  have:=yaw (s.heap.push yde) (o:=yed C s.heap.objs.size) rfl
  rwa [ybe]at this
 have e3:(s.heap.push yde).Ns s.heap.objs.size (fun _=>none):=⟨yde,#[],_,e1,rfl,(fun e he=>absurd he (by simp)),fun _=>rfl⟩
 have I1:=I.laid (a:=s.heap.objs.size) (o:=.own (s.heap.objs.size+1)) (h':=s.heap.push yde) (t':=s.toks) (fun b u q=>yak _ q) (yao _) ⟨_,e1⟩
 refine I1.laid (a:=s.heap.objs.size+1) (o:=.ins C s.heap.objs.size []) (t':=s.toks) (fun b u q=>yak _ q) (yhk (ybe _ _)) ?_
 have ne:s.heap.objs.size≠s.heap.objs.size+1:=yba (ydz _)
 refine⟨by rw[zh ne,zd],ybj _,ne,e2,fun _=>none,(Heap.Ns1.of_empty e3).at fun o q=>yak _ q,fun _=>yew,fun y hy=>absurd rfl hy⟩
theorem zw5{prog:yav}{w:World}{env:Env}{e:Expr}{f:Str}{pos:Pos}{s:yah}{Q:Value->yah->Prop}(hb:ykk e f env (eval e env)=eval e env)(h:wpAny (model prog w) A (eval e env) (fun o s₁=>wpAny (model prog w) A (getAttr o f true) Q E s₁) E s):wpAny (model prog w) A (eval (.Attribute e f pos) env) Q E s :=
 Attribute_any_ h (by rw[arm_eval_Attribute,hb])
end
def tFld(K:yac)(ta:TE)(f:Str):TE:=fun σ H Q=>ta σ H fun x H1=>∃ a C dx fs v,x = .ref a/\H1 a=some (.ins C dx fs)/\Cls K C/\NoAttr K C f/\fs.lookup f=some v/\Q v H1
def sFld(K:yac)(ta tv:TE)(f:Str):TS:=fun D σ H=>tv σ H fun y H1=>ta σ H1 fun x H2=>∃ a C dx fs,x = .ref a/\H2 a=some (.ins C dx fs)/\Cls K C/\NoAttr K C f/\fs.length<1000 /\
 D.nx σ (upd H2 a (.ins C dx (putF f y fs)))
section
variable {X:Cx}{o e value:Expr}{f:Str}{pos pos' tpos:Pos}{ta tv:TE}
theorem zq(he:PE X e ta)(hb:ykk e f X.env (eval e X.env)=eval e X.env):PE X (.Attribute e f pos) (tFld X.K ta f):=by
 intro pins s σ H Q I h
 refine zw5 hb (thn (he pins s σ H _ I h) fun u s1 ⟨x,H1,I1,rx,a,C,dx,fs,v,ex,ea,c,n,l,q⟩=>?_)
 subst ex
 obtain rfl:u=ybm a:=rx
 exact zq3 I1 ea c n l fun u' s2 I2 ru=>⟨v,H1,I2,ru,q⟩
theorem zes(ha:PE X o ta)(hv:PE X value tv)(hs:swapsWith value (some (.Attribute o f pos')) pos.line X.env=pure false):PS X (.Assign [.Attribute o f pos'] value pos) (sFld X.K ta tv f):=by
 intro pins s σ H D I h
 refine plainObj_wpAny_Assign_Attribute (thn (hv pins s σ H _ I h) fun u s1 ⟨y,H1,I1,ry,q⟩=>thn (ha pins s1 σ H1 _ I1 q) fun ov s2 ⟨x,H2,I2,rx,a,C,dx,fs,ex,ea,c,n,l,q2⟩=>?_) hs
 subst ex
 obtain rfl:ov=ybm a:=rx
 exact zq4 I2 ea c n l ry fun s3 I3=>⟨σ,_,I3,q2⟩
end
section
variable {X:Cx}{pins:List (Addr × Obj)}{σ:St}{H:Hp}{s:yah}{A:Around}{E:Value->yah->Prop}{Q:Value->yah->Prop}{c:Value}{b:Bool}
end
end L2
namespace L2
open PySem PySem.Spec PyProof.Rows
structure Room(k:Nat)(A:Around):Prop where
 hd:A.handled=none
 dp:A.depth+3*k+5<recursionLimit
 un:A.units+16*k+200<cLine
theorem Room.mono{j k:Nat}{A:Around}(r:Room k A)(h:j<=k):Room j A:=⟨r.hd,by have:=r.dp;omega,by have:=r.un;omega⟩
theorem Room.deeper{k:Nat}{A:Around}(r:Room (k+1) A)(env:Env):Room k (A.deeper env) :=
 ⟨r.hd,by have:=r.dp;show A.depth+1+3*k+5<_;omega,by have:=r.un;show A.units+3+16*k+200<_;omega⟩
theorem zq5{A:Around}{C:Addr}{us:List Value}{kw:List (Str × Value)}:(A.under (.builtin "type.__call__" ⟨.ref C::us,kw⟩)).depth=A.depth+1:=by
 first | rfl | simp[yli,Code.weight,Code.isCreation,Code.isGuard,Code.isCaller,Code.frames,ylj,guardIds]
theorem zq6{A:Around}{C:Addr}{us:List Value}{kw:List (Str × Value)}:(A.under (.builtin "type.__call__" ⟨.ref C::us,kw⟩)).units=A.units+1:=by
 first | rfl | simp[yli,Code.cUnits,Code.frames,ylj]
theorem Room.make{k:Nat}{A:Around}(r:Room (k+1) A)(C:Addr)(us:List Value)(kw:List (Str × Value)):Room k (A.under (.builtin "type.__call__" ⟨.ref C::us,kw⟩)) :=
 ⟨r.hd,by have:=r.dp;rw[zq5];omega,by have:=r.un;rw[zq6];omega⟩
theorem Room.depth{k:Nat}{A:Around}(r:Room k A):A.depth<recursionLimit:=by have:=r.dp;omega
theorem Room.units{k:Nat}{A:Around}(r:Room k A):A.units+64<cLine:=by have:=r.un;omega
def tNil:TA:=fun _ H Q=>Q [] H
def tCons(ta:TE)(tr:TA):TA:=fun σ H Q=>ta σ H fun x H1=>tr σ H1 fun xs H2=>Q (x::xs) H2
section
variable {X:Cx}{e:Expr}{es:List Expr}{te:TE}{t:TA}{pos:Pos}
theorem zb:PA X [] tNil:=fun _ _ _ _ H Q I h=>yky ⟨[],H,I,.nil,h⟩
theorem za(ha:PE X e te)(hr:PA X es t)(hs:ycb (e::es) X.env=(false,eval e X.env)::ycb es X.env:=by rfl):PA X (e::es) (tCons te t):=by
 intro pos pins s σ H Q I h
 rw[hs]
 show wpAny _ _ (spliced ((false,eval e X.env)::backTo pos (ycb es X.env))) _ _ s
 refine ykl (thn (ha pins s σ H _ I h) fun u s1 ⟨x,H1,I1,r1,q1⟩=>?_)
 exact thn (hr pos pins s1 σ H1 _ I1 q1) fun us s2 ⟨xs,H2,I2,r2,q2⟩=>⟨x::xs,H2,I2,.cons r1 r2,q2⟩
def tTup(t:TA):TE:=fun σ H Q=>t σ H fun xs H1=>xs.length<=yay/\∀ p,H1 p=none->Q (.ref p) (upd H1 p (.tup xs))
def tLst(t:TA):TE:=fun σ H Q=>t σ H fun xs H1=>xs.length<=yay/\∀ p,H1 p=none->Q (.ref p) (upd H1 p (.lst xs))
theorem zh6{x1}(h:PA X es t):PE X (.Tuple es x1 pos) (tTup t):=by
 intro pins s σ H Q I hq
 refine wpAny_Tuple_spliced (thn (h pos pins s σ H _ I hq) fun us s1 ⟨xs,H1,I1,r,z,q⟩=>⟨by rw[<- r.length];exact z,?_⟩)
 have hf:H1 s1.heap.objs.size=none:=I1.hok.fresh (yao _)
 refine⟨.ref s1.heap.objs.size,upd H1 s1.heap.objs.size (.tup xs),I1.laid (t':=s1.toks) (fun b u e=>yak _ e) (yao _) ?_,rfl,q _ hf⟩
 exact⟨z,us,r,⟨_,yaw _ rfl,rfl,_,rfl⟩⟩
theorem zy(h:PA X es t):PE X (.List es pos) (tLst t):=by
 intro pins s σ H Q I hq
 refine wpAny_List_spliced (thn (h pos pins s σ H _ I hq) fun us s1 ⟨xs,H1,I1,r,z,q⟩=>⟨by rw[<- r.length];exact z,?_⟩)
 have hf:H1 s1.heap.objs.size=none:=I1.hok.fresh (yao _)
 refine⟨.ref s1.heap.objs.size,upd H1 s1.heap.objs.size (.lst xs),I1.laid (t':=s1.toks) (fun b u e=>yak _ e) (yao _) ?_,rfl,q _ hf⟩
 exact⟨z,us,0,r,yaw _ rfl⟩
end
abbrev Sp:=List V->Hp->VK->XK->Prop
abbrev CXT:=List Env->Hp->yah->XK->Value->yah->Prop
structure Env0(P:yav)(w:World)(K:yac)(mg:Str->Option Value)(base:Heap)(A:Around)(outer:List Env)(s:yah)(H:Hp):Prop where
 frames:A.frames=some outer
 mod:Mod K mg base
 bs:∀ b o,base.get? b=some o->s.heap.get? b=some o/\H b=none
 bsz:base.objs.size<=s.heap.objs.size
 funs:s.heap.FunFrames base outer
 frf:∀ b∈frs outer,H b=none
 hok:HOk P w H s.heap
 bare:AllBare s.gens
def CE(outer:List Env)(P:yav)(w:World)(H:Hp)(s:yah)(Q:VK)(u:Value)(s':yah):Prop :=
 ∃ v H',s'.os=s.os/\AllBare s'.gens/\Un (frs outer) [] H H' s.heap s'.heap/\HOk P w H' s'.heap/\RelV v u/\Q v H'
def CR(CX:CXT)(outer:List Env)(P:yav)(w:World)(H:Hp)(s:yah)(Q:VK)(E:XK)(r:Result)(s':yah):Prop :=
 match r with
 | .ok (.ret u)=>CE outer P w H s Q u s'
 | .ok _=>False
 | .error e=>CX outer H s E e s'
structure FnOk(P:yav)(w:World)(K:yac)(mg:Str->Option Value)(base:Heap)(CX:CXT)(k:Nat)(f:Addr)(fd:ya2)(ps:List Str)(sp:Sp):Prop where
 len:∀ vs H Q E,sp vs H Q E->vs.length=ps.length
 run:∀(A:Around) (outer:List Env) (s:yah) (H:Hp) (args:Args) (us:List Value) (vs:List V) (Q:VK) (E:XK),Room k A->Env0 P w K mg base A outer s H->BindsTo s fd args (ps.zip us)->Vals vs us->sp vs H Q E ->
  codeAny (model P w) A (.call (.ref f) args) (CR CX outer P w H s Q E) s
theorem FnOk.mono{P:yav}{w:World}{K:yac}{mg:Str->Option Value}{base:Heap}{CX:CXT}{j k:Nat}{f:Addr}{fd:ya2}{ps:List Str}{sp:Sp}(F:FnOk P w K mg base CX j f fd ps sp)(h:j<=k) :
  FnOk P w K mg base CX k f fd ps sp:=⟨F.len,fun A outer s H args us vs Q E hr=>F.run A outer s H args us vs Q E (hr.mono h)⟩
theorem Env0.make{P:yav}{w:World}{K:yac}{mg:Str->Option Value}{base:Heap}{A:Around}{outer:List Env}{s:yah}{H:Hp}(e:Env0 P w K mg base A outer s H)(C:Addr)(us:List Value)(kw:List (Str × Value)) :
  Env0 P w K mg base (A.under (.builtin "type.__call__" ⟨.ref C::us,kw⟩)) outer s H:=⟨by first | exact e.frames | (simpa [yli,Code.envs,ylj,pushEnvs] using e.frames),e.mod,e.bs,e.bsz,e.funs,e.frf,e.hok,e.bare⟩
section
variable {X:Cx}{pins:List (Addr × Obj)}{σ:St}{H:Hp}{s s':yah}
theorem Inv.env0(I:Inv X pins σ H s):Env0 X.prog X.w X.K X.mg X.base X.A X.stack s H :=
 ⟨I.ok.frames,I.ok.mod,I.bs,ybq I.ok.bsz I.sz,I.stack,I.stkFree,I.hok,I.bare⟩
theorem Inv.after{Q:VK}{u:Value}(I:Inv X pins σ H s)(h:CE X.stack X.prog X.w H s Q u s'):EP X pins σ Q u s':=by
 obtain⟨v,H',os,bare,un,hok,r,q⟩:=h
 obtain⟨hh,g,d,t,os'⟩:=s'
 obtain rfl:os'=s.os:=os
 exact⟨v,H',I.call (h':=hh) (g':=g) (d':=d) (t':=t) (ch:=[]) un hok bare (fun b z=>absurd z (by simp)),r,q⟩
end
def tCall(sp:Sp)(dvs:List V)(E:XK)(t:TA):TE:=fun σ H Q=>t σ H fun vs H1=>sp (vs++dvs) H1 Q E
def tMeth(C:Addr)(m:Str)(sp:Sp)(dvs:List V)(E:XK)(ta:TE)(t:TA):TE:=fun σ H Q=>ta σ H fun x H1=>∃ a dx fs,x = .ref a/\H1 a=some (.ins C dx fs)/\fs.lookup m=none /\
 t σ H1 fun vs H2=>sp (x::(vs++dvs)) H2 Q E
def tMake(C:Addr)(sp:Sp)(dvs:List V)(E:XK)(t:TA):TE:=fun σ H Q=>t σ H fun vs H1=>∀ x dx,H1 x=none->H1 dx=none->dx≠x ->
 sp (.ref x::(vs++dvs)) (upd (upd H1 dx (.own x)) x (.ins C dx [])) (fun v H2=>v = .non/\Q (.ref x) H2) E
def Binds(K:yac)(fd:ya2)(ps:List Str)(ds:List Value):Prop :=
 ∀(s:yah) (us:List Value),K.In s.heap->(us++ds).length=ps.length->BindsTo s fd ⟨us,[]⟩ (ps.zip (us++ds))
theorem Binds.all{K:yac}{fd:ya2}{ps:List Str}(h:∀ us:List Value,us.length=ps.length->bindArgs fd ⟨us,[]⟩=pure (ps.zip us)):Binds K fd ps []:=fun s us _ hl=>by
 rw[yex]at hl ⊢
 exact .of_eq (h us hl)
def zdu(CX:CXT)(X:Cx)(E:XK):Prop:=∀(pins:List (Addr × Obj)) (σ:St) (H:Hp) (s:yah) (e:Value) (s':yah),Inv X pins σ H s->CX X.stack H s E e s'->X.xe e s'
section
variable {X:Cx}{CX:CXT}{k:Nat}{f C:Addr}{fd:ya2}{ps:List Str}{sp:Sp}{dvs:List V}{ds:List Value}{E:XK}{x m:Str}{p pos apos:Pos}{e o:Expr}{es:List Expr}{ta:TE}{t:TA}
theorem zkg{pins:List (Addr × Obj)}{σ:St}{H:Hp}{s:yah}{Q:VK}{us:List Value}{vs:List V}(F:FnOk X.prog X.w X.K X.mg X.base CX k f fd ps sp)(hr:Room k X.A)(hb:Binds X.K fd ps ds)(hd:Vals dvs ds)(hx:zdu CX X E)(I:Inv X pins σ H s)(r:Vals vs us)(h:sp (vs++dvs) H Q E):wpAny (model X.prog X.w) X.A (call (.ref f) us) (EP X pins σ Q) X.xe s:=by
 have r2:Vals (vs++dvs) (us++ds):=r.append hd
 have hl:(us++ds).length=ps.length:=by rw[<- r2.length];exact F.len _ _ _ _ h
 refine ykz (codeAny_mono (F.run X.A X.stack s H ⟨us,[]⟩ (us++ds) (vs++dvs) Q E hr I.env0 (hb s us I.kIn hl) r2 h) fun r s' hq=>?_)
 cases r with
 | error e=>exact hx pins σ H s e s' I hq
 | ok fl =>
  cases fl with
  | ret u=>exact I.after hq
  | next=>exact yc7 hq
  | brk=>exact yc7 hq
  | cont=>exact yc7 hq
theorem zi(F:FnOk X.prog X.w X.K X.mg X.base CX k f fd ps sp)(hr:Room k X.A)(hg:Gl X x)(hm:X.mg x=some (.ref f))(hk:yd7 X.K (.ref f)=true)(hb:Binds X.K fd ps ds)(hd:Vals dvs ds)(hx:zdu CX X E)(ha:PA X (e::es) t)(hdb:(x == ("__debug__" : Str))=false:=by decide)(he:ycb (e::es) X.env=(false,eval e X.env)::ycb es X.env:=by rfl)(hpl:(backTo pos (ycb es X.env)).any (·.1)=false:=by rfl) :
  PE X (.Call (.Name x p) (e::es) [] pos) (tCall sp dvs E t):=by
 intro pins s σ H Q I h
 refine ydi (zd1 I hg hm ?_ hdb)
 refine yf1 (h₀:=X.base) I.ok.mod.kin hk (thn (ha pos pins s σ H _ I h) fun us s1 ⟨vs,H1,I1,r,q⟩=>⟨I1.kIn,?_⟩) he hpl
 exact zkg F hr hb hd hx I1 r q
theorem zuv(F:FnOk X.prog X.w X.K X.mg X.base CX k f fd ps sp)(hr:Room k X.A)(hg:Gl X x)(hm:X.mg x=some (.ref f))(hk:yd7 X.K (.ref f)=true)(hb:Binds X.K fd ps ds)(hd:Vals dvs ds)(hx:zdu CX X E)(hdb:(x == ("__debug__" : Str))=false:=by decide):PE X (.Call (.Name x p) [] [] pos) (tCall sp dvs E tNil):=by
 intro pins s σ H Q I h
 refine ydi (zd1 I hg hm ?_ hdb)
 exact yg8 I.kIn hk (zkg (us:=[]) F hr hb hd hx I .nil h)
theorem zai{pl:Sem Bool}(he:PE X o ta)(c:Cls X.K C)(hm:Meth X.K C m f)(F:FnOk X.prog X.w X.K X.mg X.base CX k f fd ps sp)(hr:Room k X.A)(hb:Binds X.K fd ps ds)(hd:Vals dvs ds)(hx:zdu CX X E)(ha:PA X (e::es) t)(hst:ycb (e::es) X.env=(false,eval e X.env)::ycb es X.env:=by rfl)(hpl:(backTo pos (ycb es X.env)).any (·.1)=false:=by rfl)(ht:eval (.Call (.Attribute o m apos) (e::es) [] pos) X.env=(do
   let ov <- eval o X.env
   standAt apos.atName
   let (f,first) <- holding [ov] (getMethod ov m pl)
   callWith pos f first (backTo pos (ycb (e::es) X.env)) (backToKw pos (keywordEach [] X.env))):=by rfl) :
  PE X (.Call (.Attribute o m apos) (e::es) [] pos) (tMeth C m sp dvs E ta t):=by
 intro pins s σ H Q I h
 refine yi6 (pl:=pl) (thn (he pins s σ H _ I h) fun u s1 ⟨x,H1,I1,rx,a,dx,fs,ex,ea,l,q⟩=>?_) ht
 subst ex
 obtain rfl:u=ybm a:=rx
 refine zkf I1 ea c hm l ?_
 refine yf1 (first:=[.ref a]) (h₀:=X.base) I.ok.mod.kin hm.kp (thn (ha pos pins s1 σ H1 _ I1 q) fun us s2 ⟨vs,H2,I2,r,q2⟩=>⟨I2.kIn,?_⟩) hst hpl
 exact zkg (us:=.ref a::us) (vs:=.ref a::vs) F hr hb hd hx I2 (.cons rfl r) q2
theorem za6{pl:Sem Bool}(he:PE X o ta)(c:Cls X.K C)(hm:Meth X.K C m f)(F:FnOk X.prog X.w X.K X.mg X.base CX k f fd ps sp)(hr:Room k X.A)(hb:Binds X.K fd ps ds)(hd:Vals dvs ds)(hx:zdu CX X E)(ht:eval (.Call (.Attribute o m apos) [] [] pos) X.env=(do
   let ov <- eval o X.env
   standAt apos.atName
   let (f,first) <- holding [ov] (getMethod ov m pl)
   callWith pos f first (backTo pos (ycb [] X.env)) (backToKw pos (keywordEach [] X.env))):=by rfl) :
  PE X (.Call (.Attribute o m apos) [] [] pos) (tMeth C m sp dvs E ta tNil):=by
 intro pins s σ H Q I h
 refine yi6 (pl:=pl) (thn (he pins s σ H _ I h) fun u s1 ⟨x,H1,I1,rx,a,dx,fs,ex,ea,l,q⟩=>?_) ht
 subst ex
 obtain rfl:u=ybm a:=rx
 refine zkf I1 ea c hm l ?_
 exact yg8 (first:=[.ref a]) I1.kIn hm.kp (zkg (us:=[.ref a]) (vs:=[.ref a]) F hr hb hd hx I1 (.cons rfl .nil) q)
structure Mk(K:yac)(C f:Addr):Prop where
 makes:yi5 K C=true
 init:yb5 K (.ref C) "__init__" = some (some (.ref f))
 fn:yi3 K (.ref f)=true
 kp:yd7 K (.ref C)=true
theorem znq{pins:List (Addr × Obj)}{σ:St}{H:Hp}{s:yah}{Q:VK}{us:List Value}{vs:List V}(M:Mk X.K C f)(F:FnOk X.prog X.w X.K X.mg X.base CX k f fd ps sp)(hr:Room (k+1) X.A)(hb:Binds X.K fd ps ds)(hd:Vals dvs ds)(hx:zdu CX X E)(I:Inv X pins σ H s)(r:Vals vs us)(h:∀ x dx,H x=none->H dx=none->dx≠x->sp (.ref x::(vs++dvs)) (upd (upd H dx (.own x)) x (.ins C dx [])) (fun v H2=>v = .non/\Q (.ref x) H2) E) :
  wpAny (model X.prog X.w) X.A (call (.ref C) us) (EP X pins σ Q) X.xe s:=by
 have hq:=h (s.heap.objs.size+1) s.heap.objs.size (I.hok.fresh (yid _)) (I.hok.fresh (yao _)) (yba (ydz _))
 have I2:=Inv.made (C:=C) I
 have r2:Vals (V.ref (s.heap.objs.size+1)::(vs++dvs)) (ybm (s.heap.objs.size+1)::(us++ds)):=.cons rfl (r.append hd)
 have hl:(ybm (s.heap.objs.size+1)::us++ds).length=ps.length:=by
  have e:=r2.length
  rw[F.len _ _ _ _ hq]at e
  exact e.symm
 refine ykz (zuu (f:=f) I.kIn M.makes M.init (beq_iff_eq.mp M.fn) (codeAny_mono (F.run _ X.stack _ _ ⟨ybm (s.heap.objs.size+1)::us,[]⟩ (ybm (s.heap.objs.size+1)::(us++ds)) _ _ E (hr.make C us [])
  (I2.env0.make C us []) (hb _ (ybm (s.heap.objs.size+1)::us) I2.kIn hl) r2 hq) fun r s' hq'=>?_))
 cases r with
 | error e=>exact hx pins σ _ _ e s' I2 hq'
 | ok fl =>
  cases fl with
  | ret u =>
   obtain⟨v,H',I3,rv,ev,q3⟩:=I2.after hq'
   subst ev
   exact⟨rv,⟨V.ref (s.heap.objs.size+1),H',I3,rfl,q3⟩⟩
  | next=>exact yc7 hq'
  | brk=>exact yc7 hq'
  | cont=>exact yc7 hq'
theorem zc5(M:Mk X.K C f)(F:FnOk X.prog X.w X.K X.mg X.base CX k f fd ps sp)(hr:Room (k+1) X.A)(hg:Gl X x)(hm:X.mg x=some (.ref C))(hb:Binds X.K fd ps ds)(hd:Vals dvs ds)(hx:zdu CX X E)(ha:PA X (e::es) t)(hdb:(x == ("__debug__" : Str))=false:=by decide)(he:ycb (e::es) X.env=(false,eval e X.env)::ycb es X.env:=by rfl)(hpl:(backTo pos (ycb es X.env)).any (·.1)=false:=by rfl) :
  PE X (.Call (.Name x p) (e::es) [] pos) (tMake C sp dvs E t):=by
 intro pins s σ H Q I h
 refine ydi (zd1 I hg hm ?_ hdb)
 refine yf1 (h₀:=X.base) I.ok.mod.kin M.kp (thn (ha pos pins s σ H _ I h) fun us s1 ⟨vs,H1,I1,r,q⟩=>⟨I1.kIn,?_⟩) he hpl
 exact znq M F hr hb hd hx I1 r q
theorem zuw(M:Mk X.K C f)(F:FnOk X.prog X.w X.K X.mg X.base CX k f fd ps sp)(hr:Room (k+1) X.A)(hg:Gl X x)(hm:X.mg x=some (.ref C))(hb:Binds X.K fd ps ds)(hd:Vals dvs ds)(hx:zdu CX X E)(hdb:(x == ("__debug__" : Str))=false:=by decide):PE X (.Call (.Name x p) [] [] pos) (tMake C sp dvs E tNil):=by
 intro pins s σ H Q I h
 refine ydi (zd1 I hg hm ?_ hdb)
 exact yg8 I.kIn M.kp (znq (us:=[]) M F hr hb hd hx I .nil h)
end
section
variable {X:Cx}{CX:CXT}{k:Nat}{f C:Addr}{fd:ya2}{ps ks:List Str}{sp:Sp}{E:XK}{x m:Str}{p pos apos kpos:Pos}{e o:Expr}{es:List Expr}{kws:List Keyword}{te ta:TE}{t tk:TA}{nm:Option Str}
variable {g:List Value->List Value->List Value}{gV:List V->List V->List V}
end
structure FnScope(N P:List Str)(sc:Scope):Prop where
 kind:sc.kind = .function
 co:sc.isCoroutine=false
 gen:sc.isGenerator=false
 nd:N.Nodup
 pre:N.take P.length=P
 par:∀ x∈P,sc.names.lookup x=some .local\/sc.names.lookup x=some .cell
 nofree:∀ y∈sc.names,y.2≠.free
theorem zmh{kindOf:Str->Option NameKind}{x:Str}:∀{binds:List (Str × Value)} {m:Str->Option Value},(∀ v,(x,v) ∉ binds)->bindL kindOf binds m x=m x
 | [],_,_=>rfl
 | (n,v)::r,m,h=>by
  unfold bindL
  rw[zmh fun w hw=>h w (yam _ hw)]
  split
  ·have:x≠n:=by rintro rfl;exact h v yaq
   simp[this]
  ·rfl
theorem zmi{kindOf:Str->Option NameKind}{x:Str}:∀{binds:List (Str × Value)} {m:Str->Option Value},(∀ v,(x,v) ∉ binds)->bindC kindOf binds m x=m x
 | [],_,_=>rfl
 | (n,v)::r,m,h=>by
  unfold bindC
  rw[zmi fun w hw=>h w (yam _ hw)]
  split
  ·rfl
  ·have:x≠n:=by rintro rfl;exact h v yaq
   simp[this]
theorem zmj{kindOf:Str->Option NameKind}{x:Str}{v:Value}:∀{P:List Str} {vs:List Value} {i:Nat} {m:Str->Option Value},P.Nodup->P[i]?=some x->vs[i]?=some v->kindOf x=some .local ->
  bindL kindOf (P.zip vs) m x=some v
 | [],_,_,_,_,h,_,_=>by simp at h
 | _::_,[],_,_,_,_,h,_=>by simp at h
 | p::P,w::vs,0,m,nd,h1,h2,hk=>by
  simp at h1 h2;subst h1;subst h2
  show bindL kindOf ((p,w)::P.zip vs) m p=_
  unfold bindL
  rw[zmh fun v hv=>(ydy.mp nd).1 (yi7 hv).1,if_pos hk]
  simp
 | p::P,w::vs,i+1,m,nd,h1,h2,hk=>by
  show bindL kindOf ((p,w)::P.zip vs) m x=_
  unfold bindL
  exact zmj (i:=i) (ydy.mp nd).2 (by simpa using h1) (by simpa using h2) hk
theorem zmk{kindOf:Str->Option NameKind}{x:Str}{v:Value}:∀{P:List Str} {vs:List Value} {i:Nat} {m:Str->Option Value},P.Nodup->P[i]?=some x->vs[i]?=some v->kindOf x≠some .local ->
  bindC kindOf (P.zip vs) m x=some v
 | [],_,_,_,_,h,_,_=>by simp at h
 | _::_,[],_,_,_,_,h,_=>by simp at h
 | p::P,w::vs,0,m,nd,h1,h2,hk=>by
  simp at h1 h2;subst h1;subst h2
  show bindC kindOf ((p,w)::P.zip vs) m p=_
  unfold bindC
  rw[zmi fun v hv=>(ydy.mp nd).1 (yi7 hv).1,if_neg hk]
  simp
 | p::P,w::vs,i+1,m,nd,h1,h2,hk=>by
  show bindC kindOf ((p,w)::P.zip vs) m x=_
  unfold bindC
  exact zmk (i:=i) (ydy.mp nd).2 (by simpa using h1) (by simpa using h2) hk
def start(N:List Str)(vs:List V):St:=vs.map some++yby (N.length - vs.length) none
def cxOf(CX:CXT)(P:yav)(w:World)(K:yac)(mg:Str->Option Value)(base:Heap)(N:List Str)(qual:Str)(scope:Scope)(f:Addr)(cd:Value)(A:Around)(outer:List Env)(s:yah)(H:Hp)(E:XK):Cx where
 prog:=P
 w:=w
 K:=K
 mg:=mg
 base:=base
 A:=A.deeper (envOfC qual scope s.heap.objs.size f cd)
 N:=N
 s_0:=s
 H_0:=H
 env:=envOfC qual scope s.heap.objs.size f cd
 outer:=outer
 stack:=envOfC qual scope s.heap.objs.size f cd::outer
 ex:=[]
 calm:=true
 fn:=fun _=>true
 pn:=[]
 xe:=fun e s'=>wpAny (model P w) (A.deeper (envOfC qual scope s.heap.objs.size f cd)) (leaving (envOfC qual scope s.heap.objs.size f cd) e) (fun _ s''=>CX outer H s E e s'') (fun e' s''=>CX outer H s E e' s'') s'
theorem znr{sc:Scope}{n:Nat}{x:Str}(h:sc.names.lookup x=some .cell):∃ c,(cellsFrom n sc.names []).lookup x=some c:=by
 have q:=yiw sc.names n [] (.inl h)
 exact Option.isSome_iff_exists.mp q
theorem zsk{CX:CXT}{P:yav}{w:World}{K:yac}{mg:Str->Option Value}{base:Heap}{N ps:List Str}{qual:Str}{scope:Scope}{f:Addr}{cd:Value}{A:Around}{outer:List Env}{s s1:yah}{H:Hp}{E:XK}{us:List Value}{vs:List V}(S:FnScope N ps scope)(hd:A.handled=none)(e0:Env0 P w K mg base A outer s H)(hl:vs.length=ps.length)(r:Vals vs us)(x:InCallC s s.heap.objs.size (bindL (envOfC qual scope s.heap.objs.size f cd).kindOf (ps.zip us) fun _=>none) (cellsFrom (s.heap.objs.size+1) scope.names []) (bindC (envOfC qual scope s.heap.objs.size f cd).kindOf (ps.zip us) fun _=>none) s1) :
  Inv (cxOf CX P w K mg base N qual scope f cd A outer s H E) [] (start N vs) H s1:=by
 have hpl:ps.length<=N.length:=by have:=congrArg yl5 S.pre;rw[yd0]at this;omega
 obtain⟨h1,tk,rfl,hk⟩:=x.done
 have noA:∀ b:Addr,b ∉ (cxOf CX P w K mg base N qual scope f cd A outer s H E).ex:=fun b z=>absurd (show b∈([]:List Addr) from z) (by simp)
 refine⟨⟨e0.mod,S.kind,rfl,rfl,yao _,fun y z c h1 h2=>?_,fun y hy=>?_,fun y c _ h=>?_,fun _=>hd,Around.frames_deeper e0.frames,.inr ⟨rfl,rfl⟩,fun b z=>absurd z (noA b),e0.bs,e0.bsz,fun b _ _=>noA b,fun b z=>absurd z (noA b),e0.funs,e0.frf⟩,
  rfl,e0.bare,Un.kept hk,⟨_,x.toInCall.ns,fun i y v h1 h2 h3=>?_⟩,fun y c h=>⟨_,x.cell y c h⟩,e0.hok.fresh (yao _),fun y c h=>?_,fun p hp=>absurd (show p∈([]:List (Addr × Obj)) from hp) (by simp),e0.hok.kept hk,?_⟩
 ·exact name_of_addr x.apart (ybs h1) (ybs h2)
 ·have hy:scope.names.lookup y=some .cell\/scope.names.lookup y=some .free:=hy
  rcases hy with hy | hy
  ·exact znr hy
  ·exact absurd rfl (S.nofree _ (ybs hy))
 ·exact ycx (x.above y c (ybs h))
 ·have hi:i<vs.length:=by
   unfold start at h2
   by_cases hi:i<vs.length
   ·exact hi
   ·rw[List.getElem?_append_right (by simpa using hi)]at h2
    rw[List.getElem?_replicate]at h2
    split at h2<;>cases h2
  have ha:vs[i]?=some v:=by
   unfold start at h2
   rw[yer (by simpa using hi),yaj]at h2
   cases e:vs[i]? with
   | none=>rw[e]at h2;cases h2
   | some a=>rw[e]at h2;cases h2;rfl
  obtain⟨u,hu,rv⟩:=r.get ha
  have hp:ps[i]?=some y:=by
   rw[<- S.pre,yey (by omega)];exact h1
  have ndP:ps.Nodup:=by rw[<- S.pre];exact S.nd.sublist (List.take_sublist _ _)
  refine⟨u,rv,?_⟩
  rcases S.par y (yat hp) with k | k
  ·exact .inl ⟨k,zmj ndP hp hu k⟩
  ·obtain⟨c,e⟩:=znr (n:=s.heap.objs.size+1) k
   refine .inr ⟨.inl k,c,e,?_⟩
   have q:=x.cell y c e
   rw[zmk ndP hp hu (by show scope.names.lookup y≠_;rw[k];decide)]at q
   exact q
 ·exact e0.hok.fresh (ycx (x.above y c (ybs h)))
 ·unfold start
  show _=N.length
  rw[ya7,yab,yi8]
  omega
theorem fn_of{CX:CXT}{P:yav}{w:World}{K:yac}{mg:Str->Option Value}{base:Heap}{k:Nat}{f:Addr}{name qual:Str}{params:Arguments}{body:List Stmt}{scope:Scope}{dV kV doc pm cdv ct oc:Value}{an od:Option Addr}{osl:Array (Option Value)}{N ps:List Str}{sp:Sp}(lk:K.lookup f=some ⟨oc,od,.func (yeo name qual params body scope dV kV doc pm an cdv ct),osl⟩)(hcd:yhq K cdv qual=true)(S:FnScope N ps scope)(len:∀ vs H Q E,sp vs H Q E->vs.length=ps.length)(hbody:∀(A:Around) (outer:List Env) (s:yah) (H:Hp) (vs:List V) (Q:VK) (E:XK),Room k (A.deeper (envOfC qual scope s.heap.objs.size f cdv))->sp vs H Q E ->
   ∃ t,PSs (cxOf CX P w K mg base N qual scope f cdv A outer s H E) body t/\t { nx:=fun _ H'=>Q .non H',rt:=Q } (start N vs) H) :
  FnOk P w K mg base CX (k+1) f (yeo name qual params body scope dV kV doc pm an cdv ct) ps sp:=by
 refine⟨len,fun A outer s H args us vs Q E hr e0 hb r hsp=>?_⟩
 have hl:=len _ _ _ _ hsp
 have KX:K.In s.heap:=e0.mod.kin.keeps fun b o e=>(e0.bs b o e).1
 have lim:s.heap.NoLimit:=e0.mod.nolimit.keeps fun b o e=>(e0.bs b o e).1
 have hkind:∀ y∈ps.zip us,scope.names.lookup y.1=some .local\/(scope.names.lookup y.1=some .cell/\((cellsFrom (s.heap.objs.size+1) scope.names []).lookup y.1).isSome=true):=fun⟨n,v⟩ hy=>by
  rcases S.par n (yi7 hy).1 with q | q
  ·exact .inl q
  ·exact .inr ⟨q,yiw _ _ _ (.inl q)⟩
 refine codeAny_call_function hr.depth (KX _ _ lk) rfl S.co S.gen rfl (PySem.W.codeRec_of KX hcd) (hb _ _ _ _ ?_)
 refine wpAny_newFunctionEnv_cells S.kind hkind fun env he s1 x=>?_
 subst he
 refine⟨lim.keeps x.toInCall.keep,codeAny_func ?_⟩
 obtain⟨t,ht,hq⟩:=hbody A outer s H vs Q E (hr.deeper _) hsp
 have I:Inv (cxOf CX P w K mg base N qual scope f cdv A outer s H E) [] (start N vs) H s1:=zsk S hr.hd e0 hl r x
 refine ydd (ht [] s1 (start N vs) H _ I hq) (fun fl s' hs=>?_) fun e s' hs=>hs
 have fin:∀{σ':St} {H':Hp} {v:V} {u:Value},Inv (cxOf CX P w K mg base N qual scope f cdv A outer s H E) [] σ' H' s'->RelV v u->Q v H'->CE outer P w H s Q u s' :=
  fun {σ' H' v u} J rv q=>⟨v,H',J.os,J.bare,J.base,J.hok,rv,q⟩
 cases fl with
 | ret u =>
  obtain⟨v,σ',H',J,rv,q⟩:=hs
  exact fin J rv q
 | next =>
  obtain⟨σ',H',J,q⟩:=hs
  exact fin (v:=V.non) (u:=ydn) J rfl q
 | brk =>
  obtain⟨_,_,_,q⟩:=hs
  exact yc7 q
 | cont =>
  obtain⟨_,_,_,q⟩:=hs
  exact yc7 q
end L2
namespace L2
open PySem PySem.Spec PyProof.Rows
section
variable {X:Cx}{x:Str}{p pos:Pos}{e:Expr}{es:List Expr}{t:TA}{id T:String}{r:List V->Hp->VK->Prop}
def tCB(r:List V->Hp->VK->Prop)(t:TA):TE:=fun σ H Q=>t σ H fun vs H1=>r vs H1 Q
theorem zaf(hc:CallR X (.builtin id) r)(hg:Gl X x)(hm:X.mg x=none)(hv:yd5 x=some (.builtin id))(ha:PA X (e::es) t)(hn:x ≠ "__name__" := by decide)(hdb:(x == ("__debug__" : Str))=false:=by decide)(he:ycb (e::es) X.env=(false,eval e X.env)::ycb es X.env:=by rfl)(hpl:(backTo pos (ycb es X.env)).any (·.1)=false:=by rfl):PE X (.Call (.Name x p) (e::es) [] pos) (tCB r t):=by
 intro pins s σ H Q I h
 refine ydi (zf5 I hg hm hv ?_ hn hdb)
 exact PyProof.Rows.callWith_builtin1 (thn (ha pos pins s σ H _ I h) fun us s1 ⟨vs,H1,I1,r1,q1⟩=>hc pins s1 σ H1 vs us Q I1 r1 q1) he hpl
theorem zcp(hc:CallR X (.type T) r)(hg:Gl X x)(hm:X.mg x=none)(hv:yd5 x=some (.type T))(ha:PA X (e::es) t)(hn:x ≠ "__name__" := by decide)(hdb:(x == ("__debug__" : Str))=false:=by decide)(he:ycb (e::es) X.env=(false,eval e X.env)::ycb es X.env:=by rfl)(hpl:(backTo pos (ycb es X.env)).any (·.1)=false:=by rfl):PE X (.Call (.Name x p) (e::es) [] pos) (tCB r t):=by
 intro pins s σ H Q I h
 refine ydi (zf5 I hg hm hv ?_ hn hdb)
 exact ycy (thn (ha pos pins s σ H _ I h) fun us s1 ⟨vs,H1,I1,r1,q1⟩=>hc pins s1 σ H1 vs us Q I1 r1 q1) he hpl
end
end L2
namespace HT
open PySem PyProof.Rows
section
open PySem.SeqAt
open PySem.AutoSeq1 (wpAny_loadPart')
open PySem.MeetsSeq PySem.MeetsSeq2 PySem.MeetsSeq3
end
section
variable {prog:yav}{w:World}{A:Around}{E:Value->yah->Prop}{s:yah}
end
end HT
namespace L2
open PySem PySem.Spec PyProof.Rows
section
variable {X:Cx}{e:Expr}{te:TE}{lo hi:Option Expr}{tl th:TO}{pos p2:Pos}
end
end L2
namespace L2
open PySem PySem.Spec PyProof.Rows
def ixN(n:Nat)(i:Int):Option Nat:=if 0<=i then(if i<n then some i.toNat else none) else if -(n:Int)<=i then some (i+n).toNat else none
def atI{α:Type}(xs:List α)(i:Int):Option α:=(ixN xs.length i).bind fun j=>xs[j]?
theorem zpv{n:Nat}{i:Int}{j:Nat}(h:ixN n i=some j):seqIndex? i n=some j/\j<n/\-(n:Int)<=i/\i<n:=by
 unfold ixN at h
 by_cases h0:0<=i
 ·rw[if_pos h0]at h
  by_cases h1:i<n
  ·rw[if_pos h1]at h
   have e:i.toNat=j:=ya1 h
   exact⟨by rw[seqIndex_of h0 h1,e],by omega,by omega,h1⟩
  ·rw[if_neg h1]at h;cases h
 ·rw[if_neg h0]at h
  by_cases h1:-(n:Int)<=i
  ·rw[if_pos h1]at h
   have e:(i+n).toNat=j:=ya1 h
   exact⟨by rw[seqIndex_neg (by omega) h1,e],by omega,h1,by omega⟩
  ·rw[if_neg h1]at h;cases h
theorem zlw{α:Type}{xs:List α}{i:Int}{v:α}(h:atI xs i=some v):∃ j,seqIndex? i xs.length=some j/\xs[j]?=some v/\j<xs.length/\-(xs.length:Int)<=i/\i<xs.length:=by
 unfold atI at h
 cases e:ixN xs.length i with
 | none=>rw[e]at h;cases h
 | some j =>
  rw[e]at h
  obtain⟨h1,h2,h3,h4⟩:=zpv e
  exact⟨j,h1,h,h2,h3,h4⟩
theorem zm{α:Type}{xs:List α}{j:Nat}{v:α}(h:xs[j]?=some v):atI xs (j:Int)=some v:=by
 have hj:j<xs.length:=(yag.mp h).1
 have e:ixN xs.length (j:Int)=some j:=by
  unfold ixN
  rw[if_pos (by omega),if_pos (by omega)];simp
 unfold atI;rw[e];exact h
def zw6(b:Expr):Prop:=∀ o i,subscripted b false o i=operate [o,i] (getItem o i)
def IxR(X:Cx)(r:R2):Prop :=
 ∀(value slice:Expr) (pins:List (Addr × Obj)) (s:yah) (σ:St) (H:Hp) (x y:V) (v u:Value) (Q:VK),Inv X pins σ H s->RelV x v->RelV y u->r x y H Q ->
  subscripted slice false v u=operate [v,u] (getItem v u)->wpAny (model X.prog X.w) X.A (subscriptTail value slice v u) (EP X pins σ Q) X.xe s
def MtR(X:Cx)(id:String)(r:V->List V->Hp->VK->Prop):Prop :=
 ∀(pins:List (Addr × Obj)) (s:yah) (σ:St) (H:Hp) (x:V) (xs:List V) (v:Value) (us:List Value) (Q:VK),Inv X pins σ H s->RelV x v->Vals xs us->r x xs H Q ->
  wpAny (model X.prog X.w) X.A (call (.builtin id) (v::us)) (EP X pins σ Q) X.xe s
section
variable {X:Cx}{a b:Expr}{ta tb:TE}{pos:Pos}
theorem IxR.or{r r':R2}(h:IxR X r)(h':IxR X r'):IxR X (fun x y H Q=>r x y H Q\/r' x y H Q):=by
 intro value slice pins s σ H x y v u Q I rx ry q hs
 rcases q with q | q
 ·exact h value slice pins s σ H x y v u Q I rx ry q hs
 ·exact h' value slice pins s σ H x y v u Q I rx ry q hs
theorem zp{r:R2}(hr:IxR X r)(ha:PE X a ta)(hb:PE X b tb)(hs:zw6 b):PE X (.Subscript a b pos) (tOp r ta tb):=by
 intro pins s σ H Q I h
 exact Subscript_ (binT ha hb I h fun v u s2 x y H2 I2 rx ry q=>hr a b pins s2 σ H2 x y v u Q I2 rx ry q (hs _ _))
def rIxL(K:yac):R2:=fun x y H Q=>∃ p xs i v,x = .ref p/\y = .int i/\SqL K H p xs/\atI xs i=some v/\Q v H
def rIxT(K:yac):R2:=fun x y H Q=>∃ p xs i v,x = .ref p/\y = .int i/\SqT K H p xs/\atI xs i=some v/\Q v H
def rIxS:R2:=fun x y H Q=>∃ z i c,x = .str z/\y = .int i/\z.length<=yay/\atI z.cps.toList i=some c/\Q (.str ⟨#[c]⟩) H
theorem ix_list:IxR X (rIxL X.K):=by
 intro value slice pins s σ H x y v u Q I rx ry h hs
 obtain⟨p,xs,i,z,rfl,rfl,hq,he,q⟩:=h
 cases rx
 obtain⟨t,rfl⟩:=ry
 obtain⟨its,r,pl,hz⟩:=I.list hq
 obtain⟨j,h1,h2,h3,h4,h5⟩:=zlw he
 obtain⟨w,ew,rw'⟩:=r.get h2
 have hl:=r.length
 have hn:=zg2
 have fin:EP X pins σ Q w s:=⟨z,H,I,rw',q⟩
 by_cases h0:0<=i
 ·have hj:i.toNat=j:=by
   rw[seqIndex_of h0 h5]at h1
   exact ya1 h1
  exact item_listR pl.isList h0 (by omega) (by rw[hj];simpa using ew) fin hs
 ·have hj:(i+(its.toArray.size:Int)).toNat=j:=by
   rw[seqIndex_neg (by omega) h4]at h1
   rw[ya3,<- hl]
   exact ya1 h1
  exact subscriptTail_builtinR (x:=w) pl.isList.typeIs slot_list_getitem.lookup
   (wpAny_getItem_list_neg (Q:=fun r s'=>r=w/\EP X pins σ Q r s') pl.isList (by omega) (by rw[ya3]<;>omega) (by omega) (by rw[hj];simpa using ew) ⟨rfl,fin⟩) hs
theorem ix_tup:IxR X (rIxT X.K):=by
 intro value slice pins s σ H x y v u Q I rx ry h hs
 obtain⟨p,xs,i,z,rfl,rfl,hq,he,q⟩:=h
 cases rx
 obtain⟨t,rfl⟩:=ry
 obtain⟨its,r,pl,hz⟩:=I.tuple hq
 obtain⟨j,h1,h2,h3,h4,h5⟩:=zlw he
 obtain⟨w,ew,rw'⟩:=r.get h2
 have hl:=r.length
 have hn:=zg2
 have fin:EP X pins σ Q w s:=⟨z,H,I,rw',q⟩
 exact subscriptTail_builtinR (x:=w) pl.typeIs slot_tuple_getitem.lookup
  (getItem_tuple (j:=j) (Q:=fun r s'=>r=w/\EP X pins σ Q r s') pl (by omega) (by omega) (by rw[ya3,<- hl];exact h1) (by simpa using ew) ⟨rfl,fin⟩) hs
theorem zzf:IxR X rIxS:=by
 intro value slice pins s σ H x y v u Q I rx ry h hs
 obtain⟨z,i,c,rfl,rfl,hz,he,q⟩:=h
 obtain⟨t,rfl⟩:=rx
 obtain⟨t',rfl⟩:=ry
 obtain⟨j,h1,h2,h3,h4,h5⟩:=zlw he
 have hl:z.cps.toList.length=z.length:=by simp[Str.length]
 rw[hl]at h1 h4 h5
 have hn:=zg2
 exact tail_any (typeIs_str s z t) slot_str_getitem.lookup (getItem_str (c:=c) (by
  have e1:decide (i < -(2 ^ 63:Int))=false:=decide_eq_false (by omega)
  have e2:decide (i ≥ 2 ^ 63)=false:=decide_eq_false (by omega)
  rw[e1,e2,ykm]) (by rw[h1];simpa using h2) ⟨.str ⟨#[c]⟩,H,I.tok _,⟨_,rfl⟩,q⟩) hs
def rIx(K:yac):R2:=fun x y H Q=>rIxL K x y H Q\/rIxT K x y H Q\/rIxS x y H Q
theorem zh7:IxR X (rIx X.K):=ix_list.or (ix_tup.or zzf)
theorem zq7(its:List Value)(n j:Nat)(u:Value):ycs (·.setIfInBounds j u) { cls:=.type "list",data:=.seq its.toArray n }={ cls:=.type "list",data:=.seq (its.set j u).toArray n }:=by
 simp[ycs]
theorem Inv.lst{pins:List (Addr × Obj)}{σ:St}{H:Hp}{s:yah}{p:Addr}{xs:List V}(I:Inv X pins σ H s)(h:H p=some (.lst xs)) :
  ∃(its:List Value) (n:Nat),Vals xs its/\s.heap.get? p=some { cls:=.type "list",data:=.seq its.toArray n }/\xs.length<=yay:=by
 obtain⟨z,its,n,r,e⟩:=I.hok p _ h
 exact⟨its,n,r,e,z⟩
theorem Inv.lstUpd{pins:List (Addr × Obj)}{σ:St}{H:Hp}{s:yah}{p:Addr}{xs ys:List V}{its its':List Value}{n n':Nat}{f:Obj->Obj}(I:Inv X pins σ H s)(h:H p=some (.lst xs))(ho:s.heap.get? p=some { cls:=.type "list",data:=.seq its.toArray n })(hf:f { cls:=.type "list",data:=.seq its.toArray n }={ cls:=.type "list",data:=.seq its'.toArray n' })(r:Vals ys its')(hz:ys.length<=yay)(t:Nat) :
  Inv X pins σ (upd H p (.lst ys)) { s with heap:=s.heap.update p f,toks:=t }:=by
 have e:(s.heap.update p f).get? p=some { cls:=.type "list",data:=.seq its'.toArray n' }:=by
  rw[ycm f ho (by rw[hf]<;>rfl),hf]
 refine I.write (x:=p) (e:=p) (by rw[h];trivial) (.inl rfl) (fun b u hb q=>(ycv _ _ (yee hb)).trans q) ⟨_,e⟩ ?_
 exact⟨hz,its',n',r,e⟩
def rSetL:V->V->V->Hp->(Hp->Prop)->Prop:=fun o i v H Q=>∃ p xs k j,o = .ref p/\i = .int k/\H p=some (.lst xs)/\ixN xs.length k=some j/\Q (upd H p (.lst (xs.set j v)))
theorem zux:PSet X rSetL:=by
 intro pins s σ H o i v ov iv u Q I ro ri rv h
 obtain⟨p,xs,k,j,rfl,rfl,hp,hj,q⟩:=h
 cases ro
 obtain⟨t,rfl⟩:=ri
 obtain⟨its,n,r,ho,hz⟩:=I.lst hp
 obtain⟨h1,h2,h3,h4⟩:=zpv hj
 have hl:=r.length
 have hn:=zg2
 have I':Inv X pins σ (upd H p (.lst (xs.set j v))) { s with heap:=s.heap.update p (ycs (·.setIfInBounds j u)) } :=
  I.lstUpd hp ho (zq7 its n j u) (r.set rv j) (by rw[yja];exact hz) s.toks
 by_cases h0:0<=k
 ·have hk:k.toNat=j:=by
   rw[seqIndex_of h0 h4]at h1
   exact ya1 h1
  exact PySem.W.ki_setAt ho h0 (by omega) (by rw[ya3,<- hl];exact h4) (by rw[hk];exact⟨_,I',q⟩)
 ·have hk:(k+(its.toArray.size:Int)).toNat=j:=by
   rw[seqIndex_neg (by omega) h3]at h1
   rw[ya3,<- hl]
   exact ya1 h1
  exact PySem.W.ki_setBack ho (by omega) (by rw[ya3,<- hl];exact h3) (by omega) (by rw[hk];exact⟨_,I',q⟩)
def flatV:V->Bool
 | .non=>true
 | .bl _=>true
 | .int _=>true
 | .str _=>true
 | _=>false
def eqV:V->V->Bool
 | .non,.non=>true
 | .bl a,.bl b=>a == b
 | .bl a,.int b=>(if a then 1 else 0) == b
 | .int a,.bl b=>a == (if b then 1 else 0)
 | .int a,.int b=>a == b
 | .str a,.str b=>a == b
 | _,_=>false
theorem zzg{A:Around}{s:yah}{y x:V}{u v:Value}(ry:RelV y u)(rx:RelV x v)(fy:flatV y=true)(fx:flatV x=true):yk0 A s u v (eqV y x):=by
 cases y with
 | non =>
  cases ry
  cases x with
  | non=>cases rx;exact yjb _
  | bl b=>cases rx;exact SeqAt.EqAt.none_bool b
  | int b=>obtain⟨t,rfl⟩:=rx;exact yjz b t
  | str b=>obtain⟨t,rfl⟩:=rx;exact SeqAt.EqAt.none_str b t
  | _=>exact absurd (show false=true from fx) ybb
 | bl a =>
  cases ry
  cases x with
  | non=>cases rx;exact SeqAt.EqAt.bool_none a
  | bl b=>cases rx;exact SeqAt.EqAt.bool_bool a b
  | int b=>obtain⟨t,rfl⟩:=rx;exact SeqAt.EqAt.bool_int a b t
  | str b=>obtain⟨t,rfl⟩:=rx;exact SeqAt.EqAt.bool_str a b t
  | _=>exact absurd (show false=true from fx) ybb
 | int a =>
  obtain⟨t',rfl⟩:=ry
  cases x with
  | non=>cases rx;exact yj0 a t'
  | bl b=>cases rx;exact SeqAt.EqAt.int_bool a t' b
  | int b=>obtain⟨t,rfl⟩:=rx;exact SeqAt.EqAt.int_int a t' b t
  | str b=>obtain⟨t,rfl⟩:=rx;exact ykf a t' b t
  | _=>exact absurd (show false=true from fx) ybb
 | str a =>
  obtain⟨t',rfl⟩:=ry
  cases x with
  | non=>cases rx;exact SeqAt.EqAt.str_none a t'
  | bl b=>cases rx;exact SeqAt.EqAt.str_bool a t' b
  | int b=>obtain⟨t,rfl⟩:=rx;exact ykg a t' b t
  | str b=>obtain⟨t,rfl⟩:=rx;exact SeqAt.EqAt.str_str a t' b t
  | _=>exact absurd (show false=true from fx) ybb
 | _=>exact absurd (show false=true from fy) ybb
def eqU(x:V)(u:Value):Bool:=match u with
 | .none=>eqV .non x
 | .bool b=>eqV (.bl b) x
 | .int i _=>eqV (.int i) x
 | .str z _=>eqV (.str z) x
 | _=>false
theorem zns{x y:V}{u:Value}(r:RelV y u)(f:flatV y=true):eqU x u=eqV y x:=by
 cases y with
 | non=>cases r;rfl
 | bl b=>cases r;rfl
 | int i=>obtain⟨t,rfl⟩:=r;rfl
 | str z=>obtain⟨t,rfl⟩:=r;rfl
 | _=>exact absurd (show false=true from f) ybb
theorem znt{A:Around}{s:yah}{x:V}{v:Value}(rx:RelV x v)(fx:flatV x=true):∀{xs:List V} {us:List Value},Vals xs us->xs.all flatV=true->∀ u∈us,yk0 A s u v (eqU x u)
 | _,_,.nil,_=>fun u hu=>by cases hu
 | y::xs,u::us,.cons r t,f=>fun u' hu=>by
  rw[List.all_cons,ycj]at f
  rcases yap.mp hu with rfl | hu
  ·rw[zns r f.1];exact zzg r rx f.1 fx
  ·exact znt rx fx t f.2 u' hu
theorem zag:CallR X (.builtin "len") (fun xs H Q=>∃ p ys,xs=[.ref p]/\(SqL X.K H p ys\/SqT X.K H p ys)/\Q (.int ys.length) H):=by
 intro pins s σ H xs us Q I r h
 obtain⟨p,ys,rfl,hq,q⟩:=h
 obtain⟨u,rfl,rx⟩:=vals1 r
 cases rx
 have hn:=zg2
 rcases hq with hq | hq
 ·obtain⟨its,r',pl,hz⟩:=I.list hq
  have hlen:=r'.length
  exact Calls.call_len_list pl.isList (by simp only[ya3]<;>omega) ⟨.int ys.length,H,I.tok _,⟨s.toks+1,by rw[ya3,hlen]⟩,q⟩
 ·obtain⟨its,r',pl,hz⟩:=I.tuple hq
  have hlen:=r'.length
  exact len_tuple pl (by simp only[ya3]<;>omega) ⟨.int ys.length,H,I.tok _,⟨s.toks+1,by rw[ya3,hlen]⟩,q⟩
theorem znu:CallR X (.type "list") (fun xs H Q=>∃ p ys,xs=[.ref p]/\(SqL X.K H p ys\/SqT X.K H p ys)/\∀ l,H l=none->Q (.ref l) (upd H l (.lst ys))):=by
 intro pins s σ H xs us Q I r h
 obtain⟨p,ys,rfl,hq,q⟩:=h
 obtain⟨u,rfl,rx⟩:=vals1 r
 cases rx
 have fin:∀(its:List Value),Vals ys its->ys.length<=yay->∀(h':Heap) (c':Nat),(∀ b o',s.heap.get? b=some o'->h'.get? b=some o') ->
   h'.get? s.heap.objs.size=some { cls:=.type "list",dict:=none,data:=.seq its.toArray c',slots:=#[] }->EP X pins σ Q (.ref s.heap.objs.size) { s with heap:=h' }:=fun its r' hz h' c' kp e =>
  ⟨.ref s.heap.objs.size,_,I.laid (t':=s.toks) kp (yao _) (show ObjOk X.prog X.w _ h' _ (.lst ys) from⟨hz,its,c',r',e⟩),rfl,q _ (I.hok.fresh (yao _))⟩
 rcases hq with hq | hq
 ·obtain⟨its,r',pl,hz⟩:=I.list hq
  have hlen:=r'.length
  obtain⟨o,ho,hc,n,hd⟩:=pl.isList
  exact call_list_seq p (.inl rfl) ho hc hd (fun h' c' kp e=>fin its r' hz h' c' kp e) (by simp only[ya3]<;>omega)
 ·obtain⟨its,r',pl,hz⟩:=I.tuple hq
  have hlen:=r'.length
  obtain⟨o,ho,hc,n,hd⟩:=pl
  exact call_list_seq p (.inr rfl) ho hc hd (fun h' c' kp e=>fin its r' hz h' c' kp e) (by simp only[ya3]<;>omega)
theorem zh0:CallR X (.type "tuple") (fun xs H Q=>∃ p ys,xs=[.ref p]/\((SqL X.K H p ys/\∀ l,H l=none->Q (.ref l) (upd H l (.tup ys)))\/(SqT X.K H p ys/\Q (.ref p) H))):=by
 intro pins s σ H xs us Q I r h
 obtain⟨p,ys,rfl,h⟩:=h
 obtain⟨u,rfl,rx⟩:=vals1 r
 cases rx
 rcases h with⟨hq,q⟩|⟨hq,q⟩
 ·obtain⟨its,r',pl,hz⟩:=I.list hq
  have hlen:=r'.length
  refine call_tuple_list pl.isList (fun h' kp=>?_) (by simp only[ya3]<;>omega)
  have I1:Inv X pins σ H { s with heap:=h' }:=I.kept (t':=s.toks) kp
  have I2:Inv X pins σ (upd H h'.objs.size (.tup ys)) { s with heap:=h'.push { cls:=.type "tuple",data:=.seq its.toArray } } :=
   I1.laid (t':=s.toks) (fun b o e=>yak _ e) (yao _) (show ObjOk X.prog X.w _ _ _ (.tup ys) from⟨hz,its,r',IsTup.new _ _⟩)
  exact⟨.ref h'.objs.size,_,I2,rfl,q _ (I1.hok.fresh (yao _))⟩
 ·obtain⟨its,r',pl,hz⟩:=I.tuple hq
  exact call_tuple_same pl ⟨.ref p,H,I,rfl,q⟩
def tyV(K:yac)(T:String)(x:V)(H:Hp):Prop:=match x with
 | .str _=>T = "str"
 | .int _=>T = "int"
 | .ref p=>(T = "list" /\ ∃ xs,SqL K H p xs)\/(T = "tuple" /\ ∃ o,K.lookup p=some o/\o.cls = .type "tuple" /\ o.dict=none) \/
   (T = "dict" /\ ((∃ kvs,H p=some (.dK kvs))\/∃ kvs,H p=some (.dT kvs)))\/(T = "set" /\ ∃ S n,H p=some (.set S n))
 | _=>False
theorem zzh{pins:List (Addr × Obj)}{σ:St}{H:Hp}{s:yah}{T:String}{x:V}{v:Value}(I:Inv X pins σ H s)(r:RelV x v)(ty:tyV X.K T x H) :
  s.TypeIs v T/\∀ a,v = .ref a->∃ ob,s.heap.get? a=some ob/\ob.dict=none:=by
 cases x with
 | str z =>
  obtain⟨t,rfl⟩:=r
  cases (show T = "str" from ty)
  exact⟨typeIs_str s z t,fun _ e=>nomatch e⟩
 | int i =>
  obtain⟨t,rfl⟩:=r
  cases (show T = "int" from ty)
  exact⟨typeIs_int s i t,fun _ e=>nomatch e⟩
 | ref p =>
  cases r
  rcases ty with⟨rfl,xs,hq⟩|⟨rfl,o,hk,hc,hd⟩|⟨rfl,hk⟩|⟨rfl,S,n,hk⟩
  ·obtain⟨its,_,pl,_⟩:=I.list hq
   refine⟨pl.isList.typeIs,fun a e=>?_⟩
   cases e
   obtain⟨o,n,e,c,hd,_⟩:=pl
   exact⟨o,e,hd⟩
  ·refine⟨⟨o,I.kIn p o hk,hc⟩,fun a e=>?_⟩
   cases e
   exact⟨o,I.kIn _ o hk,hd⟩
  ·have z:∃ o,s.heap.get? p=some o/\o.ExactDict:=by
    rcases hk with⟨kvs,hk⟩|⟨kvs,hk⟩
    ·obtain⟨_,_,_,_,o,_,_,e,ex,_⟩:=I.hok p _ hk
     exact⟨o,e,ex⟩
    ·obtain⟨_,_,_,_,o,_,_,e,ex,_⟩:=I.hok p _ hk
     exact⟨o,e,ex⟩
   obtain⟨o,e,ex⟩:=z
   refine⟨⟨o,e,ex.1⟩,fun a e2=>?_⟩
   cases e2
   exact⟨o,e,ex.2.1⟩
  ·obtain⟨o,_,_,_,e,ex,_⟩:=I.hok p _ hk
   refine⟨⟨o,e,ex.1⟩,fun a e2=>?_⟩
   cases e2
   exact⟨o,e,ex.2.1⟩
 | _=>exact yc7 ty
def tBM(K:yac)(T:String)(r:V->List V->Hp->VK->Prop)(to:TE)(t:TA):TE:=fun σ H Q=>to σ H fun x H1=>tyV K T x H1/\t σ H1 fun xs H2=>r x xs H2 Q
variable {o e:Expr}{es:List Expr}{to:TE}{t:TA}{name:Str}{apos cpos:Pos}{T id:String}{r:V->List V->Hp->VK->Prop}
theorem zhm(pa:PlainAttrs T)(slot:Slot T name id)(hty:typeOf (.builtin id)=pure (.type "method_descriptor"))(hm:MtR X id r)(ho:PE X o to)(ha:PA X (e::es) t)(hbase:ykk o name X.env (eval o X.env)=eval o X.env:=by rfl)(hfew:((backTo cpos (ycb (e::es) X.env)).all (fun x=>!x.1) && (backToKw cpos (keywordEach [] X.env)).all (fun x=>x.1.isSome)
   && decide ((e::es).length+([]:List Keyword).length+(if ([]:List Keyword).isEmpty then 0 else 1)<30))=true:=by rfl)(hline:(apos.endLine == cpos.line)=true:=by rfl)(hs:ycb (e::es) X.env=(false,eval e X.env)::ycb es X.env:=by rfl)(hplain:(backTo cpos (ycb es X.env)).any (·.1)=false:=by rfl) :
  PE X (.Call (.Attribute o name apos) (e::es) [] cpos) (tBM X.K T r to t):=by
 intro pins s σ H Q I h
 refine wpAny_Call_method_late hbase hfew hline rfl (thn (ho pins s σ H _ I h) fun v s1 ⟨x,H1,I1,r1,ty,q1⟩=>?_)
 obtain⟨h1,h2⟩:=zzh I1 r1 ty
 refine⟨T,id,pa,slot,hty,h1,h2,?_⟩
 have hA:=ha cpos pins s1 σ H1 _ I1 q1
 rw[hs]at hA ⊢
 refine Calls.callWith_builtin (by show(false || (backTo cpos (ycb es X.env)).any (·.1))=false;rw[hplain]<;>rfl) (Calls.evalArgs_plain ?_)
 exact thn hA fun us s2 ⟨vs,H2,I2,r2,q2⟩=>hm pins s2 σ H2 x vs v us Q I2 r1 r2 q2
end
end L2
namespace L2
open PySem PySem.Spec PyProof.Rows
def MtM(X:Cx)(id:String)(r:V->List V->Hp->VK->Prop):Prop :=
 ∀(pins:List (Addr × Obj)) (s:yah) (σ:St) (H:Hp) (x:V) (xs:List V) (v:Value) (us:List Value) (Q:VK),Inv X pins σ H s->RelV x v->Vals xs us->r x xs H Q ->
  wpAny (model X.prog X.w) X.A (call (.builtin id) (v::us)) (EP X pins σ Q) X.xe s
theorem Vals.one:∀{x:V} {us:List Value},Vals [x] us->∃ u,us=[u]/\RelV x u
 | _,_,.cons r .nil=>⟨_,rfl,r⟩
theorem Vals.rep{xs:List V}{us:List Value}(h:Vals xs us):∀ k:Nat,Vals (yby k xs).flatten (yby k us).flatten
 | 0=>.nil
 | k+1=>by
  rw[yds,yds,ydt,ydt]
  exact Vals.append h (Vals.rep h k)
theorem zml(its:List Value):∀(k:Nat) (acc:List Value),
  ymu (fun x1 x2=>x1++x2) acc.toArray (yby k its.toArray)=(acc++(yby k its).flatten).toArray
 | 0,acc=>by simp
 | k+1,acc=>by
  have e:acc.toArray++its.toArray=(acc++its).toArray:=by simp
  have e2:(acc++its)++(yby k its).flatten=acc++(yby (k+1) its).flatten:=by
   rw[yds,ydt,ybv]
  rw[<- e2,<- zml its k (acc++its),<- e,yds,yjc]
section
variable {X:Cx}{pins:List (Addr × Obj)}{σ:St}{H:Hp}{s:yah}{l b:Addr}{xs ys zs:List V}
theorem Inv.lset{its its':List Value}{n:Nat}{f:Array Value->Array Value}{t':Nat}(I:Inv X pins σ H s)(hH:H l=some (.lst xs))(e:s.heap.get? l=some { cls:=.type "list",data:=.seq its.toArray n })(hf:f its.toArray=its'.toArray)(hv:Vals ys its')(hz:ys.length<=yay) :
  Inv X pins σ (upd H l (.lst ys)) { s with heap:=s.heap.update l (ycs f),toks:=t' }:=by
 have q:=PySem.IsL.update e f
 rw[hf]at q
 refine I.write (x:=l) (e:=l) (by rw[hH];exact trivial) (.inl rfl) (fun b' u hb hu=>(ycv s.heap (ycs f) (yee hb)).trans hu) ⟨_,q⟩ ?_
 exact⟨hz,its',_,hv,q⟩
theorem Inv.lnew{its:List Value}{t':Nat}(I:Inv X pins σ H s)(hv:Vals ys its)(hz:ys.length<=yay) :
  Inv X pins σ (upd H s.heap.objs.size (.lst ys)) { s with heap:=s.heap.push { cls:=.type "list",data:=.seq its.toArray },toks:=t' } :=
 I.laid (fun _ _ q=>yak _ q) (yao _) ⟨hz,its,0,hv,yaw _ rfl⟩
theorem Inv.fresh(I:Inv X pins σ H s):H s.heap.objs.size=none:=I.hok.fresh (yao _)
theorem Inv.lstM(I:Inv X pins σ H s)(hH:H l=some (.lst xs)):xs.length<=yay/\∃(its:List Value) (n:Nat),Vals xs its/\xs.length=its.length/\s.heap.get? l=some { cls:=.type "list",data:=.seq its.toArray n }:=by
 obtain⟨z,its,n,r,e⟩:=I.hok l _ hH
 exact⟨z,its,n,r,r.length,e⟩
theorem zjw{n:Nat}(h:n<=yay):ydf n=false:=by
 unfold ydf
 exact decide_eq_false (by omega)
end
section
variable {X:Cx}
def zw7:V->List V->Hp->VK->Prop:=fun x vs H Q=>∃ l xs y,x = .ref l/\vs=[y]/\H l=some (.lst xs)/\xs.length<yay/\Q .non (upd H l (.lst (xs++[y])))
theorem zgj:MtM X "list.append" zw7:=by
 intro pins s σ H x vs v us Q I rx rv h
 obtain⟨l,xs,y,rfl,rfl,hH,hz,q⟩:=h
 cases rx
 obtain⟨u,rfl,ru⟩:=rv.one
 obtain⟨z,its,n,r,hl,e⟩:=I.lstM hH
 refine call_meets F.slot_list_append ⟨_,e,rfl⟩ F.entry_list_append (F.args_list_append_2 _ _) (PySem.list_append l its.toArray n u (by rw[ya3];omega)) ⟨e,?_⟩
 refine⟨.non,_,I.lset (its':=its++[u]) hH e (by simp) (r.append (.cons ru .nil)) ?_,rfl,q⟩
 rw[ya7,yep]
 omega
def zw8:V->List V->Hp->VK->Prop:=fun x vs H Q=>∃ l b xs zs,x = .ref l/\vs=[.ref b]/\H l=some (.lst xs)/\H b=some (.lst zs)/\xs.length+zs.length<=yay/\Q .non (upd H l (.lst (xs++zs)))
theorem zsl:MtM X "list.extend" zw8:=by
 intro pins s σ H x vs v us Q I rx rv h
 obtain⟨l,b,xs,zs,rfl,rfl,hH,hB,hz,q⟩:=h
 cases rx
 obtain⟨u,rfl,ru⟩:=rv.one
 cases ru
 obtain⟨z,its,n,r,hl,e⟩:=I.lstM hH
 obtain⟨z2,its2,n2,r2,hl2,e2⟩:=I.lstM hB
 have hsz:its.toArray.size+its2.toArray.size<=yay:=by rw[ya3,ya3];omega
 have hlong:¬ (!its.toArray.isEmpty && ydf (its.toArray.size+its2.toArray.size))=true:=by
  rw[zjw hsz,ymm]
  exact ybb
 refine call_meets yff ⟨_,e,rfl⟩ yj1 (yjs _ _)
  (AutoSeq1.list_extend_list_list_0 l its.toArray n b its2.toArray n2 hlong (by rw[ya3];omega) (by omega)) ⟨e,e2,?_⟩
 refine⟨.non,_,I.lset (its':=its++its2) hH e (by simp) (r.append r2) ?_,rfl,q⟩
 rw[ya7]
 omega
def rCat:R2:=fun x y H Q=>∃ l b xs zs,x = .ref l/\y = .ref b/\H l=some (.lst xs)/\H b=some (.lst zs)/\xs.length+zs.length<=yay/\∀ p,H p=none->Q (.ref p) (upd H p (.lst (xs++zs)))
theorem znv:OpR X (binaryOp .Add) rCat:=by
 intro pins s σ H x y v u Q I rx ry h
 obtain⟨l,b,xs,zs,rfl,rfl,hH,hB,hz,q⟩:=h
 cases rx
 cases ry
 obtain⟨z,its,n,r,hl,e⟩:=I.lstM hH
 obtain⟨z2,its2,n2,r2,hl2,e2⟩:=I.lstM hB
 refine PySem.P.add_list e e2 ?_ (by rw[ya3,ya3];omega)
 have ea:its.toArray++its2.toArray=(its++its2).toArray:=by simp
 rw[ea]
 exact⟨.ref _,_,I.lnew (t':=s.toks) (r.append r2) (by rw[ya7];omega),rfl,q _ I.fresh⟩
def rRep:R2:=fun x y H Q=>∃ l k xs,x = .ref l/\y = .int k/\H l=some (.lst xs)/\-(2 ^ 63)<=k/\k<2 ^ 63/\xs.length*k.toNat<=yay /\
 ∀ p,H p=none->Q (.ref p) (upd H p (.lst (yby k.toNat xs).flatten))
theorem zw9{α:Type}(xs:List α)(k:Nat):(yby k xs).flatten.length=k*xs.length:=by
 induction k with
 | zero=>simp
 | succ k ih=>rw[yds,ydt,ya7,ih,Nat.succ_mul,Nat.add_comm]
theorem zzi:OpR X (binaryOp .Mult) rRep:=by
 intro pins s σ H x y v u Q I rx ry h
 obtain⟨l,k,xs,rfl,rfl,hH,h1,h2,hz,q⟩:=h
 cases rx
 obtain⟨t,rfl⟩:=ry
 obtain⟨z,its,n,r,hl,e⟩:=I.lstM hH
 have hlen:its.toArray.size*k.toNat<=yay:=by rw[ya3,<- hl];exact hz
 have hcap:¬ its.toArray.size*k.toNat > (2 ^ 63 - 1) / 8:=by
  have:(yay:Nat)<=(2 ^ 63 - 1) / 8:=by decide
  omega
 have hfit:¬ (!Builtin.List.listFitsIndex k)=true:=by
  rw[fitsIndex_both h1 h2]
  exact ybb
 have hlong:¬ ydf (its.toArray.size*k.toNat)=true:=by
  rw[zjw hlen]
  exact ybb
 have hnew:ymu (fun x1 x2=>x1++x2) #[] (yby (if its.toArray.isEmpty=true then 0 else k.toNat) its.toArray)=(yby k.toNat its).flatten.toArray:=by
  have f0:∀ m:Nat,ymu (fun x1 x2=>x1++x2) #[] (yby m its.toArray)=(yby m its).flatten.toArray:=fun m=>by
   have:=zml its m []
   rw[yjd]at this
   exact this
  rw[f0]
  cases its with
  | nil=>simp
  | cons a r'=>rw[if_neg (by simp)]
 refine wpAny_binaryOp_repeat_ref (T := "list") (U := "int") (by decide) ⟨_,e,rfl⟩ (fun s'=>typeIs_int s' k t) noFill_list_mul F.fills_int_mul F.slot_int_rmul repeat_list F.slot_int_index.lookup
  (call_meets F.slot_int_rmul (typeIs_int s k t) F.entry_int_rmul (F.args_int_rmul_2 _ _) (int___rmul___int_list k t l its.toArray n)
   ⟨e,rfl,⟨_,e,rfl⟩,call_meets F.slot_list_mul ⟨_,e,rfl⟩ F.entry_list_mul (F.args_list_mul_2 _ _) (AutoListH.list___mul___list_int_3 l its.toArray n k t hfit hcap hlong) ⟨e,?_⟩⟩)
 rw[hnew]
 exact⟨.ref _,_,I.lnew (t':=s.toks) (r.rep k.toNat) (by rw[zw9,yfy];exact hz),rfl,q _ I.fresh⟩
end
section
variable {prog:yav}{w:World}{A:Around}{E:Value->yah->Prop}{s:yah}
end
section
variable {X:Cx}
end
end L2
namespace L2
open PySem PySem.Spec PyProof.Rows
theorem Vals.ints:∀{ns:List Int} {us:List Value},Vals (ns.map V.int) us->IntsAre us ns
 | [],us,h=>by
  rw[ygr]at h
  cases h
  exact IntsAre.nil
 | n::ns,us,h=>by
  rw[yb8]at h
  cases h with
  | cons r t =>
   obtain⟨k,rfl⟩:=r
   exact IntsAre.cons n k (Vals.ints t)
theorem zh8:∀{us:List Value} {ns:List Int},IntsAre us ns->Vals (ns.map V.int) us
 | _,_,.nil=>by rw[ygr];exact Paired.nil
 | _,_,.cons n t h=>by rw[yb8];exact Paired.cons (show RelV (V.int n) (yf0 n t) from⟨t,rfl⟩) (zh8 h)
theorem Vals.bls:∀{bs:List Bool} {us:List Value},Vals (bs.map V.bl) us->us=bs.map yhw
 | [],us,h=>by
  rw[ygr]at h
  cases h
  rfl
 | b::bs,us,h=>by
  rw[yb8]at h
  cases h with
  | cons r t =>
   cases r
   rw[Vals.bls t,yb8]
theorem Vals.ref1{a:Addr}{us:List Value}(r:Vals [V.ref a] us):us=[ybm a]:=by
 cases r with
 | cons r t =>
  cases t
  cases r
  rfl
section
variable {prog:yav}{w:World}{A:Around}{E:Value->yah->Prop}{s:yah}{l:Addr}{its:List Value}{ns:List Int}{Q:Value->yah->Prop}
theorem zxa(hh:A.handled=none)(hl:s.heap.IsList l its.toArray)(hi:IntsAre its ns)(h:∀ h' tk t',(∀ b o,s.heap.get? b=some o->h'.get? b=some o)->Q (.int ns.sum t') { s with heap:=h',toks:=tk }):wpAny (model prog w) A (call (.builtin "sum") [.ref l]) Q E s:=by
 obtain⟨xs,e⟩:=hi.allInts.items
 have hn:numsOf (intItems xs).toList=ns:=by rw[<- e];exact hi.numsOf
 rw[nums_intItems]at hn
 rw[e]at hl
 refine PySem.sum_intListG hh hl fun h' tk t' hk=>?_
 have:=h h' tk t' hk
 rw[preSum_eq,yix (by simp),hn];exact this
theorem zxb(hh:A.handled=none)(hl:s.heap.IsList l its.toArray)(hi:IntsAre its ns)(hne:0<ns.length)(h:∀ h' tk M t',(∀ b o,s.heap.get? b=some o->h'.get? b=some o)->M∈ns->(∀ a,a∈ns->a<=M)->Q (.int M t') { s with heap:=h',toks:=tk }):wpAny (model prog w) A (call (.builtin "max") [.ref l]) Q E s:=by
 obtain⟨xs,e⟩:=hi.allInts.items
 have hn:numsOf (intItems xs).toList=ns:=by rw[<- e];exact hi.numsOf
 rw[nums_intItems]at hn
 subst hn
 rw[e]at hl
 have hsz:0<xs.size:=by simpa using hne
 refine PySem.max_intList hh hl hsz fun v h' tk hv hk=>?_
 obtain⟨t,rfl⟩:=intItems_at hv
 obtain⟨h1,h2⟩:=argBest_gt (numAt xs) (xs.size - 1)
 refine h h' tk _ t hk ?_ fun a ha=>?_
 ·rw[numAt_eq];exact ymn (by rw[yab,ya0];omega)
 ·obtain⟨j,hj,rfl⟩:=mem_getD ha
  rw[yab,ya0]at hj
  rw[<- numAt_eq];exact h2 j (by omega)
theorem zxc(hh:A.handled=none)(hl:s.heap.IsList l its.toArray)(hi:IntsAre its ns)(hne:0<ns.length)(h:∀ h' tk M t',(∀ b o,s.heap.get? b=some o->h'.get? b=some o)->M∈ns->(∀ a,a∈ns->M<=a)->Q (.int M t') { s with heap:=h',toks:=tk }):wpAny (model prog w) A (call (.builtin "min") [.ref l]) Q E s:=by
 obtain⟨xs,e⟩:=hi.allInts.items
 have hn:numsOf (intItems xs).toList=ns:=by rw[<- e];exact hi.numsOf
 rw[nums_intItems]at hn
 subst hn
 rw[e]at hl
 have hsz:0<xs.size:=by simpa using hne
 refine PySem.min_intList hh hl hsz fun v h' tk hv hk=>?_
 obtain⟨t,rfl⟩:=intItems_at hv
 obtain⟨h1,h2⟩:=argBest_lt (numAt xs) (xs.size - 1)
 refine h h' tk _ t hk ?_ fun a ha=>?_
 ·rw[numAt_eq];exact ymn (by rw[yab,ya0];omega)
 ·obtain⟨j,hj,rfl⟩:=mem_getD ha
  rw[yab,ya0]at hj
  rw[<- numAt_eq];exact h2 j (by omega)
end
section
variable {X:Cx}
def rSum(K:yac):List V->Hp->VK->Prop:=fun vs H Q=>∃(a:Addr) (ns:List Int),vs=[V.ref a]/\SqL K H a (ns.map V.int)/\Q (.int ns.sum) H
def rMax(K:yac):List V->Hp->VK->Prop:=fun vs H Q=>∃(a:Addr) (ns:List Int),vs=[V.ref a]/\SqL K H a (ns.map V.int)/\0<ns.length/\∀ m,m∈ns->(∀ y,y∈ns->y<=m)->Q (.int m) H
def rMin(K:yac):List V->Hp->VK->Prop:=fun vs H Q=>∃(a:Addr) (ns:List Int),vs=[V.ref a]/\SqL K H a (ns.map V.int)/\0<ns.length/\∀ m,m∈ns->(∀ y,y∈ns->m<=y)->Q (.int m) H
theorem zkh(hc:X.calm=true):CallR X (.builtin "sum") (rSum X.K):=by
 intro pins s σ H vs us Q I r h
 obtain⟨a,ns,rfl,hs,q⟩:=h
 obtain⟨its,rv,hl,_⟩:=I.list hs
 rw[Vals.ref1 r]
 exact zxa (I.ok.hd hc) hl.isList rv.ints fun h' tk t' hk=>⟨.int _,H,I.kept hk,⟨_,rfl⟩,q⟩
theorem znw(hc:X.calm=true):CallR X (.builtin "max") (rMax X.K):=by
 intro pins s σ H vs us Q I r h
 obtain⟨a,ns,rfl,hs,hne,q⟩:=h
 obtain⟨its,rv,hl,_⟩:=I.list hs
 rw[Vals.ref1 r]
 exact zxb (I.ok.hd hc) hl.isList rv.ints hne fun h' tk m t' hk h1 h2=>⟨.int _,H,I.kept hk,⟨_,rfl⟩,q m h1 h2⟩
theorem zzj(hc:X.calm=true):CallR X (.builtin "min") (rMin X.K):=by
 intro pins s σ H vs us Q I r h
 obtain⟨a,ns,rfl,hs,hne,q⟩:=h
 obtain⟨its,rv,hl,_⟩:=I.list hs
 rw[Vals.ref1 r]
 exact zxc (I.ok.hd hc) hl.isList rv.ints hne fun h' tk m t' hk h1 h2=>⟨.int _,H,I.kept hk,⟨_,rfl⟩,q m h1 h2⟩
theorem zxd{n:Nat}(h:n<64):n<=yay:=by rw[ybr];omega
end
section
variable {X:Cx}
def zsm(K:yac):V->List V->Hp->VK->Prop:=fun x xs H Q=>∃(a:Addr) (ys:List V) (y:V) (j:Nat) (z:V),x=V.ref a/\xs=[y]/\SqL K H a ys/\flatV y=true/\ys.all flatV=true/\ys[j]?=some z/\eqV z y=true /\
 (∀(m:Nat) (z':V),m<j->ys[m]?=some z'->eqV z' y=false)/\Q (.int (j:Nat)) H
theorem zpw{ys:List V}(f:ys.all flatV=true){j:Nat}{z:V}(h:ys[j]?=some z):flatV z=true:=yem.mp f z (yat h)
theorem zuy:MtR X "list.index" (zsm X.K):=by
 intro pins s σ H x xs v us Q I rx rxs h
 obtain⟨a,ys,y,j,z,rfl,rfl,hs,fy,fys,hz,hzj,hno,q⟩:=h
 cases rx
 cases rxs with
 | cons ry rt =>
  rename_i uy ut
  cases rt
  obtain⟨its,rv,⟨⟨cls,dd,data,sl⟩,n,ho,hc,hdn,hd⟩,hlen⟩:=I.list hs
  simp only at hc hd
  subst hc hd
  obtain⟨u,hu,ru⟩:=rv.get hz
  obtain⟨hjl,hje⟩:=yag.mp hu
  have hvl:=rv.length
  have hj:j<its.toArray.size:=by simpa using hjl
  have hsl:=ybr
  refine call_meets yie ⟨_,ho,rfl⟩ PySem.F.entry_list_index (PySem.F.args_list_index_2 _ _)
   (SeqAt.list_indexAt a its.toArray n dd sl uy (eqU y) j hj (by omega) ?_ ?_) ⟨ho,fun u' hu'=>znt ry fy rv fys u' (by simpa using hu'),?_⟩
  ·have e1:its.toArray[j]=u:=by simpa using hje
   rw[e1,zns ru (zpw fys hz)]
   exact hzj
  ·intro m hm hmj
   have hml:m<its.length:=by simpa using hm
   have hmy:m<ys.length:=by omega
   have hy':ys[m]?=some ys[m]:=yad hmy
   obtain⟨u2,hu2,ru2⟩:=rv.get hy'
   obtain⟨_,hme⟩:=yag.mp hu2
   have e1:its.toArray[m]=u2:=by simpa using hme
   rw[e1,zns ru2 (zpw fys hy')]
   exact hno m _ hmj hy'
  ·exact⟨.int (j:Nat),H,I.tok _,⟨_,rfl⟩,q⟩
end
section
variable {X:Cx}
end
theorem zuz{prog:yav}{w:World}{A:Around}{E:Value->yah->Prop}{s:yah}{l:Addr}{items:Array Value}{Q:Value->yah->Prop}(hl:s.heap.IsList l items)(h:∀ s₂:yah,s₂={ s with heap:=s.heap.push { cls:=.type "list_iterator",data:=.fields #[.ref l,.int 0 0] } } ->
   (s₂.heap.IsListIter s.heap.objs.size l 0/\s₂.heap.IsList l items)->l≠s.heap.objs.size->Q (.ref s.heap.objs.size) s₂):wpAny (model prog w) A (pyIter (.ref l)) Q E s:=by
 have hlt:l<s.heap.objs.size:=by obtain⟨_,e,_⟩:=hl;exact yar e
 exact yge hl (h _ rfl ⟨⟨_,yaw _ rfl,rfl,rfl⟩,hl.push _⟩ (yba hlt))
theorem zph{prog:yav}{w:World}{A:Around}{bs:List Bool}{its:List Value}(e:its=bs.map yhw) :
  TruthOf prog w A (fun i v=>its.toArray[i]?=some v) (fun i=>bs.getD i false):=fun i v s Q E hv hq=>by
 have hv':its[i]?=some v:=by simpa using hv
 rw[e,yaj]at hv'
 obtain⟨b,hb,rfl⟩:=yfc.mp hv'
 have hg:bs.getD i false=b:=by rw[yal,hb]<;>rfl
 have hq':Q (bs.getD i false) s:=hq
 rw[hg]at hq'
 exact yfp hq'
theorem zmm:∀ bs:List Bool,(yae bs.length).any (fun i=>bs.getD i false)=bs.any id
 | []=>rfl
 | b::bs=>by
  rw[ybx,List.range_succ_eq_map,yg0,ylk,yg0,<- zmm bs]
  all_goals rfl
section
variable {X:Cx}
def rAny(K:yac):List V->Hp->VK->Prop:=fun vs H Q=>∃(a:Addr) (bs:List Bool),vs=[V.ref a]/\SqL K H a (bs.map V.bl)/\Q (.bl (bs.any id)) H
theorem zzk(hc:X.calm=true):CallR X (.builtin "any") (rAny X.K):=by
 intro pins s σ H vs us Q I r h
 obtain⟨a,bs,rfl,hs,q⟩:=h
 obtain⟨its,rv,hl,_⟩:=I.list hs
 rw[Vals.ref1 r]
 have hb:=rv.bls
 refine call_any_walk (zuz hl.isList fun s₂ e2 st hne=>?_)
 subst e2
 refine⟨_,_,_,_,_,_,_,rfl,Walks.list (A:=X.A.in1) (I.ok.hd hc) _ a hne its.toArray,st,zph hb,fun h' tk hk=>?_⟩
 refine⟨.bl _,H,I.kept fun b o eo=>hk b o (fun hmem=>?_) (yak _ eo),?_,q⟩
 ·rcases yap.mp hmem with e1 | hmem
  ·exact absurd (e1 ▸ yar eo) (ydw _)
  ·cases hmem
 ·show yhw _=yhw _
  rw[<- zmm,hb,ya3,yab]
end
mutual
inductive Dp (K:yac) (H:Hp):V->PyData->Prop
 | non:Dp K H .non .none
 | bl (b:Bool):Dp K H (.bl b) (.bool b)
 | int (i:Int):Dp K H (.int i) (.int i)
 | str (x:Str):Dp K H (.str x) (.str x)
 | lst {a:Addr} {xs:List V} {ds:List PyData}:SqL K H a xs->DpAll K H xs ds->Dp K H (.ref a) (.list ds)
 | tup {a:Addr} {xs:List V} {ds:List PyData}:SqT K H a xs->DpAll K H xs ds->Dp K H (.ref a) (.tuple ds)
inductive DpAll (K:yac) (H:Hp):List V->List PyData->Prop
 | nil:DpAll K H [] []
 | cons {v:V} {vs:List V} {d:PyData} {ds:List PyData}:Dp K H v d->DpAll K H vs ds->DpAll K H (v::vs) (d::ds)
end
section
variable {X:Cx}{pins:List (Addr × Obj)}{σ:St}{H:Hp}{s:yah}
mutual
theorem Dp.reads(I:Inv X pins σ H s):∀(d:PyData) (v:V) (u:Value),Dp X.K H v d->RelV v u->∃ as,Reads s.heap u d as
 | .none,_,_,h,r=>by
  cases h
  cases r
  exact⟨_,Reads.none⟩
 | .bool b,_,_,h,r=>by
  cases h
  cases r
  exact⟨_,Reads.bool b⟩
 | .int i,_,_,h,r=>by
  cases h
  obtain⟨t,rfl⟩:=r
  exact⟨_,Reads.int i t⟩
 | .str x,_,_,h,r=>by
  cases h
  obtain⟨t,rfl⟩:=r
  exact⟨_,Reads.str x t⟩
 | .list ds,_,_,h,r=>by
  cases h with
  | lst hs ha =>
   cases r
   obtain⟨its,rv,⟨o,n,ho,hc,_,hd⟩,_⟩:=I.list hs
   obtain⟨as,hr⟩:=Dp.readsAll I ds _ its ha rv
   exact⟨_,Reads.list ho hc hd hr⟩
 | .tuple ds,_,_,h,r=>by
  cases h with
  | tup hs ha =>
   cases r
   obtain⟨its,rv,⟨o,ho,hc,n,hd⟩,_⟩:=I.tuple hs
   obtain⟨as,hr⟩:=Dp.readsAll I ds _ its ha rv
   exact⟨_,Reads.tuple ho hc hd hr⟩
 | .dict _,_,_,h,_=>by cases h
theorem Dp.readsAll(I:Inv X pins σ H s):∀(ds:List PyData) (vs:List V) (us:List Value),DpAll X.K H vs ds->Vals vs us->∃ as,ReadsAll s.heap us ds as
 | [],_,_,h,r=>by
  cases h
  cases r
  exact⟨_,ReadsAll.nil⟩
 | d::ds,_,_,h,r=>by
  cases h with
  | cons h1 h2 =>
   cases r with
   | cons r1 r2 =>
    obtain⟨as,q1⟩:=Dp.reads I d _ _ h1 r1
    obtain⟨bs,q2⟩:=Dp.readsAll I ds _ _ h2 r2
    exact⟨_,ReadsAll.cons q1 q2⟩
end
end
section
variable {X:Cx}
def rNeD(K:yac):R2:=fun x y H Q=>∃ d e,Dp K H x d/\Dp K H y e/\SeqAt.shaped d=true/\SeqAt.shaped e=true/\Q (.bl (!PyData.eqv d e)) H
theorem zsn(hu:X.A.units+64<cLine):OpR X (compareOp .NotEq) (rNeD X.K):=by
 intro pins s σ H x y v u Q I rx ry h
 obtain⟨d,e,hd,he,sd,se,q⟩:=h
 obtain⟨as,r1⟩:=Dp.reads I d x v hd rx
 obtain⟨bs,r2⟩:=Dp.reads I e y u he ry
 exact SeqAt.compareNe_shaped r1 r2 sd se hu ⟨.bl _,H,I,rfl,q⟩
end
end L2
namespace L2
open PySem PySem.Spec PyProof.Rows
abbrev zso(h:Heap)(c:Addr)(v:Option Value):Prop:=h.IsCell c v
def relS(scope sc:Scope):Scope :=
 { scope with names:=scope.names.map fun (n,k)=>if (k == .free && sc.kind == .function && sc.names.lookup n == some .cell) then(n,.cell) else(n,k) }
def za1(cells:List (Str × Addr)):List (Str × NameKind)->List (Str × Addr)->List (Str × Addr)
 | [],acc=>acc
 | (n,k)::r,acc=>if k == .free then za1 cells r ((n,(cells.lookup n).getD 0)::acc) else za1 cells r acc
theorem zh9(env:Env)(f:Str × NameKind->List (Str × Addr)->Sem (ForInStep (List (Str × Addr))))(hf:∀ n k c,f (n,k) c=if k == .free then(do let a <- cellOf env n;pure (.yield ((n,a)::c))) else pure (.yield c)) :
  ∀(names:List (Str × NameKind)) (acc:List (Str × Addr)),(∀ y∈names,y.2 = .free->∃ c,env.cells.lookup y.1=some c)->forIn names acc f=pure (za1 env.cells names acc)
 | [],acc,_=>by rw[yd8];rfl
 | (n,k)::r,acc,h=>by
  rw[ydj,hf]
  have ih:=fun acc=>zh9 env f hf r acc fun y hy=>h y (yam _ hy)
  unfold za1
  by_cases hk:(k == yf2)=true
  ·rw[if_pos hk,if_pos hk]
   obtain⟨c,hc⟩:=h (n,k) yaq (by simpa using hk)
   have e:cellOf env n=pure c:=by unfold cellOf;rw[hc]
   rw[e]
   have e2:(env.cells.lookup n).getD 0=c:=by rw[hc];rfl
   rw[e2]
   exact ih _
  ·rw[if_neg hk,if_neg hk]
   exact ih _
theorem zq8{scope:Scope}{env:Env}(h:∀ y∈scope.names,y.2 = .free->∃ c,env.cells.lookup y.1=some c):closureFor scope env=pure (za1 env.cells scope.names []):=by
 simp only[closureFor]
 rw[zh9 env _ (fun n k c=>rfl) scope.names [] h]
 rfl
theorem zhn{α:Type}:∀{l:List (Str × α)} {n:Str} {c:α},(n,c)∈l->∃ c',l.lookup n=some c'
 | (k,v)::r,n,c,h=>by
  rw[yen]
  cases hb:n == k with
  | true=>exact⟨_,rfl⟩
  | false =>
   rcases yap.mp h with e | h
   ·cases e;simp at hb
   ·exact zhn h
theorem zfb{cells:List (Str × Addr)}:∀{names:List (Str × NameKind)} {acc:List (Str × Addr)} {n:Str} {c:Addr},(n,c)∈za1 cells names acc->(n,c)∈acc\/((n,.free)∈names/\c=(cells.lookup n).getD 0)
 | [],_,_,_,h=>.inl h
 | (m,k)::r,acc,n,c,h=>by
  unfold za1 at h
  split at h
  ·rename_i hk
   have hk:k = .free:=by simpa using hk
   rcases zfb h with h | ⟨h1,h2⟩
   ·rcases yap.mp h with e | h
    ·cases e;exact .inr ⟨hk ▸ yaq,rfl⟩
    ·exact .inl h
   ·exact .inr ⟨yam _ h1,h2⟩
  ·rcases zfb h with h | ⟨h1,h2⟩
   ·exact .inl h
   ·exact .inr ⟨yam _ h1,h2⟩
theorem zgt{cells:List (Str × Addr)}:∀{names:List (Str × NameKind)} {acc:List (Str × Addr)} {p:Str × Addr},p∈acc->p∈za1 cells names acc
 | [],_,_,h=>h
 | (m,k)::r,acc,p,h=>by
  unfold za1
  split
  ·exact zgt (yam _ h)
  ·exact zgt h
theorem zgu{cells:List (Str × Addr)}:∀{names:List (Str × NameKind)} {acc:List (Str × Addr)} {n:Str},(n,.free)∈names->(n,(cells.lookup n).getD 0)∈za1 cells names acc
 | (m,k)::r,acc,n,h=>by
  unfold za1
  rcases yap.mp h with e | h
  ·cases e
   exact zgt yaq
  ·split
   ·exact zgu h
   ·exact zgu h
theorem zfg:∀{names:List (Str × NameKind)} {h:Heap} {acc:List (Str × Addr)} {x:Str} {c:Addr},(x,c)∈cellsFrom h.objs.size names acc ->
  (x,c)∈acc\/((x,.cell)∈names/\h.objs.size<=c/\zso (pushCells h names) c none)
 | [],_,_,_,_,h=>.inl h
 | (n,k)::r,h,acc,x,c,hm=>by
  unfold cellsFrom at hm
  unfold pushCells
  split at hm
  ·rename_i hk
   rw[if_pos hk]
   have hk:k = .cell:=by simpa using hk
   rw[<- ybe h { cls:=.type "cell",data:=.cell none }]at hm
   rcases zfg hm with hm | ⟨h1,h2,h3⟩
   ·rcases yap.mp hm with e | hm
    ·cases e
     exact .inr ⟨hk ▸ yaq,yao _,_,pushCells_keeps r _ _ _ (yaw _ rfl),rfl⟩
    ·exact .inl hm
   ·rw[ybe]at h2
    exact .inr ⟨yam _ h1,ygg h2,h3⟩
  ·rename_i hk
   rw[if_neg hk]
   rcases zfg hm with hm | ⟨h1,h2,h3⟩
   ·exact .inl hm
   ·exact .inr ⟨yam _ h1,h2,h3⟩
theorem zgk:∀{names:List (Str × NameKind)} {n:Nat} {acc:List (Str × Addr)} {p:Str × Addr},p∈acc->p∈cellsFrom n names acc
 | [],_,_,_,h=>h
 | (m,k)::r,n,acc,p,h=>by
  unfold cellsFrom
  split
  ·exact zgk (yam _ h)
  ·exact zgk h
theorem zia:∀{names:List (Str × NameKind)} {n:Nat} {acc:List (Str × Addr)} {x:Str},(x,.cell)∈names->∃ c,(x,c)∈cellsFrom n names acc
 | (m,k)::r,n,acc,x,h=>by
  unfold cellsFrom
  rcases yap.mp h with e | h
  ·cases e
   exact⟨n,zgk yaq⟩
  ·split
   ·exact zia h
   ·exact zia h
theorem zib:∀{names:List (Str × NameKind)} {h:Heap} {acc:List (Str × Addr)} {x y:Str} {c:Addr},(∀ p∈acc,p.2<h.objs.size)->(∀ x y c,(x,c)∈acc->(y,c)∈acc->x=y) ->
  (x,c)∈cellsFrom h.objs.size names acc->(y,c)∈cellsFrom h.objs.size names acc->x=y
 | [],_,_,_,_,_,_,hi,h1,h2=>hi _ _ _ h1 h2
 | (n,k)::r,h,acc,x,y,c,hl,hi,h1,h2=>by
  unfold cellsFrom at h1 h2
  split at h1
  ·rename_i hk
   rw[if_pos hk]at h2
   rw[<- ybe h { cls:=.type "cell",data:=.cell none }]at h1 h2
   refine zib (h:=h.push _) (fun p hp=>?_) (fun x y c a b=>?_) h1 h2
   ·rw[ybe]
    rcases yap.mp hp with rfl | hp
    ·exact ydz _
    ·exact yeb (hl p hp)
   ·rcases yap.mp a with e | a<;>rcases yap.mp b with e' | b
    ·cases e;cases e';rfl
    ·cases e;exact absurd (hl _ b) (ydw _)
    ·cases e';exact absurd (hl _ a) (ydw _)
    ·exact hi _ _ _ a b
  ·rename_i hk
   rw[if_neg hk]at h2
   exact zib hl hi h1 h2
theorem zpi{M:Model}{A:Around}{E:Value->yah->Prop}{s:yah}{scope:Scope}{globals:Addr}{closure:List (Str × Addr)}{qual:Str}{func:Option Addr}{code:Value}{around:Env}{builtins:Addr}{Q:Env->yah->Prop}(h:Q (newEnv scope s.heap.objs.size globals (cellsFrom (s.heap.objs.size+1) scope.names closure) qual func code (some around) builtins)
   { s with heap:=pushCells (s.heap.push { cls:=.type "dict",data:=.dict #[] }) scope.names }) :
  wpAny M A (newFunctionEnv scope globals closure [] qual func code (some around) builtins) Q E s:=by
 simp only[newFunctionEnv,ykn,if_true]
 refine yaa (yl6 ?_)
 refine yaa (wpAny_layCells _ (fun n k c=>rfl) scope.names closure _ _ ?_)
 rw[show({ s with heap:=s.heap.push { cls:=.type "dict",data:=.dict #[] } }:yah).heap.objs.size=s.heap.objs.size+1 from ybe ..]
 rw[yd8]
 exact yaa (yai (yai h))
theorem zgv{sc:Scope}:∀{names:List (Str × NameKind)} {x:Str} {k:NameKind},
  (names.map fun (n,k)=>if (k == yf2 && sc.kind == .function && sc.names.lookup n == some .cell) then(n,yko) else(n,k)).lookup x=some k ->
  ∃ k',names.lookup x=some k'/\(k=k'\/(k' = .free/\k = .cell))
 | [],_,_,h=>by simp at h
 | (n,k₀)::r,x,k,h=>by
  have ih:=@zgv sc r x k
  have h':yfe x ((if (k₀ == yf2 && sc.kind == .function && sc.names.lookup n == some .cell)=true then(n,yko) else(n,k₀))::(r.map _))=some k:=h
  cases hx:x == n with
  | true =>
   simp only[yen,hx]
   by_cases hc:(k₀ == yf2 && sc.kind == .function && sc.names.lookup n == some .cell)=true
   ·rw[if_pos hc]at h'
    simp only[yen,hx]at h'
    cases h'
    simp only[ycj,beq_iff_eq]at hc
    exact⟨k₀,rfl,.inr ⟨hc.1.1,rfl⟩⟩
   ·rw[if_neg hc]at h'
    simp only[yen,hx]at h'
    cases h'
    exact⟨_,rfl,.inl rfl⟩
  | false =>
   simp only[yen,hx]
   by_cases hc:(k₀ == yf2 && sc.kind == .function && sc.names.lookup n == some .cell)=true
   ·rw[if_pos hc]at h'
    simp only[yen,hx]at h'
    exact ih h'
   ·rw[if_neg hc]at h'
    simp only[yen,hx]at h'
    exact ih h'
structure BlkOk(N:List Str)(sc scope:Scope)(own:List (Str × Nat)):Prop where
 kind:scope.kind = .function
 uniq:∀ y∈scope.names,scope.names.lookup y.1=some y.2
 ix:∀ p∈own,N[p.2]?=some p.1
 free:∀ y∈scope.names,y.2 = .free->sc.names.lookup y.1=some .cell\/sc.names.lookup y.1=some .free
 own:∀ y∈scope.names,y.2 = .local\/y.2 = .cell->y.1∈own.map (·.1)\/y.1 ∉ N
def wipe(σ:St):List Nat->St
 | []=>σ
 | v::vs=>(wipe σ vs).set v none
theorem zgw(σ:St):∀ vs:List Nat,(wipe σ vs).length = σ.length
 | []=>rfl
 | v::vs=>by unfold wipe;rw[yja,zgw σ vs]
theorem zic{σ:St}{i:Nat}{x:V}:∀{vs:List Nat},(wipe σ vs)[i]?=some (some x)->σ[i]?=some (some x)/\i ∉ vs
 | [],h=>⟨h,by simp⟩
 | v::vs,h=>by
  unfold wipe at h
  by_cases hi:v=i
  ·subst hi
   by_cases hv:v<(wipe σ vs).length
   ·rw[yga hv]at h;cases h
   ·rw[ybd (by simpa using hv)]at h;cases h
  ·rw[ygz hi]at h
   obtain⟨h1,h2⟩:=zic h
   exact⟨h1,by simp only[yap,not_or];exact⟨fun e=>hi e.symm,h2⟩⟩
abbrev Cx.blk(X:Cx)(s:yah)(H:Hp)(scope:Scope)(cenv:Env)(fp:List Addr):Cx:={ X with s_0:=s,H_0:=H,env:=cenv,outer:=X.stack,ex:=fp,fn:=fun x=>scope.names.lookup x == some .cell,pn:=[],xe:=fun _ _=>False }
section
variable {X:Cx}{pins:List (Addr × Obj)}{σ:St}{H:Hp}{s:yah}
theorem zpj{scope:Scope}{own:List (Str × Nat)}{fp:List Addr}(I:Inv X pins σ H s)(ok:BlkOk X.N X.env.scope scope own)(hN:X.N.Nodup)(hfp:∀ b∈fp,FpOk X pins H b/\b<s.heap.objs.size) :
  Inv (X.blk s H scope (compEnvC scope (cellsFrom (s.heap.objs.size+1) scope.names (za1 X.env.cells scope.names [])) s.heap.objs.size X.env) fp) [] (wipe σ (own.map (·.2))) H { s with heap:=pushCells (s.heap.push { cls:=.type "dict",data:=.dict #[] }) scope.names }:=by
 have hfree:∀ y∈scope.names,y.2 = .free->∃ c,X.env.cells.lookup y.1=some c:=fun y hy e=>by
  rcases ok.free y hy e with k | k
  ·exact I.ok.has _ (.inl k)
  ·exact I.ok.has _ (.inr k)
 generalize hcenv:compEnvC scope (cellsFrom (s.heap.objs.size+1) scope.names (za1 X.env.cells scope.names [])) s.heap.objs.size X.env=cenv
 have kp:∀ b o,s.heap.get? b=some o->(pushCells (s.heap.push { cls:=.type "dict",data:=.dict #[] }) scope.names).get? b=some o:=fun b o e=>pushCells_keeps _ _ _ _ (yak _ e)
 have hL:cenv.locals=s.heap.objs.size:=by rw[<- hcenv];rfl
 have hcl:cenv.cells=cellsFrom (s.heap.objs.size+1) scope.names (za1 X.env.cells scope.names []):=by rw[<- hcenv];rfl
 have hsc:cenv.scope=relS scope X.env.scope:=by rw[<- hcenv];rfl
 rw[<- ybe s.heap { cls:=.type "dict",data:=.dict #[] }]at hcl
 have cm:∀{y c},(y,c)∈za1 X.env.cells scope.names []->X.env.cells.lookup y=some c/\c<s.heap.objs.size:=fun {y c} hm=>by
  rcases zfb hm with hm | ⟨h1,rfl⟩
  ·cases hm
  ·obtain⟨c,hc⟩:=hfree _ h1 rfl
   rw[hc]
   obtain⟨w,z⟩:=I.cell _ _ hc
   exact⟨rfl,z.lt⟩
 have mem:∀{y c},cenv.cells.lookup y=some c->(X.env.cells.lookup y=some c/\c<s.heap.objs.size)\/(s.heap.objs.size+1<=c/\zso (pushCells (s.heap.push { cls:=.type "dict",data:=.dict #[] }) scope.names) c none):=fun {y c} e=>by
  rw[hcl]at e
  rcases zfg (ybs e) with hm | ⟨_,h2,h3⟩
  ·exact .inl (cm hm)
  ·rw[ybe]at h2;exact .inr ⟨h2,h3⟩
 have look:∀{y},scope.names.lookup y=some .free->∃ c,cenv.cells.lookup y=some c/\X.env.cells.lookup y=some c:=fun {y} hl=>by
  have hy:(y,yf2)∈scope.names:=ybs hl
  obtain⟨c',e'⟩:=zhn (zgk (names:=scope.names) (n:=(s.heap.push { cls:=.type "dict",data:=.dict #[] }).objs.size) (zgu (cells:=X.env.cells) (acc:=[]) hy))
  rw[<- hcl]at e'
  refine⟨c',e',?_⟩
  rw[hcl]at e'
  rcases zfg (ybs e') with hm | ⟨h1,_,_⟩
  ·exact(cm hm).1
  ·have:=ok.uniq _ h1
   rw[hl]at this;cases this
 have okB:(X.blk s H scope cenv fp).Ok:=by
  refine⟨I.ok.mod,by show cenv.scope.kind=_;rw[hsc];exact ok.kind,by show cenv.globals=_;rw[<- hcenv];exact I.ok.glob,by show cenv.builtins=_;rw[<- hcenv];exact I.ok.blt,by show s.heap.objs.size<=cenv.locals;rw[hL];exact yao _,
   fun y z c e1 e2=>?_,fun y hy=>?_,fun y c z e=>?_,I.ok.hd,I.ok.frames,.inl rfl,fun b hb=>⟨?_,fun y c e z=>?_⟩,I.bs,ybq I.ok.bsz I.sz,fun b o e hb=>?_,fun b hb z=>?_,I.stack,I.stkFree⟩
  ·have e1:cenv.cells.lookup y=some c:=e1
   have e2:cenv.cells.lookup z=some c:=e2
   rw[hcl]at e1 e2
   refine zib (fun p hp=>?_) (fun y z c a b=>I.ok.inj y z c (cm a).1 (cm b).1) (ybs e1) (ybs e2)
   rw[ybe]
   exact yeb (cm (y:=p.1) (c:=p.2) hp).2
  ·show ∃ c,cenv.cells.lookup y=some c
   have key:∀ k,cenv.kindOf y=some k->(k = .cell\/k = .free)->∃ c,cenv.cells.lookup y=some c:=fun k hk hk'=>by
    unfold Env.kindOf at hk
    rw[hsc]at hk
    obtain⟨k',e,r⟩:=zgv hk
    have:k' = .cell\/k' = .free:=by
     rcases r with rfl | ⟨rfl,_⟩
     ·exact hk'
     ·exact .inr rfl
    rcases this with rfl | rfl
    ·obtain⟨c,hm⟩:=zia (n:=(s.heap.push { cls:=.type "dict",data:=.dict #[] }).objs.size) (acc:=za1 X.env.cells scope.names []) (ybs e)
     obtain⟨c',e'⟩:=zhn hm
     exact⟨c',by rw[hcl];exact e'⟩
    ·obtain⟨c,h1,_⟩:=look e
     exact⟨c,h1⟩
   rcases hy with hy | hy
   ·exact key _ hy (.inl rfl)
   ·exact key _ hy (.inr rfl)
  ·have z:(scope.names.lookup y == some yko)=true:=z
   have z:scope.names.lookup y=some .cell:=by simpa using z
   have e:cenv.cells.lookup y=some c:=e
   rw[hcl]at e
   rcases zfg (ybs e) with hm | ⟨_,h2,_⟩
   ·rcases zfb hm with hm | ⟨h1,_⟩
    ·cases hm
    ·have q:=ok.uniq _ h1
     rw[z]at q;cases q
   ·rw[ybe]at h2
    exact ygg h2
  ·show b≠cenv.locals
   rw[hL];exact yba (hfp b hb).2
  ·have e:cenv.cells.lookup y=some c:=e
   rcases mem e with⟨h1,_⟩|⟨h1,_⟩
   ·exact(hfp b hb).1.2.2.2.2.1 y c h1 z
   ·have h2:s.heap.objs.size+1<=b:=by rw[<- z];exact h1
    exact absurd (yaz (hfp b hb).2 (ygg h2)) (ydw _)
  ·rcases (hfp b hb).1.2.2.2.1 with z | z
   ·exact I.ok.noex b o e z
   ·exact absurd (yaz (yar e) (ybq I.ok.bsz z)) (ydw _)
  ·rcases yap.mp (I.stkSub b z) with z | z
   ·exact(hfp b hb).1.2.1 z
   ·exact(hfp b hb).1.2.2.1 z
 refine⟨okB,rfl,I.bare,Un.kept kp,⟨fun _=>none,?_,fun i y av e1 e2 e3=>?_⟩,fun y c e=>?_,?_,fun y c e=>?_,fun p hp=>?_,I.hok.kept kp,by rw[zgw];exact I.len⟩
 ·show Heap.Ns _ cenv.locals _
  rw[hL]
  exact Heap.Ns.keeps (Heap.Ns.new ..) fun b o e=>pushCells_keeps _ _ _ _ e
 ·obtain⟨e2,hne⟩:=zic e2
  have hfr:scope.names.lookup y=some .free/\(cenv.kindOf y=some .cell\/cenv.kindOf y=some .free):=by
   have key:∀ k,cenv.scope.names.lookup y=some k->k = .local\/k = .cell\/k = .free->scope.names.lookup y=some .free/\(cenv.kindOf y=some .cell\/cenv.kindOf y=some .free):=fun k hk hk'=>by
    have hk0:=hk
    rw[hsc]at hk
    obtain⟨k',e,r⟩:=zgv hk
    have no:¬ (k' = .local\/k' = .cell):=fun hh=>by
     rcases ok.own _ (ybs e) hh with e' | e'
     ·obtain⟨p,hp,hpy⟩:=ya6.mp e'
      have e3:=ok.ix p hp
      have:p.1=y:=hpy
      rw[this]at e3
      exact hne (ya6.mpr ⟨p,hp,zjv hN e3 e1⟩)
     ·exact e' (yat e1)
    rcases r with rfl | ⟨rfl,rfl⟩
    ·rcases hk' with rfl | rfl | rfl
     ·exact absurd (.inl rfl) no
     ·exact absurd (.inr rfl) no
     ·exact⟨e,.inr hk0⟩
    ·exact⟨e,.inl hk0⟩
   have e3:Vis cenv.scope y:=e3
   rcases e3 with e3 | e3 | e3
   ·exact key _ e3 (.inl rfl)
   ·exact key _ e3 (.inr (.inl rfl))
   ·exact key _ e3 (.inr (.inr rfl))
  obtain⟨m,hn,hl⟩:=I.loc
  have hvis:Vis X.env.scope y:=(ok.free _ (ybs hfr.1) rfl).elim (fun k=>.inr (.inl k)) (fun k=>.inr (.inr k))
  obtain⟨w,r,q⟩:=hl i y av e1 e2 hvis
  refine⟨w,r,.inr ⟨hfr.2,?_⟩⟩
  obtain⟨c,h1,h2⟩:=look hfr.1
  rcases q with⟨k,_⟩|⟨_,c',e',z⟩
  ·have k:X.env.scope.names.lookup y=some .local:=k
   rcases ok.free _ (ybs hfr.1) rfl with k' | k'<;>rw[show X.env.scope.names.lookup y=_ from k']at k<;>cases k
  ·rw[h2]at e';cases e'
   exact⟨c,h1,z.keeps kp⟩
 ·have e:cenv.cells.lookup y=some c:=e
  rcases mem e with⟨h1,_⟩|⟨_,z⟩
  ·obtain⟨w,z⟩:=I.cell y c h1
   exact⟨w,z.keeps kp⟩
  ·exact⟨_,z⟩
 ·show H cenv.locals=none
  rw[hL];exact I.hok.fresh (yao _)
 ·have e:cenv.cells.lookup y=some c:=e
  rcases mem e with⟨h1,_⟩|⟨h1,_⟩
  ·exact I.freeC y c h1
  ·exact I.hok.fresh (ygg h1)
 ·exact absurd (show p∈([]:List (Addr × Obj))++[] from hp) (by simp)
theorem zzl{E:Value->yah->Prop}{D:Addr}{xs:List V}{y:V}{v:Value}{Q:Value->yah->Prop}(I:Inv X pins σ H s)(hD:H D=some (.lst xs))(hz:xs.length<yay)(r:RelV y v)(h:∀ s',Inv X pins σ (upd H D (.lst (xs++[y]))) s'->Q .none s'):wpAny (model X.prog X.w) X.A (call (.builtin "list.append") [.ref D,v]) Q E s:=by
 obtain⟨hz',its,n,ri,e⟩:=I.hok D _ hD
 have hl:=ri.length
 refine append_at (hsz:=by rw[ya3];omega) e fun h' sb ho'=>?_
 refine h { s with heap:=h' } (I.write (t':=s.toks) (by rw[hD];trivial) (.inl rfl) (fun b u hb q=>(sb.2 b hb).trans q) ⟨_,ho'⟩ ⟨by rw[ya7];exact hz,its++[v],n+1,ri.append (.cons r .nil),?_⟩)
 rw[ho']
 simp
def PTs(X:Cx)(ifs:List Expr)(t:TT):Prop :=
 ∀(pins:List (Addr × Obj)) (s:yah) (σ:St) (H:Hp) (Q:Bool->Hp->Prop),Inv X pins σ H s->t σ H Q ->
  wpAny (model X.prog X.w) X.A (forIn ifs true fun c r=>if r=true then do let ok <- isTrue c X.env (eval c X.env);pure (yg9 ok) else pure (yg9 r)) (TP X pins σ Q) X.xe s
def tYes:TT:=fun _ H Q=>Q true H
theorem zac:PTs X [] tYes:=fun _ _ _ H _ I h=>wpAny_tests_nil ⟨H,I,h⟩
theorem zpx{c:Expr}{t:TT}(h:PT X c t):PTs X [c] t:=fun pins s σ H Q I hw=>wpAny_tests_one (h pins s σ H Q I hw)
end
theorem thnF{α:Type}{t:Sem α}{Q Q':α->yah->Prop}{M:Model}{A:Around}{E:Value->yah->Prop}{s:yah}(h:wpAny M A t Q (fun _ _=>False) s)(hQ:∀ a s,Q a s->Q' a s):wpAny M A t Q' E s:=ydd h hQ fun _ _ z=>yc7 z
theorem znx{prog:yav}{w:World}{A:Around}{R:Result->yah->Prop}{s:yah}{elt target iter:Expr}{ifs:List Expr}{scope:Scope}{pos:Pos}{it acc:Value}{env:Env}(I:Nat->yah->Prop)(turn:∀ n s,I n s->wpAny (model prog w) A (pyNext it) (fun r s₁=>match r with
   | none=>R (.ok .next) s₁
   | some v=>wpAny (model prog w) A (letOwnedTupleGo target it v) (fun _ s₁'=>wpAny (model prog w) A (assign target env v) (fun _ s₂ =>
     wpAny (model prog w) A (forIn ifs true fun c r=>if r=true then do let ok <- isTrue c env (eval c env);pure (yg9 ok) else pure (yg9 r)) (fun ok s₃ =>
      if ok=true then wpAny (model prog w) A (eval elt env) (fun x s₄ =>
       wpAny (model prog w) A (call (.builtin "list.append") [acc,x]) (fun _ s₅=>∃ m,m<n/\I m s₅) (notedBy (model prog w) A env fun e s'=>R (.error e) s') s₄) (notedBy (model prog w) A env fun e s'=>R (.error e) s') s₃
      else ∃ m,m<n/\I m s₃) (notedBy (model prog w) A env fun e s'=>R (.error e) s') s₂) (notedBy (model prog w) A env fun e s'=>R (.error e) s') s₁') (notedBy (model prog w) A env fun e s'=>R (.error e) s') s₁) (notedBy (model prog w) A env fun e s'=>R (.error e) s') s)(n:Nat)(h:I n s) :
  codeAny (model prog w) A (.compLoop (.ListComp elt [⟨target,iter,ifs,0⟩] scope pos) 0 it acc env) R s:=by
 refine codeAny_loop rfl I (fun n s hI=>?_) n h
 show wpAny _ A ((compTurn (.ListComp elt [⟨target,iter,ifs,0⟩] scope pos) 0 it acc env).onRaise (fun x=>do noteFrame x env;theTreesLotGoes x)) _ _ s
 refine wpAny_noted ?_
 rw[compTurn_list]
 refine yaa (yic (yaa (ydd (turn n s hI) (fun r s₁ h₁=>?_) fun _ _ h'=>h')))
 cases r with
 | none=>exact yai h₁
 | some v =>
  refine yaa (ydd h₁ (fun _ s₁' h₁'=>?_) fun _ _ h'=>h')
  refine yaa (ydd h₁' (fun _ s₂ h₂=>yaa (ydd h₂ (fun ok s₃ h₃=>?_) fun _ _ h'=>h')) fun _ _ h'=>h')
  cases ok with
  | false=>exact yai ⟨rfl,h₃⟩
  | true =>
   exact yaa (yaa (ydd h₃ (fun x s₄ h₄=>yaa (ydd h₄ (fun _ s₅ h₅=>yai (yai ⟨rfl,h₅⟩)) fun _ _ h'=>h')) fun _ _ h'=>h'))
section
variable {X:Cx}
def tLc(wi:TI)(g:TG)(tt:TT)(te:TE)(vs:List Nat):TE:=fun σ H Q=>wi σ H fun J H1=>∀ D,H1 D=none->∃ W:Nat->Nat->Hp->Prop,(∃ m,W 0 m (upd H1 D (.lst [])))/\∀ i m H,W i m H ->
 (J.stop i H/\Q (.ref D) H)\/(J.go i H/\∃ Nx:Hp->Prop,(∀ H',Nx H'->∃ m',m'<m/\W (i+1) m' H')/\∀ x H',J.yld i H x H'->g x (wipe σ vs) H' fun σ2 H2=>wipe σ2 vs=wipe σ vs/\tt σ2 H2 fun b H3 =>
  if b=true then te σ2 H3 fun y H4=>∃ acc,H4 D=some (.lst acc)/\acc.length<yay/\Nx (upd H4 D (.lst (acc++[y]))) else Nx H3)
theorem zpy{pins:List (Addr × Obj)}{s:yah}{σ:St}{H:Hp}{Q:VK}{elt tg iter:Expr}{ifs:List Expr}{scope:Scope}{own:List (Str × Nat)}{pos pos':Pos}{wi:TI}{g:TG}{tt:TT}{te:TE}{use:Option (Value->Sem Unit)}{Qf:Value->yah->Prop}(hc:X.calm=true)(hN:X.N.Nodup)(I:Inv X pins σ H s)(hi:PI X tg iter wi)(ok:BlkOk X.N X.env.scope scope own)(hg:∀(s:yah) (H:Hp) (C:Addr) (cl:List (Str × Addr)) (fp:List Addr),PG (X.blk s H scope (compEnvC scope cl C X.env) fp) tg g)(ht:∀(s:yah) (H:Hp) (C:Addr) (cl:List (Str × Addr)) (fp:List Addr),PTs (X.blk s H scope (compEnvC scope cl C X.env) fp) ifs tt)(he:∀(s:yah) (H:Hp) (C:Addr) (cl:List (Str × Addr)) (fp:List Addr),PE (X.blk s H scope (compEnvC scope cl C X.env) fp) elt te)(hs:∀ x,foldedSetIterable iter X.env x=pure x)(h:tLc wi g tt te (own.map (·.2)) σ H Q)(hRR:∀ D C s' m H',Inv X pins σ H' s'->Q (.ref D) H'->s'.heap.Ns C m->FpOk X pins H' C->compPost (model X.prog X.w) X.A X.xe use Qf (.ref D) C (.ok .next) s') :
  wpAny (model X.prog X.w) X.A (comprehension (.ListComp elt [⟨tg,iter,ifs,0⟩] scope pos) scope X.env pos' (newList []) false (eval iter X.env) use) Qf X.xe s:=by
 have hfree:∀ y∈scope.names,y.2 = .free->∃ c,X.env.cells.lookup y.1=some c:=fun y hy e=>by
  rcases ok.free y hy e with k | k
  ·exact I.ok.has _ (.inl k)
  ·exact I.ok.has _ (.inr k)
 refine wpAny_comprehension_free (use:=use) rfl hs (zq8 hfree) ok.kind (fun y hy e=>by rw[ok.uniq y hy,e])
  (thn (hi pins s σ H _ I h) fun xv s1 hx=>thn hx fun itv s2 h2=>?_)
 obtain⟨it,fp,tn,J,H2,e,I2,T,st2,f2,q⟩:=h2
 subst e
 refine yfq (zpi ?_) (by show 0<=yay;decide)
 generalize hD:s2.heap.objs.size=D
 have hDn:H2 D=none:=I2.hok.fresh (yhk hD)
 obtain⟨W,⟨m0,w0⟩,turn⟩:=q D hDn
 generalize hs3:({ s2 with heap:=s2.heap.push { cls:=.type "list",data:=.seq ([]:List Value).toArray } }:yah)=s3
 have I3:Inv X pins σ (upd H2 D (.lst [])) s3:=by
  rw[<- hs3]
  refine I2.laid (t':=s2.toks) (fun b o e=>yak _ e) (yhk hD) ⟨ybj _,[],0,.nil,?_⟩
  rw[<- hD]
  exact yaw _ rfl
 have h3:s3.heap=s2.heap.push { cls:=.type "list",data:=.seq ([]:List Value).toArray }:=by rw[<- hs3]
 have sz:∀ b∈fp,b<s2.heap.objs.size:=fun b hb=>by
  obtain⟨o,e,_⟩:=T.obj _ _ st2 b hb
  exact yar e
 have f3:∀ b∈fp,FpOk X pins (upd H2 D (.lst [])) b/\b<s3.heap.objs.size:=fun b hb=>by
  have hlt:=sz b hb
  refine⟨⟨?_,(f2 b hb).2⟩,by rw[h3,ybe];exact yeb hlt⟩
  rw[zh (by rw[<- hD];exact yba hlt)]
  exact(f2 b hb).1
 have st3:tn 0 s3.heap:=T.keep _ _ _ st2 fun b _ o e=>by rw[h3];exact yak _ e
 have I4:=zpj I3 ok hN f3
 have pg:=hg s3 (upd H2 D (.lst [])) s3.heap.objs.size (cellsFrom (s3.heap.objs.size+1) scope.names (za1 X.env.cells scope.names [])) fp
 have pt:=ht s3 (upd H2 D (.lst [])) s3.heap.objs.size (cellsFrom (s3.heap.objs.size+1) scope.names (za1 X.env.cells scope.names [])) fp
 have pe:=he s3 (upd H2 D (.lst [])) s3.heap.objs.size (cellsFrom (s3.heap.objs.size+1) scope.names (za1 X.env.cells scope.names [])) fp
 show codeAny _ _ (.compStart (.ListComp elt [⟨tg,iter,ifs,0⟩] scope pos) 0 (.ref it) (.ref D) (compEnvC scope (cellsFrom (s3.heap.objs.size+1) scope.names (za1 X.env.cells scope.names [])) s3.heap.objs.size X.env)) (compPost (model X.prog X.w) X.A X.xe use Qf (.ref D) s3.heap.objs.size) { s3 with heap:=pushCells (s3.heap.push { cls:=.type "dict",data:=.dict #[] }) scope.names }
 have nfp:∀ b∈fp,(upd H2 D (.lst [])) b=none:=fun b hb=>(f3 b hb).1.1
 generalize hce:compEnvC scope (cellsFrom (s3.heap.objs.size+1) scope.names (za1 X.env.cells scope.names [])) s3.heap.objs.size X.env=ce at I4 pg pt pe ⊢
 have cL:ce.locals=s3.heap.objs.size:=by subst hce;rfl
 generalize hH3:upd H2 D (.lst [])=H3 at I3 I4 pg pt pe w0 nfp f3
 generalize hs4:({ s3 with heap:=pushCells (s3.heap.push { cls:=.type "dict",data:=.dict #[] }) scope.names }:yah)=s4 at I4 ⊢
 have st4:tn 0 s4.heap:=T.keep _ _ _ st3 fun b _ o e=>by rw[<- hs4];exact pushCells_keeps _ _ _ _ (yak _ e)
 have stat:∀{σ':St} {H':Hp} {s':yah},Inv (X.blk s3 H3 scope ce fp) [] σ' H' s'->(∀ b∈fp,H' b=none)->∀ b∈fp,FpOk (X.blk s3 H3 scope ce fp) [] H' b:=fun {σ' H' s'} I' hn b hb =>
  ⟨hn b hb,(I'.ok.exf b hb).1,I'.ok.exfs b hb,.inl hb,fun x c e=>(I'.ok.exf b hb).2 x c e,fun p hp=>absurd (show p∈([]:List (Addr × Obj))++[] from hp) (by simp)⟩
 have loop:codeAny (model X.prog X.w) X.A (.compLoop (.ListComp elt [⟨tg,iter,ifs,0⟩] scope pos) 0 (.ref it) (.ref D) ce) (compPost (model X.prog X.w) X.A X.xe use Qf (.ref D) s3.heap.objs.size) s4:=by
  refine znx (fun n s'=>∃ i H',Inv (X.blk s3 H3 scope ce fp) [] (wipe σ (own.map (·.2))) H' s'/\tn i s'.heap/\(∀ b∈fp,H' b=none)/\W i n H') ?_ m0 ⟨0,H3,I4,st4,nfp,w0⟩
  rintro n s5 ⟨i,H5,I5,st5,n5,w5⟩
  rcases turn i n H5 w5 with⟨stop,qq⟩|⟨go,Nx,hNx,step⟩
  ·have td:=T.done (X.blk s3 H3 scope ce fp) rfl rfl rfl hc i [] s5 _ H5 (fun _ _=>False) I5 (stat I5 n5) st5 stop
   refine thnF td fun r s6 ⟨hr,I6⟩=>?_
   subst hr
   have I7:Inv X pins σ H5 s6:=I3.call' (ch:=fp) I6.os I6.base I6.hok I6.bare fun b hb=>⟨(f3 b hb).1.2.2.2.1,(f3 b hb).1.2.1,(f3 b hb).1.2.2.2.2.1,(f3 b hb).1.2.2.2.2.2⟩
   have nC:H5 s3.heap.objs.size=none:=by
    have z:H5 ce.locals=none:=I6.free
    rw[cL]at z
    exact z
   obtain⟨m,hn,_⟩:=I6.loc
   have hn:s6.heap.Ns ce.locals m:=hn
   rw[cL]at hn
   exact hRR D s3.heap.objs.size s6 m H5 I7 qq hn (I3.fpOk (yao _) nC)
  ·have ti:=T.item (X.blk s3 H3 scope ce fp) rfl rfl rfl hc i [] s5 _ H5 (fun _ _=>False) I5 (stat I5 n5) st5 go
   refine thnF ti fun r s6 ⟨u,hr,h6⟩=>?_
   subst hr
   refine thnF h6 fun _ s7 ⟨x,H7,I7,r7,y7,st7,n7⟩=>?_
   have I7':=I7.pinned (stat I7 n7) (T.obj _ _ st7)
   refine thnF (pg _ s7 _ H7 x u _ I7' r7 (step x H7 y7)) fun _ s8 ⟨σ8,H8,I8,hw8,q8⟩=>?_
   refine thnF (pt _ s8 σ8 H8 _ I8 q8) fun b s9 ⟨H9,I9,q9⟩=>?_
   have fin:∀{s':yah} {H':Hp},Inv (X.blk s3 H3 scope ce fp) ([]++zh4 fp s7.heap) σ8 H' s'->Nx H'->∃ m,m<n/\∃ i H',Inv (X.blk s3 H3 scope ce fp) [] (wipe σ (own.map (·.2))) H' s'/\tn i s'.heap/\(∀ b∈fp,H' b=none)/\W i m H':=fun {s' H'} I' nx=>by
    obtain⟨m',hm,w'⟩:=hNx H' nx
    have pin':∀ b∈fp,∀ o,s7.heap.get? b=some o->s'.heap.get? b=some o/\H' b=none:=fun b hb o e =>
     let z:=I'.pin (b,o) (yce _ (yce _ (zhl hb e)))
     ⟨z.1,z.2.1⟩
    have hl:(wipe σ (own.map (·.2))).length = σ8.length:=by rw[<- hw8,zgw]
    refine⟨m',hm,i+1,H',(I'.unpinned (pins:=[])).weak hl (fun j v e=>?_),T.keep _ _ _ st7 fun b hb o e=>(pin' b hb o e).1,fun b hb=>?_,w'⟩
    ·rw[<- hw8]at e
     exact(zic e).1
    ·obtain⟨o,e,_⟩:=T.obj _ _ st7 b hb
     exact(pin' b hb o e).2
   cases b with
   | false =>
    simp only[yb4,if_false]at q9 ⊢
    exact fin I9 q9
   | true =>
    simp only[if_true]at q9 ⊢
    refine thnF (pe _ s9 σ8 H9 _ I9 q9) fun z s10 ⟨yv,H10,I10,r10,acc,hD10,hz10,nx⟩=>?_
    exact zzl (X:=X.blk s3 H3 scope ce fp) I10 hD10 hz10 r10 fun s11 I11=>fin I11 nx
 exact codeAny_compStart_list loop (T.self X.A 0 _ _ _ st4 loop)
theorem zaq{elt tg iter:Expr}{ifs:List Expr}{scope:Scope}{own:List (Str × Nat)}{pos:Pos}{wi:TI}{g:TG}{tt:TT}{te:TE}(hc:X.calm=true)(hN:X.N.Nodup)(hi:PI X tg iter wi)(ok:BlkOk X.N X.env.scope scope own)(hg:∀(s:yah) (H:Hp) (C:Addr) (cl:List (Str × Addr)) (fp:List Addr),PG (X.blk s H scope (compEnvC scope cl C X.env) fp) tg g)(ht:∀(s:yah) (H:Hp) (C:Addr) (cl:List (Str × Addr)) (fp:List Addr),PTs (X.blk s H scope (compEnvC scope cl C X.env) fp) ifs tt)(he:∀(s:yah) (H:Hp) (C:Addr) (cl:List (Str × Addr)) (fp:List Addr),PE (X.blk s H scope (compEnvC scope cl C X.env) fp) elt te)(hs:∀ x,foldedSetIterable iter X.env x=pure x:=by intro _;rfl) :
  PE X (.ListComp elt [⟨tg,iter,ifs,0⟩] scope pos) (tLc wi g tt te (own.map (·.2))):=by
 intro pins s σ H Q I h
 rw[eval_ListComp]
 refine zpy hc hN I hi ok hg ht he hs h fun D C s' m H' I' q hn f=>⟨m,hn,fun h'' sb=>?_⟩
 obtain⟨f0,f1,f2,f3,f4,f5⟩:=f
 exact⟨.ref D,H',I'.turned (t':=s'.toks) (fun b o hb e=>(sb.2 b hb).trans e) f0 f1 f3 f4 f5,rfl,q⟩
theorem zdv{i:Nat}{y:Str}{py:Pos}{elt tg iter:Expr}{ifs:List Expr}{scope:Scope}{own:List (Str × Nat)}{pos spos:Pos}{wi:TI}{g:TG}{tt:TT}{te:TE}(hc:X.calm=true)(hN:X.N.Nodup)(hy:X.N[i]?=some y)(hyl:X.env.scope.names.lookup y=some .local)(hsw:swapsWith (.ListComp elt [⟨tg,iter,ifs,0⟩] scope pos) (some (.Name y py)) spos.line X.env=pure true)(hi:PI X tg iter wi)(ok:BlkOk X.N X.env.scope scope own)(hg:∀(s:yah) (H:Hp) (C:Addr) (cl:List (Str × Addr)) (fp:List Addr),PG (X.blk s H scope (compEnvC scope cl C X.env) fp) tg g)(ht:∀(s:yah) (H:Hp) (C:Addr) (cl:List (Str × Addr)) (fp:List Addr),PTs (X.blk s H scope (compEnvC scope cl C X.env) fp) ifs tt)(he:∀(s:yah) (H:Hp) (C:Addr) (cl:List (Str × Addr)) (fp:List Addr),PE (X.blk s H scope (compEnvC scope cl C X.env) fp) elt te)(hs:∀ x,foldedSetIterable iter X.env x=pure x:=by intro _;rfl) :
  PS X (.Assign [.Name y py] (.ListComp elt [⟨tg,iter,ifs,0⟩] scope pos) spos) (tAsg (tLc wi g tt te (own.map (·.2))) (gName i)):=by
 intro pins s σ H D I h
 rw[exec_Assign_Name_used _ _ _ _ hsw]
 refine yaa (yic (yaa ?_))
 show wpAny _ X.A (do let _ <- comprehension (.ListComp elt [⟨tg,iter,ifs,0⟩] scope pos) scope X.env (firstIterPos [⟨tg,iter,ifs,0⟩] pos) (newList []) false (eval iter X.env) (some (assign (.Name y py) X.env))) _ _ s
 have h:tLc wi g tt te (own.map (·.2)) σ H (fun x H1=>gName i x σ H1 D.nx):=h
 refine yaa (thn (zpy (Qf:=fun _ s'=>SP X pins D .next s') hc hN I hi ok hg ht he hs h fun L C s' m H' I' q hn f=>?_) fun _ s' hq=>yai (yai hq))
 show wpAny _ _ (assign (.Name y py) X.env (.ref L)) _ _ _
 refine wpAny_assign_Name (zmf (v:=V.ref L) I' hN hy (.inl hyl) rfl (fun s2 I2 ⟨a,sb,ha⟩=>?_) (.inr hyl))
 obtain⟨f0,f1,f2,f3,f4,f5⟩:=f
 have haC:C≠a:=by
  rcases ha with z | z
  ·rw[z];exact f1
  ·exact fun e=>f4 y a z e.symm
 refine⟨m,hn.sameBut sb haC,fun h3 sb3=>?_⟩
 exact⟨_,H',I2.turned (t':=s2.toks) (fun b o hb e=>(sb3.2 b hb).trans e) f0 f1 f3 f4 f5,q⟩
theorem zek{elt:Expr}{gs:List Comprehension}{scope:Scope}{pos py:Pos}{y:Str}{l:Nat}{env:Env}(hk:env.scope.kind = .function)(hy:env.scope.names.lookup y=some .local)(hl:(py.line == pos.line)=true)(ha:(scope.names.any fun (n,k)=>n == y && (k == .local || k == .cell))=false):swapsWith (.ListComp elt gs scope pos) (some (.Name y py)) l env=pure true:=by
 have ky:env.kindOf y=some .local:=hy
 have hb:env.blockKind = .function:=by unfold Env.blockKind;rw[hk];rfl
 unfold swapsWith
 simp only[hb,ky,ha,Expr.pos,hl]
 rfl
end
theorem zey{lo:Int}{n:Nat}{g:TG}{tt:TT}{te:TE}{vs:List Nat}{σ:St}{H1:Hp}{D:Addr}{Qd:Hp->Prop}(Pv:Nat->Hp->Prop)(h0:Pv 0 (upd H1 D (.lst [])))(hs:∀ i H,i<n->Pv i H->g (.int (lo+i)) (wipe σ vs) H fun σ2 H2=>wipe σ2 vs=wipe σ vs/\tt σ2 H2 fun b H3 =>
   if b=true then te σ2 H3 fun y H4=>∃ acc,H4 D=some (.lst acc)/\acc.length<yay/\Pv (i+1) (upd H4 D (.lst (acc++[y]))) else Pv (i+1) H3)(hd:∀ H,Pv n H->Qd H) :
  ∃ W:Nat->Nat->Hp->Prop,(∃ m,W 0 m (upd H1 D (.lst [])))/\∀ i m H,W i m H ->
   ((Itr lo n).stop i H/\Qd H)\/((Itr lo n).go i H/\∃ Nx:Hp->Prop,(∀ H',Nx H'->∃ m',m'<m/\W (i+1) m' H')/\∀ x H',(Itr lo n).yld i H x H'->g x (wipe σ vs) H' fun σ2 H2=>wipe σ2 vs=wipe σ vs/\tt σ2 H2 fun b H3 =>
    if b=true then te σ2 H3 fun y H4=>∃ acc,H4 D=some (.lst acc)/\acc.length<yay/\Nx (upd H4 D (.lst (acc++[y]))) else Nx H3):=by
 refine⟨fun i m H=>m=n - i/\i<=n/\Pv i H,⟨n,by simp,ybj _,h0⟩,?_⟩
 rintro i m H ⟨rfl,hi,p⟩
 by_cases hlt:i<n
 ·refine .inr ⟨hlt,Pv (i+1),fun H' p'=>⟨n - (i+1),by omega,rfl,hlt,p'⟩,fun x H' y=>?_⟩
  obtain⟨e,y⟩:=y
  subst e y
  exact hs i _ hlt p
 ·have e:i=n:=by omega
  subst e
  exact .inl ⟨yao _,hd H p⟩
theorem zlx{K:yac}{a:Addr}{xs:List V}{g:TG}{tt:TT}{te:TE}{vs:List Nat}{σ:St}{H1:Hp}{D:Addr}{Qd:Hp->Prop}(Pv:Nat->Hp->Prop)(h0:Pv 0 (upd H1 D (.lst [])))(hl:∀ i H,i<=xs.length->Pv i H->SqL K H a xs)(hs:∀ i x H,xs[i]?=some x->Pv i H->g x (wipe σ vs) H fun σ2 H2=>wipe σ2 vs=wipe σ vs/\tt σ2 H2 fun b H3 =>
   if b=true then te σ2 H3 fun y H4=>∃ acc,H4 D=some (.lst acc)/\acc.length<yay/\Pv (i+1) (upd H4 D (.lst (acc++[y]))) else Pv (i+1) H3)(hd:∀ H,Pv xs.length H->Qd H) :
  ∃ W:Nat->Nat->Hp->Prop,(∃ m,W 0 m (upd H1 D (.lst [])))/\∀ i m H,W i m H ->
   ((Itl K a).stop i H/\Qd H)\/((Itl K a).go i H/\∃ Nx:Hp->Prop,(∀ H',Nx H'->∃ m',m'<m/\W (i+1) m' H')/\∀ x H',(Itl K a).yld i H x H'->g x (wipe σ vs) H' fun σ2 H2=>wipe σ2 vs=wipe σ vs/\tt σ2 H2 fun b H3 =>
    if b=true then te σ2 H3 fun y H4=>∃ acc,H4 D=some (.lst acc)/\acc.length<yay/\Nx (upd H4 D (.lst (acc++[y]))) else Nx H3):=by
 refine⟨fun i m H=>m=xs.length - i/\i<=xs.length/\Pv i H,⟨xs.length,by simp,ybj _,h0⟩,?_⟩
 rintro i m H ⟨rfl,hi,p⟩
 have q:=hl i H hi p
 by_cases hlt:i<xs.length
 ·refine .inr ⟨⟨xs,xs[i],q,by simp[hlt]⟩,Pv (i+1),fun H' p'=>⟨xs.length - (i+1),by omega,rfl,hlt,p'⟩,fun x H' y=>?_⟩
  obtain⟨e,y⟩:=y
  subst e
  exact hs i x _ (y xs q) p
 ·have e:i=xs.length:=by omega
  subst e
  exact .inl ⟨⟨xs,q,yao _⟩,hd H p⟩
theorem zzm{K:yac}{a:Addr}{xs:List V}{g:TG}{tt:TT}{te:TE}{vs:List Nat}{σ:St}{H1:Hp}{D:Addr}{Qd:Hp->Prop}(Pv:Nat->Hp->Prop)(h0:Pv 0 (upd H1 D (.lst [])))(hl:∀ i H,i<=xs.length->Pv i H->SqT K H a xs)(hs:∀ i x H,xs[i]?=some x->Pv i H->g x (wipe σ vs) H fun σ2 H2=>wipe σ2 vs=wipe σ vs/\tt σ2 H2 fun b H3 =>
   if b=true then te σ2 H3 fun y H4=>∃ acc,H4 D=some (.lst acc)/\acc.length<yay/\Pv (i+1) (upd H4 D (.lst (acc++[y]))) else Pv (i+1) H3)(hd:∀ H,Pv xs.length H->Qd H) :
  ∃ W:Nat->Nat->Hp->Prop,(∃ m,W 0 m (upd H1 D (.lst [])))/\∀ i m H,W i m H ->
   ((Itt K a).stop i H/\Qd H)\/((Itt K a).go i H/\∃ Nx:Hp->Prop,(∀ H',Nx H'->∃ m',m'<m/\W (i+1) m' H')/\∀ x H',(Itt K a).yld i H x H'->g x (wipe σ vs) H' fun σ2 H2=>wipe σ2 vs=wipe σ vs/\tt σ2 H2 fun b H3 =>
    if b=true then te σ2 H3 fun y H4=>∃ acc,H4 D=some (.lst acc)/\acc.length<yay/\Nx (upd H4 D (.lst (acc++[y]))) else Nx H3):=by
 refine⟨fun i m H=>m=xs.length - i/\i<=xs.length/\Pv i H,⟨xs.length,by simp,ybj _,h0⟩,?_⟩
 rintro i m H ⟨rfl,hi,p⟩
 have q:=hl i H hi p
 by_cases hlt:i<xs.length
 ·refine .inr ⟨⟨xs,xs[i],q,by simp[hlt]⟩,Pv (i+1),fun H' p'=>⟨xs.length - (i+1),by omega,rfl,hlt,p'⟩,fun x H' y=>?_⟩
  obtain⟨e,y⟩:=y
  subst e
  exact hs i x _ (y xs q) p
 ·have e:i=xs.length:=by omega
  subst e
  exact .inl ⟨⟨xs,q,yao _⟩,hd H p⟩
def blkC(N:List Str)(sc scope:Scope)(own:List (Str × Nat)):Bool :=
 (match scope.kind with | .function=>true | _=>false) && (scope.names.all fun y=>decide (scope.names.lookup y.1=some y.2)) && (own.all fun p=>decide (N[p.2]?=some p.1)) &&
  (scope.names.all fun y=>match y.2 with
   | .free=>(match sc.names.lookup y.1 with | some .cell=>true | some .free=>true | _=>false)
   | .local=>decide (y.1∈own.map (·.1)) || decide (y.1 ∉ N)
   | .cell=>decide (y.1∈own.map (·.1)) || decide (y.1 ∉ N)
   | _=>true)
theorem zu{N:List Str}{sc scope:Scope}{own:List (Str × Nat)}(h:blkC N sc scope own=true):BlkOk N sc scope own:=by
 unfold blkC at h
 simp only[ycj,yem,decide_eq_true_eq]at h
 obtain⟨⟨⟨h1,h2⟩,h3⟩,h4⟩:=h
 refine⟨?_,h2,h3,fun y hy e=>?_,fun y hy e=>?_⟩
 ·split at h1
  ·assumption
  ·cases h1
 ·have q:=h4 y hy
  simp only[e]at q
  split at q<;>first | exact .inl (by assumption) | exact .inr (by assumption) | cases q
 ·have q:=h4 y hy
  rcases e with e | e<;>(simp only[e,Bool.or_eq_true,decide_eq_true_eq]at q;exact q)
end L2
namespace L2
open PySem PySem.Spec PyProof.Rows
section
variable {prog:yav}{w:World}{A:Around}{R:Result->yah->Prop}{s:yah}{elt t0 i0 t1 i1:Expr}{ifs0 ifs1:List Expr}{scope:Scope}{pos:Pos}{it acc:Value}{env:Env}
end
section
variable {X:Cx}
end
end L2
namespace L2
open PySem PySem.Spec PyProof.Rows
section
variable {κ:Type}[DecidableEq κ]
def valV(kvs:List (κ × V))(k:κ):Option V:=(kvs.find? fun kv=>decide (kv.1=k)).map (·.2)
def putK(kvs:List (κ × V))(k:κ)(v:V):List (κ × V) :=
 if (kvs.any fun kv=>decide (kv.1=k))=true then kvs.map (fun kv=>if kv.1=k then(kv.1,v) else kv) else kvs++[(k,v)]
theorem zeh{p:κ × V}{r:List (κ × V)}{k:κ}(e:p.1=k):valV (p::r) k=some p.2:=by simp[valV,yfg,e]
theorem zei{p:κ × V}{r:List (κ × V)}{k:κ}(e:¬ p.1=k):valV (p::r) k=valV r k:=by simp[valV,yfg,e]
theorem zny(k:κ):∀ kvs:List (κ × V),(kvs.any fun kv=>decide (kv.1=k))=(valV kvs k).isSome
 | []=>rfl
 | p::r=>by
  rw[yg0]
  by_cases e:p.1=k
  ·simp only[zeh e,decide_eq_true e,yll,ykn]
  ·rw[zei e,decide_eq_false e,Bool.false_or];exact zny k r
theorem znz{kvs:List (κ × V)}{k:κ}(v:V)(h:valV kvs k=none):putK kvs k v=kvs++[(k,v)]:=by
 unfold putK
 rw[zny,h]
 exact if_neg (by decide)
theorem RelO.isSome_eq{o:Option V}{u:Option Value}(r:RelO o u):o.isSome=u.isSome:=by
 cases o with
 | none=>cases u with
  | none=>rfl
  | some _=>exact(show False from r).elim
 | some _=>cases u with
  | none=>exact(show False from r).elim
  | some _=>rfl
theorem KV.val{kvs:List (κ × V)}{vs:List (κ × Value)}(r:KV kvs vs)(k:κ):RelO (valV kvs k) (valueAt vs k):=by
 unfold KV at r
 induction r with
 | nil=>exact yew
 | @cons p q ps qs h t ih =>
  obtain⟨h1,h2⟩:=h
  by_cases e:p.1=k
  ·have e':q.1=k:=h1.symm.trans e
   have b:valueAt (q::qs) k=some q.2:=by simp[valueAt,yfg,e']
   rw[zeh e,b];exact h2
  ·have e':¬ q.1=k:=fun z=>e (h1.trans z)
   have b:valueAt (q::qs) k=valueAt qs k:=by simp[valueAt,yfg,e']
   rw[zei e,b];exact ih
theorem KV.any{kvs:List (κ × V)}{vs:List (κ × Value)}(r:KV kvs vs)(k:κ):(kvs.any fun kv=>decide (kv.1=k))=vs.any fun kv=>decide (kv.1=k):=by
 unfold KV at r
 induction r with
 | nil=>rfl
 | cons h t ih=>rw[yg0,yg0,ih,h.1]
theorem KV.repl{kvs:List (κ × V)}{vs:List (κ × Value)}(r:KV kvs vs)(k:κ){y:V}{u:Value}(ry:RelV y u) :
  KV (kvs.map fun kv=>if kv.1=k then(kv.1,y) else kv) (vs.map fun kv=>if kv.1=k then(kv.1,u) else kv):=by
 unfold KV at r ⊢
 induction r with
 | nil=>exact .nil
 | @cons p q ps qs h t ih =>
  rw[yb8,yb8]
  refine .cons ?_ ih
  obtain⟨h1,h2⟩:=h
  by_cases e:p.1=k
  ·rw[if_pos e,if_pos (h1.symm.trans e)];exact⟨h1,ry⟩
  ·rw[if_neg e,if_neg (fun z=>e (h1.trans z))];exact⟨h1,h2⟩
theorem KV.put{kvs:List (κ × V)}{vs:List (κ × Value)}(r:KV kvs vs)(k:κ){y:V}{u:Value}(ry:RelV y u):KV (putK kvs k y) (stored vs k u):=by
 unfold putK stored
 rw[r.any k]
 by_cases e:(vs.any fun kv=>decide (kv.1=k))=true
 ·rw[if_pos e,if_pos e];exact r.repl k ry
 ·rw[if_neg e,if_neg e];exact yl7 r ⟨rfl,ry⟩
theorem KV.length{kvs:List (κ × V)}{vs:List (κ × Value)}(r:KV kvs vs):kvs.length=vs.length:=ybh r
end
section
variable {P:yav}{w:World}{H:Hp}{h:Heap}{a:Addr}
end
section
variable {X:Cx}{pins:List (Addr × Obj)}{σ:St}{H:Hp}{s:yah}{a:Addr}{y v:V}{u r:Value}{o:Option V}{A:Around}{E:Value->yah->Prop}
theorem Inv.big(I:Inv X pins σ H s):sysModules<s.heap.objs.size:=by
 have h:ya8<s.heap.objs.size:=(I.mod.glob.keeps I.bk).lt
 exact Nat.lt_trans (by decide) h
theorem zi2{h':Heap}{t':Nat}{ob:HO}(I:Inv X pins σ H s)(mu:Mut (H a))(hs:ycc a s.heap h')(he:∃ q,h'.get? a=some q)(new:ObjOk X.prog X.w (upd H a ob) h' a ob) :
  Inv X pins σ (upd H a ob) { s with heap:=h',toks:=t' } :=
 I.write (x:=a) (e:=a) mu (.inl rfl) (fun b q hb z=>(hs.2 b hb).trans z) he new
end
section
variable {X:Cx}{pins:List (Addr × Obj)}{σ:St}{H:Hp}{s:yah}{a:Addr}{kvs:List (Key × V)}{k:Key}{u:Value}{A:Around}{E:Value->yah->Prop}
end
def NoSl(i:Expr):Prop:=∀ ov iv,subscripted i false ov iv=operate [ov,iv] (getItem ov iv)
theorem zxe{prog:yav}{w:World}{A:Around}{E:Value->yah->Prop}{s:yah}{env:Env}{value slice:Expr}{pos:Pos}{T id:String}{Q:Value->yah->Prop}(hl:typeLookup (.type T) "__getitem__" = pure (some (.builtin id)))(hs:NoSl slice)(h:wpAny (model prog w) A (eval value env) (fun o s₁=>wpAny (model prog w) A (eval slice env) (fun i s₂=>s₂.TypeIs o T/\wpAny (model prog w) A (getItem o i) Q E s₂) E s₁) E s) :
  wpAny (model prog w) A (eval (.Subscript value slice pos) env) Q E s:=by
 refine Subscript_ (ydd h (fun o s₁ h₁=>ydd h₁ (fun i s₂ h₂=>?_) fun _ _ x=>x) fun _ _ x=>x)
 obtain⟨hT,h₂⟩:=h₂
 unfold subscriptTail
 refine yaa ?_
 rw[getitemInPython_of_ne hT.not_modules]
 refine yaa (yfh hT hl ?_)
 have fin:wpAny (model prog w) A (subscripted slice false o i) (fun r s₃=>wpAny (model prog w) A (letTemporaryGo value o r >>= fun _=>pure r) Q E s₃) E s₂:=by
  rw[hs o i]
  exact wpAny_operating (ydd h₂ (fun r s₃ h₃=>yaa (wpAny_letTemporaryGo (yai h₃))) fun _ _ x=>x)
 first
  | exact yai (yaa fin)
  | exact yaa (yai (yaa fin))
  | exact yaa fin
section
variable {X:Cx}{o i e value:Expr}{pos pos' tpos:Pos}{td ty tv:TE}
end
section
variable {X:Cx}{pos:Pos}
end
section
variable {X:Cx}{pins:List (Addr × Obj)}{σ:St}{H:Hp}{s:yah}{a:Addr}{y d:V}{u r:Value}{o:Option V}{A:Around}{E:Value->yah->Prop}
end
section
variable {X:Cx}{o e f:Expr}{apos cpos:Pos}{td ty tx:TE}
end
section
variable {X:Cx}{pins:List (Addr × Obj)}{σ:St}{H:Hp}{s:yah}{a:Addr}{kvs:List (Key × V)}{A:Around}{E:Value->yah->Prop}
end
section
variable {X:Cx}{pins:List (Addr × Obj)}{σ:St}{H:Hp}{s:yah}{a:Addr}{y:V}{u:Value}{A:Around}{E:Value->yah->Prop}
end
end L2
namespace L2
open PySem PySem.Spec PyProof.Rows
section
variable {prog:yav}{w:World}{A:Around}{E:Value->yah->Prop}
end
section
variable {X:Cx}
end
end L2
namespace L2
open PySem PySem.Spec PyProof.Rows
section
variable {X:Cx}{pins:List (Addr × Obj)}{σ:St}{H:Hp}{s:yah}{h':Heap}
theorem Inv.turnedL{t':Nat}{ch:List Addr}(I:Inv X pins σ H s)(k:∀ b o,b ∉ ch->s.heap.get? b=some o->h'.get? b=some o)(hf:∀ b∈ch,FpOk X pins H b):Inv X pins σ H { s with heap:=h',toks:=t' }:=by
 have nit:∀ b u,H b=some u->b ∉ ch:=fun b u e z=>by
  have q:=(hf b z).1
  rw[q]at e;cases e
 refine I.step (g':=s.gens) (d':=s.drawn) (ch:=ch) (fun b hb=>⟨(hf b hb).2.2.2.1,(hf b hb).2.1,(hf b hb).2.2.2.2.1,(hf b hb).2.2.2.2.2⟩) (fun b o _ _ hc e _=>k b o hc e) (fun b o _ _ hc e _=>⟨o.slots,k b o hc e⟩)
  (fun _ _ _ _ n=>n) (fun b o hc e=>⟨o,k b o hc e⟩) (fun _ _ e=>e) (fun _ _ _ e=>e) (fun b ps e=>⟨#[],by rw[e];simp⟩) (fun m hm=>?_) (fun b u e=>?_) I.bare
 ·obtain⟨o,es,ep,ho,r⟩:=hm
  exact⟨o,es,ep,k _ o (fun z=>(hf _ z).2.1 rfl) ho,r⟩
 ·refine(I.hok b u e).stay (fun c v hc q=>k c v ?_ q) (fun _ q=>q) fun _ _ q=>q
  rcases hc with z | z
  ·rw[z];exact nit b u e
  ·exact nit c _ z
theorem Inv.turnedNew{t':Nat}{ch:List Addr}{T:Addr}{ob:HO}(I:Inv X pins σ H s)(k:∀ b o,b ∉ ch->s.heap.get? b=some o->h'.get? b=some o)(hf:∀ b∈ch,FpOk X pins H b)(hT:s.heap.objs.size<=T)(new:ObjOk X.prog X.w (upd H T ob) h' T ob):Inv X pins σ (upd H T ob) { s with heap:=h',toks:=t' }:=by
 have hn:H T=none:=I.hok.fresh hT
 have nit:∀ b u,H b=some u->b ∉ ch:=fun b u e z=>by
  have q:=(hf b z).1
  rw[q]at e;cases e
 refine I.step (g':=s.gens) (d':=s.drawn) (ch:=ch) (fun b hb=>⟨(hf b hb).2.2.2.1,(hf b hb).2.1,(hf b hb).2.2.2.2.1,(hf b hb).2.2.2.2.2⟩) (fun b o _ _ hc e _=>k b o hc e) (fun b o _ _ hc e _=>⟨o.slots,k b o hc e⟩)
  (fun b o _ e n=>?_) (fun b o hc e=>⟨o,k b o hc e⟩) (fun b xs e=>?_) (fun b o u e=>?_) (fun b ps e=>⟨#[],?_⟩) (fun m hm=>?_) (fun b u e=>?_) I.bare
 ·rw[zh (yba (yaz (yar e) hT))];exact n
 ·rw[zh (zn e hn)];exact e
 ·rw[zh (zn e hn)];exact e
 ·rw[zh (zn e hn),e];simp
 ·obtain⟨o,es,ep,ho,r⟩:=hm
  exact⟨o,es,ep,k _ o (fun z=>(hf _ z).2.1 rfl) ho,r⟩
 ·by_cases hb:b=T
  ·subst hb
   rw[zd]at e
   cases e
   exact new
  ·rw[zh hb]at e
   refine(I.hok b u e).stay (fun c v hc q=>k c v ?_ q) (fun c q=>by rw[zh (zn q hn)];exact q) fun c xs q=>by rw[zh (zn q hn)];exact q
   rcases hc with z | z
   ·rw[z];exact nit b u e
   ·exact nit c _ z
end
section
variable {X:Cx}
end
section
variable {X:Cx}{tg:Expr}
end
section
variable {X:Cx}{tg:Expr}
end
section
variable {prog:yav}{w:World}{A:Around}{E:Value->yah->Prop}{s:yah}
end
section
variable {X:Cx}{pins:List (Addr × Obj)}{σ:St}{H:Hp}{s:yah}{d:Addr}{o:Obj}
end
section
variable {P:yav}{w:World}{K:yac}{tg:Expr}{d:Addr}{o:Obj}{es:Array DictEntry}{ep:Nat}
end
section
variable {X:Cx}{tg e:Expr}{td:TE}{apos cpos:Pos}
end
theorem zmn:yd5 "zip" = some (.type "zip"):=by decide +kernel
end L2
section
namespace Bits
open PySem PyProof.Rows
theorem zjj{x:Int}(k:Nat)(hx:0<=x):ycr x (2 ^ k - 1)=x % 2 ^ k:=by
 obtain⟨n,rfl⟩:=Int.eq_ofNat_of_zero_le hx
 have hp:0<2 ^ k:=Nat.two_pow_pos k
 rw[two_pow_cast]
 have e:((2 ^ k:Nat):Int) - 1=((2 ^ k - 1:Nat):Int):=by
  generalize (2:Nat) ^ k=m at hp
  omega
 rw[e,bitAnd_pp (by omega) (by omega),yan,yan,Nat.and_two_pow_sub_one_eq_mod]
 first
  | rfl
  | exact Int.natCast_emod _ _
  | simp
end Bits
end
section
namespace TL
open PySem PySem.Builtin PySem.Builtin.Str PySem.StrLaws
end TL
end
namespace L2
open PySem PySem.Spec PyProof.Rows
section
variable {X:Cx}{pins:List (Addr × Obj)}{σ:St}{H:Hp}{s:yah}{Q:VK}
end
section
variable {X:Cx}
end
section
variable {X:Cx}{o e:Expr}{to te:TE}
end
end L2
namespace L2
open PySem PySem.Spec PyProof.Rows
section
variable {X:Cx}
end
end L2
namespace Att
open PySem PySem.W PySem.Calls PyProof.Rows
section
variable {prog:yav}{w:World}{A:Around}{E:Value->yah->Prop}{s:yah}{K:Frag}
end
end Att
namespace L2
open PySem PySem.Spec PyProof.Rows
end L2
namespace L2
open PySem PySem.Spec PyProof.Rows
end L2
namespace L2
open PySem PySem.Spec PyProof.Rows
def zar(s:Stmt)(j:Nat):Stmt:=match s with
 | .ClassDef _ _ _ body _ _ _ _ _ _ _=>body.getD j (.Pass ⟨0,0,0,0⟩)
 | _=>.Pass ⟨0,0,0,0⟩
def zdq(s:Stmt):Arguments:=match s with
 | .FunctionDef _ a _ _ _ _ _ _ _ _=>a
 | _=>{ posonlyargs:=[],args:=[],vararg:=none,kwonlyargs:=[],kw_defaults:=[],kwarg:=none,defaults:=[] }
def zck(s:Stmt):List Stmt:=match s with
 | .FunctionDef _ _ b _ _ _ _ _ _ _=>b
 | _=>[]
def ze(s:Stmt):Scope:=match s with
 | .FunctionDef _ _ _ _ _ _ sc _ _ _=>sc
 | _=>{ kind:=.function,names:=[],isGenerator:=false,isCoroutine:=false }
abbrev CX0:CXT:=fun _ _ _ _ _ _=>False
abbrev E0:XK:=fun _ _ _=>False
theorem pass0{X:Cx}:zdu CX0 X E0:=fun _ _ _ _ _ _ _ h=>h.elim
structure Fun(K:yac)(x qual:Str)(st:Stmt)(f:Addr)(fd:ya2):Prop where
 ex:∃(oc:Value) (od:Option Addr) (kV doc pm:Value) (an:Option Addr) (cdv ct:Value) (osl:Array (Option Value)),
  fd=yeo x qual (zdq st) (zck st) (ze st) .none kV doc pm an cdv ct/\K.lookup f=some ⟨oc,od,.func fd,osl⟩/\yhq K cdv qual=true
 kp:yd7 K (.ref f)=true
section
variable {P:yav}{w:World}{K:yac}{mg:Str->Option Value}{base:Heap}
theorem Fun.ok{x qual:Str}{st:Stmt}{f:Addr}{fd:ya2}{N ps:List Str}{k:Nat}{sp:Sp}(F:Fun K x qual st f fd)(S:FnScope N ps (ze st))(len:∀ vs H Q E,sp vs H Q E->vs.length=ps.length)(hbody:∀(cdv:Value) (A:Around) (outer:List Env) (s:yah) (H:Hp) (vs:List V) (Q:VK) (E:XK),Room k (A.deeper (envOfC qual (ze st) s.heap.objs.size f cdv))->sp vs H Q E ->
   ∃ t,PSs (cxOf CX0 P w K mg base N qual (ze st) f cdv A outer s H E).nox (zck st) t/\t { nx:=fun _ H'=>Q .non H',rt:=Q } (start N vs) H):FnOk P w K mg base CX0 (k+1) f fd ps sp:=by
 obtain⟨oc,od,kV,doc,pm,an,cdv,ct,osl,rfl,lk,hcd⟩:=F.ex
 refine fn_of lk hcd S len fun A outer s H vs Q E hr hsp=>?_
 obtain⟨t,h,q⟩:=hbody cdv A outer s H vs Q E hr hsp
 exact⟨t,h.nox,q⟩
theorem Fun.binds{x qual:Str}{st:Stmt}{f:Addr}{fd:ya2}{ps:List Str}(F:Fun K x qual st f fd)(h:∀(kV doc pm:Value) (an:Option Addr) (cdv ct:Value) (us:List Value),us.length=ps.length->bindArgs (yeo x qual (zdq st) (zck st) (ze st) .none kV doc pm an cdv ct) ⟨us,[]⟩=pure (ps.zip us)):Binds K fd ps []:=by
 obtain⟨oc,od,kV,doc,pm,an,cdv,ct,osl,rfl,lk,hcd⟩:=F.ex
 exact .all (h kV doc pm an cdv ct)
theorem zn0{x qual:Str}{st:Stmt}{f:Addr}{oc:Value}{od an:Option Addr}{osl:Array (Option Value)}{kV doc pm cdv ct:Value}(l:K.lookup f=some ⟨oc,od,.func (yeo x qual (zdq st) (zck st) (ze st) .none kV doc pm an cdv ct),osl⟩)(c:yhq K cdv qual=true)(k:yd7 K (.ref f)=true):Fun K x qual st f (yeo x qual (zdq st) (zck st) (ze st) .none kV doc pm an cdv ct):=⟨⟨oc,od,kV,doc,pm,an,cdv,ct,osl,rfl,l,c⟩,k⟩
end
theorem zsp{n:Nat}(h:n<=1000):n<yay:=yhl h (by decide)
section
variable {X:Cx}
theorem pv(i:Nat){x:Str}{pos:Pos}(hN:X.N[i]?=some x:=by rfl)(hv:Vis X.env.scope x:=by first | exact ybk rfl | exact yc5 (ybk rfl) | exact yc5 (yc5 rfl))(hd:(x == ("__debug__" : Str))=false:=by decide)(hcd:(x == ("__classdict__" : Str))=false:=by decide):PE X (.Name x pos) (tVar i):=zza hN hv hd hcd
end
theorem iteF{A B:Prop}(h:B):if false=true then A else B:=by
 rw[if_neg ybb]
 exact h
theorem iteT{A B:Prop}(h:A):if true=true then A else B:=by
 rw[if_pos rfl]
 exact h
def Same(H H':Hp):Prop:=∀ b o,H b=some o->H' b=some o
theorem Same.refl(H:Hp):Same H H:=fun _ _ h=>h
theorem Same.trans{H H1 H2:Hp}(a:Same H H1)(b:Same H1 H2):Same H H2:=fun c o h=>b c o (a c o h)
theorem Same.free{H H':Hp}(e:Same H H'){l:Addr}(h:H' l=Option.none):H l=Option.none:=by
 cases q:H l with
 | none=>rfl
 | some o =>
  rw[e l o q]at h
  cases h
theorem Same.seq{K:yac}{H H':Hp}{a:Addr}{xs:List V}(e:Same H H')(h:SqL K H a xs):SqL K H' a xs:=by
 rcases h with (h | ⟨o,h⟩) | h
 ·exact .inl (.inl (e _ _ h))
 ·exact .inl (.inr ⟨o,e _ _ h⟩)
 ·exact .inr h
section
variable {κ:Type}[DecidableEq κ]
end
theorem zki{xs:List V}{z:Int}{j:Nat}{v:V}(e:z=(j:Int))(h:xs[j]?=some v):atI xs z=some v:=by
 rw[e]
 exact zm h
end L2
end
section
section
set_option maxHeartbeats 2000000
namespace L2
open PySem PySem.Spec PyProof.Rows
open PySem.W (WData Codec OpenSpec Well WellAll ReadsW ReadsAllW)
mutual
inductive Dw (K:yac) (H:Hp):V->WData->Prop
 | non:Dw K H .non .none
 | bl (b:Bool):Dw K H (.bl b) (.bool b)
 | int (i:Int):Dw K H (.int i) (.int i)
 | str (x:Str):Dw K H (.str x) (.str x)
 | byt (b:Array UInt8):Dw K H (.byt b) (.bytes b.toList)
 | lst {a:Addr} {xs:List V} {ds:List WData}:SqL K H a xs->DwAll K H xs ds->Dw K H (.ref a) (.list ds)
 | tup {a:Addr} {xs:List V} {ds:List WData}:SqT K H a xs->DwAll K H xs ds->Dw K H (.ref a) (.tuple ds)
inductive DwAll (K:yac) (H:Hp):List V->List WData->Prop
 | nil:DwAll K H [] []
 | cons {v:V} {vs:List V} {d:WData} {ds:List WData}:Dw K H v d->DwAll K H vs ds->DwAll K H (v::vs) (d::ds)
end
theorem zpz{K:yac}{H:Hp}:∀ ns:List Int,DwAll K H (ns.map V.int) (ns.map WData.int)
 | []=>.nil
 | n::r=>.cons (.int n) (zpz r)
theorem zp0{K:yac}{H:Hp}:∀(ns:List Int) (xs:List V),DwAll K H xs (ns.map WData.int)->xs=ns.map V.int
 | [],xs,h=>by
  cases h
  rfl
 | n::r,xs,h=>by
  cases h with
  | cons h1 h2 =>
   cases h1
   rw[zp0 r _ h2]<;>rfl
section
variable {P:yav}{w:World}{K:yac}{H:Hp}{h:Heap}{R:ylv}{cl:Str->Option Addr}
theorem zzn{a:Addr}{xs:List V}(hok:HOk P w H h)(KX:K.In h)(q:SqL K H a xs):∃(its:List Value) (o:Obj) (n:Nat),Vals xs its/\h.get? a=some o/\o.cls = .type "list" /\ o.data = .seq its.toArray n:=by
 rcases q with q | ⟨o,its,n,e,hc,_,hd,_,hv⟩
 ·obtain⟨_,its,n,hv,e⟩:=(show ObjOk P w H h a (.lst xs) from q.ok hok)
  exact⟨its,_,n,hv,e,rfl,rfl⟩
 ·exact⟨its.toList,o,n,hv,KX _ _ e,hc,by simp[hd]⟩
theorem zzo{a:Addr}{xs:List V}(hok:HOk P w H h)(KX:K.In h)(q:SqT K H a xs):∃(its:List Value) (o:Obj) (n:Nat),Vals xs its/\h.get? a=some o/\o.cls = .type "tuple" /\ o.data = .seq its.toArray n:=by
 rcases q with q | ⟨o,its,n,e,hc,hd,_,hv⟩
 ·obtain⟨_,its,hv,o,e,hc,n,hd⟩:=(show ObjOk P w H h a (.tup xs) from q.ok hok)
  exact⟨its,o,n,hv,e,hc,hd⟩
 ·exact⟨its.toList,o,n,hv,KX _ _ e,hc,by simp[hd]⟩
mutual
theorem Dw.reads(hok:HOk P w H h)(KX:K.In h):∀(d:WData) (v:V) (u:Value),Dw K H v d->RelV v u->∃ as,ReadsW R cl h u d as
 | .none,_,_,x,r=>by
  cases x
  cases r
  exact⟨_,ReadsW.none⟩
 | .bool b,_,_,x,r=>by
  cases x
  cases r
  exact⟨_,ReadsW.bool b⟩
 | .int i,_,_,x,r=>by
  cases x
  obtain⟨t,rfl⟩:=r
  exact⟨_,ReadsW.int i t⟩
 | .str s,_,_,x,r=>by
  cases x
  obtain⟨t,rfl⟩:=r
  exact⟨_,ReadsW.str s t⟩
 | .bytes b,_,_,x,r=>by
  cases x
  obtain⟨t,rfl⟩:=r
  exact⟨_,ReadsW.bytes _ t⟩
 | .list ds,_,_,x,r=>by
  cases x with
  | lst hs ha =>
   cases r
   obtain⟨its,o,n,rv,ho,hc,hd⟩:=zzn hok KX hs
   obtain⟨as,hr⟩:=Dw.readsAll hok KX ds _ its ha rv
   exact⟨_,ReadsW.list ho hc hd hr⟩
 | .tuple ds,_,_,x,r=>by
  cases x with
  | tup hs ha =>
   cases r
   obtain⟨its,o,n,rv,ho,hc,hd⟩:=zzo hok KX hs
   obtain⟨as,hr⟩:=Dw.readsAll hok KX ds _ its ha rv
   exact⟨_,ReadsW.tuple ho hc hd hr⟩
 | .float _,_,_,x,_=>by cases x
 | .dict _,_,_,x,_=>by cases x
 | .bytearray _,_,_,x,_=>by cases x
 | .set _,_,_,x,_=>by cases x
 | .frozenset _,_,_,x,_=>by cases x
 | .obj _ _,_,_,x,_=>by cases x
theorem Dw.readsAll(hok:HOk P w H h)(KX:K.In h):∀(ds:List WData) (vs:List V) (us:List Value),DwAll K H vs ds->Vals vs us->∃ as,ReadsAllW R cl h us ds as
 | [],_,_,x,r=>by
  cases x
  cases r
  exact⟨_,ReadsAllW.nil⟩
 | d::ds,_,_,x,r=>by
  cases x with
  | cons h1 h2 =>
   cases r with
   | cons r1 r2 =>
    obtain⟨as,q1⟩:=Dw.reads hok KX d _ _ h1 r1
    obtain⟨bs,q2⟩:=Dw.readsAll hok KX ds _ _ h2 r2
    exact⟨_,ReadsAllW.cons q1 q2⟩
end
end
mutual
def plW:WData->Bool
 | .none=>true
 | .bool _=>true
 | .int _=>true
 | .str _=>true
 | .bytes _=>true
 | .list xs=>plWs xs
 | .tuple xs=>plWs xs
 | _=>false
def plWs:List WData->Bool
 | []=>true
 | x::r=>plW x && plWs r
end
theorem zn1{α:Type}{f:α->WData}(h:∀ a,plW (f a)=true):∀ l:List α,plWs (l.map f)=true
 | []=>rfl
 | x::r=>by
  show(plW (f x) && plWs (r.map f))=true
  rw[h x,zn1 h r]<;>rfl
theorem zfh:∀(c:Codec) (a:c.denote),plW (c.enc a)=true
 | .unit,_=>rfl
 | .bool,_=>rfl
 | .int _ _,_=>rfl
 | .nat _ _,_=>rfl
 | .u8,_=>rfl
 | .bytes _ _,_=>rfl
 | .text _ _ _ _,_=>rfl
 | .list _ _ c,a=>zn1 (fun x=>zfh c x) a
 | .pair c d,a=>by
  show(plW (c.enc a.1) && (plW (d.enc a.2) && true))=true
  rw[zfh c a.1,zfh d a.2]<;>rfl
 | .triple c d e,a=>by
  show(plW (c.enc a.1) && (plW (d.enc a.2.1) && (plW (e.enc a.2.2) && true)))=true
  rw[zfh c a.1,zfh d a.2.1,zfh e a.2.2]<;>rfl
 | .option c,none=>rfl
 | .option c,some x=>zfh c x
theorem zmo:∀(cs:List Codec) (a:Codec.denoteAll cs),plWs (Codec.encAll cs a)=true
 | [],_=>rfl
 | c::cs,a=>by
  show(plW (c.enc a.1) && plWs (Codec.encAll cs a.2))=true
  rw[zfh c a.1,zmo cs a.2]<;>rfl
theorem zho:∀{xs:List WData} {d:WData},d∈xs->d.weight<=WData.weightAll xs
 | [],d,h=>absurd h (by simp)
 | x::r,d,h=>by
  show d.weight<=x.weight+1+WData.weightAll r
  rcases yap.mp h with e | m
  ·rw[e]
   omega
  ·have z:=zho m
   omega
def toV:Value->V
 | .none=>.non
 | .bool b=>.bl b
 | .int i _=>.int i
 | .str x _=>.str x
 | .bytes b _=>.byt b
 | .ref a=>.ref a
 | _=>.non
def OkU(A:List Addr):Value->Prop
 | .none=>True
 | .bool _=>True
 | .int _ _=>True
 | .str _ _=>True
 | .bytes _ _=>True
 | .ref a=>a∈A
 | _=>False
theorem OkU.mono{A B:List Addr}(h:∀ a∈A,a∈B):∀{u:Value},OkU A u->OkU B u:=fun {u} x=>by
 cases u with
 | ref a=>exact h a x
 | none=>trivial
 | bool b=>trivial
 | int i t=>trivial
 | str s t=>trivial
 | bytes b t=>trivial
 | _=>exact yc7 x
theorem zu0{A:List Addr}{u:Value}(x:OkU A u):RelV (toV u) u:=by
 cases u with
 | ref a=>rfl
 | none=>rfl
 | bool b=>rfl
 | int i t=>exact⟨t,rfl⟩
 | str s t=>exact⟨t,rfl⟩
 | bytes b t=>exact⟨t,rfl⟩
 | _=>exact yc7 x
theorem zez{A:List Addr}:∀{vs:List Value},(∀ u∈vs,OkU A u)->Vals (vs.map toV) vs
 | [],_=>.nil
 | u::r,h=>.cons (zu0 (h u (yaq ..))) (zez fun x hx=>h x (yam _ hx))
def ArgOb(h:Heap)(A:List Addr)(a:Addr):Prop:=∃ vs:List Value,vs.length<=yay/\(∀ u∈vs,OkU A u) /\
 (h.get? a=some { cls:=.type "list",data:=.seq vs.toArray }\/h.get? a=some { cls:=.type "tuple",data:=.seq vs.toArray })
theorem ArgOb.mono{h:Heap}{A B:List Addr}{a:Addr}(k:∀ a∈A,a∈B)(x:ArgOb h A a):ArgOb h B a:=by
 obtain⟨vs,h1,h2,h3⟩:=x
 exact⟨vs,h1,fun u hu=>(h2 u hu).mono k,h3⟩
theorem zfc{P:Params}{h:Heap}:∀{vs:List Value} {ds:List WData},WellAll P h vs ds->vs.length=ds.length
 | _,_,.nil=>rfl
 | _,_,.cons _ b=>by
  show _+1=_+1
  rw[zfc b]
theorem zmp{P:Params}{h:Heap}{v:Value}{ds:List WData}(x:Well P h v (.list ds)):∃(a:Addr) (vs:List Value),v = .ref a/\h.get? a=some { cls:=.type "list",data:=.seq vs.toArray }/\WellAll P h vs ds:=by
 cases x with
 | list ho hall=>exact⟨_,_,rfl,ho,hall⟩
theorem zkj{P:Params}{h:Heap}{v:Value}{ds:List WData}(x:Well P h v (.tuple ds)):∃(a:Addr) (vs:List Value),v = .ref a/\h.get? a=some { cls:=.type "tuple",data:=.seq vs.toArray }/\WellAll P h vs ds:=by
 cases x with
 | tuple ho hall=>exact⟨_,_,rfl,ho,hall⟩
theorem zmq{P:Params}{h:Heap}{us:List Value}{d:WData}{ds:List WData}(x:WellAll P h us (d::ds)):∃(v:Value) (vs:List Value),us=v::vs/\Well P h v d/\WellAll P h vs ds:=by
 cases x with
 | cons a b=>exact⟨_,_,rfl,a,b⟩
theorem zp1{n:Nat}(h:n<=1048576):n<=yay:=ybq h (by decide)
section
variable {P:Params}{h:Heap}
mutual
theorem zu1:∀(d:WData) (v:Value),Well P h v d->plW d=true->d.weight<=1048576->∃ A:List Addr,OkU A v/\∀ a∈A,ArgOb h A a
 | .none,_,x,_,_=>by
  cases x
  exact⟨[],trivial,fun a m=>absurd m (by simp)⟩
 | .bool b,_,x,_,_=>by
  cases x
  exact⟨[],trivial,fun a m=>absurd m (by simp)⟩
 | .int i,_,x,_,_=>by
  cases x
  exact⟨[],trivial,fun a m=>absurd m (by simp)⟩
 | .str s,_,x,_,_=>by
  cases x
  exact⟨[],trivial,fun a m=>absurd m (by simp)⟩
 | .bytes b,_,x,_,_=>by
  cases x
  exact⟨[],trivial,fun a m=>absurd m (by simp)⟩
 | .list ds,_,x,p,z=>by
  obtain⟨a,vs,rfl,ho,hall⟩:=zmp x
  have z2:WData.weightAll ds<=1048576:=z
  obtain⟨A,h1,h2⟩:=zhp ds _ hall p fun d hd=>ybq (zho hd) z2
  have k:∀ b∈A,b∈a::A:=fun b hb=>yam _ hb
  refine⟨a::A,yaq ..,fun b hb=>?_⟩
  rcases yap.mp hb with e | m
  ·rw[e]
   exact⟨vs,zp1 (by rw[zfc hall];exact ybq (yg1 ds) z2),fun u hu=>(h1 u hu).mono k,.inl ho⟩
  ·exact(h2 b m).mono k
 | .tuple ds,_,x,p,z=>by
  obtain⟨a,vs,rfl,ho,hall⟩:=zkj x
  have z2:WData.weightAll ds<=1048576:=z
  obtain⟨A,h1,h2⟩:=zhp ds _ hall p fun d hd=>ybq (zho hd) z2
  have k:∀ b∈A,b∈a::A:=fun b hb=>yam _ hb
  refine⟨a::A,yaq ..,fun b hb=>?_⟩
  rcases yap.mp hb with e | m
  ·rw[e]
   exact⟨vs,zp1 (by rw[zfc hall];exact ybq (yg1 ds) z2),fun u hu=>(h1 u hu).mono k,.inr ho⟩
  ·exact(h2 b m).mono k
 | .float _,_,_,p,_=>yck (show false=true from p)
 | .dict _,_,_,p,_=>yck (show false=true from p)
 | .bytearray _,_,_,p,_=>yck (show false=true from p)
 | .set _,_,_,p,_=>yck (show false=true from p)
 | .frozenset _,_,_,p,_=>yck (show false=true from p)
 | .obj _ _,_,_,p,_=>yck (show false=true from p)
theorem zhp:∀(ds:List WData) (vs:List Value),WellAll P h vs ds->plWs ds=true->(∀ d∈ds,d.weight<=1048576)->∃ A:List Addr,(∀ u∈vs,OkU A u)/\∀ a∈A,ArgOb h A a
 | [],_,x,_,_=>by
  cases x
  exact⟨[],fun u m=>absurd m (by simp),fun a m=>absurd m (by simp)⟩
 | d::ds,_,x,p,z=>by
  obtain⟨v,vs,rfl,x1,x2⟩:=zmq x
  have q:plW d=true/\plWs ds=true:=yfu.mp p
  obtain⟨A,a1,a2⟩:=zu1 d v x1 q.1 (z d (yaq ..))
  obtain⟨B,b1,b2⟩:=zhp ds vs x2 q.2 fun e he=>z e (yam _ he)
  have kA:∀ b∈A,b∈A++B:=fun b hb=>yb1.mpr (.inl hb)
  have kB:∀ b∈B,b∈A++B:=fun b hb=>yb1.mpr (.inr hb)
  refine⟨A++B,fun u hu=>?_,fun b hb=>?_⟩
  ·rcases yap.mp hu with e | m
   ·rw[e]
    exact a1.mono kA
   ·exact(b1 u m).mono kB
  ·rcases yb1.mp hb with m | m
   ·exact(a2 b m).mono kA
   ·exact(b2 b m).mono kB
end
end
def hoOf(o:Obj):Option HO:=match o.data with
 | .seq vs _=>if (o.cls == ydc "list")=true then some (.frz o (.lst (vs.toList.map toV))) else some (.frz o (.tup (vs.toList.map toV)))
 | _=>none
def argH(K:yac)(h:Heap)(A:List Addr):Hp:=fun b=>if b∈A then(if (K.lookup b).isNone=true then(h.get? b).bind hoOf else none) else none
def OnlyF(H:Hp):Prop:=∀ b,H b=none\/∃ o u,H b=some (.frz o u)
theorem zn2(vs:List Value):hoOf { cls:=.type "list",data:=.seq vs.toArray }=some (.frz { cls:=.type "list",data:=.seq vs.toArray } (.lst (vs.map toV))):=by
 show(if (ydc "list" == ydc "list")=true then some (HO.frz { cls:=.type "list",data:=.seq vs.toArray } (.lst (vs.toArray.toList.map toV))) else some (HO.frz { cls:=.type "list",data:=.seq vs.toArray } (.tup (vs.toArray.toList.map toV))))=_
 rw[if_pos (beq_self_eq_true _)]
theorem zn3(vs:List Value):hoOf { cls:=.type "tuple",data:=.seq vs.toArray }=some (.frz { cls:=.type "tuple",data:=.seq vs.toArray } (.tup (vs.map toV))):=by
 show(if (ydc "tuple" == ydc "list")=true then some (HO.frz { cls:=.type "tuple",data:=.seq vs.toArray } (.lst (vs.toArray.toList.map toV))) else some (HO.frz { cls:=.type "tuple",data:=.seq vs.toArray } (.tup (vs.toArray.toList.map toV))))=_
 rw[if_neg (by decide)]
section
variable {P:yav}{w:World}{K:yac}{h:Heap}{A:List Addr}
theorem zi3{b:Addr}{o:Obj}(hb:b∈A)(hk:K.lookup b=none)(e:h.get? b=some o):argH K h A b=hoOf o:=by
 unfold argH
 rw[if_pos hb,hk,if_pos (show(none:Option Obj).isNone=true from rfl),e]<;>rfl
theorem zxf{b:Addr}{u:HO}(q:argH K h A b=some u):b∈A/\K.lookup b=none:=by
 unfold argH at q
 by_cases hb:b∈A
 ·rw[if_pos hb]at q
  cases hk:K.lookup b with
  | none=>exact⟨hb,rfl⟩
  | some o =>
   rw[hk,if_neg (by simp)]at q
   cases q
 ·rw[if_neg hb]at q
  cases q
theorem zi4(ar:∀ a∈A,ArgOb h A a){b:Addr}{u:HO}(q:argH K h A b=some u):K.lookup b=none/\∃ vs:List Value,vs.length<=yay/\(∀ u∈vs,OkU A u) /\
  ((h.get? b=some { cls:=.type "list",data:=.seq vs.toArray }/\u = .frz { cls:=.type "list",data:=.seq vs.toArray } (.lst (vs.map toV))) \/
   (h.get? b=some { cls:=.type "tuple",data:=.seq vs.toArray }/\u = .frz { cls:=.type "tuple",data:=.seq vs.toArray } (.tup (vs.map toV)))):=by
 obtain⟨hb,hk⟩:=zxf q
 obtain⟨vs,h1,h2,h3⟩:=ar b hb
 refine⟨hk,vs,h1,h2,?_⟩
 rcases h3 with e | e
 ·rw[zi3 hb hk e,zn2]at q
  exact .inl ⟨e,(ya1 q).symm⟩
 ·rw[zi3 hb hk e,zn3]at q
  exact .inr ⟨e,(ya1 q).symm⟩
theorem zsq(ar:∀ a∈A,ArgOb h A a):OnlyF (argH K h A):=fun b=>by
 cases q:argH K h A b with
 | none=>exact .inl rfl
 | some u =>
  obtain⟨_,vs,_,_,⟨_,e⟩|⟨_,e⟩⟩:=zi4 ar q
  ·exact .inr ⟨_,_,by rw[e]⟩
  ·exact .inr ⟨_,_,by rw[e]⟩
theorem zxg(ar:∀ a∈A,ArgOb h A a):HOk P w (argH K h A) h:=fun b u q=>by
 obtain⟨_,vs,h1,h2,⟨e,rfl⟩|⟨e,rfl⟩⟩:=zi4 ar q
 ·exact⟨e,by rw[yab];exact h1,vs,_,zez h2,e⟩
 ·exact⟨e,by rw[yab];exact h1,vs,zez h2,_,e,rfl,_,rfl⟩
theorem zi5{c c':Value}{vs us:List Value}(e:(some { cls:=c,data:=.seq vs.toArray }:Option Obj)=some { cls:=c',data:=.seq us.toArray }):c=c'/\vs=us:=by
 have e1:=ya1 e
 have e2:c=c':=congrArg Obj.cls e1
 have e3:Data.seq vs.toArray=Data.seq us.toArray:=congrArg Obj.data e1
 injection e3 with e4
 refine⟨e2,?_⟩
 have e5:=congrArg ylh e4
 simpa using e5
theorem argL(KX:K.In h)(ar:∀ a∈A,ArgOb h A a){a:Addr}{vs:List Value}(ha:a∈A)(e:h.get? a=some { cls:=.type "list",data:=.seq vs.toArray }):(∀ u∈vs,OkU A u)/\SqL K (argH K h A) a (vs.map toV):=by
 obtain⟨us,h1,h2,h3⟩:=ar a ha
 have hu:us=vs:=by
  rcases h3 with q | q
  ·rw[e]at q
   exact(zi5 q).2.symm
  ·rw[e]at q
   exact absurd (ymo (zi5 q).1) (by decide)
 subst hu
 refine⟨h2,?_⟩
 cases hk:K.lookup a with
 | none=>exact .inl (.inr ⟨_,by rw[zi3 ha hk e,zn2]⟩)
 | some o =>
  have e2:=KX a o hk
  rw[e]at e2
  obtain rfl:=ya1 e2
  exact .inr ⟨_,us.toArray,_,hk,rfl,rfl,rfl,by rw[ya3];exact h1,by simpa using zez h2⟩
theorem argT(KX:K.In h)(ar:∀ a∈A,ArgOb h A a){a:Addr}{vs:List Value}(ha:a∈A)(e:h.get? a=some { cls:=.type "tuple",data:=.seq vs.toArray }):(∀ u∈vs,OkU A u)/\SqT K (argH K h A) a (vs.map toV):=by
 obtain⟨us,h1,h2,h3⟩:=ar a ha
 have hu:us=vs:=by
  rcases h3 with q | q
  ·rw[e]at q
   exact absurd (ymo (zi5 q).1) (by decide)
  ·rw[e]at q
   exact(zi5 q).2.symm
 subst hu
 refine⟨h2,?_⟩
 cases hk:K.lookup a with
 | none=>exact .inl (.inr ⟨_,by rw[zi3 ha hk e,zn3]⟩)
 | some o =>
  have e2:=KX a o hk
  rw[e]at e2
  obtain rfl:=ya1 e2
  exact .inr ⟨_,us.toArray,_,hk,rfl,rfl,by rw[ya3];exact h1,by simpa using zez h2⟩
mutual
theorem zzp{Pm:Params}(KX:K.In h)(ar:∀ a∈A,ArgOb h A a):∀(d:WData) (v:Value),Well Pm h v d->plW d=true->OkU A v->Dw K (argH K h A) (toV v) d
 | .none,_,x,_,_=>by
  cases x
  exact .non
 | .bool b,_,x,_,_=>by
  cases x
  exact .bl b
 | .int i,_,x,_,_=>by
  cases x
  exact .int i
 | .str s,_,x,_,_=>by
  cases x
  exact .str s
 | .bytes b,_,x,_,_=>by
  cases x
  have z:=Dw.byt (K:=K) (H:=argH K h A) b.toArray
  exact z
 | .list ds,_,x,p,hu=>by
  obtain⟨a,vs,rfl,ho,hall⟩:=zmp x
  obtain⟨h2,hs⟩:=argL KX ar hu ho
  exact .lst hs (zkk KX ar ds _ hall p h2)
 | .tuple ds,_,x,p,hu=>by
  obtain⟨a,vs,rfl,ho,hall⟩:=zkj x
  obtain⟨h2,hs⟩:=argT KX ar hu ho
  exact .tup hs (zkk KX ar ds _ hall p h2)
 | .float _,_,_,p,_=>yck (show false=true from p)
 | .dict _,_,_,p,_=>yck (show false=true from p)
 | .bytearray _,_,_,p,_=>yck (show false=true from p)
 | .set _,_,_,p,_=>yck (show false=true from p)
 | .frozenset _,_,_,p,_=>yck (show false=true from p)
 | .obj _ _,_,_,p,_=>yck (show false=true from p)
theorem zkk{Pm:Params}(KX:K.In h)(ar:∀ a∈A,ArgOb h A a):∀(ds:List WData) (vs:List Value),WellAll Pm h vs ds->plWs ds=true->(∀ u∈vs,OkU A u)->DwAll K (argH K h A) (vs.map toV) ds
 | [],_,x,_,_=>by
  cases x
  exact .nil
 | d::ds,_,x,p,hu=>by
  obtain⟨v,vs,rfl,x1,x2⟩:=zmq x
  have q:plW d=true/\plWs ds=true:=yfu.mp p
  exact .cons (zzp KX ar d v x1 q.1 (hu _ (yaq ..))) (zkk KX ar ds vs x2 q.2 fun u m=>hu u (yam _ m))
end
end
theorem zsr{P:yav}{w:World}{K:yac}{mg mb:Str->Option Value}{CX:CXT}{k:Nat}{fa:Addr}{fd:ya2}{ps:List Str}{sp:Sp}{s₁:yah}{vals:List Value}{ds:List WData}{R:ylv}{cl:Str->Option Addr}{d0:WData}(KX:K.In s₁.heap)(hns:s₁.heap.Ns ya8 mg)(hb:s₁.heap.Ns builtinsNs mb)(hbb:∀ x:Str,x ≠ "__name__" -> mb x=yd5 x)(hlim:s₁.heap.NoLimit)(hg:s₁.gens = #[])(hwl:WellAll w.params s₁.heap vals ds)(hpl:plWs ds=true)(hwt:∀ d∈ds,d.weight<=1048576)(hr:Room k callerA)(F:∀ base:Heap,K.In base->base.Ns ya8 mg->FnOk P w K mg base CX k fa fd ps sp)(hbind:∀(s:yah) (us:List Value),us.length=ps.length->BindsTo s fd ⟨us,[]⟩ (ps.zip us))(hlen:ds.length=ps.length)(hsp:∀(H:Hp) (xs:List V),OnlyF H->DwAll K H xs ds->sp xs H (fun v H'=>Dw K H' v d0) fun _ _ _=>False)(hCX:∀ H e s',CX [] H s₁ (fun _ _ _=>False) e s'->False) :
  codeAny (model P w) callerA (.call (.ref fa) ⟨vals,[]⟩) (fun r s'=>∃ u as,r = .ok (.ret u)/\ReadsW R cl s'.heap u d0 as/\OldK s₁.heap s'.heap/\s'.os=s₁.os/\AllBare s'.gens) s₁:=by
 obtain⟨A,ho,ar⟩:=zhp ds vals hwl hpl hwt
 have hO:OnlyF (argH K s₁.heap A):=zsq ar
 have hok:HOk P w (argH K s₁.heap A) s₁.heap:=zxg ar
 have hS:=zkk KX ar ds vals hwl hpl ho
 have hV:=zez ho
 have hK:∀ b u,argH K s₁.heap A b=some u->K.lookup b=none:=fun b u q=>(zi4 ar q).1
 have noA:∀{b:Addr} {o:Obj} {es:Array DictEntry} {ep:Nat},s₁.heap.get? b=some o->o.data = .dict es ep->argH K s₁.heap A b=none:=fun {b o es ep} e d=>by
  cases q:argH K s₁.heap A b with
  | none=>rfl
  | some u =>
   obtain⟨_,vs,_,_,⟨e2,_⟩|⟨e2,_⟩⟩:=zi4 ar q
   ·rw[e2]at e
    cases e
    have d':Data.seq vs.toArray _=Data.dict es ep:=d
    cases d'
   ·rw[e2]at e
    cases e
    have d':Data.seq vs.toArray _=Data.dict es ep:=d
    cases d'
 generalize argH K s₁.heap A=H at hO hok hS hK noA
 have base_of:∀{b:Addr} {o:Obj},s₁.heap.get? b=some o->H b=none->(hidT s₁.heap H).get? b=some o:=fun e n=>zup e n
 have nsK:∀{b:Addr} {m:Str->Option Value},s₁.heap.Ns b m->(hidT s₁.heap H).Ns b m:=fun {b m} ⟨o,es,ep,e,d,r⟩=>⟨o,es,ep,base_of e (noA e d),d,r⟩
 have nK:∀ b o,K.lookup b=some o->H b=none:=fun b o e=>by
  cases q:H b with
  | none=>rfl
  | some u =>
   rw[hK b u q]at e
   cases e
 have hKb:K.In (hidT s₁.heap H):=fun b o e=>base_of (KX b o e) (nK b o e)
 have hM:Mod K mg (hidT s₁.heap H):=⟨hKb,nsK hns,⟨mb,nsK hb,hbb⟩,let ⟨mc,h1,h2⟩:=hlim;⟨mc,nsK h1,h2⟩⟩
 have e0:Env0 P w K mg (hidT s₁.heap H) callerA [] s₁ H:=⟨rfl,hM,fun b o e=>zwy e,yhk (zsc _ _),trivial,fun b hb=>absurd (show b∈([]:List Addr) from hb) (by simp),hok,.of_eq hg⟩
 have hl:vals.length=ps.length:=by rw[zfc hwl];exact hlen
 refine codeAny_mono ((F _ hKb (nsK hns)).run callerA [] s₁ H ⟨vals,[]⟩ vals (vals.map toV) _ _ hr e0 (hbind s₁ vals hl) hV (hsp H _ hO hS)) fun r s' x=>?_
 cases r with
 | error e=>exact(hCX H e s' x).elim
 | ok fl =>
  cases fl with
  | next=>exact yc7 x
  | brk=>exact yc7 x
  | cont=>exact yc7 x
  | ret u =>
   obtain⟨v,H',os,bare,un,hok',r',q⟩:=x
   have kept:∀ b o,s₁.heap.get? b=some o->s'.heap.get? b=some o:=fun b o e=>by
    cases q2:H b with
    | none=>exact un.keep b o e q2 (by intro z;exact absurd (show b∈([]:List Addr) from z) (by simp)) (by simp)
    | some u2 =>
     rcases hO b with z | ⟨ob,u3,z⟩
     ·rw[q2]at z
      cases z
     ·have z2:=un.frzs b ob _ z
      obtain⟨e1,_⟩:=hok b _ z
      obtain⟨e2,_⟩:=hok' b _ z2
      rw[e]at e1
      cases e1
      exact e2
   have KX':K.In s'.heap:=fun b o e=>kept b o (KX b o e)
   obtain⟨as,hrd⟩:=Dw.reads (R:=R) (cl:=cl) hok' KX' d0 v u q r'
   exact⟨u,as,rfl,hrd,OldK.of_keep kept,os,bare⟩
theorem zly{ds:List WData}(h:WData.layableAll ds=true):∀ d∈ds,d.weight<=1048576:=fun d hd =>
 (PySem.W.layableW_iff.mp (yem.mp h d hd)).2.2
theorem zkl:∀(cs:List Codec) (a:Codec.denoteAll cs),(Codec.encAll cs a).length=cs.length
 | [],_=>rfl
 | c::cs,a=>by
  show(Codec.encAll cs a.2).length+1=cs.length+1
  rw[zkl cs a.2]
theorem zss{r:OpenSpec}{k:Nat}{q:yav}{loose:List Str}{XP:(Str->Option Value)->Heap->Prop}{YP:World->Heap->Prop}{d:DefRec}{K:Params->yac}{CX:World->CXT}{ps:List Str}{sp:World->Sp}(hwell:r.wellSaid=true)(hdf:d.params.defaults=[])(hlen:r.args.length=ps.length)(hr:Room k callerA)(hY:∀(w:World) (h:Heap),YP w h->(K w.params).In h)(F:∀(w:World) (mg:Str->Option Value) (fa:Addr) (h:Heap),YP w h->(K w.params).In h->h.Ns ya8 mg->mg d.name=some (.ref fa) ->
   ∃ fd:ya2,(∀(s:yah) (us:List Value),us.length=ps.length->BindsTo s fd ⟨us,[]⟩ (ps.zip us)) /\
    ∀ base:Heap,(K w.params).In base->base.Ns ya8 mg->FnOk r.prog w (K w.params) mg base (CX w) k fa fd ps (sp w))(hsp:∀(w:World) (H:Hp) (xs:List V) (a:Codec.denoteAll r.args),OnlyF H->Codec.withinAll r.args a=true->Codec.app r.args r.asked a=true->DwAll (K w.params) H xs (Codec.encAll r.args a) ->
   sp w xs H (fun v H'=>Dw (K w.params) H' v (r.ret.enc (Codec.app r.args r.f a))) fun _ _ _=>False)(hCX:∀(w:World) (H:Hp) (s:yah) (e:Value) (s':yah),CX w [] H s (fun _ _ _=>False) e s'->False) :
  ymp q loose XP YP r d [] (fun f vs=>PySem.call f vs):=by
 intro w s_0 s₁ mg mb G Y fa o pm cd doc dV kV ho hd hcd hD hmg hg args vals as hpre hlay hrd hwl hlo
 obtain⟨a,e1,e2⟩:=PySem.W.os_pre_some hpre
 obtain⟨e3,hwi⟩:=Codec.encAll_of_decAll r.args args a e1
 subst e3
 have KX:=hY w _ Y
 obtain⟨fd,hb,hF⟩:=F w mg fa _ Y KX G.T.g hmg
 refine PySem.W.enter_call (codeAny_mono (zsr (R:=[]) (cl:=classAt s_0.heap) (d0:=r.ret.enc (Codec.app r.args r.f a)) KX G.T.g G.T.b G.T.builtins G.T.nolimit hg hwl (zmo _ _) (zly hlay) hr hF hb (by rw[zkl];exact hlen)
  (fun H xs hO hS=>hsp w H xs a hO hwi e2 hS) fun H e s'=>hCX w H s₁ e s') fun r' s' hq=>?_)
 obtain⟨u,as',rfl,h1,h2,h3,h4⟩:=hq
 exact⟨.inl ⟨u,_,as',rfl,fun _=>rfl,h1,(OpenSpec.post_iff hwell hwi _ _).mpr rfl,fun z=>yck (show false=true from z)⟩,h2,h3,h4⟩
theorem zq9{r:OpenSpec}{k:Nat}{q:yav}{loose:List Str}{XP:(Str->Option Value)->Heap->Prop}{YP:World->Heap->Prop}{d:DefRec}{K:Params->yac}{CX:CXT}{ps:List Str}{sp:yac->Sp}(hwell:r.wellSaid=true)(hdf:d.params.defaults=[])(hlen:r.args.length=ps.length)(hr:Room k callerA)(hY:∀(w:World) (h:Heap),YP w h->(K w.params).In h)(F:∀(w:World) (mg:Str->Option Value) (fa:Addr) (h:Heap),YP w h->(K w.params).In h->h.Ns ya8 mg->mg d.name=some (.ref fa) ->
   ∃ fd:ya2,(∀(s:yah) (us:List Value),us.length=ps.length->BindsTo s fd ⟨us,[]⟩ (ps.zip us)) /\
    ∀ base:Heap,(K w.params).In base->base.Ns ya8 mg->FnOk r.prog w (K w.params) mg base CX k fa fd ps (sp (K w.params)))(hsp:∀(K:yac) (H:Hp) (xs:List V) (a:Codec.denoteAll r.args),OnlyF H->Codec.withinAll r.args a=true->Codec.app r.args r.asked a=true->DwAll K H xs (Codec.encAll r.args a) ->
   sp K xs H (fun v H'=>Dw K H' v (r.ret.enc (Codec.app r.args r.f a))) fun _ _ _=>False)(hCX:∀(H:Hp) (s:yah) (e:Value) (s':yah),CX [] H s (fun _ _ _=>False) e s'->False) :
  ymp q loose XP YP r d [] (fun f vs=>PySem.call f vs) :=
 zss (K:=K) (CX:=fun _=>CX) (sp:=fun w=>sp (K w.params)) hwell hdf hlen hr hY F (fun w H xs a h1 h2 h3 h4=>hsp (K w.params) H xs a h1 h2 h3 h4) fun _ H s e s'=>hCX H s e s'
end L2
end
end
section
namespace L2
open PySem PySem.Spec PyProof.Rows
def Sq:Bool->yac->Hp->Addr->List V->Prop
 | true,K,H,a,xs=>SqT K H a xs
 | false,K,H,a,xs=>SqL K H a xs
def sO:Bool->List V->HO
 | true,xs=>.tup xs
 | false,xs=>.lst xs
theorem Sq.of{b:Bool}{K:yac}{H:Hp}{a:Addr}{xs:List V}(h:H a=some (sO b xs)):Sq b K H a xs:=by
 cases b
 ·exact SqL.of h
 ·exact SqT.of h
theorem Sq.or{b:Bool}{K:yac}{H:Hp}{a:Addr}{xs:List V}(h:Sq b K H a xs):SqL K H a xs\/SqT K H a xs:=by
 cases b
 ·exact .inl h
 ·exact .inr h
def rIxQ(K:yac)(b:Bool):R2:=fun x y H Q=>∃ p xs i v,x = .ref p/\y = .int i/\Sq b K H p xs/\atI xs i=some v/\Q v H
theorem zra{X:Cx}(b:Bool):IxR X (rIxQ X.K b):=by
 cases b
 ·exact ix_list
 ·exact ix_tup
def Itq(K:yac)(b:Bool)(a:Addr):It :=
 ⟨fun i H=>∃ xs x,Sq b K H a xs/\xs[i]?=some x,fun i H x H'=>H'=H/\∀ xs,Sq b K H a xs->xs[i]?=some x,fun i H=>∃ xs,Sq b K H a xs/\xs.length<=i⟩
def iSq(K:yac)(b:Bool)(tl:TE):TI:=fun σ H R=>tl σ H fun x H1=>∃ a,x = .ref a/\(∃ xs,Sq b K H1 a xs)/\R (Itq K b a) H1
theorem zwp{X:Cx}{tg l:Expr}{tl:TE}(b:Bool)(hl:PE X l tl):PI X tg l (iSq X.K b tl):=by
 cases b
 ·exact zba hl
 ·exact zd9 hl
theorem zzq{K:yac}{b:Bool}{a:Addr}{xs:List V}{g:TG}{tb:TS}{D:Ends}{σ:St}{H:Hp}(Pv:Nat->St->Hp->Prop)(h0:Pv 0 σ H)(hl:∀ i σ H,i<=xs.length->Pv i σ H->Sq b K H a xs)(hs:∀ i x σ H,xs[i]?=some x->Pv i σ H->g x σ H fun σ2 H2=>tb { D with nx:=Pv (i+1),ct:=Pv (i+1),bk:=D.nx } σ2 H2)(hd:∀ σ H,Pv xs.length σ H->D.nx σ H) :
  ∃ W:Nat->Nat->St->Hp->Prop,(∃ m,W 0 m σ H)/\∀ i m σ H,W i m σ H ->
   ((Itq K b a).stop i H/\D.nx σ H)\/((Itq K b a).go i H/\∃ N:St->Hp->Prop,(∀ σ' H',N σ' H'->∃ m',m'<m/\W (i+1) m' σ' H')/\∀ x H',(Itq K b a).yld i H x H'->g x σ H' fun σ2 H2=>tb { D with nx:=N,ct:=N,bk:=D.nx } σ2 H2):=by
 cases b
 ·exact znp Pv h0 hl hs hd
 ·exact zwz Pv h0 hl hs hd
end L2
end
section
namespace MM
open Rows
theorem ze0{α:Type}[DecidableEq α]:∀{l S:List α},l.Nodup->(∀ x∈l,x∈S)->l.length<=S.length
 | [],S,_,_=>ybj _
 | a::l,S,h,hs=>by
  obtain⟨h1,h2⟩:=ydy.mp h
  have ha:a∈S:=hs a (yaq)
  have:=ze0 (l:=l) (S:=S.erase a) h2 fun x hx=>by
   have hne:x≠a:=fun e=>h1 (e ▸ hx)
   exact(List.mem_erase_of_ne hne).mpr (hs x (yam _ hx))
  rw[List.length_erase_of_mem ha]at this
  have hp:0<S.length:=List.length_pos_of_mem ha
  simp only[ybx]
  omega
theorem zg3{α:Type}[DecidableEq α]:∀{S l:List α},l.Nodup->(∀ x∈l,x∈S)->S.length<=l.length->S.Nodup
 | [],l,_,_,_=>yhr
 | a::S,l,h,hs,hl=>by
  have key:¬ a∈S:=fun ha=>by
   have:=ze0 h (S:=S) fun x hx=>by
    rcases yap.mp (hs x hx) with e | e
    ·exact e ▸ ha
    ·exact e
   simp only[ybx]at hl
   omega
  refine ydy.mpr ⟨key,?_⟩
  refine zg3 (l:=l.erase a) (h.erase a) (fun x hx=>?_) ?_
  ·have hx':=(List.Nodup.mem_erase_iff h).mp hx
   rcases yap.mp (hs x hx'.2) with e | e
   ·exact absurd e hx'.1
   ·exact e
  ·have:=List.length_erase (a:=a) (l:=l)
   simp only[ybx]at hl
   split at this<;>omega
theorem zcq{α:Type}[BEq α][LawfulBEq α]{l:List α}{x:α}(h:x∈l):l[l.idxOf x]?=some x:=by
 have hl:l.idxOf x<l.length:=ydk h
 rw[yad hl]
 simp
theorem zdw{α:Type}[BEq α][LawfulBEq α]{l e:List α}{x:α}(h:x∈l):(l++e).idxOf x=l.idxOf x:=by
 rw[yhz,if_pos h]
theorem zn4{α:Type}[BEq α][LawfulBEq α]{l:List α}(hn:l.Nodup){i:Nat}{x:α}(h:l[i]?=some x):l.idxOf x=i:=by
 have hm:x∈l:=yat h
 have h2:=zcq hm
 obtain⟨a1,e1⟩:=yag.mp h
 obtain⟨a2,e2⟩:=yag.mp h2
 exact(ygt hn).mp (e2.trans e1.symm)
theorem zkm{α:Type}{l:List α}{x:α}(h:l.Nodup)(hx:¬ x∈l):(l++[x]).Nodup:=by
 rw[yk1]
 refine⟨h,by simp,fun a ha b hb=>?_⟩
 have:=ya4.mp hb
 subst this
 exact fun e=>hx (e ▸ ha)
section
variable (step:Told->Nat->Told)
def zav(t:Told)(a:List Told)(c:Nat):List Told:=if a.contains (step t c)=true then a else a++[step t c]
def zaw(t:Told)(cs:List Nat)(l:List Told):List Told:=cs.foldl (zav step t) l
end
section
variable {step:Told->Nat->Told}
theorem zdf{t:Told}{a:List Told}{c:Nat}(h:step t c∈a):zav step t a c=a:=by
 unfold zav
 rw[if_pos (by simpa using h)]
theorem zdg{t:Told}{a:List Told}{c:Nat}(h:¬ step t c∈a):zav step t a c=a++[step t c]:=by
 unfold zav
 rw[if_neg (by simpa using h)]
theorem zrb(t:Told)(a:List Told)(c:Nat):∃ e,zav step t a c=a++e:=by
 by_cases h:step t c∈a
 ·exact⟨[],by rw[zdf h,yex]⟩
 ·exact⟨_,zdg h⟩
theorem zrc(t:Told)(a:List Told)(c:Nat):step t c∈zav step t a c:=by
 by_cases h:step t c∈a
 ·rw[zdf h];exact h
 ·rw[zdg h];simp
theorem zid{t:Told}{a:List Told}{c:Nat}(h:a.Nodup):(zav step t a c).Nodup:=by
 by_cases hm:step t c∈a
 ·rw[zdf hm];exact h
 ·rw[zdg hm];exact zkm h hm
theorem zrd{t:Told}{a:List Told}{c:Nat}{x:Told}(h:x∈zav step t a c):x∈a\/x=step t c:=by
 by_cases hm:step t c∈a
 ·rw[zdf hm]at h;exact .inl h
 ·rw[zdg hm]at h;simpa using h
theorem zd2(t:Told):∀(cs:List Nat) (l:List Told),∃ e,zaw step t cs l=l++e
 | [],l=>⟨[],by simp[zaw]⟩
 | c::cs,l=>by
  obtain⟨e1,h1⟩:=zrb (step:=step) t l c
  obtain⟨e2,h2⟩:=zd2 t cs (zav step t l c)
  refine⟨e1++e2,?_⟩
  show zaw step t cs (zav step t l c)=_
  rw[h2,h1,ybv]
theorem zie{t:Told}:∀{cs:List Nat} {l:List Told},l.Nodup->(zaw step t cs l).Nodup
 | [],_,h=>h
 | c::cs,l,h=>zie (cs:=cs) (l:=zav step t l c) (zid h)
theorem zkn{t:Told}:∀{cs:List Nat} {l:List Told} {c:Nat},c∈cs->step t c∈zaw step t cs l
 | d::cs,l,c,h=>by
  rcases yap.mp h with rfl | h
  ·obtain⟨e,q⟩:=zd2 (step:=step) t cs (zav step t l c)
   show step t c∈zaw step t cs (zav step t l c)
   rw[q]
   exact ycu _ (zrc t l c)
  ·exact zkn (l:=zav step t l d) h
theorem zhq{t:Told}:∀{cs:List Nat} {l:List Told} {x:Told},x∈zaw step t cs l->x∈l\/∃ c∈cs,x=step t c
 | [],_,_,h=>.inl h
 | c::cs,l,x,h=>by
  rcases zhq (cs:=cs) (l:=zav step t l c) h with h | ⟨d,hd,e⟩
  ·rcases zrd h with h | h
   ·exact .inl h
   ·exact .inr ⟨c,yaq,h⟩
  ·exact .inr ⟨d,yam _ hd,e⟩
theorem zdh{f k:Nat}{l:List Told}{t:Told}(h:l[k]?=some t):found step (f+1) k l=found step f (k+1) (zaw step t (yae LETTERS) l):=by
 rw[found,h]
 rfl
theorem zd3{k:Nat}{l:List Told}(h:l[k]?=none):∀ f,found step f k l=l
 | 0=>rfl
 | f+1=>by rw[found,h]
theorem zif:∀(f k:Nat) (l:List Told),∃ e,found step f k l=l++e
 | 0,k,l=>⟨[],by simp[found]⟩
 | f+1,k,l=>by
  cases h:l[k]? with
  | none=>exact⟨[],by rw[zd3 h];simp⟩
  | some t =>
   obtain⟨e1,h1⟩:=zd2 (step:=step) t (yae LETTERS) l
   obtain⟨e2,h2⟩:=zif f (k+1) (zaw step t (yae LETTERS) l)
   exact⟨e1++e2,by rw[zdh h,h2,h1,ybv]⟩
structure WalkAt(step:Told->Nat->Told)(S:List Told)(k:Nat)(l:List Told):Prop where
 nd:l.Nodup
 le:k<=l.length
 sub:∀ x∈l,x∈S
 cl:∀ i x,i<k->l[i]?=some x->∀ c,c<LETTERS->step x c∈l
theorem WalkAt.start{S:List Told}{t:Told}(h:t∈S):WalkAt step S 0 [t] :=
 ⟨by simp,ybj _,fun x hx=>by rw[ya4.mp hx];exact h,fun i _ hi=>absurd hi (yha _)⟩
theorem zg4{α:Type}{l e:List α}{i:Nat}{x:α}(h:l[i]?=some x):(l++e)[i]?=some x:=by
 obtain⟨a,q⟩:=yag.mp h
 rw[yer a]
 exact h
theorem WalkAt.next{S:List Told}{k:Nat}{l:List Told}{t:Told}(W:WalkAt step S k l)(hS:∀ x∈S,∀ c,c<LETTERS->step x c∈S)(h:l[k]?=some t) :
  WalkAt step S (k+1) (zaw step t (yae LETTERS) l):=by
 obtain⟨e,he⟩:=zd2 (step:=step) t (yae LETTERS) l
 have hk:k<l.length:=(yag.mp h).1
 refine⟨zie W.nd,by rw[he,ya7];omega,fun x hx=>?_,fun i x hi hx c hc=>?_⟩
 ·rcases zhq hx with q | ⟨c,hc,rfl⟩
  ·exact W.sub x q
  ·exact hS t (W.sub t (yat h)) c (yau.mp hc)
 ·by_cases hik:i<k
  ·have hx':l[i]?=some x:=by
    rw[he,yer (by omega)]at hx
    exact hx
   rw[he]
   exact ycu _ (W.cl i x hik hx' c hc)
  ·have:i=k:=by omega
   subst this
   rw[he,zg4 h]at hx
   cases hx
   exact zkn (yau.mpr hc)
theorem WalkAt.len{S:List Told}{k:Nat}{l:List Told}(W:WalkAt step S k l):l.length<=S.length:=ze0 W.nd W.sub
theorem WalkAt.fin{S:List Told}(hS:∀ x∈S,∀ c,c<LETTERS->step x c∈S):∀{f k:Nat} {l:List Told},WalkAt step S k l->S.length<=f+k->WalkAt step S (found step f k l).length (found step f k l)
 | 0,k,l,W,hf=>by
  have h1:=W.len
  have h2:=W.le
  have e:l.length=k:=by omega
  show WalkAt step S l.length l
  rw[e]
  exact W
 | f+1,k,l,W,hf=>by
  cases h:l[k]? with
  | none =>
   rw[zd3 h]
   have h2:=W.le
   have h3:=ybz.mp h
   have e:l.length=k:=by omega
   rw[e]
   exact W
  | some t =>
   rw[zdh h]
   exact WalkAt.fin hS (W.next hS h) (by omega)
end
end MM
end
section
namespace MM
open Rows
def gr:Nat->List Nat->Nat
 | n,[]=>n
 | n,x::xs=>gr (if x=n then n+1 else n) xs
def ok:Nat->List Nat->Prop
 | _,[]=>True
 | n,x::xs=>x<=n/\ok (if x=n then n+1 else n) xs
theorem zdx:∀(n:Nat) (a b:List Nat),gr n (a++b)=gr (gr n a) b
 | _,[],_=>rfl
 | n,x::a,b=>zdx (if x=n then n+1 else n) a b
theorem zet:∀(n:Nat) (a b:List Nat),ok n (a++b)<->ok n a/\ok (gr n a) b
 | _,[],_=>by simp[ok,gr]
 | n,x::a,b=>by
  show(x<=n/\ok _ (a++b))<->(x<=n/\ok _ a)/\ok (gr _ a) b
  rw[zet,and_assoc]
theorem zgl:∀(n:Nat) (a:List Nat),n<=gr n a
 | _,[]=>yao _
 | n,x::a=>by
  have:=zgl (if x=n then n+1 else n) a
  show n<=gr (if x=n then n+1 else n) a
  split at this
  ·rename_i h;rw[if_pos h];omega
  ·rename_i h;rw[if_neg h];omega
theorem zko:∀{n:Nat} {a:List Nat} {x:Nat},ok n a->x∈a->x<gr n a
 | n,y::a,x,h,hx=>by
  obtain⟨h1,h2⟩:=h
  show x<gr (if y=n then n+1 else n) a
  rcases yap.mp hx with rfl | hx
  ·have:=zgl (if x=n then n+1 else n) a
   split at this
   ·rename_i h;rw[if_pos h];omega
   ·rename_i h;rw[if_neg h];omega
  ·exact zko h2 hx
theorem zst:∀{n:Nat} {a:List Nat},(∀ x∈a,x<n)->gr n a=n/\ok n a
 | _,[],_=>⟨rfl,trivial⟩
 | n,x::a,h=>by
  have hx:=h x yaq
  have:=zst (n:=n) (a:=a) fun y hy=>h y (yam _ hy)
  have hne:¬ x=n:=by omega
  refine⟨?_,?_,?_⟩
  ·show gr (if x=n then n+1 else n) a=n
   rw[if_neg hne];exact this.1
  ·omega
  ·show ok (if x=n then n+1 else n) a
   rw[if_neg hne];exact this.2
structure Rg(rows:List (List Nat)):Prop where
 len:∀ r∈rows,r.length=LETTERS
 ok:MM.ok 1 rows.flatten
 gr:MM.gr 1 rows.flatten=rows.length
 go:∀ k,k<rows.length->k<MM.gr 1 (rows.take k).flatten
def onR(rows:List (List Nat))(q c:Nat):Nat:=(rows.getD q []).getD c 0
theorem zw{α:Type}{l:List α}{i:Nat}{x d:α}(h:l[i]?=some x):l.getD i d=x:=by
 rw[yal,h];rfl
theorem zcc{α:Type}{l:List α}{i:Nat}{d:α}(h:i<l.length):l.getD i d∈l:=by
 rw[yal,yad h];exact ygu h
theorem Rg.lt{rows:List (List Nat)}(R:Rg rows){r:List Nat}{x:Nat}(hr:r∈rows)(hx:x∈r):x<rows.length:=by
 have:=zko R.ok (List.mem_flatten.mpr ⟨r,hr,hx⟩)
 rw[R.gr]at this
 exact this
theorem Rg.on_lt{rows:List (List Nat)}(R:Rg rows){q c:Nat}(hq:q<rows.length)(hc:c<LETTERS):onR rows q c<rows.length:=by
 have h1:rows.getD q []∈rows:=zcc hq
 exact R.lt h1 (zcc (by rw[R.len _ h1];exact hc))
theorem Rg.pos{rows:List (List Nat)}(R:Rg rows):0<rows.length:=by
 have:=zgl 1 rows.flatten
 rw[R.gr]at this
 omega
theorem zig{r:List Nat}{n:Nat}(h:r.length=n):(yae n).map (fun c=>r.getD c 0)=r:=by
 apply yc3
 intro i
 rw[yaj]
 by_cases hi:i<n
 ·rw[ycz hi,yad (by omega)]
  simp[yal,yad (show i<r.length by omega)]
 ·rw[ybd (by simp;omega),ybd (by omega)]
  rfl
section
variable {step:Told->Nat->Told}
def rowOf(step:Told->Nat->Told)(L:List Told)(x:Told):List Nat:=(yae LETTERS).map fun c=>L.idxOf (step x c)
theorem zmr{t:Told}:∀{cs:List Nat} {l L:List Told},l.Nodup->(∃ e,L=zaw step t cs l++e) ->
  gr l.length (cs.map fun c=>L.idxOf (step t c))=(zaw step t cs l).length/\ok l.length (cs.map fun c=>L.idxOf (step t c))
 | [],_,_,_,_=>⟨rfl,trivial⟩
 | c::cs,l,L,hn,hL=>by
  have ih:=zmr (t:=t) (cs:=cs) (l:=zav step t l c) (L:=L) (zid hn) hL
  obtain⟨e,rfl⟩:=hL
  obtain⟨e2,h2⟩:=zd2 (step:=step) t cs (zav step t l c)
  by_cases hm:step t c∈l
  ·have e1:=zdf hm
   rw[e1]at ih h2
   have ex:(zaw step t (c::cs) l++e).idxOf (step t c)=l.idxOf (step t c):=by
    show(zaw step t cs (zav step t l c)++e).idxOf (step t c)=_
    rw[e1,h2,ybv,zdw hm]
   have hlt:l.idxOf (step t c)<l.length:=ydk hm
   have hne:¬ (zaw step t (c::cs) l++e).idxOf (step t c)=l.length:=by rw[ex];omega
   refine⟨?_,?_,?_⟩
   ·show gr (if _ then _ else _) _=_
    rw[if_neg hne]
    show _=(zaw step t cs (zav step t l c)).length
    rw[e1]
    exact ih.1
   ·dsimp only;rw[ex];omega
   ·show ok (if _ then _ else _) _
    rw[if_neg hne]
    exact ih.2
  ·have e1:=zdg hm
   rw[e1]at ih h2
   have ex:(zaw step t (c::cs) l++e).idxOf (step t c)=l.length:=by
    show(zaw step t cs (zav step t l c)++e).idxOf (step t c)=_
    rw[e1,h2,ybv,zdw (by simp),yhz,if_neg hm]
    simp
   have hl:(l++[step t c]).length=l.length+1:=by simp
   rw[hl]at ih
   refine⟨?_,?_,?_⟩
   ·show gr (if _ then _ else _) _=_
    rw[if_pos ex]
    show _=(zaw step t cs (zav step t l c)).length
    rw[e1]
    exact ih.1
   ·dsimp only;rw[ex];omega
   ·show ok (if _ then _ else _) _
    rw[if_pos ex]
    exact ih.2
theorem zsu{α:Type}{l:List α}{k:Nat}{x:α}(h:l[k]?=some x):l.drop k=x::l.drop (k+1):=by
 obtain⟨a,e⟩:=yag.mp h
 rw[yhs a,e]
theorem zn5{S:List Told}(hS:∀ x∈S,∀ c,c<LETTERS->step x c∈S):∀{f k:Nat} {l L:List Told},WalkAt step S k l->S.length<=f+k->L=found step f k l ->
  gr l.length ((L.drop k).map (rowOf step L)).flatten=L.length/\ok l.length ((L.drop k).map (rowOf step L)).flatten /\
   ∀ j,k+j<L.length->k+j<gr l.length (((L.drop k).map (rowOf step L)).take j).flatten
 | 0,k,l,L,W,hf,hL=>by
  have h1:=W.len
  have h2:=W.le
  have e:L=l:=hL
  subst e
  have e:L.length=k:=by omega
  rw[ygb (by omega)]
  exact⟨rfl,trivial,fun j hj=>by omega⟩
 | f+1,k,l,L,W,hf,hL=>by
  cases h:l[k]? with
  | none =>
   rw[zd3 h]at hL
   subst hL
   have h2:=W.le
   have h3:=ybz.mp h
   rw[ygb (by omega)]
   exact⟨rfl,trivial,fun j hj=>by omega⟩
  | some t =>
   rw[zdh h]at hL
   have ih:=zn5 hS (W.next hS h) (by omega) hL
   obtain⟨e1,h1⟩:=zif (step:=step) f (k+1) (zaw step t (yae LETTERS) l)
   obtain⟨e2,h2⟩:=zd2 (step:=step) t (yae LETTERS) l
   have hLk:L[k]?=some t:=by
    rw[hL,h1,h2]
    exact zg4 (zg4 h)
   have ha:=zmr (step:=step) (t:=t) (cs:=yae LETTERS) (l:=l) (L:=L) W.nd ⟨e1,by rw[hL,h1]⟩
   rw[zsu hLk,yb8,ydt]
   have er:rowOf step L t=(yae LETTERS).map fun c=>L.idxOf (step t c):=rfl
   refine⟨?_,?_,fun j hj=>?_⟩
   ·rw[zdx,er,ha.1]
    exact ih.1
   ·rw[zet,er,ha.1]
    exact⟨ha.2,ih.2.1⟩
   ·cases j with
    | zero=>exact(yag.mp h).1
    | succ j =>
     rw[List.take_succ_cons,ydt,zdx,er,ha.1]
     have:=ih.2.2 j (by omega)
     omega
theorem zu2{S:List Told}(hS:∀ x∈S,∀ c,c<LETTERS->step x c∈S){f:Nat}{t:Told}(ht:t∈S)(hf:S.length<=f):Rg ((found step f 0 [t]).map (rowOf step (found step f 0 [t]))):=by
 have h:=zn5 hS (L:=found step f 0 [t]) (WalkAt.start ht) (by omega) rfl
 rw[List.drop_zero]at h
 refine⟨fun r hr=>?_,h.2.1,by rw[yab];exact h.1,fun k hk=>?_⟩
 ·obtain⟨x,_,rfl⟩:=ya6.mp hr
  simp[rowOf]
 ·have:=h.2.2 k (by rw[yab]at hk;omega)
  rw[yfi]at this
  exact this
theorem zkp{t:Told}{g:Nat->Told}{r:Nat->Nat}{N:Nat}(hg:∀ i j,i<N->j<N->g i=g j->i=j):∀{cs:List Nat} {s:Nat},(∀ c∈cs,step t c=g (r c)/\r c<N)->s<=N->ok s (cs.map r) ->
  zaw step t cs ((yae s).map g)=(yae (gr s (cs.map r))).map g
 | [],_,_,_,_=>rfl
 | c::cs,s,h,hs,ho=>by
  obtain⟨h1,h2⟩:=ho
  obtain⟨e,hN⟩:=h c yaq
  have key:zav step t ((yae s).map g) c=(yae (if r c=s then s+1 else s)).map g:=by
   by_cases hc:r c=s
   ·rw[if_pos hc,yc0,ya9,zdg,e,hc]
    ·rfl
    ·rw[e]
     intro hm
     obtain⟨i,hi,q⟩:=ya6.mp hm
     have hi:=yau.mp hi
     have:=hg i (r c) (by omega) hN q
     omega
   ·rw[if_neg hc,zdf]
    rw[e]
    exact ya6.mpr ⟨r c,yau.mpr (by omega),rfl⟩
  show zaw step t cs (zav step t _ c)=(yae (gr (if r c=s then s+1 else s) (cs.map r))).map g
  rw[key]
  exact zkp hg (fun d hd=>h d (yam _ hd)) (by split<;>omega) h2
theorem zms{rows:List (List Nat)}(R:Rg rows){g:Nat->Told}(hg:∀ i j,i<rows.length->j<rows.length->g i=g j->i=j)(hs:∀ q c,q<rows.length->c<LETTERS->step (g q) c=g (onR rows q c)):∀{f k:Nat},k<=rows.length->rows.length<=f+k ->
  found step f k ((yae (gr 1 (rows.take k).flatten)).map g)=(yae rows.length).map g
 | 0,k,hk,hf=>by
  have e:k=rows.length:=by omega
  subst e
  rw[ydq,R.gr]
  rfl
 | f+1,k,hk,hf=>by
  by_cases e:k=rows.length
  ·subst e
   rw[ydq,R.gr]
   exact zd3 (by rw[yaj,ybd (by simp)];rfl) _
  ·have hlt:k<rows.length:=by omega
   have hgo:=R.go k hlt
   have h1:((yae (gr 1 (rows.take k).flatten)).map g)[k]?=some (g k):=by
    rw[yaj,ycz hgo];rfl
   obtain⟨row,hrow⟩:∃ r,rows[k]?=some r:=⟨_,yad hlt⟩
   have hmem:row∈rows:=yat hrow
   have hrr:(yae LETTERS).map (fun c=>onR rows k c)=row:=by
    have:∀ c,onR rows k c=row.getD c 0:=fun c=>by unfold onR;rw[zw hrow]
    simp only[this]
    exact zig (R.len row hmem)
   have htk:(rows.take (k+1)).flatten=(rows.take k).flatten++row:=by
    rw[ydu,hrow]
    simp
   have hok:ok (gr 1 (rows.take k).flatten) row:=by
    have ho:=R.ok
    rw[<- ycf (k+1) rows,ydv,zet,htk,zet]at ho
    exact ho.1.2
   have hsl:gr 1 (rows.take k).flatten<=rows.length:=by
    have e2:=R.gr
    rw[<- ycf k rows,ydv,zdx]at e2
    have:=zgl (gr 1 (rows.take k).flatten) (rows.drop k).flatten
    rw[ycf]at e2
    omega
   rw[zdh h1,zkp (r:=fun c=>onR rows k c) (N:=rows.length) hg (fun c hc=>⟨hs k c hlt (yau.mp hc),R.on_lt hlt (yau.mp hc)⟩) hsl (by rw[hrr];exact hok),hrr,<- zdx,<- htk]
   exact zms R hg hs (by omega) (by omega)
theorem zsv{g:Nat->Told}{n q:Nat}(hg:∀ i j,i<n->j<n->g i=g j->i=j)(hq:q<n):((yae n).map g).idxOf (g q)=q:=by
 refine zn4 ?_ (by rw[yaj,ycz hq];rfl)
 show List.Pairwise (· ≠ ·) _
 rw[List.pairwise_map]
 exact List.Pairwise.imp_of_mem (fun hi hj hlt e=>absurd (hg _ _ (yau.mp hi) (yau.mp hj) e) (yba hlt)) ygc
theorem zft{rows:List (List Nat)}(R:Rg rows){g:Nat->Told}(hg:∀ i j,i<rows.length->j<rows.length->g i=g j->i=j)(hs:∀ q c,q<rows.length->c<LETTERS->step (g q) c=g (onR rows q c)){f:Nat}(hf:rows.length<=f)(okf:Told->Bool) :
  machineBy f step okf (g 0)=⟨rows,(yae rows.length).map fun q=>okf (g q)⟩:=by
 have h0:found step f 0 [g 0]=(yae rows.length).map g:=zms R hg hs (k:=0) (ybj _) (by omega)
 unfold machineBy
 simp only[h0]
 congr 1
 ·rw[yb7]
  apply yc3
  intro i
  rw[yaj]
  by_cases hi:i<rows.length
  ·rw[ycz hi,yad hi]
   simp only[yje,Function.comp,ygh]
   have hrow:rows[i]?=some rows[i]:=yad hi
   have:∀ c∈yae LETTERS,place ((yae rows.length).map g) (step (g i) c)=onR rows i c:=fun c hc=>by
    have hc:=yau.mp hc
    rw[hs i c hi hc]
    exact zsv hg (R.on_lt hi hc)
   rw[ybw this]
   have this:onR rows i=fun c=>rows[i].getD c 0:=funext fun c=>by unfold onR;rw[zw hrow]
   rw[this]
   exact zig (R.len _ (yat hrow))
  ·rw[ybd (by simp;omega),ybd (by omega)]
   rfl
 ·rw[yb7]
  rfl
end
end MM
end
section
namespace MM
open Rows
section
variable {α:Type}[DecidableEq α]
def push1(a:List α)(x:α):List α:=if x∈a then a else a++[x]
def dd(a:List α)(xs:List α):List α:=xs.foldl push1 a
def numb(xs:List α):List Nat:=xs.map fun x=>(dd [] xs).idxOf x
theorem zn6:∀(xs a:List α),∃ e,dd a xs=a++e
 | [],a=>⟨[],by simp[dd]⟩
 | x::xs,a=>by
  obtain⟨e,h⟩:=zn6 xs (push1 a x)
  show ∃ e,dd (push1 a x) xs=a++e
  rw[h]
  unfold push1
  split
  ·exact⟨e,rfl⟩
  ·exact⟨[x]++e,by rw[ybv]⟩
theorem zpk{a:List α}{x:α}(h:a.Nodup):(push1 a x).Nodup:=by
 unfold push1
 split
 ·exact h
 ·exact zkm h (by assumption)
theorem zsw(a:List α)(x:α):x∈push1 a x:=by
 unfold push1
 split
 ·assumption
 ·simp
theorem zkq:∀{xs a:List α} {x:α},x∈xs->x∈dd a xs
 | y::xs,a,x,h=>by
  show x∈dd (push1 a y) xs
  rcases yap.mp h with rfl | h
  ·obtain⟨e,q⟩:=zn6 xs (push1 a x)
   rw[q]
   exact ycu _ (zsw a x)
  ·exact zkq h
theorem zwq:∀{xs a L:List α},a.Nodup->(∃ e,L=dd a xs++e)->gr a.length (xs.map fun x=>L.idxOf x)=(dd a xs).length/\ok a.length (xs.map fun x=>L.idxOf x)
 | [],_,_,_,_=>⟨rfl,trivial⟩
 | x::xs,a,L,hn,hL=>by
  have ih:=zwq (xs:=xs) (a:=push1 a x) (L:=L) (zpk hn) hL
  obtain⟨e,rfl⟩:=hL
  obtain⟨e2,h2⟩:=zn6 xs (push1 a x)
  by_cases hm:x∈a
  ·have e1:push1 a x=a:=if_pos hm
   rw[e1]at ih h2
   have ex:(dd a (x::xs)++e).idxOf x=a.idxOf x:=by
    show(dd (push1 a x) xs++e).idxOf x=_
    rw[e1,h2,ybv,zdw hm]
   have hlt:a.idxOf x<a.length:=ydk hm
   have hne:¬ (dd a (x::xs)++e).idxOf x=a.length:=by rw[ex];omega
   refine⟨?_,?_,?_⟩
   ·show gr (if _ then _ else _) _=_
    rw[if_neg hne]
    show _=(dd (push1 a x) xs).length
    rw[e1]
    exact ih.1
   ·dsimp only;rw[ex];omega
   ·show ok (if _ then _ else _) _
    rw[if_neg hne]
    exact ih.2
  ·have e1:push1 a x=a++[x]:=if_neg hm
   rw[e1]at ih h2
   have ex:(dd a (x::xs)++e).idxOf x=a.length:=by
    show(dd (push1 a x) xs++e).idxOf x=_
    rw[e1,h2,ybv,zdw (by simp),yhz,if_neg hm]
    simp
   have hl:(a++[x]).length=a.length+1:=by simp
   rw[hl]at ih
   refine⟨?_,?_,?_⟩
   ·show gr (if _ then _ else _) _=_
    rw[if_pos ex]
    show _=(dd (push1 a x) xs).length
    rw[e1]
    exact ih.1
   ·dsimp only;rw[ex];omega
   ·show ok (if _ then _ else _) _
    rw[if_pos ex]
    exact ih.2
theorem zp2(xs:List α):gr 0 (numb xs)=(dd [] xs).length/\ok 0 (numb xs):=zwq (a:=[]) (L:=dd [] xs) (by simp) ⟨[],by simp⟩
theorem zjx(xs:List α):(numb xs).length=xs.length:=by simp[numb]
theorem zjy{xs:List α}{i:Nat}{x:α}(h:xs[i]?=some x):(numb xs).getD i 0=(dd [] xs).idxOf x:=by
 refine zw ?_
 unfold numb
 rw[yaj,h]
 rfl
theorem zn7{xs:List α}{i j:Nat}{x y:α}(hi:xs[i]?=some x)(hj:xs[j]?=some y):(numb xs).getD i 0=(numb xs).getD j 0<->x=y:=by
 rw[zjy hi,zjy hj]
 constructor
 ·intro e
  have h1:=zcq (zkq (a:=[]) (yat hi))
  have h2:=zcq (zkq (a:=[]) (yat hj))
  rw[e,h2]at h1
  exact(ya1 h1).symm
 ·intro e;rw[e]
end
theorem ok_all:∀{s:Nat} {xs:List Nat} {v:Nat},ok s xs->v<gr s xs->v<s\/v∈xs
 | _,[],_,_,h=>.inl h
 | s,x::xs,v,ho,h=>by
  obtain⟨h1,h2⟩:=ho
  have h:v<gr (if x=s then s+1 else s) xs:=h
  rcases ok_all h2 h with q | q
  ·by_cases e:x=s
   ·rw[if_pos e]at q
    by_cases ev:v=s
    ·exact .inr (by rw[ev,<- e];exact yaq)
    ·exact .inl (by omega)
   ·rw[if_neg e]at q
    exact .inl q
  ·exact .inr (yam _ q)
theorem zn8:∀(s:Nat) (xs:List Nat),gr s xs<=s+xs.length
 | s,[]=>yao _
 | s,x::xs=>by
  have:=zn8 (if x=s then s+1 else s) xs
  show gr (if x=s then s+1 else s) xs<=s+(xs.length+1)
  split at this
  ·rename_i h;rw[if_pos h];omega
  ·rename_i h;rw[if_neg h];omega
structure Nb(n:Nat)(C:List Nat):Prop where
 len:C.length=n
 ok:MM.ok 0 C
theorem zp3{α:Type}[DecidableEq α](xs:List α):Nb xs.length (numb xs):=⟨zjx xs,(zp2 xs).2⟩
section
variable {n:Nat}{C D:List Nat}
theorem Nb.lt(N:Nb n C){i:Nat}(h:i<n):C.getD i 0<gr 0 C:=zko N.ok (zcc (by rw[N.len];exact h))
theorem Nb.mem(N:Nb n C){v:Nat}(h:v<gr 0 C):v∈C:=(ok_all N.ok h).resolve_left (yha _)
theorem Nb.le(N:Nb n C):gr 0 C<=n:=by
 have:=zn8 0 C
 rw[N.len]at this
 omega
theorem Nb.fst(N:Nb n C){v:Nat}(h:v<gr 0 C):C.idxOf v<n/\C.getD (C.idxOf v) 0=v :=
 ⟨by rw[<- N.len];exact ydk (N.mem h),zw (zcq (N.mem h))⟩
theorem zjz{l:List Nat}{i v:Nat}(h:l[i]?=some v):l.idxOf v<=i:=by
 by_cases hl:l.idxOf v<=i
 ·exact hl
 ·have:=yiy (p:=(· == v)) (xs:=l) (i:=i) (by unfold List.idxOf at hl;omega)
  obtain⟨a,e⟩:=yag.mp h
  rw[e]at this
  simp at this
theorem zbz{l:List Nat}{i:Nat}(h:i<l.length):l[i]?=some (l.getD i 0):=by
 rw[yal,yad h];rfl
theorem Nb.fst_le(N:Nb n C){i:Nat}(h:i<n):C.idxOf (C.getD i 0)<=i:=zjz (zbz (by rw[N.len];exact h))
theorem Nb.finer(N:Nb n C)(M:Nb n D)(h:∀ i j,i<n->j<n->D.getD i 0=D.getD j 0->C.getD i 0=C.getD j 0) :
  gr 0 C<=gr 0 D/\(gr 0 D<=gr 0 C->∀ i j,i<n->j<n->C.getD i 0=C.getD j 0->D.getD i 0=D.getD j 0):=by
 have back:∀ i,i<n->C.getD (D.idxOf (D.getD i 0)) 0=C.getD i 0:=fun i hi =>
  h _ _ (M.fst (M.lt hi)).1 hi (M.fst (M.lt hi)).2
 have cover:∀ x∈yae (gr 0 C),x∈(yae (gr 0 D)).map fun v=>C.getD (D.idxOf v) 0:=fun u hu=>by
  have hu:=yau.mp hu
  obtain⟨h1,h2⟩:=N.fst hu
  refine ya6.mpr ⟨D.getD (C.idxOf u) 0,yau.mpr (M.lt h1),?_⟩
  rw[back _ h1,h2]
 refine⟨?_,fun hle i j hi hj e=>?_⟩
 ·have:=ze0 yis cover
  simpa using this
 ·have nd:=zg3 yis cover (by simpa using hle)
  have nd:List.Pairwise (· ≠ ·) ((yae (gr 0 D)).map fun v=>C.getD (D.idxOf v) 0):=nd
  by_cases q:D.getD i 0=D.getD j 0
  ·exact q
  ·exfalso
   have e1:C.getD (D.idxOf (D.getD i 0)) 0=C.getD (D.idxOf (D.getD j 0)) 0:=by rw[back i hi,back j hj,e]
   have a1:=M.lt hi
   have a2:=M.lt hj
   have key:=(ygt (show((yae (gr 0 D)).map fun v=>C.getD (D.idxOf v) 0).Nodup from nd) (i:=D.getD i 0) (j:=D.getD j 0) (h₀:=by simpa using a1) (h₁:=by simpa using a2)).mp (by simpa using e1)
   exact q key
end
end MM
end
section
namespace MM
open Rows
def Ra(m:Machine):Nat->Nat->Nat->Prop
 | 0,i,j=>m.end_ i=m.end_ j
 | t+1,i,j=>Ra m t i j/\∀ c,c<LETTERS->Ra m t (m.on i c) (m.on j c)
def Rinf(m:Machine)(i j:Nat):Prop:=∀ t,Ra m t i j
section
variable {m:Machine}
theorem Ra.refl:∀(t i:Nat),Ra m t i i
 | 0,_=>rfl
 | t+1,i=>⟨Ra.refl t i,fun c _=>Ra.refl t _⟩
theorem Rinf.on{i j c:Nat}(h:Rinf m i j)(hc:c<LETTERS):Rinf m (m.on i c) (m.on j c):=fun t=>(h (t+1)).2 c hc
theorem Rinf.end_{i j:Nat}(h:Rinf m i j):m.end_ i=m.end_ j:=h 0
structure Wf(m:Machine):Prop where
 rg:Rg m.next
 ends:m.ends.length=m.next.length
theorem Wf.on_lt(w:Wf m){q c:Nat}(hq:q<m.next.length)(hc:c<LETTERS):m.on q c<m.next.length:=w.rg.on_lt hq hc
theorem Wf.pos(w:Wf m):0<m.next.length:=w.rg.pos
def Stab(m:Machine)(t:Nat):Prop:=∀ i j,i<m.next.length->j<m.next.length->Ra m t i j->Ra m (t+1) i j
theorem Stab.next(w:Wf m){t:Nat}(h:Stab m t):Stab m (t+1):=fun i j hi hj r =>
 ⟨r,fun c hc=>h _ _ (w.on_lt hi hc) (w.on_lt hj hc) (r.2 c hc)⟩
theorem Stab.all(w:Wf m){t:Nat}(h:Stab m t):∀ s,Stab m (t+s)
 | 0=>h
 | s+1=>(Stab.all w h s).next w
theorem Ra.le{t s i j:Nat}(h:Ra m (t+s) i j):Ra m t i j:=by
 induction s with
 | zero=>exact h
 | succ s ih=>exact ih h.1
theorem Stab.inf(w:Wf m){t:Nat}(h:Stab m t){i j:Nat}(hi:i<m.next.length)(hj:j<m.next.length)(r:Ra m t i j):Rinf m i j:=fun s=>by
 have up:∀ s,Ra m (t+s) i j:=fun s=>by
  induction s with
  | zero=>exact r
  | succ s ih=>exact h.all w s i j hi hj ih
 by_cases hs:s<=t
 ·obtain⟨d,rfl⟩:=yj2 hs
  exact r.le
 ·obtain⟨d,rfl⟩:=yj2 (show t<=s by omega)
  exact up d
end
def signP(m:Machine)(P:List Nat):List (Nat × List Nat):=(yae m.next.length).map fun q=>(P.getD q 0,(m.next.getD q []).map fun s=>P.getD s 0)
def pyc(m:Machine):Nat->List Nat
 | 0=>numb m.ends
 | t+1=>numb (signP m (pyc m t))
section
variable {m:Machine}
theorem zas{α:Type}{n i:Nat}{f:Nat->α}(h:i<n):((yae n).map f)[i]?=some (f i):=by
 rw[yaj,ycz h];rfl
theorem zfi(w:Wf m):∀ t,Nb m.next.length (pyc m t)
 | 0=>by
  have:=zp3 m.ends
  rw[w.ends]at this
  exact this
 | t+1=>by
  have:=zp3 (signP m (pyc m t))
  rw[show(signP m (pyc m t)).length=m.next.length by simp[signP]]at this
  exact this
theorem zre{r s:List Nat}{f:Nat->Nat}(hr:r.length=LETTERS)(hs:s.length=LETTERS):r.map f=s.map f<->∀ c,c<LETTERS->f (r.getD c 0)=f (s.getD c 0):=by
 constructor
 ·intro e c hc
  have h1:(r.map f)[c]?=some (f (r.getD c 0)):=by rw[yaj,zbz (by omega)];rfl
  have h2:(s.map f)[c]?=some (f (s.getD c 0)):=by rw[yaj,zbz (by omega)];rfl
  rw[e,h2]at h1
  exact(ya1 h1).symm
 ·intro h
  apply yc3
  intro c
  by_cases hc:c<LETTERS
  ·rw[yaj,yaj,zbz (by omega),zbz (show c<s.length by omega)]
   simp only[yje]
   rw[h c hc]
  ·rw[ybd (by simp;omega),ybd (by simp;omega)]
theorem Wf.row(w:Wf m){q:Nat}(hq:q<m.next.length):(m.next.getD q []).length=LETTERS:=w.rg.len _ (zcc hq)
theorem zd4(w:Wf m):∀{t i j:Nat},i<m.next.length->j<m.next.length->((pyc m t).getD i 0=(pyc m t).getD j 0<->Ra m t i j)
 | 0,i,j,hi,hj=>by
  have h1:m.ends[i]?=some (m.end_ i):=by
   unfold Machine.end_
   rw[yal,yad (by rw[w.ends];exact hi)];rfl
  have h2:m.ends[j]?=some (m.end_ j):=by
   unfold Machine.end_
   rw[yal,yad (by rw[w.ends];exact hj)];rfl
  exact zn7 h1 h2
 | t+1,i,j,hi,hj=>by
  refine(zn7 (zas hi) (zas hj)).trans ?_
  rw[yif,zd4 w hi hj,zre (w.row hi) (w.row hj)]
  refine and_congr_right fun _=>forall_congr' fun c=>forall_congr' fun hc=>?_
  exact zd4 w (w.on_lt hi hc) (w.on_lt hj hc)
def cnt(m:Machine)(t:Nat):Nat:=gr 0 (pyc m t)
theorem zhr(w:Wf m)(t:Nat):cnt m t<=cnt m (t+1)/\(cnt m (t+1)<=cnt m t->Stab m t):=by
 have h:=(zfi w t).finer (zfi w (t+1)) fun i j hi hj e=>(zd4 w hi hj).mpr ((zd4 w hi hj).mp e).1
 refine⟨h.1,fun hle i j hi hj r=>(zd4 w hi hj).mp (h.2 hle i j hi hj ((zd4 w hi hj).mpr r))⟩
theorem zn9(w:Wf m)(t:Nat):cnt m t<=m.next.length:=(zfi w t).le
theorem zj0(w:Wf m):∀ t,(∀ s,s<t->¬ Stab m s)->t<=cnt m t
 | 0,_=>ybj _
 | t+1,h=>by
  have ih:=zj0 w t fun s hs=>h s (by omega)
  have:=zhr w t
  by_cases q:cnt m (t+1)<=cnt m t
  ·exact absurd (this.2 q) (h t (by omega))
  ·omega
theorem zgm(w:Wf m):Stab m (m.next.length+1):=by
 by_cases h:∃ s,s<=m.next.length/\Stab m s
 ·obtain⟨s,hs,q⟩:=h
  obtain⟨d,e⟩:=yj2 (show s<=m.next.length+1 by omega)
  rw[<- e]
  exact q.all w d
 ·exfalso
  have:=zj0 w (m.next.length+1) fun s hs q=>h ⟨s,by omega,q⟩
  have:=zn9 w (m.next.length+1)
  omega
theorem zu3(w:Wf m){t:Nat}(h:Stab m t):cnt m (t+1)=cnt m t:=by
 have a:=(zhr w t).1
 have b:=((zfi w (t+1)).finer (zfi w t) fun i j hi hj e=>(zd4 w hi hj).mpr (h i j hi hj ((zd4 w hi hj).mp e))).1
 exact Nat.le_antisymm b a
end
def fin(m:Machine):Nat->List Nat
 | 0=>m.ends.map fun (b:Bool)=>if b=true then 1 else 0
 | t+1=>finer m (fin m t)
section
variable {m:Machine}
def signS(m:Machine)(k:List Nat):List (List Nat):=(yae m.size).map fun (q:Nat)=>(k.getD q 0)::(yae LETTERS).map fun (c:Nat)=>k.getD (m.on q c) 0
theorem zu4(k:List Nat):finer m k=(signS m k).map fun s=>(signS m k).idxOf s:=rfl
theorem zel{t i:Nat}(hi:i<m.next.length):(fin m (t+1)).getD i 0=(signS m (fin m t)).idxOf ((fin m t).getD i 0::(yae LETTERS).map fun c=>(fin m t).getD (m.on i c) 0):=by
 refine zw ?_
 show(finer m (fin m t))[i]?=_
 rw[zu4,yaj,show(signS m (fin m t))[i]?=_ from zas hi]
 rfl
theorem zpl{f g:Nat->Nat}:(yae LETTERS).map f=(yae LETTERS).map g<->∀ c,c<LETTERS->f c=g c:=by
 rw[List.map_inj_left]
 exact⟨fun h c hc=>h c (yau.mpr hc),fun h c hc=>h c (yau.mp hc)⟩
theorem zg5(w:Wf m):∀{t i j:Nat},i<m.next.length->j<m.next.length->((fin m t).getD i 0=(fin m t).getD j 0<->Ra m t i j)
 | 0,i,j,hi,hj=>by
  have h1:∀ i,i<m.next.length->(fin m 0).getD i 0=if m.end_ i=true then 1 else 0:=fun i hi=>by
   refine zw ?_
   show(m.ends.map _)[i]?=_
   rw[yaj,yad (by rw[w.ends];exact hi)]
   unfold Machine.end_
   rw[yal,yad (by rw[w.ends];exact hi)]
   rfl
  rw[h1 i hi,h1 j hj]
  show _<->m.end_ i=m.end_ j
  cases m.end_ i<;>cases m.end_ j<;>simp
 | t+1,i,j,hi,hj=>by
  have mi:∀ i,i<m.next.length->((fin m t).getD i 0::(yae LETTERS).map fun c=>(fin m t).getD (m.on i c) 0)∈signS m (fin m t):=fun i hi=>yat (zas hi)
  have e:(fin m (t+1)).getD i 0=(fin m (t+1)).getD j 0<->((fin m t).getD i 0::(yae LETTERS).map fun c=>(fin m t).getD (m.on i c) 0)=((fin m t).getD j 0::(yae LETTERS).map fun c=>(fin m t).getD (m.on j c) 0):=by
   rw[zel hi,zel hj]
   constructor
   ·intro e
    have h1:=zcq (mi i hi)
    rw[e,zcq (mi j hj)]at h1
    exact(ya1 h1).symm
   ·intro e;rw[e]
  rw[e,List.cons.injEq,zpl,zg5 w hi hj]
  refine and_congr_right fun _=>forall_congr' fun c=>forall_congr' fun hc=>?_
  exact zg5 w (w.on_lt hi hc) (w.on_lt hj hc)
theorem zjk:∀(f t:Nat),∃ s,classes m f (fin m t)=fin m s/\(fin m (s+1)=fin m s\/s=t+f)
 | 0,t=>⟨t,rfl,.inr rfl⟩
 | f+1,t=>by
  show ∃ s,(if finer m (fin m t)=fin m t then fin m t else classes m f (finer m (fin m t)))=fin m s/\_
  by_cases h:finer m (fin m t)=fin m t
  ·rw[if_pos h]
   exact⟨t,rfl,.inl h⟩
  ·rw[if_neg h]
   obtain⟨s,e,q⟩:=zjk f (t+1)
   exact⟨s,e,q.imp id fun z=>by omega⟩
structure Min(m:Machine)(q a:Nat):Prop where
 le:a<=q
 al:Rinf m a q
 no:∀ j,j<a->¬ Rinf m j q
theorem Min.uniq{q a b:Nat}(x:Min m q a)(y:Min m q b):a=b:=by
 rcases yk2 a b with h | h | h
 ·exact absurd x.al (y.no a h)
 ·exact h
 ·exact absurd y.al (x.no b h)
def specK(m:Machine):List Nat:=classes m (m.size+1) (m.ends.map fun (b:Bool)=>if b=true then 1 else 0)
theorem zih(w:Wf m){q:Nat}(hq:q<m.next.length):Min m q ((specK m).getD q 0):=by
 obtain⟨s,e,h⟩:=zjk (m:=m) (m.size+1) 0
 have e:specK m=fin m s:=e
 have hs:fin m (s+1)=fin m s\/s=m.next.length+1:=h.imp id fun z=>by
  have:m.size=m.next.length:=rfl
  omega
 have st:Stab m s:=by
  rcases hs with h | h
  ·exact fun i j hi hj r=>(zg5 w hi hj).mp (by rw[h];exact(zg5 w hi hj).mpr r)
  ·rw[h];exact zgm w
 obtain⟨t,et⟩:∃ t,fin m s=fin m (t+1)/\Stab m t:=by
  rcases hs with h | h
  ·exact⟨s,h.symm,st⟩
  ·cases s with
   | zero=>omega
   | succ s=>exact⟨s,rfl,by
     have:s=m.next.length:=by omega
     subst this
     by_cases hh:∃ s,s<=m.next.length/\Stab m s
     ·obtain⟨u,hu,q⟩:=hh
      obtain⟨d,e⟩:=yj2 hu
      rw[<- e]
      exact q.all w d
     ·exfalso
      have:=zj0 w (m.next.length+1) fun u hu q=>hh ⟨u,by omega,q⟩
      have:=zn9 w (m.next.length+1)
      omega⟩
 obtain⟨et,st'⟩:=et
 rw[e,et]
 have inf:∀ i j,i<m.next.length->j<m.next.length->((fin m (t+1)).getD i 0=(fin m (t+1)).getD j 0<->Rinf m i j):=fun i j hi hj =>
  (zg5 w hi hj).trans ⟨fun r=>(st'.next w).inf w hi hj r,fun r=>r _⟩
 have hmem:((fin m t).getD q 0::(yae LETTERS).map fun c=>(fin m t).getD (m.on q c) 0)∈signS m (fin m t):=yat (zas hq)
 have hg:=zcq hmem
 rw[<- zel hq]at hg
 have hlt:(fin m (t+1)).getD q 0<m.next.length:=by
  have:=(yag.mp hg).1
  simpa [signS,Machine.size] using this
 have hle:∀ j,j<m.next.length->Rinf m j q->(fin m (t+1)).getD q 0<=j:=fun j hj r=>by
  have ej:=(inf j q hj hq).mpr r
  rw[zel hj,zel hq]at ej
  have h1:(signS m (fin m t))[j]?=some ((fin m t).getD j 0::(yae LETTERS).map fun c=>(fin m t).getD (m.on j c) 0):=zas hj
  rw[zel hq,<- ej]
  by_cases hl:(signS m (fin m t)).idxOf ((fin m t).getD j 0::(yae LETTERS).map fun c=>(fin m t).getD (m.on j c) 0)<=j
  ·exact hl
  ·exfalso
   have:=yiy (p:=(· == ((fin m t).getD j 0::(yae LETTERS).map fun c=>(fin m t).getD (m.on j c) 0))) (xs:=signS m (fin m t)) (i:=j) (by unfold List.idxOf at hl;omega)
   obtain⟨a,e⟩:=yag.mp h1
   rw[e]at this
   simp at this
 refine⟨hle q hq fun _=>Ra.refl _ _,?_,fun j hj r=>?_⟩
 ·rw[<- inf _ _ hlt hq]
  have h1:(signS m (fin m t))[(fin m (t+1)).getD q 0]?=some ((fin m t).getD ((fin m (t+1)).getD q 0) 0::(yae LETTERS).map fun c=>(fin m t).getD (m.on ((fin m (t+1)).getD q 0) c) 0):=zas hlt
  rw[hg]at h1
  rw[zel hlt,<- ya1 h1,<- zel hq]
 ·exact absurd (hle j (by omega) r) (by omega)
end
end MM
end
section
namespace MM
open Rows
structure Cls(m:Machine)(C:List Nat):Prop where
 nb:Nb m.next.length C
 ker:∀ i j,i<m.next.length->j<m.next.length->(C.getD i 0=C.getD j 0<->Rinf m i j)
def quo(m:Machine)(C:List Nat):Machine :=
 ⟨(yae (gr 0 C)).map fun v=>(m.next.getD (C.idxOf v) []).map fun s=>C.getD s 0,(yae (gr 0 C)).map fun v=>m.end_ (C.idxOf v)⟩
section
variable {m:Machine}{C:List Nat}
theorem zh1{l:List Nat}{s:Nat}(h:s<l.length):l.take (s+1)=l.take s++[l.getD s 0]:=by
 rw[ydu,zbz h];rfl
theorem Nb.take_ok{n:Nat}(N:Nb n C)(s:Nat):MM.ok 0 (C.take s):=by
 have h:=N.ok
 rw[<- ycf s C,zet]at h
 exact h.1
theorem Nb.at_le{n:Nat}(N:Nb n C){s:Nat}(hs:s<n):C.getD s 0<=gr 0 (C.take s):=by
 have h:=N.take_ok (s+1)
 rw[zh1 (by rw[N.len];exact hs),zet]at h
 exact h.2.1
theorem Nb.take_next{n:Nat}(N:Nb n C){s:Nat}(hs:s<n):gr 0 (C.take (s+1))=if C.getD s 0=gr 0 (C.take s) then gr 0 (C.take s)+1 else gr 0 (C.take s):=by
 rw[zh1 (by rw[N.len];exact hs),zdx]
 rfl
theorem zoa{l:List Nat}{s t:Nat}(h:s<=t):gr 0 (l.take s)<=gr 0 (l.take t):=by
 have e:l.take t=l.take s++(l.take t).drop s:=by
  have:=(ycf s (l.take t)).symm
  rw[ymq,yjf h]at this
  exact this
 rw[e,zdx]
 exact zgl _ _
theorem Nb.seen{n:Nat}(N:Nb n C){x s:Nat}(hx:x<s)(hs:x<n):C.getD x 0<gr 0 (C.take s):=by
 have h1:C.getD x 0<gr 0 (C.take (x+1)):=by
  have a:=N.at_le hs
  rw[N.take_next hs]
  split<;>omega
 exact yaz h1 (zoa hx)
theorem zsx{n:Nat}(N:Nb n C):∀{xs:List Nat} {s:Nat},ok s xs->gr s xs<=n ->
  gr (gr 0 (C.take s)) (xs.map fun x=>C.getD x 0)=gr 0 (C.take (gr s xs))/\ok (gr 0 (C.take s)) (xs.map fun x=>C.getD x 0)
 | [],_,_,_=>⟨rfl,trivial⟩
 | x::xs,s,h,hn=>by
  obtain⟨h1,h2⟩:=h
  have hn:gr (if x=s then s+1 else s) xs<=n:=hn
  have ih:=zsx N h2 hn
  have hle:=zgl (if x=s then s+1 else s) xs
  by_cases e:x=s
  ·subst e
   simp only[if_true]at ih hle hn
   have hx:x<n:=by omega
   rw[N.take_next hx]at ih
   refine⟨?_,N.at_le hx,?_⟩
   ·show gr (if C.getD x 0=gr 0 (C.take x) then _ else _) _=gr 0 (C.take (gr (if x=x then x+1 else x) xs))
    rw[if_pos rfl]
    exact ih.1
   ·exact ih.2
  ·rw[if_neg e]at ih hle hn
   have hlt:C.getD x 0<gr 0 (C.take s):=N.seen (by omega) (by omega)
   have hne:¬ C.getD x 0=gr 0 (C.take s):=by omega
   refine⟨?_,ycx hlt,?_⟩
   ·show gr (if C.getD x 0=gr 0 (C.take s) then _ else _) _=gr 0 (C.take (gr (if x=s then s+1 else s) xs))
    rw[if_neg hne,if_neg e]
    exact ih.1
   ·show ok (if C.getD x 0=gr 0 (C.take s) then _ else _) _
    rw[if_neg hne]
    exact ih.2
theorem Nb.first_at{n:Nat}(N:Nb n C){k:Nat}(hk:k<n)(h:C.getD k 0=gr 0 (C.take k)):C.idxOf (gr 0 (C.take k))=k:=by
 rw[<- h]
 have h1:=N.fst_le hk
 by_cases e:C.idxOf (C.getD k 0)=k
 ·exact e
 ·exfalso
  have hl:C.idxOf (C.getD k 0)<k:=by omega
  have:=N.seen hl (by omega)
  rw[(N.fst (N.lt hk)).2]at this
  omega
theorem Nb.first_gr{n:Nat}(N:Nb n C){v:Nat}(hv:v<gr 0 C):gr 0 (C.take (C.idxOf v))=v:=by
 obtain⟨h1,h2⟩:=N.fst hv
 have hle:=N.at_le h1
 rw[h2]at hle
 by_cases e:gr 0 (C.take (C.idxOf v))=v
 ·exact e
 ·exfalso
  have hin:v∈C.take (C.idxOf v):=(ok_all (N.take_ok _) (show v<gr 0 (C.take (C.idxOf v)) by omega)).resolve_left (yha _)
  obtain⟨i,hi⟩:=ydo hin
  have hil:i<C.idxOf v:=by
   have:=(yag.mp hi).1
   rw[yd0]at this
   omega
  rw[yey hil]at hi
  have:=zjz hi
  omega
theorem zc6:(quo m C).next.length=gr 0 C:=by simp[quo]
theorem zp4{v:Nat}(hv:v<gr 0 C):(quo m C).next[v]?=some ((m.next.getD (C.idxOf v) []).map fun s=>C.getD s 0):=zas hv
def sAt(m:Machine)(k:Nat):Nat:=gr 1 (m.next.take k).flatten
theorem zob{k:Nat}{row:List Nat}(h:m.next[k]?=some row):sAt m (k+1)=gr (sAt m k) row:=by
 unfold sAt
 rw[ydu,h]
 simp only[Option.toList,ydv,ydt,ylw,yex]
 exact zdx _ _ _
theorem zzr(w:Wf m)(k:Nat):sAt m k<=m.next.length:=by
 have e2:=w.rg.gr
 rw[<- ycf k m.next,ydv,zdx,ycf]at e2
 have:=zgl (gr 1 (m.next.take k).flatten) (m.next.drop k).flatten
 unfold sAt
 omega
theorem zu5{j k:Nat}(h:j<=k):sAt m j<=sAt m k:=by
 unfold sAt
 have e:m.next.take k=m.next.take j++(m.next.take k).drop j:=by
  have:=(ycf j (m.next.take k)).symm
  rw[ymq,yjf h]at this
  exact this
 rw[e,ydv,zdx]
 exact zgl _ _
theorem zsy(w:Wf m){k:Nat}{row:List Nat}(h:m.next[k]?=some row):ok (sAt m k) row:=by
 have ho:=w.rg.ok
 have htk:(m.next.take (k+1)).flatten=(m.next.take k).flatten++row:=by
  rw[ydu,h]
  simp
 rw[<- ycf (k+1) m.next,ydv,zet,htk,zet]at ho
 exact ho.1.2
theorem zoc(w:Wf m)(K:Cls m C):∀ k,k<=m.next.length ->
  gr 1 ((quo m C).next.take (gr 0 (C.take k))).flatten=gr 0 (C.take (sAt m k))/\ok 1 ((quo m C).next.take (gr 0 (C.take k))).flatten
 | 0,_=>by
  refine⟨?_,trivial⟩
  have h0:C.getD 0 0=0:=by
   have:=K.nb.at_le w.pos
   simpa [gr] using this
  show 1=gr 0 (C.take 1)
  rw[K.nb.take_next w.pos,h0]
  rfl
 | k+1,hk=>by
  have hk':k<m.next.length:=by omega
  obtain⟨i1,i2⟩:=zoc w K k (by omega)
  obtain⟨row,hrow⟩:∃ r,m.next[k]?=some r:=⟨_,yad hk'⟩
  have hok:=zsy w hrow
  have hs:=zob hrow
  have mg:=zsx K.nb hok (by rw[<- hs];exact zzr w _)
  rw[<- hs]at mg
  rw[K.nb.take_next hk']
  by_cases e:C.getD k 0=gr 0 (C.take k)
  ·rw[if_pos e]
   have hv:gr 0 (C.take k)<gr 0 C:=by rw[<- e];exact K.nb.lt hk'
   have hq:=zp4 (m:=m) hv
   rw[K.nb.first_at hk' e,zw hrow]at hq
   rw[ydu,hq]
   simp only[Option.toList,ydv,ydt,ylw,yex]
   rw[zdx,zet,i1]
   exact⟨mg.1,i2,mg.2⟩
  ·rw[if_neg e]
   refine⟨?_,i2⟩
   rw[i1]
   have hlt:C.getD k 0<gr 0 (C.take k):=by
    have:=K.nb.at_le hk'
    omega
   obtain⟨f1,f2⟩:=K.nb.fst (K.nb.lt hk')
   have hfk:C.idxOf (C.getD k 0)<k:=by
    have h1:=K.nb.fst_le hk'
    by_cases z:C.idxOf (C.getD k 0)=k
    ·exfalso
     have:=K.nb.first_gr (K.nb.lt hk')
     rw[z]at this
     omega
    ·omega
   have old:∀ x∈row.map (fun x=>C.getD x 0),x<gr 0 (C.take (sAt m k)):=fun y hy=>by
    obtain⟨x,hx,rfl⟩:=ya6.mp hy
    obtain⟨c,hc⟩:=ydo hx
    have hrl:row.length=LETTERS:=w.rg.len row (yat hrow)
    have hcl:c<LETTERS:=by
     have:=(yag.mp hc).1
     omega
    have ex:m.on k c=x:=by
     unfold Machine.on
     rw[zw hrow,zw hc]
    have al:Rinf m (C.idxOf (C.getD k 0)) k:=(K.ker _ _ f1 hk').mp f2
    have e2:C.getD (m.on (C.idxOf (C.getD k 0)) c) 0=C.getD x 0:=by
     rw[<- ex]
     exact(K.ker _ _ (w.on_lt f1 hcl) (w.on_lt hk' hcl)).mpr (al.on hcl)
    rw[<- e2]
    refine K.nb.seen ?_ (w.on_lt f1 hcl)
    obtain⟨rf,hrf⟩:∃ r,m.next[C.idxOf (C.getD k 0)]?=some r:=⟨_,yad f1⟩
    have h3:m.on (C.idxOf (C.getD k 0)) c<sAt m (C.idxOf (C.getD k 0)+1):=by
     rw[zob hrf]
     refine zko (zsy w hrf) ?_
     unfold Machine.on
     rw[zw hrf]
     exact zcc (by rw[w.rg.len rf (yat hrf)];exact hcl)
    exact yaz h3 (zu5 hfk)
   have:=zst old
   rw[<- mg.1,this.1]
theorem Nb.take_all{n:Nat}(N:Nb n C):C.take n=C:=by rw[<- N.len,ydq]
theorem zsz(w:Wf m)(K:Cls m C):Rg (quo m C).next:=by
 have full:=zoc w K m.next.length (yao _)
 have es:sAt m m.next.length=m.next.length:=by
  unfold sAt
  rw[ydq]
  exact w.rg.gr
 rw[es,K.nb.take_all]at full
 have et:(quo m C).next.take (gr 0 C)=(quo m C).next:=by
  rw[<- zc6 (m:=m),ydq]
 rw[et]at full
 refine⟨fun r hr=>?_,full.2,by rw[zc6];exact full.1,fun v hv=>?_⟩
 ·obtain⟨v,hv,rfl⟩:=ya6.mp hr
  rw[yab]
  exact w.row (K.nb.fst (yau.mp hv)).1
 ·rw[zc6]at hv
  obtain⟨f1,f2⟩:=K.nb.fst hv
  have h:=(zoc w K (C.idxOf v) (ycx f1)).1
  rw[K.nb.first_gr hv]at h
  rw[h]
  have:=K.nb.seen (w.rg.go _ f1) f1
  rw[f2]at this
  exact this
theorem zzs(w:Wf m)(K:Cls m C):Wf (quo m C):=⟨zsz w K,by simp[quo]⟩
theorem zkr(w:Wf m)(K:Cls m C){v c:Nat}(hv:v<gr 0 C)(hc:c<LETTERS):(quo m C).on v c=C.getD (m.on (C.idxOf v) c) 0:=by
 unfold Machine.on
 rw[zw (zp4 hv)]
 refine zw ?_
 rw[yaj,zbz (by rw[w.row (K.nb.fst hv).1];exact hc)]
 rfl
theorem zg6{v:Nat}(hv:v<gr 0 C):(quo m C).end_ v=m.end_ (C.idxOf v):=zw (zas hv)
theorem Cls.min(w:Wf m)(K:Cls m C){q:Nat}(hq:q<m.next.length):Min m q (C.idxOf (C.getD q 0)):=by
 obtain⟨f1,f2⟩:=K.nb.fst (K.nb.lt hq)
 refine⟨K.nb.fst_le hq,(K.ker _ _ f1 hq).mp f2,fun j hj r=>?_⟩
 have hjn:j<m.next.length:=by omega
 have e:=(K.ker _ _ hjn hq).mpr r
 have:=K.nb.fst_le hjn
 rw[e]at this
 omega
theorem zgx(w:Wf m)(K:Cls m C){q:Nat}(hq:q<m.next.length):(specK m).getD q 0=C.idxOf (C.getD q 0):=(zih w hq).uniq (K.min w hq)
theorem zmt(w:Wf m){a:Nat}(ha:a<m.next.length)(h:(specK m).getD a 0=a):(yae m.size).findIdx (fun (q:Nat)=>(specK m).getD q 0 == a)=a:=by
 have hs:m.size=m.next.length:=rfl
 rw[List.findIdx_eq (by rw[ya5,hs];exact ha)]
 refine⟨by simp only[ykp];rw[h];simp,fun j hj=>?_⟩
 simp only[ykp]
 have:=(zih w (q:=j) (by omega)).le
 have:¬ (specK m).getD j 0=a:=by omega
 simpa using this
theorem ze1(w:Wf m)(K:Cls m C):m.least=quo m C:=by
 have hg:∀ i j,i<(quo m C).next.length->j<(quo m C).next.length->([((C.idxOf i:Nat):Int)]:Told)=[((C.idxOf j:Nat):Int)]->i=j:=fun i j hi hj e=>by
  rw[zc6]at hi hj
  have e':C.idxOf i=C.idxOf j:=by
   have:=(yig e).1
   omega
  rw[<- (K.nb.fst hi).2,<- (K.nb.fst hj).2,e']
 have rep:∀ v,v<gr 0 C->(yae m.size).findIdx (fun (q:Nat)=>(specK m).getD q 0 == C.idxOf v)=C.idxOf v:=fun v hv=>by
  obtain⟨f1,f2⟩:=K.nb.fst hv
  exact zmt w f1 (by rw[zgx w K f1,f2])
 have h0:C.getD 0 0=0:=by
  have:=K.nb.at_le w.pos
  simpa [gr] using this
 have e0:([((C.idxOf 0:Nat):Int)]:Told)=[(((specK m).getD 0 0:Nat):Int)]:=by rw[zgx w K w.pos,h0]
 have h:=zft (step:=fun (t:Told) (c:Nat)=>[(((specK m).getD (m.on ((yae m.size).findIdx (fun (q:Nat)=>(specK m).getD q 0 == (t.getD 0 0).toNat)) c) 0:Nat):Int)]) (zsz w K)
  (g:=fun v=>[((C.idxOf v:Nat):Int)]) hg (fun v c hv hc=>by
   rw[zc6]at hv
   show [(((specK m).getD (m.on ((yae m.size).findIdx (fun (q:Nat)=>(specK m).getD q 0 == C.idxOf v)) c) 0:Nat):Int)]=_
   rw[rep v hv,zgx w K (w.on_lt (K.nb.fst hv).1 hc)]
   show _=[((C.idxOf ((quo m C).on v c):Nat):Int)]
   rw[zkr w K hv hc]) (f:=m.size) (by rw[zc6];exact K.nb.le) (fun (t:Told)=>m.end_ ((yae m.size).findIdx (fun (q:Nat)=>(specK m).getD q 0 == (t.getD 0 0).toNat)))
 rw[e0]at h
 refine Eq.trans h ?_
 show Machine.mk (quo m C).next _=⟨(quo m C).next,(quo m C).ends⟩
 congr 1
 rw[zc6]
 refine ybw fun v hv=>?_
 show m.end_ ((yae m.size).findIdx (fun (q:Nat)=>(specK m).getD q 0 == C.idxOf v))=_
 rw[rep v (yau.mp hv)]
end
def Red(m:Machine):Prop:=∀ i j,i<m.next.length->j<m.next.length->Rinf m i j->i=j
def Zr(m:Machine):Prop:=∀ q,q<m.next.length->m.end_ (m.on q 0)=m.end_ q
structure Good(m:Machine):Prop where
 wf:Wf m
 red:Red m
 zr:Zr m
section
variable {m:Machine}{C:List Nat}
theorem zod(w:Wf m)(K:Cls m C):∀{t i j:Nat},i<m.next.length->j<m.next.length->(Ra (quo m C) t (C.getD i 0) (C.getD j 0)<->Ra m t i j)
 | 0,i,j,hi,hj=>by
  show(quo m C).end_ _=(quo m C).end_ _<->m.end_ i=m.end_ j
  rw[zg6 (K.nb.lt hi),zg6 (K.nb.lt hj),(K.min w hi).al.end_,(K.min w hj).al.end_]
 | t+1,i,j,hi,hj=>by
  have on_cls:∀ i c,i<m.next.length->c<LETTERS->(quo m C).on (C.getD i 0) c=C.getD (m.on i c) 0:=fun i c hi hc=>by
   rw[zkr w K (K.nb.lt hi) hc]
   exact(K.ker _ _ (w.on_lt (K.nb.fst (K.nb.lt hi)).1 hc) (w.on_lt hi hc)).mpr ((K.min w hi).al.on hc)
  show(Ra _ t _ _/\_)<->(Ra _ t _ _/\_)
  rw[zod w K hi hj]
  refine and_congr_right fun _=>forall_congr' fun c=>forall_congr' fun hc=>?_
  rw[on_cls i c hi hc,on_cls j c hj hc]
  exact zod w K (w.on_lt hi hc) (w.on_lt hj hc)
theorem zxh(w:Wf m)(K:Cls m C):Red (quo m C):=fun i j hi hj r=>by
 rw[zc6]at hi hj
 obtain⟨f1,f2⟩:=K.nb.fst hi
 obtain⟨g1,g2⟩:=K.nb.fst hj
 rw[<- f2,<- g2]at r ⊢
 refine(K.ker _ _ f1 g1).mpr fun t=>(zod w K f1 g1).mp ?_
 have:=r t
 exact this
theorem zzt(w:Wf m)(K:Cls m C)(z:Zr m):Zr (quo m C):=fun v hv=>by
 rw[zc6]at hv
 have h1:=(K.nb.fst hv).1
 have h2:=w.on_lt h1 (show 0<LETTERS by decide)
 rw[zkr w K hv (by decide),zg6 (K.nb.lt h2),zg6 hv,(K.min w h2).al.end_,z _ h1]
theorem zu6(w:Wf m)(K:Cls m C)(z:Zr m):Good (quo m C):=⟨zzs w K,zxh w K,zzt w K z⟩
theorem zi6(w:Wf m){t:Nat}(h:Stab m t):Cls m (pyc m t) :=
 ⟨zfi w t,fun i j hi hj=>(zd4 w hi hj).trans ⟨fun r=>h.inf w hi hj r,fun r=>r t⟩⟩
theorem zcr(w:Wf m)(z:Zr m):Good m.least:=by
 have K:=zi6 w (zgm w)
 rw[ze1 w K]
 exact zu6 w K z
theorem zhs(g:Good m):m.least=m:=by
 have w:=g.wf
 have hk:∀ q,q<m.next.length->(specK m).getD q 0=q:=fun q hq=>by
  have h:=zih w hq
  exact g.red _ _ (yhl h.le hq) hq h.al
 have rep:∀ v,v<m.next.length->(yae m.size).findIdx (fun (q:Nat)=>(specK m).getD q 0 == v)=v:=fun v hv=>zmt w hv (hk v hv)
 have hg:∀ i j,i<m.next.length->j<m.next.length->([((i:Nat):Int)]:Told)=[((j:Nat):Int)]->i=j:=fun i j hi hj e=>by
  have:=(yig e).1
  omega
 have e0:([((0:Nat):Int)]:Told)=[(((specK m).getD 0 0:Nat):Int)]:=by rw[hk 0 w.pos]
 have h:=zft (step:=fun (t:Told) (c:Nat)=>[(((specK m).getD (m.on ((yae m.size).findIdx (fun (q:Nat)=>(specK m).getD q 0 == (t.getD 0 0).toNat)) c) 0:Nat):Int)]) w.rg
  (g:=fun v=>[((v:Nat):Int)]) hg (fun v c hv hc=>by
   show [(((specK m).getD (m.on ((yae m.size).findIdx (fun (q:Nat)=>(specK m).getD q 0 == v)) c) 0:Nat):Int)]=_
   rw[rep v hv,hk _ (w.on_lt hv hc)]
   rfl) (f:=m.size) (yao _) (fun (t:Told)=>m.end_ ((yae m.size).findIdx (fun (q:Nat)=>(specK m).getD q 0 == (t.getD 0 0).toNat)))
 rw[e0]at h
 refine Eq.trans h ?_
 show Machine.mk m.next _=⟨m.next,m.ends⟩
 congr 1
 have:∀ v∈yae m.next.length,m.end_ ((yae m.size).findIdx (fun (q:Nat)=>(specK m).getD q 0 == (([((v:Nat):Int)]:Told).getD 0 0).toNat))=m.end_ v:=fun v hv=>by
  show m.end_ ((yae m.size).findIdx (fun (q:Nat)=>(specK m).getD q 0 == v))=_
  rw[rep v (yau.mp hv)]
 rw[ybw this,<- w.ends]
 apply yc3
 intro i
 by_cases hi:i<m.ends.length
 ·rw[zas hi]
  unfold Machine.end_
  rw[yal,yad hi]
  rfl
 ·rw[ybd (by simp;omega),ybd (by omega)]
def neg(m:Machine):Machine:=⟨m.next,m.ends.map fun b=>!b⟩
theorem zi7{q:Nat}(w:Wf m)(hq:q<m.next.length):(neg m).end_ q = !m.end_ q:=by
 refine zw ?_
 show(m.ends.map _)[q]?=_
 rw[yaj]
 unfold Machine.end_
 rw[yal,yad (by rw[w.ends];exact hq)]
 rfl
theorem zzu(w:Wf m):Wf (neg m):=⟨w.rg,by show(m.ends.map _).length=_;rw[yab];exact w.ends⟩
theorem zoe(w:Wf m):∀{t i j:Nat},i<m.next.length->j<m.next.length->(Ra (neg m) t i j<->Ra m t i j)
 | 0,i,j,hi,hj=>by
  show(neg m).end_ i=(neg m).end_ j<->m.end_ i=m.end_ j
  rw[zi7 w hi,zi7 w hj]
  cases m.end_ i<;>cases m.end_ j<;>simp
 | t+1,i,j,hi,hj=>by
  show(Ra _ t _ _/\_)<->(Ra _ t _ _/\_)
  rw[zoe w hi hj]
  refine and_congr_right fun _=>forall_congr' fun c=>forall_congr' fun hc=>?_
  exact zoe w (w.on_lt hi hc) (w.on_lt hj hc)
theorem zf8(g:Good m):Good (neg m):=⟨zzu g.wf,fun i j hi hj r=>g.red i j hi hj fun t=>(zoe g.wf hi hj).mp (r t),fun q hq=>by
 show(neg m).end_ (m.on q 0)=(neg m).end_ q
 rw[zi7 g.wf hq,zi7 g.wf (g.wf.on_lt hq (by decide)),g.zr q hq]⟩
theorem zfw(g:Good m):negated m=neg m:=by
 have w:=g.wf
 have hg:∀ i j,i<m.next.length->j<m.next.length->([((i:Nat):Int),((i:Nat):Int)]:Told)=[((j:Nat):Int),((j:Nat):Int)]->i=j:=fun i j hi hj e=>by
  have:=(yig e).1
  omega
 have h:=zft (step:=fun (t:Told) (c:Nat)=>[((m.on (t.getD 0 0).toNat c:Nat):Int),((m.on (t.getD 1 0).toNat c:Nat):Int)]) w.rg
  (g:=fun v=>[((v:Nat):Int),((v:Nat):Int)]) hg (fun v c hv hc=>rfl) (f:=m.size*m.size) (by
   show m.next.length<=m.next.length*m.next.length
   exact yiz _ w.pos)
  (fun (t:Told)=>(3:Nat).testBit (2*(if m.end_ (t.getD 0 0).toNat=true then 1 else 0)+(if m.end_ (t.getD 1 0).toNat=true then 1 else 0)))
 have e:machineBy (m.size*m.size) (fun (t:Told) (c:Nat)=>[((m.on (t.getD 0 0).toNat c:Nat):Int),((m.on (t.getD 1 0).toNat c:Nat):Int)]) (fun (t:Told)=>(3:Nat).testBit (2*(if m.end_ (t.getD 0 0).toNat=true then 1 else 0)+(if m.end_ (t.getD 1 0).toNat=true then 1 else 0))) [0,0]=neg m:=by
  refine Eq.trans h ?_
  show Machine.mk m.next _=⟨m.next,m.ends.map fun b=>!b⟩
  congr 1
  rw[<- w.ends]
  apply yc3
  intro i
  by_cases hi:i<m.ends.length
  ·rw[zas hi,yaj]
   show some ((3:Nat).testBit (2*(if m.end_ i=true then 1 else 0)+(if m.end_ i=true then 1 else 0)))=_
   unfold Machine.end_
   rw[yal,yad hi]
   show _=some (!m.ends[i])
   show some ((3:Nat).testBit (2*(if m.ends[i]=true then 1 else 0)+(if m.ends[i]=true then 1 else 0)))=_
   cases m.ends[i]<;>rfl
  ·rw[ybd (by simp;omega),ybd (by simp;omega)]
 unfold negated joined
 rw[e,zhs (zf8 g)]
end
end MM
end
section
namespace MM
open Rows
section
variable {m:Machine}
theorem zof(w:Wf m)(t:Nat):∀ s,cnt m t<=cnt m (t+s)
 | 0=>yao _
 | s+1=>ybq (zof w t s) (zhr w (t+s)).1
theorem zrf(w:Wf m){t:Nat}(h:Stab m t):m.least.next.length=cnt m t:=by
 rw[ze1 w (zi6 w h),zc6]
 rfl
theorem zog(w:Wf m)(t:Nat):cnt m t<=m.least.next.length:=by
 have h:=(zgm w).all w t
 rw[zrf w h]
 have:=zof w t (m.next.length+1)
 rw[show m.next.length+1+t=t+(m.next.length+1) by omega]
 exact this
theorem zlz(w:Wf m){C:List Nat}(K:Cls m C):m.least.next.length=gr 0 C:=by rw[ze1 w K,zc6]
theorem zxi(w:Wf m)(t:Nat):0<cnt m t:=by
 have:=(zfi w t).lt w.pos
 unfold cnt
 omega
end
section
variable {α β:Type}[DecidableEq α][DecidableEq β]{g:α->β}
theorem zs0(hg:∀ x y,g x=g y->x=y)(a:List α)(x:α):push1 (a.map g) (g x)=(push1 a x).map g:=by
 unfold push1
 by_cases h:x∈a
 ·rw[if_pos h,if_pos (ya6.mpr ⟨x,h,rfl⟩)]
 ·rw[if_neg h,if_neg (by
   intro m
   obtain⟨y,hy,e⟩:=ya6.mp m
   exact h (hg _ _ e ▸ hy)),ya9]
  rfl
theorem zs1(hg:∀ x y,g x=g y->x=y):∀(xs a:List α),dd (a.map g) (xs.map g)=(dd a xs).map g
 | [],_=>rfl
 | x::xs,a=>by
  show dd (push1 (a.map g) (g x)) (xs.map g)=(dd (push1 a x) xs).map g
  rw[zs0 hg,zs1 hg]
theorem zmu(hg:∀ x y,g x=g y->x=y)(x:α):∀ l:List α,(l.map g).idxOf (g x)=l.idxOf x
 | []=>rfl
 | y::l=>by
  rw[yb8,yhb,yhb]
  by_cases e:y=x
  ·subst e;simp
  ·rw[show(g y == g x)=false from beq_eq_false_iff_ne.mpr fun z=>e (hg _ _ z),show(y == x)=false from beq_eq_false_iff_ne.mpr e]
   simp only[cond_false]
   rw[zmu hg x l]
theorem zoh(hg:∀ x y,g x=g y->x=y)(xs:List α):numb (xs.map g)=numb xs:=by
 unfold numb
 have e:=zs1 hg xs []
 rw[ygr]at e
 rw[yb7,e]
 refine ybw fun x _=>?_
 exact zmu hg x _
end
end MM
end
section
namespace MM
open Rows
def runw(m:Machine):Nat->List Nat->Nat
 | q,[]=>q
 | q,c::w=>runw m (m.on q c) w
def acc(m:Machine)(q:Nat)(w:List Nat):Prop:=(∀ c∈w,c<LETTERS)/\m.end_ (runw m q w)=true
def bt(c v:Nat):Nat:=if c.testBit v=true then 1 else 0
def vl(v:Nat):List Nat->Nat
 | []=>0
 | c::w=>bt c v+2*vl v w
def rwd(w:List Nat):List Nat:=[vl 0 w,vl 1 w,vl 2 w,vl 3 w]
theorem zht(m:Machine):∀(q:Nat) (a b:List Nat),runw m q (a++b)=runw m (runw m q a) b
 | _,[],_=>rfl
 | q,c::a,b=>zht m (m.on q c) a b
theorem zii(v:Nat):∀ a b:List Nat,vl v (a++b)=vl v a+2 ^ a.length*vl v b
 | [],b=>by simp[vl]
 | c::a,b=>by
  show bt c v+2*vl v (a++b)=bt c v+2*vl v a+2 ^ (a.length+1)*vl v b
  rw[zii v a b,ye3,Nat.mul_add,<- ykq,yfy 2 (2 ^ a.length)]
  omega
theorem z0x(c v:Nat):bt c v<=1:=by unfold bt;split<;>omega
theorem zwr(v:Nat):∀ w:List Nat,vl v w<2 ^ w.length
 | []=>by show 0<1;omega
 | c::w=>by
  have h:=zwr v w
  have b:=z0x c v
  show bt c v+2*vl v w<2 ^ (w.length+1)
  rw[ye3];omega
theorem zu7(v n:Nat)(w:List Nat):vl v (w++yby n 0)=vl v w:=by
 have z:∀ n,vl v (yby n 0)=0:=fun n=>by
  induction n with
  | zero=>rfl
  | succ n ih=>rw[yds];show bt 0 v+2*vl v _=0;rw[ih];simp[bt]
 rw[zii,z];simp
section
variable {m:Machine}
theorem zl0(w:Wf m):∀{u:List Nat} {q:Nat},q<m.next.length->(∀ c∈u,c<LETTERS)->runw m q u<m.next.length
 | [],_,hq,_=>hq
 | c::u,q,hq,h=>by
  show runw m (m.on q c) u<_
  exact zl0 w (w.on_lt hq (h c (by simp))) fun d hd=>h d (by simp[hd])
theorem zmv(w:Wf m)(z:Zr m):∀(n:Nat) {q:Nat},q<m.next.length->m.end_ (runw m q (yby n 0))=m.end_ q
 | 0,_,_=>rfl
 | n+1,q,hq=>by
  rw[yds]
  show m.end_ (runw m (m.on q 0) _)=_
  rw[zmv w z n (w.on_lt hq (by decide)),z q hq]
def path(m:Machine):Nat->List Nat->List Nat
 | q,[]=>[q]
 | q,c::w=>q::path m (m.on q c) w
theorem zoi(m:Machine):∀(q:Nat) (w:List Nat),(path m q w).length=w.length+1
 | _,[]=>rfl
 | q,c::w=>by simp[path,zoi m _ w]
theorem zp5(w:Wf m):∀{u:List Nat} {q:Nat},q<m.next.length->(∀ c∈u,c<LETTERS)->∀ x∈path m q u,x<m.next.length
 | [],q,hq,_,x,hx=>by rw[ya4.mp hx];exact hq
 | c::u,q,hq,h,x,hx=>by
  rcases yap.mp hx with e | e
  ·rw[e];exact hq
  ·exact zp5 w (w.on_lt hq (h c (by simp))) (fun d hd=>h d (by simp[hd])) x e
theorem zks(m:Machine):∀{u:List Nat} {q x:Nat},x∈path m q u->∃ a b,u=a++b/\runw m q a=x
 | [],q,x,hx=>⟨[],[],rfl,(ya4.mp hx).symm⟩
 | c::u,q,x,hx=>by
  rcases yap.mp hx with e | e
  ·exact⟨[],c::u,rfl,e.symm⟩
  ·obtain⟨a,b,h1,h2⟩:=zks m e
   exact⟨c::a,b,by rw[h1];rfl,h2⟩
theorem zoj(m:Machine):∀{u:List Nat} {q:Nat},¬ (path m q u).Nodup->∃ a b c,u=a++(b++c)/\b≠[]/\runw m q a=runw m q (a++b)
 | [],q,h=>(h (by simp[path])).elim
 | c::u,q,h=>by
  by_cases hq:q∈path m (m.on q c) u
  ·obtain⟨a,b,h1,h2⟩:=zks m hq
   exact⟨[],c::a,b,by rw[h1];rfl,by simp,h2.symm⟩
  ·have:¬ (path m (m.on q c) u).Nodup:=fun n=>h (ydy.mpr ⟨hq,n⟩)
   obtain⟨a,b,d,h1,h2,h3⟩:=zoj m this
   exact⟨c::a,b,d,by rw[h1];rfl,h2,h3⟩
theorem zi8(w:Wf m):∀(N:Nat) {q:Nat} {u:List Nat},u.length<=N->q<m.next.length->acc m q u->∃ u',acc m q u'/\u'.length<m.next.length/\∀ v,vl v u'<=vl v u:=by
 intro N
 induction N with
 | zero=>intro q u hu hq h;exact⟨u,h,by have:=w.pos;omega,fun v=>yao _⟩
 | succ N ih =>
  intro q u hu hq h
  by_cases hs:u.length<m.next.length
  ·exact⟨u,h,hs,fun v=>yao _⟩
  ·have nd:¬ (path m q u).Nodup:=fun n=>by
    have:=ze0 (S:=yae m.next.length) n fun x hx=>yau.mpr (zp5 w hq h.1 x hx)
    rw[zoi,ya5]at this
    omega
   obtain⟨a,b,c,h1,h2,h3⟩:=zoj m nd
   subst h1
   have hb:0<b.length:=yj3.mpr h2
   obtain⟨u',g1,g2,g3⟩:=ih (q:=q) (u:=a++c) (by simp only[ya7]at hu ⊢;omega) hq ⟨fun x hx=>h.1 x (by
    rcases yb1.mp hx with e | e
    ·simp[e]
    ·simp[e]),by
    have:=h.2
    rw[<- ybv,zht,<- h3,<- zht]at this
    exact this⟩
   refine⟨u',g1,g2,fun v=>ybq (g3 v) ?_⟩
   rw[zii,zii,zii]
   refine yj4 (Nat.mul_le_mul_left _ ?_) _
   have:=yiz (vl v c) (show 0<2 ^ b.length from yih (by decide))
   omega
end
theorem zok(a b c d e f g h:Nat):lower [a,b,c,d] [e,f,g,h]=true<->a<e\/(a=e/\(b<f\/(b=f/\(c<g\/(c=g/\d<h))))):=by
 simp[lower]
theorem zfz(a b c d e f g h:Nat):lower [a,b,c,d] [e,f,g,h]=false<->e<a\/(e=a/\(f<b\/(f=b/\(g<c\/(g=c/\h<=d))))):=by
 rw[<- ylx,zok]
 omega
def Is4(x:List Nat):Prop:=∃ a b c d,x=[a,b,c,d]
theorem zfj{x y z:List Nat}(hx:Is4 x)(hy:Is4 y)(hz:Is4 z)(h1:lower x y=false)(h2:lower y z=false):lower x z=false:=by
 obtain⟨a,b,c,d,rfl⟩:=hx
 obtain⟨a',b',c',d',rfl⟩:=hy
 obtain⟨e,f,g,h,rfl⟩:=hz
 rw[zfz]at *
 omega
theorem zu8{x y:List Nat}(hx:Is4 x)(hy:Is4 y)(h1:lower x y=false)(h2:lower y x=false):x=y:=by
 obtain⟨a,b,c,d,rfl⟩:=hx
 obtain⟨a',b',c',d',rfl⟩:=hy
 rw[zfz]at *
 have:a=a'/\b=b'/\c=c'/\d=d':=by omega
 obtain⟨rfl,rfl,rfl,rfl⟩:=this
 rfl
theorem zzv{x y:List Nat}(hx:Is4 x)(hy:Is4 y)(h:lower x y=true):lower y x=false:=by
 obtain⟨a,b,c,d,rfl⟩:=hx
 obtain⟨a',b',c',d',rfl⟩:=hy
 rw[zfz,zok]at *
 omega
theorem zu9{x:List Nat}(hx:Is4 x):lower x x=false:=by
 obtain⟨a,b,c,d,rfl⟩:=hx
 rw[zfz];omega
theorem rwd4(w:List Nat):Is4 (rwd w):=⟨_,_,_,_,rfl⟩
theorem zs2{u w:List Nat}(h:∀ v,vl v u<=vl v w):lower (rwd w) (rwd u)=false:=by
 unfold rwd
 rw[zfz]
 have:=h 0;have:=h 1;have:=h 2;have:=h 3
 omega
def upR(c:Nat)(r:List Nat):List Nat:=(yae VARS).map fun (v:Nat)=>(if c.testBit v=true then 1 else 0)+2*r.getD v 0
theorem zp6(c:Nat)(w:List Nat):upR c (rwd w)=rwd (c::w):=rfl
theorem zzw{c:Nat}{x y:List Nat}(hx:Is4 x)(hy:Is4 y)(h:lower x y=false):lower (upR c x) (upR c y)=false:=by
 obtain⟨a,b,e,d,rfl⟩:=hx
 obtain⟨a',b',e',d',rfl⟩:=hy
 show lower [bt c 0+2*a,bt c 1+2*b,bt c 2+2*e,bt c 3+2*d] [bt c 0+2*a',bt c 1+2*b',bt c 2+2*e',bt c 3+2*d']=false
 rw[zfz]at *
 omega
theorem zjl(f:Nat->Option (List Nat))(h4:∀ c x,f c=some x->Is4 x):∀(cs:List Nat) (x0:Option (List Nat)),(∀ x,x0=some x->Is4 x) ->
  (match cs.foldl (fun x c=>better x (f c)) x0 with
  | none=>x0=none/\∀ c∈cs,f c=none
  | some a=>(x0=some a\/∃ c∈cs,f c=some a)/\(∀ b,x0=some b->lower b a=false)/\∀ c∈cs,∀ b,f c=some b->lower b a=false)
 | [],x0,hx=>by
  cases x0 with
  | none=>exact⟨rfl,fun c h=>nomatch h⟩
  | some a=>exact⟨ybk rfl,fun b e=>by rw[<- ya1 e];exact zu9 (hx a rfl),fun c h=>nomatch h⟩
 | c::cs,x0,hx=>by
  have hb:∀ x,better x0 (f c)=some x->Is4 x:=fun x e=>by
   cases e0:x0 with
   | none=>rw[e0]at e;exact h4 c x e
   | some a =>
    rw[e0]at e
    cases e1:f c with
    | none=>rw[e1]at e;exact ya1 e ▸ hx a e0
    | some b =>
     rw[e1]at e
     unfold better at e
     simp only at e
     split at e
     ·exact ya1 e ▸ h4 c b e1
     ·exact ya1 e ▸ hx a e0
  have ih:=zjl f h4 cs (better x0 (f c)) hb
  rw[yjc]
  cases er:cs.foldl (fun x c=>better x (f c)) (better x0 (f c)) with
  | none =>
   rw[er]at ih
   have hn:=ih.1
   cases e0:x0 with
   | none =>
    rw[e0]at hn
    exact⟨rfl,fun d hd=>by
     rcases yap.mp hd with e | e
     ·rw[e];exact hn
     ·exact ih.2 d e⟩
   | some a =>
    rw[e0]at hn
    cases e1:f c with
    | none=>rw[e1]at hn;cases hn
    | some b =>
     rw[e1]at hn
     unfold better at hn
     simp only at hn
     split at hn<;>cases hn
  | some a =>
   rw[er]at ih
   obtain⟨i1,i2,i3⟩:=ih
   have a4:Is4 a:=by
    rcases i1 with e | ⟨d,_,e⟩
    ·exact hb a e
    ·exact h4 d a e
   have key:(x0=some a\/f c=some a\/∃ d∈cs,f d=some a)/\(∀ b,x0=some b->lower b a=false)/\∀ b,f c=some b->lower b a=false:=by
    cases e0:x0 with
    | none =>
     rw[e0]at i1 i2
     refine⟨?_,fun b e=>(nomatch e),fun b e=>i2 b e⟩
     rcases i1 with e | e
     ·exact yc5 (ybk e)
     ·exact yc5 (yc5 e)
    | some x =>
     rw[e0]at i1 i2
     cases e1:f c with
     | none =>
      rw[e1]at i1 i2
      refine⟨?_,fun b e=>i2 b e,fun b e=>(nomatch e)⟩
      rcases i1 with e | e
      ·exact ybk e
      ·exact yc5 (yc5 e)
     | some y =>
      rw[e1]at i1 i2
      have x4:=hx x e0
      have y4:=h4 c y e1
      unfold better at i1 i2
      simp only at i1 i2
      by_cases hl:lower y x=true
      ·rw[if_pos hl]at i1 i2
       have:=i2 y rfl
       refine⟨?_,fun b e=>?_,fun b e=>i2 b e⟩
       ·rcases i1 with e | e
        ·exact yc5 (ybk e)
        ·exact yc5 (yc5 e)
       ·rw[<- ya1 e]
        exact zfj x4 y4 a4 (zzv y4 x4 hl) this
      ·rw[if_neg hl]at i1 i2
       have:=i2 x rfl
       refine⟨?_,fun b e=>i2 b e,fun b e=>?_⟩
       ·rcases i1 with e | e
        ·exact ybk e
        ·exact yc5 (yc5 e)
       ·rw[<- ya1 e]
        exact zfj y4 x4 a4 (by simpa using hl) this
   refine⟨?_,key.2.1,fun d hd b e=>?_⟩
   ·rcases key.1 with e | e | ⟨d,hd,e⟩
    ·exact ybk e
    ·exact yc5 ⟨c,by simp,e⟩
    ·exact yc5 ⟨d,by simp[hd],e⟩
   ·rcases yap.mp hd with g | g
    ·subst g;exact key.2.2 b e
    ·exact i3 d g b e
end MM
end
section
namespace MM
open Rows
theorem zfk{step:Told->Nat->Told}{S:List Told}(hS:∀ x∈S,∀ c,c<LETTERS->step x c∈S):∀(f k:Nat) (l:List Told),(∀ x∈l,x∈S)->∀ x∈found step f k l,x∈S
 | 0,_,_,h,x,hx=>h x hx
 | f+1,k,l,h,x,hx=>by
  cases e:l[k]? with
  | none=>rw[zd3 e]at hx;exact h x hx
  | some t =>
   rw[zdh e]at hx
   refine zfk hS f (k+1) _ (fun y hy=>?_) x hx
   rcases zhq hy with g | ⟨c,hc,rfl⟩
   ·exact h y g
   ·exact hS t (h t (yat e)) c (yau.mp hc)
theorem zi9{step:Told->Nat->Told}{most:Nat}{okf:Told->Bool}{t0:Told}(w:Wf (machineBy most step okf t0))(h:∀ x∈found step most 0 [t0],okf (step x 0)=okf x):Zr (machineBy most step okf t0):=fun q hq=>by
 have hlt:=w.on_lt hq (show 0<LETTERS by decide)
 have e1:(machineBy most step okf t0).next.length=(found step most 0 [t0]).length:=yab _
 rw[e1]at hq hlt
 have eo:(machineBy most step okf t0).on q 0=(found step most 0 [t0]).idxOf (step ((found step most 0 [t0])[q]) 0):=by
  have:((found step most 0 [t0]).map fun (x:Told)=>(yae LETTERS).map fun (c:Nat)=>place (found step most 0 [t0]) (step x c))[q]?=some ((yae LETTERS).map fun (c:Nat)=>place (found step most 0 [t0]) (step ((found step most 0 [t0])[q]) c)):=by
   rw[yaj,yad hq];rfl
  show(((found step most 0 [t0]).map fun (x:Told)=>(yae LETTERS).map fun (c:Nat)=>place (found step most 0 [t0]) (step x c)).getD q []).getD 0 0=_
  rw[zw this]
  rfl
 have en:∀(j:Nat) (t:Told),(found step most 0 [t0])[j]?=some t->(machineBy most step okf t0).end_ j=okf t:=fun j t ht=>by
  refine zw ?_
  show((found step most 0 [t0]).map okf)[j]?=_
  rw[yaj,ht];rfl
 rw[eo]at hlt ⊢
 have hm:=List.idxOf_lt_length_iff.mp hlt
 rw[en _ _ (zcq hm),en q _ (yad hq)]
 exact h _ (ygu hq)
theorem zol(a:List Int):worth a 0=0:=by simp[worth,bitOf,yae,List.range.loop,VARS]
end MM
end
section
namespace MM
open Rows
section
variable {m:Machine}
theorem upR4(c:Nat)(r:List Nat):Is4 (upR c r):=⟨_,_,_,_,rfl⟩
theorem acc_cons{q c:Nat}{u:List Nat}:acc m q (c::u)<->c<LETTERS/\acc m (m.on q c) u:=by
 unfold acc
 show((∀ d∈c::u,d<LETTERS)/\m.end_ (runw m (m.on q c) u)=true)<->_
 constructor
 ·rintro⟨h1,h2⟩
  exact⟨h1 c (by simp),fun d hd=>h1 d (by simp[hd]),h2⟩
 ·rintro⟨h1,h2,h3⟩
  exact⟨fun d hd=>(yap.mp hd).elim (fun e=>e ▸ h1) (h2 d),h3⟩
theorem zfd(w:Wf m):∀(n:Nat) {q:Nat},q<m.next.length->match (leasts m n).getD q none with
  | none=>∀ u,u.length=n->¬ acc m q u
  | some x=>(∃ u,u.length=n/\acc m q u/\rwd u=x)/\∀ u,u.length=n->acc m q u->lower (rwd u) x=false
 | 0,q,hq=>by
  have e:(leasts m 0).getD q none=if m.end_ q=true then some (yby VARS 0) else none:=zw (zas hq)
  rw[e]
  by_cases h:m.end_ q=true
  ·rw[if_pos h]
   refine⟨⟨[],rfl,⟨fun c hc=>(nomatch hc),h⟩,rfl⟩,fun u hu _=>?_⟩
   rw[ye6.mp hu]
   rfl
  ·rw[if_neg h]
   intro u hu a
   rw[ye6.mp hu]at a
   exact h a.2
 | n+1,q,hq=>by
  have e:(leasts m (n+1)).getD q none=(yae LETTERS).foldl (fun (x:Option (List Nat)) (c:Nat)=>better x (((leasts m n).getD (m.on q c) none).map (upR c))) none:=zw (zas hq)
  have bf:=zjl (fun c=>((leasts m n).getD (m.on q c) none).map (upR c)) (fun c x h=>by
   cases g:(leasts m n).getD (m.on q c) none with
   | none=>simp only[g]at h;cases h
   | some r=>simp only[g]at h;exact ya1 h ▸ upR4 c r) (yae LETTERS) none (fun x h=>nomatch h)
  rw[e]
  cases er:(yae LETTERS).foldl (fun (x:Option (List Nat)) (c:Nat)=>better x (((leasts m n).getD (m.on q c) none).map (upR c))) none with
  | none =>
   rw[er]at bf
   intro u hu a
   cases u with
   | nil=>cases hu
   | cons c u =>
    obtain⟨hc,ha⟩:=acc_cons.mp a
    have hf:=bf.2 c (yau.mpr hc)
    have ih:=zfd w n (w.on_lt hq hc)
    cases g:(leasts m n).getD (m.on q c) none with
    | none=>rw[g]at ih;exact ih u (by simpa using hu) ha
    | some r=>rw[g]at hf;cases hf
  | some a =>
   rw[er]at bf
   obtain⟨b1,_,b3⟩:=bf
   have a4:Is4 a:=by
    rcases b1 with h | ⟨c,_,h⟩
    ·cases h
    ·cases g:(leasts m n).getD (m.on q c) none with
     | none=>simp only[g]at h;cases h
     | some r=>simp only[g]at h;exact ya1 h ▸ upR4 c r
   refine⟨?_,fun u hu ha=>?_⟩
   ·rcases b1 with h | ⟨c,hc,h⟩
    ·cases h
    ·have hc':=yau.mp hc
     have ih:=zfd w n (w.on_lt hq hc')
     cases g:(leasts m n).getD (m.on q c) none with
     | none=>simp only[g]at h;cases h
     | some r =>
      rw[g]at ih
      simp only[g]at h
      obtain⟨⟨u,h1,h2,h3⟩,_⟩:=ih
      refine⟨c::u,by simp[h1],acc_cons.mpr ⟨hc',h2⟩,?_⟩
      rw[<- zp6,h3]
      exact ya1 h
   ·cases u with
    | nil=>cases hu
    | cons c u =>
     obtain⟨hc,ha'⟩:=acc_cons.mp ha
     have ih:=zfd w n (w.on_lt hq hc)
     cases g:(leasts m n).getD (m.on q c) none with
     | none=>rw[g]at ih;exact absurd ha' (ih u (by simpa using hu))
     | some r =>
      rw[g]at ih
      have h1:=ih.2 u (by simpa using hu) ha'
      have h2:=b3 c (yau.mpr hc) (upR c r) (by rw[g];rfl)
      obtain⟨⟨u2,_,_,h3⟩,_⟩:=ih
      rw[<- zp6]
      exact zfj (upR4 c _) (upR4 c _) a4 (zzw (rwd4 u) (h3 ▸ rwd4 u2) h1) h2
structure Lst(m:Machine)(x:List Nat):Prop where
 has:∃ u,acc m 0 u/\rwd u=x
 le:∀ u,acc m 0 u->lower (rwd u) x=false
theorem Lst.uniq{x y:List Nat}(h:Lst m x)(g:Lst m y):x=y:=by
 obtain⟨u,a1,rfl⟩:=h.has
 obtain⟨v,a2,rfl⟩:=g.has
 exact zu8 (rwd4 _) (rwd4 _) (g.le u a1) (h.le v a2)
theorem pad(w:Wf m)(z:Zr m){u:List Nat}(h:acc m 0 u):∃ u',u'.length=m.next.length/\acc m 0 u'/\∀ v,vl v u'<=vl v u:=by
 obtain⟨u',a,hl,hv⟩:=zi8 w u.length (yao _) w.pos h
 refine⟨u'++yby (m.next.length - u'.length) 0,by simp;omega,⟨fun c hc=>?_,?_⟩,fun v=>by rw[zu7];exact hv v⟩
 ·rcases yb1.mp hc with e | e
  ·exact a.1 c e
  ·rw[(List.mem_replicate.mp e).2];decide
 ·rw[zht,zmv w z _ (zl0 w w.pos a.1)]
  exact a.2
theorem zkt(w:Wf m)(z:Zr m):match first m with
  | none=>∀ u,¬ acc m 0 u
  | some x=>Lst m x:=by
 have h:=zfd w m.next.length w.pos
 have e:first m=(leasts m m.next.length).getD 0 none:=rfl
 rw[e]
 cases g:(leasts m m.next.length).getD 0 none with
 | none =>
  rw[g]at h
  intro u a
  obtain⟨u',h1,h2,_⟩:=pad w z a
  exact h u' h1 h2
 | some x =>
  rw[g]at h
  obtain⟨⟨u0,h1,h2,h3⟩,hle⟩:=h
  refine⟨⟨u0,h2,h3⟩,fun u a=>?_⟩
  obtain⟨u',k1,k2,k3⟩:=pad w z a
  exact zfj (rwd4 u) (rwd4 u') (h3 ▸ rwd4 u0) (zs2 k3) (hle u' k1 k2)
theorem zp7(w:Wf m){C:List Nat}(K:Cls m C):∀{u:List Nat} {q:Nat},q<m.next.length->(∀ c∈u,c<LETTERS)->runw (quo m C) (C.getD q 0) u=C.getD (runw m q u) 0
 | [],_,_,_=>rfl
 | c::u,q,hq,h=>by
  have hc:=h c (by simp)
  show runw (quo m C) ((quo m C).on (C.getD q 0) c) u=C.getD (runw m (m.on q c) u) 0
  have e:(quo m C).on (C.getD q 0) c=C.getD (m.on q c) 0:=by
   rw[zkr w K (K.nb.lt hq) hc]
   exact(K.ker _ _ (w.on_lt (K.nb.fst (K.nb.lt hq)).1 hc) (w.on_lt hq hc)).mpr ((K.min w hq).al.on hc)
  rw[e]
  exact zp7 w K (w.on_lt hq hc) fun d hd=>h d (by simp[hd])
theorem zij(w:Wf m)(u:List Nat):acc m.least 0 u<->acc m 0 u:=by
 have K:=zi6 w (zgm w)
 rw[ze1 w K]
 refine and_congr_right fun h=>?_
 have c0:(pyc m (m.next.length+1)).getD 0 0=0:=by
  have:=K.nb.at_le w.pos
  exact Nat.le_zero.mp this
 have e:=zp7 w K w.pos h
 rw[c0]at e
 have hl:=zl0 w w.pos h
 rw[e,zg6 (K.nb.lt hl),(K.min w hl).al.end_]
theorem zpm(w:Wf m)(z:Zr m):match first m.least with
  | none=>∀ u,¬ acc m 0 u
  | some x=>Lst m x:=by
 have g:=zcr w z
 have h:=zkt g.wf g.zr
 cases e:first m.least with
 | none=>rw[e]at h;exact fun u a=>h u ((zij w u).mpr a)
 | some x =>
  rw[e]at h
  obtain⟨⟨u,a,hu⟩,hle⟩:=h
  exact⟨⟨u,(zij w u).mp a,hu⟩,fun u a=>hle u ((zij w u).mpr a)⟩
end
def wl(P c:Nat):Nat:=bt c 0*(P*P*P)+bt c 1*(P*P)+bt c 2*P+bt c 3
def wv(P:Nat):List Nat->Nat
 | []=>0
 | c::u=>2*wv P u+wl P c
def pk(P a b c d:Nat):Nat:=((a*P+b)*P+c)*P+d
theorem zs3(P a b c d:Nat):pk P a b c d=a*(P*P*P)+b*(P*P)+c*P+d:=by
 unfold pk
 simp only[yl8,ykq]
theorem zja(P:Nat):∀ u:List Nat,wv P u=pk P (vl 0 u) (vl 1 u) (vl 2 u) (vl 3 u)
 | []=>by simp[wv,vl,pk]
 | c::u=>by
  show 2*wv P u+wl P c=pk P (bt c 0+2*vl 0 u) (bt c 1+2*vl 1 u) (bt c 2+2*vl 2 u) (bt c 3+2*vl 3 u)
  rw[zja P u,zs3,zs3]
  unfold wl
  simp only[yl8,Nat.mul_add,ykq]
  omega
theorem zxj{P a b c d a' b' c' d':Nat}(h1:a<=a')(h2:b<=b')(h3:c<=c')(h4:d<=d'):pk P a b c d<=pk P a' b' c' d' :=
 yht (yfv _ (yht (yfv _ (yht (yfv _ h1) h2)) h3)) h4
theorem zd5{P s s' t t':Nat}(h:s<s')(ht:t<P):s*P+t<s'*P+t':=by
 have:=yfv P (show s+1<=s' from h)
 rw[yl8]at this
 omega
theorem zva{P a b c d a' b' c' d':Nat}(h2:b'<P)(h3:c'<P)(h4:d'<P)(h:pk P a b c d<=pk P a' b' c' d'):lower [a',b',c',d'] [a,b,c,d]=false:=by
 rw[<- ylx,zok]
 intro z
 have:pk P a' b' c' d'<pk P a b c d:=by
  unfold pk
  rcases z with z | ⟨rfl,z | ⟨rfl,z | ⟨rfl,z⟩⟩⟩
  ·exact zd5 (zd5 (zd5 z h2) h3) h4
  ·exact zd5 (zd5 (by omega) h3) h4
  ·exact zd5 (by omega) h4
  ·omega
 omega
theorem z0y{P a b c d:Nat}(h1:a<P)(h2:b<P)(h3:c<P)(h4:d<P):pk P a b c d<P*P*P*P:=by
 have:=zd5 (t':=0) (zd5 (t':=0) (zd5 (t':=0) (show a<P from h1) h2) h3) h4
 simpa [pk] using this
def nums(P y:Nat):List Nat:=[y / (P*P*P) % P,y / (P*P) % P,y / P % P,y % P]
theorem zxk{P a b c d:Nat}(h1:a<P)(h2:b<P)(h3:c<P)(h4:d<P):nums P (pk P a b c d)=[a,b,c,d]:=by
 have hp:0<P:=by omega
 have e1:pk P a b c d / P=(a*P+b)*P+c:=by
  unfold pk
  rw[yfy,yjg hp,ygv h4,yjh]
 have e2:pk P a b c d / (P*P)=a*P+b:=by
  rw[<- ygd,e1,yfy,yjg hp,ygv h3,yjh]
 have e3:pk P a b c d / (P*P*P)=a:=by
  rw[<- ygd,e2,yfy,yjg hp,ygv h2,yjh]
 have r:∀ s t,t<P->(s*P+t) % P=t:=fun s t ht=>by rw[yfy,Nat.mul_add_mod,yly ht]
 unfold nums
 rw[e1,e2,e3,r _ _ h3,r _ _ h2,yly h1]
 unfold pk
 rw[r _ _ h4]
def lmin:Nat->List Nat->Nat
 | a,[]=>a
 | a,b::l=>lmin (min a b) l
theorem zg7:∀(l:List Nat) (a:Nat),lmin a l<=a/\∀ x∈l,lmin a l<=x
 | [],a=>⟨yao _,fun x h=>nomatch h⟩
 | b::l,a=>by
  obtain⟨h1,h2⟩:=zg7 l (min a b)
  refine⟨ybq h1 (Nat.min_le_left _ _),fun x hx=>?_⟩
  rcases yap.mp hx with e | e
  ·rw[e];exact ybq h1 (Nat.min_le_right _ _)
  ·exact h2 x e
theorem zj1:∀(l:List Nat) (a:Nat),lmin a l=a\/lmin a l∈l
 | [],a=>.inl rfl
 | b::l,a=>by
  rcases zj1 l (min a b) with h | h
  ·show lmin (min a b) l=a\/lmin (min a b) l∈b::l
   rw[h]
   rcases Nat.le_total a b with g | g
   ·exact .inl (yjf g)
   ·exact .inr (by rw[Nat.min_eq_right g];simp)
  ·exact .inr (yam _ h)
section
variable {m:Machine}{P:Nat}
def stF(m:Machine)(P:Nat)(F:List Nat):List Nat:=(yae m.next.length).map fun q=>lmin (F.getD q 0) ((yae LETTERS).map fun c=>2*F.getD (m.on q c) 0+wl P c)
theorem zku{F:List Nat}{q:Nat}(hq:q<m.next.length):(stF m P F).getD q 0=lmin (F.getD q 0) ((yae LETTERS).map fun c=>2*F.getD (m.on q c) 0+wl P c):=zw (zas hq)
def NR(P:Nat):Nat:=P*P*P*P
structure JF(m:Machine)(P:Nat)(F:List Nat):Prop where
 len:F.length=m.next.length
 le:∀ q,q<m.next.length->F.getD q 0<=NR P
 e0:∀ q,q<m.next.length->m.end_ q=true->F.getD q 0=0
 is:∀ q,q<m.next.length->F.getD q 0=NR P\/∃ u,acc m q u/\F.getD q 0=wv P u
theorem zom{F:List Nat}{q:Nat}(hq:q<m.next.length):(stF m P F).getD q 0<=F.getD q 0:=by rw[zku hq];exact(zg7 _ _).1
theorem JF.step(w:Wf m)(hP:0<P){F:List Nat}(J:JF m P F):JF m P (stF m P F):=by
 have hNR:0<NR P:=yl9 (yl9 (yl9 hP hP) hP) hP
 refine⟨by simp[stF],fun q hq=>ybq (zom hq) (J.le q hq),fun q hq h=>by have h1:=J.e0 q hq h;have h2:=zom (P:=P) (F:=F) hq;omega,fun q hq=>?_⟩
 rw[zku hq]
 rcases zj1 ((yae LETTERS).map fun c=>2*F.getD (m.on q c) 0+wl P c) (F.getD q 0) with h | h
 ·rw[h];exact J.is q hq
 ·obtain⟨c,hc,e⟩:=ya6.mp h
  have hc':=yau.mp hc
  rcases J.is _ (w.on_lt hq hc') with g | ⟨u,a,g⟩
  ·exfalso
   have h1:=(zg7 ((yae LETTERS).map fun c=>2*F.getD (m.on q c) 0+wl P c) (F.getD q 0)).1
   have h2:=J.le q hq
   rw[<- e,g]at h1
   omega
  ·refine .inr ⟨c::u,acc_cons.mpr ⟨hc',a⟩,?_⟩
   rw[<- e,g]
   rfl
theorem JF.zero(w:Wf m):JF m P (m.ends.map fun b=>if b=true then 0 else NR P):=by
 have at_:∀ q,q<m.next.length->(m.ends.map fun b=>if b=true then 0 else NR P).getD q 0=if m.end_ q=true then 0 else NR P:=fun q hq=>zw (by
  rw[yaj]
  unfold Machine.end_
  rw[yal,yad (by rw[w.ends];exact hq)]
  rfl)
 refine⟨by rw[yab,w.ends],fun q hq=>?_,fun q hq h=>?_,fun q hq=>?_⟩
 ·rw[at_ q hq];split<;>omega
 ·rw[at_ q hq,if_pos h]
 ·rw[at_ q hq]
  by_cases h:m.end_ q=true
  ·rw[if_pos h];exact .inr ⟨[],⟨fun c hc=>(nomatch hc),h⟩,rfl⟩
  ·rw[if_neg h];exact .inl rfl
theorem JF.up(w:Wf m){F:List Nat}(J:JF m P F)(fx:stF m P F=F):∀{u:List Nat} {q:Nat},q<m.next.length->acc m q u->F.getD q 0<=wv P u
 | [],q,hq,a=>by rw[J.e0 q hq a.2];exact ybj _
 | c::u,q,hq,a=>by
  obtain⟨hc,a'⟩:=acc_cons.mp a
  have ih:=JF.up w J fx (w.on_lt hq hc) a'
  have h:=(zg7 ((yae LETTERS).map fun c=>2*F.getD (m.on q c) 0+wl P c) (F.getD q 0)).2 _ (ya6.mpr ⟨c,yau.mpr hc,rfl⟩)
  rw[<- zku hq,fx]at h
  show _<=2*wv P u+wl P c
  omega
theorem JF.fin(w:Wf m){F:List Nat}(J:JF m P F)(fx:stF m P F=F)(hP:P=2 ^ m.next.length):(F.getD 0 0=NR P->∀ u,¬ acc m 0 u)/\(F.getD 0 0≠NR P->Lst m (nums P (F.getD 0 0))):=by
 have box:∀ u:List Nat,u.length<m.next.length->∀ v,vl v u<P:=fun u hu v=>by
  rw[hP]
  exact yaz (zwr v u) (Nat.pow_le_pow_right (by decide) (ycx hu))
 constructor
 ·intro h u a
  obtain⟨u',a',hl,_⟩:=zi8 w u.length (yao _) w.pos a
  have h1:=J.up w fx w.pos a'
  have b:=box u' hl
  have h2:=z0y (b 0) (b 1) (b 2) (b 3)
  rw[zja,h]at h1
  unfold NR at h1
  omega
 ·intro h
  rcases J.is 0 w.pos with g | ⟨u,a,g⟩
  ·exact absurd g h
  ·obtain⟨u',a',hl,hv⟩:=zi8 w u.length (yao _) w.pos a
   have b:=box u' hl
   have h1:=J.up w fx w.pos a'
   have h2:wv P u'<=wv P u:=by rw[zja,zja];exact zxj (hv 0) (hv 1) (hv 2) (hv 3)
   have e:F.getD 0 0=pk P (vl 0 u') (vl 1 u') (vl 2 u') (vl 3 u'):=by rw[<- zja];omega
   rw[e,zxk (b 0) (b 1) (b 2) (b 3)]
   refine⟨⟨u',a',rfl⟩,fun u2 a2=>?_⟩
   obtain⟨u3,a3,hl3,hv3⟩:=zi8 w u2.length (yao _) w.pos a2
   have b3:=box u3 hl3
   have h3:=J.up w fx w.pos a3
   rw[e,zja]at h3
   exact zfj (rwd4 u2) (rwd4 u3) ⟨_,_,_,_,rfl⟩ (zs2 hv3) (zva (b3 1) (b3 2) (b3 3) h3)
theorem JF.first(w:Wf m)(z:Zr m){F:List Nat}(J:JF m P F)(fx:stF m P F=F)(hP:P=2 ^ m.next.length):first m.least=if F.getD 0 0=NR P then none else some (nums P (F.getD 0 0)):=by
 have h:=zpm w z
 obtain⟨f1,f2⟩:=J.fin w fx hP
 by_cases c:F.getD 0 0=NR P
 ·rw[if_pos c]
  cases e:yec m.least with
  | none=>rfl
  | some x =>
   rw[e]at h
   obtain⟨u,a,_⟩:=h.has
   exact absurd a (f1 c u)
 ·rw[if_neg c]
  have g:=f2 c
  cases e:yec m.least with
  | none =>
   rw[e]at h
   obtain⟨u,a,_⟩:=g.has
   exact absurd a (h u)
  | some x =>
   rw[e]at h
   rw[h.uniq g]
end
end MM
end
section
namespace MM
open Rows
section
variable {m:Machine}
theorem zs4{f g:Nat->Nat}:∀{l:List Nat},(∀ c∈l,f c<=g c)->(l.map f).foldr (fun (x y:Nat)=>x+y) 0<=(l.map g).foldr (fun (x y:Nat)=>x+y) 0
 | [],_=>yao _
 | c::l,h=>yht (h c (by simp)) (zs4 fun d hd=>h d (by simp[hd]))
theorem zgn(n:Nat){q:Nat}(hq:q<m.next.length):(counts m (n+1)).getD q 0=((yae LETTERS).map fun (c:Nat)=>(counts m n).getD (m.on q c) 0).foldr (fun (x y:Nat)=>x+y) 0:=zw (zas hq)
theorem zjm(w:Wf m){q:Nat}(hq:q<m.next.length):(counts m 0).getD q 0=if m.end_ q=true then 1 else 0:=zw (by
 show(m.ends.map _)[q]?=_
 rw[yaj]
 unfold Machine.end_
 rw[yal,yad (by rw[w.ends];exact hq)]
 rfl)
theorem zkv(w:Wf m):∀ n,(counts m n).length=m.next.length
 | 0=>by show(m.ends.map _).length=_;rw[yab,w.ends]
 | n+1=>by show((yae m.size).map _).length=_;rw[yab,ya5];rfl
theorem zjn(w:Wf m)(z:Zr m):∀(n:Nat) {q:Nat},q<m.next.length->(counts m n).getD q 0<=(counts m (n+1)).getD q 0
 | 0,q,hq=>by
  rw[zgn 0 hq,zjm w hq,<- z q hq,<- zjm w (w.on_lt hq (by decide))]
  exact yc9 _ _
 | n+1,q,hq=>by
  rw[zgn (n+1) hq,zgn n hq]
  exact zs4 fun c hc=>zjn w z n (w.on_lt hq (yau.mp hc))
theorem zjo(w:Wf m)(z:Zr m)(n:Nat){q:Nat}(hq:q<m.next.length):∀ k,(counts m n).getD q 0<=(counts m (n+k)).getD q 0
 | 0=>yao _
 | k+1=>ybq (zjo w z n hq k) (zjn w z (n+k) hq)
theorem zvb(w:Wf m)(z:Zr m):count m=if (counts m m.next.length).getD 0 0<(counts m (m.next.length+m.next.length)).getD 0 0 then none else some ((counts m m.next.length).getD 0 0):=by
 have h:=zjo w z m.next.length w.pos m.next.length
 unfold count
 show(if (counts m (2*m.next.length)).getD 0 0=(counts m m.next.length).getD 0 0 then some ((counts m m.next.length).getD 0 0) else none)=_
 rw[Nat.two_mul]
 by_cases c:(counts m m.next.length).getD 0 0<(counts m (m.next.length+m.next.length)).getD 0 0
 ·rw[if_pos c,if_neg (by omega)]
 ·rw[if_neg c,if_pos (by omega)]
theorem zik(m:Machine)(x:List Nat):∀(n j q:Nat),m.through x (n+1) j q=m.on (m.through x n j q) (letter x (j+n))
 | 0,_,_=>rfl
 | n+1,j,q=>by
  show m.through x (n+1) (j+1) (m.on q (letter x j))=m.on (m.through x n (j+1) (m.on q (letter x j))) (letter x (j+(n+1)))
  rw[zik m x n (j+1)]
  congr 2
  omega
theorem max_le{k:Nat}:∀(l:List Nat) (a:Nat),l.foldl max a<=k<->a<=k/\∀ x∈l,x<=k
 | [],a=>by simp
 | b::l,a=>by
  rw[yjc,max_le l,Nat.max_le]
  simp only[yap,forall_eq_or_imp]
  exact⟨fun⟨⟨h1,h2⟩,h3⟩=>⟨h1,h2,h3⟩,fun⟨h1,h2,h3⟩=>⟨⟨h1,h2⟩,h3⟩⟩
theorem bits_le{x:List Nat}{k:Nat}:bitsOf x<=k<->∀ a∈x,a<2 ^ k:=by
 unfold bitsOf
 rw[max_le]
 simp only[ybj,true_and,ya6,forall_exists_index,and_imp,forall_apply_eq_imp_iff₂]
 refine forall_congr' fun a=>forall_congr' fun _=>?_
 by_cases h:a=0
 ·subst h;simp[yih]
 ·rw[if_neg h,<- Nat.log2_lt h]
  omega
theorem zmw(x:List Nat)(k:Nat):letter x k<LETTERS:=by
 have h:∀(b:Bool),(if b=true then 1 else 0:Nat)<=1:=fun b=>by cases b<;>simp
 show(if (x.getD 0 0).testBit k=true then 1 else 0)+2*((if (x.getD 1 0).testBit k=true then 1 else 0)+2*((if (x.getD 2 0).testBit k=true then 1 else 0)+2*((if (x.getD 3 0).testBit k=true then 1 else 0)+2*0)))<16
 have:=h ((x.getD 0 0).testBit k);have:=h ((x.getD 1 0).testBit k);have:=h ((x.getD 2 0).testBit k);have:=h ((x.getD 3 0).testBit k)
 omega
theorem zkw(w:Wf m)(x:List Nat):∀(n j:Nat) {q:Nat},q<m.next.length->m.through x n j q<m.next.length
 | 0,_,_,h=>h
 | n+1,j,q,h=>zkw w x n (j+1) (w.on_lt h (zmw x j))
end
end MM
end
section
namespace L2
open PySem PySem.Spec PyProof.Rows
structure Fly(P:yav)(w:World)(l:List Env)(H H':Hp)(h:Heap)(a:Addr)(C:Value)(h':Heap):Prop where
 fly:∃ B a0,ylm B l a C a0 h'/\HOk P w H' B/\∀ b o,h.get? b=some o->b ∉ frs l->∃ o',B.get? b=some o'/\(H b=none->o'=o)
 slot:∀ b o,h.get? b=some o->b∈frs l->∃ sl,h'.get? b=some { o with slots:=sl }
 free:∀ b o,h.get? b=some o->H b=none->H' b=none
 tups:∀ b xs,H b=some (.tup xs)->H' b=some (.tup xs)
 frzs:∀ b o u,H b=some (.frz o u)->H' b=some (.frz o u)
 tbls:∀ b ps,H b=some (.tbl ps)->∃ more,H' b=some (.tbl (ps++more))
section
variable {P:yav}{w:World}{l outer:List Env}{H H' H0:Hp}{h h' h'':Heap}{a:Addr}{C:Value}
theorem Fly.un(F:Fly P w l H H' h a C h'):Un (frs l) [] H H' h h':=by
 obtain⟨B,a0,fl,hB,kb⟩:=F.fly
 refine⟨fun b o e n hb _=>?_,fun b o e _ hb _=>F.slot b o e hb,fun b o e n _=>F.free b o e n,fun b o e _=>?_,F.tups,F.frzs,F.tbls⟩
 ·obtain⟨o',e',q⟩:=kb b o e hb
  rw[q n]at e'
  exact fl.1 b o e'
 ·by_cases hb:b∈frs l
  ·obtain⟨sl,q⟩:=F.slot b o e hb
   exact⟨_,q⟩
  ·obtain⟨o',e',_⟩:=kb b o e hb
   exact⟨o',fl.1 b o' e'⟩
theorem Fly.hok(F:Fly P w l H H' h a C h'):HOk P w H' h':=by
 obtain⟨B,a0,fl,hB,kb⟩:=F.fly
 exact hB.kept fl.1
end
def CXE(P:yav)(w:World):CXT:=fun outer H s E e s'=>∃ a C H',e = .ref a/\s'.os=s.os/\AllBare s'.gens/\Fly P w outer H H' s.heap a C s'.heap/\E C none H'
section
variable {P:yav}{w:World}{K:yac}{mg:Str->Option Value}{base:Heap}{N:List Str}{qual:Str}{scope:Scope}{f:Addr}{cd:Value}{A:Around}{outer:List Env}{s0:yah}{H0:Hp}{E:XK}
theorem zon{env:Env}{L:Addr}{outer:List Env}(hf:env.frame=some L):frs (env::outer)=L::frs outer:=by
 unfold frs
 rw[ye5,hf]
theorem zp8{H H':Hp}{s:yah}{pins:List (Addr × Obj)}{σ:St}{a:Addr}{C:Value}{B h1 h2:Heap}{a0:Value}(I:Inv (cxOf (CXE P w) P w K mg base N qual scope f cd A outer s0 H0 E) pins σ H s)(F:Fly P w (envOfC qual scope s0.heap.objs.size f cd::outer) H H' s.heap a C h1)(sm:h1.UpToSlots h2)(fl:ylm B outer a C a0 h2)(hB:HOk P w H' B)(kb:∀ b o,s.heap.get? b=some o->b ∉ frs (envOfC qual scope s0.heap.objs.size f cd::outer)->∃ o',B.get? b=some o'/\(H b=none->o'=o)) :
  Fly P w outer H0 H' s0.heap a C h2:=by
 have hfr:frs (envOfC qual scope s0.heap.objs.size f cd::outer)=s0.heap.objs.size::frs outer:=zon rfl
 have hbase:Un (frs outer) [] H0 H s0.heap s.heap:=I.base
 have nL:∀ b o,s0.heap.get? b=some o->b≠s0.heap.objs.size:=fun b o e=>yba (yar e)
 refine⟨⟨B,a0,fl,hB,fun b o e hb=>?_⟩,fun b o e hb=>?_,fun b o e n=>?_,fun b xs q=>F.tups b xs (hbase.tups b xs q),fun b o u q=>F.frzs b o u (hbase.frzs b o u q),fun b ps q=>?_⟩
 ·have hb':b ∉ frs (envOfC qual scope s0.heap.objs.size f cd::outer):=by
   rw[hfr]
   intro z
   rcases yap.mp z with z | z
   ·exact nL b o e z
   ·exact hb z
  obtain⟨o1,e1⟩:=hbase.there b o e (by simp)
  obtain⟨o2,e2,q⟩:=kb b o1 e1 hb'
  refine⟨o2,e2,fun n=>?_⟩
  have e3:=hbase.keep b o e n hb (by simp)
  rw[e3]at e1
  cases e1
  exact q (hbase.free b o e n (by simp))
 ·have n:=I.ok.frf b hb
  obtain⟨sl,e1⟩:=hbase.slot b o e n hb (by simp)
  have hb':b∈frs (envOfC qual scope s0.heap.objs.size f cd::outer):=by
   rw[hfr]
   exact yam _ hb
  obtain⟨sl2,e2⟩:=F.slot b _ e1 hb'
  obtain⟨_,o',ho',hd⟩:=I.ok.funs.mem hb
  have e:s0.heap.get? b=some o:=e
  have ho':s0.heap.get? b=some o':=ho'
  rw[e]at ho'
  cases ho'
  obtain⟨sl3,e3⟩:=sm b _ e2 hd
  exact⟨sl3,e3⟩
 ·obtain⟨o1,e1⟩:=hbase.there b o e (by simp)
  exact F.free b o1 e1 (hbase.free b o e n (by simp))
 ·obtain⟨m1,q1⟩:=hbase.tbls b ps q
  obtain⟨m2,q2⟩:=F.tbls b _ q1
  exact⟨m1++m2,by rw[q2,yki]⟩
theorem passE{E':XK}(hE:∀ C H',E' C none H'->E C none H'):zdu (CXE P w) (cxOf (CXE P w) P w K mg base N qual scope f cd A outer s0 H0 E) E':=by
 intro pins σ H s e s' I h
 obtain⟨a,C,H',rfl,os,bare,F,q⟩:=h
 obtain⟨B,a0,fl,hB,kb⟩:=F.fly
 show wpAny (model P w) (A.deeper (envOfC qual scope s0.heap.objs.size f cd)) (leaving (envOfC qual scope s0.heap.objs.size f cd) (.ref a)) (fun _ s''=>CXE P w outer H0 s0 E (.ref a) s'') _ s'
 refine wpAny_leaves_onW (outer:=outer) (L:=s0.heap.objs.size) I.ok.frames rfl fl fun h2 fl2 sm=>?_
 exact⟨a,C,H',rfl,os.trans I.os,bare,zp8 I F sm fl2 hB kb,hE C H' q⟩
theorem zv:zdu (CXE P w) (cxOf (CXE P w) P w K mg base N qual scope f cd A outer s0 H0 E) E:=passE fun _ _ q=>q
end
theorem zzx{K:yac}{h0:Heap}{mg:Str->Option Value}{x:Str}{C:Addr}{bmB:List Value}{newId:String}(X:K.In h0)(hm:mg x=some (.ref C))(q:yii K C bmB newId=true):OwnCls x C bmB newId mg h0:=by
 refine⟨hm,?_⟩
 unfold yii at q
 split at q
 ·rename_i dd cd sl ho
  split at q
  ·rename_i C' bm k0 k1 k2 k3 n k5 hm hs
   simp only[ycj,beq_iff_eq,yk3]at q
   obtain⟨⟨⟨⟨⟨rfl,rfl⟩,hdel⟩,ht⟩,hok⟩,hni⟩:=q
   obtain⟨nm,bs,mro,ns,qn,hd,sn,sub,ab,col,del⟩:=cd
   dsimp only at hm hdel hok hni
   subst hm hdel
   have hsl:sl = #[k0,k1,k2,k3,some (.builtin n),k5]:=by
    obtain⟨l⟩:=sl
    simp only at hs
    rw[hs]
   subst hsl
   exact⟨bm,ns,nm,qn,bs,hd,sn,sub,ab,col,dd,k0,k1,k2,k3,k5,_,X _ _ ho,.of_isNs (PySem.W.isNs_of_in X hok),PySem.W.nsMap_none_of_in X hok hni,PySem.W.tail_of_in X ht⟩
  ·cases q
 ·cases q
structure Exc(K:yac)(mg:Str->Option Value)(x:Str)(C:Addr):Prop where
 mg:mg x=some (.ref C)
 own:yii K C [.type "ValueError",.type "Exception",.type "BaseException",.type "object"] "ValueError.__new__" = true
section
variable {P:yav}{w:World}{K:yac}{mg:Str->Option Value}{base:Heap}{N:List Str}{qual:Str}{scope:Scope}{f:Addr}{cd:Value}{A:Around}{outer:List Env}{s0:yah}{H0:Hp}{E:XK}
theorem ze2{x:Str}{C:Addr}{np cpos pos:Pos}(T:Exc K mg x C)(hg:Gl (cxOf (CXE P w) P w K mg base N qual scope f cd A outer s0 H0 E) x)(hd:(x == ("__debug__" : Str))=false:=by decide) :
  PS (cxOf (CXE P w) P w K mg base N qual scope f cd A outer s0 H0 E) (.Raise (some (.Call (.Name x np) [] [] cpos)) none pos) (fun _ _ H=>E (.ref C) none H):=by
 intro pins s σ H D I h
 obtain⟨tl,N',nm,q,bs,hdct,sn,sub,ab,col,dd,k0,k1,k2,k3,k5,mN,hC,hN,hni,TT⟩:=(zzx (h0:=base) I.ok.mod.kin T.mg T.own).obj
 have bk:=I.bk
 refine wpAny_Raise_call_subT (C:=C) (nm:=nm) (q:=q) (N:=N') (bs:=bs) (bm:=tl) (hdct:=hdct) (sn:=sn) (sub:=sub) (ab:=ab) (col:=col) (dd:=dd) (k0:=k0) (k1:=k1) (k2:=k2) (k3:=k3) (k5:=k5)
  yhi (mN:=mN) (TT.hasType yhi.hasBase) (I.ok.hd rfl) rfl hni (zd1 I hg T.mg ⟨rfl,?_⟩ hd)
 refine evalArgs_empty ⟨rfl,ybj _,bk _ _ hC,hN.keeps bk,TT.keeps bk,fun h' e hx=>?_⟩
 show wpAny (model P w) (A.deeper (envOfC qual scope s0.heap.objs.size f cd)) (leaving (envOfC qual scope s0.heap.objs.size f cd) (.ref e)) (fun _ s''=>CXE P w outer H0 s0 E (.ref e) s'') _ _
 have hfr:frs (envOfC qual scope s0.heap.objs.size f cd::outer)=s0.heap.objs.size::frs outer:=zon rfl
 have st:=I.stack
 have hin:∀ env∈(envOfC qual scope s0.heap.objs.size f cd::outer),∀ b,env.frame=some b->b∈frs (envOfC qual scope s0.heap.objs.size f cd::outer):=fun env he b hb=>ykj.mpr ⟨env,he,hb⟩
 have hl:s.heap.FunFrames (yg4 s.heap (frs (envOfC qual scope s0.heap.objs.size f cd::outer))) (envOfC qual scope s0.heap.objs.size f cd::outer):=PySem.W.funFrames_hide (base:=base) (as:=frs (envOfC qual scope s0.heap.objs.size f cd::outer)) st hin
 refine wpAny_leaves_madeW (outer:=outer) (L:=s0.heap.objs.size) I.ok.frames rfl (fun b o z=>ykh (frs (envOfC qual scope s0.heap.objs.size f cd::outer)) z) hl hx fun h2 t fl _ _ sm=>?_
 have tf:∀ b,b∈frs (envOfC qual scope s0.heap.objs.size f cd::outer)->H b=none:=fun b hb=>I.stkFree b hb
 have hB:HOk P w H (yg4 s.heap (frs (envOfC qual scope s0.heap.objs.size f cd::outer))):=fun b u e=>(I.hok b u e).stay (fun c v hc q=>yg5 _ q fun z=>by
  have n:=tf c z
  rcases hc with rfl | hc
  ·rw[e]at n;cases n
  ·rw[hc]at n;cases n) (fun _ q=>q) fun _ _ q=>q
 have kb:∀ b o,s.heap.get? b=some o->b ∉ frs (envOfC qual scope s0.heap.objs.size f cd::outer)->∃ o',(yg4 s.heap (frs (envOfC qual scope s0.heap.objs.size f cd::outer))).get? b=some o'/\(H b=none->o'=o) :=
  fun b o e hb=>⟨o,yg5 _ e hb,fun _=>rfl⟩
 have Fl:Fly P w (envOfC qual scope s0.heap.objs.size f cd::outer) H H s.heap e (.ref C) h2:=by
  obtain⟨f1,f2,f3,f4⟩:=fl
  refine⟨⟨_,.ref t,⟨f1,f2,?_,f4⟩,hB,kb⟩,fun b o e' hb=>?_,fun _ _ _ n=>n,fun _ _ q=>q,fun _ _ _ q=>q,fun _ ps q=>⟨#[],by rw[q];simp⟩⟩
  ·refine hl.of_keeps fun b o e' hd=>?_
   obtain⟨sl,z⟩:=sm b o (hx.keeps b o e') hd
   exact⟨_,z,rfl⟩
  ·obtain⟨_,o',ho',hd⟩:=hl.mem hb
   rw[e']at ho'
   cases ho'
   exact sm b o (hx.keeps b o e') hd
 exact⟨e,.ref C,H,rfl,I.os,I.bare,zp8 I Fl (Heap.UpToSlots.refl _) fl hB kb,h⟩
end
section
variable {P:yav}{w:World}{K:yac}{mg:Str->Option Value}{base:Heap}
theorem Fun.okE{x qual:Str}{st:Stmt}{f:Addr}{fd:ya2}{N ps:List Str}{k:Nat}{sp:Sp}(F:Fun K x qual st f fd)(S:FnScope N ps (ze st))(len:∀ vs H Q E,sp vs H Q E->vs.length=ps.length)(hbody:∀(cdv:Value) (A:Around) (outer:List Env) (s:yah) (H:Hp) (vs:List V) (Q:VK) (E:XK),Room k (A.deeper (envOfC qual (ze st) s.heap.objs.size f cdv))->sp vs H Q E ->
   ∃ t,PSs (cxOf (CXE P w) P w K mg base N qual (ze st) f cdv A outer s H E) (zck st) t/\t { nx:=fun _ H'=>Q .non H',rt:=Q } (start N vs) H):FnOk P w K mg base (CXE P w) (k+1) f fd ps sp:=by
 obtain⟨oc,od,kV,doc,pm,an,cdv,ct,osl,rfl,lk,hcd⟩:=F.ex
 exact fn_of lk hcd S len fun A outer s H vs Q E hr hsp=>hbody cdv A outer s H vs Q E hr hsp
end
abbrev Cx.marked(X:Cx)(a:Addr):Cx:={ X with A:=X.A.mark (some (.ref a)),calm:=false }
theorem Cx.Ok.marked{X:Cx}(ok:X.Ok)(a:Addr):(X.marked a).Ok :=
 ⟨ok.mod,ok.kind,ok.glob,ok.blt,ok.above,ok.inj,ok.has,ok.cab,(fun z=>by cases z),ok.frames,ok.stk,ok.exf,ok.bs,ok.bsz,ok.noex,ok.exfs,ok.funs,ok.frf⟩
section
variable {X:Cx}{pins:List (Addr × Obj)}{σ:St}{H:Hp}{s:yah}{a:Addr}
theorem Inv.marked(I:Inv X pins σ H s)(a:Addr):Inv (X.marked a) pins σ H s:=⟨I.ok.marked a,I.os,I.bare,I.base,I.loc,I.cell,I.free,I.freeC,I.pin,I.hok,I.len⟩
theorem Inv.unmarked(ok:X.Ok)(I:Inv (X.marked a) pins σ H s):Inv X pins σ H s:=⟨ok,I.os,I.bare,I.base,I.loc,I.cell,I.free,I.freeC,I.pin,I.hok,I.len⟩
theorem SP.unmarked{D:Ends}{fl:Flow}(ok:X.Ok)(h:SP (X.marked a) pins D fl s):SP X pins D fl s:=by
 cases fl with
 | next=>obtain⟨σ',H',J,q⟩:=h;exact⟨σ',H',J.unmarked ok,q⟩
 | brk=>obtain⟨σ',H',J,q⟩:=h;exact⟨σ',H',J.unmarked ok,q⟩
 | cont=>obtain⟨σ',H',J,q⟩:=h;exact⟨σ',H',J.unmarked ok,q⟩
 | ret u=>obtain⟨v,σ',H',J,r,q⟩:=h;exact⟨v,σ',H',J.unmarked ok,r,q⟩
end
structure Hand(X:Cx)(C:Addr)(eh:ExceptHandler)(C1:Addr)(t:TS):Prop where
 ex:∃(x:Str) (np:Pos) (b0:Stmt) (suite:List Stmt) (pos:Pos),eh = .ExceptHandler (some (.Name x np)) none (b0::suite) pos/\Gl X x/\X.mg x=some (.ref C1)/\(x == ("__debug__" : Str))=false/\∀ a,PSs (X.marked a).nox (b0::suite) t
 is:yax X.K (.ref C) (.ref C1)=some (decide (C=C1))
inductive Hands (X:Cx) (C:Addr):List ExceptHandler->TS->Prop
 | here {eh:ExceptHandler} {r:List ExceptHandler} {t:TS}:Hand X C eh C t->Hands X C (eh::r) t
 | next {eh:ExceptHandler} {r:List ExceptHandler} {C1:Addr} {t u:TS}:Hand X C eh C1 u->C≠C1->Hands X C r t->Hands X C (eh::r) t
theorem thn0{α:Type}{t:Sem α}{Q:α->yah->Prop}{M:Model}{A:Around}{E:Value->yah->Prop}{s:yah}(h:wpAny M A t Q (fun _ _=>False) s):wpAny M A t Q E s:=ydd h (fun _ _ x=>x) fun _ _ x=>x.elim
section
variable {X:Cx}{pins:List (Addr × Obj)}{σ:St}{H H':Hp}{s:yah}
theorem zvc{C a:Addr}{D:Ends}{t:TS}{E:Value->yah->Prop}(I:Inv X pins σ H s)(hst:X.stack=X.env::X.outer)(hf:X.env.frame=some X.env.locals):∀{hs:List ExceptHandler} {s1:yah},
  Hands X C hs t->s1.os=s.os->AllBare s1.gens->Fly X.prog X.w X.stack H H' s.heap a (.ref C) s1.heap->t D σ H'->wpAny (model X.prog X.w) X.A (handleBy (.ref a) X.env hs) (SP X pins D) E s1:=by
 intro hs
 induction hs with
 | nil=>intro s1 hh;cases hh
 | cons eh r ih =>
  intro s1 hh hos hg F ht
  have I1:Inv X pins σ H' s1:=I.call' (ch:=[]) hos F.un F.hok hg fun b z=>nomatch z
  obtain⟨B,a0,fl,hB,kb⟩:=F.fly
  obtain⟨ob,hob,hobc⟩:=fl.there
  have LT:PySem.W.Looks (model X.prog X.w) s1.heap (typeOf (.ref a)) (.ref C):=by
   rw[<- hobc]
   exact(PySem.W.Looks.ld hob).andThen .now
  cases hh with
  | here hd =>
   obtain⟨x,np,b0,suite,pos,rfl,hgl,hmg,hdb,hps⟩:=hd.ex
   refine yj5 (codeAny_handlers_test (zd1 (I1.marked a) hgl hmg ?_ hdb)) (by intro q;cases q)
   have hm:=yma (M:=model X.prog X.w) I1.kIn LT hd.is
   refine hm _ _ _ _ (fun _ _ z=>z) ?_
   rw[decide_eq_true rfl]
   refine codeAny_handlers_suite ?_
   refine lands_againW fl fun h6 fl6 sm6=>?_
   have F6:Fly X.prog X.w X.stack H H' s.heap a (.ref C) h6:=⟨⟨B,a0,fl6,hB,kb⟩,fun b o e hb=>by
    obtain⟨sl,e1⟩:=F.slot b o e hb
    obtain⟨_,o',ho',hdd⟩:=I.stack.mem hb
    rw[e]at ho'
    cases ho'
    obtain⟨sl2,e2⟩:=sm6 b _ e1 hdd
    exact⟨sl2,e2⟩,F.free,F.tups,F.frzs,F.tbls⟩
   have I6:Inv X pins σ H' { s1 with heap:=h6 }:=I.call' (ch:=[]) hos F6.un F6.hok hg fun b z=>nomatch z
   refine thn0 (thn (hps a pins _ σ H' D ((I6.marked a).wish _) ht) fun fl' s' h'=>?_)
   exact SP.unmarked I.ok h'.unwish
  | next hd hne hr =>
   obtain⟨x,np,b0,suite,pos,rfl,hgl,hmg,hdb,hps⟩:=hd.ex
   refine yj5 (codeAny_handlers_test (zd1 (I1.marked a) hgl hmg ?_ hdb)) (by intro q;cases q)
   have hm:=yma (M:=model X.prog X.w) I1.kIn LT hd.is
   refine hm _ _ _ _ (fun _ _ z=>z) ?_
   rw[decide_eq_false hne]
   exact ih hr hos hg F ht
end
section
variable {X:Cx}{k:Nat}{f:Addr}{fd:ya2}{ps:List Str}{sp:Sp}{dvs:List V}{ds:List Value}{x:Str}{p cpos rpos pos:Pos}{e:Expr}{es:List Expr}{t:TA}{hs:List ExceptHandler}
def tTry(sp:Sp)(dvs:List V)(hd:Value->TS->Prop)(t:TA):TS:=fun D σ H=>t σ H fun vs H1=>sp (vs++dvs) H1 D.rt fun C _ H'=>∃ th,hd C th/\th D σ H'
theorem zzy(F:FnOk X.prog X.w X.K X.mg X.base (CXE X.prog X.w) k f fd ps sp)(hr:Room k X.A)(hg:Gl X x)(hm:X.mg x=some (.ref f))(hk:yd7 X.K (.ref f)=true)(hb:Binds X.K fd ps ds)(hd:Vals dvs ds)(ha:PA X.nox (e::es) t)(hst:X.stack=X.env::X.outer)(hf:X.env.frame=some X.env.locals){h0:ExceptHandler}(hdb:(x == ("__debug__" : Str))=false:=by decide)(he:ycb (e::es) X.env=(false,eval e X.env)::ycb es X.env:=by rfl)(hpl:(backTo cpos (ycb es X.env)).any (·.1)=false:=by rfl) :
  PS X (.Try [.Return (some (.Call (.Name x p) (e::es) [] cpos)) rpos] (h0::hs) [] [] pos) (tTry sp dvs (fun C th=>∃ c,C = .ref c/\Hands X c (h0::hs) th) t):=by
 intro pins s σ H D I h
 refine wpAny_Try_except ?_
 refine yir ?_
 refine wpAny_Return_some ?_
 refine ydi (zd1 I hg hm ?_ hdb)
 refine yf1 (h₀:=X.base) I.ok.mod.kin hk (thn0 (thn (ha cpos pins s σ H _ (I.wish _) h) fun us s1 ⟨vs,H1,I1,r,q⟩=>⟨I1.kIn,?_⟩)) he hpl
 have I1:Inv X pins σ H1 s1:=I1.unwish
 have r2:Vals (vs++dvs) (us++ds):=r.append hd
 have hl:(us++ds).length=ps.length:=by rw[<- r2.length];exact F.len _ _ _ _ q
 refine ykz (codeAny_mono (F.run X.A X.stack s1 H1 ⟨us,[]⟩ (us++ds) (vs++dvs) _ _ hr I1.env0 (hb s1 us I1.kIn hl) r2 q) fun r s' hq=>?_)
 cases r with
 | ok fl =>
  cases fl with
  | ret u =>
   obtain⟨v,H2,I2,rv,q2⟩:=I1.after hq
   exact⟨v,σ,H2,I2,rv,q2⟩
  | next=>exact yc7 hq
  | brk=>exact yc7 hq
  | cont=>exact yc7 hq
 | error ev =>
  obtain⟨a,C,H2,rfl,hos,bare,Fl,th,⟨c,rfl,hh⟩,hq2⟩:=hq
  obtain⟨B,a0,fl,hB,kb⟩:=Fl.fly
  have step:∀{g g':Heap},Fly X.prog X.w X.stack H1 H2 s1.heap a (.ref c) g->g.UpToSlots g'->ylm B X.stack a (.ref c) a0 g'->Fly X.prog X.w X.stack H1 H2 s1.heap a (.ref c) g':=fun {g g'} G sm fl' =>
   ⟨⟨B,a0,fl',hB,kb⟩,fun b o e hb=>by
    obtain⟨sl,e1⟩:=G.slot b o e hb
    obtain⟨_,o',ho',hdd⟩:=I1.stack.mem hb
    rw[e]at ho'
    cases ho'
    obtain⟨sl2,e2⟩:=sm b _ e1 hdd
    exact⟨sl2,e2⟩,G.free,G.tups,G.frzs,G.tbls⟩
  rw[hst]at fl
  refine wpAny_looks_onW (env:=X.env) (outer:=X.outer) (by rw[I.ok.frames,hst]) hf fl fun h4 held sm4=>?_
  refine wpAny_landsW held fun h5 fl5 sm5=>?_
  rw[<- hst]at fl5
  exact zvc I1 hst hf hh hos bare (step Fl (sm4.trans sm5) fl5) hq2
end
end L2
end
section
namespace L2
open PySem PySem.Spec PyProof.Rows
def optIs:Option Int->Value->Bool
 | none,v=>match v with
  | .none=>true
  | _=>false
 | some i,v=>ye4 i v
theorem zbx{k:Option Int}{v:Value}(h:optIs k v=true):(k=none/\v = .none)\/∃ i t,k=some i/\v = .int i t:=by
 cases k with
 | none =>
  cases v<;>first | exact .inl ⟨rfl,rfl⟩ | (exfalso;simp[optIs]at h)
 | some i =>
  obtain⟨t,e⟩:=ykw (k:=i) (v:=v) h
  exact .inr ⟨i,t,rfl,e⟩
def zxl:Option Int->Int
 | none=>reduceHash 0xFCA86420
 | some i=>hashInt i
def zp9(P:yav)(w:World):PySem.KeyKind P w (Option Int) where
 is:=optIs
 hash:=zxl
 inj:=fun v a b ha hb=>by
  rcases zbx ha with⟨rfl,rfl⟩|⟨i,t,rfl,rfl⟩
  ·rcases zbx hb with⟨rfl,_⟩|⟨j,u,rfl,e⟩
   ·rfl
   ·cases e
  ·rcases zbx hb with⟨rfl,e⟩|⟨j,u,rfl,e⟩
   ·cases e
   ·injection e with e1 _;rw[e1]
 byValue:=fun k v h=>by
  rcases zbx h with⟨rfl,rfl⟩|⟨i,t,rfl,rfl⟩<;>rfl
 pyHash:=fun hv h=>by
  rcases zbx hv with⟨rfl,rfl⟩|⟨i,t,rfl,rfl⟩
  ·exact yj6 (T := "NoneType") rfl PySem.F.slot_NoneType_hash PySem.F.entry_NoneType_hash (PySem.F.args_NoneType_hash_1 _) (beq_builtin_none _) (.inl rfl) (yaa (yai (yaa (yj7 (yai ⟨_,_,rfl,h⟩)))))
  ·exact yip h
 eqBool:=fun hu hv h=>by
  rcases zbx hu with⟨rfl,rfl⟩|⟨i,t,rfl,rfl⟩
  ·rcases zbx hv with⟨rfl,rfl⟩|⟨j,u,rfl,rfl⟩
   ·exact yjb _ _ _ _ _ (by simpa using h)
   ·exact yjz j u _ _ _ _ (by simpa using h)
  ·rcases zbx hv with⟨rfl,rfl⟩|⟨j,u,rfl,rfl⟩
   ·exact yj0 i t _ _ _ _ (by simpa using h)
   ·refine yiq ?_
    have e:decide (some i=some j)=(i == j):=by
     by_cases q:i=j
     ·subst q;simp
     ·simp[q]
    rw[<- e]
    exact h
 «strs» := fun k x t v h=>by
  rcases zbx h with⟨rfl,e⟩|⟨i,u,rfl,e⟩<;>cases e
def IsNest(P:yav)(w:World)(h:Heap)(k:Int × List Int)(a:Addr):Prop :=
 ∃ o t b n,h.get? a=some o/\o.cls = .type "tuple" /\ o.data = .seq #[.int k.1 t,.ref b] n/\IsTupleKey (intKind P w) h k.2 b
section
variable {P:yav}{w:World}
theorem IsNest.typeIs{s:yah}{k:Int × List Int}{a:Addr}(x:IsNest P w s.heap k a):s.TypeIs (.ref a) "tuple" := let ⟨o,_,_,_,ho,hc,_⟩:=x;⟨o,ho,hc⟩
theorem IsNest.inj{h:Heap}{a:Addr}{x y:Int × List Int}(hx:IsNest P w h x a)(hy:IsNest P w h y a):x=y:=by
 obtain⟨o,t,b,n,ho,_,hd,hi⟩:=hx
 obtain⟨o',t',b',n',ho',_,hd',hi'⟩:=hy
 obtain rfl:o=o':=ya1 (ho.symm.trans ho')
 rw[hd]at hd'
 injection hd' with h1 _
 injection h1 with h1
 injection h1 with e1 h2
 injection h2 with e2 _
 injection e1 with e1 _
 injection e2 with e2
 subst e2
 exact Prod.ext e1 (hi.inj hi')
theorem IsNest.keeps{h h':Heap}{k:Int × List Int}{a d:Addr}{o:Obj}{es ep}(x:IsNest P w h k a)(ho:h.get? d=some o)(hd:o.data = .dict es ep)(hs:ycc d h h'):IsNest P w h' k a:=by
 obtain⟨o',t,b,n,ho',hc,hd',hi⟩:=x
 have hne:a≠d:=by
  rintro rfl
  obtain rfl:o'=o:=ya1 (ho'.symm.trans ho)
  rw[hd]at hd';exact nomatch hd'
 exact⟨o',t,b,n,(hs.2 a hne).trans ho',hc,hd',hi.keeps ho hd hs⟩
def zj2(P:yav)(w:World)(k:Int × List Int):Int:=reduceHash (Builtin.Tuple.tupleHashOf [hashInt k.1,tupleKeyHash (intKind P w) k.2])
theorem zs5{A:Around}{E:Value->yah->Prop}{s:yah}{k:Int × List Int}{a:Addr}{Q:Int->yah->Prop}(hu:A.units+1<cLine)(hk:IsNest P w s.heap k a)(h:Q (zj2 P w k) { s with toks:=s.toks+(k.2.length+3) }):wpAny (model P w) A (PySem.pyHash (.ref a)) Q E s:=by
 have hT:=hk.typeIs
 obtain⟨o,t,b,n,ho,_,hd,hi⟩:=hk
 refine yj6 (T := "tuple") hT PySem.F.slot_tuple_hash PySem.F.entry_tuple_hash (PySem.F.args_tuple_hash_1 _) (beq_builtin_none _) (.inr (by omega)) ?_
 show wpAny _ _ (Builtin.Tuple.tupleItemsOf (.ref a) >>= _) _ _ s
 refine yaa (wpAny_tupleItemsOf ho hd ?_)
 refine yaa ?_
 rw[<- yfd]
 show wpAny _ _ (forIn [yf0 k.1 t,ybm b] _ _) _ _ s
 rw[ydj]
 refine yaa (yaa (yip ?_))
 refine yaa (yai (yai ?_))
 show wpAny _ _ (forIn [ybm b] _ _) _ _ _
 rw[ydj]
 refine yaa (yaa (wpAny_pyHash_tuple (knd:=intKind P w) (by show A.units+1<cLine;exact hu) hi ?_))
 refine yaa (yai (yai ?_))
 show wpAny _ _ (forIn ([]:List Value) _ _) _ _ _
 rw[yd8]
 refine yai ?_
 refine yaa (yj7 (yai ⟨_,_,rfl,?_⟩))
 have e:s.toks+1+(k.2.length+1)+1=s.toks+(k.2.length+3):=by omega
 show Q (zj2 P w k) { s with toks:=s.toks+1+(k.2.length+1)+1 }
 rw[e]
 exact h
theorem zqa{P':yav}{w':World}{h:Heap}{ks:List Int}{a:Addr}(x:IsTupleKey (intKind P w) h ks a):IsTupleKey (intKind P' w') h ks a:=by
 obtain⟨o,items,n,q1,q2,q3,q4⟩:=x
 refine⟨o,items,n,q1,q2,q3,?_⟩
 clear q1 q2 q3
 generalize items.toList=vs at q4
 induction q4 with
 | nil=>exact .nil
 | cons h1 _ ih=>exact .cons h1 ih
theorem zxm{A:Around}{E:Value->yah->Prop}{s:yah}{x y:Int × List Int}{a b:Addr}{Q:Bool->yah->Prop}(hu:A.units+1<cLine)(hx:IsNest P w s.heap x a)(hy:IsNest P w s.heap y b)(h:Q (decide (x=y)) s) :
  wpAny (model P w) A (PySem.eqBool (.ref a) (.ref b)) Q E s:=by
 by_cases hab:a=b
 ·subst hab
  obtain rfl:=hx.inj hy
  exact yjb _ _ _ _ _ (by simpa using h)
 ·obtain⟨o,t,c,n,ho,hc,hd,hi⟩:=hx
  obtain⟨o',t',c',n',ho',hc',hd',hi'⟩:=hy
  have e0:∀ A':Around,yk0 A' s (.int x.1 t) (.int y.1 t') (x.1 == y.1):=fun A' prog w E Q hq=>yiq hq
  have e1:yk0 A.in1 s (.ref c) (.ref c') (decide (x.2=y.2)):=fun prog w' E Q hq =>
   wpAny_eqBool_tuple (knd:=intKind prog w') (by show A.units+1<cLine;exact hu) (zqa hi) (zqa hi') hq
  have r:=SeqAt.RcAt.tuples (A:=A) (s:=s) (l:=a) (b:=b) (items:=#[.int x.1 t,.ref c]) (items2:=#[.int y.1 t',.ref c']) (e:=fun j=>if j=0 then x.1 == y.1 else decide (x.2=y.2)) ⟨o,ho,hc,n,hd⟩ ⟨o',ho',hc',n',hd'⟩ (by omega)
   (fun j h1 h2=>by
    match j,h1,h2 with
    | 0,_,_=>exact e0 _
    | 1,_,_=>exact e1
    | j+2,h1,_=>exact absurd h1 (by simp))
  refine SeqAt.EqAt.of_refs hab r P w E Q ?_
  have e:((yae (min 2 2)).all (fun j=>if j=0 then x.1 == y.1 else decide (x.2=y.2)) && 2 == 2)=decide (x=y):=by
   obtain⟨x1,x2⟩:=x
   obtain⟨y1,y2⟩:=y
   by_cases q1:x1=y1
   ·by_cases q2:x2=y2
    ·subst q1 q2;simp[yc0]
    ·simp[yc0,q1,q2]
   ·simp[yc0,q1]
  show Q ((yae (min 2 2)).all (fun j=>if j=0 then x.1 == y.1 else decide (x.2=y.2)) && 2 == 2) s
  rw[e]
  exact h
theorem zrg{A:Around}{E:Value->yah->Prop}{s:yah}{k:Int × List Int}{a:Addr}{Q:Bool->yah->Prop}(hk:IsNest P w s.heap k a)(h:Q true s):wpAny (model P w) A (eqIsQuiet 8 (.ref a)) Q E s:=by
 have hT:=hk.typeIs
 obtain⟨o,t,b,n,ho,_,hd,hi⟩:=hk
 have hTb:=hi.typeIs
 obtain⟨o2,items,n2,ho2,_,hd2,hi2⟩:=hi
 unfold eqIsQuiet
 refine yaa (yfh hT yji.lookup ?_)
 show wpAny _ _ (isInstance (.ref a) (.type "tuple") >>= _) _ _ s
 refine yaa (yd1 hT yjj ?_)
 simp only[yf3,yb4,if_false]
 refine yaa (ydx ho hd ?_)
 refine yaa ?_
 show wpAny _ _ (forIn #[yf0 k.1 t,ybm b] _ _) _ _ s
 rw[<- yfd]
 show wpAny _ _ (forIn [yf0 k.1 t,ybm b] _ _) _ _ s
 rw[ydj]
 refine yaa ?_
 rw[eqIsQuiet_byValue _ (show carriedByValue (yf0 k.1 t)=true from rfl)]
 refine yaa (yai ?_)
 simp only[yf3,yb4,if_false]
 refine yai ?_
 show wpAny _ _ (forIn [ybm b] _ _) _ _ s
 rw[ydj]
 refine yaa ?_
 refine yaa ?_
 unfold eqIsQuiet
 refine yaa (yfh hTb yji.lookup ?_)
 show wpAny _ _ (isInstance (.ref b) (.type "tuple") >>= _) _ _ s
 refine yaa (yd1 hTb yjj ?_)
 simp only[yf3,yb4,if_false]
 refine yaa (ydx ho2 hd2 ?_)
 refine yaa ?_
 rw[<- yfd]
 refine wpAny_forIn_list _ (fun rest r s'=>r.1=none/\s'=s/\∀ v∈rest,carriedByValue v=true) _ ?_ ?_ _ _ ⟨rfl,rfl,hi2.byValue⟩
 ·rintro v rest r s' ⟨hr,rfl,hall⟩
  rw[eqIsQuiet_byValue _ (hall v yaq)]
  refine yaa (yai ?_)
  simp only[yf3,yb4,if_false]
  exact yai ⟨rfl,rfl,fun u hu'=>hall u (yam _ hu')⟩
 ·rintro⟨r1,r2⟩ s' ⟨hr,rfl,_⟩
  simp only at hr
  subst hr
  refine yai ?_
  simp only[yf3,yb4,if_false]
  refine yai ?_
  show wpAny _ _ (forIn ([]:List Value) _ _) _ _ _
  rw[yd8]
  exact yai (yai h)
end
def zvd(P:yav)(w:World):HeapKind P w (Int × List Int) where
 is:=IsNest P w
 hash:=zj2 P w
 draws:=fun k=>k.2.length+3
 room:=fun A=>A.units+1<cLine
 inj:=fun hx hy=>hx.inj hy
 keeps:=fun x ho hd hs=>x.keeps ho hd hs
 pyHash:=fun hu hk h=>zs5 hu hk h
 eqBool:=fun hu hx hy h=>zxm hu hx hy h
 quiet:=fun hk h=>zrg hk h
end L2
end
section
namespace L2
open PySem PySem.Spec PyProof.Rows
structure KK(P:yav)(w:World)(K:Type)[DecidableEq K] where
 knd:HeapKind P w K
 is:Hp->K->Addr->Prop
 hold:∀{H:Hp} {h:Heap} {k:K} {a:Addr},HOk P w H h->is H k a->knd.is h k a
 keeps:∀{H H':Hp} {k:K} {a:Addr},is H k a->(∀ b xs,H b=some (.tup xs)->H' b=some (.tup xs))->is H' k a
 room:∀{A:Around},A.units+2<cLine->knd.room A.in1
 room0:∀{A:Around},A.units+2<cLine->knd.room A
theorem zkx{P:yav}{w:World}:∀{ks:List Int} {us:List Value},Vals (ks.map V.int) us->ItemsAre (intKind P w) ks us
 | [],_,r=>by cases r;exact .nil
 | k::ks,_,r=>by
  cases r with
  | cons h t =>
   obtain⟨tk,rfl⟩:=h
   exact .cons (by show ye4 k (.int k tk)=true;simp[ye4]) (zkx t)
theorem zqb{P:yav}{w:World}{H:Hp}{h:Heap}{ks:List Int}{a:Addr}(ok:HOk P w H h)(e:H a=some (.tup (ks.map V.int))):IsTupleKey (intKind P w) h ks a:=by
 obtain⟨_,its,r,o,h1,h2,n,h3⟩:=(show ObjOk P w H h a (.tup (ks.map V.int)) from ok a _ e)
 exact⟨o,its.toArray,n,h1,h2,h3,by simpa using zkx r⟩
def flatK(P:yav)(w:World):KK P w (List Int) where
 knd:=tupleKind (intKind P w)
 is:=fun H k a=>H a=some (.tup (k.map V.int))
 hold:=fun ok e=>zqb ok e
 keeps:=fun e k=>k _ _ e
 room:=fun {A} hu=>by show A.units+1<cLine;omega
 room0:=fun {A} hu=>by show A.units<cLine;omega
def nestK(P:yav)(w:World):KK P w (Int × List Int) where
 knd:=zvd P w
 is:=fun H k a=>∃ b,H a=some (.tup [.int k.1,.ref b])/\H b=some (.tup (k.2.map V.int))
 hold:=fun {H h k a} ok e=>by
  obtain⟨b,e1,e2⟩:=e
  obtain⟨_,its,r,o,h1,h2,n,h3⟩:=(show ObjOk P w H h a (.tup [.int k.1,.ref b]) from ok a _ e1)
  obtain⟨u,v,rfl,ru,rv⟩:=vals2 r
  obtain⟨t,rfl⟩:=ru
  obtain rfl:v=ybm b:=rv
  exact⟨o,t,b,n,h1,h2,h3,zqb ok e2⟩
 keeps:=fun⟨b,e1,e2⟩ k=>⟨b,k _ _ e1,k _ _ e2⟩
 room:=fun {A} hu=>by show A.units+1+1<cLine;omega
 room0:=fun {A} hu=>by show A.units+1<cLine;omega
section
variable {P:yav}{w:World}{K:Type}[DecidableEq K]
def HRel:K × Addr × V->K × Addr × Value->Prop:=fun p q=>p.1=q.1/\p.2.1=q.2.1/\RelV p.2.2 q.2.2
def HPhi(knd:HeapKind P w K)(a:Addr)(xs:List (K × Addr × V))(h:Heap):Prop :=
 xs.length<=yay/\(a == sysModules)=false/\∃ ys:List (K × Addr × Value),Paired HRel xs ys/\∃ o es ep,h.get? a=some o/\o.ExactDict/\o.data = .dict es ep/\es.toList=ys.map (entryOfKey knd)/\(ys.map (·.1)).Nodup
def hdict(knd:HeapKind P w K)(a:Addr)(xs:List (K × Addr × V)):HO:=.ext (HPhi knd a xs)
theorem zs6(knd:HeapKind P w K)(a:Addr)(xs:List (K × Addr × V)):∀ h1 h2:Heap,HPhi knd a xs h1->(∀ o,h1.get? a=some o->h2.get? a=some o)->HPhi knd a xs h2 :=
 fun h1 h2 ⟨z,y,ys,r,o,es,ep,e,c⟩ k=>⟨z,y,ys,r,o,es,ep,k o e,c⟩
theorem zj3{knd:HeapKind P w K}{a:Addr}{xs:List (K × Addr × V)}{H:Hp}{h:Heap}(p:HPhi knd a xs h):ObjOk P w H h a (hdict knd a xs) :=
 ⟨p,(let ⟨_,_,_,_,o,_,_,e,_⟩:=p;⟨o,e⟩),zs6 knd a xs⟩
def HDict(kk:KK P w K)(H:Hp)(a:Addr)(kvs:List (K × V)):Prop :=
 ∃ xs:List (K × Addr × V),kvs=xs.map (fun p=>(p.1,p.2.2))/\H a=some (hdict kk.knd a xs)/\∀ p∈xs,kk.is H p.1 p.2.1
theorem HDict.open{kk:KK P w K}{H:Hp}{h:Heap}{a:Addr}{kvs:List (K × V)}(d:HDict kk H a kvs)(ok:HOk P w H h) :
  kvs.length<=yay/\(a == sysModules)=false/\∃ xs ys,kvs=xs.map (fun p=>(p.1,p.2.2))/\H a=some (hdict kk.knd a xs)/\(∀ p∈xs,kk.is H p.1 p.2.1)/\Paired (HRel (K:=K)) xs ys/\h.DictOfH kk.knd a ys:=by
 obtain⟨xs,e,ha,hk⟩:=d
 obtain⟨⟨z,y,ys,r,o,es,ep,h1,h2,h3,h4,h5⟩,_⟩:=(show ObjOk P w H h a (hdict kk.knd a xs) from ok a _ ha)
 refine⟨by rw[e,yab];exact z,y,xs,ys,e,ha,hk,r,o,es,ep,h1,h2,h3,h4,fun q hq=>?_,h5⟩
 have all:∀{l:List (K × Addr × V)} {m:List (K × Addr × Value)},Paired (HRel (K:=K)) l m->(∀ p∈l,kk.is H p.1 p.2.1)->∀ x∈m,kk.knd.is h x.1 x.2.1:=by
  intro l m q
  induction q with
  | nil=>intro _ x hx;exact nomatch hx
  | @cons p q ps qs hq t ih =>
   intro hp x hx
   rcases yap.mp hx with e | hx
   ·subst e
    rw[<- hq.1,<- hq.2.1]
    exact kk.hold ok (hp p yaq)
   ·exact ih (fun p' h'=>hp p' (yam _ h')) x hx
 exact all r hk q hq
theorem HRel.val{xs:List (K × Addr × V)}{ys:List (K × Addr × Value)}(r:Paired (HRel (K:=K)) xs ys)(k:K):RelO (valV (xs.map fun p=>(p.1,p.2.2)) k) ((atKey ys k).map (·.2)):=by
 induction r with
 | nil=>exact yew
 | @cons p q ps qs h t ih =>
  obtain⟨h1,_,h2⟩:=h
  rw[yb8]
  by_cases e:p.1=k
  ·have e':q.1=k:=h1.symm.trans e
   have b:atKey (q::qs) k=some q.2:=by simp[atKey,yfg,e']
   rw[zeh (p:=(p.1,p.2.2)) e,b];exact h2
  ·have e':¬ q.1=k:=fun z=>e (h1.trans z)
   have b:atKey (q::qs) k=atKey qs k:=by simp[atKey,yfg,e']
   rw[zei (p:=(p.1,p.2.2)) e,b];exact ih
end
section
variable {X:Cx}{K:Type}[DecidableEq K]{kk:KK X.prog X.w K}{pins:List (Addr × Obj)}{σ:St}{H:Hp}{s:yah}{a b:Addr}{k:K}{kvs:List (K × V)}{v:V}{r:Value}{A:Around}{E:Value->yah->Prop}
theorem zqc(I:Inv X pins σ H s)(d:HDict kk H a kvs):s.TypeIs (.ref a) "dict" := by
 obtain⟨_,_,xs,ys,_,_,_,_,dd⟩:=d.open I.hok
 exact dd.typeIs
theorem zky{Q:Value->yah->Prop}(hu:A.units+2<cLine)(I:Inv X pins σ H s)(d:HDict kk H a kvs)(hk:kk.is H k b)(l:valV kvs k=some v)(h:∀ w' s',Inv X pins σ H s'->RelV v w'->Q w' s') :
  wpAny (model X.prog X.w) A (getItem (.ref a) (.ref b)) Q E s:=by
 obtain⟨z,hd,xs,ys,e,ha,hks,rel,dd⟩:=d.open I.hok
 obtain⟨w',hw,rw'⟩:=RelO.some_of (v:=v) (o:=(atKey ys k).map (·.2)) (by rw[<- l,e];exact HRel.val rel k)
 obtain⟨p,hp,hp2⟩:=yfc.mp hw
 refine wpAny_getItem_heap (kk.room hu) (kk.hold I.hok hk) dd hp ?_
 rw[hp2]
 exact h w' _ (I.tok _) rw'
theorem zoo{Q:Value->yah->Prop}(hu:A.units+2<cLine)(I:Inv X pins σ H s)(d:HDict kk H a kvs)(hk:kk.is H k b)(h:∀ s',Inv X pins σ H s'->Q (.bool (!(valV kvs k).isSome)) s') :
  wpAny (model X.prog X.w) A (compareOp .NotIn (.ref b) (.ref a)) Q E s:=by
 obtain⟨z,hd,xs,ys,e,ha,hks,rel,dd⟩:=d.open I.hok
 refine wpAny_notIn_heap (kk.room hu) (kk.hold I.hok hk) hd dd ?_
 have q:=(HRel.val rel k).isSome_eq
 rw[Option.isSome_map,<- e]at q
 rw[<- q]
 exact h _ (I.tok _)
theorem zkz{Q:Unit->yah->Prop}(hu:A.units+2<cLine)(I:Inv X pins σ H s)(d:HDict kk H a kvs)(hk:kk.is H k b)(l:valV kvs k=none)(hz:kvs.length<yay)(rv:RelV v r)(h:∀ H' s',Inv X pins σ H' s'->HDict kk H' a (kvs++[(k,v)])->(∀ c o,H c=some o->c≠a->H' c=some o)->Q () s') :
  wpAny (model X.prog X.w) A (setItem (.ref a) (.ref b) r) Q E s:=by
 obtain⟨z,hd,xs,ys,e,ha,hks,rel,dd⟩:=d.open I.hok
 have hl:ys.length=kvs.length:=by rw[<- ybh rel,e,yab]
 have hn:atKey ys k=none:=by
  have q:=HRel.val rel k
  rw[<- e,l]at q
  have q:=q.none_of
  cases hq:atKey ys k with
  | none=>rfl
  | some p=>rw[hq]at q;cases q
 refine wpAny_setItem_heap (hsz:=by omega) (kk.room hu) (kk.hold I.hok hk) dd fun h' dd' hs=>?_
 rw[storedH_new hn]at dd'
 obtain⟨q,es,ep,hq,h2,h3,h4,_,h5⟩:=dd'
 have hx:xs.length=kvs.length:=by rw[e,yab]
 have hp:HPhi kk.knd a (xs++[(k,b,v)]) h':=⟨by rw[ya7];show xs.length+1<=yay;omega,hd,_,yl7 rel ⟨rfl,rfl,rv⟩,q,es,ep,hq,h2,h3,h4,h5⟩
 have I':=zi2 (t':=s.toks+kk.knd.draws k) (ob:=hdict kk.knd a (xs++[(k,b,v)])) I (by rw[ha];exact yew) hs ⟨q,hq⟩ (zj3 hp)
 have kt:∀ c ys',H c=some (.tup ys')->(upd H a (hdict kk.knd a (xs++[(k,b,v)]))) c=some (.tup ys'):=fun c ys' ec=>by
  rw[zh (za9 ec ha (fun z=>nomatch z))]
  exact ec
 refine h _ _ I' ⟨xs++[(k,b,v)],by rw[e,ya9];rfl,zd,fun p hp=>?_⟩ fun c o ec hc=>by rw[zh hc];exact ec
 rcases yb1.mp hp with hp | hp
 ·exact kk.keeps (hks p hp) kt
 ·rw[ya4.mp hp]
  exact kk.keeps hk kt
theorem zk0{Q:Unit->yah->Prop}(hu:A.units+2<cLine)(I:Inv X pins σ H s)(d:HDict kk H a kvs)(hk:kk.is H k b)(l:valV kvs k=none)(hz:kvs.length<yay)(rv:RelV v r)(h:∀ H' s',Inv X pins σ H' s'->HDict kk H' a (kvs++[(k,v)])->(∀ c o,H c=some o->c≠a->H' c=some o)->Q () s') :
  wpAny (model X.prog X.w) A (dictSet a (.ref b) r) Q E s:=by
 obtain⟨z,hd,xs,ys,e,ha,hks,rel,dd⟩:=d.open I.hok
 have hl:ys.length=kvs.length:=by rw[<- ybh rel,e,yab]
 have hn:atKey ys k=none:=by
  have q:=HRel.val rel k
  rw[<- e,l]at q
  have q:=q.none_of
  cases hq:atKey ys k with
  | none=>rfl
  | some p=>rw[hq]at q;cases q
 refine wpAny_dictSet_heap (hsz:=by omega) (kk.room0 hu) (kk.hold I.hok hk) dd fun h' dd' hs=>?_
 rw[storedH_new hn]at dd'
 obtain⟨q,es,ep,hq,h2,h3,h4,_,h5⟩:=dd'
 have hx:xs.length=kvs.length:=by rw[e,yab]
 have hp:HPhi kk.knd a (xs++[(k,b,v)]) h':=⟨by rw[ya7];show xs.length+1<=yay;omega,hd,_,yl7 rel ⟨rfl,rfl,rv⟩,q,es,ep,hq,h2,h3,h4,h5⟩
 have I':=zi2 (t':=s.toks+kk.knd.draws k) (ob:=hdict kk.knd a (xs++[(k,b,v)])) I (by rw[ha];exact yew) hs ⟨q,hq⟩ (zj3 hp)
 have kt:∀ c ys',H c=some (.tup ys')->(upd H a (hdict kk.knd a (xs++[(k,b,v)]))) c=some (.tup ys'):=fun c ys' ec=>by
  rw[zh (za9 ec ha (fun z=>nomatch z))]
  exact ec
 refine h _ _ I' ⟨xs++[(k,b,v)],by rw[e,ya9];rfl,zd,fun p hp=>?_⟩ fun c o ec hc=>by rw[zh hc];exact ec
 rcases yb1.mp hp with hp | hp
 ·exact kk.keeps (hks p hp) kt
 ·rw[ya4.mp hp]
  exact kk.keeps hk kt
theorem zs7(I:Inv X pins σ H s){t':Nat}:∃ p H',H p=none/\p=s.heap.objs.size/\Inv X pins σ H' { s with heap:=s.heap.push { cls:=.type "dict",data:=.dict #[] },toks:=t' }/\HDict kk H' p []/\∀ c o,H c=some o->H' c=some o:=by
 have hn:=I.hok.fresh (yao s.heap.objs.size)
 have hp:HPhi kk.knd s.heap.objs.size [] (s.heap.push { cls:=.type "dict",data:=.dict #[] }) :=
  ⟨ybj _,beq_eq_false_iff_ne.mpr (yee (yba I.big)),[],.nil,_,#[],0,yaw _ rfl,⟨rfl,rfl,rfl⟩,rfl,rfl,yhr⟩
 refine⟨s.heap.objs.size,upd H s.heap.objs.size (hdict kk.knd s.heap.objs.size []),hn,rfl,I.laid (a:=s.heap.objs.size) (fun _ _ q=>yak _ q) (yao _) (zj3 hp),⟨[],rfl,zd,fun p hp=>nomatch hp⟩,fun c o ec=>by rw[zh (zn ec hn)];exact ec⟩
end
def oV:Option Int->V
 | none=>.non
 | some i=>.int i
theorem zng{P:yav}{w:World}{k:Option Int}{u:Value}(r:RelV (oV k) u):(zp9 P w).is k u=true:=by
 cases k with
 | none=>cases (show u=ydn from r);rfl
 | some i =>
  obtain⟨t,rfl⟩:=r
  show ye4 i (.int i t)=true
  simp[ye4]
def OPhi(P:yav)(w:World)(a:Addr)(kvs:List (Option Int × V))(h:Heap):Prop:=kvs.length<=yay/\(a == sysModules)=false/\∃ vs,KV kvs vs/\h.DictOf (zp9 P w) a vs
def odict(P:yav)(w:World)(a:Addr)(kvs:List (Option Int × V)):HO:=.ext (OPhi P w a kvs)
theorem zj4{P:yav}{w:World}{a:Addr}{kvs:List (Option Int × V)}{H:Hp}{h:Heap}(p:OPhi P w a kvs h):ObjOk P w H h a (odict P w a kvs) :=
 ⟨p,(let ⟨_,_,_,_,o,_,_,e,_⟩:=p;⟨o,e⟩),fun h1 h2 ⟨z,y,vs,r,o,es,ep,e,c⟩ k=>⟨z,y,vs,r,o,es,ep,k o e,c⟩⟩
section
variable {X:Cx}{pins:List (Addr × Obj)}{σ:St}{H:Hp}{s:yah}{a:Addr}{k:Option Int}{kvs:List (Option Int × V)}{v:V}{u r:Value}{A:Around}{E:Value->yah->Prop}
theorem zf0(I:Inv X pins σ H s)(e:H a=some (odict X.prog X.w a kvs)):OPhi X.prog X.w a kvs s.heap:=(show ObjOk X.prog X.w H s.heap a (odict X.prog X.w a kvs) from I.hok a _ e).1
theorem zrh{Q:Value->yah->Prop}(I:Inv X pins σ H s)(e:H a=some (odict X.prog X.w a kvs))(ry:RelV (oV k) u)(l:valV kvs k=some v)(h:∀ w' s',Inv X pins σ H s'->RelV v w'->Q w' s') :
  wpAny (model X.prog X.w) A (getItem (.ref a) u) Q E s:=by
 obtain⟨z,hd,vs,rel,dd⟩:=zf0 I e
 obtain⟨w',hw,rw'⟩:=RelO.some_of (v:=v) (o:=valueAt vs k) (by rw[<- l];exact rel.val k)
 exact wpAny_getItem_of (zng ry) dd.mapOf hw (h w' _ (I.tok _) rw')
theorem zve{Q:Value->yah->Prop}(I:Inv X pins σ H s)(e:H a=some (odict X.prog X.w a kvs))(ry:RelV (oV k) u)(h:∀ s',Inv X pins σ H s'->Q (.bool (!(valV kvs k).isSome)) s') :
  wpAny (model X.prog X.w) A (compareOp .NotIn u (.ref a)) Q E s:=by
 obtain⟨z,hd,vs,rel,dd⟩:=zf0 I e
 refine wpAny_notIn_of (zng ry) hd dd.mapOf ?_
 rw[<- (rel.val k).isSome_eq]
 exact h _ (I.tok _)
theorem zri{Q:Unit->yah->Prop}(I:Inv X pins σ H s)(e:H a=some (odict X.prog X.w a kvs))(ry:RelV (oV k) u)(l:valV kvs k=none)(hz:kvs.length<yay)(rv:RelV v r)(h:∀ s',Inv X pins σ (upd H a (odict X.prog X.w a (kvs++[(k,v)]))) s'->Q () s'):wpAny (model X.prog X.w) A (setItem (.ref a) u r) Q E s:=by
 obtain⟨z,hd,vs,rel,dd⟩:=zf0 I e
 have hz':vs.length<=yay:=by rw[<- rel.length];exact z
 refine wpAny_setItem_pairs (hsz:=hz') (zng ry) dd fun h' dd' hs=>h _ ?_
 have he:∃ q,h'.get? a=some q:=let ⟨q,_,_,hq,_⟩:=dd';⟨q,hq⟩
 have rp:=rel.put k rv
 rw[znz v l]at rp
 exact zi2 I (by rw[e];exact yew) hs he (zj4 ⟨by rw[ya7];show kvs.length+1<=yay;omega,hd,_,rp,dd'⟩)
theorem zrj{Q:Unit->yah->Prop}(I:Inv X pins σ H s)(e:H a=some (odict X.prog X.w a kvs))(ry:RelV (oV k) u)(l:valV kvs k=none)(hz:kvs.length<yay)(rv:RelV v r)(h:∀ s',Inv X pins σ (upd H a (odict X.prog X.w a (kvs++[(k,v)]))) s'->Q () s'):wpAny (model X.prog X.w) A (dictSet a u r) Q E s:=by
 obtain⟨z,hd,vs,rel,dd⟩:=zf0 I e
 have hz':vs.length<=yay:=by rw[<- rel.length];exact z
 refine wpAny_dictSet_pairs (hsz:=hz') (zng ry) dd fun h' dd' hs=>h _ ?_
 have he:∃ q,h'.get? a=some q:=let ⟨q,_,_,hq,_⟩:=dd';⟨q,hq⟩
 have rp:=rel.put k rv
 rw[znz v l]at rp
 exact zi2 I (by rw[e];exact yew) hs he (zj4 ⟨by rw[ya7];show kvs.length+1<=yay;omega,hd,_,rp,dd'⟩)
end
inductive KD where
 | o (x:Option Int) | f (l:List Int) | n (c:Int) (l:List Int)
 deriving DecidableEq
inductive DK where
 | o | f | n
def KD.kind:KD->DK
 | .o _=>.o
 | .f _=>.f
 | .n _ _=>.n
def KAt(H:Hp):KD->V->Prop
 | .o k,v=>v=oV k
 | .f l,v=>∃ a,v = .ref a/\H a=some (.tup (l.map V.int))
 | .n c l,v=>∃ a b,v = .ref a/\H a=some (.tup [.int c,.ref b])/\H b=some (.tup (l.map V.int))
theorem KAt.keeps{H H':Hp}{k:KD}{v:V}(h:KAt H k v)(t:∀ b xs,H b=some (.tup xs)->H' b=some (.tup xs)):KAt H' k v:=by
 cases k with
 | o k=>exact h
 | f l=>obtain⟨a,e,q⟩:=h;exact⟨a,e,t _ _ q⟩
 | n c l=>obtain⟨a,b,e,q1,q2⟩:=h;exact⟨a,b,e,t _ _ q1,t _ _ q2⟩
def oK(p:Option Int × V):KD × V:=(.o p.1,p.2)
def fK(p:List Int × V):KD × V:=(.f p.1,p.2)
def nK(p:(Int × List Int) × V):KD × V:=(.n p.1.1 p.1.2,p.2)
def DAt(P:yav)(w:World)(H:Hp)(d:DK)(a:Addr)(kvs:List (KD × V)):Prop :=
 match d with
 | .o=>∃ l,kvs=l.map oK/\H a=some (odict P w a l)
 | .f=>∃ l,kvs=l.map fK/\HDict (flatK P w) H a l
 | .n=>∃ l,kvs=l.map nK/\HDict (nestK P w) H a l
theorem zjb{κ κ':Type}[DecidableEq κ][DecidableEq κ']{g:κ->κ'}(hg:∀ x y,g x=g y->x=y)(k:κ):∀ l:List (κ × V),valV (l.map fun p=>(g p.1,p.2)) (g k)=valV l k
 | []=>rfl
 | p::l=>by
  rw[yb8]
  by_cases e:p.1=k
  ·rw[zeh e,zeh (p:=(g p.1,p.2)) (by show g p.1=g k;rw[e])]
  ·rw[zei e,zei (p:=(g p.1,p.2)) (fun z=>e (hg _ _ z)),zjb hg k l]
theorem zk1(k:Option Int)(l:List (Option Int × V)):valV (l.map oK) (.o k)=valV l k:=zjb (g:=KD.o) (fun x y e=>by injection e) k l
theorem zk2(k:List Int)(l:List (List Int × V)):valV (l.map fK) (.f k)=valV l k:=zjb (g:=KD.f) (fun x y e=>by injection e) k l
theorem zk3(k:Int × List Int)(l:List ((Int × List Int) × V)):valV (l.map nK) (.n k.1 k.2)=valV l k:=zjb (g:=fun p:Int × List Int=>KD.n p.1 p.2) (fun x y e=>by
 injection e with e1 e2
 exact Prod.ext e1 e2) k l
section
variable {X:Cx}{pins:List (Addr × Obj)}{σ:St}{H:Hp}{s:yah}{a:Addr}{k:KD}{kvs:List (KD × V)}{y v:V}{u r:Value}{A:Around}{E:Value->yah->Prop}
theorem zxn(I:Inv X pins σ H s){d:DK}(D:DAt X.prog X.w H d a kvs):s.TypeIs (.ref a) "dict" := by
 cases d with
 | o=>obtain⟨l,_,e⟩:=D;obtain⟨_,_,vs,_,dd⟩:=zf0 I e;exact dd.typeIs
 | f=>obtain⟨l,_,e⟩:=D;exact zqc I e
 | n=>obtain⟨l,_,e⟩:=D;exact zqc I e
theorem zrk{Q:Value->yah->Prop}(hu:A.units+2<cLine)(I:Inv X pins σ H s)(D:DAt X.prog X.w H k.kind a kvs)(hk:KAt H k y)(ry:RelV y u)(l:valV kvs k=some v)(h:∀ w' s',Inv X pins σ H s'->RelV v w'->Q w' s') :
  wpAny (model X.prog X.w) A (getItem (.ref a) u) Q E s:=by
 cases k with
 | o k =>
  obtain⟨m,rfl,e⟩:=D
  rw[zk1]at l
  rw[show y=oV k from hk]at ry
  exact zrh I e ry l h
 | f k =>
  obtain⟨m,rfl,e⟩:=D
  rw[zk2]at l
  obtain⟨b,rfl,eb⟩:=hk
  obtain rfl:u=ybm b:=ry
  exact zky hu I e (show(flatK X.prog X.w).is H k b from eb) l h
 | n c t =>
  obtain⟨m,rfl,e⟩:=D
  rw[zk3 (c,t)]at l
  obtain⟨b,b',rfl,eb,eb'⟩:=hk
  obtain rfl:u=ybm b:=ry
  exact zky hu I e (show(nestK X.prog X.w).is H (c,t) b from⟨b',eb,eb'⟩) l h
theorem zvf{Q:Value->yah->Prop}(hu:A.units+2<cLine)(I:Inv X pins σ H s)(D:DAt X.prog X.w H k.kind a kvs)(hk:KAt H k y)(ry:RelV y u)(h:∀ s',Inv X pins σ H s'->Q (.bool (!(valV kvs k).isSome)) s') :
  wpAny (model X.prog X.w) A (compareOp .NotIn u (.ref a)) Q E s:=by
 cases k with
 | o k =>
  obtain⟨m,rfl,e⟩:=D
  rw[zk1]at h
  rw[show y=oV k from hk]at ry
  exact zve I e ry h
 | f k =>
  obtain⟨m,rfl,e⟩:=D
  rw[zk2]at h
  obtain⟨b,rfl,eb⟩:=hk
  obtain rfl:u=ybm b:=ry
  exact zoo hu I e (show(flatK X.prog X.w).is H k b from eb) h
 | n c t =>
  obtain⟨m,rfl,e⟩:=D
  rw[zk3 (c,t)]at h
  obtain⟨b,b',rfl,eb,eb'⟩:=hk
  obtain rfl:u=ybm b:=ry
  exact zoo hu I e (show(nestK X.prog X.w).is H (c,t) b from⟨b',eb,eb'⟩) h
theorem zrl{Q:Unit->yah->Prop}(hu:A.units+2<cLine)(I:Inv X pins σ H s)(D:DAt X.prog X.w H k.kind a kvs)(hk:KAt H k y)(ry:RelV y u)(l:valV kvs k=none)(hz:kvs.length<yay)(rv:RelV v r)(h:∀ H' s',Inv X pins σ H' s'->DAt X.prog X.w H' k.kind a (kvs++[(k,v)])->(∀ c o,H c=some o->c≠a->H' c=some o)->Q () s'):wpAny (model X.prog X.w) A (setItem (.ref a) u r) Q E s:=by
 cases k with
 | o k =>
  obtain⟨m,rfl,e⟩:=D
  rw[zk1]at l
  rw[show y=oV k from hk]at ry
  refine zri I e ry l (by simpa using hz) rv fun s' I'=>h _ s' I' ⟨m++[(k,v)],by rw[ya9];rfl,zd⟩ fun c o ec hc=>by rw[zh hc];exact ec
 | f k =>
  obtain⟨m,rfl,e⟩:=D
  rw[zk2]at l
  obtain⟨b,rfl,eb⟩:=hk
  obtain rfl:u=ybm b:=ry
  exact zkz hu I e (show(flatK X.prog X.w).is H k b from eb) l (by simpa using hz) rv fun H' s' I' D' k'=>h H' s' I' ⟨m++[(k,v)],by rw[ya9];rfl,D'⟩ k'
 | n c t =>
  obtain⟨m,rfl,e⟩:=D
  rw[zk3 (c,t)]at l
  obtain⟨b,b',rfl,eb,eb'⟩:=hk
  obtain rfl:u=ybm b:=ry
  exact zkz hu I e (show(nestK X.prog X.w).is H (c,t) b from⟨b',eb,eb'⟩) l (by simpa using hz) rv fun H' s' I' D' k'=>h H' s' I' ⟨m++[((c,t),v)],by rw[ya9];rfl,D'⟩ k'
theorem zrm{Q:Unit->yah->Prop}(hu:A.units+2<cLine)(I:Inv X pins σ H s)(D:DAt X.prog X.w H k.kind a kvs)(hk:KAt H k y)(ry:RelV y u)(l:valV kvs k=none)(hz:kvs.length<yay)(rv:RelV v r)(h:∀ H' s',Inv X pins σ H' s'->DAt X.prog X.w H' k.kind a (kvs++[(k,v)])->(∀ c o,H c=some o->c≠a->H' c=some o)->Q () s'):wpAny (model X.prog X.w) A (dictSet a u r) Q E s:=by
 cases k with
 | o k =>
  obtain⟨m,rfl,e⟩:=D
  rw[zk1]at l
  rw[show y=oV k from hk]at ry
  refine zrj I e ry l (by simpa using hz) rv fun s' I'=>h _ s' I' ⟨m++[(k,v)],by rw[ya9];rfl,zd⟩ fun c o ec hc=>by rw[zh hc];exact ec
 | f k =>
  obtain⟨m,rfl,e⟩:=D
  rw[zk2]at l
  obtain⟨b,rfl,eb⟩:=hk
  obtain rfl:u=ybm b:=ry
  exact zk0 hu I e (show(flatK X.prog X.w).is H k b from eb) l (by simpa using hz) rv fun H' s' I' D' k'=>h H' s' I' ⟨m++[(k,v)],by rw[ya9];rfl,D'⟩ k'
 | n c t =>
  obtain⟨m,rfl,e⟩:=D
  rw[zk3 (c,t)]at l
  obtain⟨b,b',rfl,eb,eb'⟩:=hk
  obtain rfl:u=ybm b:=ry
  exact zk0 hu I e (show(nestK X.prog X.w).is H (c,t) b from⟨b',eb,eb'⟩) l (by simpa using hz) rv fun H' s' I' D' k'=>h H' s' I' ⟨m++[((c,t),v)],by rw[ya9];rfl,D'⟩ k'
theorem zs8(d:DK)(I:Inv X pins σ H s){t':Nat}:∃ p H',H p=none/\p=s.heap.objs.size/\Inv X pins σ H' { s with heap:=s.heap.push { cls:=.type "dict",data:=.dict #[] },toks:=t' }/\DAt X.prog X.w H' d p []/\∀ c o,H c=some o->H' c=some o:=by
 cases d with
 | o =>
  have hn:=I.hok.fresh (yao s.heap.objs.size)
  refine⟨s.heap.objs.size,upd H s.heap.objs.size (odict X.prog X.w s.heap.objs.size []),hn,rfl,I.laid (a:=s.heap.objs.size) (fun _ _ q=>yak _ q) (yao _)
   (zj4 ⟨ybj _,beq_eq_false_iff_ne.mpr (yee (yba I.big)),[],.nil,Heap.DictOf.new _⟩),⟨[],rfl,zd⟩,fun c o ec=>by rw[zh (zn ec hn)];exact ec⟩
 | f =>
  obtain⟨p,H',h1,h2,h3,h4,h5⟩:=zs7 (kk:=flatK X.prog X.w) (t':=t') I
  exact⟨p,H',h1,h2,h3,⟨[],rfl,h4⟩,h5⟩
 | n =>
  obtain⟨p,H',h1,h2,h3,h4,h5⟩:=zs7 (kk:=nestK X.prog X.w) (t':=t') I
  exact⟨p,H',h1,h2,h3,⟨[],rfl,h4⟩,h5⟩
end
def tKGet(P:yav)(w:World)(td ty:TE):TE:=fun σ H Q=>td σ H fun x H1=>ty σ H1 fun y H2=>∃ a k kvs v,x = .ref a/\DAt P w H2 (KD.kind k) a kvs/\KAt H2 k y/\valV kvs k=some v/\Q v H2
def zxo(P:yav)(w:World)(ty td:TE):TE:=fun σ H Q=>ty σ H fun y H1=>td σ H1 fun x H2=>∃ a k kvs,x = .ref a/\DAt P w H2 (KD.kind k) a kvs/\KAt H2 k y/\Q (.bl (!(valV kvs k).isSome)) H2
def sKPut(P:yav)(w:World)(td ty tv:TE):TS:=fun D σ H=>tv σ H fun v H1=>td σ H1 fun x H2=>ty σ H2 fun y H3=>∃ a k kvs,x = .ref a/\DAt P w H3 (KD.kind k) a kvs/\KAt H3 k y/\valV kvs k=none/\kvs.length<yay /\
 ∀ H4,DAt P w H4 (KD.kind k) a (kvs++[(k,v)])->(∀ c o,H3 c=some o->c≠a->H4 c=some o)->D.nx σ H4
def tKNew(P:yav)(w:World)(d:DK):TE:=fun _ H Q=>∀ p H',H p=none->DAt P w H' d p []->(∀ c o,H c=some o->H' c=some o)->Q (.ref p) H'
def tKOne(P:yav)(w:World)(tk tv:TE):TE:=fun σ H Q=>∃ d,∀ p H0,H p=none->DAt P w H0 d p []->(∀ c o,H c=some o->H0 c=some o)->tk σ H0 fun y H1=>tv σ H1 fun v H2=>∃ k,KAt H2 k y/\k.kind=d/\DAt P w H2 d p [] /\
 ∀ H4,DAt P w H4 d p [(k,v)]->(∀ c o,H2 c=some o->c≠p->H4 c=some o)->Q (.ref p) H4
section
variable {X:Cx}{o i e value:Expr}{pos pos' tpos:Pos}{td ty tv tk:TE}
theorem zqd(hu:X.A.units+2<cLine)(ho:PE X o td)(hi:PE X i ty)(hs:NoSl i):PE X (.Subscript o i pos) (tKGet X.prog X.w td ty):=by
 intro pins s σ H Q I h
 refine zxe PySem.F.slot_dict_getitem.lookup hs (thn (ho pins s σ H _ I h) fun u s1 ⟨x,H1,I1,rx,q1⟩=>thn (hi pins s1 σ H1 _ I1 q1) fun iv s2 ⟨y,H2,I2,ry,a,k,kvs,v,ex,g,hk,l,q2⟩=>?_)
 subst ex
 obtain rfl:u=ybm a:=rx
 exact⟨zxn I2 g,zrk hu I2 g hk ry l fun w' s3 I3 rw'=>⟨v,H2,I3,rw',q2⟩⟩
theorem zmx(hu:X.A.units+2<cLine)(hi:PE X i ty)(ho:PE X o td):PC X .NotIn i o (zxo X.prog X.w ty td):=by
 intro pins s σ H Q I h
 refine thn (hi pins s σ H _ I h) fun iv s1 ⟨y,H1,I1,ry,q1⟩=>thn (ho pins s1 σ H1 _ I1 q1) fun u s2 ⟨x,H2,I2,rx,a,k,kvs,ex,g,hk,q2⟩=>?_
 subst ex
 obtain rfl:u=ybm a:=rx
 exact zvf hu I2 g hk ry fun s3 I3=>⟨.bl (!(valV kvs k).isSome),H2,I3,rfl,q2⟩
theorem zqe(hu:X.A.units+2<cLine)(ho:PE X o td)(hi:PE X i ty)(hv:PE X value tv)(hs:swapsWith value (some (.Subscript o i pos')) pos.line X.env=pure false) :
  PS X (.Assign [.Subscript o i pos'] value pos) (sKPut X.prog X.w td ty tv):=by
 intro pins s σ H D I h
 refine wpAny_Assign_Subscript (thn (hv pins s σ H _ I h) fun r s1 ⟨v,H1,I1,rv,q1⟩=>thn (ho pins s1 σ H1 _ I1 q1) fun u s2 ⟨x,H2,I2,rx,q2⟩=>thn (hi pins s2 σ H2 _ I2 q2) fun iv s3 ⟨y,H3,I3,ry,a,k,kvs,ex,g,hk,l,hz,q3⟩=>?_) hs
 subst ex
 obtain rfl:u=ybm a:=rx
 exact zrl hu I3 g hk ry l hz rv fun H4 s4 I4 D4 k4=>⟨σ,H4,I4,q3 H4 D4 k4⟩
theorem zxp(hu:X.A.units+2<cLine)(hk:PE X e tk)(hv:PE X value tv):PE X (.Dict [some e] [value] pos) (tKOne X.prog X.w tk tv):=by
 intro pins s σ H Q I h
 obtain⟨d,h⟩:=h
 rw[arm_eval_Dict,zip_pairTrees [some e] [value] X.env pos rfl rfl,dictDisplay_pairs _ (by intro z;cases z) (by show 1<17;decide)]
 refine yaa (yic (yaa ?_))
 unfold subDict
 refine yaa (yl6 ?_)
 obtain⟨p,H0,hn,rfl,I0,D0,k0⟩:=zs8 d (t':=s.toks) I
 refine yaa (yco ?_)
 rw[if_pos (show(pairTrees [some e] [value] X.env pos).length<=15 by show 1<=15;decide)]
 refine yaa (pairTrees_cons_walk (thn (hk pins _ σ H0 _ I0 (h _ _ hn D0 k0)) fun u s1 ⟨y,H1,I1,ry,q1⟩=>thn (hv pins s1 σ H1 _ I1 q1) fun r s2 ⟨v,H2,I2,rv,k,hk2,ek,D2,q2⟩=>pairTrees_nil_walk ?_))
 refine yco ?_
 subst ek
 show wpAny _ _ (forIn [(u,r)] _ _ >>= _) _ _ _
 rw[ydj]
 refine yaa (yaa (yaa (zrm hu I2 D2 hk2 ry (l:=rfl) (by show 0<yay;rw[ybr];decide) rv fun H4 s4 I4 D4 k4=>?_)))
 refine yai ?_
 show wpAny _ _ (forIn [] _ _) _ _ _
 rw[yd8]
 exact yai (yai (yai (yai ⟨.ref s.heap.objs.size,H4,I4,rfl,q2 H4 D4 k4⟩)))
theorem zxq(d:DK):PE X (.Dict [] [] pos) (tKNew X.prog X.w d):=fun pins s σ H Q I h=>by
 obtain⟨p,H',hn,rfl,I',D',k'⟩:=zs8 d (t':=s.toks) I
 exact wpAny_Dict_empty ⟨.ref s.heap.objs.size,H',I',rfl,h _ _ hn D' k'⟩
end
end L2
end
section
namespace L2
open PySem PySem.Spec PyProof.Rows
section
variable {P:yav}{w:World}{K:Type}[DecidableEq K]{knd:HeapKind P w K}{A:Around}{E:Value->yah->Prop}{s:yah}
theorem zrn(d:Addr)(hd:(d == sysModules)=false) :
  MeetsIn P w (Builtin.«dict.__len__» ⟨[.ref d],[]⟩) (fun _ R s=>∃ xs,s.heap.DictOfH knd d xs/\R (.ok (.ret (.int xs.length s.toks))) { s with toks:=s.toks+1 }) :=
 .of_wp fun A R s ⟨xs,hm,h⟩=>by
  obtain⟨o,es,ep,ho,hc,hdat,he,_,hn⟩:=hm
  show wpAny _ _ (dictSize d >>= _) _ _ s
  unfold dictSize
  refine yaa (yaa (wpAny_dictEntries ho hdat (yai ?_)))
  show wpAny _ _ (Builtin.Dict.pendingCount d >>= _) _ _ s
  refine yaa (wpAny_pendingCount_other hd ?_)
  refine wpAny_ret_mkInt ?_
  have:es.size=xs.length:=by rw[<- ya0,he,yab]
  rw[yjh,this];exact h
theorem zs9{d:Addr}{xs:List (K × Addr × Value)}{Q:Value->yah->Prop}(hd:(d == sysModules)=false)(hm:s.heap.DictOfH knd d xs)(hfit:(xs.length:Int)<2 ^ 63)(h:Q (.int xs.length (s.toks+1)) { s with toks:=s.toks+1+1 }):wpAny (model P w) A (call (.builtin "len") [.ref d]) Q E s:=by
 refine yhu kind_len plain_len entry_len (args_len1 _) ?_
 unfold Builtin.«len»
 refine yaa (m:=oneArg "len" _) (yai ?_)
 refine yaa (m:=callSpecial? (.ref d) (yc6 "__len__")) (ybl (name:=yc6 "__len__") hm.typeIs yjk
  (call_meetsIn yjk hm.typeIs PySem.F.entry_dict_len (PySem.F.args_dict_len_1 _) (zrn (knd:=knd) d hd) ⟨xs,hm,?_⟩))
 show wpAny _ _ _ _ _ { s with toks:=s.toks+1 }
 refine yaa (yco (yai ?_))
 refine yaa (yij ?_)
 show wpAny _ _ (if ((xs.length:Nat):Int)<0 then _ else _) _ _ _
 rw[if_neg (by omega)]
 show wpAny _ _ (if ((xs.length:Nat):Int) ≥ 2 ^ 63 then _ else _) _ _ _
 rw[if_neg (by omega)]
 exact yaa (yj7 (yai ⟨_,rfl,h⟩))
end
theorem zta{X:Cx}:CallR X (.builtin "len") (fun xs H Q=>∃ a d kvs,xs=[V.ref a]/\DAt X.prog X.w H d a kvs/\Q (.int kvs.length) H):=by
 intro pins s σ H xs us Q I r h
 obtain⟨a,d,kvs,rfl,D,q⟩:=h
 obtain⟨u,rfl,ru⟩:=vals1 r
 cases ru
 have hl:∀{K:Type} [DecidableEq K] {kk:KK X.prog X.w K} {m:List (K × V)},HDict kk H a m->m.length=kvs.length->wpAny (model X.prog X.w) X.A (call (.builtin "len") [.ref a]) (EP X pins σ Q) X.xe s:=by
  intro K _ kk m hd hm
  obtain⟨z,hs,xs,ys,e,ha,hks,rel,dd⟩:=hd.open I.hok
  have hy:ys.length=m.length:=by rw[<- ybh rel,e,yab]
  refine zs9 hs dd (by rw[ybr]at z;omega) ⟨.int kvs.length,H,I.tok _,⟨s.toks+1,?_⟩,q⟩
  rw[hy,hm]
 cases d with
 | o =>
  obtain⟨m,rfl,e⟩:=D
  obtain⟨z,hd,vs,rel,dd⟩:=zf0 I e
  refine call_len_dict hd dd (by rw[<- rel.length];rw[ybr]at z;omega) ⟨.int (m.map oK).length,H,I.tok _,⟨s.toks+1,?_⟩,q⟩
  rw[<- rel.length,yab]
 | f =>
  obtain⟨m,rfl,e⟩:=D
  exact hl e (by rw[yab])
 | n =>
  obtain⟨m,rfl,e⟩:=D
  exact hl e (by rw[yab])
end L2
end
section
namespace L2
open PySem PySem.Spec PyProof.Rows
namespace Sn
def Ris(l:List Nat):Prop:=l.Pairwise (· < ·)
theorem Ris.lt{l:List Nat}(h:Ris l){i j:Nat}(hij:i<j)(hj:j<l.length):l.getD i 0<l.getD j 0:=by
 rw[yal,yal,yad (by omega),yad hj]
 exact List.pairwise_iff_getElem.mp h i j (by omega) hj hij
theorem zl1{xs:Array Nat}(h:Ris xs.toList)(j:Nat):∀(f lo hi:Nat),hi<=xs.size->hi - lo<=f->lo<=hi->(∀ k,k<lo->xs.toList.getD k 0<j)->(∀ k,hi<=k->k<xs.size->j<=xs.toList.getD k 0) ->
  ∃ r,yk4 xs j f lo hi=r/\r<=xs.size/\(∀ k,k<r->xs.toList.getD k 0<j)/\(∀ k,r<=k->k<xs.size->j<=xs.toList.getD k 0)
 | 0,lo,hi,hs,hf,hl,a,b=>by
  have:lo=hi:=by omega
  subst this
  exact⟨lo,rfl,hs,a,b⟩
 | f+1,lo,hi,hs,hf,hl,a,b=>by
  unfold yk4
  by_cases q:lo<hi
  ·rw[if_pos q]
   have hm:(lo+hi) / 2<xs.size:=by omega
   have e0:xs.getD ((lo+hi) / 2) j=xs.toList.getD ((lo+hi) / 2) 0:=by
    rw[yal,yc1,Array.getD_eq_getD_getElem?,yct hm]
    rfl
   simp only[e0]
   by_cases c:xs.toList.getD ((lo+hi) / 2) 0<j
   ·rw[if_pos c]
    refine zl1 h j f _ hi hs (by omega) (by omega) (fun k hk=>?_) b
    by_cases ek:k=(lo+hi) / 2
    ·rw[ek];exact c
    ·have:=h.lt (i:=k) (j:=(lo+hi) / 2) (by omega) (by rw[ya0];exact hm)
     omega
   ·rw[if_neg c]
    refine zl1 h j f lo _ (by omega) (by omega) (by omega) a fun k hk hks=>?_
    by_cases ek:k=(lo+hi) / 2
    ·rw[ek];omega
    ·have:=h.lt (i:=(lo+hi) / 2) (j:=k) (by omega) (by rw[ya0];exact hks)
     omega
  ·rw[if_neg q]
   have:lo=hi:=by omega
   subst this
   exact⟨lo,rfl,hs,a,b⟩
theorem zk4{xs:Array Nat}(h:Ris xs.toList)(j:Nat):ybp xs j<=xs.size/\(∀ k,k<ybp xs j->xs.toList.getD k 0<j)/\(∀ k,ybp xs j<=k->k<xs.size->j<=xs.toList.getD k 0):=by
 obtain⟨r,e,h1,h2,h3⟩:=zl1 h j xs.size 0 xs.size (yao _) (by omega) (ybj _) (fun k hk=>by omega) (fun k hk hs=>by omega)
 have e':ybp xs j=r:=e
 rw[e']
 exact⟨h1,h2,h3⟩
theorem zxr{a b:List Nat}{j:Nat}(h:Ris (a++b))(ha:∀ x∈a,x<j)(hb:∀ x∈b,j<x):Ris (a++j::b):=by
 obtain⟨h1,h2,h3⟩:=List.pairwise_append.mp h
 refine List.pairwise_append.mpr ⟨h1,yeq.mpr ⟨hb,h2⟩,fun x hx y hy=>?_⟩
 rcases yap.mp hy with rfl | hy
 ·exact ha x hx
 ·exact h3 x hx y hy
theorem zro{xs:Array Nat}(h:Ris xs.toList){j:Nat}(hn:xs[ybp xs j]?≠some j):Ris (yh0 xs (ybp xs j) j).toList:=by
 obtain⟨h1,h2,h3⟩:=zk4 h j
 have e:(yh0 xs (ybp xs j) j).toList=xs.toList.take (ybp xs j)++j::xs.toList.drop (ybp xs j):=by
  unfold yh0
  simp only[Array.toList_append,ygi,Array.toList_extract,List.extract_eq_take_drop,ybv,yjl]
  simp
  rw[yix (by rw[ydr,ya0];omega)]
 rw[e]
 refine zxr (by rw[ycf];exact h) (fun x hx=>?_) fun x hx=>?_
 ·obtain⟨i,hi,rfl⟩:=yjt.mp hx
  rw[yd0]at hi
  have:=h2 i (by omega)
  rw[List.getElem_take]
  rw[yal,yad (by omega)]at this
  exact this
 ·obtain⟨i,hi,rfl⟩:=yjt.mp hx
  rw[ydr,ya0]at hi
  have g:=h3 (ybp xs j+i) (by omega) (by omega)
  rw[yal,yad (by rw[ya0];omega)]at g
  rw[List.getElem_drop]
  have g:j<=xs.toList[ybp xs j+i]'(by rw[ya0];omega):=g
  by_cases i0:i=0
  ·subst i0
   refine Nat.lt_of_le_of_ne g fun z=>hn ?_
   rw[<- yc1,yad (by rw[ya0];omega)]
   exact congrArg some z.symm
  ·have g0:=h3 (ybp xs j) (yao _) (by omega)
   have:=h.lt (i:=ybp xs j) (j:=ybp xs j+i) (by omega) (by rw[ya0];omega)
   have e2:xs.toList.getD (ybp xs j+i) 0=xs.toList[ybp xs j+i]'(by rw[ya0];omega):=by
    rw[yal,yad (by rw[ya0];omega)];rfl
   omega
structure Tbl(b:Bool)(t:SetTable):Prop where
 led:t.led=b
 ris:Ris t.place.toList
 dum:t.dummies = #[]
theorem Tbl.fresh(b:Bool):Tbl b (.fresh 0 0 b):=⟨rfl,yk5,rfl⟩
theorem zmy(n:Nat):Ris (yae n):=ygc
theorem Tbl.standIn{b:Bool}{t:SetTable}(h:Tbl b t)(n:Nat):Tbl b (t.standIn n):=⟨h.led,by show Ris (Array.range n).toList;rw[Array.toList_range];exact zmy n,rfl⟩
theorem Tbl.orStandIn{b:Bool}{t:SetTable}(h:Tbl b t)(n:Nat):Tbl b (t.orStandIn n):=by
 unfold SetTable.orStandIn
 split
 ·exact h
 ·exact h.standIn n
theorem zjp{t:SetTable}(hd:t.dummies = #[])(f:Nat->Int)(h:Int):∀(n:Nat) (p:SetTable.Probe) (j:Nat) (d:Option Nat),p.dummy=none->yh1 t f h n p=some (.empty j d)->d=none/\t.place[ybp t.place j]?≠some j
 | 0,p,j,d,_,e=>by cases e
 | n+1,p,j,d,hp,e=>by
  unfold yh1 at e
  have adv:(t.advance p).dummy=none:=by
   unfold SetTable.advance
   split
   ·exact hp
   ·exact hp
  cases hs:t.slot p.j with
  | empty =>
   rw[hs]at e
   simp only[ygh,ymv]at e
   obtain⟨rfl,rfl⟩:=e
   refine⟨hp,fun z=>?_⟩
   unfold SetTable.slot at hs
   simp only[z,beq_self_eq_true,if_true]at hs
   cases hs
  | dummy =>
   exfalso
   unfold SetTable.slot at hs
   simp only[hd]at hs
   split at hs
   ·cases hs
   ·split at hs
    ·rename_i hh
     simp[yln]at hh
    ·cases hs
  | live i =>
   rw[hs]at e
   simp only at e
   split at e
   ·cases e
   ·exact zjp hd f h n _ j d adv e
theorem zxs{b:Bool}{t:SetTable}(T:Tbl b t)(es:Array (Int × Value))(h:Int)(x:Value):Tbl b (layNew t es h x).2.1:=by
 unfold layNew
 cases e:t.freeSlot h with
 | none=>exact T.standIn _
 | some p =>
  obtain⟨slot,wd⟩:=p
  refine Tbl.orStandIn ?_ _
  unfold SetTable.freeSlot SetTable.probe at e
  cases q:yh1 t (fun _=>h+1) h (10*SetTable.turns t.mask) (t.probeStart h) with
  | none=>rw[q]at e;cases e
  | some m =>
   rw[q]at e
   cases m with
   | candidate j i nx=>cases e
   | empty j d =>
    obtain⟨rfl,hne⟩:=zjp T.dum _ _ _ _ _ _ rfl q
    simp only[Option.getD_none,Option.isSome_none,ygh,yif]at e
    obtain⟨rfl,_⟩:=e
    refine⟨T.led,zro T.ris hne,?_⟩
    show(if yln t.dummies j=true then _ else t.dummies) = #[]
    rw[T.dum]
    rw[if_neg (by simp[yln])]
theorem zvg(o:Nat->Option Nat)(l:List Nat)(h:Ris l):Ris ((l.filterMap fun j=>(o j).map (j,·)).map (·.1)):=by
 have e:((l.filterMap fun j=>(o j).map (j,·)).map (·.1)).Sublist l:=by
  induction l with
  | nil=>exact List.Sublist.slnil
  | cons a l ih =>
   have ih:=ih (yeq.mp h).2
   rw[ye5]
   cases q:o a with
   | none=>simp only[q,Option.map_none];exact ih.cons a
   | some k=>simp only[q,yje,yb8];exact ih.cons_cons a
 exact List.Pairwise.sublist e h
theorem ztb{b:Bool}{t:SetTable}(T:Tbl b t)(es:Array (Int × Value))(n:Nat):Tbl b (relayAll t es n).2.1:=by
 unfold relayAll
 cases e:t.relaid (es.map (·.1)) n with
 | none=>exact T.standIn _
 | some p =>
  obtain⟨t',order⟩:=p
  simp only
  split
  ·unfold SetTable.relaid SetTable.laid at e
   cases q:SetTable.layClean (SetTable.sizeAbove n - 1) (es.map (·.1)) with
   | none=>rw[q]at e;cases e
   | some owner =>
    rw[q]at e
    simp only[Option.bind_eq_bind,Option.bind_some,Option.pure_def,ygh,yif]at e
    obtain⟨rfl,_⟩:=e
    refine⟨T.led,?_,rfl⟩
    show Ris (List.toArray _).toList
    exact zvg (fun j=>owner.getD j none) _ (zmy _)
  ·exact T.standIn _
end Sn
end L2
end
section
namespace L2
open PySem PySem.Spec PyProof.Rows
namespace Sn
def kOf(e:Int × Value):Int:=match e.2 with
 | .int k _=>k
 | _=>0
section
variable {P:yav}{w:World}{A:Around}{E:Value->yah->Prop}{s:yah}
theorem zmz{k:Int}{x:Value}(h:(intKind P w).is k x=true):∃ t,x = .int k t:=by
 have h:ye4 k x=true:=h
 cases x<;>simp[ye4]at h
 subst h
 exact⟨_,rfl⟩
theorem zk5(k:Int)(t:Tok):(intKind P w).is k (.int k t)=true:=by
 show ye4 k (.int k t)=true
 simp[ye4]
def At(P:yav)(w:World)(b:Bool)(h:Heap)(a:Addr)(L:List Int):Prop :=
 ∃ o es ep t,h.get? a=some o/\o.ExactSet/\o.data = .set es ep t/\ElemsOf (intKind P w) es.toList/\L=es.toList.map kOf/\L.Nodup/\es.size<scanBound/\t.fits es.size=true/\Tbl b t
theorem At.stay{b:Bool}{h h':Heap}{a:Addr}{L:List Int}(S:At P w b h a L)(k:∀ o,h.get? a=some o->h'.get? a=some o):At P w b h' a L:=by
 obtain⟨o,es,ep,t,e,r⟩:=S
 exact⟨o,es,ep,t,k o e,r⟩
theorem zqf{es:List (Int × Value)}(h:ElemsOf (intKind P w) es){e:Int × Value}(m:e∈es):∃ t,e=((intKind P w).hash (kOf e),.int (kOf e) t):=by
 obtain⟨⟨k,hk,hh⟩,_⟩:=h e m
 obtain⟨t,ht⟩:=zmz hk
 obtain⟨h0,x⟩:=e
 simp only at ht hh
 subst ht hh
 exact⟨t,rfl⟩
theorem ztc{es:List (Int × Value)}(h:ElemsOf (intKind P w) es){e:Int × Value}(m:e∈es)(k:Int):(intKind P w).is k e.2=true<->k=kOf e:=by
 obtain⟨t,q⟩:=zqf h m
 constructor
 ·intro z
  obtain⟨t',z⟩:=zmz z
  unfold kOf
  rw[z]
 ·intro z
  rw[z,q]
  exact zk5 _ _
theorem zvh{es:List (Int × Value)}(h:ElemsOf (intKind P w) es)(k:Int):k∈es.map kOf<->∃ e∈es,(intKind P w).is k e.2=true:=by
 rw[ya6]
 constructor
 ·rintro⟨e,m,z⟩
  exact⟨e,m,(ztc h m k).mpr z.symm⟩
 ·rintro⟨e,m,z⟩
  exact⟨e,m,((ztc h m k).mp z).symm⟩
theorem zop{b:Bool}{a:Addr}{o:Obj}{es es':Array (Int × Value)}{ep:Nat}{t t':SetTable}{Q:Unit->yah->Prop}(ho:s.heap.get? a=some o)(hx:o.ExactSet)(hd:o.data = .set es ep t)(h1:ElemsOf (intKind P w) es'.toList)(h2:(es'.toList.map kOf).Nodup)(h3:es'.size<scanBound)(h4:t'.fits es'.size=true)(h5:Tbl b t')(q:∀ h',ycc a s.heap h'->(∃ o',h'.get? a=some o'/\o'.ExactSet/\o'.data = .set es' (ep+1) t')->At P w b h' a (es'.toList.map kOf)->Q () { s with heap:=h' }) :
  wpAny (model P w) A (storeSet a es' t') Q E s:=by
 have g:(s.heap.update a (Obj.putSet es' t')).get? a=some { o with data:=.set es' (ep+1) t' }:=by
  rw[ycm (Obj.putSet es' t') ho (by rw[putSet_of es' t' hd];rfl),putSet_of es' t' hd]
 refine wpAny_storeSet_of ho hd (q _ (yhc _ _ _) ⟨_,g,hx,rfl⟩ ?_) (fits_of_scanBound h3)
 exact⟨_,es',ep+1,t',g,hx,rfl,h1,rfl,h2,h3,h4,h5⟩
theorem ztd{es:Array (Int × Value)}{es1:Array (Int × Value)}{v:Int}{tk:Tok}(p:es1.toList.Perm (es.push ((intKind P w).hash v,.int v tk)).toList):(es1.toList.map kOf).Perm (v::es.toList.map kOf):=by
 have:=p.map kOf
 rw[ygi,ya9]at this
 exact this.trans (List.perm_append_comm (l₁:=es.toList.map kOf) (l₂:=[v]))
theorem zzz{b:Bool}{a:Addr}{L:List Int}{v:Int}{tk:Tok}{Q:Bool->yah->Prop}(S:At P w b s.heap a L)(room:L.length+1<scanBound)(q:∀ h' L' r,ycc a s.heap h'->At P w b h' a L'->L'.Perm (if v∈L then L else v::L)->Q r { s with heap:=h' }) :
  wpAny (model P w) A (setAddHashed a (.int v tk) ((intKind P w).hash v)) Q E s:=by
 obtain⟨o,es,ep,t,ho,hx,hd,hel,rfl,hnd,hsz,hfit,T⟩:=S
 have hel':=hel
 rw[yab,ya0]at room
 have hs:(yf0 v tk).scannable=true:=rfl
 unfold setAddHashed setAddHashedIn
 refine yco ?_
 refine yaa ?_
 refine yez ho hd hfit ?_
 simp only[byScan_of hs hsz hel,if_true]
 refine yaa ?_
 unfold setAddByScan
 refine yaa ?_
 refine ygj ?_
 refine yaa ?_
 refine wpAny_setScan_of (knd:=intKind P w) (zk5 v tk) ho hd hfit hel ?_
 have gw:∀(c:Bool) {s1:yah} {R:Unit->yah->Prop},R () s1->wpAny (model P w) A (match c with | true=>rule "set.scan.the-table-gave-way" | false=>pure ()) R E s1:=by
  intro c s1 R r
  cases c
  ·exact yai r
  ·exact ygj r
 have hfm:(∃ j,es.toList.findIdx? (fun e=>(intKind P w).is v e.2)=some j)<->v∈es.toList.map kOf:=by
  rw[zvh hel]
  constructor
  ·rintro⟨j,e⟩
   obtain⟨hj,hp,_⟩:=List.findIdx?_eq_some_iff_getElem.mp e
   exact⟨_,ygu hj,hp⟩
  ·rintro⟨e,m,z⟩
   cases f:es.toList.findIdx? (fun e=>(intKind P w).is v e.2) with
   | some j=>exact⟨j,rfl⟩
   | none =>
    have:=List.findIdx?_eq_none_iff.mp f e m
    rw[z]at this
    cases this
 by_cases hv:v∈es.toList.map kOf
 ·obtain⟨j,e⟩:=hfm.mpr hv
  rw[e]
  refine yai ?_
  refine yai ?_
  have:=q s.heap (es.toList.map kOf) false (yk6 a s.heap) ⟨o,es,ep,t,ho,hx,hd,hel,rfl,hnd,hsz,hfit,T⟩ (by rw[if_pos hv])
  exact this
 ·have e:es.toList.findIdx? (fun e=>(intKind P w).is v e.2)=none:=by
   cases f:es.toList.findIdx? (fun e=>(intKind P w).is v e.2) with
   | none=>rfl
   | some j=>exact absurd (hfm.mp ⟨j,f⟩) hv
  rw[e]
  have hp:=layNew_perm t es ((intKind P w).hash v) (.int v tk)
  have hf:=layNew_fits t es ((intKind P w).hash v) (.int v tk)
  have hT:=zxs T es ((intKind P w).hash v) (.int v tk)
  generalize layNew t es ((intKind P w).hash v) (.int v tk)=z at hp hf hT ⊢
  obtain⟨es1,t1,wd,gv⟩:=z
  simp only at hp hf hT ⊢
  have pk:=ztd (P:=P) (w:=w) hp
  have hel1:ElemsOf (intKind P w) es1.toList:=by
   rw[ygi]at hp
   exact(hel.push (zk5 v tk) hs).perm hp
  have hn1:es1.size=es.size+1:=by
   have:=hp.length_eq
   rw[ya0,ya0,ymb]at this
   exact this
  have hnd1:(es1.toList.map kOf).Nodup:=pk.nodup_iff.mpr (ydy.mpr ⟨hv,hnd⟩)
  have tail:∀ t2:SetTable,t2.fits es1.size=true->Tbl b t2->wpAny (model P w) A (do
    storeSet a es1 t2
    if (!wd && t2.tooFull)=true then do
      (match (relayAll t2 es1 (ye9 es1.size)).2.2 with | true=>rule "set.scan.the-table-gave-way" | false=>pure ())
      storeSet a (relayAll t2 es1 (ye9 es1.size)).1 (relayAll t2 es1 (ye9 es1.size)).2.1
      pure (some true)
     else pure (some true)) (fun r s'=>wpAny (model P w) A (match r with | some added=>pure added | none=>setAddHashedIn a (.int v tk) ((intKind P w).hash v) 99999) Q E s') E s:=by
   intro t2 hf2 hT2
   refine yaa ?_
   refine zop ho hx hd hel1 hnd1 (by omega) hf2 hT2 fun h1 sb1 g1 S1=>?_
   by_cases full:(!wd && t2.tooFull)=true
   ·rw[if_pos full]
    have rp:=relayAll_perm t2 es1 (ye9 es1.size)
    have rf:=relayAll_fits t2 es1 (ye9 es1.size)
    have rT:=ztb hT2 es1 (ye9 es1.size)
    generalize relayAll t2 es1 (ye9 es1.size)=y at rp rf rT ⊢
    obtain⟨es2,t3,g2⟩:=y
    simp only at rp rf rT ⊢
    have hn2:es2.size=es1.size:=by
     have:=rp.length_eq
     rw[ya0,ya0]at this
     exact this
    refine yaa ?_
    refine gw _ ?_
    refine yaa ?_
    obtain⟨o1,a1,a2,a3⟩:=g1
    refine zop (b:=b) (s:={ s with heap:=h1 }) a1 a2 a3 (hel1.perm rp) ((rp.map kOf).nodup_iff.mpr hnd1) (by omega) rf rT fun h2 sb2 _ S2=>?_
    refine yai ?_
    refine yai ?_
    exact q h2 _ true (sb1.trans sb2) S2 (by rw[if_neg hv];exact(rp.map kOf).trans pk)
   ·rw[if_neg full]
    refine yai ?_
    refine yai ?_
    exact q h1 _ true sb1 S1 (by rw[if_neg hv];exact pk)
  refine yaa ?_
  refine gw _ ?_
  by_cases pl:t1.plain=true
  ·simp only[pl,if_true]
   rw[hashByValue_scannable 8 hs]
   refine yaa ?_
   refine yai ?_
   exact tail t1 hf hT
  ·simp only[pl,if_false]
   refine yaa ?_
   refine yai ?_
   exact tail t1 hf hT
end
end Sn
end L2
end
section
namespace L2
open PySem PySem.Spec PyProof.Rows
namespace Sn
def ledBy(w:World):Bool:=!(w.params.followText "set-order")
section
variable {P:yav}{w:World}{A:Around}{R:Result->yah->Prop}{I:Addr}{fp wr:List Addr}{G:Array GenState->Array GenState->Prop}{n:Nat}{Pi:Nat->Value->Prop}{St:Nat->yah->Prop}{b:Bool}
theorem zxt(W:WalksS P w A.in1 I fp wr G n Pi St)(S:Addr)(nf:S ∉ fp)(val:Nat->Int)(hv:∀ i v,Pi i v->∃ t,v = .int (val i) t)(small:n+1<scanBound) :
  ∀(k i:Nat) (s:yah) (L:List Int),n - i=k->i<=n->St i s->At P w b s.heap S L->L.length<=i ->
   (∀ s' L',Moved (S::wr) G s s'->At P w b s'.heap S L'->(∀ x,x∈L'<->x∈L\/∃ j,i<=j/\j<n/\val j=x)->R (.ok (.ret .none)) s') ->
   codeAny (model P w) A (.builtin "set.update.loop" ⟨[.ref S,.ref I],[]⟩) R s:=by
 have nw:S ∉ wr:=fun z=>nf (W.sub S z)
 have sub:∀ c∈wr,c∈S::wr:=fun c z=>yam S z
 intro k
 induction k with
 | zero =>
  intro i s L hk hi st hS hL hR
  obtain rfl:i=n:=by omega
  refine codeAny_builtin yik ?_
  rw[ydp yf4 _]
  refine yaa (m:=pyNext (.ref I)) ?_
  refine W.done s _ _ st fun s' mv=>?_
  refine yai ?_
  refine hR s' L (mv.mono sub) (hS.stay fun o e=>mv.heap S o nw e) fun x=>?_
  constructor
  ·exact .inl
  ·rintro (z | ⟨j,h1,h2,_⟩)
   ·exact z
   ·omega
 | succ k ih =>
  intro i s L hk hi st hS hL hR
  have lt:i<n:=by omega
  refine codeAny_builtin yik ?_
  rw[ydp yf4 _]
  refine yaa (m:=pyNext (.ref I)) ?_
  refine W.item i s _ _ lt st fun v s' pv st' mv=>?_
  obtain⟨tk,rfl⟩:=hv i v pv
  have hS1:At P w b s'.heap S L:=hS.stay fun o e=>mv.heap S o nw e
  refine yaa (m:=holding [yf0 (val i) tk] (setAdd S (.int (val i) tk))) ?_
  refine yco ?_
  unfold setAdd
  refine yco ?_
  refine yaa ?_
  refine(intKind P w).pyHash (k:=val i) (zk5 _ _) ?_
  refine zzz (s:={ s' with toks:=s'.toks+1 }) hS1 (by omega) fun h' L' r sb S2 pm=>?_
  refine yai ?_
  have l2:L'.length<=i+1:=by
   rw[pm.length_eq]
   split
   ·omega
   ·simp only[ybx];omega
  refine⟨plainId_quiet yf4 _,ih (i+1) _ L' (by omega) lt (W.frame _ s' _ _ st' (yid _) fun c hc o e=>?_) S2 l2 fun s2 L2 m2 S3 q3=>?_⟩
  ·rw[sb.2 c (fun z=>nf (z ▸ hc))]
   exact e
  ·refine hR s2 L2 (Moved.trans W.gtrans ((mv.mono sub).then_heap (yid _) fun c o hc e=>?_) m2) S3 fun x=>?_
   ·rw[sb.2 c (fun z=>hc (by rw[z];exact yaq))]
    exact e
   ·rw[q3 x,pm.mem_iff]
    by_cases hx:val i∈L
    ·rw[if_pos hx]
     constructor
     ·rintro (z | ⟨j,h1,h2,h3⟩)
      ·exact .inl z
      ·exact .inr ⟨j,by omega,h2,h3⟩
     ·rintro (z | ⟨j,h1,h2,h3⟩)
      ·exact .inl z
      ·by_cases ej:j=i
       ·subst ej;rw[<- h3];exact .inl hx
       ·exact .inr ⟨j,by omega,h2,h3⟩
    ·rw[if_neg hx,yap]
     constructor
     ·rintro ((z | z) | ⟨j,h1,h2,h3⟩)
      ·exact .inr ⟨i,yao _,lt,z.symm⟩
      ·exact .inl z
      ·exact .inr ⟨j,by omega,h2,h3⟩
     ·rintro (z | ⟨j,h1,h2,h3⟩)
      ·exact .inl (.inr z)
      ·by_cases ej:j=i
       ·subst ej;exact .inl (.inl h3.symm)
       ·exact .inr ⟨j,by omega,h2,h3⟩
end
section
variable {P:yav}{w:World}{A:Around}{E:Value->yah->Prop}{s:yah}
def zc0(w:World):Obj:={ cls:=.type "set",dict:=none,data:=.set #[] 0 (.fresh 0 0 (ledBy w)) }
theorem zvi{h:Heap}{a:Addr}(e:h.get? a=some (zc0 w)):At P w (ledBy w) h a [] :=
 ⟨_,#[],0,_,e,⟨rfl,rfl,rfl⟩,rfl,(fun _ z=>nomatch z),rfl,yhr,by decide,rfl,Tbl.fresh _⟩
theorem zxu(x:Value){Q:Value->yah->Prop}(h:Q (.ref s.heap.objs.size) { s with heap:=s.heap.push (zc0 w) }) :
  codeAny (model P w) A (.call (.builtin "set.__new__") ⟨[.type "set",x],[]⟩) (wants Q E) s:=by
 refine codeAny_of_tree ?_
 refine yaa (m:=checkBuiltinCall "set.__new__" ⟨[.type "set",x],[]⟩) ?_
 refine wpAny_of_eq (F.newCall_set_1 x) ?_
 refine yai ⟨plainId_quiet F.plain_set_new _,codeAny_builtin F.entry_set_new ?_⟩
 rw[ydp F.plain_set_new _]
 unfold Builtin.«set.__new__» ymj
 have hsub:=sub_set_self
 obtain⟨hp,g,d,tk,os⟩:=s
 dsimp only
 wp_walk
 refine yit ?_
 refine yai ?_
 dsimp only
 simp only[newObj]
 refine yaa ?_
 refine yl6 ?_
 refine yai ?_
 exact yai h
end
end Sn
end L2
end
section
namespace L2
open PySem PySem.Spec PyProof.Rows
namespace Sn
section
variable {P:yav}{w:World}{A:Around}{E:Value->yah->Prop}{s:yah}
set_option maxHeartbeats 3200000 in
theorem zxv{l:Addr}{xs:Array Value}{ns:List Int}{Q:Value->yah->Prop}(hh:A.handled=none)(hl:s.heap.IsList l xs)(hi:IntsAre xs.toList ns)(small:xs.size+1<scanBound)(h:∀ h' tk L,At P w (ledBy w) h' s.heap.objs.size L->(∀ x,x∈L<->∃ j,j<xs.size/\ns.getD j 0=x)->(∀ c o,s.heap.get? c=some o->h'.get? c=some o)->Q (.ref s.heap.objs.size) { s with heap:=h',toks:=tk }) :
  wpAny (model P w) A (call (.type "set") [.ref l]) Q E s:=by
 obtain⟨mc,ml,mro⟩:=F.called_set.mro
 have made:=F.called_set.made
 have sub:=F.called_set.sub
 have k1:=F.called_set.notType
 have k2:=F.called_set.canCreate
 have k3:=F.typeCall_set_1 (.ref l)
 refine ykz ?_
 refine codeAny_of_tree ?_
 show wpAny _ _ (callAny (.type "set") _) _ _ _
 refine yai ⟨Code.quiet_builtin _ (by decide +kernel),codeAny_builtin F.entry_type_call ?_⟩
 rw[Around.under_plain (weight_type_call_type "set" [.ref l] []) rfl]
 repeat (any_goals (first | assumption | wp_step))
 have e0:(s.heap.push (zc0 w)).get? s.heap.objs.size=some (zc0 w):=yaw _ rfl
 refine codeAny_mono (zxu (.ref l) (E:=E) (Q:=fun o s1=>o = .ref s.heap.objs.size/\s1={ s with heap:=s.heap.push (zc0 w) }) ⟨rfl,rfl⟩) fun r s1 hr=>?_
 cases r with
 | error e=>exact hr
 | ok fl =>
  cases fl with
  | ret obj =>
   obtain⟨rfl,rfl⟩:=hr
   have ty:Shared.TypeIs { s with heap:=s.heap.push (zc0 w) } (.ref s.heap.objs.size) "set" := ⟨_,e0,rfl⟩
   have i1:=F.called_set.init.lookup
   have i2:=F.called_set.init.bind (.ref s.heap.objs.size)
   repeat (any_goals (first | assumption | wp_step))
   refine codeAny_mono (codeAny_call_builtin (R:=wants (fun r s2=>r = .none/\∃ h' tk L,s2={ s with heap:=h',toks:=tk }/\At P w (ledBy w) h' s.heap.objs.size L/\(∀ x,x∈L<->∃ j,j<xs.size/\ns.getD j 0=x)/\(∀ c o,s.heap.get? c=some o->h'.get? c=some o)) E)
    F.called_set.init.plain F.entry_set_init (check_set_init_1 ty ?_)) fun r2 s2 hr2=>?_
   ·have hl1:(s.heap.push (zc0 w)).IsList l xs:=hl.push _
    obtain⟨ol,gl,cl,nl,dl⟩:=id hl1
    have lt:l<s.heap.objs.size:=by obtain⟨o,e,_⟩:=hl;exact yar e
    obtain⟨ocls,odict,odata,oslots⟩:=ol
    simp only at cl dl
    subst cl dl
    have t1:=F.sub_list_set
    have t2:=F.sub_list_frozenset
    have t3:(ydc "list" == ydc "dict")=false:=by decide
    unfold Builtin.«set.__init__» noKeywords yl2
    generalize hPI:pyIter=PI
    wp_walk
    subst hPI
    refine yge hl1 ?_
    refine yaa ?_
    refine wpAny_runValue ?_
    have h3:A.in1.in1.in1.handled=none:=by simp[hh]
    have sz:(s.heap.push (zc0 w)).objs.size=s.heap.objs.size+1:=ybe ..
    have ne:l≠(s.heap.push (zc0 w)).objs.size:=by rw[sz];exact yba (yeb lt)
    have nf:s.heap.objs.size ∉ [(s.heap.push (zc0 w)).objs.size,l]:=by
     intro z
     rcases yap.mp z with z | z
     ·rw[sz]at z;exact absurd z (yba (ydz _))
     ·exact absurd (ya4.mp z) (yb2 lt)
    refine zxt (b:=ledBy w) ((Walks.list h3 _ l ne xs).toS) s.heap.objs.size nf (fun i=>ns.getD i 0) (fun i v hv=>IntsAre.int_at hi i v (by rw[yc1];exact hv)) small (xs.size - 0) 0 _ [] (by omega) (ybj _)
     ⟨⟨_,yaw _ rfl,rfl,rfl⟩,hl1.push _⟩ (zvi (yak _ e0)) (yao _) fun s' L' mv S' q=>?_
    obtain⟨h',g',d',tk',os'⟩:=s'
    obtain rfl:g'=s.gens:=mv.gens
    obtain rfl:d'=s.drawn:=mv.drawn
    obtain rfl:os'=s.os:=mv.os
    refine yai ?_
    refine yai ?_
    refine⟨rfl,h',tk',L',rfl,S',fun x=>?_,fun c o e=>?_⟩
    ·rw[q x]
     constructor
     ·rintro (z | ⟨j,_,h2,h3⟩)
      ·exact nomatch z
      ·exact⟨j,h2,h3⟩
     ·rintro⟨j,h2,h3⟩
      exact .inr ⟨j,ybj _,h2,h3⟩
    ·have lc:=yar e
     refine mv.heap c o ?_ (yak _ (yak _ e))
     intro z
     rcases yap.mp z with z | z
     ·exact absurd z (yba lc)
     ·rw[ya4.mp z,sz]at lc;exact absurd lc (ymw.mpr (yid _))
   ·cases r2 with
    | error e=>exact hr2
    | ok f2 =>
     cases f2 with
     | ret r =>
      obtain⟨rfl,h',tk,L,rfl,S',q,k'⟩:=hr2
      repeat (any_goals (first | assumption | wp_step))
      exact h _ _ _ S' q k'
     | _=>exact hr2.elim
  | _=>exact hr.elim
end
end Sn
def SPhi(P:yav)(w:World)(a:Addr)(L:List Int)(h:Heap):Prop:=Sn.At P w (Sn.ledBy w) h a L
def oset(P:yav)(w:World)(a:Addr)(L:List Int):HO:=.ext (SPhi P w a L)
theorem zxw{P:yav}{w:World}{a:Addr}{L:List Int}{H:Hp}{h:Heap}(p:SPhi P w a L h):ObjOk P w H h a (oset P w a L) :=
 ⟨p,(let ⟨o,_,_,_,e,_⟩:=p;⟨o,e⟩),fun h1 h2 p1 k=>p1.stay k⟩
theorem zvj{X:Cx}(hc:X.calm=true):CallR X (.type "set") (fun xs H Q=>∃(p:Addr) (ns:List Int),xs=[.ref p]/\SqL X.K H p (ns.map V.int)/\ns.length+1<scanBound/\∀ a L,H a=none->L.Nodup->(∀ x,x∈L<->x∈ns)->Q (.ref a) (upd H a (oset X.prog X.w a L))):=by
 intro pins s σ H xs us Q I r h
 obtain⟨p,ns,rfl,hq,small,q⟩:=h
 obtain⟨u,rfl,rx⟩:=vals1 r
 cases rx
 obtain⟨its,rv,pl,hz⟩:=I.list hq
 have hi:=rv.ints
 have hlen:=hi.length
 refine Sn.zxv (I.ok.hd hc) pl.isList (by simpa using hi) (by simp only[ya3];omega) fun h' tk L S' qm k'=>?_
 have fr:=I.hok.fresh (yao s.heap.objs.size)
 refine⟨.ref s.heap.objs.size,_,I.laid (t':=tk) k' (yao _) (zxw S'),rfl,q _ L fr ?_ fun x=>?_⟩
 ·obtain⟨_,_,_,_,_,_,_,_,_,nd,_⟩:=S'
  exact nd
 ·rw[qm x,List.mem_iff_getElem?]
  simp only[ya3]
  constructor
  ·rintro⟨j,hj,e⟩
   exact⟨j,by rw[<- e,yal,yad (by omega)];rfl⟩
  ·rintro⟨j,e⟩
   obtain⟨hj,e'⟩:=yag.mp e
   exact⟨j,by omega,by rw[yal,e];rfl⟩
end L2
end
section
namespace L2
open PySem PySem.Spec PyProof.Rows
namespace Sn
theorem zk6{α:Type}{l:List α}{i:Nat}{x:α}(h:l[i]?=some x):(x::l.eraseIdx i).Perm l:=by
 induction l generalizing i with
 | nil=>simp at h
 | cons a l ih =>
  cases i with
  | zero =>
   simp at h
   subst h
   exact yjw _
  | succ i =>
   have:=ih (i:=i) (by simpa using h)
   exact(List.Perm.swap a x _).trans (this.cons a)
theorem zm0{α:Type}(next:Nat->Nat):∀(n k:Nat) (left:List α) (out:Array α),left.length=n->(pickOrder.go next n k left out).toList.Perm (out.toList++left)
 | 0,k,left,out,h=>by
  have:left=[]:=ye6.mp h
  subst this
  unfold pickOrder.go
  simp
 | n+1,k,left,out,h=>by
  unfold pickOrder.go
  have hlt:next k % left.length<left.length:=ymx _ (by omega)
  rw[yad hlt]
  have p1:=zm0 next n (k+1) (left.eraseIdx (next k % left.length)) (out.push left[next k % left.length]) (by rw[yhj hlt];omega)
  refine p1.trans ?_
  rw[ygi,ybv]
  refine List.Perm.append_left _ ?_
  exact zk6 (yad hlt)
theorem zoq{α:Type}(next:Nat->Nat)(xs:Array α):(pickOrder next xs).toList.Perm xs.toList:=by
 have:=zm0 next xs.size 0 xs.toList #[] (ya0 ..)
 unfold pickOrder
 simpa using this
section
variable {P:yav}{w:World}{A:Around}{E:Value->yah->Prop}{s:yah}
theorem zrp{n:Nat}(hn:n≠0){Q:Nat->yah->Prop}(q:∀ i d,i<n->Q i { s with drawn:=d }):wpAny (model P w) A (choose .order n) Q E s:=fun Γ p hΓ=>⟨hn,q _ _ (ymx _ (by omega))⟩
theorem zor{α:Type}:∀(n:Nat) (l:List α) (s:yah) {Q:List α->yah->Prop},l.length=n->(∀ l' d,l'.Perm l->Q l' { s with drawn:=d })->wpAny (model P w) A (drawOrder n l) Q E s
 | 0,l,s,Q,h,q=>by
  have:l=[]:=ye6.mp h
  subst this
  unfold drawOrder
  exact yai (q [] s.drawn (yjw _))
 | n+1,l,s,Q,h,q=>by
  match l,h,q with
  | [],h,_=>cases h
  | a::r,h,q =>
   unfold drawOrder
   refine yaa ?_
   refine zrp (by simp) fun i d hlt=>?_
   have e:(a::r)[i]?=some (a::r)[i]:=yad hlt
   rw[e]
   refine yaa ?_
   refine zor n ((a::r).eraseIdx i) _ (by rw[yhj hlt];simp at h ⊢;omega) fun l' d pm=>?_
   refine yai ?_
   exact q _ d ((pm.cons _).trans (zk6 e))
def SI(h:Heap)(I:Addr)(first:Value)(i:Nat)(S:Addr)(n ep:Nat):Prop :=
 h.get? I=some { cls:=.type "set_iterator",dict:=none,data:=.fields #[first,rawInt i,.ref S,rawInt n,rawInt ep],slots:=#[] }
theorem sl_next:Slot "set_iterator" "__next__" "set_iterator.__next__" := .of (owner := "set_iterator") (n := "__next__") (by rw[typeLookup_type,builtinLookup_eq_fast];kernel_rfl) (by decide +kernel) (by decide +kernel) (by decide +kernel)
 (by first | exact .inl (by decide +kernel) | exact .inr (by decide +kernel)) (by rw[yjx];kernel_rfl)
theorem zjc:entryFor table "set_iterator.__next__" = some Builtin.«set_iterator.__next__» := entryFor_of_tree (by kernel_rfl)
theorem zjd(a:Value):argsOk "set_iterator.__next__" ⟨[a],[]⟩:=by unfold argsOk;kernel_rfl
theorem zqg:Slot "set_iterator" "__iter__" "set_iterator.__iter__" := .of (owner := "set_iterator") (n := "__iter__") (by rw[typeLookup_type,builtinLookup_eq_fast];kernel_rfl) (by decide +kernel) (by decide +kernel) (by decide +kernel)
 (by first | exact .inl (by decide +kernel) | exact .inr (by decide +kernel)) (by rw[yjx];kernel_rfl)
theorem zxx:entryFor table "set_iterator.__iter__" = some Builtin.«dict_keyiterator.__iter__» := entryFor_alias (id' := "dict_keyiterator.__iter__") (by kernel_rfl) rfl (by decide +kernel) (by kernel_rfl)
theorem zxy(a:Value):argsOk "set_iterator.__iter__" ⟨[a],[]⟩:=by unfold argsOk;kernel_rfl
theorem zxz:entryFor table "set.__iter__" = some Builtin.«frozenset.__iter__» := entryFor_alias (id' := "frozenset.__iter__") (by kernel_rfl) rfl (by decide +kernel) (by kernel_rfl)
theorem zg8{I:Addr}{f:Value}{i:Nat}{S:Addr}{n ep:Nat}(h:SI s.heap I f i S n ep):s.TypeIs (.ref I) "set_iterator" := ⟨_,h,rfl⟩
theorem zx0(a:Addr):setWalk a=(do
 let (es,epoch,t) <- setState a
 if <- setsByText then return pickOrder ((<- ask).params.setOrder a epoch) es
 if !t.plain && es.size > 1 then return (<- drawOrder es.size es.toList).toArray
 (do if !t.led && es.size > 1 then unsupported "set:maker-not-led" : Sem Unit)
 return es):=rfl
theorem zqh(a:Addr)(slot given epochThen:Nat):setNext a slot given epochThen=(do
 let (es,epoch,t) <- setState a
 if <- setsByText then
  if epoch != epochThen then unsupported "set_iterator.__next__:elements-changed"
  return ((<- setWalk a)[given]?).map fun e=>(e.2,slot)
 if !t.plain && es.size > 1 then unsupported "set_iterator.__next__:the-table-is-plain-no-more"
 (do if !t.led && !es.isEmpty then unsupported "set:maker-not-led" : Sem Unit)
 let i:=ybp t.place slot
 return match es[i]?,t.place[i]? with
  | some (_,x),some j=>some (x,j+1)
  | _,_=>none):=rfl
theorem zvk(a:Addr):setDrawn a=(do
 let (es,_,t) <- setState a
 let byText <- setsByText
 return !byText && (!t.plain && es.size > 1)):=rfl
end
end Sn
end L2
end
section
namespace L2
open PySem PySem.Spec PyProof.Rows
namespace Sn
section
variable {P:yav}{w:World}{A:Around}{E:Value->yah->Prop}{s:yah}{I S:Addr}{o:Obj}{es:Array (Int × Value)}{ep:Nat}{t:SetTable}{i:Nat}
theorem zil{B:Around}(hh:B.handled=none){α:Type}{Q:α->yah->Prop}{E':Value->yah->Prop}(q:∀ h' a,(∀ c u,s.heap.get? c=some u->h'.get? c=some u)->(∃ u,h'.get? a=some u/\u.cls = .type "StopIteration")->E' (.ref a) { s with heap:=h' }) :
  wpAny (model P w) B (do raiseNew (<- newExc (.type "StopIteration") []):Sem α) Q E' s:=by
 refine yaa ?_
 simp only[newExc,newTuple]
 refine yaa (yfq ?_ (by size_fits))
 refine yaa (m:=firstArgMember _ _) (wpAny_of_eq (a:=ydn) (by first | rfl | (simp only[firstArgMember];rfl)) ?_)
 refine yfq ?_ (by size_fits)
 simp only[raiseNew]
 refine yaa ?_
 refine wpAny_handled ?_
 rw[hh]
 refine wpAny_throw ?_
 exact q _ _ (fun c u e=>yak _ (yak _ e)) ⟨_,yaw _ rfl,rfl⟩
theorem nx_item{slot nx:Nat}{x:Value}{Q:Option Value->yah->Prop}(hit:SI s.heap I (rawInt slot) i S es.size ep)(ho:s.heap.get? S=some o)(hd:o.data = .set es ep t)(hf:t.fits es.size=true)(hn:∀(Q':Option (Value × Nat)->yah->Prop) E',Q' (some (x,nx)) s->wpAny (model P w) A.in1 (setNext S slot i ep) Q' E' s)(q:∀ h',SI h' I (rawInt nx) (i+1) S es.size ep->ycc I s.heap h'->Q (some x) { s with heap:=h' }):wpAny (model P w) A (pyNext (.ref I)) Q E s:=by
 have ty:=zg8 hit
 unfold pyNext
 refine yaa ?_
 refine yd4 ?_
 refine ybl (name:=yc6 "__next__") ty sl_next ?_
 refine yb6 sl_next ty zjc ?_ (zjd _)
 unfold Builtin.«set_iterator.__next__»
 refine yaa (m:=slotArgs "__next__" 0 _) (yai ?_)
 refine yaa (yhv hit rfl ?_)
 show wpAny _ _ (setEntries S >>= _) _ _ _
 refine yaa (ye7 ho hd hf ?_)
 rw[if_neg (by simp)]
 show wpAny _ _ (setNext S ((slot:Nat):Int).toNat ((i:Nat):Int).toNat ((ep:Nat):Int).toNat >>= _) _ _ _
 simp only[yan]
 refine yaa (hn _ _ ?_)
 refine yaa ?_
 refine ybo hit (by simp) fun h1 e1 b1=>?_
 refine yaa ?_
 refine ybo e1 (by simp) fun h2 e2 b2=>?_
 refine yai ?_
 refine⟨_,rfl,?_⟩
 refine yai ?_
 exact q h2 e2 (b1.trans b2)
theorem zqi{slot:Nat}{Q:Option Value->yah->Prop}(hh:A.handled=none)(hit:SI s.heap I (rawInt slot) i S es.size ep)(ho:s.heap.get? S=some o)(hd:o.data = .set es ep t)(hf:t.fits es.size=true)(hn:∀(Q':Option (Value × Nat)->yah->Prop) E',Q' none s->wpAny (model P w) A.in1 (setNext S slot i ep) Q' E' s)(q:∀ h',(∀ c u,c≠I->s.heap.get? c=some u->h'.get? c=some u)->Q none { s with heap:=h' }):wpAny (model P w) A (pyNext (.ref I)) Q E s:=by
 have ty:=zg8 hit
 unfold pyNext
 refine yaa ?_
 refine yd4 ?_
 refine ybl (name:=yc6 "__next__") ty sl_next ?_
 refine yb6 sl_next ty zjc ?_ (zjd _)
 unfold Builtin.«set_iterator.__next__»
 refine yaa (m:=slotArgs "__next__" 0 _) (yai ?_)
 refine yaa (yhv hit rfl ?_)
 show wpAny _ _ (setEntries S >>= _) _ _ _
 refine yaa (ye7 ho hd hf ?_)
 rw[if_neg (by simp)]
 show wpAny _ _ (setNext S ((slot:Nat):Int).toNat ((i:Nat):Int).toNat ((ep:Nat):Int).toNat >>= _) _ _ _
 simp only[yan]
 refine yaa (hn _ _ ?_)
 refine yaa ?_
 refine ybo hit (by simp) fun h1 e1 b1=>?_
 refine zil (s:={ s with heap:=h1 }) (show A.in1.handled=none from hh) fun h' a k ha=>?_
 obtain⟨u,ea,ec⟩:=ha
 refine yaa ?_
 refine yd1 (T := "StopIteration") (b:=true) ⟨u,ea,ec⟩ ygo ?_
 refine yai ?_
 exact q h' fun c u hc e=>k c u (by rw[b1.2 c hc];exact e)
theorem zx1{T:Addr}{ps:Array Value}{pl:Nat}{x:Int × Value}{Q:Option Value->yah->Prop}(hit:SI s.heap I (.ref T) i S es.size ep)(hT:s.heap.get? T=some { cls:=.type "tuple",dict:=none,data:=.seq ps,slots:=#[] })(ho:s.heap.get? S=some o)(hd:o.data = .set es ep t)(hf:t.fits es.size=true)(hp:ps[i]?=some (rawInt pl))(hx:es[pl]?=some x)(q:∀ h',SI h' I (.ref T) (i+1) S es.size ep->ycc I s.heap h'->Q (some x.2) { s with heap:=h' }):wpAny (model P w) A (pyNext (.ref I)) Q E s:=by
 have ty:=zg8 hit
 unfold pyNext
 refine yaa ?_
 refine yd4 ?_
 refine ybl (name:=yc6 "__next__") ty sl_next ?_
 refine yb6 sl_next ty zjc ?_ (zjd _)
 unfold Builtin.«set_iterator.__next__»
 refine yaa (m:=slotArgs "__next__" 0 _) (yai ?_)
 refine yaa (yhv hit rfl ?_)
 show wpAny _ _ (setEntries S >>= _) _ _ _
 refine yaa (ye7 ho hd hf ?_)
 rw[if_neg (by simp)]
 show wpAny _ _ (seqItems? (.ref T) >>= _) _ _ _
 refine yaa ?_
 unfold seqItems?
 refine yaa (ykx hT ?_)
 refine yai ?_
 show wpAny _ _ (match ps[((i:Nat):Int).toNat]? with | some (.int place _)=>_ | some _=>_ | none=>_) _ _ _
 simp only[yan,hp]
 show wpAny _ _ (setNextDrawn S ((pl:Nat):Int).toNat ((ep:Nat):Int).toNat >>= _) _ _ _
 simp only[yan]
 refine yaa ?_
 unfold setNextDrawn
 refine yaa (yez ho hd hf ?_)
 simp only[bne_self_eq_false,yb4,if_false,hx]
 refine yai ?_
 refine yaa ?_
 refine ybo hit (by simp) fun h1 e1 b1=>?_
 refine yai ?_
 refine⟨_,rfl,?_⟩
 refine yai ?_
 exact q h1 e1 b1
theorem zx2{T:Addr}{ps:Array Value}{Q:Option Value->yah->Prop}(hh:A.handled=none)(hit:SI s.heap I (.ref T) i S es.size ep)(hT:s.heap.get? T=some { cls:=.type "tuple",dict:=none,data:=.seq ps,slots:=#[] })(ho:s.heap.get? S=some o)(hd:o.data = .set es ep t)(hf:t.fits es.size=true)(hp:ps[i]?=none)(q:∀ h',(∀ c u,c≠I->s.heap.get? c=some u->h'.get? c=some u)->Q none { s with heap:=h' }):wpAny (model P w) A (pyNext (.ref I)) Q E s:=by
 have ty:=zg8 hit
 unfold pyNext
 refine yaa ?_
 refine yd4 ?_
 refine ybl (name:=yc6 "__next__") ty sl_next ?_
 refine yb6 sl_next ty zjc ?_ (zjd _)
 unfold Builtin.«set_iterator.__next__»
 refine yaa (m:=slotArgs "__next__" 0 _) (yai ?_)
 refine yaa (yhv hit rfl ?_)
 show wpAny _ _ (setEntries S >>= _) _ _ _
 refine yaa (ye7 ho hd hf ?_)
 rw[if_neg (by simp)]
 show wpAny _ _ (seqItems? (.ref T) >>= _) _ _ _
 refine yaa ?_
 unfold seqItems?
 refine yaa (ykx hT ?_)
 refine yai ?_
 show wpAny _ _ (match ps[((i:Nat):Int).toNat]? with | some (.int place _)=>_ | some _=>_ | none=>_) _ _ _
 simp only[yan,hp]
 refine yaa ?_
 refine ybo hit (by simp) fun h1 e1 b1=>?_
 refine yaa ?_
 refine ybo e1 (by simp) fun h2 e2 b2=>?_
 refine zil (s:={ s with heap:=h2 }) (show A.in1.handled=none from hh) fun h' a k ha=>?_
 obtain⟨u,ea,ec⟩:=ha
 refine yaa ?_
 refine yd1 (T := "StopIteration") (b:=true) ⟨u,ea,ec⟩ ygo ?_
 refine yai ?_
 exact q h' fun c u hc e=>k c u (by rw[b2.2 c hc,b1.2 c hc];exact e)
end
end Sn
end L2
end
section
namespace L2
open PySem PySem.Spec PyProof.Rows
namespace Sn
section
variable {P:yav}{w:World}{A:Around}{E:Value->yah->Prop}{s:yah}{I S:Addr}{o:Obj}{es:Array (Int × Value)}{ep:Nat}{t:SetTable}{i:Nat}
theorem zje{Q:Bool->yah->Prop}(q:Q (w.params.followText "set-order") s):wpAny (model P w) A setsByText Q E s:=by
 unfold setsByText
 refine yaa ?_
 refine yit ?_
 exact yai q
theorem zqj{slot:Nat}(hw:w.params.followText "set-order" = true)(ho:s.heap.get? S=some o)(hd:o.data = .set es ep t)(hf:t.fits es.size=true){Q:Option (Value × Nat)->yah->Prop}(q:Q (((pickOrder (w.params.setOrder S ep) es)[i]?).map fun e=>(e.2,slot)) s):wpAny (model P w) A (setNext S slot i ep) Q E s:=by
 rw[zqh]
 refine yaa ?_
 refine yez ho hd hf ?_
 refine yaa ?_
 refine zje ?_
 rw[if_pos hw]
 rw[if_neg (by simp)]
 refine yaa ?_
 rw[zx0]
 refine yaa ?_
 refine yez ho hd hf ?_
 refine yaa ?_
 refine zje ?_
 rw[if_pos hw]
 refine yaa ?_
 refine yit ?_
 refine yai ?_
 exact yai q
theorem zos{slot:Nat}(hw:w.params.followText "set-order" = false)(hp:(!t.plain && decide (es.size > 1))=false)(hl:t.led=true)(ho:s.heap.get? S=some o)(hd:o.data = .set es ep t)(hf:t.fits es.size=true){Q:Option (Value × Nat)->yah->Prop}(q:Q (match es[ybp t.place slot]?,t.place[ybp t.place slot]? with | some (_,x),some j=>some (x,j+1) | _,_=>none) s):wpAny (model P w) A (setNext S slot i ep) Q E s:=by
 rw[zqh]
 refine yaa ?_
 refine yez ho hd hf ?_
 refine yaa ?_
 refine zje ?_
 rw[hw,if_neg (by decide)]
 simp only[hp,hl,yf3,yml,yb4,if_false]
 refine yaa ?_
 refine yai ?_
 exact yai q
theorem zvl{xs:Array Nat}(h:Ris xs.toList){i j:Nat}(hi:i<=xs.size)(h1:∀ k,k<i->xs.toList.getD k 0<j)(h2:∀ k,i<=k->k<xs.size->j<=xs.toList.getD k 0):ybp xs j=i:=by
 obtain⟨a,b,c⟩:=zk4 h j
 rcases yk2 (ybp xs j) i with z | z | z
 ·have:=h1 _ z
  have:=c _ (yao _) (by omega)
  omega
 ·exact z
 ·have:=b _ z
  have:=h2 _ (yao _) (by omega)
  omega
def zf9(t:SetTable)(i:Nat):Nat:=if i=0 then 0 else t.place.toList.getD (i - 1) 0+1
theorem zk7{b:Bool}(T:Tbl b t){i:Nat}(hi:i<=t.place.size):ybp t.place (zf9 t i)=i:=by
 refine zvl T.ris hi (fun k hk=>?_) fun k hk hs=>?_
 ·unfold zf9
  rw[if_neg (by omega)]
  by_cases e:k=i - 1
  ·rw[e];omega
  ·have:=T.ris.lt (i:=k) (j:=i - 1) (by omega) (by rw[ya0];omega)
   omega
 ·unfold zf9
  by_cases e:i=0
  ·rw[if_pos e];omega
  ·rw[if_neg e]
   have:=T.ris.lt (i:=i - 1) (j:=k) (by omega) (by rw[ya0];omega)
   omega
theorem zvm(first:Nat->Value)(vals:List Value)(fp:List Addr)(Ex:Heap->Prop)(hI:I≠S)(hfr:∀ h h',Ex h->(∀ c∈fp,∀ u,h.get? c=some u->h'.get? c=some u)->Ex h')(hIf:I ∉ fp)(hlen:vals.length=es.size)(item:∀ i x (s:yah) (Q:Option Value->yah->Prop) (E:Value->yah->Prop),vals[i]?=some x->SI s.heap I (first i) i S es.size ep->s.heap.get? S=some o->Ex s.heap->(∀ h',SI h' I (first (i+1)) (i+1) S es.size ep->ycc I s.heap h'->Q (some x) { s with heap:=h' })->wpAny (model P w) A (pyNext (.ref I)) Q E s)(done:∀(s:yah) (Q:Option Value->yah->Prop) (E:Value->yah->Prop),SI s.heap I (first es.size) es.size S es.size ep->s.heap.get? S=some o->Ex s.heap->(∀ h',(∀ c u,c≠I->s.heap.get? c=some u->h'.get? c=some u)->Q none { s with heap:=h' })->wpAny (model P w) A (pyNext (.ref I)) Q E s) :
  Walks P w A I (I::S::fp) [I] es.size (fun i v=>vals[i]?=some v) (fun i h=>SI h I (first i) i S es.size ep/\h.get? S=some o/\Ex h) where
 sub:=fun c hc=>by rw[ya4.mp hc];exact yaq
 frame:=fun i h h' st k=>⟨k I (by simp) _ st.1,k S (by simp) _ st.2.1,hfr h h' st.2.2 fun c hc u e=>k c (by simp[hc]) u e⟩
 item:=fun i s Q E hi st hQ=>by
  have hv:vals[i]?=some (vals[i]'(by omega)):=yad (by omega)
  refine item i _ s Q E hv st.1 st.2.1 st.2.2 fun h' e1 sb=>?_
  refine hQ _ h' s.toks hv ⟨e1,by rw[sb.2 S (yee hI)];exact st.2.1,hfr _ h' st.2.2 fun c hc u e=>by rw[sb.2 c (fun z=>hIf (z ▸ hc))];exact e⟩ fun c u hc e=>?_
  rw[sb.2 c (fun z=>hc (by simp[z]))]
  exact e
 done:=fun s Q E st hQ=>done s Q E st.1 st.2.1 st.2.2 fun h' k=>hQ h' s.toks fun c u hc e=>k c u (fun z=>hc (by simp[z])) e
 self:=fun i s Q E st hQ=>by
  have ty:=zg8 st.1
  refine yh2 ty zqg (yb6 zqg ty zxx ?_ (zxy _))
  refine yai ?_
  exact⟨_,rfl,"set_iterator",_,ty,sl_next.lookup,hQ⟩
theorem zvn{l:List (Int × Value)}(h:ElemsOf (intKind P w) l):IntsAre (l.map (·.2)) (l.map kOf):=by
 induction l with
 | nil=>exact .nil
 | cons e l ih =>
  obtain⟨tk,q⟩:=zqf h (e:=e) yaq
  have e2:e.2 = .int (kOf e) tk:=congrArg Prod.snd q
  rw[yb8,yb8,e2]
  exact .cons _ _ (ih fun x hx=>h x (yam _ hx))
end
end Sn
end L2
end
section
namespace L2
open PySem PySem.Spec PyProof.Rows
namespace Sn
section
variable {P:yav}{w:World}{A:Around}{E:Value->yah->Prop}{s:yah}
theorem zj5{b:Bool}{a:Addr}{L:List Int}(h:At P w b s.heap a L):s.TypeIs (.ref a) "set" := by
 obtain⟨o,_,_,_,e,hx,_⟩:=h
 exact⟨o,e,hx.1⟩
theorem zx3{a:Addr}{L:List Int}(hS:At P w (ledBy w) s.heap a L){Q:Value->yah->Prop}(q:∀(I:Addr) (fp:List Addr) (n:Nat) (vals:List Value) (ns:List Int) (St:Nat->Heap->Prop) (h':Heap) (d:Drawn),(∀ B:Around,B.handled=none->Walks P w B I fp [I] n (fun i v=>vals[i]?=some v) St)->vals.length=n->St 0 h'->(∀ c∈fp,c<h'.objs.size)->I∈fp->(∀ c∈fp,c=a\/s.heap.objs.size<=c)->IntsAre vals ns->ns.Perm L ->
   (∀ c u,s.heap.get? c=some u->h'.get? c=some u)->s.heap.objs.size<=I->n<scanBound->Q (.ref I) { s with heap:=h',drawn:=d }) :
  wpAny (model P w) A (pyIter (.ref a)) Q E s:=by
 have ty:=zj5 hS
 obtain⟨o,es,ep,t,ho,hx,hd,hel,rfl,hnd,hsz,hfit,T⟩:=hS
 have hla:a<s.heap.objs.size:=yar ho
 have hpl:t.place.size=es.size:=by
  unfold SetTable.fits at hfit
  simp only[ycj,beq_iff_eq]at hfit
  exact hfit.1
 refine yh2 ty F.slot_set_iter (yb6 F.slot_set_iter ty zxz ?_ (F.args_set_iter_1 _))
 unfold Builtin.«frozenset.__iter__»
 refine yaa (m:=Builtin.Frozenset.slot0 "__iter__" _) (yai ?_)
 refine yaa ?_
 unfold ymy
 refine yaa ?_
 refine ye7 ho hd hfit ?_
 refine yai ?_
 refine yaa ?_
 rw[zvk]
 refine yaa ?_
 refine yez ho hd hfit ?_
 refine yaa ?_
 refine zje ?_
 refine yai ?_
 have fin:∀(first:Value) (h1:Heap) (d:Drawn),(∀ c u,s.heap.get? c=some u->h1.get? c=some u)->s.heap.objs.size<=h1.objs.size ->
   (SI (h1.push { cls:=.type "set_iterator",data:=.fields #[first,rawInt 0,.ref a,rawInt es.size,rawInt ep] }) h1.objs.size first 0 a es.size ep->Q (.ref h1.objs.size) { s with heap:=h1.push { cls:=.type "set_iterator",data:=.fields #[first,rawInt 0,.ref a,rawInt es.size,rawInt ep] },drawn:=d }) ->
   wpAny (model P w) A.in1 (do ret (<- newFields "set_iterator" [first,rawInt 0,.ref a,rawInt es.size,rawInt (<- setEpoch a)])) (fun f s'=>∃ v,f=Fin.done (Flow.ret v)/\∃ T' r,s'.TypeIs v T'/\typeLookup (.type T') "__next__" = pure (some r)/\Q v s') E { s with heap:=h1,drawn:=d }:=by
  intro first h1 d k1 _ hq
  refine yaa ?_
  refine wpAny_setEpoch_of (k1 _ _ ho) hd hfit ?_
  refine yaa ?_
  unfold newFields
  refine yfq ?_
  refine yai ?_
  have e1:SI (h1.push { cls:=.type "set_iterator",data:=.fields #[first,rawInt 0,.ref a,rawInt es.size,rawInt ep] }) h1.objs.size first 0 a es.size ep:=yaw _ rfl
  exact⟨_,rfl,"set_iterator",_,⟨_,e1,rfl⟩,sl_next.lookup,hq e1⟩
 have apart:∀ h1:Heap,s.heap.objs.size<=h1.objs.size->h1.objs.size≠a:=fun h1 hle=>yb2 (yaz hla hle)
 have go:∀(first:Nat->Value) (els:List (Int × Value)) (fp:List Addr) (Ex:Heap->Prop) (h1:Heap) (d:Drawn),els.Perm es.toList->(∀ c u,s.heap.get? c=some u->h1.get? c=some u)->s.heap.objs.size<=h1.objs.size->(∀ c∈fp,c<h1.objs.size/\s.heap.objs.size<=c)->Ex h1 ->
   (∀ h h',Ex h->(∀ c∈fp,∀ u,h.get? c=some u->h'.get? c=some u)->Ex h') ->
   (∀ B:Around,B.handled=none->∀ i x (s:yah) (Q:Option Value->yah->Prop) (E:Value->yah->Prop),els[i]?=some x->SI s.heap h1.objs.size (first i) i a es.size ep->s.heap.get? a=some o->Ex s.heap->(∀ h',SI h' h1.objs.size (first (i+1)) (i+1) a es.size ep->ycc h1.objs.size s.heap h'->Q (some x.2) { s with heap:=h' })->wpAny (model P w) B (pyNext (.ref h1.objs.size)) Q E s) ->
   (∀ B:Around,B.handled=none->∀(s:yah) (Q:Option Value->yah->Prop) (E:Value->yah->Prop),SI s.heap h1.objs.size (first es.size) es.size a es.size ep->s.heap.get? a=some o->Ex s.heap->(∀ h',(∀ c u,c≠h1.objs.size->s.heap.get? c=some u->h'.get? c=some u)->Q none { s with heap:=h' })->wpAny (model P w) B (pyNext (.ref h1.objs.size)) Q E s) ->
   wpAny (model P w) A.in1 (do ret (<- newFields "set_iterator" [first 0,rawInt 0,.ref a,rawInt es.size,rawInt (<- setEpoch a)])) (fun f s'=>∃ v,f=Fin.done (Flow.ret v)/\∃ T' r,s'.TypeIs v T'/\typeLookup (.type T') "__next__" = pure (some r)/\Q v s') E { s with heap:=h1,drawn:=d }:=by
  intro first els fp Ex h1 d pm k1 hle hfp hex hfr item done
  refine fin (first 0) h1 d k1 hle fun e1=>?_
  have hlen:(els.map (·.2)).length=es.size:=by rw[yab,pm.length_eq,ya0]
  have nI:h1.objs.size ∉ fp:=fun z=>ydw _ (hfp _ z).1
  refine q h1.objs.size (h1.objs.size::a::fp) es.size (els.map (·.2)) (els.map kOf) _ _ d (fun B hB=>zvm (I:=h1.objs.size) (S:=a) (o:=o) (ep:=ep) first (els.map (·.2)) fp Ex (apart h1 hle) hfr nI hlen (fun i x s Q E hx h1' h2' h3' hq=>?_) (done B hB)) hlen ⟨e1,yak _ (k1 _ _ ho),hfr _ _ hex fun c _ u e=>yak _ e⟩ (fun c hc=>?_) yaq (fun c hc=>?_) (zvn (hel.perm pm)) (pm.map kOf) (fun c u e=>yak _ (k1 c u e)) hle hsz
  ·rw[yaj]at hx
   cases e:els[i]? with
   | none=>rw[e]at hx;cases hx
   | some y =>
    rw[e]at hx
    cases hx
    exact item B hB i y s Q E e h1' h2' h3' hq
  ·rw[ybe]
   rcases yap.mp hc with z | hc
   ·rw[z];exact ydz _
   ·rcases yap.mp hc with z | hc
    ·rw[z];exact yeb (yaz hla hle)
    ·exact yeb (hfp c hc).1
  ·rcases yap.mp hc with z | hc
   ·exact .inr (by rw[z];exact hle)
   ·rcases yap.mp hc with z | hc
    ·exact .inl z
    ·exact .inr (hfp c hc).2
 cases hw:w.params.followText "set-order" with
 | true =>
  rw[if_neg (by simp)]
  refine yaa ?_
  refine yai ?_
  refine go (fun _=>rawInt 0) (pickOrder (w.params.setOrder a ep) es).toList [] (fun _=>True) s.heap s.drawn (zoq _ _) (fun c u e=>e) (yao _) (fun c hc=>nomatch hc) yew (fun _ _ _ _=>yew) (fun B hB i x s Q E hx h1 h2 _ hq=>?_) fun B hB s Q E h1 h2 _ hq=>?_
  ·refine nx_item (slot:=0) (nx:=0) (x:=x.2) h1 h2 hd hfit (fun Q' E' q'=>zqj hw h2 hd hfit ?_) hq
   rw[yc1]at hx
   rw[hx]
   exact q'
  ·refine zqi (slot:=0) hB h1 h2 hd hfit (fun Q' E' q'=>zqj hw h2 hd hfit ?_) hq
   have e:(pickOrder (w.params.setOrder a ep) es)[es.size]?=none:=by
    have:=(zoq (w.params.setOrder a ep) es).length_eq
    rw[ya0,ya0]at this
    rw[yek]
    omega
   rw[e]
   exact q'
 | false =>
  have hled:t.led=true:=by rw[T.led];unfold ledBy;rw[hw];rfl
  cases hdr:(!t.plain && decide (es.size > 1)) with
  | false =>
   rw[if_neg (by simp)]
   refine yaa ?_
   refine yai ?_
   refine go (fun i=>rawInt (zf9 t i)) es.toList [] (fun _=>True) s.heap s.drawn (yjw _) (fun c u e=>e) (yao _) (fun c hc=>nomatch hc) yew (fun _ _ _ _=>yew) (fun B hB i x s Q E hx h1 h2 _ hq=>?_) fun B hB s Q E h1 h2 _ hq=>?_
   ·have hi:i<es.size:=by
     have:=(yag.mp hx).1
     rw[ya0]at this
     exact this
    refine nx_item (slot:=zf9 t i) (nx:=zf9 t (i+1)) (x:=x.2) h1 h2 hd hfit (fun Q' E' q'=>zos hw hdr hled h2 hd hfit ?_) hq
    rw[zk7 T (by omega)]
    rw[yc1]at hx
    have hp:t.place[i]?=some (t.place.toList.getD i 0):=by
     rw[yal,yc1,yct (by omega)]
     rfl
    rw[hx,hp]
    exact q'
   ·refine zqi (slot:=zf9 t es.size) hB h1 h2 hd hfit (fun Q' E' q'=>zos hw hdr hled h2 hd hfit ?_) hq
    rw[zk7 T (by omega)]
    have e:es[es.size]?=none:=by rw[yek];exact yao _
    rw[e]
    exact q'
  | true =>
   rw[if_pos (by simp)]
   refine yaa ?_
   refine zor es.size (yae es.size) s ya5 fun l d pm=>?_
   refine yaa ?_
   refine ygp ?_ ?_
   ·have hmem:∀ k∈l,k<es.size:=fun k hk=>yau.mp (pm.mem_iff.mp hk)
    have hT0:(s.heap.push { cls:=.type "tuple",data:=.seq (l.map fun (i:Nat)=>rawInt i).toArray }).get? s.heap.objs.size=some { cls:=.type "tuple",dict:=none,data:=.seq (l.map fun (i:Nat)=>rawInt i).toArray,slots:=#[] }:=yaw _ rfl
    refine go (fun _=>.ref s.heap.objs.size) (l.map fun k=>es.toList.getD k (0,.none)) [s.heap.objs.size] (fun h=>h.get? s.heap.objs.size=some { cls:=.type "tuple",dict:=none,data:=.seq (l.map fun (i:Nat)=>rawInt i).toArray,slots:=#[] }) (s.heap.push { cls:=.type "tuple",data:=.seq (l.map fun (i:Nat)=>rawInt i).toArray }) d ?_
     (fun c u e=>yak _ e) (by rw[ybe];exact yid _) (fun c hc=>by rw[ya4.mp hc,ybe];exact⟨ydz _,yao _⟩) hT0 (fun h h' e k=>k _ (by simp) _ e) (fun B hB i x s1 Q E hx h1 h2 h3 hq=>?_) fun B hB s1 Q E h1 h2 h3 hq=>?_
    ·have e:es.toList=(yae es.size).map fun k=>es.toList.getD k (0,.none):=by
      refine yc3 fun j=>?_
      rw[yaj]
      by_cases hj:j<es.size
      ·rw[ycz hj,yad (by rw[ya0];exact hj)]
       show _=some (es.toList.getD j _)
       rw[yal,yad (by rw[ya0];exact hj)]
       rfl
      ·rw[ybz.mpr (by rw[ya0];omega),ybz.mpr (by rw[ya5];omega)]
       rfl
     have p2:=pm.map fun k=>es.toList.getD k ((0:Int),ydn)
     rw[<- e]at p2
     exact p2
    ·rw[yaj]at hx
     cases e:l[i]? with
     | none=>rw[e]at hx;cases hx
     | some k =>
      rw[e]at hx
      have hk:=hmem k (yat e)
      have ex:es[k]?=some x:=by
       cases hx
       show es[k]?=some (es.toList.getD k (0,ydn))
       rw[yal,yc1,yct hk]
       rfl
      refine zx1 (pl:=k) (x:=x) h1 h3 h2 hd hfit ?_ ex hq
      rw[yfj,yaj,e]
      rfl
    ·refine zx2 hB h1 h3 h2 hd hfit ?_ hq
     rw[yfj,ybz,yab,pm.length_eq,ya5]
     exact yao _
   ·rw[yab,pm.length_eq,ya5]
    exact fits_of_scanBound hsz
end
end Sn
end L2
end
section
namespace L2
open PySem PySem.Spec PyProof.Rows
namespace Sn
section
variable {P:yav}{w:World}{A:Around}{E:Value->yah->Prop}{s:yah}
theorem zvo{b:Bool}{a:Addr}{L:List Int}(hS:At P w b s.heap a L){Q:Bool->yah->Prop}(q:Q false s):wpAny (model P w) A (yfk (.ref a)) Q E s:=by
 have ty:=zj5 hS
 unfold yfk
 refine yaa (yfh ty F.slot_set_len.lookup ?_)
 generalize hid:("set.__len__" : String)=id0
 wp_delta
 rw[show splitId id0=some ("set","__len__") from by subst hid;decide +kernel]
 subst hid
 refine yaa (yd1 (T := "set") (b:=true) ty (by rw[yjx];kernel_rfl) ?_)
 refine yhd (fun z=>absurd z (by decide)) (fun _=>?_)
 refine yhd (fun _=>?_) (fun z=>absurd (by decide +kernel) z)
 refine yaa (ylo ty ?_)
 exact yai q
theorem zrq{P':Nat->Value->Prop}{acc:Array Value}{n:Nat}{vals:List Value}(h:ItemsOf (fun i v=>vals[i]?=some v) acc n)(hl:vals.length=n):acc.toList=vals:=by
 refine yc3 fun j=>?_
 rw[yc1]
 cases e:acc[j]? with
 | some v=>exact(h.2 j v e).symm
 | none =>
  rw[yek,h.1]at e
  rw[ybz.mpr (by omega)]
theorem zpn{a:Addr}{L:List Int}(hh:A.handled=none)(hS:At P w (ledBy w) s.heap a L){Q:List Value->yah->Prop}(q:∀ vals ns h' d tk,s.heap.objs.size<=h'.objs.size->IntsAre vals ns->ns.Perm L->(∀ c u,s.heap.get? c=some u->h'.get? c=some u)->vals.length<scanBound->Q vals { s with heap:=h',drawn:=d,toks:=tk }):wpAny (model P w) A (collect (.ref a)) Q E s:=by
 have hla:a<s.heap.objs.size:=by obtain⟨o,_,_,_,e,_⟩:=hS;exact yar e
 unfold collect
 refine yaa ?_
 refine wpAny_runValue ?_
 refine codeAny_builtin F.entry_proto_collect ?_
 rw[ydp F.plain_proto_collect _]
 refine yaa (m:=newList []) ?_
 refine yfq ?_
 refine yai ⟨plainId_quiet yk7 _,codeAny_builtin F.entry_list_iadd ?_⟩
 rw[ydp yk7 _]
 show wpAny _ A.in1 (yeg (.ref s.heap.objs.size) (.ref a) (.ref s.heap.objs.size)) _ _ _
 have hne:s.heap.objs.size≠a:=yb2 hla
 have k1:∀ c u,s.heap.get? c=some u->(s.heap.push { cls:=.type "list",data:=.seq ([]:List Value).toArray }).get? c=some u:=fun c u e=>yak _ e
 have hS1:At P w (ledBy w) (s.heap.push { cls:=.type "list",data:=.seq ([]:List Value).toArray }) a L:=hS.stay fun o e=>k1 _ _ e
 have hl1:(s.heap.push { cls:=.type "list",data:=.seq ([]:List Value).toArray }).get? s.heap.objs.size=some { cls:=.type "list",dict:=none,data:=.seq #[] 0,slots:=#[] }:=yaw _ rfl
 unfold yeg
 refine yaa (ylo (s:={ s with heap:=s.heap.push { cls:=.type "list",data:=.seq ([]:List Value).toArray } }) (zj5 hS1) ?_)
 have c1:ye0 (.ref s.heap.objs.size) (.ref a)=false:=by simp[ye0,hne]
 have c2:(ydc "set" == ydc "list")=false:=by decide
 have c3:(ydc "set" == ydc "tuple")=false:=by decide
 simp only[c1,c2,c3,ykm,yb4,if_false]
 refine yaa ?_
 refine zx3 (s:={ s with heap:=s.heap.push { cls:=.type "list",data:=.seq ([]:List Value).toArray } }) hS1 fun I fp n vals ns St h2 d W hlen st hfp hIf hge hi pm k2 hI hn=>?_
 refine yaa ?_
 refine yco ?_
 refine zvo (hS1.stay fun o e=>k2 _ _ e) ?_
 refine yhd (fun _=>?_) (fun z=>absurd (by decide +kernel) z)
 refine yaa (ygj ?_)
 have hl2:=k2 _ _ hl1
 have hsz:(s.heap.push { cls:=.type "list",data:=.seq ([]:List Value).toArray }).objs.size=s.heap.objs.size+1:=ybe ..
 have nf:s.heap.objs.size ∉ fp:=fun z=>by
  rcases hge _ z with e | e
  ·exact hne e
  ·rw[hsz]at e;exact absurd e (ymz.mpr (ydz _))
 refine yaa ?_
 show wpAny _ A.in1 (updateSeq s.heap.objs.size (·.push .none) >>= fun _=>updateSeq s.heap.objs.size (·.pop)) _ _ _
 refine yaa ?_
 refine yfl hl2 rfl ?_
 have g1:=ycm (ycs (·.push ydn)) hl2 rfl
 refine yfl (hz:=by seq_fits) g1 rfl ?_
 have g2:=ycm (ycs (·.pop)) g1 rfl
 have oth:∀ c u,c≠s.heap.objs.size->h2.get? c=some u->((h2.update s.heap.objs.size (ycs (·.push ydn))).update s.heap.objs.size (ycs (·.pop))).get? c=some u:=fun c u hc e =>
  (ycv _ _ (yee hc)).trans ((ycv _ _ (yee hc)).trans e)
 have W1:=(W A.in1 hh).toS
 refine yai ⟨plainId_quiet ye8 _,codeAny_extend_loopS W1 (fits_of_scanBound hn) s.heap.objs.size nf _ n 0 _ #[] _ rfl (ybj _) ((W A.in1 hh).frame 0 _ _ st fun c hc u e=>oth c u (fun z=>nf (z ▸ hc)) e) g2 (ItemsOf.nil _) fun s' acc c' mv hl' hacc=>?_⟩
 have ea:=zrq (P':=fun _ _=>True) hacc hlen
 obtain⟨h',g',d',tk',os'⟩:=s'
 obtain rfl:g'=s.gens:=mv.gens
 obtain rfl:d'=d:=mv.drawn
 obtain rfl:os'=s.os:=mv.os
 show wpAny _ A (load s.heap.objs.size >>= _) _ _ _
 refine yaa (ykx hl' ?_)
 refine yai ?_
 rw[ea]
 refine q vals ns h' d' tk' (ycx (yar hl')) hi pm (fun c u e=>?_) (by omega)
 have lc:=yar e
 have e2:=oth c u (yba lc) (k2 c u (k1 c u e))
 refine mv.heap c u (fun z=>?_) e2
 rcases yap.mp z with z | z
 ·exact absurd z (yba lc)
 ·rw[ya4.mp z]at lc
  rw[hsz]at hI
  exact absurd (yaz (ydz _) hI) (ymw.mpr (ycx lc))
theorem zrr{a:Addr}{L:List Int}(hh:A.handled=none)(h64:L.length<64)(hS:At P w (ledBy w) s.heap a L){Q:Value->yah->Prop}(q:∀ h' d tk l ep (out:Array Value) ns,h'.get? l=some (seqObj "list" out ep)->s.heap.objs.size<=l->IntsAre out.toList ns->ns.Perm L->ns.Pairwise (· <= ·)->(∀ c u,s.heap.get? c=some u->h'.get? c=some u)->Q (.ref l) { s with heap:=h',drawn:=d,toks:=tk }) :
  wpAny (model P w) A (call (.builtin "sorted") [.ref a]) Q E s:=by
 refine yhu kind_sorted plain_sorted entry_sorted (args_sorted1 _) ?_
 unfold Builtin.«sorted»
 refine yaa (m:=checkCount "sorted" 1 1 _) (yai ?_)
 refine yaa ?_
 refine zpn (show A.in1.handled=none from hh) hS fun vals ns h1 d tk grow hi pm k1 hn=>?_
 refine yaa ?_
 have v64:vals.length<64:=by rw[hi.length,pm.length_eq];exact h64
 refine wpAny_newList (hsz:=fits_of_scanBound hn) ?_
 have g1:(h1.push (seqObj "list" vals.toArray 0)).get? h1.objs.size=some (seqObj "list" vals.toArray 0):=yaw _ rfl
 refine yaa ?_
 refine yco ?_
 refine yb6 (s:={ s with heap:=h1.push (seqObj "list" vals.toArray 0),drawn:=d,toks:=tk }) slot_list_sort ⟨_,g1,rfl⟩ entry_list_sort ?_ (args_list_sort _)
 refine list_sort_tree (s:={ s with heap:=h1.push (seqObj "list" vals.toArray 0),drawn:=d,toks:=tk }) g1 hi v64 fun out ns' a1 a2 a3=>⟨_,rfl,?_⟩
 refine yai ⟨_,rfl,?_⟩
 obtain⟨ep,g2⟩:=sortedHeap_at (out:=out) g1
 refine q _ d tk h1.objs.size ep out ns' g2 grow a1 (a2.trans pm) a3 fun c u e=>?_
 have e1:=k1 c u e
 have lc:=yar e1
 rw[sortedHeap_old (yba lc) (by rw[ybe];exact yeb lc)]
 exact yak _ e1
end
end Sn
theorem zk8{X:Cx}(hc:X.calm=true):CallR X (.builtin "sorted") (fun xs H Q=>∃(a:Addr) (L:List Int),xs=[.ref a]/\H a=some (oset X.prog X.w a L)/\L.length<64/\∀(ns:List Int) (p:Addr),ns.Perm L->ns.Pairwise (· <= ·)->H p=none->Q (.ref p) (upd H p (.lst (ns.map V.int)))):=by
 intro pins s σ H xs us Q I r h
 obtain⟨a,L,rfl,ha,h64,q⟩:=h
 obtain⟨u,rfl,rx⟩:=vals1 r
 cases rx
 have hS:SPhi X.prog X.w a L s.heap:=(show ObjOk X.prog X.w H s.heap a (oset X.prog X.w a L) from I.hok a _ ha).1
 refine Sn.zrr (I.ok.hd hc) h64 hS fun h' d tk l ep out ns hl hle hi pm srt k=>?_
 have hlen:(ns.map V.int).length<=yay:=by rw[yab,pm.length_eq];exact zxd h64
 have I1:Inv X pins σ (upd H l (.lst (ns.map V.int))) { s with heap:=h',toks:=tk }:=I.laid (t':=tk) k hle ⟨hlen,out.toList,ep,zh8 hi,hl⟩
 have I2:Inv X pins σ (upd H l (.lst (ns.map V.int))) { s with heap:=h',drawn:=d,toks:=tk }:=⟨I1.ok,I1.os,I1.bare,I1.base,I1.loc,I1.cell,I1.free,I1.freeC,I1.pin,I1.hok,I1.len⟩
 exact⟨.ref l,_,I2,rfl,q ns l pm srt (I.hok.fresh hle)⟩
end L2
end
section
namespace L2
open PySem PySem.Spec PyProof.Rows
namespace Zp
def ZO(h:Heap)(z TI TO:Addr)(f g:Value):Prop:=h.get? z=some { cls:=.type "zip",dict:=none,data:=.fields #[f,g,.bool false,.ref TI,.ref TO],slots:=#[] }
def Pr(h:Heap)(T:Addr)(a b:Value):Prop:=h.get? T=some { cls:=.type "tuple",dict:=none,data:=.seq #[a,b],slots:=#[] }
section
variable {P:yav}{w:World}{A:Around}{E:Value->yah->Prop}{s:yah}
theorem nx_item{it t:Addr}{i:Nat}{xs:Array Value}{x:Value}{Q:Value->yah->Prop}(hit:s.heap.IsTupleIter it t i)(ht:s.heap.IsTuple t xs)(hx:xs[i]?=some x)(q:∀ h',h'.IsTupleIter it t (i+1)->ycc it s.heap h'->Q x { s with heap:=h' }):wpAny (model P w) A (ybc (.ref it)) Q E s:=by
 obtain⟨o,ho,hc,hd⟩:=id hit
 obtain⟨ol,hol,_,nl,hdl⟩:=ht
 unfold ybc
 refine yaa ?_
 refine ybl (name:=yc6 "__next__") hit.typeIs yel ?_
 refine yb6 yel hit.typeIs yhe ?_ (yg2 _)
 refine yaa (m:=field (.ref it) 0) ?_
 refine yci ho hd (x:=.ref t) rfl ?_
 show wpAny _ _ (if (ybm t == ydn)=true then _ else _) _ _ s
 rw[if_neg (show ¬ (ybm t == ydn)=true from ybb)]
 refine yaa (m:=field (.ref it) 1) ?_
 refine yci ho hd (x:=.int i 0) rfl ?_
 refine yaa (m:=seqItems? (.ref t)) ?_
 refine ydx hol hdl ?_
 simp only[yan,hx]
 refine yaa ?_
 refine wpAny_setField ho hd (by simp) ?_
 refine yai ⟨x,rfl,?_⟩
 refine yai ?_
 refine q _ ⟨_,ycm _ ho (Obj.isFreed_of_fields (ykr hd _)),(Obj.cls_mapFields ..).trans hc,?_⟩ (yhc ..)
 rw[ykr hd]
 simp[rawInt]
theorem zot{it t:Addr}{i:Nat}{xs:Array Value}{Q:Value->yah->Prop}(hh:A.handled=none)(hit:s.heap.IsTupleIter it t i)(ht:s.heap.IsTuple t xs)(hx:xs[i]?=none)(q:∀ h' e,(∀ c u,c≠it->s.heap.get? c=some u->h'.get? c=some u)->(∃ u,h'.get? e=some u/\u.cls = .type "StopIteration")->E (.ref e) { s with heap:=h' }):wpAny (model P w) A (ybc (.ref it)) Q E s:=by
 obtain⟨o,ho,hc,hd⟩:=id hit
 obtain⟨ol,hol,_,nl,hdl⟩:=ht
 unfold ybc
 refine yaa ?_
 refine ybl (name:=yc6 "__next__") hit.typeIs yel ?_
 refine yb6 yel hit.typeIs yhe ?_ (yg2 _)
 refine yaa (m:=field (.ref it) 0) ?_
 refine yci ho hd (x:=.ref t) rfl ?_
 show wpAny _ _ (if (ybm t == ydn)=true then _ else _) _ _ s
 rw[if_neg (show ¬ (ybm t == ydn)=true from ybb)]
 refine yaa (m:=field (.ref it) 1) ?_
 refine yci ho hd (x:=.int i 0) rfl ?_
 refine yaa (m:=seqItems? (.ref t)) ?_
 refine ydx hol hdl ?_
 simp only[yan,hx]
 refine yaa ?_
 refine ygj ?_
 refine yaa ?_
 refine wpAny_setField ho hd (by simp) ?_
 refine Sn.zil (s:={ s with heap:=_ }) (show A.in1.handled=none from hh) fun h' a k ha=>?_
 exact q h' a (fun c u hc e=>k c u (by rw[(yhc ..).2 c hc];exact e)) ha
def IsIt:Bool->Heap->Addr->Addr->Nat->Prop
 | true,h,it,t,i=>h.IsTupleIter it t i
 | false,h,it,t,i=>h.IsListIter it t i
def IsSq:Bool->Heap->Addr->Array Value->Prop
 | true,h,t,xs=>h.IsTuple t xs
 | false,h,t,xs=>h.IsList t xs
theorem IsIt.at{b:Bool}{h h':Heap}{it t:Addr}{i:Nat}(x:IsIt b h it t i)(e:∀ o,h.get? it=some o->h'.get? it=some o):IsIt b h' it t i:=by
 cases b
 ·exact Heap.IsListIter.at x e
 ·exact Heap.IsTupleIter.at x e
theorem IsSq.at{b:Bool}{h h':Heap}{t:Addr}{xs:Array Value}(x:IsSq b h t xs)(e:∀ o,h.get? t=some o->h'.get? t=some o):IsSq b h' t xs:=by
 cases b
 ·exact Heap.IsList.at x e
 ·exact Heap.IsTuple.at x e
theorem IsIt.extBut{b:Bool}{h h':Heap}{it t c:Addr}{i:Nat}(x:IsIt b h it t i)(hs:Heap.ExtBut c h h')(n:it≠c):IsIt b h' it t i:=x.at fun o e=>hs _ o n e
theorem IsSq.extBut{b:Bool}{h h':Heap}{t c:Addr}{xs:Array Value}(x:IsSq b h t xs)(hs:Heap.ExtBut c h h')(n:t≠c):IsSq b h' t xs:=x.at fun o e=>hs _ o n e
theorem IsIt.obj{b:Bool}{h:Heap}{it t:Addr}{i:Nat}(x:IsIt b h it t i):∃ o,h.get? it=some o/\∀ v,o.data≠.cell v:=by
 cases b
 ·obtain⟨o,e,_,d⟩:=x
  exact⟨o,e,fun v q=>by rw[d]at q;cases q⟩
 ·obtain⟨o,e,_,d⟩:=x
  exact⟨o,e,fun v q=>by rw[d]at q;cases q⟩
theorem zqk{b:Bool}{it t:Addr}{i:Nat}{xs:Array Value}{x:Value}{Q:Value->yah->Prop}(hit:IsIt b s.heap it t i)(ht:IsSq b s.heap t xs)(hx:xs[i]?=some x)(q:∀ h',IsIt b h' it t (i+1)->ycc it s.heap h'->Q x { s with heap:=h' }):wpAny (model P w) A (ybc (.ref it)) Q E s:=by
 cases b
 ·exact wpAny_nextOf_list_item hit ht hx q
 ·exact nx_item hit ht hx q
theorem zz0{b:Bool}{it t:Addr}{i:Nat}{xs:Array Value}{Q:Value->yah->Prop}(hh:A.handled=none)(hit:IsIt b s.heap it t i)(ht:IsSq b s.heap t xs)(hx:xs[i]?=none)(q:∀ h' e,(∀ c u,c≠it->s.heap.get? c=some u->h'.get? c=some u)->(∃ u,h'.get? e=some u/\u.cls = .type "StopIteration")->E (.ref e) { s with heap:=h' }):wpAny (model P w) A (ybc (.ref it)) Q E s:=by
 cases b
 ·exact wpAny_nextOf_list_end hh hit ht hx fun h' e k he=>q h' e k he
 ·exact zot hh hit ht hx q
end
end Zp
end L2
end
section
namespace L2
open PySem PySem.Spec PyProof.Rows
namespace Zp
structure ZS(h:Heap)(z TI TO i1 i2 l1 l2:Addr)(xs ys:Array Value)(i:Nat):Prop where
 zo:∃ f g,ZO h z TI TO f g/\(f = .none\/∃ T:Addr,f=rawInt T/\∃ u,h.get? T=some u)/\(f≠.none\/i=0)
 ti:Pr h TI (.ref i1) (.ref i2)
 tO:∃ a b,Pr h TO a b
 a1:h.IsTupleIter i1 l1 i
 a2:h.IsTupleIter i2 l2 i
 t1:h.IsTuple l1 xs
 t2:h.IsTuple l2 ys
theorem ZS.stay{h h':Heap}{z TI TO i1 i2 l1 l2:Addr}{xs ys:Array Value}{i:Nat}(Z:ZS h z TI TO i1 i2 l1 l2 xs ys i)(k:∀ c u,h.get? c=some u->h'.get? c=some u):ZS h' z TI TO i1 i2 l1 l2 xs ys i:=by
 obtain⟨⟨f,g,e,r,n⟩,b,⟨x,y,c⟩,a1,a2,t1,t2⟩:=Z
 refine⟨⟨f,g,k _ _ e,?_,n⟩,k _ _ b,⟨x,y,k _ _ c⟩,a1.at fun o e=>k _ _ e,a2.at fun o e=>k _ _ e,t1.at fun o e=>k _ _ e,t2.at fun o e=>k _ _ e⟩
 rcases r with r | ⟨T,r,u,q⟩
 ·exact .inl r
 ·exact .inr ⟨T,r,u,k _ _ q⟩
section
variable {P:yav}{w:World}{A:Around}{E:Value->yah->Prop}{s:yah}{z TI TO i1 i2 l1 l2:Addr}{xs ys:Array Value}{i:Nat}
theorem item0{x y:Value}{Q:Value->yah->Prop}(D:ZipApart z TI TO i1 i2 l1 l2){f g:Value}(hz:ZO s.heap z TI TO f g)(hf:f = .none)(hTI:Pr s.heap TI (.ref i1) (.ref i2))(hTO:∃ a b,Pr s.heap TO a b){k1 k2:Bool}(h1:IsIt k1 s.heap i1 l1 i)(h2:IsIt k2 s.heap i2 l2 i)(hl1:IsSq k1 s.heap l1 xs)(hl2:IsSq k2 s.heap l2 ys)(hx:xs[i]?=some x)(hy:ys[i]?=some y)(q:∀ h' T,T=s.heap.objs.size->Pr h' T x y->ZO h' z TI TO (rawInt T) (.bool false)->Pr h' TI (.ref i1) (.ref i2)->Pr h' TO x y->IsIt k1 h' i1 l1 (i+1)->IsIt k2 h' i2 l2 (i+1)->(∀ c u,c≠z->c≠TO->c≠i1->c≠i2->s.heap.get? c=some u->h'.get? c=some u)->Q (.ref T) { s with heap:=h' }) :
  wpAny (model P w) A (Builtin.«zip.__next__» ⟨[.ref z],[]⟩) (fun fin s'=>∃ v,fin = .done (.ret v)/\Q v s') E s:=by
 subst hf
 obtain⟨a,b,hTO⟩:=hTO
 refine yaa (m:=field (.ref z) 2) ?_
 refine yci hz rfl (x:=.bool false) rfl ?_
 refine yaa (m:=field (.ref z) 3) ?_
 refine yci hz rfl (x:=.ref TI) rfl ?_
 refine yaa ?_
 refine ydx hTI rfl ?_
 refine yaa (m:=ybn (.ref z)) ?_
 unfold ybn
 refine yaa ?_
 refine yci hz rfl (x:=.none) rfl ?_
 refine yai ?_
 simp only[if_true]
 refine yaa ?_
 refine ygj ?_
 refine yaa ?_
 refine yci hz rfl (x:=.ref TO) rfl ?_
 refine yaa ?_
 refine ybo hz (by simp) fun g1 z1 b1=>?_
 replace z1:ZO g1 z TI TO .ellipsis g:=z1
 refine yaa ?_
 simp only[ylz,ymc,ydj,yd8]
 refine yaa ?_
 refine yaa ?_
 refine yks ?_
 refine yaa (m:=ybc (.ref i1)) ?_
 refine zqk (s:={ s with heap:=g1 }) (h1.extBut b1.extBut D.i1z) (hl1.extBut b1.extBut D.l1z) hx fun g2 n2 b2=>?_
 refine yai ?_
 have o2:Pr g2 TO a b:=b2.extBut _ _ D.TOi1 (b1.extBut _ _ D.TOz hTO)
 refine yaa ?_
 refine ydx (s:={ s with heap:=g2 }) o2 rfl ?_
 refine yaa ?_
 refine yju (s:={ s with heap:=g2 }) o2 fun g3 o3 b3=>?_
 replace o3:Pr g3 TO x b:=o3
 refine yaa ?_
 refine yij ?_
 refine yai ?_
 refine yaa ?_
 refine yaa ?_
 refine yks ?_
 refine yaa (m:=ybc (.ref i2)) ?_
 refine zqk (s:={ s with heap:=g3 }) (((h2.extBut b1.extBut D.i2z).extBut b2.extBut D.i12.symm).extBut b3.extBut D.TOi2.symm) (((hl2.extBut b1.extBut D.l2z).extBut b2.extBut D.l2i1).extBut b3.extBut D.l2TO) hy fun g4 n4 b4=>?_
 refine yai ?_
 have o4:Pr g4 TO x b:=b4.extBut _ _ D.TOi2 o3
 refine yaa ?_
 refine ydx (s:={ s with heap:=g4 }) o4 rfl ?_
 refine yaa ?_
 refine yju (s:={ s with heap:=g4 }) o4 fun g5 o5 b5=>?_
 replace o5:Pr g5 TO x y:=o5
 refine yaa ?_
 refine yij ?_
 refine yai ?_
 refine yai ?_
 refine yaa ?_
 refine ydx (s:={ s with heap:=g5 }) o5 rfl ?_
 refine yaa ?_
 refine ygp ?_
 have z5:ZO g5 z TI TO .ellipsis g:=b5.extBut _ _ D.TOz.symm (b4.extBut _ _ D.i2z.symm (b3.extBut _ _ D.TOz.symm (b2.extBut _ _ D.i1z.symm z1)))
 have k5:∀ c u,c≠z->c≠TO->c≠i1->c≠i2->s.heap.get? c=some u->g5.get? c=some u:=fun c u c1 c2 c3 c4 e=>b5.extBut _ _ c2 (b4.extBut _ _ c4 (b3.extBut _ _ c2 (b2.extBut _ _ c3 (b1.extBut _ _ c1 e))))
 have sz:g5.objs.size=s.heap.objs.size:=by rw[b5.1,b4.1,b3.1,b2.1,b1.1]
 have m1:IsIt k1 g5 i1 l1 (i+1):=((n2.extBut b3.extBut D.TOi1.symm).extBut b4.extBut D.i12).extBut b5.extBut D.TOi1.symm
 have m2:IsIt k2 g5 i2 l2 (i+1):=n4.extBut b5.extBut D.TOi2.symm
 have zlt:z<g5.objs.size:=yar z5
 have z6:ZO (g5.push { cls:=.type "tuple",data:=.seq #[x,y] }) z TI TO .ellipsis g:=yak _ z5
 refine yaa (m:=yc8 (.ref z) (.ref g5.objs.size)) ?_
 unfold yc8
 refine yaa ?_
 refine ybo (s:={ s with heap:=g5.push { cls:=.type "tuple",data:=.seq #[x,y] } }) z6 (by simp) fun g7 z7 b7=>?_
 replace z7:ZO g7 z TI TO (rawInt g5.objs.size) g:=z7
 refine ybo (s:={ s with heap:=g7 }) z7 (by simp) fun g8 z8 b8=>?_
 replace z8:ZO g8 z TI TO (rawInt g5.objs.size) (.bool false):=z8
 have up:∀ c u,c≠z->g5.get? c=some u->g8.get? c=some u:=fun c u c1 e=>b8.extBut _ _ c1 (b7.extBut _ _ c1 (yak _ e))
 have T8:Pr g8 g5.objs.size x y:=b8.extBut _ _ (yb2 zlt) (b7.extBut _ _ (yb2 zlt) (yaw _ rfl))
 refine yai ⟨_,rfl,?_⟩
 exact q g8 g5.objs.size sz T8 z8 (up _ _ D.TIz (k5 _ _ D.TIz D.TITO D.TIi1 D.TIi2 hTI)) (up _ _ D.TOz o5) (m1.at fun o e=>up _ o D.i1z e) (m2.at fun o e=>up _ o D.i2z e) fun c u c1 c2 c3 c4 e=>up c u c1 (k5 c u c1 c2 c3 c4 e)
theorem done0{Q:Fin->yah->Prop}(hh:A.handled=none)(D:ZipApart z TI TO i1 i2 l1 l2){g:Value}(hz:ZO s.heap z TI TO .none g)(hTI:Pr s.heap TI (.ref i1) (.ref i2)){k1:Bool}(h1:IsIt k1 s.heap i1 l1 i)(hl1:IsSq k1 s.heap l1 xs)(hx:xs[i]?=none)(q:∀ h' e,(∀ c u,c≠z->c≠i1->s.heap.get? c=some u->h'.get? c=some u)->(∃ u,h'.get? e=some u/\u.cls = .type "StopIteration")->E (.ref e) { s with heap:=h' }) :
  wpAny (model P w) A (Builtin.«zip.__next__» ⟨[.ref z],[]⟩) Q E s:=by
 refine yaa (m:=field (.ref z) 2) ?_
 refine yci hz rfl (x:=.bool false) rfl ?_
 refine yaa (m:=field (.ref z) 3) ?_
 refine yci hz rfl (x:=.ref TI) rfl ?_
 refine yaa ?_
 refine ydx hTI rfl ?_
 refine yaa (m:=ybn (.ref z)) ?_
 unfold ybn
 refine yaa ?_
 refine yci hz rfl (x:=.none) rfl ?_
 refine yai ?_
 simp only[if_true]
 refine yaa ?_
 refine ygj ?_
 refine yaa ?_
 refine yci hz rfl (x:=.ref TO) rfl ?_
 refine yaa ?_
 refine ybo hz (by simp) fun g1 z1 b1=>?_
 replace z1:ZO g1 z TI TO .ellipsis g:=z1
 refine yaa ?_
 simp only[ylz,ymc,ydj,yd8]
 refine yaa ?_
 refine yaa ?_
 refine yks ?_
 refine yaa (m:=ybc (.ref i1)) ?_
 refine zz0 (s:={ s with heap:=g1 }) hh (h1.extBut b1.extBut D.i1z) (hl1.extBut b1.extBut D.l1z) hx fun g2 e k2 he=>?_
 obtain⟨u,hu,hc⟩:=he
 have z2:ZO g2 z TI TO .ellipsis g:=k2 _ _ D.i1z.symm z1
 have ne:e≠z:=fun x=>by
  subst x
  rw[z2]at hu
  cases hu
  simp at hc
 refine ybo (s:={ s with heap:=g2 }) z2 (by simp) fun g3 _ b3=>?_
 exact q g3 e (fun c o c1 c3 x=>b3.extBut _ _ c1 (k2 _ _ c3 (b1.extBut _ _ c1 x))) ⟨u,b3.extBut _ _ ne hu,hc⟩
theorem later{T:Addr}{g:Value}{R:Fin->yah->Prop}(hz:ZO s.heap z TI TO (rawInt T) g)(hT:∃ u,s.heap.get? T=some u)(hTI:Pr s.heap TI (.ref i1) (.ref i2))(q:∀ h' g',ZO h' z TI TO (rawInt T) g'->ycc z s.heap h'->wpAny (model P w) A (ybc (.ref i1)) (fun x s1=>wpAny (model P w) A (ybc (.ref i2)) (fun y s2=>R (.done (.ret (.ref s2.heap.objs.size))) { s2 with heap:=s2.heap.push { cls:=.type "tuple",data:=.seq #[x,y] } }) E s1) E { s with heap:=h' }) :
  wpAny (model P w) A (Builtin.«zip.__next__» ⟨[.ref z],[]⟩) R E s:=by
 obtain⟨u,hT⟩:=hT
 refine yaa (m:=field (.ref z) 2) ?_
 refine yci hz rfl (x:=.bool false) rfl ?_
 refine yaa (m:=field (.ref z) 3) ?_
 refine yci hz rfl (x:=.ref TI) rfl ?_
 refine yaa ?_
 refine ydx hTI rfl ?_
 refine yaa (m:=ybn (.ref z)) ?_
 unfold ybn
 refine yaa ?_
 refine yci hz rfl (x:=rawInt T) rfl ?_
 refine yaa (m:=loadIfAlive ((T:Nat):Int).toNat) ?_
 rw[yan]
 refine(show ∀{Q':Option Obj->yah->Prop},Q' (s.heap.get? T) s->wpAny (model P w) A (loadIfAlive T) Q' E s from fun h Γ p hΓ=>h) ?_
 rw[hT]
 simp only[Option.isNone_some,yb4,if_false]
 refine yaa ?_
 refine yci hz rfl (x:=g) rfl ?_
 refine yhd (fun _=>yaa (ybo hz (by simp) fun g1 z1 b1=>yai ?_)) (fun _=>yai ?_)
 ·replace z1:ZO g1 z TI TO (rawInt T) (.bool true):=z1
  have qq:=q g1 _ z1 b1
  simp only[yb4,if_false]
  refine yaa ?_
  rw[<- yfd]
  simp only[ydj,yd8]
  refine yaa ?_
  refine yaa ?_
  refine yco ?_
  refine yaa (m:=ybc (.ref i1)) ?_
  refine ydd qq (fun x s1 h1=>?_) fun _ _ e=>e
  refine yai ?_
  refine yai ?_
  refine yaa ?_
  refine yaa ?_
  refine yco ?_
  refine yaa (m:=ybc (.ref i2)) ?_
  refine ydd h1 (fun y s2 h2=>?_) fun _ _ e=>e
  refine yai ?_
  refine yai ?_
  refine yai ?_
  refine yaa ?_
  refine ygp (hsz:=by show 2<=yay;rw[ybr];decide) ?_
  exact yai h2
 ·have qq:=q s.heap _ hz (yk6 z s.heap)
  simp only[yb4,if_false]
  refine yaa ?_
  rw[<- yfd]
  simp only[ydj,yd8]
  refine yaa ?_
  refine yaa ?_
  refine yco ?_
  refine yaa (m:=ybc (.ref i1)) ?_
  refine ydd qq (fun x s1 h1=>?_) fun _ _ e=>e
  refine yai ?_
  refine yai ?_
  refine yaa ?_
  refine yaa ?_
  refine yco ?_
  refine yaa (m:=ybc (.ref i2)) ?_
  refine ydd h1 (fun y s2 h2=>?_) fun _ _ e=>e
  refine yai ?_
  refine yai ?_
  refine yai ?_
  refine yaa ?_
  refine ygp (hsz:=by show 2<=yay;rw[ybr];decide) ?_
  exact yai h2
theorem item1{x y:Value}{Q:Value->yah->Prop}(D:ZipApart z TI TO i1 i2 l1 l2){T:Addr}{g:Value}(hz:ZO s.heap z TI TO (rawInt T) g)(hT:∃ u,s.heap.get? T=some u)(Z:ZS s.heap z TI TO i1 i2 l1 l2 xs ys i)(hx:xs[i]?=some x)(hy:ys[i]?=some y)(q:∀ h' T,T=s.heap.objs.size->Pr h' T x y->ZS h' z TI TO i1 i2 l1 l2 xs ys (i+1)->(∀ c u,c≠z->c≠TO->c≠i1->c≠i2->s.heap.get? c=some u->h'.get? c=some u)->Q (.ref T) { s with heap:=h' }) :
  wpAny (model P w) A (Builtin.«zip.__next__» ⟨[.ref z],[]⟩) (fun fin s'=>∃ v,fin = .done (.ret v)/\Q v s') E s:=by
 refine later hz hT Z.ti fun g1 g' z1 b1=>?_
 refine nx_item (s:={ s with heap:=g1 }) (Z.a1.extBut b1.extBut D.i1z) (Z.t1.extBut b1.extBut D.l1z) hx fun g2 n2 b2=>?_
 refine nx_item (s:={ s with heap:=g2 }) ((Z.a2.extBut b1.extBut D.i2z).extBut b2.extBut D.i12.symm) ((Z.t2.extBut b1.extBut D.l2z).extBut b2.extBut D.l2i1) hy fun g3 n3 b3=>?_
 have sz:g3.objs.size=s.heap.objs.size:=by rw[b3.1,b2.1,b1.1]
 have k3:∀ c u,c≠z->c≠i1->c≠i2->s.heap.get? c=some u->g3.get? c=some u:=fun c u c1 c3 c4 e=>b3.extBut _ _ c4 (b2.extBut _ _ c3 (b1.extBut _ _ c1 e))
 have pu:∀ c u,g3.get? c=some u->(g3.push { cls:=.type "tuple",data:=.seq #[x,y] }).get? c=some u:=fun c u e=>yak _ e
 have T8:Pr (g3.push { cls:=.type "tuple",data:=.seq #[x,y] }) g3.objs.size x y:=yaw _ rfl
 have z3:ZO g3 z TI TO (rawInt T) g':=b3.extBut _ _ D.i2z.symm (b2.extBut _ _ D.i1z.symm z1)
 have hT3:∃ u,g3.get? T=some u:=by
  obtain⟨u,hT⟩:=hT
  have s1:∃ u,g1.get? T=some u:=by
   by_cases e:T=z
   ·rw[e];exact⟨_,z1⟩
   ·exact⟨u,b1.extBut _ _ e hT⟩
  obtain⟨u1,s1⟩:=s1
  have s2:∃ u,g2.get? T=some u:=by
   by_cases e:T=i1
   ·rw[e];obtain⟨o,q,_⟩:=n2;exact⟨o,q⟩
   ·exact⟨u1,b2.extBut _ _ e s1⟩
  obtain⟨u2,s2⟩:=s2
  by_cases e:T=i2
  ·rw[e];obtain⟨o,q,_⟩:=n3;exact⟨o,q⟩
  ·exact⟨u2,b3.extBut _ _ e s2⟩
 obtain⟨a,b,hTO⟩:=Z.tO
 obtain⟨u3,hT3⟩:=hT3
 refine⟨_,rfl,q _ g3.objs.size sz T8 ⟨⟨_,_,pu _ _ z3,.inr ⟨T,rfl,u3,pu _ _ hT3⟩,.inl (by unfold rawInt;exact fun z=>by cases z)⟩,pu _ _ (k3 _ _ D.TIz D.TIi1 D.TIi2 Z.ti),⟨a,b,pu _ _ (k3 _ _ D.TOz D.TOi1 D.TOi2 hTO)⟩,(n2.extBut b3.extBut D.i12).at fun o e=>pu _ o e,n3.at fun o e=>pu _ o e,Z.t1.at fun o e=>pu _ o (k3 _ o D.l1z D.l1i1 D.l1i2 e),Z.t2.at fun o e=>pu _ o (k3 _ o D.l2z D.l2i1 D.l2i2 e)⟩ fun c u c1 c2 c3 c4 e=>pu c u (k3 c u c1 c3 c4 e)⟩
theorem done1{Q:Fin->yah->Prop}(hh:A.handled=none)(D:ZipApart z TI TO i1 i2 l1 l2){T:Addr}{g:Value}(hz:ZO s.heap z TI TO (rawInt T) g)(hT:∃ u,s.heap.get? T=some u)(Z:ZS s.heap z TI TO i1 i2 l1 l2 xs ys i)(hx:xs[i]?=none)(q:∀ h' e,(∀ c u,c≠z->c≠TO->c≠i1->c≠i2->s.heap.get? c=some u->h'.get? c=some u)->(∃ u,h'.get? e=some u/\u.cls = .type "StopIteration")->E (.ref e) { s with heap:=h' }) :
  wpAny (model P w) A (Builtin.«zip.__next__» ⟨[.ref z],[]⟩) Q E s:=by
 refine later hz hT Z.ti fun g1 g' z1 b1=>?_
 refine zot (s:={ s with heap:=g1 }) hh (Z.a1.extBut b1.extBut D.i1z) (Z.t1.extBut b1.extBut D.l1z) hx fun h' e k he=>?_
 exact q h' e (fun c u c1 _ c3 _ e=>k c u c3 (b1.extBut _ _ c1 e)) he
end
end Zp
end L2
end
section
namespace L2
open PySem PySem.Spec PyProof.Rows
namespace Zp
section
variable {P:yav}{w:World}{A:Around}{E:Value->yah->Prop}{s:yah}{z TI TO i1 i2 l1 l2:Addr}{xs ys:Array Value}{i:Nat}
theorem zx4{x y:Value}{Q:Option Value->yah->Prop}(D:ZipApart z TI TO i1 i2 l1 l2)(Z:ZS s.heap z TI TO i1 i2 l1 l2 xs ys i)(hx:xs[i]?=some x)(hy:ys[i]?=some y)(q:∀ h' T,T=s.heap.objs.size->Pr h' T x y->ZS h' z TI TO i1 i2 l1 l2 xs ys (i+1)->(∀ c u,c≠z->c≠TO->c≠i1->c≠i2->s.heap.get? c=some u->h'.get? c=some u)->Q (some (.ref T)) { s with heap:=h' }) :
  wpAny (model P w) A (pyNext (.ref z)) Q E s:=by
 obtain⟨f,g,hz,hf,hi⟩:=Z.zo
 have ty:s.TypeIs (.ref z) "zip" := ⟨_,hz,rfl⟩
 unfold pyNext
 refine yaa ?_
 refine yd4 ?_
 refine ybl (name:=yc6 "__next__") ty yeh ?_
 refine yb6 yeh ty ygw ?_ (ygk _)
 rcases hf with hf | ⟨T,rfl,hT⟩
 ·refine item0 (k1:=true) (k2:=true) D hz hf Z.ti Z.tO Z.a1 Z.a2 Z.t1 Z.t2 hx hy fun h' T eT p1 z1 t1 t2 m1 m2 k=>?_
  refine yai ?_
  exact q h' T eT p1 ⟨⟨_,_,z1,.inr ⟨T,rfl,_,p1⟩,.inl (by unfold rawInt;exact fun z=>by cases z)⟩,t1,⟨_,_,t2⟩,m1,m2,Z.t1.at fun o e=>k _ _ D.l1z D.l1TO D.l1i1 D.l1i2 e,Z.t2.at fun o e=>k _ _ D.l2z D.l2TO D.l2i1 D.l2i2 e⟩ k
 ·refine item1 D hz hT Z hx hy fun h' T eT p1 z1 k=>?_
  refine yai ?_
  exact q h' T eT p1 z1 k
theorem zx5{Q:Option Value->yah->Prop}(hh:A.handled=none)(D:ZipApart z TI TO i1 i2 l1 l2)(Z:ZS s.heap z TI TO i1 i2 l1 l2 xs ys i)(hi:0<i)(hx:xs[i]?=none)(q:∀ h',(∀ c u,c≠z->c≠TO->c≠i1->c≠i2->s.heap.get? c=some u->h'.get? c=some u)->Q none { s with heap:=h' }) :
  wpAny (model P w) A (pyNext (.ref z)) Q E s:=by
 obtain⟨f,g,hz,hf,hi'⟩:=Z.zo
 have ty:s.TypeIs (.ref z) "zip" := ⟨_,hz,rfl⟩
 unfold pyNext
 refine yaa ?_
 refine yd4 ?_
 refine ybl (name:=yc6 "__next__") ty yeh ?_
 refine yb6 yeh ty ygw ?_ (ygk _)
 rcases hf with hf | ⟨T,rfl,hT⟩
 ·exact absurd hf (hi'.elim id fun z=>by omega)
 ·refine done1 (show A.in1.handled=none from hh) D hz hT Z hx fun h' e k he=>?_
  obtain⟨u,ea,ec⟩:=he
  refine yaa ?_
  refine yd1 (T := "StopIteration") (b:=true) ⟨u,ea,ec⟩ ygo ?_
  refine yai ?_
  exact q h' k
structure Prs(h:Heap)(base:Nat)(xs ys:Array Value)(Ts:List Addr):Prop where
 at_:∀(j:Nat) (T:Addr),Ts[j]?=some T->∃ x y,xs[j]?=some x/\ys[j]?=some y/\Pr h T x y
 lo:∀ T∈Ts,base<=T
 nd:Ts.Nodup
theorem Prs.lt{h:Heap}{base:Nat}{Ts:List Addr}(p:Prs h base xs ys Ts){T:Addr}(m:T∈Ts):T<h.objs.size:=by
 obtain⟨j,e⟩:=ydo m
 obtain⟨x,y,_,_,q⟩:=p.at_ j T e
 exact yar q
theorem zloop(hh:A.handled=none)(D:ZipApart z TI TO i1 i2 l1 l2)(base:Nat)(S:Addr)(res:Value)(hb:base<=z/\base<=TO/\base<=i1/\base<=i2/\base<=S)(hS:S≠z/\S≠TO/\S≠i1/\S≠i2/\S≠TI/\S≠l1/\S≠l2)(n:Nat)(hx:xs.size=n)(hy:ys.size=n)(hn0:0<n)(hn:n<=yay){R:Result->yah->Prop} :
  ∀(k i:Nat) (s:yah) (Ts:List Addr) (c:Nat),n - i=k->i<=n->ZS s.heap z TI TO i1 i2 l1 l2 xs ys i->s.heap.get? S=some { cls:=.type "list",dict:=none,data:=.seq (Ts.map ybm).toArray c,slots:=#[] }->Ts.length=i->Prs s.heap base xs ys Ts->S ∉ Ts->(∀ T∈Ts,T≠z/\T≠TO/\T≠i1/\T≠i2) ->
   (∀(h':Heap) (Ts':List Addr) (c':Nat),h'.get? S=some { cls:=.type "list",dict:=none,data:=.seq (Ts'.map ybm).toArray c',slots:=#[] }->Ts'.length=n->Prs h' base xs ys Ts'->S ∉ Ts'->(∀ b u,b<base->s.heap.get? b=some u->h'.get? b=some u)->R (.ok (.ret res)) { s with heap:=h' }) ->
   codeAny (model P w) A (.builtin "list.extend.loop" ⟨[.ref S,.ref z,res],[]⟩) R s:=by
 intro k
 induction k with
 | zero =>
  intro i s Ts c hk hi Z hl hlen pr nS nT hR
  obtain rfl:i=n:=by omega
  refine codeAny_builtin yj8 ?_
  rw[ydp ye8 _]
  refine yaa (m:=pyNext (.ref z)) ?_
  refine zx5 (show A.in1.handled=none from hh) D Z hn0 (by rw[yek];omega) fun h' k'=>?_
  refine yai ?_
  refine hR h' Ts c (k' _ _ hS.1 hS.2.1 hS.2.2.1 hS.2.2.2.1 hl) hlen ⟨fun j T e=>?_,pr.lo,pr.nd⟩ nS fun b u hb' e=>?_
  ·obtain⟨x,y,a1,a2,a3⟩:=pr.at_ j T e
   obtain⟨t1,t2,t3,t4⟩:=nT T (yat e)
   exact⟨x,y,a1,a2,k' _ _ t1 t2 t3 t4 a3⟩
  ·exact k' b u (yba (yaz hb' hb.1)) (yba (yaz hb' hb.2.1)) (yba (yaz hb' hb.2.2.1)) (yba (yaz hb' hb.2.2.2.1)) e
 | succ k ih =>
  intro i s Ts c hk hi Z hl hlen pr nS nT hR
  have lt:i<n:=by omega
  refine codeAny_builtin yj8 ?_
  rw[ydp ye8 _]
  refine yaa (m:=pyNext (.ref z)) ?_
  refine zx4 D Z (yct (show i<xs.size by omega)) (yct (show i<ys.size by omega)) fun h1 T eT p1 Z1 k1=>?_
  have hl1:=k1 _ _ hS.1 hS.2.1 hS.2.2.1 hS.2.2.2.1 hl
  have Slt:S<s.heap.objs.size:=yar hl
  have TS:S≠T:=by rw[eT];exact yba Slt
  obtain⟨f,g,hz,_⟩:=Z.zo
  obtain⟨a,b,hTO⟩:=Z.tO
  have zlt:z<s.heap.objs.size:=yar hz
  have TOlt:TO<s.heap.objs.size:=yar hTO
  have i1lt:i1<s.heap.objs.size:=by obtain⟨_,e,_⟩:=Z.a1;exact yar e
  have i2lt:i2<s.heap.objs.size:=by obtain⟨_,e,_⟩:=Z.a2;exact yar e
  refine yaa (m:=updateSeq S (·.push (.ref T))) ?_
  refine yfl (s:={ s with heap:=h1 }) hl1 rfl ?_ (by simp only[ya3,yab];omega) (by show(((Ts.map ybm).toArray).push (.ref T)).size<=yay+1;simp only[ymb,ya3,yab];omega)
  have g2:=ycm (ycs (·.push (.ref T))) hl1 rfl
  have oth:∀ b u,b≠S->h1.get? b=some u->(h1.update S (ycs (·.push (.ref T)))).get? b=some u:=fun b u hb' e=>(ycv _ _ (yee hb')).trans e
  have g3:(h1.update S (ycs (·.push (.ref T)))).get? S=some { cls:=.type "list",dict:=none,data:=.seq ((Ts++[T]).map ybm).toArray (c+1),slots:=#[] }:=by
   rw[g2]
   show some (ycs _ _)=_
   simp[ycs]
  refine yai ⟨plainId_quiet ye8 _,ih (i+1) _ (Ts++[T]) (c+1) (by omega) lt ?_ g3 (by rw[ya7,hlen];rfl) ⟨fun j T' e=>?_,fun T' m=>?_,?_⟩ ?_ (fun T' m=>?_) fun h' Ts' c' a1 a2 a3 a4 a5=>?_⟩
  ·obtain⟨⟨f1,g1',e1,r1,n1⟩,b1,⟨x1,y1,c1⟩,m1,m2,t1,t2⟩:=Z1
   refine⟨⟨f1,g1',oth _ _ hS.1.symm e1,?_,n1⟩,oth _ _ hS.2.2.2.2.1.symm b1,⟨x1,y1,oth _ _ hS.2.1.symm c1⟩,m1.at fun o e=>oth _ _ hS.2.2.1.symm e,m2.at fun o e=>oth _ _ hS.2.2.2.1.symm e,t1.at fun o e=>oth _ _ hS.2.2.2.2.2.1.symm e,t2.at fun o e=>oth _ _ hS.2.2.2.2.2.2.symm e⟩
   rcases r1 with r1 | ⟨T0,r1,u,q⟩
   ·exact .inl r1
   ·refine .inr ⟨T0,r1,?_⟩
    by_cases e:T0=S
    ·rw[e];exact⟨_,g3⟩
    ·exact⟨u,oth _ _ e q⟩
  ·by_cases hj:j<Ts.length
   ·rw[yer hj]at e
    obtain⟨x,y,a1,a2,a3⟩:=pr.at_ j T' e
    obtain⟨t1,t2,t3,t4⟩:=nT T' (yat e)
    exact⟨x,y,a1,a2,oth _ _ (fun z=>nS (z ▸ yat e)) (k1 _ _ t1 t2 t3 t4 a3)⟩
   ·have ej:j=Ts.length:=by
     have:=(yag.mp e).1
     rw[ya7]at this
     simp at this
     omega
    subst ej
    simp at e
    subst e
    rw[hlen]
    exact⟨_,_,yct (show i<xs.size by omega),yct (show i<ys.size by omega),oth _ _ TS.symm p1⟩
  ·rcases yb1.mp m with m | m
   ·exact pr.lo T' m
   ·rw[ya4.mp m,eT]
    exact ybq hb.1 (ycx zlt)
  ·rw[yk1]
   refine⟨pr.nd,(by simp),fun a ha b hb'=>?_⟩
   rw[ya4.mp hb',eT]
   exact yba (pr.lt ha)
  ·intro m
   rcases yb1.mp m with m | m
   ·exact nS m
   ·exact TS (ya4.mp m)
  ·rcases yb1.mp m with m | m
   ·exact nT T' m
   ·rw[ya4.mp m,eT]
    exact⟨yb2 zlt,yb2 TOlt,yb2 i1lt,yb2 i2lt⟩
  ·refine hR h' Ts' c' a1 a2 a3 a4 fun b u hb' e=>a5 b u hb' (oth _ _ (yba (yaz hb' hb.2.2.2.2)) ?_)
   exact k1 b u (yba (yaz hb' hb.1)) (yba (yaz hb' hb.2.1)) (yba (yaz hb' hb.2.2.1)) (yba (yaz hb' hb.2.2.2.1)) e
end
end Zp
end L2
end
section
namespace L2
open PySem PySem.Spec PyProof.Rows
namespace Zp
abbrev q1(h:Heap)(l1:Addr):Heap:=h.push { cls:=.type "tuple_iterator",data:=.fields #[.ref l1,.int 0 0] }
abbrev q2(h:Heap)(l1 l2:Addr):Heap:=(q1 h l1).push { cls:=.type "tuple_iterator",data:=.fields #[.ref l2,.int 0 0] }
abbrev q3(h:Heap)(l1 l2:Addr):Heap:=(q2 h l1 l2).push { cls:=.type "tuple",data:=.seq #[.ref h.objs.size,.ref (q1 h l1).objs.size] }
abbrev q4(h:Heap)(l1 l2:Addr):Heap:=(q3 h l1 l2).push { cls:=.type "tuple",data:=.seq #[.none,.none] }
abbrev q5(h:Heap)(l1 l2:Addr):Heap:=(q4 h l1 l2).push { cls:=.type "zip",data:=.fields #[.none,.bool false,.bool false,.ref (q2 h l1 l2).objs.size,.ref (q3 h l1 l2).objs.size] }
theorem zx6(l1 l2:Addr)(xs ys:Array Value) :
  Meets (Builtin.«zip.__new__» ⟨[.type "zip",.ref l1,.ref l2],[]⟩) (fun _ R s=>s.heap.IsTuple l1 xs/\s.heap.IsTuple l2 ys/\R (.ok (.ret (.ref (q4 s.heap l1 l2).objs.size))) { s with heap:=q5 s.heap l1 l2 }) :=
 .of_wp fun prog w A R s h=>by
  obtain⟨hp,g,d,tk,os⟩:=s
  obtain⟨hl1,hl2,h⟩:=h
  have hsub:=sub_zip
  have e1:ylp (yil ⟨hp,g,d,tk,os⟩) l1 xs:=hl1
  have e2:ylp (yil ⟨hp.push { cls:=.type "tuple_iterator",data:=.fields #[.ref l1,.int 0 0] },g,d,tk,os⟩) l2 ys:=hl2.at fun o e=>yak _ e
  wp_walk using ydh e1,ydh e2
  exact⟨_,rfl,h⟩
section
variable {P:yav}{w:World}{A:Around}{E:Value->yah->Prop}{s:yah}
theorem zvp{l1 l2:Addr}{xs ys:Array Value}{Q:Value->yah->Prop}(hl1:s.heap.IsTuple l1 xs)(hl2:s.heap.IsTuple l2 ys)(q:∀ h',ZS h' (s.heap.objs.size+4) (s.heap.objs.size+2) (s.heap.objs.size+3) s.heap.objs.size (s.heap.objs.size+1) l1 l2 xs ys 0->h'.objs.size=s.heap.objs.size+5->(∀ c u,s.heap.get? c=some u->h'.get? c=some u)->Q (.ref (s.heap.objs.size+4)) { s with heap:=h' }) :
  wpAny (model P w) A (call (.type "zip") [.ref l1,.ref l2]) Q E s:=by
 refine ylq F.called_zip (by decide) (yl0 _ _) (F.newCall_zip_2 _ _) (fun obj=>yjv obj _ _) F.entry_zip_new (zx6 l1 l2 xs ys) ⟨hl1,hl2,?_⟩
 have z1:(q1 s.heap l1).objs.size=s.heap.objs.size+1:=ybe ..
 have z2:(q2 s.heap l1 l2).objs.size=s.heap.objs.size+2:=by rw[ybe,z1]
 have z3:(q3 s.heap l1 l2).objs.size=s.heap.objs.size+3:=by rw[ybe,z2]
 have z4:(q4 s.heap l1 l2).objs.size=s.heap.objs.size+4:=by rw[ybe,z3]
 have z5:(q5 s.heap l1 l2).objs.size=s.heap.objs.size+5:=by rw[ybe,z4]
 have p:∀(h:Heap) (o:Obj) (c:Addr) (u:Obj),h.get? c=some u->(h.push o).get? c=some u:=fun h o c u e=>yak _ e
 have g5:(q5 s.heap l1 l2).get? (q4 s.heap l1 l2).objs.size=some _:=yaw _ rfl
 have g4:(q5 s.heap l1 l2).get? (q3 s.heap l1 l2).objs.size=some _:=p _ _ _ _ (yaw _ rfl)
 have g3:(q5 s.heap l1 l2).get? (q2 s.heap l1 l2).objs.size=some _:=p _ _ _ _ (p _ _ _ _ (yaw _ rfl))
 have g2:(q5 s.heap l1 l2).get? (q1 s.heap l1).objs.size=some _:=p _ _ _ _ (p _ _ _ _ (p _ _ _ _ (yaw _ rfl)))
 have g1:(q5 s.heap l1 l2).get? s.heap.objs.size=some _:=p _ _ _ _ (p _ _ _ _ (p _ _ _ _ (p _ _ _ _ (yaw _ rfl))))
 have kk:∀ c u,s.heap.get? c=some u->(q5 s.heap l1 l2).get? c=some u:=fun c u e=>p _ _ _ _ (p _ _ _ _ (p _ _ _ _ (p _ _ _ _ (p _ _ _ _ e))))
 show _/\_
 rw[z2,z3,z4]at g5
 rw[z1,z2]at g3
 rw[z3]at g4
 rw[z1]at g2
 rw[z4]
 refine⟨⟨_,g5,rfl⟩,q _ ⟨⟨_,_,g5,.inl rfl,.inr rfl⟩,g3,⟨_,_,g4⟩,⟨_,g1,rfl,rfl⟩,⟨_,g2,rfl,rfl⟩,hl1.at fun o e=>kk _ _ e,hl2.at fun o e=>kk _ _ e⟩ z5 kk⟩
theorem zvq:typeLookup (.type "zip") "__len__" = pure none:=by rw[typeLookup_type,builtinLookup_eq_fast];kernel_rfl
theorem zte:typeLookup (.type "zip") "__length_hint__" = pure none:=by rw[typeLookup_type,builtinLookup_eq_fast];kernel_rfl
theorem zvr{z TI TO i1 i2 l1 l2:Addr}{xs ys:Array Value}{Q:Value->yah->Prop}(hh:A.handled=none)(D:ZipApart z TI TO i1 i2 l1 l2)(Z:ZS s.heap z TI TO i1 i2 l1 l2 xs ys 0)(base:Nat)(hb:base<=z/\base<=TO/\base<=i1/\base<=i2)(n:Nat)(hx:xs.size=n)(hy:ys.size=n)(hn0:0<n)(hn:n<=yay)(q:∀(h':Heap) (Ts:List Addr) (c':Nat),h'.get? s.heap.objs.size=some { cls:=.type "list",dict:=none,data:=.seq (Ts.map ybm).toArray c',slots:=#[] }->Ts.length=n->Prs h' base xs ys Ts->s.heap.objs.size ∉ Ts->(∀ b u,b<base->s.heap.get? b=some u->h'.get? b=some u)->Q (.ref s.heap.objs.size) { s with heap:=h' }) :
  wpAny (model P w) A (call (.type "list") [.ref z]) Q E s:=by
 refine callType_codes (Q₁:=fun obj s₁=>obj = .ref s.heap.objs.size/\s₁={ s with heap:=s.heap.push { cls:=.type "list",data:=.seq #[] } }) F.called_list (F.typeCall_list_1 _) F.entry_list_init (code_list_new _ ⟨rfl,rfl⟩) fun obj s1 h1=>?_
 obtain⟨rfl,rfl⟩:=h1
 have g0:(s.heap.push { cls:=.type "list",data:=.seq #[] }).get? s.heap.objs.size=some { cls:=.type "list",dict:=none,data:=.seq #[] 0,slots:=#[] }:=yaw _ rfl
 refine⟨⟨_,g0,rfl⟩,F.args_list_init_2 _ _,?_⟩
 obtain⟨f,g,hz,_⟩:=Z.zo
 obtain⟨a,b,hTO⟩:=Z.tO
 have zlt:z<s.heap.objs.size:=yar hz
 have TOlt:TO<s.heap.objs.size:=yar hTO
 have TIlt:TI<s.heap.objs.size:=yar Z.ti
 have i1lt:i1<s.heap.objs.size:=by obtain⟨_,e,_⟩:=Z.a1;exact yar e
 have i2lt:i2<s.heap.objs.size:=by obtain⟨_,e,_⟩:=Z.a2;exact yar e
 have l1lt:l1<s.heap.objs.size:=by obtain⟨_,e,_⟩:=Z.t1;exact yar e
 have l2lt:l2<s.heap.objs.size:=by obtain⟨_,e,_⟩:=Z.t2;exact yar e
 show wpAny _ _ (do let old <- Builtin.List.listItems (.ref s.heap.objs.size);Builtin.List.listUpdate (.ref s.heap.objs.size) (fun _=>#[]);letGo old.toList.reverse;yeg (.ref s.heap.objs.size) (.ref z) .none) _ _ _
 refine yaa ?_
 refine listItems_at (s:={ s with heap:=s.heap.push { cls:=.type "list",data:=.seq #[] } }) g0 rfl ?_
 refine yaa ?_
 refine listUpdate_at (s:={ s with heap:=s.heap.push { cls:=.type "list",data:=.seq #[] } }) g0 rfl ?_
 have g1:=ycm (ycs (fun _=>(#[]:Array Value))) g0 rfl
 have k1:∀ c u,s.heap.get? c=some u->((s.heap.push { cls:=.type "list",data:=.seq #[] }).update s.heap.objs.size (ycs (fun _=>(#[]:Array Value)))).get? c=some u:=fun c u e =>
  (ycv _ _ (yb2 (yar e))).trans (yak _ e)
 generalize (s.heap.push { cls:=.type "list",data:=.seq #[] }).update s.heap.objs.size (ycs (fun _=>(#[]:Array Value)))=h1 at g1 k1 ⊢
 refine yaa ?_
 refine yij ?_
 have Z1:=Z.stay k1
 have hz1:=k1 _ _ hz
 unfold yeg
 refine yaa (ylo (s:={ s with heap:=h1 }) (T := "zip") ⟨_,hz1,rfl⟩ ?_)
 have c1:ye0 (.ref s.heap.objs.size) (.ref z)=false:=by simp[ye0,yb2 zlt]
 have c2:(ydc "zip" == ydc "list")=false:=by decide
 have c3:(ydc "zip" == ydc "tuple")=false:=by decide
 simp only[c1,c2,c3,ykm,yb4,if_false]
 refine yaa ?_
 refine yh2 (s:={ s with heap:=h1 }) (T := "zip") ⟨_,hz1,rfl⟩ F.slot_zip_iter (yb6 F.slot_zip_iter ⟨_,hz1,rfl⟩ F.entry_zip_iter ?_ (F.args_zip_iter_1 _))
 refine yai ?_
 refine⟨_,rfl,"zip",_,⟨_,hz1,rfl⟩,F.slot_zip_next.lookup,?_⟩
 refine yaa ?_
 refine yco ?_
 unfold yfk
 refine yaa (yfh (s:={ s with heap:=h1 }) (T := "zip") ⟨_,hz1,rfl⟩ zvq ?_)
 refine yaa (m:=specialOf (ybm z) (yc6 "__length_hint__")) ?_
 refine yfh (s:={ s with heap:=h1 }) (T := "zip") ⟨_,hz1,rfl⟩ zte ?_
 refine yai ?_
 refine yaa (m:=rule "list.extend.makes-room") ?_
 refine ygj ?_
 refine yaa ?_
 show wpAny _ _ (updateSeq s.heap.objs.size (·.push .none) >>= fun _=>updateSeq s.heap.objs.size (·.pop)) _ _ _
 refine yaa ?_
 refine yfl (s:={ s with heap:=h1 }) g1 rfl ?_
 have g2:=ycm (ycs (·.push ydn)) g1 rfl
 refine yfl (hz:=by seq_fits) g2 rfl ?_
 have g3:=ycm (ycs (·.pop)) g2 rfl
 have oth:∀ c u,s.heap.get? c=some u->((h1.update s.heap.objs.size (ycs (·.push ydn))).update s.heap.objs.size (ycs (·.pop))).get? c=some u:=fun c u e =>
  (ycv _ _ (yb2 (yar e))).trans ((ycv _ _ (yb2 (yar e))).trans (k1 c u e))
 refine yai ⟨plainId_quiet ye8 _,zloop (show A.in1.handled=none from hh) D base s.heap.objs.size .none ⟨hb.1,hb.2.1,hb.2.2.1,hb.2.2.2,ybq hb.1 (ycx zlt)⟩ ⟨yb2 zlt,yb2 TOlt,yb2 i1lt,yb2 i2lt,yb2 TIlt,yb2 l1lt,yb2 l2lt⟩ n hx hy hn0 hn n 0 _ [] _ rfl (ybj _) (Z.stay oth) g3 rfl ⟨(fun j T e=>by simp at e),(fun T m=>nomatch m),yhr⟩ (fun m=>nomatch m) (fun T m=>nomatch m) fun h' Ts c' a1 a2 a3 a4 a5=>?_⟩
 exact⟨rfl,q h' Ts c' a1 a2 a3 a4 fun b u hb' e=>a5 b u hb' (oth b u e)⟩
end
end Zp
end L2
end
section
namespace L2
open PySem PySem.Spec PyProof.Rows
theorem Un.many{fs ex:List Addr}{H H':Hp}{h h':Heap}(k:∀ b u,h.get? b=some u->h'.get? b=some u)(old:∀ b o,H b=some o->H' b=some o)(new:∀ b,H b=none->H' b≠none->h.objs.size<=b):Un fs ex H H' h h' where
 keep:=fun b u q _ _ _=>k b u q
 slot:=fun b u q _ _ _=>⟨u.slots,k b u q⟩
 free:=fun b u q n _=>by
  cases e:H' b with
  | none=>rfl
  | some o=>exact absurd (new b n (by rw[e];exact fun z=>by cases z)) (ymz.mpr (yar q))
 there:=fun b u q _=>⟨u,k b u q⟩
 tups:=fun b xs q=>old b _ q
 frzs:=fun b u xs q=>old b _ q
 tbls:=fun b ps q=>⟨#[],by rw[old b _ q];simp⟩
theorem Inv.many{X:Cx}{pins:List (Addr × Obj)}{σ:List (Option V)}{H H':Hp}{s:yah}{h':Heap}{t':Nat}(I:Inv X pins σ H s)(k:∀ b u,s.heap.get? b=some u->h'.get? b=some u)(old:∀ b o,H b=some o->H' b=some o)(new:∀ b o,H b=none->H' b=some o->s.heap.objs.size<=b/\ObjOk X.prog X.w H' h' b o) :
  Inv X pins σ H' { s with heap:=h',toks:=t' }:=by
 refine I.un (Un.many k old fun b n q=>?_) fun b o e=>?_
 ·cases e:H' b with
  | none=>exact absurd e q
  | some o=>exact(new b o n e).1
 ·cases e0:H b with
  | none=>exact(new b o e0 e).2
  | some o0 =>
   have:=old b o0 e0
   rw[e]at this
   cases this
   exact(I.hok b o e0).stay (fun c u _ q=>k c u q) (fun c q=>old c _ q) fun c xs q=>old c _ q
def zeb:List V->List V->List (List V)
 | x::xs,y::ys=>[x,y]::zeb xs ys
 | _,_=>[]
theorem zeu:∀{xs ys:List V} {j:Nat} {x y:V},xs[j]?=some x->ys[j]?=some y->(zeb xs ys)[j]?=some [x,y]
 | x::xs,y::ys,0,_,_,e,e'=>by simp at e e';subst e e';rfl
 | x::xs,y::ys,j+1,_,_,e,e'=>by
  show(zeb xs ys)[j]?=_
  exact zeu (by simpa using e) (by simpa using e')
 | [],_,_,_,_,e,_=>by simp at e
 | _::_,[],_,_,_,_,e=>by simp at e
theorem zhu:∀{xs ys:List V},xs.length=ys.length->(zeb xs ys).length=xs.length
 | [],_,_=>rfl
 | _::_,[],h=>by cases h
 | x::xs,y::ys,h=>by
  show(zeb xs ys).length+1=xs.length+1
  rw[zhu (by simpa using h)]
def at2(Ts:List Addr)(ps:List (List V))(b:Addr):Option HO:=(ps[Ts.idxOf b]?).map HO.tup
def laidZ(H:Hp)(S:Addr)(Ts:List Addr)(ps:List (List V)):Hp:=fun b=>if b=S then some (.lst (Ts.map V.ref)) else match at2 Ts ps b with
 | some o=>some o
 | none=>H b
theorem zou{Ts:List Addr}{ps:List (List V)}(hl:ps.length=Ts.length){b:Addr}(h:b ∉ Ts):at2 Ts ps b=none:=by
 unfold at2
 rw[ybz.mpr (by rw[hl];exact yhk (List.idxOf_eq_length h).symm)]
 rfl
theorem zov{Ts:List Addr}{ps:List (List V)}(hn:Ts.Nodup){j:Nat}{T:Addr}{p:List V}(h:Ts[j]?=some T)(hp:ps[j]?=some p):at2 Ts ps T=some (.tup p):=by
 have e:Ts.idxOf T=j:=by
  obtain⟨hj,e⟩:=yag.mp h
  have hm:T∈Ts:=yat h
  have hlt:=ydk hm
  have e2:Ts[Ts.idxOf T]=T:=List.getElem_idxOf hlt
  exact(ygt hn).mp (e2.trans e.symm)
 unfold at2
 rw[e,hp]
 rfl
theorem zfu{α β:Type}{F:α->β->Prop}:∀{l:List α} {r:List β},l.length=r.length->(∀(j:Nat) x y,l[j]?=some x->r[j]?=some y->F x y)->Paired F l r
 | [],[],_,_=>.nil
 | [],_::_,h,_=>by cases h
 | _::_,[],h,_=>by cases h
 | x::l,y::r,h,k=>.cons (k 0 x y rfl rfl) (zfu (by simpa using h) fun j x' y' e e'=>k (j+1) x' y' (by simpa using e) (by simpa using e'))
def zvs(K:yac)(t:TA):TE:=fun σ H Q=>t σ H fun vs H1=>∃(a b:Addr) (xs ys:List V),vs=[.ref a,.ref b]/\SqT K H1 a xs/\SqT K H1 b ys/\xs.length=ys.length/\0<xs.length/\xs.length<=yay /\
 ∀ H2 S Ts,Same H1 H2->H2 S=some (.lst (Ts.map V.ref))->Paired (fun T p=>H2 T=some (.tup p)) Ts (zeb xs ys)->H1 S=none->Q (.ref S) H2
theorem zrs{X:Cx}{e e2:Expr}{ta:TA}{p p' pos pos':Pos}(hc:X.calm=true)(hg:Gl X "list")(hm:X.mg "list" = none)(hg':Gl X "zip")(hm':X.mg "zip" = none)(ha:PA X [e,e2] ta)(hs:ycb [e,e2] X.env=(false,eval e X.env)::ycb [e2] X.env:=by rfl)(hpl:(backTo pos' (ycb [e2] X.env)).any (·.1)=false:=by rfl)(hso:ycb [.Call (.Name "zip" p') [e,e2] [] pos'] X.env=[(false,eval (.Call (.Name "zip" p') [e,e2] [] pos') X.env)]:=by rfl) :
  PE X (.Call (.Name "list" p) [.Call (.Name "zip" p') [e,e2] [] pos'] [] pos) (zvs X.K ta):=by
 intro pins s σ H Q I h
 refine ydi (zf5 I hg hm (by decide +kernel:yd5 "list" = some (.type "list")) ?_)
 refine ycy ?_ hso rfl
 rw[hso]
 refine ykl ?_
 refine Call_ (zf5 I hg' hm' zmn (ycy (thn (ha pos' pins s σ H _ I h) fun us s1 ⟨vs,H1,I1,r1,q1⟩=>?_) hs hpl))
 obtain⟨a,b,xs,ys,ex,hqx,hqy,hl,h0,hz,q⟩:=q1
 subst ex
 obtain⟨u1,u2,rfl,ru1,ru2⟩:=vals2 r1
 obtain rfl:u1=ybm a:=ru1
 obtain rfl:u2=ybm b:=ru2
 obtain⟨its,rv,p1,_⟩:=I1.tuple hqx
 obtain⟨its2,rv2,p2,_⟩:=I1.tuple hqy
 have la:a<s1.heap.objs.size:=by obtain⟨o,e,_⟩:=p1;exact yar e
 have lb:b<s1.heap.objs.size:=by obtain⟨o,e,_⟩:=p2;exact yar e
 have n1:=rv.length
 have n2:=rv2.length
 refine Zp.zvp p1 p2 fun h1 Z sz k1=>?_
 refine yky ?_
 have D:=yk8 s1.heap.objs.size a b la lb
 refine Zp.zvr (s:={ s1 with heap:=h1 }) (I1.ok.hd hc) D Z s1.heap.objs.size ⟨yc9 _ _,yc9 _ _,yao _,yc9 _ _⟩ xs.length (by simp;omega) (by simp;omega) h0 hz fun h2 Ts c2 hS hlen pr nS k2=>?_
 have kk:∀ c u,s1.heap.get? c=some u->h2.get? c=some u:=fun c u e=>k2 c u (yar e) (k1 c u e)
 have hps:(zeb xs ys).length=Ts.length:=by rw[zhu hl,hlen]
 have hS1:s1.heap.objs.size<=h1.objs.size:=by rw[sz];exact yc9 _ _
 have frS:H1 h1.objs.size=none:=I1.hok.fresh hS1
 have frT:∀ T∈Ts,H1 T=none:=fun T m=>I1.hok.fresh (pr.lo T m)
 have same:Same H1 (laidZ H1 h1.objs.size Ts (zeb xs ys)):=fun c o e=>by
  unfold laidZ
  rw[if_neg (zn e frS),zou hps (fun m=>by rw[frT c m]at e;cases e)]
  exact e
 have atT:∀ j T,Ts[j]?=some T->∃ x y,xs[j]?=some x/\ys[j]?=some y/\laidZ H1 h1.objs.size Ts (zeb xs ys) T=some (.tup [x,y]):=fun j T e=>by
  have hj:j<Ts.length:=(yag.mp e).1
  have ex:xs[j]?=some (xs[j]'(by omega)):=yad (by omega)
  have ey:ys[j]?=some (ys[j]'(by omega)):=yad (by omega)
  refine⟨_,_,ex,ey,?_⟩
  unfold laidZ
  rw[if_neg (show ¬ T=h1.objs.size from fun z=>nS (by show h1.objs.size∈Ts;rw[<- z];exact yat e)),zov pr.nd e (zeu ex ey)]
 refine⟨.ref h1.objs.size,laidZ H1 h1.objs.size Ts (zeb xs ys),I1.many (t':=s1.toks) kk same fun c o n e=>?_,rfl,q _ _ Ts same ?_ ?_ frS⟩
 ·unfold laidZ at e
  by_cases ec:c=h1.objs.size
  ·rw[if_pos ec]at e
   cases e
   subst ec
   refine⟨hS1,?_,Ts.map ybm,c2,?_,hS⟩
   ·rw[yab,hlen];exact hz
   ·have gen:∀ l:List Addr,Vals (l.map V.ref) (l.map ybm):=by
     intro l
     induction l with
     | nil=>exact .nil
     | cons x l ih=>exact .cons rfl ih
    exact gen Ts
  ·rw[if_neg ec]at e
   by_cases m:c∈Ts
   ·obtain⟨j,ej⟩:=ydo m
    obtain⟨x,y,ex,ey,_⟩:=atT j c ej
    rw[zov pr.nd ej (zeu ex ey)]at e
    cases e
    obtain⟨x',y',ex',ey',pp⟩:=pr.at_ j c ej
    obtain⟨v1,g1,r1'⟩:=rv.get ex
    obtain⟨v2,g2,r2'⟩:=rv2.get ey
    have e1:x'=v1:=by
     rw[yfj,g1]at ex'
     exact(ya1 ex').symm
    have e2:y'=v2:=by
     rw[yfj,g2]at ey'
     exact(ya1 ey').symm
    subst e1 e2
    refine⟨pr.lo c m,(by show 2<=yay;rw[ybr];decide),[x',y'],.cons r1' (.cons r2' .nil),⟨_,pp,rfl,_,rfl⟩⟩
   ·rw[zou hps m,n]at e
    cases e
 ·unfold laidZ
  rw[if_pos rfl]
 ·refine zfu hps.symm fun j T pv e1 e2'=>?_
  obtain⟨x,y,ex,ey,hh⟩:=atT j T e1
  rw[zeu ex ey]at e2'
  cases e2'
  exact hh
end L2
end
section
namespace L2
open PySem PySem.Spec PyProof.Rows
namespace Zp
def itn:Bool->String
 | true => "tuple_iterator"
 | false => "list_iterator"
abbrev r1(k1:Bool)(h:Heap)(l1:Addr):Heap:=h.push { cls:=.type (itn k1),data:=.fields #[.ref l1,.int 0 0] }
abbrev r2(k1 k2:Bool)(h:Heap)(l1 l2:Addr):Heap:=(r1 k1 h l1).push { cls:=.type (itn k2),data:=.fields #[.ref l2,.int 0 0] }
abbrev r3(k1 k2:Bool)(h:Heap)(l1 l2:Addr):Heap:=(r2 k1 k2 h l1 l2).push { cls:=.type "tuple",data:=.seq #[.ref h.objs.size,.ref (r1 k1 h l1).objs.size] }
abbrev r4(k1 k2:Bool)(h:Heap)(l1 l2:Addr):Heap:=(r3 k1 k2 h l1 l2).push { cls:=.type "tuple",data:=.seq #[.none,.none] }
abbrev r5(k1 k2:Bool)(h:Heap)(l1 l2:Addr):Heap:=(r4 k1 k2 h l1 l2).push { cls:=.type "zip",data:=.fields #[.none,.bool false,.bool false,.ref (r2 k1 k2 h l1 l2).objs.size,.ref (r3 k1 k2 h l1 l2).objs.size] }
section
variable {P:yav}{w:World}{A:Around}{E:Value->yah->Prop}{s:yah}
theorem zql{b:Bool}{l:Addr}{xs:Array Value}{Q:Value->yah->Prop}(hl:IsSq b s.heap l xs)(q:Q (.ref s.heap.objs.size) { s with heap:=r1 b s.heap l }):wpAny (model P w) A (pyIter (.ref l)) Q E s:=by
 cases b
 ·exact yge hl q
 ·exact ydh hl q
end
theorem zvt(k1 k2:Bool)(l1 l2:Addr)(xs ys:Array Value) :
  Meets (Builtin.«zip.__new__» ⟨[.type "zip",.ref l1,.ref l2],[]⟩) (fun _ R s=>IsSq k1 s.heap l1 xs/\IsSq k2 s.heap l2 ys/\R (.ok (.ret (.ref (r4 k1 k2 s.heap l1 l2).objs.size))) { s with heap:=r5 k1 k2 s.heap l1 l2 }) :=
 .of_wp fun prog w A R s h=>by
  obtain⟨hp,g,d,tk,os⟩:=s
  obtain⟨hl1,hl2,h⟩:=h
  have hsub:=sub_zip
  have e1:IsSq k1 (yil ⟨hp,g,d,tk,os⟩) l1 xs:=hl1
  have e2:IsSq k2 (yil ⟨r1 k1 hp l1,g,d,tk,os⟩) l2 ys:=IsSq.at (h:=hp) hl2 fun o e=>yak _ e
  wp_walk using zql e1,zql e2
  exact⟨_,rfl,h⟩
section
variable {P:yav}{w:World}{A:Around}{E:Value->yah->Prop}{s:yah}
theorem ztf{b:Bool}{h:Heap}{it l:Addr}(e:h.get? it=some { cls:=.type (itn b),data:=.fields #[.ref l,.int 0 0] }):IsIt b h it l 0:=by
 cases b
 ·exact⟨_,e,rfl,rfl⟩
 ·exact⟨_,e,rfl,rfl⟩
theorem ztg{k1 k2:Bool}{l1 l2:Addr}{xs ys:Array Value}{Q:Value->yah->Prop}(hl1:IsSq k1 s.heap l1 xs)(hl2:IsSq k2 s.heap l2 ys)(q:∀ h',IsZip h' (s.heap.objs.size+4) (s.heap.objs.size+2) (s.heap.objs.size+3) .none->IsPair h' (s.heap.objs.size+2) (.ref s.heap.objs.size) (.ref (s.heap.objs.size+1))->IsPair h' (s.heap.objs.size+3) .none .none->IsIt k1 h' s.heap.objs.size l1 0->IsIt k2 h' (s.heap.objs.size+1) l2 0->(∀ c u,s.heap.get? c=some u->h'.get? c=some u)->Q (.ref (s.heap.objs.size+4)) { s with heap:=h' }) :
  wpAny (model P w) A (call (.type "zip") [.ref l1,.ref l2]) Q E s:=by
 refine ylq F.called_zip (by decide) (yl0 _ _) (F.newCall_zip_2 _ _) (fun obj=>yjv obj _ _) F.entry_zip_new (zvt k1 k2 l1 l2 xs ys) ⟨hl1,hl2,?_⟩
 have z1:(r1 k1 s.heap l1).objs.size=s.heap.objs.size+1:=ybe ..
 have z2:(r2 k1 k2 s.heap l1 l2).objs.size=s.heap.objs.size+2:=by rw[ybe,z1]
 have z3:(r3 k1 k2 s.heap l1 l2).objs.size=s.heap.objs.size+3:=by rw[ybe,z2]
 have z4:(r4 k1 k2 s.heap l1 l2).objs.size=s.heap.objs.size+4:=by rw[ybe,z3]
 have p:∀(h:Heap) (o:Obj) (c:Addr) (u:Obj),h.get? c=some u->(h.push o).get? c=some u:=fun h o c u e=>yak _ e
 have g5:(r5 k1 k2 s.heap l1 l2).get? (r4 k1 k2 s.heap l1 l2).objs.size=some _:=yaw _ rfl
 have g4:(r5 k1 k2 s.heap l1 l2).get? (r3 k1 k2 s.heap l1 l2).objs.size=some _:=p _ _ _ _ (yaw _ rfl)
 have g3:(r5 k1 k2 s.heap l1 l2).get? (r2 k1 k2 s.heap l1 l2).objs.size=some _:=p _ _ _ _ (p _ _ _ _ (yaw _ rfl))
 have g2:(r5 k1 k2 s.heap l1 l2).get? (r1 k1 s.heap l1).objs.size=some _:=p _ _ _ _ (p _ _ _ _ (p _ _ _ _ (yaw _ rfl)))
 have g1:(r5 k1 k2 s.heap l1 l2).get? s.heap.objs.size=some _:=p _ _ _ _ (p _ _ _ _ (p _ _ _ _ (p _ _ _ _ (yaw _ rfl))))
 have kk:∀ c u,s.heap.get? c=some u->(r5 k1 k2 s.heap l1 l2).get? c=some u:=fun c u e=>p _ _ _ _ (p _ _ _ _ (p _ _ _ _ (p _ _ _ _ (p _ _ _ _ e))))
 show _/\_
 rw[z2,z3,z4]at g5
 rw[z1,z2]at g3
 rw[z3]at g4
 rw[z1]at g2
 rw[z4]
 exact⟨⟨_,g5,rfl⟩,q _ g5 g3 g4 (ztf g1) (ztf g2) kk⟩
variable {z TI TO i1 i2 l1 l2:Addr}{xs ys:Array Value}{i:Nat}{k1 k2:Bool}
theorem zx7{x y:Value}{Q:Option Value->yah->Prop}(D:ZipApart z TI TO i1 i2 l1 l2)(hz:IsZip s.heap z TI TO .none)(hTI:IsPair s.heap TI (.ref i1) (.ref i2))(hTO:∃ a b,IsPair s.heap TO a b)(h1:IsIt k1 s.heap i1 l1 i)(h2:IsIt k2 s.heap i2 l2 i)(hl1:IsSq k1 s.heap l1 xs)(hl2:IsSq k2 s.heap l2 ys)(hx:xs[i]?=some x)(hy:ys[i]?=some y)(q:∀ h' T,T=s.heap.objs.size->IsPair h' T x y->IsZip h' z TI TO (rawInt T)->IsPair h' TI (.ref i1) (.ref i2)->IsPair h' TO x y->IsIt k1 h' i1 l1 (i+1)->IsIt k2 h' i2 l2 (i+1)->(∀ c u,c≠z->c≠TO->c≠i1->c≠i2->s.heap.get? c=some u->h'.get? c=some u)->Q (some (.ref T)) { s with heap:=h' }) :
  wpAny (model P w) A (pyNext (.ref z)) Q E s:=by
 have ty:s.TypeIs (.ref z) "zip" := ⟨_,hz,rfl⟩
 unfold pyNext
 refine yaa ?_
 refine yd4 ?_
 refine ybl (name:=yc6 "__next__") ty yeh ?_
 refine yb6 yeh ty ygw ?_ (ygk _)
 refine item0 D hz rfl hTI hTO h1 h2 hl1 hl2 hx hy fun h' T eT p1 z1 t1 t2 m1 m2 k=>?_
 refine yai ?_
 exact q h' T eT p1 z1 t1 t2 m1 m2 k
theorem zx8{Q:Option Value->yah->Prop}(hh:A.handled=none)(D:ZipApart z TI TO i1 i2 l1 l2)(hz:IsZip s.heap z TI TO .none)(hTI:IsPair s.heap TI (.ref i1) (.ref i2))(h1:IsIt k1 s.heap i1 l1 i)(hl1:IsSq k1 s.heap l1 xs)(hx:xs[i]?=none)(q:∀ h',(∀ c u,c≠z->c≠i1->s.heap.get? c=some u->h'.get? c=some u)->Q none { s with heap:=h' }) :
  wpAny (model P w) A (pyNext (.ref z)) Q E s:=by
 have ty:s.TypeIs (.ref z) "zip" := ⟨_,hz,rfl⟩
 unfold pyNext
 refine yaa ?_
 refine yd4 ?_
 refine ybl (name:=yc6 "__next__") ty yeh ?_
 refine yb6 yeh ty ygw ?_ (ygk _)
 refine done0 (show A.in1.handled=none from hh) D hz hTI h1 hl1 hx fun h' e k he=>?_
 obtain⟨u,ea,ec⟩:=he
 refine yaa ?_
 refine yd1 (T := "StopIteration") (b:=true) ⟨u,ea,ec⟩ ygo ?_
 refine yai ?_
 exact q h' k
end
end Zp
theorem Inv.sq{X:Cx}{pins:List (Addr × Obj)}{σ:St}{H:Hp}{s:yah}{b:Bool}{a:Addr}{xs:List V}(I:Inv X pins σ H s)(h:Sq b X.K H a xs):∃ its:List Value,Vals xs its/\Zp.IsSq b s.heap a its.toArray/\a<s.heap.objs.size:=by
 cases b
 ·obtain⟨its,rv,p,_⟩:=I.list h
  exact⟨its,rv,p.isList,p.lt⟩
 ·obtain⟨its,rv,p,_⟩:=I.tuple h
  exact⟨its,rv,p,by obtain⟨_,e,_⟩:=p;exact yar e⟩
theorem Inv.sq_inj{X:Cx}{pins:List (Addr × Obj)}{σ:St}{H:Hp}{s:yah}{b:Bool}{a:Addr}{xs ys:List V}(I:Inv X pins σ H s)(h:Sq b X.K H a xs)(g:Sq b X.K H a ys):xs=ys:=by
 cases b
 ·exact I.list_inj h g
 ·exact I.tuple_inj h g
def ItG(K:yac)(k1 k2:Bool)(a b:Addr):It :=
 ⟨fun i H=>∃(xs ys:List V) (x y:V),Sq k1 K H a xs/\Sq k2 K H b ys/\xs[i]?=some x/\ys[i]?=some y,
  fun i H v H'=>∃ T x y,v = .ref T/\H T=none/\H'=upd H T (.tup [x,y])/\(∀ xs,Sq k1 K H a xs->xs[i]?=some x)/\∀ ys,Sq k2 K H b ys->ys[i]?=some y,
  fun i H=>∃ xs:List V,Sq k1 K H a xs/\xs.length<=i⟩
theorem zj6{c z TI TO i1 i2:Addr}(h:c∈[z,TI,TO,i1,i2]):c=z\/c=TI\/c=TO\/c=i1\/c=i2:=by simpa using h
theorem zth{P:yav}{w:World}{K:yac}{elts:List Expr}{kk:Nat}{tpos:Pos}{k1 k2:Bool}{a b z TI TO i1 i2:Addr}(D:ZipApart z TI TO i1 i2 a b) :
  Turn P w K (.Tuple elts kk tpos) (ItG K k1 k2 a b) [z,TI,TO,i1,i2] z (fun i h=>IsZip h z TI TO .none/\IsPair h TI (.ref i1) (.ref i2)/\(∃ x y,IsPair h TO x y)/\Zp.IsIt k1 h i1 a i/\Zp.IsIt k2 h i2 b i) where
 mem:=by simp
 obj:=fun i h st c hc=>by
  obtain⟨hz,hTI,⟨x,y,hTO⟩,h1,h2⟩:=st
  rcases zj6 hc with rfl | rfl | rfl | rfl | rfl
  ·exact⟨_,hz,fun v q=>nomatch q⟩
  ·exact⟨_,hTI,fun v q=>nomatch q⟩
  ·exact⟨_,hTO,fun v q=>nomatch q⟩
  ·exact h1.obj
  ·exact h2.obj
 keep:=fun i h h' st k=>by
  obtain⟨hz,hTI,⟨x,y,hTO⟩,h1,h2⟩:=st
  exact⟨k z (by simp) _ hz,k TI (by simp) _ hTI,⟨x,y,k TO (by simp) _ hTO⟩,h1.at fun o q=>k i1 (by simp) o q,h2.at fun o q=>k i2 (by simp) o q⟩
 item:=by
  intro X hP hw hK hc i pins s σ H E I hf st hg
  subst hP hw hK
  obtain⟨hz,hTI,hTO,h1,h2⟩:=st
  obtain⟨xs,ys,x,y,hqx,hqy,hx,hy⟩:=hg
  obtain⟨its,rv,p,_⟩:=I.sq hqx
  obtain⟨its2,rv2,p2,_⟩:=I.sq hqy
  obtain⟨u,hu,ru⟩:=rv.get hx
  obtain⟨u2,hu2,ru2⟩:=rv2.get hy
  have zl:z<s.heap.objs.size:=yar hz
  refine Zp.zx7 D hz hTI hTO h1 h2 p p2 (x:=u) (y:=u2) (by simpa using hu) (by simpa using hu2) fun h' T eT p1 z1 t1 t2 m1 m2 k=>?_
  subst eT
  refine⟨_,rfl,wpAny_letOwnedTupleGo_zip (s:={ s with heap:=h' }) z1 fun h2' z2 sb=>?_⟩
  have hT2:h2'.get? s.heap.objs.size=some { cls:=.type "tuple",data:=.seq #[u,u2] }:=(sb.2 _ (yb2 zl)).trans p1
  have new:ObjOk X.prog X.w (upd H s.heap.objs.size (.tup [x,y])) h2' s.heap.objs.size (.tup [x,y]):=⟨by show 2<=yay;decide,[u,u2],.cons ru (.cons ru2 .nil),⟨_,hT2,rfl,_,rfl⟩⟩
  have I1:Inv X pins σ (upd H s.heap.objs.size (.tup [x,y])) { s with heap:=h2' } :=
   I.turnedNew (t':=s.toks) (ch:=[z,TI,TO,i1,i2]) (fun c o hb q=>(sb.2 c (fun q'=>hb (by simp[q']))).trans (k c o (fun q'=>hb (by simp[q'])) (fun q'=>hb (by simp[q'])) (fun q'=>hb (by simp[q'])) (fun q'=>hb (by simp[q'])) q)) hf (yao _) new
  refine⟨.ref s.heap.objs.size,_,I1,rfl,⟨_,x,y,rfl,I.hok.fresh (yao _),rfl,fun l hl=>by rw[I.sq_inj hl hqx];exact hx,fun l hl=>by rw[I.sq_inj hl hqy];exact hy⟩,⟨z2,(sb.2 _ D.TIz).trans t1,⟨u,u2,(sb.2 _ D.TOz).trans t2⟩,m1.at fun o q=>(sb.2 _ D.i1z).trans q,m2.at fun o q=>(sb.2 _ D.i2z).trans q⟩,fun c hcm=>?_⟩
  have hlt:c<s.heap.objs.size:=by
   obtain⟨_,_,hTO⟩:=hTO
   rcases zj6 hcm with rfl | rfl | rfl | rfl | rfl
   ·exact zl
   ·exact yar hTI
   ·exact yar hTO
   ·obtain⟨_,e1,_⟩:=h1.obj;exact yar e1
   ·obtain⟨_,e2,_⟩:=h2.obj;exact yar e2
  rw[zh (yba hlt)]
  exact(hf c hcm).1
 done:=by
  intro X hP hw hK hc i pins s σ H E I hf st hg
  subst hP hw hK
  obtain⟨hz,hTI,hTO,h1,h2⟩:=st
  obtain⟨xs,hqx,hend⟩:=hg
  obtain⟨its,rv,p,_⟩:=I.sq hqx
  have l1:=rv.length
  exact Zp.zx8 (I.ok.hd hc) D hz hTI h1 p (by simp;omega) fun h' k=>⟨rfl,I.turnedL (t':=s.toks) (ch:=[z,TI,TO,i1,i2]) (fun c o hb q=>k c o (fun q'=>hb (by simp[q'])) (fun q'=>hb (by simp[q'])) q) hf⟩
 self:=fun A i s Q E st h=>wpAny_pyIter_zip st.1 h
def iZipG(K:yac)(k1 k2:Bool)(ta:TA):TI:=fun σ H R=>ta σ H fun vs H1=>∃ a b xs ys,vs=[.ref a,.ref b]/\Sq k1 K H1 a xs/\Sq k2 K H1 b ys/\R (ItG K k1 k2 a b) H1
theorem zl2{X:Cx}(k1 k2:Bool){e e2:Expr}{ta:TA}{p pos tpos:Pos}{elts:List Expr}{kk:Nat}(hg:Gl X "zip")(hm:X.mg "zip" = none)(ha:PA X [e,e2] ta)(hs:ycb [e,e2] X.env=(false,eval e X.env)::ycb [e2] X.env:=by rfl)(hpl:(backTo pos (ycb [e2] X.env)).any (·.1)=false:=by rfl) :
  PI X (.Tuple elts kk tpos) (.Call (.Name "zip" p) [e,e2] [] pos) (iZipG X.K k1 k2 ta):=by
 intro pins s σ H R I h
 refine Call_ (zf5 I hg hm zmn (ycy (thn (ha pos pins s σ H _ I h) fun us s1 ⟨vs,H1,I1,r1,q1⟩=>?_) hs hpl))
 obtain⟨a,b,xs,ys,ex,hqx,hqy,q⟩:=q1
 subst ex
 obtain⟨v1,v2,rfl,ra,rb⟩:=vals2 r1
 cases ra
 cases rb
 obtain⟨its,rv,p1,la⟩:=I1.sq hqx
 obtain⟨its2,rv2,p2,lb⟩:=I1.sq hqy
 refine Zp.ztg p1 p2 fun h' hz hTI hTO h1 h2 hk=>wpAny_pyIter_zip hz ?_
 have I2:Inv X pins σ H1 { s1 with heap:=h' }:=I1.kept (t':=s1.toks) hk
 refine⟨s1.heap.objs.size+4,[s1.heap.objs.size+4,s1.heap.objs.size+2,s1.heap.objs.size+3,s1.heap.objs.size,s1.heap.objs.size+1],_,_,H1,rfl,I2,zth (yk8 s1.heap.objs.size a b la lb),⟨hz,hTI,⟨_,_,hTO⟩,h1,h2⟩,fun c hcm=>?_,q⟩
 have hle:s1.heap.objs.size<=c:=by
  rcases zj6 hcm with z | z | z | z | z
  ·rw[z];exact yc9 _ _
  ·rw[z];exact yc9 _ _
  ·rw[z];exact yc9 _ _
  ·rw[z];exact yao _
  ·rw[z];exact yc9 _ _
 exact I1.fpOk hle (I1.hok.fresh hle)
theorem zx9(l b:Addr)(xs ys:Array Value)(n k:Nat)(d:Option Addr)(sl:Array (Option Value))(h0:¬(!xs.isEmpty && ydf (xs.size+ys.size))=true)(h1:xs.size<=yay)(h2:(xs++ys).size<=yay+1) :
  Meets (Builtin.«list.extend» ⟨[.ref l,.ref b],[]⟩) (fun _ R s=>s.heap.get? l=some { cls:=.type "list",dict:=none,data:=.seq xs n,slots:=#[] }/\s.heap.get? b=some { cls:=.type "tuple",dict:=d,data:=.seq ys k,slots:=sl } /\
   R (.ok (.ret ydn)) { s with heap:=s.heap.update l (ycs fun x=>x++ys),toks:=s.toks }) :=
 .of_wp fun prog w A R s h=>by
  obtain⟨hp,g,dd,tk,os⟩:=s
  obtain⟨hl,hb,h⟩:=h
  have f2:=sub_tuple_tuple
  have f3:=sub_list_list
  have f4:=sub_tuple_list
  have f5:=sub_list_tuple
  have hz:(xs++ys).size<=yay+1:=h2
  wp_walk using (yfl hl rfl (hz:=h1) (_hz':=hz)),yi9 hl,yi9 hb
  exact⟨_,rfl,h⟩
def rExtT(K:yac):V->List V->Hp->VK->Prop:=fun x vs H Q=>∃ l b xs zs,x = .ref l/\vs=[.ref b]/\H l=some (.lst xs)/\SqT K H b zs/\xs.length+zs.length<=yay/\Q .non (upd H l (.lst (xs++zs)))
theorem zrt{X:Cx}:MtM X "list.extend" (rExtT X.K):=by
 intro pins s σ H x vs v us Q I rx rv h
 obtain⟨l,b,xs,zs,rfl,rfl,hH,hB,hz,q⟩:=h
 cases rx
 obtain⟨u,rfl,ru⟩:=rv.one
 cases ru
 obtain⟨z,its,n,r,hl,e⟩:=I.lstM hH
 obtain⟨its2,r2,⟨o,ho,hc,n2,hd⟩,_⟩:=I.tuple hB
 have l1:=r.length
 have l2:=r2.length
 have hsz:its.toArray.size+its2.toArray.size<=yay:=by rw[ya3,ya3];omega
 have hlong:¬ (!its.toArray.isEmpty && ydf (its.toArray.size+its2.toArray.size))=true:=by
  rw[zjw hsz,ymm]
  exact ybb
 obtain⟨oc,od,odat,os⟩:=o
 simp only at hc hd
 subst hc hd
 refine call_meets yff ⟨_,e,rfl⟩ yj1 (yjs _ _) (zx9 l b its.toArray its2.toArray n n2 _ _ hlong (by omega) (by rw[Array.size_append];omega)) ⟨e,ho,?_⟩
 refine⟨.non,_,I.lset (its':=its++its2) hH e (by simp) (r.append r2) ?_,rfl,q⟩
 rw[ya7]
 omega
end L2
end
section
namespace L2
open PySem PySem.Spec PyProof.Rows
namespace En
def EO(h:Heap)(e it:Addr)(f:Value)(i:Int)(old:Value):Prop:=h.get? e=some { cls:=.type "enumerate",dict:=none,data:=.fields #[f,.bool false,.ref it,rawInt i,.none,old],slots:=#[] }
section
variable {P:yav}{w:World}{A:Around}{E:Value->yah->Prop}{s:yah}
theorem body{e it l:Addr}{i:Nat}{xs:Array Value}{x old:Value}{Q:Value->yah->Prop}(he:EO s.heap e it .none i old)(hit:s.heap.IsTupleIter it l i)(hl:s.heap.IsTuple l xs)(hx:xs[i]?=some x)(hne:e≠it)(q:∀ h',EO h' e it (rawInt s.heap.objs.size) ((i:Int)+1) x->h'.IsTupleIter it l (i+1)->h'.get? s.heap.objs.size=some { cls:=.type "tuple",data:=.seq #[.int i s.toks,x] }->(∀ b u,b≠e->b≠it->s.heap.get? b=some u->h'.get? b=some u)->Q (.ref s.heap.objs.size) { s with heap:=h',toks:=s.toks+1 }) :
  wpAny (model P w) A (Builtin.«enumerate.__next__» ⟨[.ref e],[]⟩) (fun fin s'=>∃ v,fin = .done (.ret v)/\Q v s') E s:=by
 obtain⟨hp,g,d,tk,os⟩:=s
 refine yaa (m:=field (.ref e) 2) ?_
 refine yci he rfl (x:=.ref it) rfl ?_
 refine yaa ?_
 refine Zp.nx_item hit hl hx fun h1 t1 b1=>?_
 replace b1:ycc it hp h1:=b1
 have e1:EO h1 e it .none i old:=(b1.2 e hne).trans he
 refine yaa (m:=field (.ref e) 3) ?_
 refine yci e1 rfl (x:=rawInt i) rfl ?_
 refine yaa (m:=field (.ref e) 4) ?_
 refine yci e1 rfl (x:=.none) rfl ?_
 refine yaa (m:=mkInt i) ?_
 refine yj7 ?_
 refine yaa (m:=setField (.ref e) 3 (rawInt ((i:Int)+1))) ?_
 refine ybo e1 (by simp) fun h2 e2 b2=>?_
 replace b2:ycc e h1 h2:=b2
 replace e2:EO h2 e it .none ((i:Int)+1) old:=e2
 refine yaa (m:=setField (.ref e) 4 .none) ?_
 refine ybo e2 (by simp) fun h3 e3 b3=>?_
 replace b3:ycc e h2 h3:=b3
 replace e3:EO h3 e it .none ((i:Int)+1) old:=e3
 refine yaa (m:=newTuple [.int i tk,x]) ?_
 refine ygp ?_
 have sz:h3.objs.size=hp.objs.size:=by rw[b3.1,b2.1,b1.1]
 have lt:e<hp.objs.size:=yar he
 have e4:EO (h3.push { cls:=.type "tuple",data:=.seq #[.int i tk,x] }) e it .none ((i:Int)+1) old:=yak _ e3
 have k4:∀ b u,b≠e->b≠it->hp.get? b=some u->(h3.push { cls:=.type "tuple",data:=.seq #[.int i tk,x] }).get? b=some u:=fun b u n1 n2 q=>yak _ (b3.extBut b u n1 (b2.extBut b u n1 (b1.extBut b u n2 q)))
 have T4:(h3.push { cls:=.type "tuple",data:=.seq #[.int i tk,x] }).get? hp.objs.size=some { cls:=.type "tuple",data:=.seq #[.int i tk,x] }:=by rw[<- sz];exact yaw _ rfl
 have t4:(h3.push { cls:=.type "tuple",data:=.seq #[.int i tk,x] }).IsTupleIter it l (i+1):=((t1.extBut b2.extBut (yee hne)).extBut b3.extBut (yee hne)).at fun o q=>yak _ q
 rw[sz]
 generalize h3.push { cls:=.type "tuple",data:=.seq #[.int i tk,x] }=h4 at e4 k4 T4 t4 ⊢
 refine yaa (m:=ybn (.ref e)) ?_
 unfold ybn
 refine yaa ?_
 refine yci e4 rfl (x:=.none) rfl ?_
 refine yai ?_
 simp only[if_true]
 refine yaa ?_
 refine ygj ?_
 refine yaa ?_
 refine yci e4 rfl (x:=old) rfl ?_
 refine yaa ?_
 refine ybo e4 (by simp) fun h5 e5 b5=>?_
 replace b5:ycc e h4 h5:=b5
 replace e5:EO h5 e it .none ((i:Int)+1) x:=e5
 refine yaa (m:=yc8 (.ref e) (.ref hp.objs.size)) ?_
 unfold yc8
 refine yaa ?_
 refine ybo e5 (by simp) fun h6 e6 b6=>?_
 replace b6:ycc e h5 h6:=b6
 replace e6:EO h6 e it (rawInt hp.objs.size) ((i:Int)+1) x:=e6
 refine ybo e6 (by simp) fun h7 e7 b7=>?_
 replace b7:ycc e h6 h7:=b7
 refine yaa ?_
 refine yij ?_
 refine yai ⟨_,rfl,?_⟩
 have up:∀ b u,b≠e->h4.get? b=some u->h7.get? b=some u:=fun b u n q=>b7.extBut b u n (b6.extBut b u n (b5.extBut b u n q))
 exact q h7 e7 (t4.at fun o q=>up _ o (yee hne) q) (up _ _ (yb2 lt) T4) fun b u n1 n2 q=>up b u n1 (k4 b u n1 n2 q)
theorem next{e it l:Addr}{i:Nat}{xs:Array Value}{x old:Value}{Q:Option Value->yah->Prop}(he:EO s.heap e it .none i old)(hit:s.heap.IsTupleIter it l i)(hl:s.heap.IsTuple l xs)(hx:xs[i]?=some x)(hne:e≠it)(q:∀ h',EO h' e it (rawInt s.heap.objs.size) ((i:Int)+1) x->h'.IsTupleIter it l (i+1)->h'.get? s.heap.objs.size=some { cls:=.type "tuple",data:=.seq #[.int i s.toks,x] }->(∀ b u,b≠e->b≠it->s.heap.get? b=some u->h'.get? b=some u)->Q (some (.ref s.heap.objs.size)) { s with heap:=h',toks:=s.toks+1 }) :
  wpAny (model P w) A (pyNext (.ref e)) Q E s:=by
 have ty:s.TypeIs (.ref e) "enumerate" := ⟨_,he,rfl⟩
 unfold pyNext
 refine yaa ?_
 refine yd4 ?_
 refine ybl (name:=yc6 "__next__") ty yfm ?_
 refine yb6 yfm ty yi0 ?_ (yim _)
 refine body he hit hl hx hne fun h' a b c k=>?_
 refine yai ?_
 exact q h' a b c k
theorem ended{e it l:Addr}{i:Nat}{xs:Array Value}{f old:Value}{Q:Option Value->yah->Prop}(hh:A.handled=none)(he:EO s.heap e it f i old)(hit:s.heap.IsTupleIter it l i)(hl:s.heap.IsTuple l xs)(hx:xs[i]?=none)(q:∀ h',(∀ b u,b≠it->s.heap.get? b=some u->h'.get? b=some u)->Q none { s with heap:=h' }):wpAny (model P w) A (pyNext (.ref e)) Q E s:=by
 have ty:s.TypeIs (.ref e) "enumerate" := ⟨_,he,rfl⟩
 unfold pyNext
 refine yaa ?_
 refine yd4 ?_
 refine ybl (name:=yc6 "__next__") ty yfm ?_
 refine yb6 yfm ty yi0 ?_ (yim _)
 refine yaa (m:=field (.ref e) 2) ?_
 refine yci he rfl (x:=.ref it) rfl ?_
 refine yaa ?_
 refine Zp.zot (show A.in1.handled=none from hh) hit hl hx fun h' x k hx'=>?_
 obtain⟨o,ho,hc⟩:=hx'
 refine yaa ?_
 refine yd1 (T := "StopIteration") (b:=true) ⟨o,ho,hc⟩ ygo ?_
 refine yai ?_
 exact q h' k
theorem letgo{elts:List Expr}{x1}{pos:Pos}{e it T:Addr}{i:Int}{old:Value}{Q:Unit->yah->Prop}(he:EO s.heap e it (rawInt T) i old)(q:∀ h',EO h' e it .none i old->ycc e s.heap h'->Q () { s with heap:=h' }):wpAny (model P w) A (letOwnedTupleGo (.Tuple elts x1 pos) (.ref e) (.ref T)) Q E s:=by
 exact wpAny_letOwnedTupleGo_enum he q
theorem zya(l:Addr)(xs:Array Value) :
  Meets (Builtin.«enumerate.__new__» ⟨[.type "enumerate",.ref l],[]⟩) (fun _ R s=>s.heap.IsTuple l xs /\
   R (.ok (.ret (.ref (s.heap.push { cls:=.type "tuple_iterator",data:=.fields #[.ref l,.int 0 0] }).objs.size)))
    { s with heap:=(s.heap.push { cls:=.type "tuple_iterator",data:=.fields #[.ref l,.int 0 0] }).push { cls:=.type "enumerate",data:=.fields #[.none,.bool false,.ref s.heap.objs.size,rawInt 0,.none,.none] } }) :=
 .of_wp fun prog w A R s h=>by
  obtain⟨hp,g,d,tk,os⟩:=s
  obtain⟨hl,h⟩:=h
  have hsub:=sub_enumerate
  have hL:ylp (yil ⟨hp,g,d,tk,os⟩) l xs:=hl
  wp_walk using ydh hL
  refine wpAny_stack_any fun st=>yai ?_
  split
  ·rename_i c _ _ _ _ _
   cases (c == ydc "enumerate")
   ·wp_walk using ydh hL
    exact⟨_,rfl,h⟩
   ·wp_walk using ydh hL
    exact⟨_,rfl,h⟩
  ·wp_walk using ydh hL
   exact⟨_,rfl,h⟩
end
end En
theorem zti{X:Cx}(hc:X.calm=true):CallR X (.builtin "max") (fun xs H Q=>∃ i j k,xs=[.int i,.int j,.int k]/\Q (.int (if j > i then(if k > j then k else j) else(if k > i then k else i))) H):=by
 intro pins s σ H xs us Q I r h
 obtain⟨i,j,k,rfl,q⟩:=h
 cases r with
 | cons r1 r =>
  cases r with
  | cons r2 r =>
   cases r with
   | cons r3 r =>
    cases r
    obtain⟨t1,rfl⟩:=r1
    obtain⟨t2,rfl⟩:=r2
    obtain⟨t3,rfl⟩:=r3
    refine max_three_ints (I.ok.hd hc) fun h' tk kk=>?_
    refine⟨.int (if j > i then(if k > j then k else j) else(if k > i then k else i)),H,I.kept kk,?_,q⟩
    by_cases a:j > i
    ·by_cases b:k > j
     ·simp only[a,b,if_true];exact⟨_,rfl⟩
     ·simp only[a,b,if_true,if_false];exact⟨_,rfl⟩
    ·by_cases b:k > i
     ·simp only[a,b,if_true,if_false];exact⟨_,rfl⟩
     ·simp only[a,b,if_false];exact⟨_,rfl⟩
end L2
end
section
namespace L2
open PySem PySem.Spec PyProof.Rows
def IteT(K:yac)(a:Addr):It :=
 ⟨fun i H=>∃(xs:List V) (x:V),SqT K H a xs/\xs[i]?=some x,fun i H v H'=>∃ T x,v = .ref T/\H T=none/\H'=upd H T (.tup [.int (i:Nat),x])/\∀ xs,SqT K H a xs->xs[i]?=some x,fun i H=>∃ xs:List V,SqT K H a xs/\xs.length<=i⟩
theorem zl3{b e it:Addr}(h:b∈[e,it]):b=e\/b=it:=by simpa using h
theorem zru{P:yav}{w:World}{K:yac}{elts:List Expr}{kk:Nat}{tpos:Pos}(a e it:Addr) :
  Turn P w K (.Tuple elts kk tpos) (IteT K a) [e,it] e (fun i h=>(∃ old,En.EO h e it .none ((i:Nat):Int) old)/\h.IsTupleIter it a i/\e≠it) where
 mem:=by simp
 obj:=fun i h st b hb=>by
  obtain⟨⟨old,he⟩,⟨o,ho,hc,hd⟩,_⟩:=st
  rcases zl3 hb with rfl | rfl
  ·exact⟨_,he,fun v q=>nomatch q⟩
  ·exact⟨o,ho,fun v q=>by rw[hd]at q;cases q⟩
 keep:=fun i h h' st k=>let ⟨⟨old,he⟩,hi,hne⟩:=st;⟨⟨old,k e (by simp) _ he⟩,hi.at fun o q=>k it (by simp) o q,hne⟩
 item:=by
  intro X hP hw hK hc i pins s σ H E I hf st hg
  subst hP hw hK
  obtain⟨⟨old,he⟩,hit,hne⟩:=st
  obtain⟨xs,x,hq,hx⟩:=hg
  obtain⟨its,rv,p,hz⟩:=I.tuple hq
  obtain⟨u,hu,ru⟩:=rv.get hx
  have l1:e<s.heap.objs.size:=yar he
  have l2:it<s.heap.objs.size:=by obtain⟨_,q,_⟩:=hit;exact yar q
  refine En.next he hit p (x:=u) (by simpa using hu) hne fun h' ho hit' hT hk=>?_
  refine⟨_,rfl,?_⟩
  refine En.letgo (s:={ s with heap:=h',toks:=s.toks+1 }) ho fun h2 he' sb=>?_
  have hT2:h2.get? s.heap.objs.size=some { cls:=.type "tuple",data:=.seq #[.int i s.toks,u] }:=(sb.2 _ (yb2 l1)).trans hT
  have new:ObjOk X.prog X.w (upd H s.heap.objs.size (.tup [.int (i:Nat),x])) h2 s.heap.objs.size (.tup [.int (i:Nat),x]) :=
   ⟨by show 2<=yay;decide,[.int i s.toks,u],.cons ⟨_,rfl⟩ (.cons ru .nil),⟨_,hT2,rfl,_,rfl⟩⟩
  have kp:∀ b ob,b ∉ [e,it]->s.heap.get? b=some ob->h2.get? b=some ob:=fun b ob hb q=>(sb.2 b (fun z=>hb (by simp[z]))).trans (hk b ob (fun z=>hb (by simp[z])) (fun z=>hb (by simp[z])) q)
  have I1:Inv X pins σ (upd H s.heap.objs.size (.tup [.int (i:Nat),x])) { s with heap:=h2,toks:=s.toks+1 }:=I.turnedNew (ch:=[e,it]) kp hf (yao _) new
  refine⟨.ref s.heap.objs.size,_,I1,rfl,⟨_,x,rfl,I.hok.fresh (yao _),rfl,fun ys hy=>by rw[I.tuple_inj hy hq];exact hx⟩,⟨⟨u,?_⟩,hit'.at fun o q=>(sb.2 it (yee hne)).trans q,hne⟩,fun b hb=>?_⟩
  ·have e1:((i+1:Nat):Int)=(i:Int)+1:=by omega
   rw[e1]
   exact he'
  ·have lt:b<s.heap.objs.size:=by
    rcases zl3 hb with rfl | rfl
    ·exact l1
    ·exact l2
   rw[zh (yba lt)]
   exact(hf b hb).1
 done:=by
  intro X hP hw hK hc i pins s σ H E I hf st hg
  subst hP hw hK
  obtain⟨⟨old,he⟩,hit,hne⟩:=st
  obtain⟨xs,hq,hx⟩:=hg
  obtain⟨its,rv,p,hz⟩:=I.tuple hq
  obtain⟨f0,f1,f2,f3,f4,f5⟩:=hf it (by simp)
  have hl:=rv.length
  refine En.ended (I.ok.hd hc) he hit p (by simp;omega) fun h' eb=>?_
  exact⟨rfl,I.turned (t':=s.toks) (fun b o hb q=>eb b o hb q) f0 f1 f3 f4 f5⟩
 self:=fun A i s Q E st h=>let ⟨⟨_,he⟩,_⟩:=st;wpAny_pyIter_enum he h
def zz1(K:yac)(ta:TA):TI:=fun σ H R=>ta σ H fun vs H1=>∃ a xs,vs=[.ref a]/\SqT K H1 a xs/\R (IteT K a) H1
theorem znd{P:yav}{w:World}{A:Around}{E:Value->yah->Prop}{s:yah}{l:Addr}{xs:Array Value}{Q:Value->yah->Prop}(hl:s.heap.IsTuple l xs)(q:∀ h',En.EO h' (s.heap.objs.size+1) s.heap.objs.size .none 0 .none->h'.IsTupleIter s.heap.objs.size l 0->(∀ b u,s.heap.get? b=some u->h'.get? b=some u)->Q (.ref (s.heap.objs.size+1)) { s with heap:=h' }) :
  wpAny (model P w) A (call (.type "enumerate") [.ref l]) Q E s:=by
 refine ylq F.called_enumerate (by decide) (F.typeCall_enumerate_1 _) (F.newCall_enumerate_1 _) (fun obj=>F.args_object_init_2 obj _) F.entry_enumerate_new (En.zya l xs) ⟨hl,?_⟩
 have hz:(s.heap.push { cls:=.type "tuple_iterator",data:=.fields #[.ref l,.int 0 0] }).objs.size=s.heap.objs.size+1:=ybe ..
 have he:En.EO ((s.heap.push { cls:=.type "tuple_iterator",data:=.fields #[.ref l,.int 0 0] }).push { cls:=.type "enumerate",data:=.fields #[.none,.bool false,.ref s.heap.objs.size,rawInt 0,.none,.none] }) (s.heap.objs.size+1) s.heap.objs.size .none 0 .none:=by
  unfold En.EO
  rw[<- hz]
  exact yaw _ rfl
 show _/\_
 rw[hz]
 exact⟨⟨_,he,rfl⟩,q _ he ⟨_,yak _ (yaw _ rfl),rfl,rfl⟩ fun b u e=>yak _ (yak _ e)⟩
theorem zvu{X:Cx}{e:Expr}{ta:TA}{p pos tpos:Pos}{elts:List Expr}{kk:Nat}(hg:Gl X "enumerate")(hm:X.mg "enumerate" = none)(ha:PA X [e] ta)(hs:ycb [e] X.env=[(false,eval e X.env)]:=by rfl) :
  PI X (.Tuple elts kk tpos) (.Call (.Name "enumerate" p) [e] [] pos) (zz1 X.K ta):=by
 intro pins s σ H R I h
 refine Call_ (zf5 I hg hm boot_enumerate (ycy (thn (ha pos pins s σ H _ I h) fun us s1 ⟨vs,H1,I1,r1,q1⟩=>?_) hs rfl))
 obtain⟨a,xs,ex,hq,q⟩:=q1
 subst ex
 obtain⟨u,rfl,rx⟩:=vals1 r1
 cases rx
 obtain⟨its,rv,p',hz⟩:=I1.tuple hq
 refine znd p' fun h' he hit hk=>?_
 refine wpAny_pyIter_enum he ?_
 have I2:Inv X pins σ H1 { s1 with heap:=h' }:=I1.kept (t':=s1.toks) hk
 refine⟨s1.heap.objs.size+1,[s1.heap.objs.size+1,s1.heap.objs.size],_,_,H1,rfl,I2,zru a (s1.heap.objs.size+1) s1.heap.objs.size,⟨⟨.none,he⟩,hit,Nat.succ_ne_self _⟩,fun b hb=>?_,q⟩
 have hle:s1.heap.objs.size<=b:=by
  rcases zl3 hb with z | z
  ·rw[z];exact yc9 _ _
  ·rw[z];exact yao _
 exact I1.fpOk hle (I1.hok.fresh hle)
end L2
end
section
namespace My
open PySem PySem.Spec PyProof.Rows L2
def top(i:Nat):Stmt:=PySem.Challenge.pw_leastmachines_s01_answers.main.body.getD i (.Pass ⟨0,0,0,0⟩)
abbrev zc7:Stmt:=zar (top 11) 0
abbrev zec:Stmt:=zar (top 12) 0
abbrev zc8:Stmt:=zar (top 12) 1
abbrev zc9:Stmt:=zar (top 12) 2
abbrev zb7:Stmt:=zar (top 12) 3
abbrev zbs:Stmt:=zar (top 12) 4
abbrev zcs:Stmt:=top 13
abbrev zam:Stmt:=top 14
abbrev zda:Stmt:=top 15
abbrev zej:Stmt:=top 16
abbrev zd6:Stmt:=top 17
abbrev zd7:Stmt:=top 18
abbrev zcd:Stmt:=top 21
abbrev zbm:Stmt:=top 22
abbrev zbg:Stmt:=top 23
abbrev zbt:Stmt:=top 24
abbrev zbb:Stmt:=top 25
abbrev zdn:Stmt:=top 26
abbrev zbu:Stmt:=top 27
abbrev zbo:Stmt:=top 28
abbrev zce:Stmt:=top 29
abbrev zbr:Stmt:=top 31
abbrev zdb:Stmt:=top 32
abbrev zb1:Stmt:=top 33
abbrev zed:Stmt:=top 34
abbrev zbp:Stmt:=top 35
abbrev zb8:Stmt:=top 36
abbrev ze3:Stmt:=top 39
abbrev zbn:Stmt:=top 40
abbrev zc1:Stmt:=top 41
abbrev zdc:Stmt:=top 42
abbrev zb9:Stmt:=top 43
abbrev zdd:Stmt:=top 44
abbrev zdi:Stmt:=top 45
abbrev zdy:Stmt:=top 46
abbrev zbv:Stmt:=top 47
abbrev zbc:Stmt:=top 48
abbrev zd8:Stmt:=top 49
abbrev zaz:Stmt:=top 50
abbrev zdo:Stmt:=top 51
abbrev zat:Stmt:=top 72
abbrev zab:Stmt:=top 73
abbrev za8:Stmt:=top 74
abbrev zbq:Stmt:=top 75
abbrev zb5:Stmt:=top 76
abbrev zcf:Stmt:=zar (top 77) 0
abbrev zct:Stmt:=zar (top 77) 1
abbrev zdj:Stmt:=zar (top 77) 2
abbrev zdk:Stmt:=zar (top 77) 3
abbrev zds:Stmt:=zar (top 77) 4
abbrev zb3:Stmt:=zar (top 77) 5
abbrev zci:Stmt:=zar (top 77) 6
abbrev zdl:Stmt:=zar (top 77) 7
abbrev zdt:Stmt:=zar (top 77) 8
abbrev zc3:Stmt:=zar (top 77) 9
abbrev zb2:Stmt:=zar (top 77) 10
abbrev zc4:Stmt:=zar (top 77) 11
abbrev zcj:Stmt:=zar (top 77) 12
abbrev zcu:Stmt:=zar (top 77) 13
abbrev zdp:Stmt:=zar (top 78) 0
abbrev zcg:Stmt:=zar (top 78) 1
abbrev zcl:Stmt:=zar (top 78) 2
abbrev zbh:Stmt:=zar (top 78) 3
abbrev zga:Stmt:=top 79
abbrev zg9:Stmt:=top 80
abbrev ze4:Stmt:=top 81
abbrev zcv:Stmt:=top 82
def fMach(e l:V):List (Str × V):=[("ends",e),("leads",l)]
def fWalk(m d l:V):List (Str × V):=[("met",m),("numbers",d),("leads",l)]
theorem zbe(e l:V):(fMach e l).lookup ("ends" : Str)=some e:=rfl
theorem zal(e l:V):(fMach e l).lookup ("leads" : Str)=some l:=by rfl
theorem zb0(m d l:V):(fWalk m d l).lookup ("met" : Str)=some m:=by rfl
theorem zeg(m d l:V):(fWalk m d l).lookup ("numbers" : Str)=some d:=by rfl
theorem zby(m d l:V):(fWalk m d l).lookup ("leads" : Str)=some l:=by rfl
theorem ztj(e l:V):putF "leads" l (putF "ends" e [])=fMach e l:=by rfl
theorem ztk(m d l:V):putF "leads" l (putF "numbers" d (putF "met" m []))=fWalk m d l:=by rfl
theorem zvv(m d l:V):(fWalk m d l).lookup ("number_of" : Str)=none:=by rfl
end My
end
section
namespace My
open PySem PySem.Spec PyProof.Rows L2
open Rows (Told)
def Keep(ps:List Addr)(H H':Hp):Prop:=∀ b o,H b=some o->b ∉ ps->H' b=some o
theorem Keep.refl{ps:List Addr}(H:Hp):Keep ps H H:=fun _ _ e _=>e
theorem Keep.trans{ps:List Addr}{H H1 H2:Hp}(a:Keep ps H H1)(b:Keep ps H1 H2):Keep ps H H2:=fun c o e n=>b c o (a c o e n) n
theorem Keep.same{ps:List Addr}{H0 H H':Hp}(k:Keep ps H H')(s:Same H0 H)(n:∀ p∈ps,H0 p=none):Same H0 H':=fun b o e=>k b o (s b o e) fun m=>by
 have:=n b m
 rw[e]at this
 cases this
theorem Same.keep{ps:List Addr}{H H':Hp}(s:Same H H'):Keep ps H H':=fun b o e _=>s b o e
theorem Same.new{H:Hp}{p:Addr}{o:HO}(n:H p=none):Same H (upd H p o):=fun b u e=>by
 rw[zh (zn e n)]
 exact e
theorem Keep.upd{ps:List Addr}{H:Hp}{p:Addr}{o:HO}(h:p∈ps):Keep ps H (upd H p o):=fun b u e n=>by
 rw[zh fun z=>n (by rw[z];exact h)]
 exact e
def nV(n:Nat):V:=.int (n:Int)
def RowAt(H:Hp)(a:Addr)(r:List Nat):Prop:=H a=some (.tup (r.map nV))
abbrev RowsAt(H:Hp)(rs:List Addr)(rows:List (List Nat)):Prop:=Paired (RowAt H) rs rows
theorem RowsAt.keep{H H':Hp}{rs:List Addr}{rows:List (List Nat)}(h:RowsAt H rs rows)(k:∀ b xs,H b=some (.tup xs)->H' b=some (.tup xs)):RowsAt H' rs rows:=ygq.mapP h fun _ _ z=>k _ _ z
theorem Keep.tup{ps:List Addr}{H H':Hp}(k:Keep ps H H')(n:∀ p∈ps,∀ xs,H p≠some (.tup xs)):∀ b xs,H b=some (.tup xs)->H' b=some (.tup xs):=fun b xs e=>k b _ e fun m=>n b m xs e
def encK(d:DK)(t:Told):KD:=match d with
 | .f=>.f t
 | _=>.o t.head?
def Fit(d:DK)(t:Told):Prop:=match d with
 | .f=>True
 | .o=>t.length<=1
 | .n=>False
theorem zm1{d:DK}{t:Told}(h:Fit d t):(encK d t).kind=d:=by
 cases d<;>first | rfl | exact h.elim
theorem zvw{d:DK}{t u:Told}(h:Fit d t)(h':Fit d u)(e:encK d t=encK d u):t=u:=by
 cases d with
 | f=>injection e
 | n=>exact h.elim
 | o =>
  have e:t.head?=u.head?:=by injection e
  have h:t.length<=1:=h
  have h':u.length<=1:=h'
  match t,u,h,h',e with
  | [],[],_,_,_=>rfl
  | [a],[b],_,_,e=>simp at e;rw[e]
  | [],[b],_,_,e=>simp at e
  | [a],[],_,_,e=>simp at e
  | _::_::_,_,h,_,_=>simp at h
  | _,_::_::_,_,h,_=>simp at h
def zb6(d:DK):Nat->List Told->List (KD × V)
 | _,[]=>[]
 | i,t::r=>(encK d t,nV i)::zb6 d (i+1) r
theorem zk9(d:DK)(t:Told):∀(i:Nat) (l:List Told),zb6 d i (l++[t])=zb6 d i l++[(encK d t,nV (i+l.length))]
 | i,[]=>rfl
 | i,u::l=>by
  show(encK d u,nV i)::zb6 d (i+1) (l++[t])=(encK d u,nV i)::(zb6 d (i+1) l++[(encK d t,nV (i+(l.length+1)))])
  rw[zk9 d t (i+1) l]
  have e:i+1+l.length=i+(l.length+1):=by omega
  rw[e]
theorem zm2(d:DK):∀(i:Nat) (l:List Told),(zb6 d i l).length=l.length
 | _,[]=>rfl
 | i,_::l=>by show(zb6 d (i+1) l).length+1=l.length+1;rw[zm2 d (i+1) l]
theorem zim{d:DK}{t:Told}(ht:Fit d t):∀(i:Nat) (l:List Told),(∀ u∈l,Fit d u)->valV (zb6 d i l) (encK d t)=if t∈l then some (nV (i+l.idxOf t)) else none
 | _,[],_=>rfl
 | i,u::l,h=>by
  by_cases e:u=t
  ·subst e
   rw[if_pos yaq]
   show valV ((encK d u,nV i)::_) _=_
   rw[zeh rfl]
   simp
  ·have ne:¬ encK d u=encK d t:=fun z=>e (zvw (h u yaq) ht z)
   show valV ((encK d u,nV i)::zb6 d (i+1) l) _=_
   rw[zei (p:=(encK d u,nV i)) ne,zim ht (i+1) l fun x hx=>h x (yam _ hx)]
   by_cases m:t∈l
   ·rw[if_pos m,if_pos (yam _ m),yhb]
    have hb:(u == t)=false:=beq_eq_false_iff_ne.mpr e
    rw[hb]
    show some (nV (i+1+l.idxOf t))=some (nV (i+(l.idxOf t+1)))
    have q:i+1+l.idxOf t=i+(l.idxOf t+1):=by omega
    rw[q]
   ·rw[if_neg m,if_neg (by
     intro z
     rcases yap.mp z with z | z
     ·exact e z.symm
     ·exact m z)]
def StAt(H:Hp)(d:DK)(t:Told)(v:V):Prop:=Fit d t/\KAt H (encK d t) v
theorem StAt.keep{H H':Hp}{d:DK}{t:Told}{v:V}(h:StAt H d t v)(k:∀ b xs,H b=some (.tup xs)->H' b=some (.tup xs)):StAt H' d t v:=⟨h.1,h.2.keeps k⟩
structure WkAt(P:yav)(w:World)(C:Addr)(H:Hp)(d:DK)(a m n l:Addr)(met:List Told)(leads:List (List Nat)):Prop where
 obj:∃ dx,H a=some (.ins C dx (fWalk (.ref m) (.ref n) (.ref l)))
 mt:∃ vs,H m=some (.lst vs)/\Paired (StAt H d) met vs
 num:DAt P w H d n (zb6 d 0 met)
 lds:∃ rs,H l=some (.lst (rs.map V.ref))/\RowsAt H rs leads
theorem DAt.notTup{P:yav}{w:World}{H:Hp}{d:DK}{a:Addr}{kvs:List (KD × V)}(D:DAt P w H d a kvs):∃ φ,H a=some (.ext φ):=by
 cases d with
 | o=>obtain⟨l,_,e⟩:=D;exact⟨_,e⟩
 | f=>obtain⟨l,_,xs,_,e,_⟩:=D;exact⟨_,e⟩
 | n=>obtain⟨l,_,xs,_,e,_⟩:=D;exact⟨_,e⟩
theorem DAt.keep{P:yav}{w:World}{H H':Hp}{d:DK}{a:Addr}{kvs:List (KD × V)}(D:DAt P w H d a kvs)(ka:∀ o,H a=some o->H' a=some o)(k:∀ b xs,H b=some (.tup xs)->H' b=some (.tup xs)):DAt P w H' d a kvs:=by
 cases d with
 | o=>obtain⟨l,h1,e⟩:=D;exact⟨l,h1,ka _ e⟩
 | f=>obtain⟨l,h1,xs,h2,e,h3⟩:=D;exact⟨l,h1,xs,h2,ka _ e,fun p hp=>(flatK P w).keeps (h3 p hp) k⟩
 | n=>obtain⟨l,h1,xs,h2,e,h3⟩:=D;exact⟨l,h1,xs,h2,ka _ e,fun p hp=>(nestK P w).keeps (h3 p hp) k⟩
section
variable {P:yav}{w:World}{C:Addr}{H H':Hp}{d:DK}{a m n l:Addr}{met:List Told}{leads:List (List Nat)}
theorem WkAt.ne(W:WkAt P w C H d a m n l met leads)(hml:m≠l):a≠m/\a≠n/\a≠l/\m≠n/\n≠l:=by
 obtain⟨dx,e1⟩:=W.obj
 obtain⟨vs,e2,_⟩:=W.mt
 obtain⟨φ,e3⟩:=DAt.notTup W.num
 obtain⟨rs,e4,_⟩:=W.lds
 exact⟨za9 e1 e2 (by intro z;cases z),za9 e1 e3 (by intro z;cases z),za9 e1 e4 (by intro z;cases z),za9 e2 e3 (by intro z;cases z),za9 e3 e4 (by intro z;cases z)⟩
theorem WkAt.notup(W:WkAt P w C H d a m n l met leads):∀ p∈[a,m,n,l],∀ xs,H p≠some (.tup xs):=by
 intro p hp xs e
 obtain⟨dx,e1⟩:=W.obj
 obtain⟨vs,e2,_⟩:=W.mt
 obtain⟨φ,e3⟩:=DAt.notTup W.num
 obtain⟨rs,e4,_⟩:=W.lds
 simp only[yap,yda,or_false]at hp
 rcases hp with rfl | rfl | rfl | rfl
 ·rw[e1]at e;cases e
 ·rw[e2]at e;cases e
 ·rw[e3]at e;cases e
 ·rw[e4]at e;cases e
theorem WkAt.same(W:WkAt P w C H d a m n l met leads)(s:Same H H'):WkAt P w C H' d a m n l met leads:=by
 obtain⟨dx,e1⟩:=W.obj
 obtain⟨vs,e2,q2⟩:=W.mt
 obtain⟨rs,e4,q4⟩:=W.lds
 exact⟨⟨dx,s _ _ e1⟩,⟨vs,s _ _ e2,ygq.mapP q2 fun _ _ z=>z.keep fun _ _ e=>s _ _ e⟩,DAt.keep (H:=H) W.num (fun o e=>s _ _ e) (fun _ _ e=>s _ _ e),⟨rs,s _ _ e4,q4.keep fun _ _ e=>s _ _ e⟩⟩
end
structure TW(K:yac)(mg:Str->Option Value)(C:Addr):Prop where
 cl:Cls K C
 nM:NoAttr K C "met"
 nN:NoAttr K C "numbers"
 nL:NoAttr K C "leads"
structure TB(mg:Str->Option Value):Prop where
 len:mg "len" = none
 range:mg "range" = none
 tuple:mg "tuple" = none
 list:mg "list" = none
 max:mg "max" = none
 sum:mg "sum" = none
 sorted:mg "sorted" = none
 set:mg "set" = none
 zip:mg "zip" = none
 enumerate:mg "enumerate" = none
section
variable {P:yav}{w:World}{K:yac}{mg:Str->Option Value}{base:Heap}
def zgb(P:yav)(w:World)(C:Addr):Sp:=fun vs H Q _=>∃ d a m n l met leads,vs=[.ref a]/\WkAt P w C H d a m n l met leads/\Q (.bl (decide (leads.length<met.length))) H
theorem zyb:FnScope ["self"] ["self"] (ze zc8):=⟨rfl,rfl,rfl,by decide +kernel,rfl,by decide +kernel,by decide +kernel⟩
theorem zf1{f C:Addr}{fd:ya2}(F:Fun K "goes_on" "Walk.goes_on" zc8 f fd)(T:TW K mg C)(B:TB mg):FnOk P w K mg base CX0 1 f fd ["self"] (zgb P w C):=by
 refine F.ok zyb (fun vs H Q E h=>?_) (fun cdv A outer s H vs Q E hr h=>?_)
 ·obtain⟨d,a,m,n,l,met,leads,rfl,_⟩:=h
  rfl
 ·obtain⟨d,a,m,n,l,met,leads,rfl,W,k⟩:=h
  obtain⟨dx,e1⟩:=W.obj
  obtain⟨vs,e2,q2⟩:=W.mt
  obtain⟨rs,e4,q4⟩:=W.lds
  refine⟨_,zf (zk (zlu zq1 (zaf zag (by rfl) B.len yb9 (za (zq (pv 0) rfl) zb)) (zaf zag (by rfl) B.len yb9 (za (zq (pv 0) rfl) zb)) (zaj _))),?_⟩
  refine⟨_,rfl,a,C,dx,_,_,rfl,e1,T.cl,T.nL,zby _ _ _,l,_,rfl,.inl (SqL.of e4),_,rfl,a,C,dx,_,_,rfl,e1,T.cl,T.nM,zb0 _ _ _,m,_,rfl,.inl (SqL.of e2),_,_,rfl,rfl,?_⟩
  have h1:(rs.map V.ref).length=leads.length:=by rw[yab];exact ybh q4
  have h2:vs.length=met.length:=(ybh q2).symm
  have e:decide (((rs.map V.ref).length:Int)<(vs.length:Int))=decide (leads.length<met.length):=by
   rw[h1,h2]
   by_cases q:leads.length<met.length
   ·rw[decide_eq_true q,decide_eq_true (by omega)]
   ·rw[decide_eq_false q,decide_eq_false (by omega)]
  show Q (.bl (decide (((rs.map V.ref).length:Int)<(vs.length:Int)))) H
  rw[e]
  exact k
def spCur(P:yav)(w:World)(C:Addr):Sp:=fun vs H Q _=>∃ d a m n l met leads t,vs=[.ref a]/\WkAt P w C H d a m n l met leads/\met[leads.length]?=some t/\∀ v,StAt H d t v->Q v H
theorem za2{α β:Type}{F:α->β->Prop}:∀{l:List α} {r:List β} {i:Nat} {x:α},Paired F l r->l[i]?=some x->∃ y,r[i]?=some y/\F x y
 | _,_,_,_,.nil,e=>by simp at e
 | _,_,0,_,.cons q _,e=>by simp at e;subst e;exact⟨_,rfl,q⟩
 | _,_,i+1,x,.cons _ t,e=>by
  obtain⟨y,h1,h2⟩:=za2 (i:=i) (x:=x) t (by simpa using e)
  exact⟨y,by simpa using h1,h2⟩
theorem zz2:FnScope ["self"] ["self"] (ze zc9):=⟨rfl,rfl,rfl,by decide +kernel,rfl,by decide +kernel,by decide +kernel⟩
theorem zha{f C:Addr}{fd:ya2}(F:Fun K "current" "Walk.current" zc9 f fd)(T:TW K mg C)(B:TB mg):FnOk P w K mg base CX0 1 f fd ["self"] (spCur P w C):=by
 refine F.ok zz2 (fun vs H Q E h=>?_) (fun cdv A outer s H vs Q E hr h=>?_)
 ·obtain⟨d,a,m,n,l,met,leads,t,rfl,_⟩:=h
  rfl
 ·obtain⟨d,a,m,n,l,met,leads,t,rfl,W,ht,k⟩:=h
  obtain⟨dx,e1⟩:=W.obj
  obtain⟨vs,e2,q2⟩:=W.mt
  obtain⟨rs,e4,q4⟩:=W.lds
  obtain⟨v,hv,sv⟩:=za2 q2 ht
  refine⟨_,zf (zk (zp ix_list (zq (pv 0) rfl) (zaf zag (by rfl) B.len yb9 (za (zq (pv 0) rfl) zb)) (fun _ _=>rfl))),?_⟩
  have h1:(rs.map V.ref).length=leads.length:=by rw[yab];exact ybh q4
  exact⟨_,rfl,a,C,dx,_,_,rfl,e1,T.cl,T.nM,zb0 _ _ _,_,rfl,a,C,dx,_,_,rfl,e1,T.cl,T.nL,zby _ _ _,l,_,rfl,.inl (SqL.of e4),m,_,_,_,rfl,rfl,SqL.of e2,zki (j:=leads.length) (by rw[h1]) hv,k v sv⟩
def push(met:List Told)(t:Told):List Told:=if t∈met then met else met++[t]
theorem zf2{met:List Told}{t:Told}(h:t∈met):push met t=met:=if_pos h
theorem ze5{met:List Told}{t:Told}(h:¬ t∈met):push met t=met++[t]:=if_neg h
def spNum(P:yav)(w:World)(C:Addr):Sp:=fun vs H Q _=>∃ d a m n l met leads t v,vs=[.ref a,v]/\WkAt P w C H d a m n l met leads/\m≠l/\StAt H d t v/\met.length<100000 /\
 ∀ H',WkAt P w C H' d a m n l (push met t) leads->Keep [m,n] H H'->Q (nV ((push met t).idxOf t)) H'
theorem zdr{α β:Type}{F:α->β->Prop}:∀{l:List α} {r:List β} {x:α} {y:β},Paired F l r->F x y->Paired F (l++[x]) (r++[y])
 | _,_,_,_,.nil,h=>.cons h .nil
 | _,_,_,_,.cons q t,h=>.cons q (zdr t h)
theorem zla{α β:Type}{F:α->β->Prop}{G:α->Prop}(h:∀ a b,F a b->G a):∀{l:List α} {r:List β},Paired F l r->∀ a∈l,G a
 | _,_,.nil,a,m=>nomatch m
 | _,_,.cons q t,a,m=>by
  rcases yap.mp m with rfl | m
  ·exact h _ _ q
  ·exact zla h t a m
theorem za3{n:Nat}(h:n<1000000):n<yay:=by rw[ybr];omega
theorem hu2{A:Around}{k:Nat}(hr:Room k A):A.units+2<cLine:=yhl (yj4 (by decide:2<=64) _) hr.units
theorem zz3:FnScope ["self","state"] ["self","state"] (ze zbs):=⟨rfl,rfl,rfl,by decide +kernel,rfl,by decide +kernel,by decide +kernel⟩
theorem zz4{f C:Addr}{fd:ya2}(F:Fun K "number_of" "Walk.number_of" zbs f fd)(T:TW K mg C)(B:TB mg):FnOk P w K mg base CX0 1 f fd ["self","state"] (spNum P w C):=by
 refine F.ok zz3 (fun vs H Q E h=>?_) (fun cdv A outer s H vs Q E hr h=>?_)
 ·obtain⟨d,a,m,n,l,met,leads,t,v,rfl,_⟩:=h
  rfl
 ·obtain⟨d,a,m,n,l,met,leads,t,v,rfl,W,hml,hv,hz,k⟩:=h
  obtain⟨dx,e1⟩:=W.obj
  obtain⟨vs,e2,q2⟩:=W.mt
  obtain⟨rs,e4,q4⟩:=W.lds
  obtain⟨n1,n2,n3,n4,n5⟩:=W.ne hml
  have hfit:∀ u∈met,Fit d u:=zla (fun _ _ z=>z.1) q2
  have hval:=zim hv.1 0 met hfit
  have hkind:=zm1 hv.1
  have hl:vs.length=met.length:=(ybh q2).symm
  refine⟨_,zc (zbk (zh2 (zmx (hu2 hr) (pv 1) (zq (pv 0) rfl)))
    (zc (zqe (hu2 hr) (zq (pv 0) rfl) (pv 1) (zaf zag (by rfl) B.len yb9 (za (zq (pv 0) rfl) zb)) rfl)
     (zf (zad (zhm yc4 ye1 ye2 zgj (zq (pv 0) rfl) (za (pv 1) zb))))) zap)
   (zf (zk (zqd (hu2 hr) (zq (pv 0) rfl) (pv 1) (fun _ _=>rfl)))),?_⟩
  refine⟨v,rfl,_,rfl,a,C,dx,_,_,rfl,e1,T.cl,T.nN,zeg _ _ _,n,encK d t,_,rfl,(by rw[hkind];exact W.num),hv.2,_,rfl,?_⟩
  rw[hval]
  by_cases hm:t∈met
  ·rw[if_pos hm]
   refine iteF ?_
   refine⟨_,rfl,a,C,dx,_,_,rfl,e1,T.cl,T.nN,zeg _ _ _,_,rfl,n,encK d t,_,nV (0+met.idxOf t),rfl,(by rw[hkind];exact W.num),hv.2,(by rw[hval,if_pos hm]),?_⟩
   have e:nV (0+met.idxOf t)=nV ((push met t).idxOf t):=by rw[zf2 hm,yfi]
   rw[e]
   exact k H (by rw[zf2 hm];exact W) (Keep.refl H)
  ·rw[if_neg hm]
   refine iteT ?_
   refine⟨_,rfl,a,C,dx,_,_,rfl,e1,T.cl,T.nM,zb0 _ _ _,m,_,rfl,.inl (SqL.of e2),_,rfl,a,C,dx,_,_,rfl,e1,T.cl,T.nN,zeg _ _ _,_,rfl,n,encK d t,_,rfl,(by rw[hkind];exact W.num),hv.2,(by rw[hval,if_neg hm]),(by rw[zm2];exact za3 (by omega)),?_⟩
   intro H1 D1 k1
   rw[hkind]at D1
   have g1:∀ b o,H b=some o->b≠n->H1 b=some o:=k1
   have e1':=g1 _ _ e1 n2
   have e2':=g1 _ _ e2 n4
   have e4':=g1 _ _ e4 (fun z=>n5 z.symm)
   refine⟨_,rfl,a,C,dx,_,_,rfl,e1',T.cl,T.nM,zb0 _ _ _,.inl ⟨rfl,_,SqL.of e2'⟩,_,rfl,m,_,_,rfl,rfl,e2',za3 (by omega),?_⟩
   have t1:∀ b xs,H b=some (.tup xs)->H1 b=some (.tup xs):=fun b xs e=>g1 _ _ e (fun z=>W.notup n (by simp) xs (by rw[<- z];exact e))
   have t2:∀ b xs,H1 b=some (.tup xs)->(upd H1 m (.lst (vs++[v]))) b=some (.tup xs):=fun b xs e=>by
    rw[zh (za9 e e2' (by intro z;cases z))]
    exact e
   have ev:((vs.length:Nat):Int)=((0+met.length:Nat):Int):=by rw[hl,yfi]
   have W':WkAt P w C (upd H1 m (.lst (vs++[v]))) d a m n l (met++[t]) leads:=by
    refine⟨⟨dx,by rw[zh n1];exact e1'⟩,⟨vs++[v],zd,zdr (ygq.mapP q2 fun _ _ z=>z.keep fun b xs e=>t2 b xs (t1 b xs e)) (hv.keep fun b xs e=>t2 b xs (t1 b xs e))⟩,?_,⟨rs,by rw[zh (fun z=>hml z.symm)];exact e4',q4.keep fun b xs e=>t2 b xs (t1 b xs e)⟩⟩
    rw[zk9]
    refine DAt.keep (H:=H1) ?_ (fun o e=>by rw[zh (fun z=>n4 z.symm)];exact e) t2
    rw[show nV (0+met.length)=V.int (vs.length:Int) from by unfold nV;rw[ev]]
    exact D1
   have hfit':∀ u∈met++[t],Fit d u:=fun u hu=>by
    rcases yb1.mp hu with hu | hu
    ·exact hfit u hu
    ·rw[ya4.mp hu];exact hv.1
   have hval':=zim hv.1 0 (met++[t]) hfit'
   refine⟨_,rfl,a,C,dx,_,_,rfl,(by rw[zh n1];exact e1'),T.cl,T.nN,zeg _ _ _,_,rfl,n,encK d t,_,nV (0+(met++[t]).idxOf t),rfl,(by rw[hkind];exact W'.num),hv.2.keeps (fun b xs e=>t2 b xs (t1 b xs e)),(by rw[hval',if_pos (by simp)]),?_⟩
   have e:nV (0+(met++[t]).idxOf t)=nV ((push met t).idxOf t):=by rw[ze5 hm,yfi]
   rw[e]
   refine k _ (by rw[ze5 hm];exact W') fun b o e hb=>?_
   simp only[yap,yda,or_false,not_or]at hb
   rw[zh hb.1]
   exact g1 _ _ e hb.2
end
end My
end
section
namespace My
open PySem PySem.Spec PyProof.Rows L2
open Rows (Told)
section
variable {P:yav}{w:World}{K:yac}{mg:Str->Option Value}{base:Heap}
theorem yes{σ:L2.St}{H:Hp}{A B:Hp->Prop}(h:A H):tYes σ H fun b H3=>if b=true then A H3 else B H3:=by
 show if true=true then A H else B H
 rw[if_pos rfl]
 exact h
def zae(met:List Told)(ts:List Told):List Told:=ts.foldl push met
theorem zow(met:List Told)(t:Told):∃ e,push met t=met++e:=by
 by_cases h:t∈met
 ·exact⟨[],by rw[zf2 h,yex]⟩
 ·exact⟨[t],ze5 h⟩
theorem zvx(met:List Told)(t:Told):t∈push met t:=by
 by_cases h:t∈met
 ·rw[zf2 h];exact h
 ·rw[ze5 h];simp
theorem zvy(met:List Told)(t:Told):(push met t).length<=met.length+1:=by
 by_cases h:t∈met
 ·rw[zf2 h];omega
 ·rw[ze5 h];simp
theorem zev:∀(ts met:List Told),∃ e,zae met ts=met++e
 | [],met=>⟨[],by simp[zae]⟩
 | t::ts,met=>by
  obtain⟨e1,h1⟩:=zow met t
  obtain⟨e2,h2⟩:=zev ts (push met t)
  exact⟨e1++e2,by show zae (push met t) ts=_;rw[h2,h1,ybv]⟩
theorem zlb:∀(ts met:List Told),(zae met ts).length<=met.length+ts.length
 | [],met=>yao _
 | t::ts,met=>by
  have h1:=zlb ts (push met t)
  have h2:=zvy met t
  show(zae (push met t) ts).length<=met.length+(ts.length+1)
  omega
theorem zjq(met ts:List Told)(t:Told):zae met (ts++[t])=push (zae met ts) t:=by
 unfold zae
 rw[yk9]
 rfl
theorem zrv{ts met:List Told}{t:Told}(h:t∈ts):t∈zae met ts:=by
 induction ts generalizing met with
 | nil=>cases h
 | cons u ts ih =>
  show t∈zae (push met u) ts
  rcases yap.mp h with rfl | h
  ·obtain⟨e,q⟩:=zev ts (push met t)
   rw[q]
   exact ycu _ (zvx met t)
  ·exact ih h
def nums(met ts:List Told):List Nat:=ts.map fun t=>(zae met ts).idxOf t
theorem ztl(met ts:List Told)(t:Told):nums met (ts++[t])=nums met ts++[(push (zae met ts) t).idxOf t]:=by
 unfold nums
 rw[ya9,zjq]
 congr 1
 refine ybw fun u hu=>?_
 obtain⟨e,q⟩:=zow (zae met ts) t
 rw[q,MM.zdw (zrv hu)]
theorem zfl{α:Type}{l:List α}{i:Nat}{x:α}(h:l[i]?=some x):l.take (i+1)=l.take i++[x]:=by
 rw[ydu,h];rfl
def zcw(P:yav)(w:World)(K:yac)(C:Addr):Sp:=fun vs H Q _=>∃ d a m n l met leads p ts ys,vs=[.ref a,.ref p]/\WkAt P w C H d a m n l met leads/\m≠l/\H p=some (.lst ys)/\Paired (StAt H d) ts ys/\p≠m/\p≠l/\met.length+ts.length<100000/\leads.length<100000 /\
 ∀ H',WkAt P w C H' d a m n l (zae met ts) (leads++[nums met ts])->Keep [m,n,l] H H'->Q .non H'
theorem sc_lead:FnScope ["self","states","state"] ["self","states"] (ze zb7):=⟨rfl,rfl,rfl,by decide +kernel,rfl,by decide +kernel,by decide +kernel⟩
theorem Keep.seqL{ps:List Addr}{H H':Hp}{p:Addr}{ys:List V}(k:Keep ps H H')(hp:p ∉ ps)(h:SqL K H p ys):SqL K H' p ys:=by
 rcases h with (h | ⟨o,h⟩) | h
 ·exact .inl (.inl (k _ _ h hp))
 ·exact .inl (.inr ⟨o,k _ _ h hp⟩)
 ·exact .inr h
theorem zf3{f C fN:Addr}{fd fdN:ya2}(F:Fun K "lead_on" "Walk.lead_on" zb7 f fd)(T:TW K mg C)(B:TB mg)(FN:Fun K "number_of" "Walk.number_of" zbs fN fdN)(bN:Binds K fdN ["self","state"] [])(mN:Meth K C "number_of" fN) :
  FnOk P w K mg base CX0 2 f fd ["self","states"] (zcw P w K C):=by
 have GN:FnOk P w K mg base CX0 1 fN fdN ["self","state"] (spNum P w C):=zz4 FN T B
 refine F.ok sc_lead (fun vs H Q E h=>?_) (fun cdv A outer s H vs Q E hr h=>?_)
 ·obtain⟨d,a,m,n,l,met,leads,p,ts,ys,rfl,_⟩:=h
  rfl
 ·obtain⟨d,a,m,n,l,met,leads,p,ts,ys,rfl,W,hml,hS,hts,hpm,hpl,hz,hz2,k⟩:=h
  obtain⟨dx,e1⟩:=W.obj
  obtain⟨rs,e4,q4⟩:=W.lds
  obtain⟨φ,e3⟩:=DAt.notTup W.num
  obtain⟨n1,n2,n3,n4,n5⟩:=W.ne hml
  refine⟨_,zf (zad (zhm yc4 ye1 ye2 zgj (zq (pv 0) rfl)
   (za (zcp zh0 (by rfl) B.tuple (by decide +kernel) (za (zaq (own:=[("state",2)]) rfl sc_lead.nd (zba (pv 1)) (show BlkOk ["self","states","state"] (ze zb7) _ _ from zu (by decide +kernel)) (fun _ _ _ _ _=>zt (i:=2) sc_lead.nd rfl (ybk rfl)) (fun _ _ _ _ _=>zac)
    (fun _ _ _ _ _=>zai (pv 0) T.cl mN GN hr bN .nil pass0 (za (pv 2) zb))) zb)) zb))),?_⟩
  refine⟨_,rfl,a,C,dx,_,_,rfl,e1,T.cl,T.nL,zby _ _ _,.inl ⟨rfl,_,SqL.of e4⟩,?_⟩
  refine⟨_,rfl,p,rfl,⟨_,SqL.of hS⟩,fun D hD=>?_⟩
  have hlen:ts.length=ys.length:=ybh hts
  have nDm:D≠m:=fun z=>by obtain⟨vs,e2,_⟩:=W.mt;rw[z,e2]at hD;cases hD
  have nDn:D≠n:=fun z=>by rw[z,e3]at hD;cases hD
  have nDl:D≠l:=fun z=>by rw[z,e4]at hD;cases hD
  have nDa:D≠a:=fun z=>by rw[z,e1]at hD;cases hD
  have hpn:p ∉ [m,n,D]:=by
   intro z
   simp only[yap,yda,or_false]at z
   rcases z with z | z | z
   ·exact hpm z
   ·rw[z,e3]at hS;cases hS
   ·rw[z,hD]at hS;cases hS
  refine zlx (K:=K) (a:=p) (xs:=ys) (fun i H'=>WkAt P w C H' d a m n l (zae met (ts.take i)) leads/\Keep [m,n,D] H H'/\H' D=some (.lst ((nums met (ts.take i)).map nV))) ?_ (fun i H' _ ⟨_,kk,_⟩=>kk.seqL hpn (SqL.of hS)) ?_ ?_
  ·exact⟨W.same (Same.new hD),Keep.upd (by simp),zd⟩
  ·rintro i x H1 hi ⟨W1,k1,e5⟩
   obtain⟨t,ht⟩:∃ t,ts[i]?=some t:=⟨_,yad (by have:=(yag.mp hi).1;omega)⟩
   obtain⟨y,hy,sy⟩:=za2 hts ht
   rw[hi]at hy
   cases hy
   have tup1:∀ b xs,H b=some (.tup xs)->H1 b=some (.tup xs):=k1.tup fun q hq xs e=>by
    simp only[yap,yda,or_false]at hq
    rcases hq with rfl | rfl | rfl
    ·exact W.notup _ (by simp) xs e
    ·exact W.notup _ (by simp) xs e
    ·rw[hD]at e;cases e
   obtain⟨dx1,f1⟩:=W1.obj
   have hpl2:=zlb (ts.take i) met
   have htl:(ts.take i).length<=ts.length:=by rw[yd0];omega
   refine⟨rfl,?_⟩
   refine yes ?_
   refine⟨_,rfl,a,dx1,_,rfl,f1,zvv _ _ _,_,rfl,d,a,m,n,l,_,leads,t,x,rfl,W1,hml,sy.keep tup1,by omega,fun H2 W2 k2=>?_⟩
   have e6:H2 D=some (.lst ((nums met (ts.take i)).map nV)):=k2 _ _ e5 (by simp[nDm,nDn])
   refine⟨_,e6,za3 (by rw[yab];unfold nums;rw[yab];omega),?_⟩
   rw[zfl ht,zjq,ztl,ya9]
   refine⟨?_,?_,zd⟩
   ·obtain⟨dx2,g1⟩:=W2.obj
    obtain⟨vs2,g2,p2⟩:=W2.mt
    obtain⟨φ2,g3⟩:=DAt.notTup W2.num
    obtain⟨rs2,g4,p4⟩:=W2.lds
    have tu:∀ b xs,H2 b=some (.tup xs)->(upd H2 D (.lst ((nums met (ts.take i)).map nV++[nV ((push (zae met (ts.take i)) t).idxOf t)]))) b=some (.tup xs):=fun b xs e=>by
     rw[zh (za9 e e6 (by intro z;cases z))]
     exact e
    exact⟨⟨dx2,by rw[zh (fun z=>nDa z.symm)];exact g1⟩,⟨vs2,by rw[zh (fun z=>nDm z.symm)];exact g2,ygq.mapP p2 fun _ _ z=>z.keep tu⟩,DAt.keep (H:=H2) W2.num (fun o e=>by rw[zh (fun z=>nDn z.symm)];exact e) tu,⟨rs2,by rw[zh (fun z=>nDl z.symm)];exact g4,p4.keep tu⟩⟩
   ·refine k1.trans (Keep.trans (fun b o e hb=>?_) (Keep.upd (by simp)))
    simp only[yap,yda,or_false,not_or]at hb
    exact k2 b o e (by simp[hb])
  ·rintro H1 ⟨W1,k1,e5⟩
   rw[<- hlen,ydq]at W1 e5
   refine⟨D,_,rfl,.inl ⟨SqL.of e5,fun q hq=>?_⟩⟩
   obtain⟨dx1,f1⟩:=W1.obj
   obtain⟨vs1,f2,p2⟩:=W1.mt
   obtain⟨rs1,f4,p4⟩:=W1.lds
   have sq:Same H1 (upd H1 q (.tup ((nums met ts).map nV))):=Same.new hq
   have f4':=sq _ _ f4
   have hrs:rs1.length=leads.length:=ybh p4
   refine⟨l,_,_,rfl,rfl,f4',za3 (by rw[yab];omega),?_⟩
   have nql:q≠l:=fun z=>by rw[z,f4]at hq;cases hq
   have tu:∀ b xs,(upd H1 q (.tup ((nums met ts).map nV))) b=some (.tup xs)->(upd (upd H1 q (.tup ((nums met ts).map nV))) l (.lst (rs1.map V.ref++[.ref q]))) b=some (.tup xs):=fun b xs e=>by
    rw[zh (za9 e f4' (by intro z;cases z))]
    exact e
   have W2:=W1.same sq
   obtain⟨dx2,g1⟩:=W2.obj
   obtain⟨vs2,g2,r2⟩:=W2.mt
   refine k _ ⟨⟨dx2,by rw[zh n3];exact g1⟩,⟨vs2,by rw[zh hml];exact g2,ygq.mapP r2 fun _ _ z=>z.keep tu⟩,DAt.keep (H:=upd H1 q (.tup ((nums met ts).map nV))) W2.num (fun o e=>by rw[zh n5];exact e) tu,⟨rs1++[q],by rw[zd,ya9];rfl,?_⟩⟩ fun b o e hb=>?_
   ·exact zdr ((p4.keep fun _ _ e=>sq _ _ e).keep tu) (tu _ _ zd)
   ·simp only[yap,yda,or_false,not_or]at hb
    rw[zh hb.2.2]
    refine sq _ _ (k1 b o e ?_)
    simp only[yap,yda,or_false,not_or]
    exact⟨hb.1,hb.2.1,fun z=>by rw[z,hD]at e;cases e⟩
end
end My
end
section
namespace My
open PySem PySem.Spec PyProof.Rows L2
open Rows (Told)
theorem zan{H H':Hp}(s:Same H H'):∀ b xs,H b=some (.tup xs)->H' b=some (.tup xs):=fun b xs e=>s b _ e
def zem(R:Nat->V->Hp->Prop):Prop:=∀ j y H H',(∀ b xs,H b=some (.tup xs)->H' b=some (.tup xs))->R j y H->R j y H'
theorem zrw{F:Nat->V->Prop}{i:Nat}{acc:List V}{y:V}(p:Paired F (yae i) acc)(h:F i y):Paired F (yae (i+1)) (acc++[y]):=by
 rw[yc0]
 exact zdr p h
section
variable {K:yac}{a:Addr}{xs:List V}{te:TE}{vs:List Nat}{σ:L2.St}{H1:Hp}{D:Addr}{Qd:Hp->Prop}{idx:Nat}
theorem zf4{R:Nat->V->Hp->Prop}(mono:zem R)(hD:H1 D=none){i n:Nat}(hi:i<n)(hn:n<=1000000){σ2:L2.St}{H2:Hp}(p:Same H1 H2/\∃ acc,H2 D=some (.lst acc)/\Paired (fun j y=>R j y H2) (yae i) acc)(step:∀(Q:VK),(∀ y H3,R i y H3->Same H2 H3->Q y H3)->te σ2 H2 Q) :
  te σ2 H2 fun y H4=>∃ acc,H4 D=some (.lst acc)/\acc.length<yay/\(Same H1 (upd H4 D (.lst (acc++[y])))/\∃ acc',(upd H4 D (.lst (acc++[y]))) D=some (.lst acc')/\Paired (fun j z=>R j z (upd H4 D (.lst (acc++[y])))) (yae (i+1)) acc'):=by
 obtain⟨s2,acc,e,q⟩:=p
 refine step _ fun y H3 r s3=>?_
 have e3:=s3 _ _ e
 have hl:acc.length=i:=by
  have:=ybh q
  rw[ya5]at this
  exact this.symm
 have tu:∀ b xs,H3 b=some (.tup xs)->(upd H3 D (.lst (acc++[y]))) b=some (.tup xs):=fun b xs e'=>by
  rw[zh (za9 e' e3 (by intro z;cases z))]
  exact e'
 refine⟨acc,e3,za3 (by omega),?_,acc++[y],zd,zrw (ygq.mapP q fun j z r'=>mono j z _ _ (fun b xs e'=>tu b xs (s3 _ _ e')) r') (mono i y _ _ tu r)⟩
 intro b o eb
 rw[zh (zn eb hD)]
 exact s3 _ _ (s2 _ _ eb)
theorem zca(R:Nat->V->Hp->Prop)(mono:zem R)(hD:H1 D=none)(hl:SqL K H1 a xs)(hn:xs.length<=1000000)(hw:∀ x,wipe ((wipe σ vs).set idx (some x)) vs=wipe σ vs)(step:∀ i x H2 (Q:VK),xs[i]?=some x->Same H1 H2->(∀ y H3,R i y H3->Same H2 H3->Q y H3)->te ((wipe σ vs).set idx (some x)) H2 Q)(fin:∀ H2 acc,Same H1 H2->H2 D=some (.lst acc)->Paired (fun j y=>R j y H2) (yae xs.length) acc->Qd H2) :
  ∃ W:Nat->Nat->Hp->Prop,(∃ m,W 0 m (upd H1 D (.lst [])))/\∀ i m H,W i m H ->
   ((Itl K a).stop i H/\Qd H)\/((Itl K a).go i H/\∃ Nx:Hp->Prop,(∀ H',Nx H'->∃ m',m'<m/\W (i+1) m' H')/\∀ x H',(Itl K a).yld i H x H'->gName idx x (wipe σ vs) H' fun σ2 H2=>wipe σ2 vs=wipe σ vs/\tYes σ2 H2 fun b H3 =>
    if b=true then te σ2 H3 fun y H4=>∃ acc,H4 D=some (.lst acc)/\acc.length<yay/\Nx (upd H4 D (.lst (acc++[y]))) else Nx H3):=by
 refine zlx (K:=K) (a:=a) (xs:=xs) (fun i H2=>Same H1 H2/\∃ acc,H2 D=some (.lst acc)/\Paired (fun j y=>R j y H2) (yae i) acc) ⟨Same.new hD,[],zd,.nil⟩ (fun i H2 _ ⟨s2,_⟩=>s2.seq hl) (fun i x H2 hx p=>?_) fun H2 ⟨s2,acc,e,q⟩=>fin H2 acc s2 e q
 refine⟨hw x,?_⟩
 refine yes ?_
 exact zf4 mono hD (yag.mp hx).1 hn p fun Q hq=>step i x H2 Q hx p.1 hq
theorem zin{K:yac}{H H':Hp}{a:Addr}{xs:List V}(e:Same H H')(h:SqT K H a xs):SqT K H' a xs:=by
 rcases h with (h | ⟨o,h⟩) | h
 ·exact .inl (.inl (e _ _ h))
 ·exact .inl (.inr ⟨o,e _ _ h⟩)
 ·exact .inr h
theorem zee(R:Nat->V->Hp->Prop)(mono:zem R)(hD:H1 D=none)(hl:SqT K H1 a xs)(hn:xs.length<=1000000)(hw:∀ x,wipe ((wipe σ vs).set idx (some x)) vs=wipe σ vs)(step:∀ i x H2 (Q:VK),xs[i]?=some x->Same H1 H2->(∀ y H3,R i y H3->Same H2 H3->Q y H3)->te ((wipe σ vs).set idx (some x)) H2 Q)(fin:∀ H2 acc,Same H1 H2->H2 D=some (.lst acc)->Paired (fun j y=>R j y H2) (yae xs.length) acc->Qd H2) :
  ∃ W:Nat->Nat->Hp->Prop,(∃ m,W 0 m (upd H1 D (.lst [])))/\∀ i m H,W i m H ->
   ((Itt K a).stop i H/\Qd H)\/((Itt K a).go i H/\∃ Nx:Hp->Prop,(∀ H',Nx H'->∃ m',m'<m/\W (i+1) m' H')/\∀ x H',(Itt K a).yld i H x H'->gName idx x (wipe σ vs) H' fun σ2 H2=>wipe σ2 vs=wipe σ vs/\tYes σ2 H2 fun b H3 =>
    if b=true then te σ2 H3 fun y H4=>∃ acc,H4 D=some (.lst acc)/\acc.length<yay/\Nx (upd H4 D (.lst (acc++[y]))) else Nx H3):=by
 refine zzm (K:=K) (a:=a) (xs:=xs) (fun i H2=>Same H1 H2/\∃ acc,H2 D=some (.lst acc)/\Paired (fun j y=>R j y H2) (yae i) acc) ⟨Same.new hD,[],zd,.nil⟩ (fun i H2 _ ⟨s2,_⟩=>zin s2 hl) (fun i x H2 hx p=>?_) fun H2 ⟨s2,acc,e,q⟩=>fin H2 acc s2 e q
 refine⟨hw x,?_⟩
 refine yes ?_
 exact zf4 mono hD (yag.mp hx).1 hn p fun Q hq=>step i x H2 Q hx p.1 hq
theorem z0z{b:Bool}(R:Nat->V->Hp->Prop)(mono:zem R)(hD:H1 D=none)(hl:Sq b K H1 a xs)(hn:xs.length<=1000000)(hw:∀ x,wipe ((wipe σ vs).set idx (some x)) vs=wipe σ vs)(step:∀ i x H2 (Q:VK),xs[i]?=some x->Same H1 H2->(∀ y H3,R i y H3->Same H2 H3->Q y H3)->te ((wipe σ vs).set idx (some x)) H2 Q)(fin:∀ H2 acc,Same H1 H2->H2 D=some (.lst acc)->Paired (fun j y=>R j y H2) (yae xs.length) acc->Qd H2) :
  ∃ W:Nat->Nat->Hp->Prop,(∃ m,W 0 m (upd H1 D (.lst [])))/\∀ i m H,W i m H ->
   ((Itq K b a).stop i H/\Qd H)\/((Itq K b a).go i H/\∃ Nx:Hp->Prop,(∀ H',Nx H'->∃ m',m'<m/\W (i+1) m' H')/\∀ x H',(Itq K b a).yld i H x H'->gName idx x (wipe σ vs) H' fun σ2 H2=>wipe σ2 vs=wipe σ vs/\tYes σ2 H2 fun b H3 =>
    if b=true then te σ2 H3 fun y H4=>∃ acc,H4 D=some (.lst acc)/\acc.length<yay/\Nx (upd H4 D (.lst (acc++[y]))) else Nx H3):=by
 cases b
 ·exact zca R mono hD hl hn hw step fin
 ·exact zee R mono hD hl hn hw step fin
theorem zc2{n:Nat}(R:Nat->V->Hp->Prop)(mono:zem R)(hD:H1 D=none)(hn:n<=1000000)(hw:∀ x,wipe ((wipe σ vs).set idx (some x)) vs=wipe σ vs)(step:∀ i H2 (Q:VK),i<n->Same H1 H2->(∀ y H3,R i y H3->Same H2 H3->Q y H3)->te ((wipe σ vs).set idx (some (.int (0+(i:Int))))) H2 Q)(fin:∀ H2 acc,Same H1 H2->H2 D=some (.lst acc)->Paired (fun j y=>R j y H2) (yae n) acc->Qd H2) :
  ∃ W:Nat->Nat->Hp->Prop,(∃ m,W 0 m (upd H1 D (.lst [])))/\∀ i m H,W i m H ->
   ((Itr 0 n).stop i H/\Qd H)\/((Itr 0 n).go i H/\∃ Nx:Hp->Prop,(∀ H',Nx H'->∃ m',m'<m/\W (i+1) m' H')/\∀ x H',(Itr 0 n).yld i H x H'->gName idx x (wipe σ vs) H' fun σ2 H2=>wipe σ2 vs=wipe σ vs/\tYes σ2 H2 fun b H3 =>
    if b=true then te σ2 H3 fun y H4=>∃ acc,H4 D=some (.lst acc)/\acc.length<yay/\Nx (upd H4 D (.lst (acc++[y]))) else Nx H3):=by
 refine zey (lo:=0) (n:=n) (fun i H2=>Same H1 H2/\∃ acc,H2 D=some (.lst acc)/\Paired (fun j y=>R j y H2) (yae i) acc) ⟨Same.new hD,[],zd,.nil⟩ (fun i H2 hi p=>?_) fun H2 ⟨s2,acc,e,q⟩=>fin H2 acc s2 e q
 refine⟨hw _,?_⟩
 refine yes ?_
 exact zf4 mono hD hi hn p fun Q hq=>step i H2 Q hi p.1 hq
end
theorem zak{f:Nat->V}:∀{n:Nat} {acc:List V},Paired (fun j y=>y=f j) (yae n) acc->acc=(yae n).map f:=by
 have gen:∀{l:List Nat} {acc:List V},Paired (fun j y=>y=f j) l acc->acc=l.map f:=by
  intro l acc p
  induction p with
  | nil=>rfl
  | cons h t ih=>rw[h,ih];rfl
 exact fun {n acc} p=>gen p
theorem zyc{H:Hp}{f:Nat->List Nat}{n:Nat}{acc:List V}(p:Paired (fun j y=>∃ q,y=V.ref q/\RowAt H q (f j)) (yae n) acc):∃ rs,acc=rs.map V.ref/\RowsAt H rs ((yae n).map f):=by
 have gen:∀{l:List Nat} {acc:List V},Paired (fun j y=>∃ q,y=V.ref q/\RowAt H q (f j)) l acc->∃ rs,acc=rs.map V.ref/\RowsAt H rs (l.map f):=by
  intro l acc p
  induction p with
  | nil=>exact⟨[],rfl,.nil⟩
  | cons h t ih =>
   obtain⟨q,rfl,hq⟩:=h
   obtain⟨rs,e,r⟩:=ih
   exact⟨q::rs,by rw[e];rfl,.cons hq r⟩
 exact gen p
section
variable {P:yav}{w:World}{K:yac}{mg:Str->Option Value}{base:Heap}
def ze6(P:yav)(w:World)(C:Addr):Sp:=fun vs H Q _=>∃ d a dx t v,vs=[.ref a,v]/\H a=some (.ins C dx [])/\StAt H d t v /\
 ∀ H' m n l,WkAt P w C H' d a m n l [t] []->m≠l->H m=none->H n=none->H l=none->Keep [a] H H'->Q .non H'
theorem zvz:FnScope ["self","start"] ["self","start"] (ze zec):=⟨rfl,rfl,rfl,by decide +kernel,rfl,by decide +kernel,by decide +kernel⟩
theorem ze7{f C:Addr}{fd:ya2}(F:Fun K "__init__" "Walk.__init__" zec f fd)(T:TW K mg C):FnOk P w K mg base CX0 1 f fd ["self","start"] (ze6 P w C):=by
 refine F.ok zvz (fun vs H Q E h=>?_) (fun cdv A outer s H vs Q E hr h=>?_)
 ·obtain⟨d,a,dx,t,v,rfl,_⟩:=h
  rfl
 ·obtain⟨d,a,dx,t,v,rfl,e0,hv,k⟩:=h
  refine⟨_,zc (zes (pv 0) (zy (za (pv 1) zb)) rfl) (zc (zes (pv 0) (zxp (hu2 hr) (pv 1) zg) rfl) (zf (zes (pv 0) (zy zb) rfl))),?_⟩
  refine⟨_,rfl,(by show 1<=yay;rw[ybr];decide),fun m hm=>?_⟩
  have sm:=Same.new (o:=.lst [v]) hm
  have e1:=sm _ _ e0
  have nam:a≠m:=zn e0 hm
  refine⟨_,rfl,a,C,dx,_,rfl,e1,T.cl,T.nM,(by show 0<1000;decide),?_⟩
  refine⟨d,fun n H0 hn D0 k0=>?_⟩
  have e2:H0 a=some (.ins C dx (putF "met" (.ref m) [])):=k0 _ _ zd
  have e2m:H0 m=some (.lst [v]):=k0 _ _ (by rw[zh (fun z=>nam z.symm)];exact zd)
  have hnm:H n=none:=by
   cases q:H n with
   | none=>rfl
   | some o =>
    have z:=sm _ _ q
    by_cases ea:n=a
    ·rw[ea,zd]at hn;cases hn
    ·rw[zh ea,z]at hn;cases hn
  have nmn:n≠m:=fun z=>by
   rw[z,zh (fun z=>nam z.symm),zd]at hn;cases hn
  have nan:n≠a:=fun z=>by rw[z,zd]at hn;cases hn
  have t0:∀ b xs,H b=some (.tup xs)->H0 b=some (.tup xs):=fun b xs e=>k0 _ _ (by
   rw[zh (za9 e e0 (by intro z;cases z))]
   exact sm _ _ e)
  refine⟨v,rfl,encK d t,hv.2.keeps t0,zm1 hv.1,D0,fun H4 D4 k4=>?_⟩
  have e3:=k4 _ _ e2 (fun z=>nan z.symm)
  have e3m:=k4 _ _ e2m (fun z=>nmn z.symm)
  refine⟨_,rfl,a,C,dx,_,rfl,e3,T.cl,T.nN,(by show 1<1000;decide),?_⟩
  refine⟨ybj _,fun l hl=>?_⟩
  have hl4:H4 l=none:=by
   by_cases ea:l=a
   ·rw[ea,zd]at hl;cases hl
   ·rw[zh ea]at hl;exact hl
  have nal:a≠l:=zn e3 hl4
  refine⟨_,rfl,a,C,dx,_,rfl,(by rw[zh nal];exact zd),T.cl,T.nL,(by show 2<1000;decide),?_⟩
  obtain⟨φ,e4n⟩:=DAt.notTup D4
  have nml:m≠l:=zn e3m hl4
  have nnl:n≠l:=zn e4n hl4
  have hlH:H l=none:=by
   cases q:H l with
   | none=>rfl
   | some o =>
    have z:=k4 _ _ (k0 _ _ (show(upd (upd H m (.lst [v])) a (.ins C dx (putF "met" (.ref m) []))) l=some o by rw[zh (fun z=>nal z.symm)];exact sm _ _ q)) (fun z=>nnl z.symm)
    rw[hl4]at z;cases z
  have t4:∀ b xs,H0 b=some (.tup xs)->H4 b=some (.tup xs):=fun b xs e=>k4 _ _ e (fun z=>by
   obtain⟨φ0,e00⟩:=DAt.notTup D0
   rw[z,e00]at e;cases e)
  have t5:∀ b xs,H4 b=some (.tup xs)->(upd (upd (upd H4 a (.ins C dx (putF "numbers" (.ref n) (putF "met" (.ref m) [])))) l (.lst [])) a (.ins C dx (putF "leads" (.ref l) (putF "numbers" (.ref n) (putF "met" (.ref m) []))))) b=some (.tup xs):=fun b xs e=>by
   have na:b≠a:=za9 e e3 (by intro z;cases z)
   rw[zh na,zh (zn e hl4),zh na]
   exact e
  refine k _ m n l ⟨⟨dx,?_⟩,⟨[v],?_,.cons (hv.keep fun b xs e=>t5 b xs (t4 b xs (t0 b xs e))) .nil⟩,?_,⟨[],?_,.nil⟩⟩ nml hm hnm hlH fun b o e hb=>?_
  ·rw[zd,ztk]
  ·rw[zh (fun z=>nam z.symm),zh nml,zh (fun z=>nam z.symm)];exact e3m
  ·exact DAt.keep (H:=H4) D4 (fun o e=>by rw[zh nan,zh nnl,zh nan];exact e) t5
  ·rw[zh (fun z=>nal z.symm)];exact zd
  ·have na:b≠a:=fun z=>hb (by simp[z])
   have h4:=k4 _ _ (k0 _ _ (show(upd (upd H m (.lst [v])) a (.ins C dx (putF "met" (.ref m) []))) b=some o by rw[zh na];exact sm _ _ e)) (zn e hnm)
   rw[zh na,zh (zn h4 hl4),zh na]
   exact h4
def bV(b:Bool):V:=.int (if b=true then 1 else 0)
structure MachAt(C:Addr)(H:Hp)(a:Addr)(m:yaf):Prop where
 ex:∃ dx e l rs,H a=some (.ins C dx (fMach (.ref e) (.ref l)))/\H e=some (.tup (m.ends.map bV))/\H l=some (.tup (rs.map V.ref))/\RowsAt H rs m.next
theorem MachAt.same{C:Addr}{H H':Hp}{a:Addr}{m:yaf}(M:MachAt C H a m)(s:Same H H'):MachAt C H' a m:=by
 obtain⟨dx,e,l,rs,h1,h2,h3,h4⟩:=M.ex
 exact⟨dx,e,l,rs,s _ _ h1,s _ _ h2,s _ _ h3,h4.keep fun _ _ z=>s _ _ z⟩
structure TM(K:yac)(mg:Str->Option Value)(C:Addr):Prop where
 cl:Cls K C
 nE:NoAttr K C "ends"
 nL:NoAttr K C "leads"
 mg:mg "Machine" = some (.ref C)
def SeqAt(H:Hp)(p:Addr)(xs:List V):Prop:=H p=some (.lst xs)\/H p=some (.tup xs)
theorem ze8{X:Cx}:CallR X (.type "tuple") (fun xs H Q=>∃ p ys,xs=[.ref p]/\SeqAt H p ys/\∀ t H',H' t=some (.tup ys)->Same H H'->Q (.ref t) H'):=by
 intro pins s σ H xs us Q I r h
 obtain⟨p,ys,rfl,hs,h⟩:=h
 refine zh0 pins s σ H [.ref p] us Q I r ?_
 rcases hs with hs | hs
 ·exact⟨p,ys,rfl,.inl ⟨SqL.of hs,fun l hl=>h l _ zd (Same.new hl)⟩⟩
 ·exact⟨p,ys,rfl,.inr ⟨SqT.of hs,h p H hs (Same.refl H)⟩⟩
def zhb(C:Addr):Sp:=fun vs H Q _=>∃ a dx p q m rs,vs=[.ref a,.ref p,.ref q]/\H a=some (.ins C dx [])/\SeqAt H p (m.ends.map bV)/\SeqAt H q (rs.map V.ref)/\RowsAt H rs m.next /\
 ∀ H',MachAt C H' a m->Keep [a] H H'->Q .non H'
theorem zv0:FnScope ["self","ends","leads"] ["self","ends","leads"] (ze zc7):=⟨rfl,rfl,rfl,by decide +kernel,rfl,by decide +kernel,by decide +kernel⟩
theorem zhv{f C:Addr}{fd:ya2}(F:Fun K "__init__" "Machine.__init__" zc7 f fd)(T:TM K mg C)(B:TB mg):FnOk P w K mg base CX0 1 f fd ["self","ends","leads"] (zhb C):=by
 refine F.ok zv0 (fun vs H Q E h=>?_) (fun cdv A outer s H vs Q E hr h=>?_)
 ·obtain⟨a,dx,p,q,m,rs,rfl,_⟩:=h
  rfl
 ·obtain⟨a,dx,p,q,m,rs,rfl,e0,hp,hq,hrs,k⟩:=h
  refine⟨_,zc (zes (pv 0) (zcp ze8 (by rfl) B.tuple (by decide +kernel) (za (pv 1) zb)) rfl) (zf (zes (pv 0) (zcp ze8 (by rfl) B.tuple (by decide +kernel) (za (pv 2) zb)) rfl)),?_⟩
  refine⟨_,rfl,p,_,rfl,hp,fun t H1 ht s1=>?_⟩
  refine⟨_,rfl,a,C,dx,_,rfl,s1 _ _ e0,T.cl,T.nE,(by show 0<1000;decide),?_⟩
  have hq2:SeqAt (upd H1 a (.ins C dx (putF "ends" (.ref t) []))) q (rs.map V.ref):=by
   rcases hq with hq | hq
   ·exact .inl (by rw[zh (za9 hq e0 (by intro z;cases z))];exact s1 _ _ hq)
   ·exact .inr (by rw[zh (za9 hq e0 (by intro z;cases z))];exact s1 _ _ hq)
  refine⟨_,rfl,q,_,rfl,hq2,fun u H2 hu s2=>?_⟩
  have ea:=s2 _ _ (show(upd H1 a (.ins C dx (putF "ends" (.ref t) []))) a=some _ from zd)
  refine⟨_,rfl,a,C,dx,_,rfl,ea,T.cl,T.nL,(by show 1<1000;decide),?_⟩
  have nta:t≠a:=za9 ht (s1 _ _ e0) (by intro z;cases z)
  have nua:u≠a:=za9 hu ea (by intro z;cases z)
  have up:∀ b o,H b=some o->b≠a->(upd H2 a (.ins C dx (putF "leads" (.ref u) (putF "ends" (.ref t) [])))) b=some o:=fun b o e hb=>by
   rw[zh hb]
   exact s2 _ _ (by rw[zh hb];exact s1 _ _ e)
  refine k _ ⟨dx,t,u,rs,?_,?_,?_,?_⟩ fun b o e hb=>up b o e (fun z=>hb (by simp[z]))
  ·rw[zd,ztj]
  ·rw[zh nta];exact s2 _ _ (by rw[zh nta];exact ht)
  ·rw[zh nua];exact hu
  ·exact hrs.keep fun b xs e=>up b _ e (za9 e e0 (by intro z;cases z))
end
end My
end
section
namespace My
open PySem PySem.Spec PyProof.Rows L2
open Rows (Told)
theorem za4{α β:Type}(l:List α)(d:α)(g:α->β):(yae l.length).map (fun j=>g (l.getD j d))=l.map g:=by
 apply yc3
 intro i
 by_cases h:i<l.length
 ·rw[MM.zas h,yaj,yad h,yal,yad h]
  rfl
 ·rw[ybd (by simp;omega),ybd (by simp;omega)]
theorem zcx{α β:Type}{l:List α}{f:α->β}{i:Nat}{y:β}(h:(l.map f)[i]?=some y):∃ x,l[i]?=some x/\y=f x:=by
 rw[yaj]at h
 cases e:l[i]? with
 | none=>rw[e]at h;cases h
 | some x=>rw[e]at h;exact⟨x,rfl,(ya1 h).symm⟩
theorem ztm{l:List Nat}{i:Nat}(h:i<l.length):(l.map nV)[i]?=some (nV (l.getD i 0)):=by
 rw[yaj,MM.zbz h];rfl
section
variable {P:yav}{w:World}{K:yac}{mg:Str->Option Value}{base:Heap}
def spLed:Sp:=fun vs H Q _=>∃(c r:Addr) (C row:List Nat),vs=[.ref c,.ref r]/\H c=some (.lst (C.map nV))/\RowAt H r row/\(∀ x∈row,x<C.length)/\row.length<=1000 /\
 ∀ H' q,RowAt H' q (row.map fun x=>C.getD x 0)->Same H H'->Q (.ref q) H'
theorem sc_led:FnScope ["classes","states","state"] ["classes","states"] (ze zej):=⟨rfl,rfl,rfl,by decide +kernel,rfl,by decide +kernel,by decide +kernel⟩
theorem ztn{f:Addr}{fd:ya2}(F:Fun K "led_to" "led_to" zej f fd)(B:TB mg):FnOk P w K mg base CX0 1 f fd ["classes","states"] spLed:=by
 refine F.ok sc_led (fun vs H Q E h=>?_) (fun cdv A outer s H vs Q E hr h=>?_)
 ·obtain⟨c,r,C,row,rfl,_⟩:=h
  rfl
 ·obtain⟨c,r,C,row,rfl,hc,hrow,hlt,hz,k⟩:=h
  refine⟨_,zf (zk (zcp ze8 (by rfl) B.tuple (by decide +kernel) (za (zaq (te:=tOp (rIxL K) (tVar 0) (tVar 2)) (own:=[("state",2)]) rfl sc_led.nd (zd9 (pv 1)) (show BlkOk ["classes","states","state"] (ze zej) _ _ from zu (by decide +kernel))
   (fun _ _ _ _ _=>zt (i:=2) sc_led.nd rfl (ybk rfl)) (fun _ _ _ _ _=>zac) (fun _ _ _ _ _=>zp ix_list (pv 0) (pv 2) (fun _ _=>rfl))) zb))),?_⟩
  refine⟨_,rfl,r,rfl,⟨_,SqT.of hrow⟩,fun D hD=>?_⟩
  refine zee (K:=K) (a:=r) (xs:=row.map nV) (idx:=2) (fun j y _=>y=nV (C.getD (row.getD j 0) 0)) (fun _ _ _ _ _ h=>h) hD (SqT.of hrow) (by rw[yab];omega) (fun _=>rfl) (fun i x H2 Q hx s2 q=>?_) fun H2 acc s2 e p=>?_
  ·obtain⟨y,hy,rfl⟩:=zcx hx
   have hyl:y<C.length:=hlt y (yat hy)
   refine⟨_,rfl,_,rfl,c,_,_,_,rfl,rfl,SqL.of (s2 _ _ hc),zm (ztm hyl),?_⟩
   exact q _ H2 (by rw[MM.zw hy]) (Same.refl H2)
  ·have ea:=zak p
   rw[yab]at ea
   have ea2:acc=(row.map fun x=>C.getD x 0).map nV:=by
    rw[ea,yb7]
    exact za4 row 0 (fun x=>nV (C.getD x 0))
   refine⟨D,acc,rfl,.inl e,fun t H' ht s'=>?_⟩
   refine k H' t (by unfold RowAt;rw[<- ea2];exact ht) (s2.trans s')
def zch(ks:List KD):List (KD × V):=(MM.dd [] ks).mapIdx fun i k=>(k,nV i)
theorem zio(ks:List KD):(zch ks).length=(MM.dd [] ks).length:=by simp[zch]
theorem zqm(ks:List KD)(k:KD):MM.dd [] (ks++[k])=MM.push1 (MM.dd [] ks) k:=by
 unfold MM.dd
 rw[yk9]
 rfl
theorem zlc(k:KD):∀(l:List KD) (i:Nat),valV (l.mapIdx fun j x=>(x,nV (i+j))) k=if k∈l then some (nV (i+l.idxOf k)) else none
 | [],_=>rfl
 | x::l,i=>by
  rw[List.mapIdx_cons]
  by_cases e:x=k
  ·subst e
   rw[zeh rfl,if_pos yaq]
   simp
  ·have ih:=zlc k l (i+1)
   have e2:(fun (j:Nat) (x:KD)=>((x,nV (i+(j+1))):KD × V))=fun j x=>(x,nV (i+1+j)):=by
    funext j x
    have:i+(j+1)=i+1+j:=by omega
    rw[this]
   rw[zei (p:=(x,nV (i+0))) e,e2,ih]
   by_cases m:k∈l
   ·rw[if_pos m,if_pos (yam _ m),yhb,show(x == k)=false from beq_eq_false_iff_ne.mpr e]
    have:i+1+l.idxOf k=i+(l.idxOf k+1):=by omega
    rw[this]
    rfl
   ·rw[if_neg m,if_neg (by
     intro z
     rcases yap.mp z with z | z
     ·exact e z.symm
     ·exact m z)]
theorem zgc(ks:List KD)(k:KD):valV (zch ks) k=if k∈MM.dd [] ks then some (nV ((MM.dd [] ks).idxOf k)) else none:=by
 have:=zlc k (MM.dd [] ks) 0
 simp only[yfi]at this
 exact this
theorem zne{ks:List KD}{k:KD}(h:¬ k∈MM.dd [] ks):zch (ks++[k])=zch ks++[(k,nV (MM.dd [] ks).length)]:=by
 unfold zch
 rw[zqm,show MM.push1 (MM.dd [] ks) k=MM.dd [] ks++[k] from if_neg h,List.mapIdx_append]
 simp
theorem znf{ks:List KD}{k:KD}(h:k∈MM.dd [] ks):zch (ks++[k])=zch ks:=by
 unfold zch
 rw[zqm,show MM.push1 (MM.dd [] ks) k=MM.dd [] ks from if_pos h]
theorem zz5(ks:List KD):(MM.dd [] ks).length<=ks.length:=by
 have h:=(MM.zp2 ks).1
 have:=MM.zn8 0 (MM.numb ks)
 rw[h,MM.zjx]at this
 omega
def KsAt(H:Hp)(d:DK)(ks:List KD)(ys:List V):Prop:=Paired (fun k v=>KD.kind k=d/\KAt H k v) ks ys
def zld(P:yav)(w:World):Sp:=fun vs H Q _=>∃(b:Bool) (p:Addr) (d:DK) (ks:List KD) (ys:List V),vs=[.ref p]/\H p=some (sO b ys)/\KsAt H d ks ys/\ks.length<100000/\∀ H' q,H' q=some (.lst ((MM.numb ks).map nV))->Same H H'->Q (.ref q) H'
theorem sc_nbd:FnScope ["signs","numbers","sign"] ["signs"] (ze zd6):=⟨rfl,rfl,rfl,by decide +kernel,rfl,by decide +kernel,by decide +kernel⟩
theorem zpo{f:Addr}{fd:ya2}(F:Fun K "numbered" "numbered" zd6 f fd)(B:TB mg):FnOk P w K mg base CX0 1 f fd ["signs"] (zld P w):=by
 refine F.ok sc_nbd (fun vs H Q E h=>?_) (fun cdv A outer s H vs Q E hr h=>?_)
 ·obtain⟨b,p,d,ks,ys,rfl,_⟩:=h
  rfl
 ·obtain⟨b,p,d,ks,ys,rfl,hp,hk,hz,k⟩:=h
  have hlen:ks.length=ys.length:=ybh hk
  refine⟨_,zc (zz (i:=1) sc_nbd.nd rfl (yc5 rfl) (zxq d))
   (zc (zf6 yei rfl (zwp b (pv 0)) (zt (i:=2) sc_nbd.nd rfl (ybk rfl))
    (zf (zbk (zh2 (zmx (hu2 hr) (pv 2) (pv 1))) (zf (zqe (hu2 hr) (pv 1) (pv 2) (zaf zta (by rfl) B.len yb9 (za (pv 1) zb)) rfl)) zap)))
   (zf (zk (zaq (te:=tKGet P w (tVar 1) (tVar 2)) (own:=[("sign",2)]) rfl sc_nbd.nd (zwp b (pv 0)) (show BlkOk ["signs","numbers","sign"] (ze zd6) _ _ from zu (by decide +kernel))
    (fun _ _ _ _ _=>zt (i:=2) sc_nbd.nd rfl (ybk rfl)) (fun _ _ _ _ _=>zac) (fun _ _ _ _ _=>zqd (hu2 hr) (pv 1) (pv 2) (fun _ _=>rfl)))))),?_⟩
  intro n H0 hn D0 k0
  have s0:Same H H0:=fun b o e=>k0 b o e
  refine⟨_,rfl,p,rfl,⟨_,Sq.of (s0 _ _ hp)⟩,zzq (K:=K) (a:=p) (xs:=ys) (fun i σ H'=>∃ v:Option V,σ=[some (.ref p),some (.ref n),v]/\Same H H'/\DAt P w H' d n (zch (ks.take i))) ⟨none,rfl,s0,D0⟩ (fun i σ H' _ ⟨_,_,s1,_⟩=>Sq.of (s1 _ _ hp)) ?_ ?_⟩
  ·rintro i y σ H1 hi ⟨v,rfl,s1,D1⟩
   obtain⟨kk,hkk⟩:∃ kk,ks[i]?=some kk:=⟨_,yad (by have:=(yag.mp hi).1;omega)⟩
   obtain⟨y',hy,kd,ka⟩:=za2 hk hkk
   rw[hi]at hy
   cases hy
   subst kd
   have ka1:=ka.keeps (zan s1)
   refine⟨y,rfl,_,rfl,n,kk,_,rfl,D1,ka1,_,rfl,?_⟩
   rw[zgc]
   have htl:(ks.take i).length<=i:=by rw[yd0];omega
   have hi':=(yag.mp hkk).1
   by_cases hm:kk∈MM.dd [] (ks.take i)
   ·rw[if_pos hm]
    refine iteF ?_
    exact⟨some y,rfl,s1,by rw[zfl hkk,znf hm];exact D1⟩
   ·rw[if_neg hm]
    refine iteT ?_
    refine⟨_,rfl,n,_,_,rfl,D1,_,rfl,y,rfl,n,kk,_,rfl,D1,ka1,(by rw[zgc,if_neg hm]),(by rw[zio];have:=zz5 (ks.take i);exact za3 (by omega)),fun H4 D4 k4=>?_⟩
    refine⟨some y,rfl,fun b o e=>k4 _ _ (s1 _ _ e) (zn e hn),?_⟩
    rw[zfl hkk,zne hm]
    rw[show((zch (ks.take i)).length:Int)=((MM.dd [] (ks.take i)).length:Int) by rw[zio]]at D4
    exact D4
  ·rintro σ H1 ⟨v,rfl,s1,D1⟩
   rw[<- hlen,ydq]at D1
   refine⟨_,rfl,p,rfl,⟨_,Sq.of (s1 _ _ hp)⟩,fun D hD=>?_⟩
   refine z0z (K:=K) (a:=p) (xs:=ys) (idx:=2) (fun j y _=>y=nV ((MM.numb ks).getD j 0)) (fun _ _ _ _ _ h=>h) hD (Sq.of (s1 _ _ hp)) (by omega) (fun _=>rfl) (fun i x H2 Q hx s2 q=>?_) fun H2 acc s2 e p2=>?_
   ·obtain⟨kk,hkk⟩:∃ kk,ks[i]?=some kk:=⟨_,yad (by have:=(yag.mp hx).1;omega)⟩
    obtain⟨y',hy,kd,ka⟩:=za2 hk hkk
    rw[hx]at hy
    cases hy
    subst kd
    have hmem:kk∈MM.dd [] ks:=MM.zkq (yat hkk)
    refine⟨_,rfl,x,rfl,n,kk,_,nV ((MM.dd [] ks).idxOf kk),rfl,DAt.keep (H:=H1) D1 (fun o e=>s2 _ _ e) (zan s2),ka.keeps (zan (s1.trans s2)),(by rw[zgc,if_pos hmem]),?_⟩
    exact q _ H2 (by rw[MM.zjy hkk]) (Same.refl H2)
   ·have ea:=zak p2
    have ea2:acc=(MM.numb ks).map nV:=by
     rw[ea,<- hlen,<- MM.zjx ks]
     exact za4 (MM.numb ks) 0 nV
    exact k H2 D (by rw[<- ea2];exact e) (s1.trans s2)
def zl4(K:yac):Sp:=fun vs H Q _=>∃(c:Addr) (C:List Nat),vs=[.ref c]/\SqL K H c (C.map nV)/\MM.ok 0 C/\0<C.length/\Q (nV (MM.gr 0 C)) H
theorem zv1:FnScope ["classes"] ["classes"] (ze zd7):=⟨rfl,rfl,rfl,by decide +kernel,rfl,by decide +kernel,by decide +kernel⟩
theorem zj7:yd5 "max" = some (.builtin "max"):=by decide +kernel
theorem zox{f:Addr}{fd:ya2}(F:Fun K "count_of" "count_of" zd7 f fd)(B:TB mg):FnOk P w K mg base CX0 1 f fd ["classes"] (zl4 K):=by
 refine F.ok zv1 (fun vs H Q E h=>?_) (fun cdv A outer s H vs Q E hr h=>?_)
 ·obtain⟨c,C,rfl,_⟩:=h
  rfl
 ·obtain⟨c,C,rfl,hc,ho,hp,k⟩:=h
  refine⟨_,zf (zk (zaa zkc (zaf (znw rfl) (by rfl) B.max zj7 (za (pv 0) zb)) zg)),?_⟩
  refine⟨_,rfl,c,C.map (fun n:Nat=>(n:Int)),rfl,(by rw[yb7];exact hc),(by rw[yab];exact hp),fun m hm hmax=>?_⟩
  refine⟨_,_,rfl,rfl,?_⟩
  obtain⟨x,hx,rfl⟩:=ya6.mp hm
  have h1:=MM.zko ho hx
  have h2:MM.gr 0 C<=x+1:=by
   by_cases q:MM.gr 0 C<=x+1
   ·exact q
   ·exfalso
    have hin:=(MM.ok_all ho (show x+1<MM.gr 0 C by omega)).resolve_left (yha _)
    have:=hmax _ (ya6.mpr ⟨x+1,hin,rfl⟩)
    omega
  have e:((x:Int)+1)=((MM.gr 0 C:Nat):Int):=by omega
  show Q (.int ((x:Int)+1)) H
  rw[e]
  exact k
end
end My
end
section
namespace My
open PySem PySem.Spec PyProof.Rows L2
open Rows (Told)
structure Gf(K:yac)(mg:Str->Option Value)(x:Str)(st:Stmt)(ps:List Str)(f:Addr)(fd:ya2):Prop where
 F:Fun K x x st f fd
 b:Binds K fd ps []
 m:mg x=some (.ref f)
section
variable {P:yav}{w:World}{K:yac}{mg:Str->Option Value}{base:Heap}
theorem ifT{b:Bool}{A B:Prop}(hb:b=true)(h:A):if b=true then A else B:=by
 rw[if_pos hb]
 exact h
theorem ifF{b:Bool}{A B:Prop}(hb:b=false)(h:B):if b=true then A else B:=by
 rw[if_neg (by rw[hb];exact ybb)]
 exact h
def kEnd(b:Bool):KD:=.o (some (if b=true then 1 else 0))
theorem zv2:∀ x y,kEnd x=kEnd y->x=y:=by intro x y;cases x<;>cases y<;>simp[kEnd]
theorem zm3(H:Hp):∀ l:List Bool,KsAt H .o (l.map kEnd) (l.map bV)
 | []=>.nil
 | b::l=>.cons ⟨rfl,rfl⟩ (zm3 H l)
def iL(l:List Nat):List Int:=l.map fun (n:Nat)=>(n:Int)
theorem zto:∀{a b:List Nat},iL a=iL b->a=b
 | [],[],_=>rfl
 | [],_::_,h=>by simp[iL]at h
 | _::_,[],h=>by simp[iL]at h
 | x::a,y::b,h=>by
  have h1:(x:Int)=y/\iL a=iL b:=by simpa [iL] using h
  rw[zto h1.2,yf5.mp h1.1]
theorem z2d(l:List Nat):(iL l).map V.int=l.map nV:=by unfold iL;rw[yb7];rfl
def kSign(p:Nat × List Nat):KD:=.n (p.1:Int) (iL p.2)
theorem ztp:∀ x y,kSign x=kSign y->x=y:=by
 rintro⟨a,b⟩ ⟨c,d⟩ h
 unfold kSign at h
 injection h with h1 h2
 have h1:(a:Int)=c:=h1
 have h2:iL b=iL d:=h2
 rw[yf5.mp h1,zto h2]
theorem zv3(m:yaf)(t:Nat):MM.pyc m (t+1)=MM.numb ((MM.signP m (MM.pyc m t)).map kSign):=by rw[MM.zoh ztp];rfl
theorem zv4(m:yaf):MM.pyc m 0=MM.numb (m.ends.map kEnd):=by rw[MM.zoh zv2];rfl
theorem zyd{H:Hp}{f:Nat->KD}{d:DK}{n:Nat}{acc:List V}(p:Paired (fun j y=>KD.kind (f j)=d/\KAt H (f j) y) (yae n) acc):KsAt H d ((yae n).map f) acc:=by
 have gen:∀{l:List Nat} {acc:List V},Paired (fun j y=>KD.kind (f j)=d/\KAt H (f j) y) l acc->KsAt H d (l.map f) acc:=by
  intro l acc p
  induction p with
  | nil=>exact .nil
  | cons h t ih=>exact .cons h ih
 exact gen p
def ztq(CS:Addr):Sp:=fun vs H Q E=>∃(b:Bool) (e l:Addr) (m:yaf) (rs:List Addr),vs=[.ref e,.ref l]/\H e=some (sO b (m.ends.map bV))/\H l=some (sO b (rs.map V.ref))/\RowsAt H rs m.next/\MM.Wf m/\m.next.length<=1000 /\
 (∀ H' q Cs,H' q=some (.lst (Cs.map nV))->MM.Cls m Cs->MM.gr 0 Cs<=24->Same H H'->Q (.ref q) H')/\(∀ H',24<m.least.next.length->Same H H'->E (.ref CS) none H')
theorem sc_told:FnScope ["ends","leads","found","classes","state"] ["ends","leads"] (ze zda):=⟨rfl,rfl,rfl,by decide +kernel,rfl,by decide +kernel,by decide +kernel⟩
theorem zye{f fN fL fC CS:Addr}{fd fdN fdL fdC:ya2}(F:Fun K "told_apart" "told_apart" zda f fd)(B:TB mg)(GN:Gf K mg "numbered" zd6 ["signs"] fN fdN)(GL:Gf K mg "led_to" zej ["classes","states"] fL fdL)(GC:Gf K mg "count_of" zd7 ["classes"] fC fdC)(TS:Exc K mg "TooManyStates" CS)(tk:Tok)(hS:mg "MOST_STATES" = some (.int 24 tk)):FnOk P w K mg base (CXE P w) 2 f fd ["ends","leads"] (ztq CS):=by
 have NN:FnOk P w K mg base CX0 1 fN fdN ["signs"] (zld P w):=zpo GN.F B
 have NL:FnOk P w K mg base CX0 1 fL fdL ["classes","states"] spLed:=ztn GL.F B
 have NC:FnOk P w K mg base CX0 1 fC fdC ["classes"] (zl4 K):=zox GC.F B
 refine F.okE sc_told (fun vs H Q E h=>?_) (fun cdv A outer s H vs Q E hr h=>?_)
 ·obtain⟨b,e,l,m,rs,rfl,_⟩:=h
  rfl
 ·obtain⟨b,e,l,m,rs,rfl,he,hl,hrs,wf,hz,hQ,hE⟩:=h
  have hrl:rs.length=m.next.length:=ybh hrs
  refine⟨_,zc (zz (i:=2) sc_told.nd rfl (ybk rfl) zg)
   (zc (zz (i:=3) sc_told.nd rfl (yc5 rfl) (zi NN hr rfl GN.m GN.F.kp GN.b .nil pass0 (za (pv 0) zb)))
   (zc (zcz ydg (zah zgi (zi NC hr rfl GC.m GC.F.kp GC.b .nil pass0 (za (pv 3) zb)) (pv 2) (zaj _))
    (zc (zz (i:=2) sc_told.nd rfl (ybk rfl) (zi NC hr rfl GC.m GC.F.kp GC.b .nil pass0 (za (pv 3) zb)))
    (zc (zbk (zah zgi (pv 2) (zx (v:=.int 24) rfl hS ⟨tk,rfl⟩) (zaj _)) (zf (ze2 TS rfl)) zap)
    (zf (zz (i:=3) sc_told.nd rfl (yc5 rfl) (zi NN hr rfl GN.m GN.F.kp GN.b .nil pass0 (za
     (zaq (te:=tTup (tCons (tOp (rIxL K) (tVar 3) (tVar 4)) (tCons (tCall spLed [] E0 (tCons (tVar 3) (tCons (tOp (rIxQ K b) (tVar 1) (tVar 4)) tNil))) tNil))) (own:=[("state",4)]) rfl sc_told.nd
      (zau rfl B.range (za (zaf zag (by rfl) B.len yb9 (za (pv 1) zb)) zb)) (show BlkOk ["ends","leads","found","classes","state"] (ze zda) _ _ from zu (by decide +kernel))
      (fun _ _ _ _ _=>zt (i:=4) sc_told.nd rfl (ybk rfl)) (fun _ _ _ _ _=>zac)
      (fun _ _ _ _ _=>zh6 (za (zp ix_list (pv 3) (pv 4) (fun _ _=>rfl)) (za (zi NL hr rfl GL.m GL.F.kp GL.b .nil pass0 (za (pv 3) (za (zp (zra b) (pv 1) (pv 4) (fun _ _=>rfl)) zb))) zb)))) zb)))))))
   (zf (zk (pv 3))))),?_⟩
  refine⟨_,rfl,b,e,.o,m.ends.map kEnd,_,rfl,he,zm3 H m.ends,(by rw[yab,wf.ends];omega),fun H1 q hq s1=>?_⟩
  rw[<- zv4]at hq
  refine⟨fun mm σ H'=>∃(t:Nat) (q:Addr) (fnd:Nat),σ=[some (.ref e),some (.ref l),some (nV fnd),some (.ref q),none]/\mm=m.next.length+1 - fnd/\Same H H'/\H' q=some (.lst ((MM.pyc m t).map nV))/\(t=0/\fnd=0\/∃ u,t=u+1/\fnd=MM.cnt m u/\fnd<=24),⟨_,0,q,0,rfl,rfl,s1,hq,.inl ⟨rfl,rfl⟩⟩,?_⟩
  rintro mm σ H2 ⟨t,q,fnd,rfl,rfl,s2,hq,ht⟩
  have nb:=MM.zfi wf t
  have hpl:0<(MM.pyc m t).length:=by rw[nb.len];exact wf.pos
  refine⟨_,rfl,q,_,rfl,SqL.of hq,nb.ok,hpl,_,rfl,_,_,rfl,rfl,_,rfl,?_⟩
  have hcl:=MM.zn9 wf t
  by_cases hgo:fnd<MM.cnt m t
  ·refine ifT (decide_eq_true (show((fnd:Nat):Int)<((MM.gr 0 (MM.pyc m t):Nat):Int) from by have:fnd<MM.gr 0 (MM.pyc m t):=hgo;omega)) ?_
   refine⟨fun σ' H'=>∃ m':Nat,m'<m.next.length+1 - fnd/\∃(t:Nat) (q:Addr) (fnd:Nat),σ'=[some (.ref e),some (.ref l),some (nV fnd),some (.ref q),none]/\m'=m.next.length+1 - fnd/\Same H H'/\H' q=some (.lst ((MM.pyc m t).map nV))/\(t=0/\fnd=0\/∃ u,t=u+1/\fnd=MM.cnt m u/\fnd<=24),fun _ _ h=>h,?_⟩
   refine⟨_,rfl,q,_,rfl,SqL.of hq,nb.ok,hpl,?_⟩
   refine⟨_,rfl,_,_,rfl,rfl,_,rfl,?_⟩
   by_cases hbig:24<MM.cnt m t
   ·refine ifT (decide_eq_true (show(24:Int)<((MM.gr 0 (MM.pyc m t):Nat):Int) from by have:24<MM.gr 0 (MM.pyc m t):=hbig;omega)) ?_
    exact hE H2 (yaz hbig (MM.zog wf t)) s2
   ·refine ifF (decide_eq_false (show ¬ (24:Int)<((MM.gr 0 (MM.pyc m t):Nat):Int) from by have:¬ 24<MM.gr 0 (MM.pyc m t):=hbig;omega)) ?_
    have hl2:=s2 _ _ hl
    have hrs2:=hrs.keep (zan s2)
    have hll:(rs.map V.ref).length=m.next.length:=by rw[yab];exact hrl
    refine⟨_,rfl,l,_,rfl,(Sq.of hl2).or,_,rfl,(by rw[hll];omega),(by rw[hll];omega),fun D hD=>?_⟩
    rw[show(((rs.map V.ref).length:Nat):Int).toNat=m.next.length by rw[hll];rfl]
    refine zc2 (idx:=4) (fun j y H'=>KD.kind (kSign ((MM.pyc m t).getD j 0,(m.next.getD j []).map fun s=>(MM.pyc m t).getD s 0)) = .n/\KAt H' (kSign ((MM.pyc m t).getD j 0,(m.next.getD j []).map fun s=>(MM.pyc m t).getD s 0)) y) (fun _ _ _ _ k h=>⟨h.1,h.2.keeps k⟩) hD (by omega) (fun _=>rfl) (fun i H3 Q3 hi s3 q3=>?_) fun H3 acc s3 e3 p3=>?_
    ·obtain⟨r,hr',hrow⟩:∃ r,rs[i]?=some r/\RowAt H r (m.next.getD i []):=by
      have hi':i<rs.length:=by omega
      obtain⟨row,h1,h2⟩:=za2 hrs (yad hi')
      exact⟨_,yad hi',by rw[MM.zw h1];exact h2⟩
     have s23:=s2.trans s3
     have hcq:=s3 _ _ hq
     have ei:(0:Int)+(i:Int)=(i:Int):=by omega
     refine⟨_,rfl,_,rfl,q,_,_,_,rfl,rfl,SqL.of hcq,zki ei (ztm (by rw[nb.len];exact hi)),?_⟩
     refine⟨_,rfl,_,rfl,_,rfl,l,_,_,_,rfl,rfl,Sq.of (s3 _ _ hl2),zki ei (show(rs.map V.ref)[i]?=some (V.ref r) by rw[yaj,hr'];rfl),?_⟩
     have hmem:m.next.getD i []∈m.next:=MM.zcc hi
     refine⟨q,r,MM.pyc m t,m.next.getD i [],rfl,hcq,s23 _ _ hrow,fun x hx=>by rw[nb.len];exact wf.rg.lt hmem hx,by rw[wf.row hi];decide,fun H4 r' hr4 s4=>?_⟩
     refine⟨(by show 2<=yay;rw[ybr];decide),fun pt hpt=>?_⟩
     refine q3 _ _ ⟨rfl,pt,r',rfl,zd,?_⟩ (s4.trans (Same.new hpt))
     rw[z2d]
     exact Same.new hpt _ _ hr4
    ·refine⟨false,D,.n,_,acc,rfl,e3,zyd p3,(by rw[yab,ya5];omega),fun H4 q4 h4 s4=>?_⟩
     have ek:MM.numb ((yae m.next.length).map fun j=>kSign ((MM.pyc m t).getD j 0,(m.next.getD j []).map fun s=>(MM.pyc m t).getD s 0))=MM.pyc m (t+1):=by
      rw[zv3]
      unfold MM.signP
      rw[yb7]
      rfl
     rw[ek]at h4
     exact⟨_,by have:fnd<MM.cnt m t:=hgo;omega,t+1,q4,MM.cnt m t,rfl,rfl,(s2.trans s3).trans s4,h4,.inr ⟨t,rfl,rfl,by omega⟩⟩
  ·refine ifF (decide_eq_false (show ¬ ((fnd:Nat):Int)<((MM.gr 0 (MM.pyc m t):Nat):Int) from by have:¬ fnd<MM.gr 0 (MM.pyc m t):=hgo;omega)) ?_
   rcases ht with⟨rfl,rfl⟩|⟨u,rfl,hf,h24⟩
   ·exact absurd (MM.zxi wf 0) hgo
   ·have st:MM.Stab m u:=(MM.zhr wf u).2 (by omega)
    have K1:=MM.zi6 wf (st.next wf)
    refine⟨_,rfl,hQ H2 q _ hq K1 ?_ s2⟩
    have:=MM.zu3 wf st
    show MM.cnt m (u+1)<=24
    omega
end
end My
end
section
namespace My
open PySem PySem.Spec PyProof.Rows L2
open Rows (Told)
structure MkM(K:yac)(mg:Str->Option Value)(C f:Addr)(fd:ya2):Prop where
 T:TM K mg C
 M:Mk K C f
 F:Fun K "__init__" "Machine.__init__" zc7 f fd
 b:Binds K fd ["self","ends","leads"] []
section
variable {P:yav}{w:World}{K:yac}{mg:Str->Option Value}{base:Heap}
theorem zoy:∀ l:List Nat,(l.map nV).all flatV=true
 | []=>rfl
 | _::l=>by show(true && (l.map nV).all flatV)=true;rw[zoy l];rfl
theorem ztr(a b:Nat):eqV (nV a) (nV b)=decide (a=b):=by
 show((a:Int) == (b:Int))=decide (a=b)
 by_cases h:a=b
 ·subst h;simp
 ·rw[decide_eq_false h]
  exact beq_eq_false_iff_ne.mpr fun e=>h (yf5.mp e)
def zcm(CM CS:Addr):Sp:=fun vs H Q E=>∃(b:Bool) (e l:Addr) (m:yaf) (rs:List Addr),vs=[.ref e,.ref l]/\H e=some (sO b (m.ends.map bV))/\H l=some (sO b (rs.map V.ref))/\RowsAt H rs m.next/\MM.Wf m/\m.next.length<=1000 /\
 (∀ H' a,MachAt CM H' a m.least->m.least.next.length<=24->Same H H'->Q (.ref a) H')/\(∀ H',24<m.least.next.length->Same H H'->E (.ref CS) none H')
theorem sc_least:FnScope ["ends","leads","classes","firsts","number","state"] ["ends","leads"] (ze zam):=⟨rfl,rfl,rfl,by decide +kernel,rfl,by decide +kernel,by decide +kernel⟩
abbrev zj8(own:List (Str × Nat))(scope:Scope):Prop:=BlkOk ["ends","leads","classes","firsts","number","state"] (ze zam) scope own
theorem zv5{f fT fL fC CS CM fI:Addr}{fd fdT fdL fdC fdI:ya2}(F:Fun K "least_machine" "least_machine" zam f fd)(B:TB mg)(GT:Gf K mg "told_apart" zda ["ends","leads"] fT fdT)(GL:Gf K mg "led_to" zej ["classes","states"] fL fdL)(GC:Gf K mg "count_of" zd7 ["classes"] fC fdC)(NT:FnOk P w K mg base (CXE P w) 2 fT fdT ["ends","leads"] (ztq CS))(MI:MkM K mg CM fI fdI):FnOk P w K mg base (CXE P w) 3 f fd ["ends","leads"] (zcm CM CS):=by
 have NL:FnOk P w K mg base CX0 2 fL fdL ["classes","states"] spLed:=(ztn GL.F B).mono (by decide)
 have NC:FnOk P w K mg base CX0 2 fC fdC ["classes"] (zl4 K):=(zox GC.F B).mono (by decide)
 have NI:FnOk P w K mg base CX0 1 fI fdI ["self","ends","leads"] (zhb CM):=zhv MI.F MI.T B
 refine F.okE sc_least (fun vs H Q E h=>?_) (fun cdv A outer s H vs Q E hr h=>?_)
 ·obtain⟨b,e,l,m,rs,rfl,_⟩:=h
  rfl
 ·obtain⟨b,e,l,m,rs,rfl,he,hl,hrs,wf,hz,hQ,hE⟩:=h
  have hrl:rs.length=m.next.length:=ybh hrs
  refine⟨_,zc (zz (i:=2) sc_least.nd rfl (yc5 rfl) (zi NT hr rfl GT.m GT.F.kp GT.b .nil zv (za (pv 0) (za (pv 1) zb))))
   (zc (zdv (i:=3) (te:=tBM K "list" (zsm K) (tVar 2) (tCons (tVar 4) tNil)) (own:=[("number",4)]) rfl sc_least.nd rfl rfl (zek rfl rfl rfl (by decide +kernel))
     (zau rfl B.range (za (zi NC hr rfl GC.m GC.F.kp GC.b .nil pass0 (za (pv 2) zb)) zb)) (show zj8 _ _ from zu (by decide +kernel)) (fun _ _ _ _ _=>zt (i:=4) sc_least.nd rfl (ybk rfl)) (fun _ _ _ _ _=>zac)
     (fun _ _ _ _ _=>zhm yc4 yie PySem.F.type_list_index zuy (pv 2) (za (pv 4) zb)))
   (zf (zk (zc5 MI.M NI hr rfl MI.T.mg MI.b .nil pass0 (za
    (zaq (te:=tOp (rIxQ K b) (tVar 0) (tVar 5)) (own:=[("state",5)]) rfl sc_least.nd (zba (pv 3)) (show zj8 _ _ from zu (by decide +kernel)) (fun _ _ _ _ _=>zt (i:=5) sc_least.nd rfl (ybk rfl)) (fun _ _ _ _ _=>zac)
     (fun _ _ _ _ _=>zp (zra b) (pv 0) (pv 5) (fun _ _=>rfl)))
    (za (zaq (te:=tCall spLed [] E0 (tCons (tVar 2) (tCons (tOp (rIxQ K b) (tVar 1) (tVar 5)) tNil))) (own:=[("state",5)]) rfl sc_least.nd (zba (pv 3)) (show zj8 _ _ from zu (by decide +kernel)) (fun _ _ _ _ _=>zt (i:=5) sc_least.nd rfl (ybk rfl)) (fun _ _ _ _ _=>zac)
     (fun _ _ _ _ _=>zi NL hr rfl GL.m GL.F.kp GL.b .nil pass0 (za (pv 2) (za (zp (zra b) (pv 1) (pv 5) (fun _ _=>rfl)) zb)))) zb)))))),?_⟩
  refine⟨_,rfl,_,rfl,b,e,l,m,rs,rfl,he,hl,hrs,wf,hz,fun H1 q Cs hq KC h24 s1=>?_,hE⟩
  have nb:=KC.nb
  have hcl:0<Cs.length:=by rw[nb.len];exact wf.pos
  refine⟨_,rfl,q,_,rfl,SqL.of hq,nb.ok,hcl,_,rfl,(by show -(2 ^ 62)<=((MM.gr 0 Cs:Nat):Int);omega),(by show((MM.gr 0 Cs:Nat):Int)<2 ^ 62;omega),fun D hD=>?_⟩
  refine zc2 (n:=MM.gr 0 Cs) (idx:=4) (fun j y _=>y=nV (Cs.idxOf j)) (fun _ _ _ _ _ h=>h) hD (by omega) (fun _=>rfl) (fun i H2 Q2 hi s2 q2=>?_) fun H2 acc s2 e2 p2=>?_
  ·obtain⟨f1,f2⟩:=nb.fst hi
   have hget:Cs[Cs.idxOf i]?=some i:=MM.zcq (nb.mem hi)
   have hq2:=s2 _ _ hq
   refine⟨_,rfl,.inl ⟨rfl,_,SqL.of hq2⟩,_,rfl,q,_,_,Cs.idxOf i,nV i,rfl,rfl,SqL.of hq2,(by show flatV (.int (0+(i:Int)))=true;rfl),zoy Cs,?_,?_,?_,q2 _ H2 rfl (Same.refl H2)⟩
   ·rw[yaj,hget];rfl
   ·rw[show V.int (0+(i:Int))=nV i by unfold nV;rw[ygs],ztr,decide_eq_true rfl]
   ·intro j z hj hz'
    obtain⟨c,hc,rfl⟩:=zcx hz'
    rw[show V.int (0+(i:Int))=nV i by unfold nV;rw[ygs],ztr]
    exact decide_eq_false fun ec=>by
     subst ec
     have:=MM.zjz hc
     omega
  ·have ea:=zak p2
   subst ea
   have s12:=s1.trans s2
   have hN:((yae (MM.gr 0 Cs)).map fun j=>nV (Cs.idxOf j)).length=MM.gr 0 Cs:=by rw[yab,ya5]
   refine⟨_,rfl,D,rfl,⟨_,SqL.of e2⟩,fun D1 hD1=>?_⟩
   refine zca (K:=K) (a:=D) (idx:=5) (fun j y _=>y=bV (m.end_ (Cs.idxOf j))) (fun _ _ _ _ _ h=>h) hD1 (SqL.of e2) (by rw[hN];omega) (fun _=>rfl) (fun i x H3 Q3 hx s3 q3=>?_) fun H3 acc3 s3 e3 p3=>?_
   ·obtain⟨j,hj,rfl⟩:=zcx hx
    have hji:=MM.zn4 yis hj
    have hlt:j<MM.gr 0 Cs:=yau.mp (yat hj)
    have ei:j=i:=by
     have h1:=(yag.mp hj)
     obtain⟨a1,a2⟩:=h1
     simp at a2
     exact a2.symm
    subst ei
    obtain⟨f1,f2⟩:=nb.fst hlt
    have hend:(m.ends.map bV)[Cs.idxOf j]?=some (bV (m.end_ (Cs.idxOf j))):=by
     rw[yaj]
     unfold yh3
     rw[yal,yad (by rw[wf.ends];exact f1)]
     rfl
    exact⟨_,rfl,_,rfl,e,_,_,_,rfl,rfl,Sq.of (s12.trans s3 _ _ he),zm hend,q3 _ H3 rfl (Same.refl H3)⟩
   ·have ea3:=zak p3
    rw[hN]at ea3
    have s13:=s12.trans s3
    refine⟨_,rfl,D,rfl,⟨_,SqL.of (s3 _ _ e2)⟩,fun D2 hD2=>?_⟩
    refine zca (K:=K) (a:=D) (idx:=5) (fun j y H'=>∃ r,y=V.ref r/\RowAt H' r ((m.next.getD (Cs.idxOf j) []).map fun s=>Cs.getD s 0)) (fun _ _ _ _ k ⟨r,e,h⟩=>⟨r,e,k _ _ h⟩) hD2 (SqL.of (s3 _ _ e2)) (by rw[hN];omega) (fun _=>rfl) (fun i x H4 Q4 hx s4 q4=>?_) fun H4 acc4 s4 e4 p4=>?_
    ·obtain⟨j,hj,rfl⟩:=zcx hx
     have hlt:j<MM.gr 0 Cs:=yau.mp (yat hj)
     have ei:j=i:=by
      obtain⟨a1,a2⟩:=yag.mp hj
      simp at a2
      exact a2.symm
     subst ei
     obtain⟨f1,f2⟩:=nb.fst hlt
     obtain⟨r,hr',hrow⟩:∃ r,rs[Cs.idxOf j]?=some r/\RowAt H r (m.next.getD (Cs.idxOf j) []):=by
      have hi':Cs.idxOf j<rs.length:=by omega
      obtain⟨row,h1,h2⟩:=za2 hrs (yad hi')
      exact⟨_,yad hi',by rw[MM.zw h1];exact h2⟩
     have s14:=s13.trans s4
     refine⟨_,rfl,_,rfl,_,rfl,l,_,_,_,rfl,rfl,Sq.of (s14 _ _ hl),zm (show(rs.map V.ref)[Cs.idxOf j]?=some (V.ref r) by rw[yaj,hr'];rfl),?_⟩
     have hmem:m.next.getD (Cs.idxOf j) []∈m.next:=MM.zcc f1
     exact⟨q,r,Cs,m.next.getD (Cs.idxOf j) [],rfl,(s2.trans (s3.trans s4)) _ _ hq,s14 _ _ hrow,fun x hx=>by rw[nb.len];exact wf.rg.lt hmem hx,by rw[wf.row f1];decide,fun H5 r' hr5 s5=>q4 _ H5 ⟨r',rfl,hr5⟩ s5⟩
    ·rw[hN]at p4
     obtain⟨rs4,rfl,hrs4⟩:=zyc p4
     intro x dx hx hdx hne
     have e3':=s4 _ _ e3
     have n1:∀ b o,H4 b=some o->b≠x:=fun b o eb=>zn eb hx
     have n2:∀ b o,H4 b=some o->b≠dx:=fun b o eb=>zn eb hdx
     have up:∀ b o,H4 b=some o->(upd (upd H4 dx (.own x)) x (.ins CM dx [])) b=some o:=fun b o eb=>by rw[zh (n1 b o eb),zh (n2 b o eb)];exact eb
     refine⟨x,dx,D1,D2,m.least,rs4,rfl,zd,.inl (up _ _ ?_),.inl (up _ _ e4),?_,fun H5 M5 k5=>⟨rfl,?_⟩⟩
     ·rw[MM.ze1 wf KC]
      show H4 D1=some (.lst (((yae (MM.gr 0 Cs)).map fun v=>m.end_ (Cs.idxOf v)).map bV))
      rw[yb7]
      rw[ea3]at e3'
      exact e3'
     ·rw[MM.ze1 wf KC]
      exact hrs4.keep fun b xs eb=>up b _ eb
     ·refine hQ H5 x M5 (by rw[MM.zlz wf KC];exact h24) fun b o eb=>?_
      have e4':=(s13.trans s4) _ _ eb
      exact k5 b o (up b o e4') (fun z=>n1 b o e4' (by simpa using z))
end
end My
end
section
namespace My
open PySem PySem.Spec PyProof.Rows L2
open Rows (Told LETTERS)
section
variable {step:Told->Nat->Told}{S:List Told}{most:Nat}{t0:Told}
theorem zpp(t:Told)(met:List Told)(c:Nat):MM.zav step t met c=push met (step t c):=by
 by_cases h:step t c∈met
 ·rw[MM.zdf h,zf2 h]
 ·rw[MM.zdg h,ze5 h]
theorem zfv(t:Told):∀(cs:List Nat) (met:List Told),MM.zaw step t cs met=zae met (cs.map (step t))
 | [],_=>rfl
 | c::cs,met=>by
  show MM.zaw step t cs (MM.zav step t met c)=zae (push met (step t c)) (cs.map (step t))
  rw[zpp]
  exact zfv t cs _
def ts16(step:Told->Nat->Told)(t:Told):List Told:=(yae LETTERS).map (step t)
structure PW(step:Told->Nat->Told)(S:List Told)(most:Nat)(t0:Told)(met:List Told)(leads:List (List Nat)):Prop where
 w:MM.WalkAt step S leads.length met
 f:yfa step most 0 [t0]=yfa step (most - leads.length) leads.length met
 r:leads=(met.take leads.length).map (MM.rowOf step met)
theorem PW.start(h:t0∈S):PW step S most t0 [t0] []:=⟨MM.WalkAt.start h,rfl,rfl⟩
theorem PW.next{met:List Told}{leads:List (List Nat)}{t:Told}(p:PW step S most t0 met leads)(hS:∀ x∈S,∀ c,c<LETTERS->step x c∈S)(hl:S.length<=most)(ht:met[leads.length]?=some t) :
  PW step S most t0 (zae met (ts16 step t)) (leads++[nums met (ts16 step t)]):=by
 have hlen:(leads++[nums met (ts16 step t)]).length=leads.length+1:=by simp
 have ea:zae met (ts16 step t)=MM.zaw step t (yae LETTERS) met:=(zfv t _ met).symm
 have hk:leads.length<met.length:=(yag.mp ht).1
 have hm:=p.w.len
 obtain⟨e,he⟩:=zev (ts16 step t) met
 refine⟨?_,?_,?_⟩
 ·rw[hlen,ea]
  exact p.w.next hS ht
 ·rw[p.f,hlen,show most - leads.length=(most - (leads.length+1))+1 by omega,MM.zdh ht,<- ea]
 ·rw[hlen,ydu]
  have hget:(zae met (ts16 step t))[leads.length]?=some t:=by rw[he];exact MM.zg4 ht
  rw[hget,ya9]
  have h1:leads=((zae met (ts16 step t)).take leads.length).map (MM.rowOf step (zae met (ts16 step t))):=by
   have htk:(zae met (ts16 step t)).take leads.length=met.take leads.length:=by
    rw[he,ygx (by omega)]
   rw[htk]
   refine p.r.trans (ybw fun x hx=>?_)
   obtain⟨i,hi⟩:=ydo hx
   have hil:i<leads.length:=by
    have:=(yag.mp hi).1
    rw[yd0]at this
    omega
   rw[yey hil]at hi
   refine ybw fun c hc=>?_
   have hin:=p.w.cl i x hil hi c (yau.mp hc)
   show met.idxOf (step x c)=(zae met (ts16 step t)).idxOf (step x c)
   rw[he,MM.zdw hin]
  have h2:nums met (ts16 step t)=MM.rowOf step (zae met (ts16 step t)) t:=by
   unfold nums MM.rowOf
   generalize zae met (ts16 step t)=L
   unfold ts16
   rw[yb7]
   rfl
  rw[<- h1,h2]
  rfl
theorem PW.fin{met:List Told}{leads:List (List Nat)}(p:PW step S most t0 met leads)(h:met.length<=leads.length):yfa step most 0 [t0]=met/\leads.length=met.length/\∀ okf,yb0 most step okf t0=⟨leads,met.map okf⟩:=by
 have h2:=p.w.le
 have e:leads.length=met.length:=by omega
 have hf:yfa step most 0 [t0]=met:=by
  rw[p.f]
  exact MM.zd3 (ybz.mpr h) _
 refine⟨hf,e,fun okf=>?_⟩
 unfold yb0
 simp only[hf]
 congr 1
 have hr:=p.r
 rw[e,ydq]at hr
 exact hr.symm
theorem zde(hS:∀ x∈S,∀ c,c<LETTERS->step x c∈S)(ht:t0∈S)(hl:S.length<=most)(okf:Told->Bool):MM.Wf (yb0 most step okf t0):=by
 have rg:=MM.zu2 hS ht hl
 refine⟨rg,?_⟩
 show((yfa step most 0 [t0]).map okf).length=((yfa step most 0 [t0]).map _).length
 rw[yab,yab]
end
section
variable {P:yav}{w:World}{C:Addr}{step:Told->Nat->Told}{S:List Told}{most:Nat}{t0:Told}{d:DK}{a m n l:Addr}{gT:TT}{tb:TS}{D:Ends}{σ:L2.St}{H0 H:Hp}
theorem zew(Sg:L2.St->Prop)(hσ:Sg σ)(hW:WkAt P w C H d a m n l [t0] [])(hs:Same H0 H)(ht0:t0∈S)(hS:∀ x∈S,∀ c,c<LETTERS->step x c∈S)(hl:S.length<=most)(test:∀ σ H' met leads (Q:Bool->Hp->Prop),Sg σ->WkAt P w C H' d a m n l met leads->Q (decide (leads.length<met.length)) H'->gT σ H' Q)(turn:∀ σ H' met leads t (N:L2.St->Hp->Prop),Sg σ->Same H0 H'->WkAt P w C H' d a m n l met leads->t∈S->met[leads.length]?=some t->met.length<=S.length->leads.length<S.length ->
   (∀ σ' H'',Sg σ'->Same H0 H''->WkAt P w C H'' d a m n l (zae met (ts16 step t)) (leads++[nums met (ts16 step t)])->N σ' H'')->tb { D with nx:=N,ct:=N,bk:=D.nx } σ H')(fin:∀ σ H' met leads,Sg σ->Same H0 H'->WkAt P w C H' d a m n l met leads->met.length<=S.length->leads.length=met.length->(∀ t∈met,t∈S)->(∀ okf,yb0 most step okf t0=⟨leads,met.map okf⟩)->D.nx σ H'):zsf gT tb D σ H:=by
 refine⟨fun mm σ' H'=>∃ met leads,Sg σ'/\Same H0 H'/\WkAt P w C H' d a m n l met leads/\PW step S most t0 met leads/\mm=S.length+1 - leads.length,⟨_,[t0],[],hσ,hs,hW,PW.start ht0,rfl⟩,?_⟩
 rintro mm σ' H' ⟨met,leads,hg,s',W',p,rfl⟩
 refine test σ' H' met leads _ hg W' ?_
 have hm:=p.w.len
 by_cases hlt:leads.length<met.length
 ·refine ifT (decide_eq_true hlt) ?_
  obtain⟨t,ht⟩:∃ t,met[leads.length]?=some t:=⟨_,yad hlt⟩
  refine⟨fun σ2 H2=>∃ m',m'<S.length+1 - leads.length/\∃ met leads,Sg σ2/\Same H0 H2/\WkAt P w C H2 d a m n l met leads/\PW step S most t0 met leads/\m'=S.length+1 - leads.length,fun _ _ h=>h,?_⟩
  refine turn σ' H' met leads t _ hg s' W' (p.w.sub t (yat ht)) ht hm (by omega) fun σ2 H2 hg2 s2 W2=>?_
  refine⟨S.length+1 - (leads++[nums met (ts16 step t)]).length,?_,_,_,hg2,s2,W2,p.next hS hl ht,rfl⟩
  simp only[ya7,yep]
  omega
 ·refine ifF (decide_eq_false hlt) ?_
  obtain⟨_,e,h⟩:=p.fin (by omega)
  exact fin σ' H' met leads hg s' W' hm e p.w.sub h
end
end My
end
section
namespace My
open PySem PySem.Spec PyProof.Rows L2
open Rows (Told LETTERS)
structure MkW(K:yac)(mg:Str->Option Value)(C fI fG fC fL fN:Addr)(dI dG dC dL dN:ya2):Prop where
 T:TW K mg C
 mg:mg "Walk" = some (.ref C)
 M:Mk K C fI
 FI:Fun K "__init__" "Walk.__init__" zec fI dI
 bI:Binds K dI ["self","start"] []
 FG:Fun K "goes_on" "Walk.goes_on" zc8 fG dG
 bG:Binds K dG ["self"] []
 mG:Meth K C "goes_on" fG
 FC:Fun K "current" "Walk.current" zc9 fC dC
 bC:Binds K dC ["self"] []
 mC:Meth K C "current" fC
 FL:Fun K "lead_on" "Walk.lead_on" zb7 fL dL
 bL:Binds K dL ["self","states"] []
 mL:Meth K C "lead_on" fL
 FN:Fun K "number_of" "Walk.number_of" zbs fN dN
 bN:Binds K dN ["self","state"] []
 mN:Meth K C "number_of" fN
theorem zen(m d l:V):(fWalk m d l).lookup ("goes_on" : Str)=none:=rfl
theorem zdz(m d l:V):(fWalk m d l).lookup ("current" : Str)=none:=rfl
theorem zeo(m d l:V):(fWalk m d l).lookup ("lead_on" : Str)=none:=rfl
structure TN(mg:Str->Option Value):Prop where
 vars:∃ t,mg "VARIABLES" = some (.int 4 t)
 lets:∃ t,mg "LETTERS" = some (.int 16 t)
 states:∃ t,mg "MOST_STATES" = some (.int 24 t)
 sets:∃ t,mg "MOST_SETS" = some (.int 200 t)
section
variable {P:yav}{w:World}{K:yac}{mg:Str->Option Value}{base:Heap}
theorem zv6(n v:Nat):(ycr ((n:Int) / 2 ^ v) 1 != 0)=n.testBit v:=by
 have e0:(n:Int) / 2 ^ v=((n / 2 ^ v:Nat):Int):=by
  rw[yiu,yf6]
  rfl
 have e1:ycr ((n:Int) / 2 ^ v) 1=((n / 2 ^ v % 2:Nat):Int):=by
  rw[e0]
  have:=Bits.zjj (x:=((n / 2 ^ v:Nat):Int)) 1 (yca _)
  rw[show((2:Int) ^ 1 - 1)=1 by decide,show((2:Int) ^ 1)=2 by decide]at this
  rw[this]
  omega
 rw[e1,yf9]
 have h2:=ymx (n / 2 ^ v) (show 2 > 0 by decide)
 rcases Nat.lt_or_ge (n / 2 ^ v % 2) 1 with h | h
 ·have:n / 2 ^ v % 2=0:=by omega
  rw[this];rfl
 ·have:n / 2 ^ v % 2=1:=by omega
  rw[this];rfl
def zef(a:List Int)(c i:Nat):List Int:=((yae i).filter fun v=>c.testBit v).map fun v=>a.getD v 0
theorem zjr(a:List Int)(c i:Nat):zef a c (i+1)=if c.testBit i=true then zef a c i++[a.getD i 0] else zef a c i:=by
 unfold zef
 rw[yc0,yhm]
 by_cases h:c.testBit i=true
 ·rw[if_pos h,yd2,if_pos h,ya9];rfl
 ·rw[if_neg h,yd2,if_neg h];simp
theorem zqn:∀(l:List Int) (z:Int),(l++[z]).sum=l.sum+z
 | [],z=>by simp
 | a::l,z=>by
  show(a::(l++[z])).sum=(a::l).sum+z
  rw[yg3,yg3,zqn l z]
  omega
theorem zoz(a:List Int)(c:Nat):(zef a c 4).sum=ycd a c:=by
 have h:∀ i,(zef a c (i+1)).sum=(zef a c i).sum+a.getD i 0*yjq c i:=fun i=>by
  rw[zjr]
  unfold yjq
  by_cases h:c.testBit i=true
  ·rw[if_pos h,if_pos h,zqn,yl4]
  ·rw[if_neg h,if_neg h,ylr,Int.add_zero]
 have h0:(zef a c 0).sum=0:=rfl
 rw[h,h,h,h,h0]
 unfold ycd Rows.VARS
 simp only[yc0,ymd,yjd,ya9,yb8,ygr,yla,yme,ymr]
 omega
def tBit(K:yac)(i j:Nat):TT:=fun σ H Q=>tOp (rI0 fun i j=>.int (ycr i j)) (tOp (rI (fun _ j=>0<=j) fun i j=>.int (i / 2 ^ j.toNat)) (tVar i) (tVar j)) (tC (.int 1)) σ H fun x H'=>∃ k,TruV K x H' k/\Q k H'
def zo0:Sp:=fun vs H Q _=>∃(p:Addr) (a:List Int) (c:Nat),vs=[.ref p,nV c]/\H p=some (.lst (a.map V.int))/\a.length=4/\∀ H',Same H H'->Q (.int (ycd a c)) H'
theorem sc_lsum:FnScope ["factors","letter","v"] ["factors","letter"] (ze zdb):=⟨rfl,rfl,rfl,by decide +kernel,rfl,by decide +kernel,by decide +kernel⟩
theorem yl3:yd5 "sum" = some (.builtin "sum"):=by decide +kernel
theorem zyf{f:Addr}{fd:ya2}(F:Fun K "letter_sum" "letter_sum" zdb f fd)(B:TB mg)(N:TN mg):FnOk P w K mg base CX0 1 f fd ["factors","letter"] zo0:=by
 obtain⟨tk,hv⟩:=N.vars
 refine F.ok sc_lsum (fun vs H Q E h=>?_) (fun cdv A outer s H vs Q E hr h=>?_)
 ·obtain⟨p,a,c,rfl,_⟩:=h
  rfl
 ·obtain⟨p,a,c,rfl,hp,hl,k⟩:=h
  refine⟨_,zf (zk (zaf (zkh rfl) (by rfl) B.sum yl3 (za (zaq (te:=tOp (rIxL K) (tVar 0) (tVar 2))
   (tt:=tBit K 1 2) (own:=[("v",2)]) rfl sc_lsum.nd
   (zau rfl B.range (za (zx (v:=.int 4) rfl hv ⟨tk,rfl⟩) zb)) (show BlkOk ["factors","letter","v"] (ze zdb) _ _ from zu (by decide +kernel)) (fun _ _ _ _ _=>zt (i:=2) sc_lsum.nd rfl (ybk rfl))
   (fun _ _ _ _ _=>zpx (zus (zaa zg1 (zaa zf7 (pv 1) (pv 2)) zg) (fun _=>rfl))) (fun _ _ _ _ _=>zp ix_list (pv 0) (pv 2) (fun _ _=>rfl))) zb))),?_⟩
  refine⟨_,rfl,by decide,by decide,fun D hD=>?_⟩
  refine zey (lo:=0) (n:=4) (g:=gName 2) (tt:=tBit K 1 2) (te:=tOp (rIxL K) (tVar 0) (tVar 2)) (vs:=[2]) (fun i H'=>Same H H'/\H' D=some (.lst ((zef a c i).map V.int))) ⟨Same.new hD,zd⟩ (fun i H2 hi ⟨s2,e2⟩=>?_) fun H2 ⟨s2,e2⟩=>?_
  ·refine⟨rfl,?_⟩
   have ei:(0:Int)+(i:Int)=(i:Int):=by omega
   refine⟨_,rfl,_,rfl,_,_,rfl,rfl,(by show(0:Int)<=0+(i:Int);omega),_,_,rfl,rfl,_,rfl,?_⟩
   have eb:(ycr ((c:Int) / 2 ^ ((0:Int)+(i:Int)).toNat) 1 != 0)=c.testBit i:=by
    rw[ei,yan]
    exact zv6 c i
   rw[eb,zjr]
   by_cases hb:c.testBit i=true
   ·rw[if_pos hb]
    refine ifT hb ?_
    have hai:(a.map V.int)[i]?=some (V.int (a.getD i 0)):=by
     rw[yaj,yal,yad (show i<a.length by omega)];rfl
    refine⟨_,rfl,_,rfl,p,_,_,_,rfl,rfl,SqL.of (s2 _ _ hp),zki ei hai,_,e2,za3 ?_,?_⟩
    ·rw[yab]
     unfold zef
     rw[yab]
     have:=yfn (fun v=>c.testBit v) (yae i)
     rw[ya5]at this
     omega
    ·refine⟨fun b o eo=>by rw[zh (zn eo hD)];exact s2 _ _ eo,?_⟩
     rw[zd,ya9]
     rfl
   ·rw[if_neg hb]
    refine ifF (by simpa using hb) ?_
    exact⟨s2,e2⟩
  ·refine⟨D,_,rfl,SqL.of e2,?_⟩
   rw[zoz]
   exact k H2 s2
def zjf:Sp:=fun vs H Q _=>∃(p:Addr) (a:List Int),vs=[.ref p]/\H p=some (.lst (a.map V.int))/\a.length=4/\∀ H' q,H' q=some (.lst ((yae LETTERS).map fun c=>V.int (ycd a c)))->Same H H'->Q (.ref q) H'
theorem sc_lsums:FnScope ["factors","letter"] ["factors"] (ze zbr):=⟨rfl,rfl,rfl,by decide +kernel,rfl,by decide +kernel,by decide +kernel⟩
theorem zv7{f fS:Addr}{fd fdS:ya2}(F:Fun K "letter_sums" "letter_sums" zbr f fd)(B:TB mg)(N:TN mg)(GS:Gf K mg "letter_sum" zdb ["factors","letter"] fS fdS):FnOk P w K mg base CX0 2 f fd ["factors"] zjf:=by
 have NS:FnOk P w K mg base CX0 1 fS fdS ["factors","letter"] zo0:=zyf GS.F B N
 obtain⟨tk,hv⟩:=N.lets
 refine F.ok sc_lsums (fun vs H Q E h=>?_) (fun cdv A outer s H vs Q E hr h=>?_)
 ·obtain⟨p,a,rfl,_⟩:=h
  rfl
 ·obtain⟨p,a,rfl,hp,hl,k⟩:=h
  refine⟨_,zf (zk (zaq (te:=tCall zo0 [] E0 (tCons (tVar 0) (tCons (tVar 1) tNil))) (own:=[("letter",1)]) rfl sc_lsums.nd
   (zau rfl B.range (za (zx (v:=.int 16) rfl hv ⟨tk,rfl⟩) zb)) (show BlkOk ["factors","letter"] (ze zbr) _ _ from zu (by decide +kernel)) (fun _ _ _ _ _=>zt (i:=1) sc_lsums.nd rfl (ybk rfl))
   (fun _ _ _ _ _=>zac) (fun _ _ _ _ _=>zi NS hr rfl GS.m GS.F.kp GS.b .nil pass0 (za (pv 0) (za (pv 1) zb))))),?_⟩
  refine⟨_,rfl,by decide,by decide,fun D hD=>?_⟩
  refine zc2 (n:=16) (idx:=1) (fun j y _=>y=V.int (ycd a j)) (fun _ _ _ _ _ h=>h) hD (by decide) (fun _=>rfl) (fun i H2 Q2 hi s2 q2=>?_) fun H2 acc s2 e2 p2=>?_
  ·refine⟨_,rfl,_,rfl,p,a,i,?_,s2 _ _ hp,hl,fun H3 s3=>q2 _ H3 rfl s3⟩
   show [V.ref p,V.int (0+(i:Int))]=[V.ref p,V.int (i:Int)]
   rw[ygs]
  ·have ea:=zak p2
   subst ea
   exact k H2 D e2 s2
def dueA:Option Int->Int->Option Int
 | none,_=>none
 | some b,x=>if (b - x) % 2=1 then none else some ((b - x) / 2)
def spDue:Sp:=fun vs H Q _=>∃(o:Option Int) (x:Int),vs=[oV o,.int x]/\Q (oV (dueA o x)) H
theorem zz6:FnScope ["due","part"] ["due","part"] (ze zed):=⟨rfl,rfl,rfl,by decide +kernel,rfl,by decide +kernel,by decide +kernel⟩
theorem zz7{f:Addr}{fd:ya2}(F:Fun K "due_after" "due_after" zed f fd):FnOk P w K mg base CX0 1 f fd ["due","part"] spDue:=by
 refine F.ok zz6 (fun vs H Q E h=>?_) (fun cdv A outer s H vs Q E hr h=>?_)
 ·obtain⟨o,x,rfl,_⟩:=h
  rfl
 ·obtain⟨o,x,rfl,k⟩:=h
  refine⟨_,zc (zbk (zwo (zh2 (zno (pv 0))) (zse (zah zco (zaa zg0 (zaa zea (pv 0) (pv 1)) zg) zg (zaj _)))).pt (zf (zk zsd)) zap) (zf (zk (zaa zpu (zaa zea (pv 0) (pv 1)) zg))),?_⟩
  cases o with
  | none=>exact⟨_,rfl,_,rfl,iteT (iteT k)⟩
  | some b =>
   refine⟨_,rfl,_,rfl,iteF ?_⟩
   refine⟨_,rfl,_,rfl,_,_,rfl,rfl,_,_,rfl,rfl,(by show(0:Int)<2;decide),rfl,_,rfl,?_⟩
   have k:Q (oV (if (b - x) % 2=1 then none else some ((b - x) / 2))) H:=k
   by_cases hb:(b - x) % 2=1
   ·rw[if_pos hb]at k
    exact ifT (decide_eq_true (by show V.int ((b - x) % 2)=V.int 1;rw[hb])) k
   ·rw[if_neg hb]at k
    refine ifF (decide_eq_false (fun z=>hb (by injection z))) ?_
    exact⟨_,rfl,_,rfl,_,_,rfl,rfl,_,_,rfl,rfl,⟨by decide,by decide⟩,k⟩
end
end My
end
section
namespace My
open PySem PySem.Spec PyProof.Rows L2
open Rows (Told LETTERS)
def Small(a:List Int):Prop:=a.length=4/\∀ x∈a,-4<=x/\x<=4
theorem zv8{a:List Int}(h:Small a)(v:Nat):-4<=a.getD v 0/\a.getD v 0<=4:=by
 by_cases hv:v<a.length
 ·exact h.2 _ (MM.zcc hv)
 ·rw[yal,ybd (by omega)]
  exact⟨by decide,by decide⟩
theorem zjs{a:List Int}(h:Small a)(c:Nat):-16<=ycd a c/\ycd a c<=16:=by
 have hb:∀ v,-4<=a.getD v 0*yjq c v/\a.getD v 0*yjq c v<=4:=fun v=>by
  have:=zv8 h v
  unfold yjq
  split
  ·rw[yl4];exact this
  ·rw[ylr];exact⟨by decide,by decide⟩
 have h0:=hb 0
 have h1:=hb 1
 have h2:=hb 2
 have h3:=hb 3
 unfold ycd Rows.VARS
 simp only[yc0,ymd,yjd,ya9,yb8,ygr,yla,yme,ymr]
 omega
def S1:List Told:=(yae 201).map fun (i:Nat)=>[(i:Int) - 100]
theorem zfm{z:Int}(h:-100<=z/\z<=100):([z]:Told)∈S1:=ya6.mpr ⟨(z+100).toNat,yau.mpr (by omega),by
 have e:(((z+100).toNat:Nat):Int) - 100=z:=by omega
 rw[e]⟩
theorem znh{t:Told}(h:t∈S1):∃ z:Int,t=[z]/\-100<=z/\z<=100:=by
 obtain⟨i,hi,rfl⟩:=ya6.mp h
 have:=yau.mp hi
 exact⟨_,rfl,by omega,by omega⟩
theorem zts{H:Hp}{f:Nat->Told}{d:DK}{n:Nat}{acc:List V}(p:Paired (fun j y=>StAt H d (f j) y) (yae n) acc):Paired (StAt H d) ((yae n).map f) acc:=by
 have gen:∀{l:List Nat} {acc:List V},Paired (fun j y=>StAt H d (f j) y) l acc->Paired (StAt H d) (l.map f) acc:=by
  intro l acc p
  induction p with
  | nil=>exact .nil
  | cons h t ih=>exact .cons h ih
 exact gen p
structure NewW(H0:Hp)(a m n l:Addr):Prop where
 ha:H0 a=none
 hm:H0 m=none
 hn:H0 n=none
 hl:H0 l=none
 ml:m≠l
theorem NewW.all{H0:Hp}{a m n l:Addr}(h:NewW H0 a m n l):∀ p∈[m,n,l],H0 p=none:=by
 intro p hp
 simp only[yap,yda,or_false]at hp
 rcases hp with rfl | rfl | rfl
 ·exact h.hm
 ·exact h.hn
 ·exact h.hl
section
variable {P:yav}{w:World}{K:yac}{mg:Str->Option Value}{base:Heap}
theorem zep{C a dx:Addr}{H H':Hp}{m n l:Addr}(ha:H a=none)(hdx:H dx=none)(hne:dx≠a)(hm:(upd (upd H dx (.own a)) a (.ins C dx [])) m=none)(hn:(upd (upd H dx (.own a)) a (.ins C dx [])) n=none)(hl:(upd (upd H dx (.own a)) a (.ins C dx [])) l=none)(hml:m≠l)(k:Keep [a] (upd (upd H dx (.own a)) a (.ins C dx [])) H'):Same H H'/\NewW H a m n l:=by
 have up:∀ b o,H b=some o->(upd (upd H dx (.own a)) a (.ins C dx [])) b=some o:=fun b o e=>by
  rw[zh (zn e ha),zh (zn e hdx)]
  exact e
 have fr:∀ q,(upd (upd H dx (.own a)) a (.ins C dx [])) q=none->H q=none:=fun q hq=>by
  cases e:H q with
  | none=>rfl
  | some o=>rw[up q o e]at hq;cases hq
 exact⟨fun b o e=>k b o (up b o e) (by have:=zn e ha;simpa using this),⟨ha,fr m hm,fr n hn,fr l hl,hml⟩⟩
theorem zeq{C a m n l D:Addr}{d:DK}{step:Told->Nat->Told}{t:Told}{met:List Told}{leads:List (List Nat)}{acc:List V}{H0 H1 H2:Hp}{Q:VK}{E:XK}{S:Nat}(nw:NewW H0 a m n l)(s1:Same H0 H1)(W:WkAt P w C H1 d a m n l met leads)(hD:H1 D=none)(s2:Same H1 H2)(e2:H2 D=some (.lst acc))(p:Paired (fun j y=>StAt H2 d (step t j) y) (yae LETTERS) acc)(hS:S<=50000)(hmet:met.length<=S)(hleads:leads.length<S)(k:∀ H3,Same H0 H3->WkAt P w C H3 d a m n l (zae met (ts16 step t)) (leads++[nums met (ts16 step t)])->Q .non H3):zcw P w K C [.ref a,.ref D] H2 Q E:=by
 have W2:=W.same s2
 have nm:∀ b o,H1 b=some o->D≠b:=fun b o e z=>by rw[z,e]at hD;cases hD
 obtain⟨vs,e3,_⟩:=W.mt
 obtain⟨rs,e4,_⟩:=W.lds
 refine⟨d,a,m,n,l,met,leads,D,ts16 step t,acc,rfl,W2,nw.ml,e2,zts p,nm m _ e3,nm l _ e4,?_,by omega,fun H3 W3 k3=>k H3 (k3.same (s1.trans s2) nw.all) W3⟩
 unfold ts16
 rw[yab,ya5]
 show met.length+16<100000
 omega
theorem zyg(a:List Int)(c:Nat){t:Told}(h:t.length<=1):(yet a t c).head?=dueA t.head? (ycd a c)/\(yet a t c).length<=1:=by
 match t,h with
 | [],_=>exact⟨rfl,ybj _⟩
 | [b],_ =>
  show(if (b - ycd a c) % 2=0 then [(b - ycd a c) / 2] else([]:Told)).head?=(if (b - ycd a c) % 2=1 then none else some ((b - ycd a c) / 2))/\(if (b - ycd a c) % 2=0 then [(b - ycd a c) / 2] else([]:Told)).length<=1
  by_cases e:(b - ycd a c) % 2=0
  ·rw[if_pos e,if_neg (by omega)]
   exact⟨rfl,yao _⟩
  ·rw[if_neg e,if_pos (by omega)]
   exact⟨rfl,ybj _⟩
 | _::_::_,h=>simp at h
def SE:List Told:=[]::S1
theorem ziq{a:List Int}(h:Small a):∀ x∈SE,∀ c,c<LETTERS->yet a x c∈SE:=by
 intro x hx c _
 rcases yap.mp hx with rfl | hx
 ·exact yaq
 ·obtain⟨z,rfl,h1,h2⟩:=znh hx
  have hw:=zjs h c
  show(if (z - ycd a c) % 2=0 then [(z - ycd a c) / 2] else([]:Told))∈SE
  by_cases e:(z - ycd a c) % 2=0
  ·rw[if_pos e]
   exact yam _ (zfm (by omega))
  ·rw[if_neg e]
   exact yaq
def Gives(CM CS:Addr)(H:Hp)(m:yaf)(Q:VK)(E:XK):Prop :=
 (∀ H' a,MachAt CM H' a m->m.next.length<=24->Same H H'->Q (.ref a) H')/\(∀ H',24<m.next.length->Same H H'->E (.ref CS) none H')
def spEq(CM CS:Addr):Sp:=fun vs H Q E=>∃(b:Int) (p:Addr) (a:List Int),vs=[.int b,.ref p]/\H p=some (.lst (a.map V.int))/\Small a/\-100<=b/\b<=100/\Gives CM CS H (yj9 a b) Q E
theorem sc_eq:FnScope ["b","factors","sums","walk","due","part"] ["b","factors"] (ze zb1):=⟨rfl,rfl,rfl,by decide +kernel,rfl,by decide +kernel,by decide +kernel⟩
abbrev zws(own:List (Str × Nat))(scope:Scope):Prop:=BlkOk ["b","factors","sums","walk","due","part"] (ze zb1) scope own
theorem z00{f fS fM fD CS CM CW fI fG fC fL fN:Addr}{fd fdS fdM fdD dI dG dC dL dN:ya2}(F:Fun K "equal_machine" "equal_machine" zb1 f fd)(B:TB mg)(GS:Gf K mg "letter_sums" zbr ["factors"] fS fdS)(GD:Gf K mg "due_after" zed ["due","part"] fD fdD)(GM:Gf K mg "least_machine" zam ["ends","leads"] fM fdM)(NS:FnOk P w K mg base CX0 2 fS fdS ["factors"] zjf)(NM:FnOk P w K mg base (CXE P w) 3 fM fdM ["ends","leads"] (zcm CM CS))(W:MkW K mg CW fI fG fC fL fN dI dG dC dL dN) :
  FnOk P w K mg base (CXE P w) 4 f fd ["b","factors"] (spEq CM CS):=by
 have NS':=NS.mono (k:=3) (by decide)
 have ND:FnOk P w K mg base CX0 3 fD fdD ["due","part"] spDue:=(zz7 GD.F).mono (by decide)
 have NI:FnOk P w K mg base CX0 2 fI dI ["self","start"] (ze6 P w CW):=(ze7 W.FI W.T).mono (by decide)
 have NG:FnOk P w K mg base CX0 3 fG dG ["self"] (zgb P w CW):=(zf1 W.FG W.T B).mono (by decide)
 have NC:FnOk P w K mg base CX0 3 fC dC ["self"] (spCur P w CW):=(zha W.FC W.T B).mono (by decide)
 have NL:FnOk P w K mg base CX0 3 fL dL ["self","states"] (zcw P w K CW):=(zf3 W.FL W.T B W.FN W.bN W.mN).mono (by decide)
 refine F.okE sc_eq (fun vs H Q E h=>?_) (fun cdv A outer s H vs Q E hr h=>?_)
 ·obtain⟨b,p,a,rfl,_⟩:=h
  rfl
 ·obtain⟨b,p,a,rfl,hp,ha,hb1,hb2,hQ,hE⟩:=h
  refine⟨_,zc (zz (i:=2) sc_eq.nd rfl (ybk rfl) (zi NS' hr rfl GS.m GS.F.kp GS.b .nil pass0 (za (pv 1) zb)))
   (zc (zz (i:=3) sc_eq.nd rfl (ybk rfl) (zc5 W.M NI hr rfl W.mg W.bI .nil pass0 (za (pv 0) zb)))
   (zc (zcz ydg (zfe (za6 (pv 3) W.T.cl W.mG NG hr W.bG .nil pass0))
    (zc (zz (i:=4) sc_eq.nd rfl (yc5 rfl) (za6 (pv 3) W.T.cl W.mC NC hr W.bC .nil pass0))
    (zf (zad (zai (pv 3) W.T.cl W.mL NL hr W.bL .nil pass0 (za (zaq (te:=tCall spDue [] E0 (tCons (tVar 4) (tCons (tVar 5) tNil))) (own:=[("part",5)]) rfl sc_eq.nd (zba (pv 2)) (show zws _ _ from zu (by decide +kernel))
     (fun _ _ _ _ _=>zt (i:=5) sc_eq.nd rfl (ybk rfl)) (fun _ _ _ _ _=>zac) (fun _ _ _ _ _=>zi ND hr rfl GD.m GD.F.kp GD.b .nil pass0 (za (pv 4) (za (pv 5) zb)))) zb))))))
   (zf (zk (zi NM hr rfl GM.m GM.F.kp GM.b .nil zv (za (zaq (te:=tIf (tTest (tOp rEq (tVar 4) (tC (.int 0)))) (tC (.int 1)) (tC (.int 0))) (own:=[("due",4)]) rfl sc_eq.nd (zba (zq (pv 3) rfl)) (show zws _ _ from zu (by decide +kernel))
     (fun _ _ _ _ _=>zt (i:=4) sc_eq.nd rfl (ybk rfl)) (fun _ _ _ _ _=>zac) (fun _ _ _ _ _=>zhk (zah zco (pv 4) zg (zaj _)) zg zg)) (za (zq (pv 3) rfl) zb))))))),?_⟩
  refine⟨_,rfl,p,a,rfl,hp,ha.1,fun H1 q hq s1=>?_⟩
  refine⟨_,rfl,fun x dx hx hdx hne=>?_⟩
  refine⟨.o,x,dx,[b],.int b,rfl,zd,⟨by show 1<=1;decide,rfl⟩,fun H2 m n l W2 hml hm hn hl k2=>⟨rfl,?_⟩⟩
  obtain⟨s2,nw⟩:=zep hx hdx hne hm hn hl hml k2
  refine zew (P:=P) (w:=w) (C:=CW) (step:=yet a) (S:=SE) (most:=yh4) (t0:=[b]) (d:=.o) (a:=x) (m:=m) (n:=n) (l:=l) (H0:=H1) (fun σ=>∃ v:Option V,σ=[some (.int b),some (.ref p),some (.ref q),some (.ref x),v,none]) ⟨none,rfl⟩ W2 s2
   (yam _ (zfm ⟨hb1,hb2⟩)) (ziq ha) (by show SE.length<=400;decide) ?_ ?_ ?_
  ·rintro σ H3 met leads Q3 ⟨v,rfl⟩ W3 h3
   obtain⟨dx3,o3⟩:=W3.obj
   exact⟨_,rfl,x,dx3,_,rfl,o3,zen _ _ _,.o,x,m,n,l,met,leads,rfl,W3,_,rfl,h3⟩
  ·rintro σ H3 met leads t N3 ⟨v,rfl⟩ s3 W3 htS ht hml' hll hN
   obtain⟨dx3,o3⟩:=W3.obj
   refine⟨_,rfl,x,dx3,_,rfl,o3,zdz _ _ _,.o,x,m,n,l,met,leads,t,rfl,W3,ht,fun u hu=>?_⟩
   refine⟨_,rfl,x,dx3,_,rfl,o3,zeo _ _ _,_,rfl,q,rfl,⟨_,SqL.of (s3 _ _ hq)⟩,fun D hD=>?_⟩
   refine zca (K:=K) (a:=q) (idx:=5) (fun j y H'=>StAt H' .o (yet a t j) y) (fun _ _ _ _ k h=>h.keep k) hD (SqL.of (s3 _ _ hq)) (by rw[yab,ya5];decide) (fun _=>rfl) (fun i y H4 Q4 hy s4 q4=>?_) fun H4 acc s4 e4 p4=>?_
   ·obtain⟨j,hj,rfl⟩:=zcx hy
    have ei:j=i:=by
     obtain⟨a1,a2⟩:=yag.mp hj
     simp at a2
     exact a2.symm
    subst ei
    have hu2:u=oV t.head?:=hu.2
    obtain⟨e5,e6⟩:=zyg a j (show t.length<=1 from hu.1)
    refine⟨_,rfl,_,rfl,t.head?,_,by rw[hu2];rfl,q4 _ H4 ⟨e6,?_⟩ (Same.refl H4)⟩
    show oV _=oV _
    rw[e5]
   ·rw[yab,ya5]at p4
    have hSE:SE.length=202:=by decide
    show zcw P w K CW [.ref x,.ref D] H4 (fun _ H'=>N3 [some (.int b),some (.ref p),some (.ref q),some (.ref x),some u,none] H') E0
    refine zeq (K:=K) nw s3 W3 hD s4 e4 p4 (S:=202) (by decide) (by omega) (by omega) fun H5 s5 W5=>?_
    exact hN _ H5 ⟨some u,rfl⟩ s5 W5
  ·rintro σ H3 met leads ⟨v,rfl⟩ s3 W3 hml' hle _ hfin
   obtain⟨dx3,o3⟩:=W3.obj
   obtain⟨vs,e3,q3⟩:=W3.mt
   obtain⟨rs,e4,q4⟩:=W3.lds
   have hlen:met.length=vs.length:=ybh q3
   have hSE:SE.length=202:=by decide
   refine⟨_,rfl,x,CW,dx3,_,_,rfl,o3,W.T.cl,W.T.nM,zb0 _ _ _,m,rfl,⟨_,SqL.of e3⟩,fun D hD=>?_⟩
   refine zca (K:=K) (a:=m) (idx:=4) (fun j y _=>y=bV ((met.map fun t=>t == [0]).getD j false)) (fun _ _ _ _ _ h=>h) hD (SqL.of e3) (by omega) (fun _=>rfl) (fun i y H4 Q4 hy s4 q4'=>?_) fun H4 acc s4 e5 p5=>?_
   ·obtain⟨t,ht⟩:∃ t,met[i]?=some t:=⟨_,yad (by have:=(yag.mp hy).1;omega)⟩
    obtain⟨y',hy',sy⟩:=za2 q3 ht
    rw[hy]at hy'
    cases hy'
    have hy2:y=oV t.head?:=sy.2
    have hl1:t.length<=1:=sy.1
    have hv:(met.map fun t=>t == [0]).getD i false=(t == [0]):=MM.zw (by rw[yaj,ht];rfl)
    refine⟨_,rfl,?_,_,rfl,?_⟩
    ·rw[hy2]
     cases t.head?<;>rfl
    ·have hb:decide (y=V.int 0)=(t == [0]):=by
      rw[hy2]
      match t,hl1 with
      | [],_=>rfl
      | [z],_ =>
       show decide (V.int z=V.int 0)=([z] == [0])
       by_cases hz:z=0
       ·subst hz;rfl
       ·rw[decide_eq_false (fun e=>hz (by injection e))]
        exact(beq_eq_false_iff_ne.mpr (fun e=>hz (yig e).1)).symm
      | _::_::_,h=>simp at h
     cases hc:(t == [0]) with
     | true =>
      rw[hc]at hb hv
      exact ifT hb (q4' _ H4 (by rw[hv];rfl) (Same.refl H4))
     | false =>
      rw[hc]at hb hv
      exact ifF hb (q4' _ H4 (by rw[hv];rfl) (Same.refl H4))
   ·have ea:=zak p5
    have ea2:acc=(met.map fun t=>t == [0]).map bV:=by
     rw[ea,<- hlen]
     have:=za4 (met.map fun t=>t == ([0]:Told)) false bV
     rw[yab]at this
     exact this
    have W4:=W3.same s4
    obtain⟨dx4,o4⟩:=W4.obj
    have hm:=hfin (fun t=>t == [0])
    refine⟨_,rfl,x,CW,dx4,_,_,rfl,o4,W.T.cl,W.T.nL,zby _ _ _,?_⟩
    refine⟨false,D,l,yb0 yh4 (yet a) (fun t=>t == [0]) [b],rs,rfl,?_,s4 _ _ e4,?_,zde (ziq ha) (yam _ (zfm ⟨hb1,hb2⟩)) (by show SE.length<=400;decide) _,?_,?_,?_⟩
    ·rw[hm,<- ea2];exact e5
    ·rw[hm];exact q4.keep fun _ _ e=>s4 _ _ e
    ·rw[hm];show leads.length<=1000;omega
    ·exact fun H5 q M5 h24 s5=>hQ H5 q M5 h24 ((s1.trans s3).trans (s4.trans s5))
    ·exact fun H5 h24 s5=>hE H5 h24 ((s1.trans s3).trans (s4.trans s5))
end
end My
end
section
namespace My
open PySem PySem.Spec PyProof.Rows L2
open Rows (Told LETTERS)
section
variable {P:yav}{w:World}{K:yac}{mg:Str->Option Value}{base:Heap}
theorem zle{n i j:Nat}(h:(yae n)[i]?=some j):j=i/\i<n:=by
 obtain⟨a1,a2⟩:=yag.mp h
 simp at a1 a2
 exact⟨a2.symm,a1⟩
theorem zfx{CM CS CW D x m n l:Addr}{d:DK}{step:Told->Nat->Told}{most:Nat}{t0:Told}{okf:Told->Bool}{met:List Told}{leads:List (List Nat)}{acc:List V}{H H3 H4:Hp}{Q:VK}{E:XK}(W3:WkAt P w CW H3 d x m n l met leads)(s03:Same H H3)(s4:Same H3 H4)(e5:H4 D=some (.lst acc))(p5:Paired (fun j y=>y=bV ((met.map okf).getD j false)) (yae met.length) acc)(hz:met.length<=1000)(hle:leads.length=met.length)(hm:yb0 most step okf t0=⟨leads,met.map okf⟩)(wf:MM.Wf (yb0 most step okf t0))(g:Gives CM CS H (yb0 most step okf t0).least Q E):zcm CM CS [.ref D,.ref l] H4 Q E:=by
 obtain⟨rs,e4,q4⟩:=W3.lds
 have ea:=zak p5
 have ea2:acc=(met.map okf).map bV:=by
  rw[ea]
  have:=za4 (met.map okf) false bV
  rw[yab]at this
  exact this
 refine⟨false,D,l,yb0 most step okf t0,rs,rfl,?_,s4 _ _ e4,?_,wf,?_,?_,?_⟩
 ·rw[hm,<- ea2];exact e5
 ·rw[hm];exact q4.keep fun _ _ e=>s4 _ _ e
 ·rw[hm];show leads.length<=1000;omega
 ·exact fun H5 q M5 h24 s5=>g.1 H5 q M5 h24 ((s03.trans s4).trans s5)
 ·exact fun H5 h24 s5=>g.2 H5 h24 ((s03.trans s4).trans s5)
def zgd(a:List Int)(t:Told)(c:Nat):Told:=[(t.getD 0 0 - ycd a c) / 2]
def zhc(t:Told):Bool:=decide (0<=t.getD 0 0)
theorem ztt(a:List Int)(b:Int):yin a b=(yb0 yh4 (zgd a) zhc [b]).least:=rfl
theorem zir{a:List Int}(h:Small a):∀ x∈S1,∀ c,c<LETTERS->zgd a x c∈S1:=by
 intro x hx c _
 obtain⟨z,rfl,h1,h2⟩:=znh hx
 have hw:=zjs h c
 exact zfm (show -100<=(z - ycd a c) / 2/\(z - ycd a c) / 2<=100 by omega)
theorem ztu:S1.length=201:=by decide
def ztv(CM CS:Addr):Sp:=fun vs H Q E=>∃(b:Int) (p:Addr) (a:List Int),vs=[.int b,.ref p]/\H p=some (.lst (a.map V.int))/\Small a/\-100<=b/\b<=100/\Gives CM CS H (yin a b) Q E
theorem sc_most:FnScope ["b","factors","sums","walk","room","part"] ["b","factors"] (ze zbp):=⟨rfl,rfl,rfl,by decide +kernel,rfl,by decide +kernel,by decide +kernel⟩
abbrev zqo(own:List (Str × Nat))(scope:Scope):Prop:=BlkOk ["b","factors","sums","walk","room","part"] (ze zbp) scope own
theorem zyh{f fS fM CS CM CW fI fG fC fL fN:Addr}{fd fdS fdM dI dG dC dL dN:ya2}(F:Fun K "at_most_machine" "at_most_machine" zbp f fd)(B:TB mg)(GS:Gf K mg "letter_sums" zbr ["factors"] fS fdS)(GM:Gf K mg "least_machine" zam ["ends","leads"] fM fdM)(NS:FnOk P w K mg base CX0 2 fS fdS ["factors"] zjf)(NM:FnOk P w K mg base (CXE P w) 3 fM fdM ["ends","leads"] (zcm CM CS))(W:MkW K mg CW fI fG fC fL fN dI dG dC dL dN) :
  FnOk P w K mg base (CXE P w) 4 f fd ["b","factors"] (ztv CM CS):=by
 have NS':=NS.mono (k:=3) (by decide)
 have NI:FnOk P w K mg base CX0 2 fI dI ["self","start"] (ze6 P w CW):=(ze7 W.FI W.T).mono (by decide)
 have NG:FnOk P w K mg base CX0 3 fG dG ["self"] (zgb P w CW):=(zf1 W.FG W.T B).mono (by decide)
 have NC:FnOk P w K mg base CX0 3 fC dC ["self"] (spCur P w CW):=(zha W.FC W.T B).mono (by decide)
 have NL:FnOk P w K mg base CX0 3 fL dL ["self","states"] (zcw P w K CW):=(zf3 W.FL W.T B W.FN W.bN W.mN).mono (by decide)
 refine F.okE sc_most (fun vs H Q E h=>?_) (fun cdv A outer s H vs Q E hr h=>?_)
 ·obtain⟨b,p,a,rfl,_⟩:=h
  rfl
 ·obtain⟨b,p,a,rfl,hp,ha,hb1,hb2,g⟩:=h
  refine⟨_,zc (zz (i:=2) sc_most.nd rfl (ybk rfl) (zi NS' hr rfl GS.m GS.F.kp GS.b .nil pass0 (za (pv 1) zb)))
   (zc (zz (i:=3) sc_most.nd rfl (ybk rfl) (zc5 W.M NI hr rfl W.mg W.bI .nil pass0 (za (pv 0) zb)))
   (zc (zcz ydg (zfe (za6 (pv 3) W.T.cl W.mG NG hr W.bG .nil pass0))
    (zc (zz (i:=4) sc_most.nd rfl (yc5 rfl) (za6 (pv 3) W.T.cl W.mC NC hr W.bC .nil pass0))
    (zf (zad (zai (pv 3) W.T.cl W.mL NL hr W.bL .nil pass0 (za (zaq (te:=tOp (rI CDiv fun i j=>.int (i / j)) (tOp (rI0 fun i j=>.int (i - j)) (tVar 4) (tVar 5)) (tC (.int 2))) (own:=[("part",5)]) rfl sc_most.nd (zba (pv 2)) (show zqo _ _ from zu (by decide +kernel))
     (fun _ _ _ _ _=>zt (i:=5) sc_most.nd rfl (ybk rfl)) (fun _ _ _ _ _=>zac) (fun _ _ _ _ _=>zaa zpu (zaa zea (pv 4) (pv 5)) zg)) zb))))))
   (zf (zk (zi NM hr rfl GM.m GM.F.kp GM.b .nil zv (za (zaq (te:=tIf (tTest (tOp (rI0 fun i j=>.bl (decide (j<=i))) (tVar 4) (tC (.int 0)))) (tC (.int 1)) (tC (.int 0))) (own:=[("room",4)]) rfl sc_most.nd (zba (zq (pv 3) rfl)) (show zqo _ _ from zu (by decide +kernel))
     (fun _ _ _ _ _=>zt (i:=4) sc_most.nd rfl (ybk rfl)) (fun _ _ _ _ _=>zac) (fun _ _ _ _ _=>zhk (zah z0w (pv 4) zg (zaj _)) zg zg)) (za (zq (pv 3) rfl) zb))))))),?_⟩
  refine⟨_,rfl,p,a,rfl,hp,ha.1,fun H1 q hq s1=>?_⟩
  refine⟨_,rfl,fun x dx hx hdx hne=>?_⟩
  refine⟨.o,x,dx,[b],.int b,rfl,zd,⟨by show 1<=1;decide,rfl⟩,fun H2 m n l W2 hml hm hn hl k2=>⟨rfl,?_⟩⟩
  obtain⟨s2,nw⟩:=zep hx hdx hne hm hn hl hml k2
  have hSE:=ztu
  refine zew (P:=P) (w:=w) (C:=CW) (step:=zgd a) (S:=S1) (most:=yh4) (t0:=[b]) (d:=.o) (a:=x) (m:=m) (n:=n) (l:=l) (H0:=H1) (fun σ=>∃ v:Option V,σ=[some (.int b),some (.ref p),some (.ref q),some (.ref x),v,none]) ⟨none,rfl⟩ W2 s2
   (zfm ⟨hb1,hb2⟩) (zir ha) (by rw[hSE];decide) ?_ ?_ ?_
  ·rintro σ H3 met leads Q3 ⟨v,rfl⟩ W3 h3
   obtain⟨dx3,o3⟩:=W3.obj
   exact⟨_,rfl,x,dx3,_,rfl,o3,zen _ _ _,.o,x,m,n,l,met,leads,rfl,W3,_,rfl,h3⟩
  ·rintro σ H3 met leads t N3 ⟨v,rfl⟩ s3 W3 htS ht hml' hll hN
   obtain⟨z,rfl,hz1,hz2⟩:=znh htS
   obtain⟨dx3,o3⟩:=W3.obj
   refine⟨_,rfl,x,dx3,_,rfl,o3,zdz _ _ _,.o,x,m,n,l,met,leads,[z],rfl,W3,ht,fun u hu=>?_⟩
   have hu2:u = .int z:=hu.2
   subst hu2
   refine⟨_,rfl,x,dx3,_,rfl,o3,zeo _ _ _,_,rfl,q,rfl,⟨_,SqL.of (s3 _ _ hq)⟩,fun D hD=>?_⟩
   refine zca (K:=K) (a:=q) (idx:=5) (fun j y H'=>StAt H' .o (zgd a [z] j) y) (fun _ _ _ _ k h=>h.keep k) hD (SqL.of (s3 _ _ hq)) (by rw[yab,ya5];decide) (fun _=>rfl) (fun i y H4 Q4 hy s4 q4=>?_) fun H4 acc s4 e4 p4=>?_
   ·obtain⟨j,hj,rfl⟩:=zcx hy
    obtain⟨ei,_⟩:=zle hj
    subst ei
    exact⟨_,rfl,_,rfl,_,_,rfl,rfl,_,_,rfl,rfl,⟨by decide,by decide⟩,q4 _ H4 ⟨yao _,rfl⟩ (Same.refl H4)⟩
   ·rw[yab,ya5]at p4
    show zcw P w K CW [.ref x,.ref D] H4 (fun _ H'=>N3 [some (.int b),some (.ref p),some (.ref q),some (.ref x),some (.int z),none] H') E0
    refine zeq (K:=K) nw s3 W3 hD s4 e4 p4 (S:=201) (by decide) (by omega) (by omega) fun H5 s5 W5=>?_
    exact hN _ H5 ⟨some (.int z),rfl⟩ s5 W5
  ·rintro σ H3 met leads ⟨v,rfl⟩ s3 W3 hml' hle hsub hfin
   obtain⟨dx3,o3⟩:=W3.obj
   obtain⟨vs,e3,q3⟩:=W3.mt
   have hlen:met.length=vs.length:=ybh q3
   refine⟨_,rfl,x,CW,dx3,_,_,rfl,o3,W.T.cl,W.T.nM,zb0 _ _ _,m,rfl,⟨_,SqL.of e3⟩,fun D hD=>?_⟩
   refine zca (K:=K) (a:=m) (idx:=4) (fun j y _=>y=bV ((met.map zhc).getD j false)) (fun _ _ _ _ _ h=>h) hD (SqL.of e3) (by omega) (fun _=>rfl) (fun i y H4 Q4 hy s4 q4'=>?_) fun H4 acc s4 e5 p5=>?_
   ·obtain⟨t,ht⟩:∃ t,met[i]?=some t:=⟨_,yad (by have:=(yag.mp hy).1;omega)⟩
    obtain⟨y',hy',sy⟩:=za2 q3 ht
    rw[hy]at hy'
    cases hy'
    obtain⟨z,rfl,hz1,hz2⟩:=znh (hsub t (yat ht))
    have hy2:y = .int z:=sy.2
    subst hy2
    have hv:(met.map zhc).getD i false=decide (0<=z):=MM.zw (by rw[yaj,ht];rfl)
    refine⟨_,rfl,_,_,rfl,rfl,_,rfl,?_⟩
    by_cases hz:0<=z
    ·rw[decide_eq_true hz]at hv
     exact ifT (decide_eq_true hz) (q4' _ H4 (by rw[hv];rfl) (Same.refl H4))
    ·rw[decide_eq_false hz]at hv
     exact ifF (decide_eq_false hz) (q4' _ H4 (by rw[hv];rfl) (Same.refl H4))
   ·have W4:=W3.same s4
    obtain⟨dx4,o4⟩:=W4.obj
    refine⟨_,rfl,x,CW,dx4,_,_,rfl,o4,W.T.cl,W.T.nL,zby _ _ _,?_⟩
    show zcm CM CS [.ref D,.ref l] H4 Q E
    rw[<- hlen]at p5
    exact zfx W3 (s1.trans s3) s4 e5 p5 (by omega) hle (hfin zhc) (zde (zir ha) (zfm ⟨hb1,hb2⟩) (by rw[hSE];decide) _) g
end
end My
end
section
namespace My
open PySem PySem.Spec PyProof.Rows L2
open Rows (Told LETTERS)
section
variable {P:yav}{w:World}{K:yac}{mg:Str->Option Value}{base:Heap}
def zhw(a:List Int)(m:Int)(t:Told)(c:Nat):Told:=[(t.getD 0 0 - t.getD 1 0*ycd a c) % m,2*t.getD 1 0 % m]
def zlf(t:Told):Bool:=t.getD 0 0 == 0
def SR(k:Nat):List Told:=(yae k).flatMap fun (i:Nat)=>(yae k).map fun (j:Nat)=>[(i:Int),(j:Int)]
theorem zlg{k:Nat}{x y:Int}(hx:0<=x/\x<k)(hy:0<=y/\y<k):([x,y]:Told)∈SR k:=by
 refine ygy.mpr ⟨x.toNat,yau.mpr (by omega),ya6.mpr ⟨y.toNat,yau.mpr (by omega),?_⟩⟩
 rw[show((x.toNat:Nat):Int)=x by omega,show((y.toNat:Nat):Int)=y by omega]
theorem zrx{k:Nat}{t:Told}(h:t∈SR k):∃ x y:Int,t=[x,y]/\0<=x/\x<k/\0<=y/\y<k:=by
 obtain⟨i,hi,h⟩:=ygy.mp h
 obtain⟨j,hj,rfl⟩:=ya6.mp h
 have:=yau.mp hi
 have:=yau.mp hj
 exact⟨i,j,rfl,by omega,by omega,by omega,by omega⟩
theorem ztw{k:Nat}(h:k<=8):(SR k).length<=64:=by
 have:∀ k,k<=8->(SR k).length<=64:=by decide
 exact this k h
theorem zfn(x:Int){k:Nat}(hk:1<=k):0<=x % (k:Int)/\x % (k:Int)<k:=⟨Int.emod_nonneg _ (by omega),Int.emod_lt_of_pos _ (by omega)⟩
theorem zgo{a:List Int}{k:Nat}(hk:1<=k):∀ x∈SR k,∀ c,c<LETTERS->zhw a (k:Int) x c∈SR k:=fun x _ c _=>zlg (zfn _ hk) (zfn _ hk)
def ztx(CM CS:Addr):Sp:=fun vs H Q E=>∃(k:Nat) (b:Int) (p:Addr) (a:List Int),vs=[nV k,.int b,.ref p]/\1<=k/\k<=8/\H p=some (.lst (a.map V.int))/\Small a/\Gives CM CS H (yka a b (k:Int)) Q E
theorem sc_rest:FnScope ["m","b","factors","sums","walk","due","worth","part","state"] ["m","b","factors"] (ze zb8):=⟨rfl,rfl,rfl,by decide +kernel,rfl,by decide +kernel,by decide +kernel⟩
abbrev zqp(own:List (Str × Nat))(scope:Scope):Prop:=BlkOk ["m","b","factors","sums","walk","due","worth","part","state"] (ze zb8) scope own
theorem zyi{f fS fM CS CM CW fI fG fC fL fN:Addr}{fd fdS fdM dI dG dC dL dN:ya2}(F:Fun K "rest_machine" "rest_machine" zb8 f fd)(B:TB mg)(GS:Gf K mg "letter_sums" zbr ["factors"] fS fdS)(GM:Gf K mg "least_machine" zam ["ends","leads"] fM fdM)(NS:FnOk P w K mg base CX0 2 fS fdS ["factors"] zjf)(NM:FnOk P w K mg base (CXE P w) 3 fM fdM ["ends","leads"] (zcm CM CS))(W:MkW K mg CW fI fG fC fL fN dI dG dC dL dN) :
  FnOk P w K mg base (CXE P w) 4 f fd ["m","b","factors"] (ztx CM CS):=by
 have NS':=NS.mono (k:=3) (by decide)
 have NI:FnOk P w K mg base CX0 2 fI dI ["self","start"] (ze6 P w CW):=(ze7 W.FI W.T).mono (by decide)
 have NG:FnOk P w K mg base CX0 3 fG dG ["self"] (zgb P w CW):=(zf1 W.FG W.T B).mono (by decide)
 have NC:FnOk P w K mg base CX0 3 fC dC ["self"] (spCur P w CW):=(zha W.FC W.T B).mono (by decide)
 have NL:FnOk P w K mg base CX0 3 fL dL ["self","states"] (zcw P w K CW):=(zf3 W.FL W.T B W.FN W.bN W.mN).mono (by decide)
 refine F.okE sc_rest (fun vs H Q E h=>?_) (fun cdv A outer s H vs Q E hr h=>?_)
 ·obtain⟨k,b,p,a,rfl,_⟩:=h
  rfl
 ·obtain⟨k,b,p,a,rfl,hk1,hk8,hp,ha,g⟩:=h
  have hk0:(0:Int)<(k:Int):=by omega
  refine⟨_,zc (zz (i:=3) sc_rest.nd rfl (ybk rfl) (zi NS' hr rfl GS.m GS.F.kp GS.b .nil pass0 (za (pv 2) zb)))
   (zc (zz (i:=4) sc_rest.nd rfl (ybk rfl) (zc5 W.M NI hr rfl W.mg W.bI .nil pass0 (za (zh6 (za (zaa zg0 (pv 1) (pv 0)) (za (zaa zg0 zg (pv 0)) zb))) zb)))
   (zc (zcz ydg (zfe (za6 (pv 4) W.T.cl W.mG NG hr W.bG .nil pass0))
    (zc (zz (i:=5) sc_rest.nd rfl (yc5 rfl) (zp ix_tup (za6 (pv 4) W.T.cl W.mC NC hr W.bC .nil pass0) zg (fun _ _=>rfl)))
    (zc (zz (i:=6) sc_rest.nd rfl (yc5 rfl) (zp ix_tup (za6 (pv 4) W.T.cl W.mC NC hr W.bC .nil pass0) zg (fun _ _=>rfl)))
    (zf (zad (zai (pv 4) W.T.cl W.mL NL hr W.bL .nil pass0 (za (zaq (te:=tTup (tCons (tOp (rI (fun _ j=>0<j) fun i j=>.int (i % j)) (tOp (rI0 fun i j=>.int (i - j)) (tVar 5) (tOp (rI CMul fun i j=>.int (i*j)) (tVar 6) (tVar 7))) (tVar 0)) (tCons (tOp (rI (fun _ j=>0<j) fun i j=>.int (i % j)) (tOp (rI CMul fun i j=>.int (i*j)) (tC (.int 2)) (tVar 6)) (tVar 0)) tNil))) (own:=[("part",7)]) rfl sc_rest.nd (zba (pv 3)) (show zqp _ _ from zu (by decide +kernel))
     (fun _ _ _ _ _=>zt (i:=7) sc_rest.nd rfl (ybk rfl)) (fun _ _ _ _ _=>zac) (fun _ _ _ _ _=>zh6 (za (zaa zg0 (zaa zea (pv 5) (zaa zgz (pv 6) (pv 7))) (pv 0)) (za (zaa zg0 (zaa zgz zg (pv 6)) (pv 0)) zb)))) zb)))))))
   (zf (zk (zi NM hr rfl GM.m GM.F.kp GM.b .nil zv (za (zaq (te:=tIf (tTest (tOp rEq (tOp (rIxT K) (tVar 8) (tC (.int 0))) (tC (.int 0)))) (tC (.int 1)) (tC (.int 0))) (own:=[("state",8)]) rfl sc_rest.nd (zba (zq (pv 4) rfl)) (show zqp _ _ from zu (by decide +kernel))
     (fun _ _ _ _ _=>zt (i:=8) sc_rest.nd rfl (ybk rfl)) (fun _ _ _ _ _=>zac) (fun _ _ _ _ _=>zhk (zah zco (zp ix_tup (pv 8) zg (fun _ _=>rfl)) zg (zaj _)) zg zg)) (za (zq (pv 4) rfl) zb))))))),?_⟩
  refine⟨_,rfl,p,a,rfl,hp,ha.1,fun H1 q hq s1=>?_⟩
  refine⟨_,rfl,_,rfl,_,_,rfl,rfl,hk0,_,rfl,_,_,rfl,rfl,hk0,(by show 2<=yay;rw[ybr];decide),fun pt hpt=>?_⟩
  have spt:Same H1 (upd H1 pt (.tup [.int (b % (k:Int)),.int (1 % (k:Int))])):=Same.new hpt
  intro x dx hx hdx hne
  have hpt2:(upd (upd (upd H1 pt (.tup [.int (b % (k:Int)),.int (1 % (k:Int))])) dx (.own x)) x (.ins CW dx [])) pt=some (.tup [.int (b % (k:Int)),.int (1 % (k:Int))]):=by
   rw[zh (zn (H:=upd H1 pt _) zd hx),zh (zn (H:=upd H1 pt _) zd hdx)]
   exact zd
  refine⟨.f,x,dx,[b % (k:Int),1 % (k:Int)],.ref pt,rfl,zd,⟨trivial,pt,rfl,hpt2⟩,fun H2 m n l W2 hml hm hn hl k2=>⟨rfl,?_⟩⟩
  obtain⟨s2',nw'⟩:=zep hx hdx hne hm hn hl hml k2
  have s2:Same H1 H2:=spt.trans s2'
  have nw:NewW H1 x m n l:=⟨spt.free nw'.ha,spt.free nw'.hm,spt.free nw'.hn,spt.free nw'.hl,nw'.ml⟩
  have hSR:=ztw hk8
  have ht0:([b % (k:Int),1 % (k:Int)]:Told)∈SR k:=zlg (zfn _ hk1) (zfn _ hk1)
  refine zew (P:=P) (w:=w) (C:=CW) (step:=zhw a (k:Int)) (S:=SR k) (most:=yh4) (t0:=[b % (k:Int),1 % (k:Int)]) (d:=.f) (a:=x) (m:=m) (n:=n) (l:=l) (H0:=H1) (fun σ=>∃ v v':Option V,σ=[some (nV k),some (.int b),some (.ref p),some (.ref q),some (.ref x),v,v',none,none]) ⟨none,none,rfl⟩ W2 s2
   ht0 (zgo hk1) (by show(SR k).length<=400;omega) ?_ ?_ ?_
  ·rintro σ H3 met leads Q3 ⟨v,v',rfl⟩ W3 h3
   obtain⟨dx3,o3⟩:=W3.obj
   exact⟨_,rfl,x,dx3,_,rfl,o3,zen _ _ _,.f,x,m,n,l,met,leads,rfl,W3,_,rfl,h3⟩
  ·rintro σ H3 met leads t N3 ⟨v,v',rfl⟩ s3 W3 htS ht hml' hll hN
   obtain⟨z,y,rfl,hz1,hz2,hy1,hy2⟩:=zrx htS
   obtain⟨dx3,o3⟩:=W3.obj
   refine⟨_,rfl,x,dx3,_,rfl,o3,zdz _ _ _,.f,x,m,n,l,met,leads,[z,y],rfl,W3,ht,fun u hu=>?_⟩
   obtain⟨u0,rfl,hu0⟩:=hu.2
   refine⟨u0,_,_,_,rfl,rfl,SqT.of hu0,rfl,?_⟩
   refine⟨_,rfl,x,dx3,_,rfl,o3,zdz _ _ _,.f,x,m,n,l,met,leads,[z,y],rfl,W3,ht,fun u hu=>?_⟩
   obtain⟨u1,rfl,hu1⟩:=hu.2
   refine⟨u1,_,_,_,rfl,rfl,SqT.of hu1,rfl,?_⟩
   refine⟨_,rfl,x,dx3,_,rfl,o3,zeo _ _ _,_,rfl,q,rfl,⟨_,SqL.of (s3 _ _ hq)⟩,fun D hD=>?_⟩
   refine zca (K:=K) (a:=q) (idx:=7) (fun j y' H'=>StAt H' .f (zhw a (k:Int) [z,y] j) y') (fun _ _ _ _ k h=>h.keep k) hD (SqL.of (s3 _ _ hq)) (by rw[yab,ya5];decide) (fun _=>rfl) (fun i y' H4 Q4 hy' s4 q4=>?_) fun H4 acc s4 e4 p4=>?_
   ·obtain⟨j,hj,rfl⟩:=zcx hy'
    obtain⟨ei,_⟩:=zle hj
    subst ei
    refine⟨_,rfl,_,rfl,_,rfl,_,_,rfl,rfl,.inl ⟨by omega,by omega⟩,_,_,rfl,rfl,_,rfl,_,_,rfl,rfl,hk0,_,rfl,_,_,rfl,rfl,.inl ⟨by decide,by decide⟩,_,rfl,_,_,rfl,rfl,hk0,(by show 2<=yay;rw[ybr];decide),fun pt' hpt'=>?_⟩
    exact q4 _ _ ⟨trivial,pt',rfl,zd⟩ (Same.new hpt')
   ·rw[yab,ya5]at p4
    show zcw P w K CW [.ref x,.ref D] H4 (fun _ H'=>N3 [some (nV k),some (.int b),some (.ref p),some (.ref q),some (.ref x),some (.int z),some (.int y),none,none] H') E0
    refine zeq (K:=K) nw s3 W3 hD s4 e4 p4 (S:=64) (by decide) (by omega) (by omega) fun H5 s5 W5=>?_
    exact hN _ H5 ⟨some (.int z),some (.int y),rfl⟩ s5 W5
  ·rintro σ H3 met leads ⟨v,v',rfl⟩ s3 W3 hml' hle hsub hfin
   obtain⟨dx3,o3⟩:=W3.obj
   obtain⟨vs,e3,q3⟩:=W3.mt
   have hlen:met.length=vs.length:=ybh q3
   refine⟨_,rfl,x,CW,dx3,_,_,rfl,o3,W.T.cl,W.T.nM,zb0 _ _ _,m,rfl,⟨_,SqL.of e3⟩,fun D hD=>?_⟩
   refine zca (K:=K) (a:=m) (idx:=8) (fun j y _=>y=bV ((met.map zlf).getD j false)) (fun _ _ _ _ _ h=>h) hD (SqL.of e3) (by omega) (fun _=>rfl) (fun i y H4 Q4 hy s4 q4'=>?_) fun H4 acc s4 e5 p5=>?_
   ·obtain⟨t,ht⟩:∃ t,met[i]?=some t:=⟨_,yad (by have:=(yag.mp hy).1;omega)⟩
    obtain⟨y',hy',sy⟩:=za2 q3 ht
    rw[hy]at hy'
    cases hy'
    obtain⟨z,z2,rfl,_⟩:=zrx (hsub t (yat ht))
    obtain⟨u0,rfl,hu0⟩:=sy.2
    have hv:(met.map zlf).getD i false=(z == 0):=MM.zw (by rw[yaj,ht];rfl)
    refine⟨_,rfl,u0,_,_,_,rfl,rfl,SqT.of (s4 _ _ hu0),rfl,rfl,_,rfl,?_⟩
    by_cases hz:z=0
    ·subst hz
     exact ifT (decide_eq_true rfl) (q4' _ H4 (by rw[hv];rfl) (Same.refl H4))
    ·rw[show(z == 0)=false from beq_eq_false_iff_ne.mpr hz]at hv
     exact ifF (decide_eq_false (fun e=>hz (by injection e))) (q4' _ H4 (by rw[hv];rfl) (Same.refl H4))
   ·have W4:=W3.same s4
    obtain⟨dx4,o4⟩:=W4.obj
    refine⟨_,rfl,x,CW,dx4,_,_,rfl,o4,W.T.cl,W.T.nL,zby _ _ _,?_⟩
    show zcm CM CS [.ref D,.ref l] H4 Q E
    rw[<- hlen]at p5
    exact zfx W3 (s1.trans s3) s4 e5 p5 (by omega) hle (hfin zlf) (zde (zgo hk1) ht0 (by show(SR k).length<=400;omega) _) g
end
end My
end
section
namespace My
open PySem PySem.Spec PyProof.Rows L2
open Rows (Told LETTERS)
section
variable {P:yav}{w:World}{K:yac}{mg:Str->Option Value}{base:Heap}
theorem zty:∀ c<16,∀ v<4,∀ w<4,¬ c.testBit v=c.testBit w->yd6 (yd6 ((c:Nat):Int) (1*2 ^ v)) (1*2 ^ w)=((yd9 c v w:Nat):Int):=by decide +kernel
theorem zo1:∀ c<16,∀ v<4,∀ w<4,yd9 c v w<16:=by decide +kernel
theorem ze9(n v:Nat):ycr ((n:Int) / 2 ^ v) 1=if n.testBit v=true then 1 else 0:=by
 have e0:(n:Int) / 2 ^ v=((n / 2 ^ v:Nat):Int):=by
  rw[yiu,yf6]
  rfl
 have this:=Bits.zjj (x:=((n / 2 ^ v:Nat):Int)) 1 (yca _)
 rw[show((2:Int) ^ 1 - 1)=1 by decide,show((2:Int) ^ 1)=2 by decide]at this
 rw[e0,this,yf9]
 by_cases h:n / 2 ^ v % 2=1
 ·rw[if_pos (decide_eq_true h)]
  omega
 ·rw[if_neg (by simp[h])]
  omega
def spSwL:Sp:=fun vs H Q _=>∃(c v u:Nat),vs=[nV c,nV v,nV u]/\c<16/\v<4/\u<4/\Q (nV (yd9 c v u)) H
theorem zz8:FnScope ["letter","v","w"] ["letter","v","w"] (ze zce):=⟨rfl,rfl,rfl,by decide +kernel,rfl,by decide +kernel,by decide +kernel⟩
theorem zz9{f:Addr}{fd:ya2}(F:Fun K "swapped_letter" "swapped_letter" zce f fd):FnOk P w K mg base CX0 1 f fd ["letter","v","w"] spSwL:=by
 refine F.ok zz8 (fun vs H Q E h=>?_) (fun cdv A outer s H vs Q E hr h=>?_)
 ·obtain⟨c,v,u,rfl,_⟩:=h
  rfl
 ·obtain⟨c,v,u,rfl,hc,hv,hu,k⟩:=h
  refine⟨_,zc (zbk (zah zco (zaa zg1 (zaa zf7 (pv 0) (pv 1)) zg) (zaa zg1 (zaa zf7 (pv 0) (pv 2)) zg) (zaj _)) (zf (zk (pv 0))) zap)
   (zf (zk (zaa zkd (zaa zkd (pv 0) (zaa zff zg (pv 1))) (zaa zff zg (pv 2))))),?_⟩
  refine⟨_,rfl,_,rfl,_,_,rfl,rfl,(by show(0:Int)<=(v:Int);omega),_,_,rfl,rfl,_,rfl,_,rfl,_,_,rfl,rfl,(by show(0:Int)<=(u:Int);omega),_,_,rfl,rfl,rfl,_,rfl,?_⟩
  have hb:decide (V.int (ycr ((c:Int) / 2 ^ ((v:Int)).toNat) 1)=V.int (ycr ((c:Int) / 2 ^ ((u:Int)).toNat) 1))=decide (c.testBit v=c.testBit u):=by
   rw[yan,yan,ze9,ze9]
   cases c.testBit v<;>cases c.testBit u<;>rfl
  by_cases h:c.testBit v=c.testBit u
  ·rw[decide_eq_true h]at hb
   have ec:yd9 c v u=c:=by
    unfold yd9
    rw[if_pos (by rw[h];simp)]
   rw[ec]at k
   exact ifT hb ⟨_,rfl,k⟩
  ·rw[decide_eq_false h]at hb
   refine ifF hb ?_
   refine⟨_,rfl,_,rfl,_,_,rfl,rfl,⟨by show(0:Int)<=(v:Int);omega,by show(v:Int)<=1000000;omega,by decide⟩,_,_,rfl,rfl,_,rfl,_,_,rfl,rfl,⟨by show(0:Int)<=(u:Int);omega,by show(u:Int)<=1000000;omega,by decide⟩,_,_,rfl,rfl,?_⟩
   have e:=zty c hc v hv u hu h
   show Q (.int (yd6 (yd6 (c:Int) (1*2 ^ ((v:Int)).toNat)) (1*2 ^ ((u:Int)).toNat))) H
   rw[yan,yan,e]
   exact k
theorem MachAt.row{C:Addr}{H:Hp}{a:Addr}{m:yaf}(M:MachAt C H a m):∃ dx e l rs,H a=some (.ins C dx (fMach (.ref e) (.ref l)))/\H e=some (.tup (m.ends.map bV))/\H l=some (.tup (rs.map V.ref))/\RowsAt H rs m.next/\rs.length=m.next.length:=by
 obtain⟨dx,e,l,rs,h1,h2,h3,h4⟩:=M.ex
 exact⟨dx,e,l,rs,h1,h2,h3,h4,ybh h4⟩
theorem zd0{H:Hp}{rs:List Addr}{m:yaf}(h:RowsAt H rs m.next){i:Nat}(hi:i<m.next.length):∃ r,(rs.map V.ref)[i]?=some (V.ref r)/\RowAt H r (m.next.getD i []):=by
 have hl:rs.length=m.next.length:=ybh h
 have hi':i<rs.length:=by omega
 obtain⟨row,h1,h2⟩:=za2 h (yad hi')
 exact⟨rs[i],by rw[yaj,yad hi'];rfl,by rw[MM.zw h1];exact h2⟩
theorem zfy{m:yaf}(wf:MM.Wf m){q c:Nat}(hq:q<m.next.length)(hc:c<LETTERS):((m.next.getD q []).map nV)[c]?=some (nV (m.on q c)):=by
 rw[yaj,MM.zbz (by rw[wf.row hq];exact hc)]
 rfl
theorem zis{m:yaf}(wf:MM.Wf m){q:Nat}(hq:q<m.next.length):(m.ends.map bV)[q]?=some (bV (m.end_ q)):=by
 rw[yaj]
 unfold yh3
 rw[yal,yad (by rw[wf.ends];exact hq)]
 rfl
def SN(n:Nat):List Told:=(yae n).map fun (q:Nat)=>[(q:Int)]
theorem zlh{n q:Nat}(h:q<n):([(q:Int)]:Told)∈SN n:=ya6.mpr ⟨q,yau.mpr h,rfl⟩
theorem zni{n:Nat}{t:Told}(h:t∈SN n):∃ q:Nat,t=[(q:Int)]/\q<n:=by
 obtain⟨q,hq,rfl⟩:=ya6.mp h
 exact⟨q,rfl,yau.mp hq⟩
theorem ztz(n:Nat):(SN n).length=n:=by simp[SN]
def zit(m:yaf)(v u:Nat)(t:Told)(c:Nat):Told:=[((m.on (t.getD 0 0).toNat (yd9 c v u):Nat):Int)]
def swOk(m:yaf)(t:Told):Bool:=m.end_ (t.getD 0 0).toNat
theorem zry(m:yaf)(v u:Nat):yhn m v u=(yb0 m.size (zit m v u) (swOk m) [0]).least:=rfl
theorem zgp{m:yaf}(wf:MM.Wf m){v u:Nat}(hv:v<4)(hu:u<4):∀ x∈SN m.next.length,∀ c,c<LETTERS->zit m v u x c∈SN m.next.length:=by
 intro x hx c hc
 obtain⟨q,rfl,hq⟩:=zni hx
 exact zlh (wf.on_lt (show((q:Int)).toNat<_ by rw[yan];exact hq) (zo1 c hc v hv u hu))
def spSw(CM CS:Addr):Sp:=fun vs H Q E=>∃(x:Addr) (m:yaf) (v u:Nat),vs=[.ref x,nV v,nV u]/\MachAt CM H x m/\MM.Wf m/\m.next.length<=24/\v<4/\u<4/\Gives CM CS H (yhn m v u) Q E
theorem sc_sw:FnScope ["machine","v","w","letters","walk","row","letter","state"] ["machine","v","w"] (ze zbo):=⟨rfl,rfl,rfl,by decide +kernel,rfl,by decide +kernel,by decide +kernel⟩
abbrev zrz(own:List (Str × Nat))(scope:Scope):Prop:=BlkOk ["machine","v","w","letters","walk","row","letter","state"] (ze zbo) scope own
theorem z01{f fS fM CS CM CW fI fG fC fL fN:Addr}{fd fdS fdM dI dG dC dL dN:ya2}(F:Fun K "swapped_machine" "swapped_machine" zbo f fd)(B:TB mg)(N:TN mg)(TMm:TM K mg CM)(GS:Gf K mg "swapped_letter" zce ["letter","v","w"] fS fdS)(GM:Gf K mg "least_machine" zam ["ends","leads"] fM fdM)(NM:FnOk P w K mg base (CXE P w) 3 fM fdM ["ends","leads"] (zcm CM CS))(W:MkW K mg CW fI fG fC fL fN dI dG dC dL dN) :
  FnOk P w K mg base (CXE P w) 4 f fd ["machine","v","w"] (spSw CM CS):=by
 have NS:FnOk P w K mg base CX0 3 fS fdS ["letter","v","w"] spSwL:=(zz9 GS.F).mono (by decide)
 have NI:FnOk P w K mg base CX0 2 fI dI ["self","start"] (ze6 P w CW):=(ze7 W.FI W.T).mono (by decide)
 have NG:FnOk P w K mg base CX0 3 fG dG ["self"] (zgb P w CW):=(zf1 W.FG W.T B).mono (by decide)
 have NC:FnOk P w K mg base CX0 3 fC dC ["self"] (spCur P w CW):=(zha W.FC W.T B).mono (by decide)
 have NL:FnOk P w K mg base CX0 3 fL dL ["self","states"] (zcw P w K CW):=(zf3 W.FL W.T B W.FN W.bN W.mN).mono (by decide)
 obtain⟨tk,hlets⟩:=N.lets
 refine F.okE sc_sw (fun vs H Q E h=>?_) (fun cdv A outer s H vs Q E hr h=>?_)
 ·obtain⟨y,mm,v,u,rfl,_⟩:=h
  rfl
 ·obtain⟨y,mm,v,u,rfl,Mm,wf,hz,hv,hu,g⟩:=h
  refine⟨_,zc (zdv (i:=3) (te:=tCall spSwL [] E0 (tCons (tVar 6) (tCons (tVar 1) (tCons (tVar 2) tNil)))) (own:=[("letter",6)]) rfl sc_sw.nd rfl rfl (zek rfl rfl rfl (by decide +kernel))
     (zau rfl B.range (za (zx (v:=.int 16) rfl hlets ⟨tk,rfl⟩) zb)) (show zrz _ _ from zu (by decide +kernel)) (fun _ _ _ _ _=>zt (i:=6) sc_sw.nd rfl (ybk rfl)) (fun _ _ _ _ _=>zac)
     (fun _ _ _ _ _=>zi NS hr rfl GS.m GS.F.kp GS.b .nil pass0 (za (pv 6) (za (pv 1) (za (pv 2) zb)))))
   (zc (zz (i:=4) sc_sw.nd rfl (ybk rfl) (zc5 W.M NI hr rfl W.mg W.bI .nil pass0 (za zg zb)))
   (zc (zcz ydg (zfe (za6 (pv 4) W.T.cl W.mG NG hr W.bG .nil pass0))
    (zc (zz (i:=5) sc_sw.nd rfl (yc5 rfl) (zp ix_tup (zq (pv 0) rfl) (za6 (pv 4) W.T.cl W.mC NC hr W.bC .nil pass0) (fun _ _=>rfl)))
    (zf (zad (zai (pv 4) W.T.cl W.mL NL hr W.bL .nil pass0 (za (zaq (te:=tOp (rIxT K) (tVar 5) (tVar 6)) (own:=[("letter",6)]) rfl sc_sw.nd (zba (pv 3)) (show zrz _ _ from zu (by decide +kernel))
     (fun _ _ _ _ _=>zt (i:=6) sc_sw.nd rfl (ybk rfl)) (fun _ _ _ _ _=>zac) (fun _ _ _ _ _=>zp ix_tup (pv 5) (pv 6) (fun _ _=>rfl))) zb))))))
   (zf (zk (zi NM hr rfl GM.m GM.F.kp GM.b .nil zv (za (zaq (te:=tOp (rIxT K) (tFld K (tVar 0) "ends") (tVar 7)) (own:=[("state",7)]) rfl sc_sw.nd (zba (zq (pv 4) rfl)) (show zrz _ _ from zu (by decide +kernel))
     (fun _ _ _ _ _=>zt (i:=7) sc_sw.nd rfl (ybk rfl)) (fun _ _ _ _ _=>zac) (fun _ _ _ _ _=>zp ix_tup (zq (pv 0) rfl) (pv 7) (fun _ _=>rfl))) (za (zq (pv 4) rfl) zb))))))),?_⟩
  refine⟨_,rfl,by decide,by decide,fun q hqn=>?_⟩
  refine zc2 (n:=16) (idx:=6) (fun j z _=>z=nV (yd9 j v u)) (fun _ _ _ _ _ h=>h) hqn (by decide) (fun _=>rfl) (fun i H2 Q2 hi s2 q2=>?_) fun H1 acc s1 hq p2=>?_
  ·refine⟨_,rfl,_,rfl,_,rfl,i,v,u,?_,hi,hv,hu,q2 _ H2 rfl (Same.refl H2)⟩
   show [V.int (0+(i:Int)),nV v,nV u]=[nV i,nV v,nV u]
   rw[ygs]
   rfl
  have ea:=zak p2
  subst ea
  intro x dx hx hdx hne
  refine⟨.o,x,dx,[0],.int 0,rfl,zd,⟨by show 1<=1;decide,rfl⟩,fun H2 m n l W2 hml hm hn hl k2=>⟨rfl,?_⟩⟩
  obtain⟨s2,nw⟩:=zep hx hdx hne hm hn hl hml k2
  have hSN:=ztz mm.next.length
  have ht0:([0]:Told)∈SN mm.next.length:=zlh (q:=0) wf.pos
  refine zew (P:=P) (w:=w) (C:=CW) (step:=zit mm v u) (S:=SN mm.next.length) (most:=mm.size) (t0:=[0]) (d:=.o) (a:=x) (m:=m) (n:=n) (l:=l) (H0:=H1) (fun σ=>∃ r:Option V,σ=[some (.ref y),some (nV v),some (nV u),some (.ref q),some (.ref x),r,none,none]) ⟨none,rfl⟩ W2 s2
   ht0 (zgp wf hv hu) (by rw[hSN];exact yao _) ?_ ?_ ?_
  ·rintro σ H3 met leads Q3 ⟨r,rfl⟩ W3 h3
   obtain⟨dx3,o3⟩:=W3.obj
   exact⟨_,rfl,x,dx3,_,rfl,o3,zen _ _ _,.o,x,m,n,l,met,leads,rfl,W3,_,rfl,h3⟩
  ·rintro σ H3 met leads t N3 ⟨r,rfl⟩ s3 W3 htS ht hml' hll hN
   obtain⟨z,rfl,hz'⟩:=zni htS
   obtain⟨dx3,o3⟩:=W3.obj
   obtain⟨dm,em,lm,rsm,g1,g2,g3,g4,g5⟩:=(Mm.same (s1.trans s3)).row
   obtain⟨rr,hr1,hr2⟩:=zd0 g4 hz'
   refine⟨_,rfl,y,CM,dm,_,_,rfl,g1,TMm.cl,TMm.nL,zal _ _,?_⟩
   refine⟨_,rfl,x,dx3,_,rfl,o3,zdz _ _ _,.o,x,m,n,l,met,leads,[(z:Int)],rfl,W3,ht,fun uu huu=>?_⟩
   have hu2:uu = .int (z:Int):=huu.2
   subst hu2
   refine⟨lm,_,_,_,rfl,rfl,SqT.of g3,zm hr1,?_⟩
   refine⟨_,rfl,x,dx3,_,rfl,o3,zeo _ _ _,_,rfl,q,rfl,⟨_,SqL.of (s3 _ _ hq)⟩,fun D hD=>?_⟩
   refine zca (K:=K) (a:=q) (idx:=6) (fun j y' H'=>StAt H' .o (zit mm v u [(z:Int)] j) y') (fun _ _ _ _ k h=>h.keep k) hD (SqL.of (s3 _ _ hq)) (by rw[yab,ya5];decide) (fun _=>rfl) (fun i y' H4 Q4 hy' s4 q4=>?_) fun H4 acc s4 e4 p4=>?_
   ·obtain⟨j,hj,rfl⟩:=zcx hy'
    obtain⟨ei,hj16⟩:=zle hj
    subst ei
    have hc:=zo1 j hj16 v hv u hu
    refine⟨_,rfl,_,rfl,rr,_,_,_,rfl,rfl,SqT.of (s4 _ _ hr2),zm (zfy wf hz' hc),?_⟩
    refine q4 _ H4 ⟨yao _,?_⟩ (Same.refl H4)
    show nV (mm.on z (yd9 j v u))=V.int ((mm.on ((z:Int)).toNat (yd9 j v u):Nat):Int)
    rw[yan]
    rfl
   ·rw[yab,ya5]at p4
    show zcw P w K CW [.ref x,.ref D] H4 (fun _ H'=>N3 [some (.ref y),some (nV v),some (nV u),some (.ref q),some (.ref x),some (.ref rr),none,none] H') E0
    refine zeq (K:=K) nw s3 W3 hD s4 e4 p4 (S:=24) (by decide) (by omega) (by omega) fun H5 s5 W5=>?_
    exact hN _ H5 ⟨some (.ref rr),rfl⟩ s5 W5
  ·rintro σ H3 met leads ⟨r,rfl⟩ s3 W3 hml' hle hsub hfin
   obtain⟨dx3,o3⟩:=W3.obj
   obtain⟨vs,e3,q3⟩:=W3.mt
   have hlen:met.length=vs.length:=ybh q3
   refine⟨_,rfl,x,CW,dx3,_,_,rfl,o3,W.T.cl,W.T.nM,zb0 _ _ _,m,rfl,⟨_,SqL.of e3⟩,fun D hD=>?_⟩
   refine zca (K:=K) (a:=m) (idx:=7) (fun j z _=>z=bV ((met.map (swOk mm)).getD j false)) (fun _ _ _ _ _ h=>h) hD (SqL.of e3) (by omega) (fun _=>rfl) (fun i z H4 Q4 hz' s4 q4'=>?_) fun H4 acc s4 e5 p5=>?_
   ·obtain⟨t,ht⟩:∃ t,met[i]?=some t:=⟨_,yad (by have:=(yag.mp hz').1;omega)⟩
    obtain⟨z',hz2,sy⟩:=za2 q3 ht
    rw[hz']at hz2
    cases hz2
    obtain⟨k,rfl,hk⟩:=zni (hsub t (yat ht))
    have hy2:z = .int (k:Int):=sy.2
    subst hy2
    have hvv:(met.map (swOk mm)).getD i false=mm.end_ k:=MM.zw (by
     rw[yaj,ht]
     show some (mm.end_ ((k:Int)).toNat)=some (mm.end_ k)
     rw[yan])
    obtain⟨dm,em,lm,rsm,g1,g2,g3,g4,g5⟩:=(Mm.same ((s1.trans s3).trans s4)).row
    refine⟨_,rfl,y,CM,dm,_,_,rfl,g1,TMm.cl,TMm.nE,zbe _ _,_,rfl,em,_,_,_,rfl,rfl,SqT.of g2,zm (zis wf hk),?_⟩
    exact q4' _ H4 (by rw[hvv]) (Same.refl H4)
   ·have W4:=W3.same s4
    obtain⟨dx4,o4⟩:=W4.obj
    refine⟨_,rfl,x,CW,dx4,_,_,rfl,o4,W.T.cl,W.T.nL,zby _ _ _,?_⟩
    show zcm CM CS [.ref D,.ref l] H4 Q E
    rw[<- hlen]at p5
    exact zfx W3 (s1.trans s3) s4 e5 p5 (by omega) hle (hfin (swOk mm)) (zde (zgp wf hv hu) ht0 (by rw[hSN];exact yao _) _) g
end
end My
end
section
namespace My
open PySem PySem.Spec PyProof.Rows L2
open Rows (Told LETTERS)
section
variable {P:yav}{w:World}{K:yac}{mg:Str->Option Value}{base:Heap}
theorem zcn{C a dx:Addr}{H:Hp}(ha:H a=none)(hdx:H dx=none):Same H (upd (upd H dx (.own a)) a (.ins C dx [])):=fun b o e=>by
 rw[zh (zn e ha),zh (zn e hdx)]
 exact e
theorem zge{C a dx:Addr}{H H':Hp}(ha:H a=none)(hdx:H dx=none)(k:Keep [a] (upd (upd H dx (.own a)) a (.ins C dx [])) H'):Same H H':=fun b o e=>k b o (zcn ha hdx b o e) (by have:=zn e ha;simpa using this)
def spOth(CM:Addr):Sp:=fun vs H Q _=>∃(x:Addr) (m:yaf),vs=[.ref x]/\MachAt CM H x m/\m.ends.length<=1000/\∀ H' a,MachAt CM H' a (MM.neg m)->Same H H'->Q (.ref a) H'
theorem sc_oth:FnScope ["machine","end"] ["machine"] (ze zbu):=⟨rfl,rfl,rfl,by decide +kernel,rfl,by decide +kernel,by decide +kernel⟩
theorem z0a{f CM fI:Addr}{fd fdI:ya2}(F:Fun K "others_machine" "others_machine" zbu f fd)(B:TB mg)(MI:MkM K mg CM fI fdI):FnOk P w K mg base CX0 3 f fd ["machine"] (spOth CM):=by
 have NI:FnOk P w K mg base CX0 1 fI fdI ["self","ends","leads"] (zhb CM):=zhv MI.F MI.T B
 refine F.ok sc_oth (fun vs H Q E h=>?_) (fun cdv A outer s H vs Q E hr h=>?_)
 ·obtain⟨x,m,rfl,_⟩:=h
  rfl
 ·obtain⟨x,m,rfl,M,hl,k⟩:=h
  obtain⟨dm,em,lm,rsm,g1,g2,g3,g4,g5⟩:=M.row
  refine⟨_,zf (zk (zc5 MI.M NI hr rfl MI.T.mg MI.b .nil pass0 (za
    (zaq (te:=tOp (rI0 fun i j=>.int (i - j)) (tC (.int 1)) (tVar 1)) (own:=[("end",1)]) rfl sc_oth.nd (zd9 (zq (pv 0) rfl)) (show BlkOk ["machine","end"] (ze zbu) _ _ from zu (by decide +kernel)) (fun _ _ _ _ _=>zt (i:=1) sc_oth.nd rfl (ybk rfl)) (fun _ _ _ _ _=>zac)
     (fun _ _ _ _ _=>zaa zea zg (pv 1)))
    (za (zq (pv 0) rfl) zb)))),?_⟩
  refine⟨_,rfl,x,CM,dm,_,_,rfl,g1,MI.T.cl,MI.T.nE,zbe _ _,em,rfl,⟨_,SqT.of g2⟩,fun D hD=>?_⟩
  refine zee (K:=K) (a:=em) (idx:=1) (fun j y _=>y=bV (((MM.neg m).ends).getD j false)) (fun _ _ _ _ _ h=>h) hD (SqT.of g2) (by rw[yab];omega) (fun _=>rfl) (fun i z H4 Q4 hz s4 q4=>?_) fun H4 acc s4 e4 p4=>?_
  ·obtain⟨b,hb,rfl⟩:=zcx hz
   refine⟨_,rfl,_,_,rfl,rfl,?_⟩
   refine q4 _ H4 ?_ (Same.refl H4)
   rw[MM.zw (show((MM.neg m).ends)[i]?=some (!b) by show(m.ends.map _)[i]?=_;rw[yaj,hb];rfl)]
   cases b<;>rfl
  ·have ea:=zak p4
   have ea2:acc=(MM.neg m).ends.map bV:=by
    rw[ea]
    have:=za4 (MM.neg m).ends false bV
    rw[show(MM.neg m).ends.length=(m.ends.map bV).length by show(m.ends.map _).length=_;rw[yab,yab]]at this
    exact this
   refine⟨_,rfl,x,CM,dm,_,_,rfl,s4 _ _ g1,MI.T.cl,MI.T.nL,zal _ _,?_⟩
   intro y dy hy hdy hne
   refine⟨y,dy,D,lm,MM.neg m,rsm,rfl,zd,.inl (zcn hy hdy _ _ (by rw[<- ea2];exact e4)),.inr (zcn hy hdy _ _ (s4 _ _ g3)),(g4.keep (zan s4)).keep (zan (zcn hy hdy)),fun H5 M5 k5=>⟨rfl,?_⟩⟩
   exact k H5 y M5 (s4.trans (zge hy hdy k5))
def spEmp(CM:Addr):Sp:=fun vs H Q _=>vs=[]/\∀ H' a,MachAt CM H' a yh5->Same H H'->Q (.ref a) H'
theorem z0b:FnScope [] [] (ze zcs):=⟨rfl,rfl,rfl,by decide +kernel,rfl,by decide +kernel,by decide +kernel⟩
theorem z0c{f CM fI:Addr}{fd fdI:ya2}(F:Fun K "empty_machine" "empty_machine" zcs f fd)(B:TB mg)(N:TN mg)(MI:MkM K mg CM fI fdI):FnOk P w K mg base CX0 3 f fd [] (spEmp CM):=by
 have NI:FnOk P w K mg base CX0 1 fI fdI ["self","ends","leads"] (zhb CM):=zhv MI.F MI.T B
 obtain⟨tk,hlets⟩:=N.lets
 refine F.ok z0b (fun vs H Q E h=>?_) (fun cdv A outer s H vs Q E hr h=>?_)
 ·obtain⟨rfl,_⟩:=h
  rfl
 ·obtain⟨rfl,k⟩:=h
  refine⟨_,zf (zk (zc5 MI.M NI hr rfl MI.T.mg MI.b .nil pass0 (za (zy (za zg zb))
    (za (zy (za (zcp ze8 (by rfl) B.tuple (by decide +kernel) (za (zaa zzi (zy (za zg zb)) (zx (v:=.int 16) rfl hlets ⟨tk,rfl⟩)) zb)) zb)) zb)))),?_⟩
  have one:1<=yay:=by rw[ybr];decide
  refine⟨one,fun p hp=>⟨one,fun q hq=>⟨q,16,[.int 0],rfl,rfl,zd,by decide,by decide,(by rw[ybr];decide),fun r hrn=>⟨r,_,rfl,.inl zd,fun t H1 ht s1=>⟨one,fun l hl=>?_⟩⟩⟩⟩⟩
  intro y dy hy hdy hne
  have sp:Same H (upd H p (.lst [.int 0])):=Same.new hp
  have sq:=Same.new (o:=.lst [.int 0]) hq
  have sr:=Same.new (o:=.lst (yby (16:Int).toNat [V.int 0]).flatten) hrn
  have sl:=Same.new (o:=.lst [.ref t]) hl
  have s2:=((sq.trans sr).trans s1).trans sl
  have em:=zcn (C:=CM) hy hdy
  refine⟨y,dy,p,l,yh5,[t],rfl,zd,.inl (em _ _ (s2 _ _ zd)),.inl (em _ _ zd),.cons (em _ _ (sl _ _ ht)) .nil,fun H5 M5 k5=>⟨rfl,?_⟩⟩
  exact k H5 y M5 ((sp.trans s2).trans (zge hy hdy k5))
end
end My
end
section
namespace My
open PySem PySem.Spec PyProof.Rows L2
open Rows (Told LETTERS)
section
variable {K:yac}{a:Addr}{xs:List V}{te:TE}{vs:List Nat}{σ:L2.St}{H1:Hp}{D:Addr}{Qd:Hp->Prop}{j1 j2:Nat}
theorem zv9(R:Nat->V->Hp->Prop)(mono:zem R)(hD:H1 D=none)(hl:SqL K H1 a xs)(hn:xs.length<=1000000)(hw:∀ u v,wipe (((wipe σ vs).set j1 (some u)).set j2 (some v)) vs=wipe σ vs)(step:∀ i x H2,xs[i]?=some x->Same H1 H2->∃ p u v,x = .ref p/\SqT K H2 p [u,v]/\∀ Q:VK,(∀ y H3,R i y H3->Same H2 H3->Q y H3)->te (((wipe σ vs).set j1 (some u)).set j2 (some v)) H2 Q)(fin:∀ H2 acc,Same H1 H2->H2 D=some (.lst acc)->Paired (fun j y=>R j y H2) (yae xs.length) acc->Qd H2) :
  ∃ W:Nat->Nat->Hp->Prop,(∃ m,W 0 m (upd H1 D (.lst [])))/\∀ i m H,W i m H ->
   ((Itl K a).stop i H/\Qd H)\/((Itl K a).go i H/\∃ Nx:Hp->Prop,(∀ H',Nx H'->∃ m',m'<m/\W (i+1) m' H')/\∀ x H',(Itl K a).yld i H x H'->gTup K 2 (gCons (gName j1) (gCons (gName j2) gNil)) x (wipe σ vs) H' fun σ2 H2=>wipe σ2 vs=wipe σ vs/\tYes σ2 H2 fun b H3 =>
    if b=true then te σ2 H3 fun y H4=>∃ acc,H4 D=some (.lst acc)/\acc.length<yay/\Nx (upd H4 D (.lst (acc++[y]))) else Nx H3):=by
 refine zlx (K:=K) (a:=a) (xs:=xs) (fun i H2=>Same H1 H2/\∃ acc,H2 D=some (.lst acc)/\Paired (fun j y=>R j y H2) (yae i) acc) ⟨Same.new hD,[],zd,.nil⟩ (fun i H2 _ ⟨s2,_⟩=>s2.seq hl) (fun i x H2 hx p=>?_) fun H2 ⟨s2,acc,e,q⟩=>fin H2 acc s2 e q
 obtain⟨pp,u,v,rfl,hq,st⟩:=step i x H2 hx p.1
 refine⟨pp,[u,v],rfl,hq,rfl,u,[v],rfl,v,[],rfl,rfl,hw u v,?_⟩
 refine yes ?_
 exact zf4 mono hD (yag.mp hx).1 hn p st
theorem zwa{g:TG}{tt:TT}(Pv:Nat->Hp->Prop)(h0:Pv 0 (upd H1 D (.lst [])))(hl:∀ i H,i<=xs.length->Pv i H->SqT K H a xs)(hs:∀ i x H T,xs[i]?=some x->Pv i H->H T=none->g (.ref T) (wipe σ vs) (upd H T (.tup [.int (i:Nat),x])) fun σ2 H2=>wipe σ2 vs=wipe σ vs/\tt σ2 H2 fun b H3 =>
   if b=true then te σ2 H3 fun y H4=>∃ acc,H4 D=some (.lst acc)/\acc.length<yay/\Pv (i+1) (upd H4 D (.lst (acc++[y]))) else Pv (i+1) H3)(hd:∀ H,Pv xs.length H->Qd H) :
  ∃ W:Nat->Nat->Hp->Prop,(∃ m,W 0 m (upd H1 D (.lst [])))/\∀ i m H,W i m H ->
   ((IteT K a).stop i H/\Qd H)\/((IteT K a).go i H/\∃ Nx:Hp->Prop,(∀ H',Nx H'->∃ m',m'<m/\W (i+1) m' H')/\∀ x H',(IteT K a).yld i H x H'->g x (wipe σ vs) H' fun σ2 H2=>wipe σ2 vs=wipe σ vs/\tt σ2 H2 fun b H3 =>
    if b=true then te σ2 H3 fun y H4=>∃ acc,H4 D=some (.lst acc)/\acc.length<yay/\Nx (upd H4 D (.lst (acc++[y]))) else Nx H3):=by
 refine⟨fun i m H=>m=xs.length - i/\i<=xs.length/\Pv i H,⟨xs.length,by simp,ybj _,h0⟩,?_⟩
 rintro i m H ⟨rfl,hi,p⟩
 have q:=hl i H hi p
 by_cases hlt:i<xs.length
 ·refine .inr ⟨⟨xs,xs[i],q,by simp[hlt]⟩,Pv (i+1),fun H' p'=>⟨xs.length - (i+1),by omega,rfl,hlt,p'⟩,fun x H' y=>?_⟩
  obtain⟨T,x0,rfl,hT,rfl,hx⟩:=y
  exact hs i x0 H T (hx xs q) p hT
 ·obtain rfl:i=xs.length:=by omega
  exact .inl ⟨⟨xs,q,yao _⟩,hd H p⟩
theorem zwb(R:Nat->V->Hp->Prop)(mono:zem R)(hD:H1 D=none)(hl:SqT K H1 a xs)(hn:xs.length<=1000000)(hw:∀ u v,wipe (((wipe σ vs).set j1 (some u)).set j2 (some v)) vs=wipe σ vs)(step:∀ i x H2 (Q:VK),xs[i]?=some x->Same H1 H2->(∀ y H3,R i y H3->Same H2 H3->Q y H3)->te (((wipe σ vs).set j1 (some (nV i))).set j2 (some x)) H2 Q)(fin:∀ H2 acc,Same H1 H2->H2 D=some (.lst acc)->Paired (fun j y=>R j y H2) (yae xs.length) acc->Qd H2) :
  ∃ W:Nat->Nat->Hp->Prop,(∃ m,W 0 m (upd H1 D (.lst [])))/\∀ i m H,W i m H ->
   ((IteT K a).stop i H/\Qd H)\/((IteT K a).go i H/\∃ Nx:Hp->Prop,(∀ H',Nx H'->∃ m',m'<m/\W (i+1) m' H')/\∀ x H',(IteT K a).yld i H x H'->gTup K 2 (gCons (gName j1) (gCons (gName j2) gNil)) x (wipe σ vs) H' fun σ2 H2=>wipe σ2 vs=wipe σ vs/\tYes σ2 H2 fun b H3 =>
    if b=true then te σ2 H3 fun y H4=>∃ acc,H4 D=some (.lst acc)/\acc.length<yay/\Nx (upd H4 D (.lst (acc++[y]))) else Nx H3):=by
 refine zwa (K:=K) (a:=a) (xs:=xs) (fun i H2=>Same H1 H2/\∃ acc,H2 D=some (.lst acc)/\Paired (fun j y=>R j y H2) (yae i) acc) ⟨Same.new hD,[],zd,.nil⟩ (fun i H2 _ ⟨s2,_⟩=>zin s2 hl) (fun i x H2 T hx p hT=>?_) fun H2 ⟨s2,acc,e,q⟩=>fin H2 acc s2 e q
 refine⟨T,[nV i,x],rfl,SqT.of zd,rfl,nV i,[x],rfl,x,[],rfl,rfl,hw _ _,?_⟩
 refine yes ?_
 have sT:Same H2 (upd H2 T (.tup [.int (i:Nat),x])):=Same.new hT
 obtain⟨s2,acc,e,q⟩:=p
 refine zf4 mono hD (yag.mp hx).1 hn ⟨s2.trans sT,acc,sT _ _ e,ygq.mapP q fun j y r=>mono j y _ _ (zan sT) r⟩ fun Q hq=>?_
 exact step i x _ Q hx (s2.trans sT) hq
end
end My
end
section
namespace My
open PySem PySem.Spec PyProof.Rows L2
open Rows (Told LETTERS)
def zgf(m n:yaf)(t:Told)(c:Nat):Told:=[((m.on (t.getD 0 0).toNat c:Nat):Int),((n.on (t.getD 1 0).toNat c:Nat):Int)]
def joOk(op:Nat)(m n:yaf)(t:Told):Bool:=op.testBit (2*(if m.end_ (t.getD 0 0).toNat=true then 1 else 0)+(if n.end_ (t.getD 1 0).toNat=true then 1 else 0))
theorem zm4(op:Nat)(m n:yaf):yfo op m n=(yb0 (m.size*n.size) (zgf m n) (joOk op m n) [0,0]).least:=rfl
def SJ(a b:Nat):List Told:=(yae a).flatMap fun (p:Nat)=>(yae b).map fun (q:Nat)=>[(p:Int),(q:Int)]
theorem ziu{a b p q:Nat}(hp:p<a)(hq:q<b):([(p:Int),(q:Int)]:Told)∈SJ a b:=ygy.mpr ⟨p,yau.mpr hp,ya6.mpr ⟨q,yau.mpr hq,rfl⟩⟩
theorem znj{a b:Nat}{t:Told}(h:t∈SJ a b):∃ p q:Nat,t=[(p:Int),(q:Int)]/\p<a/\q<b:=by
 obtain⟨p,hp,h⟩:=ygy.mp h
 obtain⟨q,hq,rfl⟩:=ya6.mp h
 exact⟨p,q,rfl,yau.mp hp,yau.mp hq⟩
theorem ziv(a b:Nat):(SJ a b).length=a*b:=by
 unfold SJ
 rw[List.length_flatMap]
 simp only[yab,ya5]
 induction a with
 | zero=>simp
 | succ a ih=>rw[yc0,ya9,List.sum_append,ih,Nat.succ_mul];simp
theorem zgq{m n:yaf}(wm:MM.Wf m)(wn:MM.Wf n):∀ x∈SJ m.next.length n.next.length,∀ c,c<LETTERS->zgf m n x c∈SJ m.next.length n.next.length:=by
 intro x hx c hc
 obtain⟨p,q,rfl,hp,hq⟩:=znj hx
 exact ziu (wm.on_lt (show((p:Int)).toNat<_ by rw[yan];exact hp) hc) (wn.on_lt (show((q:Int)).toNat<_ by rw[yan];exact hq) hc)
def pj(op:Nat)(m n:yaf):yaf:=yb0 (m.size*n.size) (zgf m n) (joOk op m n) [0,0]
theorem znk{m n:yaf}(wm:MM.Wf m)(wn:MM.Wf n)(op:Nat):MM.Wf (pj op m n):=zde (zgq wm wn) (ziu (p:=0) (q:=0) wm.pos wn.pos) (by rw[ziv];exact yao _) _
theorem zt0{m n:yaf}(wm:MM.Wf m)(wn:MM.Wf n)(hm:m.next.length<=24)(hn:n.next.length<=24)(op:Nat):(pj op m n).next.length<=576:=by
 have h:=(MM.WalkAt.fin (zgq wm wn) (f:=m.size*n.size) (MM.WalkAt.start (ziu (p:=0) (q:=0) wm.pos wn.pos)) (by rw[ziv];exact yao _)).len
 rw[ziv]at h
 have:=yjy hm hn
 show(List.map _ _).length<=576
 rw[yab]
 exact ybq h this
theorem zwt{m n:yaf}(gm:MM.Good m)(gn:MM.Good n)(op:Nat):MM.Zr (pj op m n):=MM.zi9 (znk gm.wf gn.wf op) fun x hx=>by
 have hS:=MM.zfk (zgq gm.wf gn.wf) _ _ _ (fun y hy=>by rw[ya4.mp hy];exact ziu (p:=0) (q:=0) gm.wf.pos gn.wf.pos) x hx
 obtain⟨p,q,rfl,hp,hq⟩:=znj hS
 show op.testBit (2*(if m.end_ (m.on p 0)=true then 1 else 0)+(if n.end_ (n.on q 0)=true then 1 else 0))=op.testBit (2*(if m.end_ p=true then 1 else 0)+(if n.end_ q=true then 1 else 0))
 rw[gm.zr p hp,gn.zr q hq]
def zl5(CM:Addr):Sp:=fun vs H Q _=>∃(op:Nat) (x y:Addr) (m n:yaf),vs=[nV op,.ref x,.ref y]/\MachAt CM H x m/\MM.Wf m/\m.next.length<=24/\MachAt CM H y n/\MM.Wf n/\n.next.length<=24/\∀ H' a,MachAt CM H' a (pj op m n)->Same H H'->Q (.ref a) H'
theorem sc_pm:FnScope ["op","one","other","walk","pair","p","q"] ["op","one","other"] (ze zbm):=⟨rfl,rfl,rfl,by decide +kernel,rfl,by decide +kernel,by decide +kernel⟩
abbrev z02(own:List (Str × Nat))(scope:Scope):Prop:=BlkOk ["op","one","other","walk","pair","p","q"] (ze zbm) scope own
section
variable {P:yav}{w:World}{K:yac}{mg:Str->Option Value}{base:Heap}
def teJo(K:yac):TE:=tOp (rI0 fun i j=>.int (ycr i j)) (tOp (rI (fun _ j=>0<=j) fun i j=>.int (i / 2 ^ j.toNat)) (tVar 0) (tOp (rI0 fun i j=>.int (i+j)) (tOp (rI CMul fun i j=>.int (i*j)) (tC (.int 2)) (tOp (rIxT K) (tFld K (tVar 1) "ends") (tVar 5))) (tOp (rIxT K) (tFld K (tVar 2) "ends") (tVar 6)))) (tC (.int 1))
theorem zwu{f fJ CM CW fI fG fC fL fN:Addr}{fd dJ dI dG dC dL dN:ya2}(F:Fun K "pairs_machine" "pairs_machine" zbm f fd)(B:TB mg)(MI:MkM K mg CM fJ dJ)(W:MkW K mg CW fI fG fC fL fN dI dG dC dL dN) :
  FnOk P w K mg base CX0 3 f fd ["op","one","other"] (zl5 CM):=by
 have NJ:FnOk P w K mg base CX0 1 fJ dJ ["self","ends","leads"] (zhb CM):=zhv MI.F MI.T B
 have TMm:=MI.T
 have NI:FnOk P w K mg base CX0 1 fI dI ["self","start"] (ze6 P w CW):=ze7 W.FI W.T
 have NG:FnOk P w K mg base CX0 2 fG dG ["self"] (zgb P w CW):=(zf1 W.FG W.T B).mono (by decide)
 have NC:FnOk P w K mg base CX0 2 fC dC ["self"] (spCur P w CW):=(zha W.FC W.T B).mono (by decide)
 have NL:FnOk P w K mg base CX0 2 fL dL ["self","states"] (zcw P w K CW):=(zf3 W.FL W.T B W.FN W.bN W.mN).mono (by decide)
 refine F.ok sc_pm (fun vs H Q E h=>?_) (fun cdv A outer s H vs Q E hr h=>?_)
 ·obtain⟨op,x,y,m,n,rfl,_⟩:=h
  rfl
 ·obtain⟨op,x1,x2,m1,m2,rfl,M1,wf1,hz1,M2,wf2,hz2,g⟩:=h
  refine⟨_,zc (zz (i:=3) sc_pm.nd rfl (ybk rfl) (zc5 W.M NI hr rfl W.mg W.bI .nil pass0 (za (zh6 (za zg (za zg zb))) zb)))
   (zc (zcz yei (zfe (za6 (pv 3) W.T.cl W.mG NG hr W.bG .nil pass0))
    (zc (zz (i:=4) sc_pm.nd rfl (ybk rfl) (za6 (pv 3) W.T.cl W.mC NC hr W.bC .nil pass0))
    (zf (zad (zai (pv 3) W.T.cl W.mL NL hr W.bL .nil pass0 (za (zrs rfl rfl B.list rfl B.zip (za (zp ix_tup (zq (pv 1) rfl) (zp ix_tup (pv 4) zg (fun _ _=>rfl)) (fun _ _=>rfl)) (za (zp ix_tup (zq (pv 2) rfl) (zp ix_tup (pv 4) zg (fun _ _=>rfl)) (fun _ _=>rfl)) zb))) zb))))))
   (zf (zk (zc5 MI.M NJ hr rfl MI.T.mg MI.b .nil pass0 (za (zaq (g:=gTup K 2 (gCons (gName 5) (gCons (gName 6) gNil))) (te:=teJo K) (own:=[("p",5),("q",6)]) rfl sc_pm.nd
     (zba (zq (pv 3) rfl)) (show z02 _ _ from zu (by decide +kernel)) (fun _ _ _ _ _=>zh3 rfl (zcy (zt (i:=5) sc_pm.nd rfl (ybk rfl) (yc5 rfl)) (zcy (zt (i:=6) sc_pm.nd rfl (ybk rfl) (yc5 rfl)) zgy))) (fun _ _ _ _ _=>zac)
     (fun _ _ _ _ _=>zaa zg1 (zaa zf7 (pv 0) (zaa zkc (zaa zgz zg (zp ix_tup (zq (pv 1) rfl) (pv 5) (fun _ _=>rfl))) (zp ix_tup (zq (pv 2) rfl) (pv 6) (fun _ _=>rfl)))) zg)) (za (zq (pv 3) rfl) zb)))))),?_⟩
  refine⟨(by show 2<=yay;rw[ybr];decide),fun pt hpt=>?_⟩
  have spt:Same H (upd H pt (.tup [.int 0,.int 0])):=Same.new hpt
  intro x dx hx hdx hne
  have hpt2:(upd (upd (upd H pt (.tup [.int 0,.int 0])) dx (.own x)) x (.ins CW dx [])) pt=some (.tup [.int 0,.int 0]):=zcn hx hdx _ _ zd
  refine⟨.f,x,dx,[0,0],.ref pt,rfl,zd,⟨trivial,pt,rfl,hpt2⟩,fun H2 m n l W2 hml hm hn hl k2=>⟨rfl,?_⟩⟩
  obtain⟨s2',nw'⟩:=zep hx hdx hne hm hn hl hml k2
  have s2:Same H H2:=spt.trans s2'
  have nw:NewW H x m n l:=⟨spt.free nw'.ha,spt.free nw'.hm,spt.free nw'.hn,spt.free nw'.hl,nw'.ml⟩
  have hSJ:(SJ m1.next.length m2.next.length).length=m1.size*m2.size:=ziv _ _
  have h576:(SJ m1.next.length m2.next.length).length<=576:=by
   rw[ziv]
   exact ybq (yjy hz1 hz2) (by decide)
  have ht0:([0,0]:Told)∈SJ m1.next.length m2.next.length:=ziu (p:=0) (q:=0) wf1.pos wf2.pos
  refine zew (P:=P) (w:=w) (C:=CW) (step:=zgf m1 m2) (S:=SJ m1.next.length m2.next.length) (most:=m1.size*m2.size) (t0:=[0,0]) (d:=.f) (a:=x) (m:=m) (n:=n) (l:=l) (H0:=H) (fun σ=>∃ v:Option V,σ=[some (nV op),some (.ref x1),some (.ref x2),some (.ref x),v,none,none]) ⟨none,rfl⟩ W2 s2
   ht0 (zgq wf1 wf2) (by rw[hSJ];exact yao _) ?_ ?_ ?_
  ·rintro σ H3 met leads Q3 ⟨v,rfl⟩ W3 h3
   obtain⟨dx3,o3⟩:=W3.obj
   exact⟨_,rfl,x,dx3,_,rfl,o3,zen _ _ _,.f,x,m,n,l,met,leads,rfl,W3,_,rfl,h3⟩
  ·rintro σ H3 met leads t N3 ⟨v,rfl⟩ s3 W3 htS ht hml' hll hN
   obtain⟨z1,z2,rfl,hp1,hp2⟩:=znj htS
   obtain⟨dx3,o3⟩:=W3.obj
   refine⟨_,rfl,x,dx3,_,rfl,o3,zdz _ _ _,.f,x,m,n,l,met,leads,[(z1:Int),(z2:Int)],rfl,W3,ht,fun u hu=>?_⟩
   obtain⟨u0,rfl,hu0⟩:=hu.2
   obtain⟨d1,e1,l1,rs1,g1,g2,g3,g4,g5⟩:=(M1.same s3).row
   obtain⟨d2,e2,l2,rs2,j1,j2,j3,j4,j5⟩:=(M2.same s3).row
   obtain⟨r1,hr1,hw1⟩:=zd0 g4 hp1
   obtain⟨r2,hr2,hw2⟩:=zd0 j4 hp2
   refine⟨_,rfl,x,dx3,_,rfl,o3,zeo _ _ _,_,rfl,x1,CM,d1,_,_,rfl,g1,TMm.cl,TMm.nL,zal _ _,_,rfl,u0,_,_,_,rfl,rfl,SqT.of hu0,rfl,l1,_,_,_,rfl,rfl,SqT.of g3,zm hr1,?_⟩
   refine⟨_,rfl,x2,CM,d2,_,_,rfl,j1,TMm.cl,TMm.nL,zal _ _,_,rfl,u0,_,_,_,rfl,rfl,SqT.of hu0,rfl,l2,_,_,_,rfl,rfl,SqT.of j3,zm hr2,?_⟩
   have n1:((m1.next.getD z1 []).map nV).length=16:=by rw[yab,wf1.row hp1];rfl
   have n2:((m2.next.getD z2 []).map nV).length=16:=by rw[yab,wf2.row hp2];rfl
   refine⟨r1,r2,_,_,rfl,SqT.of hw1,SqT.of hw2,by rw[n1,n2],by rw[n1];decide,by rw[n1,ybr];decide,fun H4 D Ts s4 e4 pT hD=>?_⟩
   have p4:Paired (fun j y'=>StAt H4 .f (zgf m1 m2 [(z1:Int),(z2:Int)] j) y') (yae LETTERS) (Ts.map V.ref):=by
    have hT:Ts.length=16:=by rw[ybh pT,zhu (by rw[n1,n2]),n1]
    refine zfu (by rw[ya5,yab,hT];rfl) fun j c y' ec ey=>?_
    obtain⟨ei,hj⟩:=zle ec
    subst ei
    obtain⟨T,eT,rfl⟩:=zcx ey
    obtain⟨pv,ep,hpv⟩:=za2 pT eT
    rw[zeu (zfy wf1 hp1 hj) (zfy wf2 hp2 hj)]at ep
    cases ep
    refine⟨trivial,T,rfl,?_⟩
    show H4 T=some (.tup [.int ((m1.on ((z1:Int)).toNat c:Nat):Int),.int ((m2.on ((z2:Int)).toNat c:Nat):Int)])
    rw[yan,yan]
    exact hpv
   show zcw P w K CW [.ref x,.ref D] H4 (fun _ H'=>N3 [some (nV op),some (.ref x1),some (.ref x2),some (.ref x),some (.ref u0),none,none] H') E0
   refine zeq (K:=K) nw s3 W3 hD s4 e4 p4 (S:=576) (by decide) (by omega) (by omega) fun H5 s5 W5=>?_
   exact hN _ H5 ⟨some (.ref u0),rfl⟩ s5 W5
  ·rintro σ H3 met leads ⟨v,rfl⟩ s3 W3 hml' hle hsub hfin
   obtain⟨dx3,o3⟩:=W3.obj
   obtain⟨vs,e3,q3⟩:=W3.mt
   have hlen:met.length=vs.length:=ybh q3
   refine⟨_,rfl,x,CW,dx3,_,_,rfl,o3,W.T.cl,W.T.nM,zb0 _ _ _,m,rfl,⟨_,SqL.of e3⟩,fun D hD=>?_⟩
   refine zv9 (K:=K) (a:=m) (j1:=5) (j2:=6) (te:=teJo K) (fun j z _=>z=bV ((met.map (joOk op m1 m2)).getD j false)) (fun _ _ _ _ _ h=>h) hD (SqL.of e3) (by omega) (fun _ _=>rfl) (fun i z H4 hz' s4=>?_) fun H4 acc s4 e5 p5=>?_
   ·obtain⟨t,ht⟩:∃ t,met[i]?=some t:=⟨_,yad (by have:=(yag.mp hz').1;omega)⟩
    obtain⟨z',hz2',sy⟩:=za2 q3 ht
    rw[hz']at hz2'
    cases hz2'
    obtain⟨k1,k2,rfl,hk1,hk2⟩:=znj (hsub t (yat ht))
    obtain⟨u0,rfl,hu0⟩:=sy.2
    refine⟨u0,.int (k1:Int),.int (k2:Int),rfl,SqT.of (s4 _ _ hu0),fun Q4 q4'=>?_⟩
    have hvv:(met.map (joOk op m1 m2)).getD i false=op.testBit (2*(if m1.end_ k1=true then 1 else 0)+(if m2.end_ k2=true then 1 else 0)):=MM.zw (by
     rw[yaj,ht]
     show some (op.testBit (2*(if m1.end_ ((k1:Int)).toNat=true then 1 else 0)+(if m2.end_ ((k2:Int)).toNat=true then 1 else 0)))=_
     rw[yan,yan])
    obtain⟨d1,e1,l1,rs1,g1,g2,g3,g4,g5⟩:=(M1.same (s3.trans s4)).row
    obtain⟨d2,e2,l2,rs2,j1,j2,j3,j4,j5⟩:=(M2.same (s3.trans s4)).row
    refine⟨_,rfl,_,rfl,x1,CM,d1,_,_,rfl,g1,TMm.cl,TMm.nE,zbe _ _,_,rfl,e1,_,_,_,rfl,rfl,SqT.of g2,zm (zis wf1 hk1),?_⟩
    have cm:∀ b:Bool,CMul 2 (if b=true then 1 else 0):=fun b=>by cases b<;>exact .inl ⟨by decide,by decide⟩
    refine⟨_,_,rfl,rfl,cm _,_,rfl,x2,CM,d2,_,_,rfl,j1,TMm.cl,TMm.nE,zbe _ _,_,rfl,e2,_,_,_,rfl,rfl,SqT.of j2,zm (zis wf2 hk2),_,_,rfl,rfl,?_⟩
    have ec:(2:Int)*(if m1.end_ k1=true then 1 else 0)+(if m2.end_ k2=true then 1 else 0)=((2*(if m1.end_ k1=true then 1 else 0)+(if m2.end_ k2=true then 1 else 0):Nat):Int):=by
     cases m1.end_ k1<;>cases m2.end_ k2<;>rfl
    refine⟨_,_,rfl,rfl,(by show(0:Int)<=(2:Int)*(if m1.end_ k1=true then 1 else 0)+(if m2.end_ k2=true then 1 else 0);rw[ec];exact yca _),_,_,rfl,rfl,?_⟩
    refine q4' _ H4 ?_ (Same.refl H4)
    rw[hvv]
    show V.int (ycr ((op:Int) / 2 ^ ((2:Int)*(if m1.end_ k1=true then 1 else 0)+(if m2.end_ k2=true then 1 else 0)).toNat) 1)=_
    rw[ec,yan,ze9]
    rfl
   ·have W4:=W3.same s4
    obtain⟨dx4,o4⟩:=W4.obj
    obtain⟨rs,e6,q6⟩:=W3.lds
    have ea:=zak p5
    have ea2:acc=(met.map (joOk op m1 m2)).map bV:=by
     rw[ea,<- hlen]
     have:=za4 (met.map (joOk op m1 m2)) false bV
     rw[yab]at this
     exact this
    have em:pj op m1 m2=⟨leads,met.map (joOk op m1 m2)⟩:=hfin (joOk op m1 m2)
    refine⟨_,rfl,x,CW,dx4,_,_,rfl,o4,W.T.cl,W.T.nL,zby _ _ _,?_⟩
    intro y dy hy hdy hne'
    refine⟨y,dy,D,l,pj op m1 m2,rs,rfl,zd,.inl (zcn hy hdy _ _ (by rw[em,<- ea2];exact e5)),.inl (zcn hy hdy _ _ (s4 _ _ e6)),?_,fun H5 M5 k5=>⟨rfl,?_⟩⟩
    ·rw[em]
     exact(q6.keep (zan s4)).keep (zan (zcn hy hdy))
    ·exact g H5 y M5 ((s3.trans s4).trans (zge hy hdy k5))
def spJo(CM CS:Addr):Sp:=fun vs H Q E=>∃(op:Nat) (x y:Addr) (m n:yaf),vs=[nV op,.ref x,.ref y]/\MachAt CM H x m/\MM.Wf m/\m.next.length<=24/\MachAt CM H y n/\MM.Wf n/\n.next.length<=24/\Gives CM CS H (yfo op m n) Q E
theorem sc_jo:FnScope ["op","one","other","pairs"] ["op","one","other"] (ze zcd):=⟨rfl,rfl,rfl,by decide +kernel,rfl,by decide +kernel,by decide +kernel⟩
theorem z03{f fP fM CS CM CW fJ fI fG fC fL fN:Addr}{fd fdP fdM dJ dI dG dC dL dN:ya2}(F:Fun K "joined_machine" "joined_machine" zcd f fd)(B:TB mg)(MI:MkM K mg CM fJ dJ)(GP:Gf K mg "pairs_machine" zbm ["op","one","other"] fP fdP)(GM:Gf K mg "least_machine" zam ["ends","leads"] fM fdM)(NM:FnOk P w K mg base (CXE P w) 3 fM fdM ["ends","leads"] (zcm CM CS))(W:MkW K mg CW fI fG fC fL fN dI dG dC dL dN) :
  FnOk P w K mg base (CXE P w) 4 f fd ["op","one","other"] (spJo CM CS):=by
 have NP:FnOk P w K mg base CX0 3 fP fdP ["op","one","other"] (zl5 CM):=zwu GP.F B MI W
 refine F.okE sc_jo (fun vs H Q E h=>?_) (fun cdv A outer s H vs Q E hr h=>?_)
 ·obtain⟨op,x,y,m,n,rfl,_⟩:=h
  rfl
 ·obtain⟨op,x1,x2,m1,m2,rfl,M1,wf1,hz1,M2,wf2,hz2,g⟩:=h
  refine⟨_,zc (zz (i:=3) sc_jo.nd rfl (ybk rfl) (zi NP hr rfl GP.m GP.F.kp GP.b .nil pass0 (za (pv 0) (za (pv 1) (za (pv 2) zb)))))
   (zf (zk (zi NM hr rfl GM.m GM.F.kp GM.b .nil zv (za (zq (pv 3) rfl) (za (zq (pv 3) rfl) zb))))),?_⟩
  refine⟨_,rfl,_,rfl,_,rfl,op,x1,x2,m1,m2,rfl,M1,wf1,hz1,M2,wf2,hz2,fun H1 a M s1=>?_⟩
  obtain⟨d,e,l,rs,g1,g2,g3,g4,g5⟩:=M.row
  refine⟨_,rfl,a,CM,d,_,_,rfl,g1,MI.T.cl,MI.T.nE,zbe _ _,_,rfl,a,CM,d,_,_,rfl,g1,MI.T.cl,MI.T.nL,zal _ _,?_⟩
  exact⟨true,e,l,pj op m1 m2,rs,rfl,g2,g3,g4,znk wf1 wf2 op,by have:=zt0 wf1 wf2 hz1 hz2 op;omega,fun H5 q M5 h24 s5=>g.1 H5 q M5 h24 (s1.trans s5),fun H5 h24 s5=>g.2 H5 h24 (s1.trans s5)⟩
end
end My
end
section
namespace My
open PySem PySem.Spec PyProof.Rows L2
open Rows (Told LETTERS)
theorem zo2:∀{l r:List Int},l.Pairwise (· < ·)->r.Pairwise (· < ·)->(∀ x,x∈l<->x∈r)->l=r
 | [],[],_,_,_=>rfl
 | [],b::r,_,_,h=>absurd ((h b).mpr yaq) (by simp)
 | a::l,[],_,_,h=>absurd ((h a).mp yaq) (by simp)
 | a::l,b::r,hl,hr,h=>by
  obtain⟨l1,l2⟩:=yeq.mp hl
  obtain⟨r1,r2⟩:=yeq.mp hr
  have e:a=b:=by
   rcases yap.mp ((h a).mp yaq) with e | m
   ·exact e
   ·rcases yap.mp ((h b).mpr yaq) with e' | m'
    ·exact e'.symm
    ·have:=r1 a m
     have:=l1 b m'
     omega
  subst e
  refine congrArg (a :: ·) (zo2 l2 r2 fun x=>?_)
  constructor
  ·intro m
   rcases yap.mp ((h x).mp (yam _ m)) with e | m'
   ·have:=l1 x m
    omega
   ·exact m'
  ·intro m
   rcases yap.mp ((h x).mpr (yam _ m)) with e | m'
   ·have:=r1 x m
    omega
   ·exact m'
theorem zl6{l:List Int}(h:l.Pairwise (· <= ·))(hn:l.Nodup):l.Pairwise (· < ·):=by
 induction l with
 | nil=>exact yk5
 | cons a l ih =>
  obtain⟨h1,h2⟩:=yeq.mp h
  obtain⟨n1,n2⟩:=ydy.mp hn
  refine yeq.mpr ⟨fun x hx=>?_,ih h2 n2⟩
  have:=h1 x hx
  have ne:a≠x:=fun e=>n1 (e ▸ hx)
  omega
structure Sub(n:Nat)(t:Told):Prop where
 ne:t≠[]
 lt:t.Pairwise (· < ·)
 inn:∀ x∈t,∃ q:Nat,x=(q:Int)/\q<n
theorem Sub.len{n:Nat}{t:Told}(h:Sub n t):t.length<=n:=by
 have:=MM.ze0 (l:=t) (S:=(yae n).map fun (q:Nat)=>(q:Int)) (h.lt.imp fun h=>by omega) fun x hx=>by
  obtain⟨q,rfl,hq⟩:=h.inn x hx
  exact ya6.mpr ⟨q,yau.mpr hq,rfl⟩
 rw[yab,ya5]at this
 exact this
def picks:Nat->List Told
 | 0=>[[]]
 | n+1=>picks n++(picks n).map fun t=>t++[(n:Int)]
theorem zhx(p:Nat->Bool):∀ n,((yae n).filter p).map (fun (q:Nat)=>(q:Int))∈picks n
 | 0=>by simp[picks]
 | n+1=>by
  rw[yc0,yhm]
  unfold picks
  by_cases h:p n=true
  ·refine yce _ (ya6.mpr ⟨_,zhx p n,?_⟩)
   rw[yd2,if_pos h,ya9]
   rfl
  ·refine ycu _ ?_
   rw[yd2,if_neg h]
   simpa using zhx p n
theorem zt1(n:Nat)(p:Nat->Bool):(((yae n).filter p).map (fun (q:Nat)=>(q:Int))).Pairwise (· < ·):=by
 refine List.pairwise_map.mpr ?_
 refine(List.Pairwise.filter p (ygc (n:=n))).imp fun h=>by omega
theorem zwc{n:Nat}{p:Nat->Bool}{q:Nat}(hq:q<n)(hp:p q=true):Sub n (((yae n).filter p).map (fun (q:Nat)=>(q:Int))):=by
 refine⟨fun z=>?_,zt1 n p,fun x hx=>?_⟩
 ·have:(q:Int)∈((yae n).filter p).map (fun (q:Nat)=>(q:Int)):=ya6.mpr ⟨q,ybu.mpr ⟨yau.mpr hq,hp⟩,rfl⟩
  rw[z]at this
  cases this
 ·obtain⟨k,hk,rfl⟩:=ya6.mp hx
  exact⟨k,rfl,yau.mp (ybu.mp hk).1⟩
theorem zt2{n:Nat}{t:Told}(h:Sub n t):t∈picks n:=by
 have e:t=((yae n).filter fun (q:Nat)=>decide ((q:Int)∈t)).map (fun (q:Nat)=>(q:Int)):=by
  refine zo2 h.lt (zt1 n _) fun x=>?_
  constructor
  ·intro m
   obtain⟨q,rfl,hq⟩:=h.inn x m
   exact ya6.mpr ⟨q,ybu.mpr ⟨yau.mpr hq,decide_eq_true m⟩,rfl⟩
  ·intro m
   obtain⟨q,hq,rfl⟩:=ya6.mp m
   exact of_decide_eq_true (ybu.mp hq).2
 rw[e]
 exact zhx _ n
theorem zl7:∀ c<16,∀ v<4,ycp c v<16:=by decide +kernel
theorem zo3:∀ c<16,∀ v<4,yd6 ((c:Nat):Int) ((2 ^ v:Nat):Int)=((ycp c v:Nat):Int):=by decide +kernel
theorem zli{m:yaf}(wf:MM.Wf m){v c:Nat}(hc:c<LETTERS){t:Told}(h:Sub m.next.length t):Sub m.next.length (yb3 m v t c):=by
 obtain⟨x,hx⟩:∃ x,x∈t:=by
  cases t with
  | nil=>exact absurd rfl h.ne
  | cons a r=>exact⟨a,yaq⟩
 obtain⟨q,rfl,hq⟩:=h.inn x hx
 refine zwc (q:=m.on q c) (wf.on_lt hq hc) ?_
 rw[ydb]
 exact⟨_,hx,by simp⟩
theorem zlj{m:yaf}(wf:MM.Wf m){v c:Nat}(hv:v<4)(hc:c<LETTERS){t:Told}(h:Sub m.next.length t)(x:Int) :
  x∈yb3 m v t c<->x∈(t.map fun p=>((m.on p.toNat c:Nat):Int))++(t.map fun p=>((m.on p.toNat (ycp c v):Nat):Int)):=by
 rw[yb1,ya6,ya6]
 unfold yb3
 rw[ya6]
 constructor
 ·rintro⟨q,hq,rfl⟩
  obtain⟨p,hp,e⟩:=ydb.mp (ybu.mp hq).2
  rcases yfx.mp e with e | e
  ·exact .inl ⟨p,hp,by rw[beq_iff_eq.mp e]⟩
  ·exact .inr ⟨p,hp,by rw[beq_iff_eq.mp e]⟩
 ·have lt:∀ p∈t,∀ d,d<LETTERS->m.on p.toNat d<m.size:=fun p hp d hd=>by
   obtain⟨q,rfl,hq⟩:=h.inn p hp
   exact wf.on_lt (show((q:Int)).toNat<_ by rw[yan];exact hq) hd
  rintro (⟨p,hp,rfl⟩|⟨p,hp,rfl⟩)
  ·exact⟨_,ybu.mpr ⟨yau.mpr (lt p hp c hc),ydb.mpr ⟨p,hp,by simp⟩⟩,rfl⟩
  ·exact⟨_,ybu.mpr ⟨yau.mpr (lt p hp _ (zl7 c hc v hv)),ydb.mpr ⟨p,hp,by simp⟩⟩,rfl⟩
section
variable {P:yav}{w:World}{K:yac}{mg:Str->Option Value}{base:Heap}
def spLew(CM:Addr):Sp:=fun vs H Q _=>∃(x p:Addr) (m:yaf) (t:Told) (c v:Nat),vs=[.ref x,.ref p,nV c,nV (2 ^ v)]/\MachAt CM H x m/\MM.Wf m/\m.next.length<=24/\H p=some (.tup (t.map V.int))/\Sub m.next.length t/\c<16/\v<4 /\
 ∀ H' q,H' q=some (.tup ((yb3 m v t c).map V.int))->Same H H'->Q (.ref q) H'
theorem sc_lew:FnScope ["machine","states","letter","bit","without","exchanged","state"] ["machine","states","letter","bit"] (ze zbt):=⟨rfl,rfl,rfl,by decide +kernel,rfl,by decide +kernel,by decide +kernel⟩
abbrev zt3(own:List (Str × Nat))(scope:Scope):Prop:=BlkOk ["machine","states","letter","bit","without","exchanged","state"] (ze zbt) scope own
def zt4(K:yac):TE:=tOp (rIxT K) (tOp (rIxT K) (tFld K (tVar 0) "leads") (tVar 6)) (tVar 2)
def zt5(K:yac):TE:=tOp (rIxT K) (tOp (rIxT K) (tFld K (tVar 0) "leads") (tVar 6)) (tOp (rI0 fun i j=>.int (yd6 i j)) (tVar 2) (tVar 3))
theorem z0d{f CM:Addr}{fd:ya2}(F:Fun K "led_either_way" "led_either_way" zbt f fd)(B:TB mg)(TMm:TM K mg CM):FnOk P w K mg base CX0 1 f fd ["machine","states","letter","bit"] (spLew CM):=by
 refine F.ok sc_lew (fun vs H Q E h=>?_) (fun cdv A outer s H vs Q E hr h=>?_)
 ·obtain⟨x,p,m,t,c,v,rfl,_⟩:=h
  rfl
 ·obtain⟨x,p,m,t,c,v,rfl,M,wf,hz,hp,ht,hc,hv,k⟩:=h
  refine⟨_,zc (zdv (i:=4) (te:=zt4 K) (own:=[("state",6)]) rfl sc_lew.nd rfl rfl (zek rfl rfl rfl (by decide +kernel)) (zd9 (pv 1)) (show zt3 _ _ from zu (by decide +kernel)) (fun _ _ _ _ _=>zt (i:=6) sc_lew.nd rfl (ybk rfl)) (fun _ _ _ _ _=>zac)
     (fun _ _ _ _ _=>zp ix_tup (zp ix_tup (zq (pv 0) rfl) (pv 6) (fun _ _=>rfl)) (pv 2) (fun _ _=>rfl)))
   (zc (zdv (i:=5) (te:=zt5 K) (own:=[("state",6)]) rfl sc_lew.nd rfl rfl (zek rfl rfl rfl (by decide +kernel)) (zd9 (pv 1)) (show zt3 _ _ from zu (by decide +kernel)) (fun _ _ _ _ _=>zt (i:=6) sc_lew.nd rfl (ybk rfl)) (fun _ _ _ _ _=>zac)
     (fun _ _ _ _ _=>zp ix_tup (zp ix_tup (zq (pv 0) rfl) (pv 6) (fun _ _=>rfl)) (zaa zkd (pv 2) (pv 3)) (fun _ _=>rfl)))
   (zf (zk (zcp ze8 (by rfl) B.tuple (by decide +kernel) (za (zaf (zk8 rfl) (by rfl) B.sorted (by decide +kernel) (za (zcp (zvj rfl) (by rfl) B.set (by decide +kernel) (za (zaa znv (pv 4) (pv 5)) zb)) zb)) zb))))),?_⟩
  have hlen:(t.map V.int).length=t.length:=yab _
  have h24:t.length<=24:=ybq ht.len hz
  have it:∀{i:Nat} {y:V},(t.map V.int)[i]?=some y->∃ q:Nat,y = .int (q:Int)/\q<m.next.length/\t[i]?=some (q:Int):=fun {i y} e=>by
   obtain⟨z,ez,rfl⟩:=zcx e
   obtain⟨q,rfl,hq⟩:=ht.inn z (yat ez)
   exact⟨q,rfl,hq,ez⟩
  refine⟨_,rfl,p,rfl,⟨_,SqT.of hp⟩,fun D1 hD1=>?_⟩
  refine zee (K:=K) (a:=p) (idx:=6) (te:=zt4 K) (fun j y _=>y = .int ((t.map fun p=>((m.on p.toNat c:Nat):Int)).getD j 0)) (fun _ _ _ _ _ h=>h) hD1 (SqT.of hp) (by omega) (fun _=>rfl) (fun i y H2 Q2 hy s2 q2=>?_) fun H2 acc s2 e2 p2=>?_
  ·obtain⟨q,rfl,hq,et⟩:=it hy
   obtain⟨dm,em,lm,rsm,g1,g2,g3,g4,g5⟩:=(M.same s2).row
   obtain⟨r,hr1,hr2⟩:=zd0 g4 hq
   refine⟨_,rfl,x,CM,dm,_,_,rfl,g1,TMm.cl,TMm.nL,zal _ _,_,rfl,lm,_,_,_,rfl,rfl,SqT.of g3,zm hr1,_,rfl,r,_,_,_,rfl,rfl,SqT.of hr2,zm (zfy wf hq hc),?_⟩
   refine q2 _ H2 ?_ (Same.refl H2)
   rw[MM.zw (show(t.map fun p=>((m.on p.toNat c:Nat):Int))[i]?=some ((m.on q c:Nat):Int) by rw[yaj,et];show some ((m.on ((q:Int)).toNat c:Nat):Int)=_;rw[yan])]
   rfl
  have ea:=zak p2
  have ea2:acc=(t.map fun p=>((m.on p.toNat c:Nat):Int)).map V.int:=by
   rw[ea]
   have:=za4 (t.map fun p=>((m.on p.toNat c:Nat):Int)) 0 V.int
   rw[yab]at this
   rw[hlen]
   exact this
  refine⟨_,rfl,p,rfl,⟨_,SqT.of (s2 _ _ hp)⟩,fun D2 hD2=>?_⟩
  refine zee (K:=K) (a:=p) (idx:=6) (te:=zt5 K) (fun j y _=>y = .int ((t.map fun p=>((m.on p.toNat (ycp c v):Nat):Int)).getD j 0)) (fun _ _ _ _ _ h=>h) hD2 (SqT.of (s2 _ _ hp)) (by omega) (fun _=>rfl) (fun i y H3 Q3 hy s3 q3=>?_) fun H3 acc3 s3 e3 p3=>?_
  ·obtain⟨q,rfl,hq,et⟩:=it hy
   obtain⟨dm,em,lm,rsm,g1,g2,g3,g4,g5⟩:=(M.same (s2.trans s3)).row
   obtain⟨r,hr1,hr2⟩:=zd0 g4 hq
   have ht16:=zl7 c hc v hv
   refine⟨_,rfl,x,CM,dm,_,_,rfl,g1,TMm.cl,TMm.nL,zal _ _,_,rfl,lm,_,_,_,rfl,rfl,SqT.of g3,zm hr1,_,rfl,_,rfl,_,_,rfl,rfl,r,_,_,nV (m.on q (ycp c v)),rfl,rfl,SqT.of hr2,(by rw[zo3 c hc v hv];exact zm (zfy wf hq ht16)),?_⟩
   refine q3 _ H3 ?_ (Same.refl H3)
   rw[MM.zw (show(t.map fun p=>((m.on p.toNat (ycp c v):Nat):Int))[i]?=some ((m.on q (ycp c v):Nat):Int) by rw[yaj,et];show some ((m.on ((q:Int)).toNat (ycp c v):Nat):Int)=_;rw[yan])]
   rfl
  have eb:=zak p3
  have eb2:acc3=(t.map fun p=>((m.on p.toNat (ycp c v):Nat):Int)).map V.int:=by
   rw[eb]
   have:=za4 (t.map fun p=>((m.on p.toNat (ycp c v):Nat):Int)) 0 V.int
   rw[yab]at this
   rw[hlen]
   exact this
  subst ea2 eb2
  refine⟨_,rfl,_,rfl,D1,D2,_,_,rfl,rfl,s3 _ _ e2,e3,(by simp only[yab];exact za3 (by omega) |> ycx),fun D3 hD3=>?_⟩
  rw[<- ya9]
  refine⟨D3,_,rfl,SqL.of zd,(by simp only[ya7,yab];unfold scanBound;omega),fun a L ha nd mem=>?_⟩
  have L48:L.length<=48:=by
   have:=MM.ze0 (S:=(t.map fun p=>((m.on p.toNat c:Nat):Int))++(t.map fun p=>((m.on p.toNat (ycp c v):Nat):Int))) nd fun x hx=>(mem x).mp hx
   simp only[ya7,yab]at this
   omega
  refine⟨a,L,rfl,zd,by omega,fun ns D4 pm srt hD4=>?_⟩
  have en:ns=yb3 m v t c:=by
   refine zo2 (zl6 srt (pm.nodup_iff.mpr nd)) (zli wf hc ht).lt fun z=>?_
   rw[pm.mem_iff,mem z,zlj wf hv hc ht z]
  subst en
  refine⟨D4,_,rfl,.inl zd,fun q H5 hq s5=>?_⟩
  exact k H5 q hq ((s2.trans s3).trans ((Same.new hD3).trans ((Same.new ha).trans ((Same.new hD4).trans s5))))
end
end My
end
section
namespace My
open PySem PySem.Spec PyProof.Rows L2
open Rows (Told LETTERS)
def moreL(m:yaf)(v:Nat)(l:List Nat):List Nat:=(yae m.size).filter fun (q:Nat)=>l.contains q || (l.contains (m.on q 0) || l.contains (m.on q (2 ^ v)))
def itL(m:yaf)(v:Nat):Nat->List Nat->List Nat
 | 0,l=>l
 | f+1,l=>itL m v f (moreL m v l)
theorem zgg(m:yaf)(v:Nat):∀(f:Nat) (l:List Nat),itL m v (f+1) l=moreL m v (itL m v f l)
 | 0,_=>rfl
 | f+1,l=>by
  show itL m v (f+1) (moreL m v l)=moreL m v (itL m v f (moreL m v l))
  exact zgg m v f (moreL m v l)
theorem zj9{α:Type}{p p':α->Bool}(h:∀ x,p x=true->p' x=true):∀ l:List α,(l.filter p).length<=(l.filter p').length/\((l.filter p').length=(l.filter p).length->l.filter p'=l.filter p)
 | []=>⟨yao _,fun _=>rfl⟩
 | a::l=>by
  obtain⟨h1,h2⟩:=zj9 h l
  rw[yd2,yd2]
  by_cases c:p a=true
  ·rw[if_pos c,if_pos (h a c)]
   simp only[ybx]
   exact⟨by omega,fun e=>by rw[h2 (by omega)]⟩
  ·rw[if_neg c]
   by_cases c':p' a=true
   ·rw[if_pos c']
    simp only[ybx]
    exact⟨by omega,fun e=>by omega⟩
   ·rw[if_neg c']
    exact⟨h1,h2⟩
theorem zqq{m:yaf}{v:Nat}{l:List Nat}(h:moreL m v l=l):∀ f,itL m v f l=l
 | 0=>rfl
 | f+1=>by
  show itL m v f (moreL m v l)=l
  rw[h]
  exact zqq h f
theorem zgr(m:yaf)(v:Nat):∀(f:Nat) (l:List Nat),(∃ p:Nat->Bool,l=(yae m.size).filter p)->ykb m v f l=itL m v f l
 | 0,_,_=>rfl
 | f+1,l,⟨p,e⟩=>by
  have key:∀ x,x∈yae m.size->l.contains x=p x:=fun x hx=>by
   rw[e]
   cases hp:p x with
   | true=>exact ycg.mpr (ybu.mpr ⟨hx,hp⟩)
   | false =>
    cases hc:((yae m.size).filter p).contains x with
    | false=>rfl
    | true =>
     have:=(ybu.mp (ycg.mp hc)).2
     rw[hp]at this
     cases this
  have e2:l=(yae m.size).filter fun x=>l.contains x:=by
   rw[ylb key]
   exact e
  unfold ykb
  show(if (moreL m v l).length=l.length then l else ykb m v f (moreL m v l))=itL m v f (moreL m v l)
  by_cases c:(moreL m v l).length=l.length
  ·rw[if_pos c]
   have fx:moreL m v l=l:=by
    have h2:=(zj9 (p:=fun x=>l.contains x) (p':=fun (q:Nat)=>l.contains q || (l.contains (m.on q 0) || l.contains (m.on q (2 ^ v)))) (fun x hx=>by simp only[hx,yll]) (yae m.size)).2
    rw[<- e2]at h2
    exact h2 c
   rw[fx,zqq fx]
  ·rw[if_neg c]
   exact zgr m v f _ ⟨_,rfl⟩
def inB(m:yaf)(l:List Nat):List Bool:=(yae m.size).map fun q=>l.contains q
theorem zlk{m:yaf}{l:List Nat}{q:Nat}(h:q<m.next.length):((inB m l).map bV)[q]?=some (bV (l.contains q)):=by
 unfold inB
 rw[yaj,yaj,ycz (show q<m.size from h)]
 rfl
theorem zyj(m:yaf)(l:List Nat):(inB m l).length=m.next.length:=by unfold inB;rw[yab,ya5];rfl
theorem zyk{m:yaf}(wf:MM.Wf m):inB m ((yae m.size).filter m.end_)=m.ends:=by
 refine yc3 fun j=>?_
 unfold inB
 rw[yaj]
 by_cases hj:j<m.next.length
 ·rw[ycz (show j<m.size from hj),yad (by rw[wf.ends];exact hj)]
  show some _=some _
  congr 1
  have e:m.end_ j=m.ends[j]'(by rw[wf.ends];exact hj):=by
   unfold yh3
   rw[yal,yad (by rw[wf.ends];exact hj)]
   rfl
  rw[<- e]
  cases h:m.end_ j with
  | true=>exact ycg.mpr (ybu.mpr ⟨yau.mpr hj,h⟩)
  | false =>
   cases hc:((yae m.size).filter m.end_).contains j with
   | false=>exact hc
   | true =>
    have:=(ybu.mp (ycg.mp hc)).2
    rw[h]at this
    cases this
 ·rw[ybz.mpr (by rw[ya5];show m.next.length<=j;omega),ybz.mpr (by rw[wf.ends];omega)]
  rfl
theorem zhy{m:yaf}{v:Nat}{l:List Nat}{q:Nat}(h:q<m.next.length):(moreL m v l).contains q=(l.contains q || (l.contains (m.on q 0) || l.contains (m.on q (2 ^ v)))):=by
 cases hp:(l.contains q || (l.contains (m.on q 0) || l.contains (m.on q (2 ^ v)))) with
 | true=>exact ycg.mpr (ybu.mpr ⟨yau.mpr h,hp⟩)
 | false =>
  cases hc:(moreL m v l).contains q with
  | false=>rfl
  | true =>
   have:=(ybu.mp (ycg.mp hc)).2
   rw[hp]at this
   cases this
theorem z04(a b c:Bool):V.int (if (if b=true then(1:Int) else 0) > (if a=true then 1 else 0) then(if (if c=true then(1:Int) else 0) > (if b=true then 1 else 0) then(if c=true then 1 else 0) else(if b=true then 1 else 0)) else(if (if c=true then(1:Int) else 0) > (if a=true then 1 else 0) then(if c=true then 1 else 0) else(if a=true then 1 else 0)))=bV (a || (b || c)):=by
 cases a<;>cases b<;>cases c<;>rfl
section
variable {P:yav}{w:World}{K:yac}{mg:Str->Option Value}{base:Heap}
def zbi(m:yaf)(v:Nat):List Nat:=ykb m v m.size ((yae m.size).filter m.end_)
def zt6(CM:Addr):Sp:=fun vs H Q _=>∃(x:Addr) (m:yaf) (v:Nat),vs=[.ref x,nV (2 ^ v)]/\MachAt CM H x m/\MM.Wf m/\m.next.length<=24/\v<4/\∀ H' q,H' q=some (.lst ((inB m (zbi m v)).map bV))->Same H H'->Q (.ref q) H'
theorem sc_more:FnScope ["machine","bit","ends","turn","state","row"] ["machine","bit"] (ze zbb):=⟨rfl,rfl,rfl,by decide +kernel,rfl,by decide +kernel,by decide +kernel⟩
abbrev zyl(own:List (Str × Nat))(scope:Scope):Prop:=BlkOk ["machine","bit","ends","turn","state","row"] (ze zbb) scope own
def rMax3:List V->Hp->VK->Prop:=fun xs H Q=>∃ i j k,xs=[.int i,.int j,.int k]/\Q (.int (if j > i then(if k > j then k else j) else(if k > i then k else i))) H
def zt7(K:yac):TE:=tCB rMax3 (tCons (tOp (rIxL K) (tVar 2) (tVar 4)) (tCons (tOp (rIxL K) (tVar 2) (tOp (rIxT K) (tVar 5) (tC (.int 0)))) (tCons (tOp (rIxL K) (tVar 2) (tOp (rIxT K) (tVar 5) (tVar 1))) tNil)))
theorem zo4:∀ v<4,2 ^ v<16:=by decide
theorem zym{f CM:Addr}{fd:ya2}(F:Fun K "ends_by_more_bits" "ends_by_more_bits" zbb f fd)(B:TB mg)(TMm:TM K mg CM):FnOk P w K mg base CX0 1 f fd ["machine","bit"] (zt6 CM):=by
 refine F.ok sc_more (fun vs H Q E h=>?_) (fun cdv A outer s H vs Q E hr h=>?_)
 ·obtain⟨x,m,v,rfl,_⟩:=h
  rfl
 ·obtain⟨x,m,v,rfl,M,wf,hz,hv,k⟩:=h
  refine⟨_,zc (zz (i:=2) sc_more.nd rfl (yc5 rfl) (zcp znu (by rfl) B.list (by decide +kernel) (za (zq (pv 0) rfl) zb)))
   (zc (zf6 yei rfl (zau rfl B.range (za (zaf zag (by rfl) B.len yb9 (za (zq (pv 0) rfl) zb)) zb)) (zt (i:=3) sc_more.nd rfl (ybk rfl))
     (zf (zz (i:=2) sc_more.nd rfl (yc5 rfl) (zaq (g:=gTup K 2 (gCons (gName 4) (gCons (gName 5) gNil))) (te:=zt7 K) (own:=[("state",4),("row",5)]) rfl sc_more.nd (zvu rfl B.enumerate (za (zq (pv 0) rfl) zb)) (show zyl _ _ from zu (by decide +kernel))
      (fun _ _ _ _ _=>zh3 rfl (zcy (zt (i:=4) sc_more.nd rfl (ybk rfl) (yc5 rfl)) (zcy (zt (i:=5) sc_more.nd rfl (ybk rfl) (yc5 rfl)) zgy))) (fun _ _ _ _ _=>zac)
      (fun _ _ _ _ _=>zaf (zti rfl) (by rfl) B.max (by decide +kernel) (za (zp ix_list (pv 2) (pv 4) (fun _ _=>rfl)) (za (zp ix_list (pv 2) (zp ix_tup (pv 5) zg (fun _ _=>rfl)) (fun _ _=>rfl)) (za (zp ix_list (pv 2) (zp ix_tup (pv 5) (pv 1) (fun _ _=>rfl)) (fun _ _=>rfl)) zb))))))))
   (zf (zk (pv 2)))),?_⟩
  obtain⟨dm,em,lm,rsm,g1,g2,g3,g4,g5⟩:=M.row
  refine⟨_,rfl,x,CM,dm,_,_,rfl,g1,TMm.cl,TMm.nE,zbe _ _,em,_,rfl,.inr (SqT.of g2),fun D0 hD0=>?_⟩
  have s0:Same H (upd H D0 (.lst (m.ends.map bV))):=Same.new hD0
  have hll:(rsm.map V.ref).length=m.next.length:=by rw[yab];exact g5
  refine⟨_,rfl,x,CM,dm,_,_,rfl,s0 _ _ g1,TMm.cl,TMm.nL,zal _ _,lm,_,rfl,.inr (SqT.of (s0 _ _ g3)),_,rfl,(by rw[hll];omega),(by rw[hll];omega),?_⟩
  rw[show(((rsm.map V.ref).length:Nat):Int).toNat=m.next.length by rw[hll];rfl]
  refine zmg (fun i σ H2=>∃ D,Same H H2/\H2 D=some (.lst ((inB m (itL m v i ((yae m.size).filter m.end_))).map bV))/\∃ r:Option V,σ=[some (.ref x),some (nV (2 ^ v)),some (.ref D),r,none,none]) ⟨D0,s0,?_,none,rfl⟩ (fun i σ H2 hi ⟨D,s2,e2,r,hσ⟩=>?_) fun σ H2 ⟨D,s2,e2,r,hσ⟩=>?_
  ·show(upd H D0 (.lst (m.ends.map bV))) D0=some (.lst ((inB m ((yae m.size).filter m.end_)).map bV))
   rw[zyk wf]
   exact zd
  ·subst hσ
   refine⟨_,rfl,x,CM,dm,_,_,rfl,s2 _ _ g1,TMm.cl,TMm.nL,zal _ _,lm,_,rfl,SqT.of (s2 _ _ g3),fun D' hD'=>?_⟩
   refine zwb (K:=K) (a:=lm) (j1:=4) (j2:=5) (te:=zt7 K) (fun j y _=>y=bV ((inB m (itL m v (i+1) ((yae m.size).filter m.end_))).getD j false)) (fun _ _ _ _ _ h=>h) hD' (SqT.of (s2 _ _ g3)) (by rw[hll];omega) (fun _ _=>rfl) (fun j y H3 Q3 hy s3 q3=>?_) fun H3 acc s3 e3 p3=>?_
   ·have hj:j<m.next.length:=by
     have:=(yag.mp hy).1
     omega
    obtain⟨r',hr1,hr2⟩:=zd0 (g4.keep (zan (s2.trans s3))) hj
    rw[hy]at hr1
    cases hr1
    have e3:=s3 _ _ e2
    have h0:m.on j 0<m.next.length:=wf.on_lt hj (by decide)
    have h2:m.on j (2 ^ v)<m.next.length:=wf.on_lt hj (zo4 v hv)
    refine⟨_,rfl,_,rfl,D,_,_,_,rfl,rfl,SqL.of e3,zm (zlk hj),?_⟩
    refine⟨_,rfl,_,rfl,r',_,_,_,rfl,rfl,SqT.of hr2,zm (j:=0) (zfy wf hj (by decide)),D,_,_,_,rfl,rfl,SqL.of e3,zm (zlk h0),?_⟩
    refine⟨_,rfl,_,rfl,_,rfl,r',_,_,_,rfl,rfl,SqT.of hr2,zm (zfy wf hj (zo4 v hv)),D,_,_,_,rfl,rfl,SqL.of e3,zm (zlk h2),?_⟩
    refine⟨_,_,_,rfl,q3 _ H3 ?_ (Same.refl H3)⟩
    rw[zgg,MM.zw (show(inB m (moreL m v (itL m v i ((yae m.size).filter m.end_))))[j]?=some ((moreL m v (itL m v i ((yae m.size).filter m.end_))).contains j) by unfold inB;rw[yaj,ycz (show j<m.size from hj)];rfl),zhy hj]
    exact z04 _ _ _
   ·have ea:=zak p3
    have ea2:acc=(inB m (itL m v (i+1) ((yae m.size).filter m.end_))).map bV:=by
     rw[ea,hll]
     have:=za4 (inB m (itL m v (i+1) ((yae m.size).filter m.end_))) false bV
     rw[zyj]at this
     exact this
    exact⟨D',s2.trans s3,by rw[<- ea2];exact e3,_,rfl⟩
  ·subst hσ
   refine⟨_,rfl,k H2 D ?_ s2⟩
   unfold zbi
   rw[zgr m v m.size _ ⟨_,rfl⟩]
   exact e2
end
end My
end
section
namespace My
open PySem PySem.Spec PyProof.Rows L2
open Rows (Told LETTERS)
section
variable {step:Told->Nat->Told}{S:List Told}{most:Nat}{t0:Told}
theorem PW.next'{met:List Told}{leads:List (List Nat)}{t:Told}(p:PW step S most t0 met leads)(hS:∀ x∈S,∀ c,c<LETTERS->step x c∈S)(hl:leads.length<most)(ht:met[leads.length]?=some t) :
  PW step S most t0 (zae met (ts16 step t)) (leads++[nums met (ts16 step t)]):=by
 have hlen:(leads++[nums met (ts16 step t)]).length=leads.length+1:=by simp
 have p2:PW step S (leads.length+S.length) t0 met leads\/True:=.inr trivial
 have ea:zae met (ts16 step t)=MM.zaw step t (yae LETTERS) met:=(zfv t _ met).symm
 have q:PW step S (S.length+leads.length+1) t0 met leads->PW step S (S.length+leads.length+1) t0 (zae met (ts16 step t)) (leads++[nums met (ts16 step t)]):=fun p'=>p'.next hS (by omega) ht
 refine⟨?_,?_,?_⟩
 ·rw[hlen,ea]
  exact p.w.next hS ht
 ·rw[p.f,hlen,show most - leads.length=(most - (leads.length+1))+1 by omega,MM.zdh ht,<- ea]
 ·obtain⟨e,he⟩:=zev (ts16 step t) met
  have hk:leads.length<met.length:=(yag.mp ht).1
  rw[hlen,ydu,show(zae met (ts16 step t))[leads.length]?=some t by rw[he];exact MM.zg4 ht,ya9]
  have h1:leads=((zae met (ts16 step t)).take leads.length).map (MM.rowOf step (zae met (ts16 step t))):=by
   rw[he,ygx (by omega)]
   refine p.r.trans (ybw fun x hx=>?_)
   obtain⟨i,hi⟩:=ydo hx
   have hil:i<leads.length:=by
    have:=(yag.mp hi).1
    rw[yd0]at this
    omega
   rw[yey hil]at hi
   refine ybw fun c hc=>?_
   show met.idxOf (step x c)=(met++e).idxOf (step x c)
   rw[MM.zdw (p.w.cl i x hil hi c (yau.mp hc))]
  have h2:nums met (ts16 step t)=MM.rowOf step (zae met (ts16 step t)) t:=by
   unfold nums MM.rowOf
   generalize zae met (ts16 step t)=L
   unfold ts16
   rw[yb7]
   rfl
  rw[<- h1,h2]
  rfl
theorem PW.many{met:List Told}{leads:List (List Nat)}(p:PW step S most t0 met leads):met.length<=(yfa step most 0 [t0]).length:=by
 rw[p.f]
 obtain⟨e,he⟩:=MM.zif (step:=step) (most - leads.length) leads.length met
 rw[he,ya7]
 omega
theorem PW.wf{met:List Told}{leads:List (List Nat)}(p:PW step S most t0 met leads)(h:met.length<=leads.length)(hm:met.length<=most)(h0:t0∈met)(okf:Told->Bool):MM.Wf (yb0 most step okf t0):=by
 refine zde (S:=met) (fun x hx c hc=>?_) h0 hm okf
 obtain⟨i,hi⟩:=ydo hx
 exact p.w.cl i x (yaz (yag.mp hi).1 h) hi c hc
theorem zll{met ts:List Told}{x:Told}(h:x∈met):x∈zae met ts:=by
 obtain⟨e,q⟩:=zev ts met
 rw[q]
 exact ycu _ h
end
noncomputable def SS(n:Nat):List Told:=(picks n).filter fun t=>@decide (Sub n t) (yf7 _)
theorem mem_SS{n:Nat}{t:Told}:t∈SS n<->Sub n t:=by
 unfold SS
 rw[List.mem_filter]
 constructor
 ·rintro⟨_,h⟩
  exact @of_decide_eq_true _ (yf7 _) h
 ·intro h
  exact⟨zt2 h,@decide_eq_true _ (yf7 _) h⟩
theorem ziw{m:yaf}(wf:MM.Wf m){v:Nat}:∀ x∈SS m.next.length,∀ c,c<LETTERS->yb3 m v x c∈SS m.next.length:=fun x hx c hc=>mem_SS.mpr (zli wf hc (mem_SS.mp hx))
def soOk(m:yaf)(v:Nat)(t:Told):Bool:=t.any fun (p:Int)=>(zbi m v).contains p.toNat
theorem zl8(m:yaf)(v:Nat):yfz m v=if yjm<(yfa (yb3 m v) (yjm+1) 0 [[0]]).length then none else some (yb0 yjm (yb3 m v) (soOk m v) [0]).least:=rfl
theorem zyn{l:List Bool}{k:Int}(hm:k∈l.map fun b=>if b=true then(1:Int) else 0)(hx:∀ y,y∈l.map (fun b=>if b=true then(1:Int) else 0)->y<=k):V.int k=bV (l.any id):=by
 obtain⟨b,hb,rfl⟩:=ya6.mp hm
 cases h:l.any id with
 | true =>
  obtain⟨c,hc,e⟩:=ydb.mp h
  cases b with
  | true=>rfl
  | false =>
   have:=hx 1 (ya6.mpr ⟨c,hc,by rw[show c=true from e];rfl⟩)
   simp at this
 | false =>
  cases b with
  | false=>rfl
  | true =>
   have:=List.any_eq_false.mp h true hb
   simp at this
section
variable {P:yav}{w:World}{K:yac}{mg:Str->Option Value}{base:Heap}
def zo5(CM CS CT:Addr)(H:Hp)(o:Option yaf)(Q:VK)(E:XK):Prop:=match o with
 | some m=>Gives CM CS H m Q E
 | none=>∀ H',Same H H'->E (.ref CT) none H'
def zo6(CM CS CT:Addr):Sp:=fun vs H Q E=>∃(x:Addr) (m:yaf) (v:Nat),vs=[.ref x,nV v]/\MachAt CM H x m/\MM.Wf m/\m.next.length<=24/\v<4/\zo5 CM CS CT H (yfz m v) Q E
theorem sc_some:FnScope ["machine","v","bit","walk","states","ends","letter","state"] ["machine","v"] (ze zbg):=⟨rfl,rfl,rfl,by decide +kernel,rfl,by decide +kernel,by decide +kernel⟩
abbrev zqr(sc:Scope)(own:List (Str × Nat))(scope:Scope):Prop:=BlkOk ["machine","v","bit","walk","states","ends","letter","state"] sc scope own
abbrev scSo:Scope:={ kind:=.function,names:=[(".0",.local),("states",.local),("max",.globalImplicit),("ends",.cell)],isGenerator:=false,isCoroutine:=false }
theorem z0e:BlkOk ["machine","v","bit","walk","states","ends","letter","state"] scSo { kind:=.function,names:=[(".0",.local),("state",.local),("ends",.free)],isGenerator:=false,isCoroutine:=false } [("state",7)]:=zu (by decide +kernel)
def teSo1(CM:Addr):TE:=tCall (spLew CM) [] E0 (tCons (tVar 0) (tCons (tVar 4) (tCons (tVar 6) (tCons (tVar 2) tNil))))
def teSo2(K:yac):TE:=tCB (rMax K) (tCons (tLc (iTup K (tVar 4)) (gName 7) tYes (tOp (rIxL K) (tVar 5) (tVar 7)) [7]) tNil)
theorem zyo{f fW fB fM CS CM CT CW fI fG fC fL fN:Addr}{fd fdW fdB fdM dI dG dC dL dN:ya2}(F:Fun K "some_machine" "some_machine" zbg f fd)(B:TB mg)(N:TN mg)(TMm:TM K mg CM)(GW:Gf K mg "led_either_way" zbt ["machine","states","letter","bit"] fW fdW)(GB:Gf K mg "ends_by_more_bits" zbb ["machine","bit"] fB fdB)(TT:Exc K mg "TooManySets" CT)(GM:Gf K mg "least_machine" zam ["ends","leads"] fM fdM)(NM:FnOk P w K mg base (CXE P w) 3 fM fdM ["ends","leads"] (zcm CM CS))(W:MkW K mg CW fI fG fC fL fN dI dG dC dL dN) :
  FnOk P w K mg base (CXE P w) 4 f fd ["machine","v"] (zo6 CM CS CT):=by
 have NW:FnOk P w K mg base CX0 3 fW fdW ["machine","states","letter","bit"] (spLew CM):=(z0d GW.F B TMm).mono (by decide)
 have NB:FnOk P w K mg base CX0 3 fB fdB ["machine","bit"] (zt6 CM):=(zym GB.F B TMm).mono (by decide)
 have NI:FnOk P w K mg base CX0 2 fI dI ["self","start"] (ze6 P w CW):=(ze7 W.FI W.T).mono (by decide)
 have NG:FnOk P w K mg base CX0 3 fG dG ["self"] (zgb P w CW):=(zf1 W.FG W.T B).mono (by decide)
 have NC:FnOk P w K mg base CX0 3 fC dC ["self"] (spCur P w CW):=(zha W.FC W.T B).mono (by decide)
 have NL:FnOk P w K mg base CX0 3 fL dL ["self","states"] (zcw P w K CW):=(zf3 W.FL W.T B W.FN W.bN W.mN).mono (by decide)
 obtain⟨tk,hlets⟩:=N.lets
 obtain⟨tk2,hsets⟩:=N.sets
 refine F.okE sc_some (fun vs H Q E h=>?_) (fun cdv A outer s H vs Q E hr h=>?_)
 ·obtain⟨x,m,v,rfl,_⟩:=h
  rfl
 ·obtain⟨y,mm,v,rfl,Mm,wf,hz,hv,g⟩:=h
  refine⟨_,zc (zz (i:=2) sc_some.nd rfl (yc5 rfl) (zaa zff zg (pv 1)))
   (zc (zz (i:=3) sc_some.nd rfl (ybk rfl) (zc5 W.M NI hr rfl W.mg W.bI .nil pass0 (za (zh6 (za zg zb)) zb)))
   (zc (zcz ydg (zfe (za6 (pv 3) W.T.cl W.mG NG hr W.bG .nil pass0))
    (zc (zz (i:=4) sc_some.nd rfl (yc5 rfl) (za6 (pv 3) W.T.cl W.mC NC hr W.bC .nil pass0))
    (zc (zad (zai (pv 3) W.T.cl W.mL NL hr W.bL .nil pass0 (za (zaq (te:=teSo1 CM) (own:=[("letter",6)]) rfl sc_some.nd (zau rfl B.range (za (zx (v:=.int 16) rfl hlets ⟨tk,rfl⟩) zb)) (show zqr (ze zbg) _ _ from zu (by decide +kernel))
     (fun _ _ _ _ _=>zt (i:=6) sc_some.nd rfl (ybk rfl)) (fun _ _ _ _ _=>zac) (fun _ _ _ _ _=>zi NW hr rfl GW.m GW.F.kp GW.b .nil pass0 (za (pv 0) (za (pv 4) (za (pv 6) (za (pv 2) zb)))))) zb)))
    (zf (zbk (zah zgi (zaf zag (by rfl) B.len yb9 (za (zq (pv 3) rfl) zb)) (zx (v:=.int 200) rfl hsets ⟨tk2,rfl⟩) (zaj _)) (zf (ze2 TT rfl)) zap)))))
   (zc (zz (i:=5) sc_some.nd rfl (yc5 rfl) (zi NB hr rfl GB.m GB.F.kp GB.b .nil pass0 (za (pv 0) (za (pv 2) zb))))
   (zf (zk (zi NM hr rfl GM.m GM.F.kp GM.b .nil zv (za (zaq (te:=teSo2 K) (own:=[("states",4)]) rfl sc_some.nd (zba (zq (pv 3) rfl)) (show zqr (ze zbg) _ _ from zu (by decide +kernel))
     (fun _ _ _ _ _=>zt (i:=4) sc_some.nd rfl (ybk rfl)) (fun _ _ _ _ _=>zac)
     (fun _ _ _ _ _=>zaf (znw rfl) (by rfl) B.max zj7 (za (zaq (te:=tOp (rIxL K) (tVar 5) (tVar 7)) (own:=[("state",7)]) rfl sc_some.nd (zd9 (pv 4)) z0e (fun _ _ _ _ _=>zt (i:=7) sc_some.nd rfl (ybk rfl)) (fun _ _ _ _ _=>zac) (fun _ _ _ _ _=>zp ix_list (pv 5) (pv 7) (fun _ _=>rfl))) zb))) (za (zq (pv 3) rfl) zb)))))))),?_⟩
  have hbv:V.int (1*2 ^ ((v:Int)).toNat)=nV (2 ^ v):=by
   rw[yan,yio]
   unfold nV
   rw[yf6]
   rfl
  refine⟨_,rfl,_,_,rfl,rfl,⟨by show(0:Int)<=(v:Int);omega,by show(v:Int)<=1000000;omega,by decide⟩,?_⟩
  refine⟨(by show 1<=yay;rw[ybr];decide),fun pt hpt=>?_⟩
  have spt:Same H (upd H pt (.tup [.int 0])):=Same.new hpt
  intro x dx hx hdx hne
  refine⟨.f,x,dx,[0],.ref pt,rfl,zd,⟨trivial,pt,rfl,zcn hx hdx _ _ zd⟩,fun H2 m n l W2 hml hm hn hl k2=>⟨rfl,?_⟩⟩
  obtain⟨s2',nw'⟩:=zep hx hdx hne hm hn hl hml k2
  have s2:Same H H2:=spt.trans s2'
  have nw:NewW H x m n l:=⟨spt.free nw'.ha,spt.free nw'.hm,spt.free nw'.hn,spt.free nw'.hl,nw'.ml⟩
  have sub0:Sub mm.next.length [0]:=⟨by simp,by simp,fun z hz=>⟨0,ya4.mp hz,wf.pos⟩⟩
  have ht0:([0]:Told)∈SS mm.next.length:=mem_SS.mpr sub0
  have hS:=ziw wf (v:=v)
  refine⟨fun mx σ' H'=>∃ met leads,∃ r:Option V,σ'=[some (.ref y),some (nV v),some (.int (1*2 ^ ((v:Int)).toNat)),some (.ref x),r,none,none,none]/\Same H H'/\WkAt P w CW H' .f x m n l met leads/\PW (yb3 mm v) (SS mm.next.length) 201 [0] met leads/\PW (yb3 mm v) (SS mm.next.length) 200 [0] met leads/\met.length<=200/\[0]∈met/\mx=201 - leads.length,
   ⟨_,[[0]],[],none,rfl,s2,W2,PW.start ht0,PW.start ht0,by decide,by simp,rfl⟩,?_⟩
  rintro mx σ' H3 ⟨met,leads,r,rfl,s3,W3,p1,p2,hm200,h0m,rfl⟩
  obtain⟨dx3,o3⟩:=W3.obj
  refine⟨_,rfl,x,dx3,_,rfl,o3,zen _ _ _,.f,x,m,n,l,met,leads,rfl,W3,_,rfl,?_⟩
  by_cases hlt:leads.length<met.length
  ·refine ifT (decide_eq_true hlt) ?_
   obtain⟨t,ht⟩:∃ t,met[leads.length]?=some t:=⟨_,yad hlt⟩
   have htS:Sub mm.next.length t:=mem_SS.mp (p1.w.sub t (yat ht))
   refine⟨fun σ' H'=>∃ m',m'<201 - leads.length/\∃ met leads,∃ r:Option V,σ'=[some (.ref y),some (nV v),some (.int (1*2 ^ ((v:Int)).toNat)),some (.ref x),r,none,none,none]/\Same H H'/\WkAt P w CW H' .f x m n l met leads/\PW (yb3 mm v) (SS mm.next.length) 201 [0] met leads/\PW (yb3 mm v) (SS mm.next.length) 200 [0] met leads/\met.length<=200/\[0]∈met/\m'=201 - leads.length,fun _ _ h=>h,?_⟩
   refine⟨_,rfl,x,dx3,_,rfl,o3,zdz _ _ _,.f,x,m,n,l,met,leads,t,rfl,W3,ht,fun u hu=>?_⟩
   obtain⟨u0,rfl,hu0⟩:=hu.2
   refine⟨_,rfl,x,dx3,_,rfl,o3,zeo _ _ _,_,rfl,by decide,by decide,fun D hD=>?_⟩
   refine zc2 (n:=16) (idx:=6) (te:=teSo1 CM) (fun j y' H'=>StAt H' .f (yb3 mm v t j) y') (fun _ _ _ _ k h=>h.keep k) hD (by decide) (fun _=>rfl) (fun i H4 Q4 hi s4 q4=>?_) fun H4 acc s4 e4 p4=>?_
   ·refine⟨_,rfl,_,rfl,_,rfl,_,rfl,y,u0,mm,t,i,v,?_,Mm.same (s3.trans s4),wf,hz,s4 _ _ hu0,htS,hi,hv,fun H5 q hq s5=>q4 _ H5 ⟨trivial,q,rfl,hq⟩ s5⟩
    rw[<- hbv]
    show [V.ref y,V.ref u0,V.int (0+(i:Int)),_]=[V.ref y,V.ref u0,V.int (i:Int),_]
    rw[ygs]
   ·have key:∀ Q':VK,(∀ H5,Same H H5->WkAt P w CW H5 .f x m n l (zae met (ts16 (yb3 mm v) t)) (leads++[nums met (ts16 (yb3 mm v) t)])->Q' .non H5)->zcw P w K CW [.ref x,.ref D] H4 Q' E0:=fun Q' h=>zeq (K:=K) nw s3 W3 hD s4 e4 p4 (S:=200) (by decide) hm200 (by omega) h
    unfold tNil
    refine key _ fun H5 s5 W5=>?_
    obtain⟨dx5,o5⟩:=W5.obj
    obtain⟨vs5,e5,q5⟩:=W5.mt
    have hl5:vs5.length=(zae met (ts16 (yb3 mm v) t)).length:=(ybh q5).symm
    have p1':=p1.next' hS (by omega) ht
    refine⟨_,rfl,x,CW,dx5,_,_,rfl,o5,W.T.cl,W.T.nM,zb0 _ _ _,m,_,rfl,.inl (SqL.of e5),_,_,rfl,rfl,_,rfl,?_⟩
    by_cases hbig:200<(zae met (ts16 (yb3 mm v) t)).length
    ·refine ifT (decide_eq_true (show(200:Int)<((vs5.length:Nat):Int) by omega)) ?_
     have e0:yfz mm v=none:=by
      rw[zl8]
      exact if_pos (yaz hbig p1'.many)
     rw[e0]at g
     exact g H5 s5
    ·refine ifF (decide_eq_false (show ¬ (200:Int)<((vs5.length:Nat):Int) by omega)) ?_
     exact⟨201 - (leads++[nums met (ts16 (yb3 mm v) t)]).length,by simp only[ya7,yep];omega,_,_,some (.ref u0),rfl,s5,W5,p1',p2.next' hS (by omega) ht,by omega,zll h0m,rfl⟩
  ·refine ifF (decide_eq_false hlt) ?_
   obtain⟨f1,hle,_⟩:=p1.fin (by omega)
   obtain⟨_,_,hfin⟩:=p2.fin (by omega)
   have e0:yfz mm v=some (yb0 yjm (yb3 mm v) (soOk mm v) [0]).least:=by
    rw[zl8]
    exact if_neg (by show ¬ 200<(yfa (yb3 mm v) 201 0 [[0]]).length;rw[f1];omega)
   rw[e0]at g
   refine⟨_,rfl,_,rfl,y,mm,v,(by rw[<- hbv];rfl),Mm.same s3,wf,hz,hv,fun H4 qe hqe s4=>?_⟩
   have W4:=W3.same s4
   obtain⟨dx4,o4⟩:=W4.obj
   obtain⟨vs4,e4,q4⟩:=W4.mt
   have hlen:met.length=vs4.length:=ybh q4
   refine⟨_,rfl,x,CW,dx4,_,_,rfl,o4,W.T.cl,W.T.nM,zb0 _ _ _,m,rfl,⟨_,SqL.of e4⟩,fun D hD=>?_⟩
   refine zca (K:=K) (a:=m) (idx:=4) (te:=teSo2 K) (fun j z _=>z=bV ((met.map (soOk mm v)).getD j false)) (fun _ _ _ _ _ h=>h) hD (SqL.of e4) (by omega) (fun _=>rfl) (fun i z H5 Q5 hz' s5 q5'=>?_) fun H5 acc s5 e5 p5=>?_
   ·obtain⟨t,ht⟩:∃ t,met[i]?=some t:=⟨_,yad (by have:=(yag.mp hz').1;omega)⟩
    obtain⟨z',hz2,sy⟩:=za2 q4 ht
    rw[hz']at hz2
    cases hz2
    have htS:Sub mm.next.length t:=mem_SS.mp (p1.w.sub t (yat ht))
    obtain⟨u0,rfl,hu0⟩:=sy.2
    have h24:t.length<=24:=ybq htS.len hz
    have hu5:=s5 _ _ hu0
    refine⟨_,rfl,u0,rfl,⟨_,SqT.of hu5⟩,fun D2 hD2=>?_⟩
    refine zee (K:=K) (a:=u0) (idx:=7) (te:=tOp (rIxL K) (tVar 5) (tVar 7)) (fun j z _=>z=bV ((t.map fun p=>(zbi mm v).contains p.toNat).getD j false)) (fun _ _ _ _ _ h=>h) hD2 (SqT.of hu5) (by rw[yab];omega) (fun _=>rfl) (fun j z H6 Q6 hz6 s6 q6=>?_) fun H6 acc6 s6 e6 p6=>?_
    ·obtain⟨p,ep,rfl⟩:=zcx hz6
     obtain⟨q,rfl,hq⟩:=htS.inn p (yat ep)
     refine⟨_,rfl,_,rfl,qe,_,_,_,rfl,rfl,SqL.of ((s5.trans s6) _ _ hqe),zm (zlk hq),?_⟩
     refine q6 _ H6 ?_ (Same.refl H6)
     rw[MM.zw (show(t.map fun p=>(zbi mm v).contains p.toNat)[j]?=some ((zbi mm v).contains q) by rw[yaj,ep];show some ((zbi mm v).contains ((q:Int)).toNat)=_;rw[yan])]
    ·have ea:=zak p6
     have ea2:acc6=((t.map fun p=>(zbi mm v).contains p.toNat).map fun b=>if b=true then(1:Int) else 0).map V.int:=by
      rw[ea,yab,yb7]
      have:=za4 (t.map fun p=>(zbi mm v).contains p.toNat) false bV
      rw[yab]at this
      exact this
     subst ea2
     refine⟨D2,_,rfl,SqL.of e6,(by rw[yab,yab];exact yj3.mpr htS.ne),fun kk hk hmax=>?_⟩
     refine q5' _ H6 ?_ s6
     rw[zyn hk hmax,MM.zw (show(met.map (soOk mm v))[i]?=some (soOk mm v t) by rw[yaj,ht];rfl)]
     unfold soOk
     rw[ylk]
     rfl
   ·have W5:=W4.same s5
    obtain⟨dx5,o5⟩:=W5.obj
    refine⟨_,rfl,x,CW,dx5,_,_,rfl,o5,W.T.cl,W.T.nL,zby _ _ _,?_⟩
    show zcm CM CS [.ref D,.ref l] H5 Q E
    rw[<- hlen]at p5
    exact zfx W4 (s3.trans s4) s5 e5 p5 (by omega) hle (hfin (soOk mm v)) (p2.wf (by omega) (by omega) h0m _) g
end
end My
end
section
namespace My
open PySem PySem.Spec PyProof.Rows L2
open Rows (Told LETTERS)
theorem zyp{m:yaf}(wf:MM.Wf m){v:Nat}(h:¬ 200<(yfa (yb3 m v) 201 0 [[0]]).length)(okf:Told->Bool):MM.Wf (yb0 200 (yb3 m v) okf [0]):=by
 have hS:=ziw wf (v:=v)
 have ht0:([0]:Told)∈SS m.next.length:=mem_SS.mpr ⟨by simp,by simp,fun z hz=>⟨0,ya4.mp hz,wf.pos⟩⟩
 have go:∀(d:Nat) (met:List Told) (leads:List (List Nat)),200 - leads.length=d->PW (yb3 m v) (SS m.next.length) 201 [0] met leads->PW (yb3 m v) (SS m.next.length) 200 [0] met leads->[0]∈met->MM.Wf (yb0 200 (yb3 m v) okf [0]):=by
  intro d
  induction d with
  | zero =>
   intro met leads hd p1 p2 h0
   have:=p1.many
   exact p2.wf (by omega) (by omega) h0 okf
  | succ d ih =>
   intro met leads hd p1 p2 h0
   have hm:=p1.many
   by_cases hlt:leads.length<met.length
   ·obtain⟨t,ht⟩:∃ t,met[leads.length]?=some t:=⟨_,yad hlt⟩
    exact ih _ _ (by simp only[ya7,yep];omega) (p1.next' hS (by omega) ht) (p2.next' hS (by omega) ht) (zll h0)
   ·exact p2.wf (by omega) (by omega) h0 okf
 exact go _ [[0]] [] rfl (PW.start ht0) (PW.start ht0) (by simp)
theorem zo7(m:yaf)(v:Nat)(p:Nat->Bool):((yae m.size).filter p).length<=(moreL m v ((yae m.size).filter p)).length/\((moreL m v ((yae m.size).filter p)).length=((yae m.size).filter p).length->moreL m v ((yae m.size).filter p)=(yae m.size).filter p):=by
 have hc:∀ x∈yae m.size,p x=((yae m.size).filter p).contains x:=fun x hx=>by
  cases h:p x with
  | true=>exact(ycg.mpr (ybu.mpr ⟨hx,h⟩)).symm
  | false =>
   cases g:((yae m.size).filter p).contains x with
   | false=>rfl
   | true =>
    have:=(ybu.mp (ycg.mp g)).2
    rw[h]at this
    cases this
 have e:=ylb hc
 have h2:=zj9 (p:=fun x=>((yae m.size).filter p).contains x) (p':=fun (q:Nat)=>((yae m.size).filter p).contains q || (((yae m.size).filter p).contains (m.on q 0) || ((yae m.size).filter p).contains (m.on q (2 ^ v)))) (fun x hx=>by simp only[hx,yll]) (yae m.size)
 rw[<- e]at h2
 exact h2
theorem zwd(m:yaf)(v:Nat):moreL m v (zbi m v)=zbi m v:=by
 unfold zbi
 rw[zgr m v m.size _ ⟨_,rfl⟩]
 have key:∀ f,(∃ p:Nat->Bool,itL m v f ((yae m.size).filter m.end_)=(yae m.size).filter p)/\(moreL m v (itL m v f ((yae m.size).filter m.end_))=itL m v f ((yae m.size).filter m.end_)\/f<=(itL m v f ((yae m.size).filter m.end_)).length):=by
  intro f
  induction f with
  | zero=>exact⟨⟨_,rfl⟩,.inr (ybj _)⟩
  | succ f ih =>
   obtain⟨⟨p,hp⟩,h⟩:=ih
   have ml:=zo7 m v p
   rw[<- hp]at ml
   rw[zgg]
   refine⟨⟨_,rfl⟩,?_⟩
   rcases h with h | h
   ·rw[h,h];exact .inl rfl
   ·by_cases c:(moreL m v (itL m v f ((yae m.size).filter m.end_))).length=(itL m v f ((yae m.size).filter m.end_)).length
    ·have:=ml.2 c
     rw[this,this];exact .inl rfl
    ·exact .inr (by omega)
 obtain⟨⟨p,hp⟩,h⟩:=key m.size
 rcases h with h | h
 ·exact h
 ·have ml:=zo7 m v p
  rw[<- hp]at ml
  refine ml.2 ?_
  have:(moreL m v (itL m v m.size ((yae m.size).filter m.end_))).length<=(yae m.size).length:=yfn _ _
  rw[ya5]at this
  omega
theorem zix{m:yaf}(gd:MM.Good m){v:Nat}(hv:v<4){q:Nat}(hq:q<m.next.length):(zbi m v).contains q=((zbi m v).contains (m.on q 0) || (zbi m v).contains (m.on q (2 ^ v))):=by
 have h1:=zhy (v:=v) (l:=zbi m v) hq
 rw[zwd]at h1
 cases c:(zbi m v).contains (m.on q 0) || (zbi m v).contains (m.on q (2 ^ v)) with
 | true=>rw[c]at h1;rw[h1];simp
 | false =>
  cases e:(zbi m v).contains q with
  | false=>rfl
  | true =>
   exfalso
   have sub:∀ f x,x<m.next.length->(itL m v f ((yae m.size).filter m.end_)).contains x=true->(itL m v (f+1) ((yae m.size).filter m.end_)).contains x=true:=fun f x hx h=>by
    rw[zgg,zhy hx,h];rfl
   have key:∀ f x,x<m.next.length->(itL m v f ((yae m.size).filter m.end_)).contains x=true->((itL m v f ((yae m.size).filter m.end_)).contains (m.on x 0) || (itL m v f ((yae m.size).filter m.end_)).contains (m.on x (2 ^ v)))=true:=by
    intro f
    induction f with
    | zero =>
     intro x hx h
     have he:=(ybu.mp (ycg.mp h)).2
     have:(List.contains ((yae m.size).filter m.end_) (m.on x 0))=true:=ycg.mpr (ybu.mpr ⟨yau.mpr (gd.wf.on_lt hx (by decide)),by rw[gd.zr x hx];exact he⟩)
     show(List.contains ((yae m.size).filter m.end_) (m.on x 0) || _)=true
     rw[this];rfl
    | succ f ih =>
     intro x hx h
     have l0:m.on x 0<m.next.length:=gd.wf.on_lt hx (by decide)
     have l2:m.on x (2 ^ v)<m.next.length:=gd.wf.on_lt hx (zo4 v hv)
     rw[zgg,zhy hx]at h
     have:((itL m v f ((yae m.size).filter m.end_)).contains (m.on x 0) || (itL m v f ((yae m.size).filter m.end_)).contains (m.on x (2 ^ v)))=true:=by
      rcases yfx.mp h with h | h
      ·exact ih x hx h
      ·exact h
     rcases yfx.mp this with h | h
     ·rw[sub f _ l0 h];rfl
     ·rw[sub f _ l2 h,Bool.or_true]
   unfold zbi at e c
   rw[zgr m v m.size _ ⟨_,rfl⟩]at e c
   rw[key _ q hq e]at c
   cases c
theorem zyq{m:yaf}(gd:MM.Good m){v:Nat}(hv:v<4){t:Told}(h:Sub m.next.length t):soOk m v (yb3 m v t 0)=soOk m v t:=by
 have ms:=zlj gd.wf (c:=0) hv (by decide) h
 have tv:ycp 0 v=2 ^ v:=by simp[ycp]
 rw[yef]
 unfold soOk
 rw[ydb,ydb]
 constructor
 ·rintro⟨x,hx,e⟩
  have hx':=(ms x).mp hx
  rw[yb1,ya6,ya6]at hx'
  rcases hx' with⟨p,hp,rfl⟩|⟨p,hp,rfl⟩
  ·obtain⟨q,rfl,hq⟩:=h.inn p hp
   rw[yan,yan]at e
   exact⟨_,hp,by rw[yan,zix gd hv hq,e];rfl⟩
  ·obtain⟨q,rfl,hq⟩:=h.inn p hp
   rw[yan,yan,tv]at e
   exact⟨_,hp,by rw[yan,zix gd hv hq,e,Bool.or_true]⟩
 ·rintro⟨p,hp,e⟩
  obtain⟨q,rfl,hq⟩:=h.inn p hp
  rw[yan,zix gd hv hq]at e
  rcases yfx.mp e with e | e
  ·exact⟨_,(ms _).mpr (ycu _ (ya6.mpr ⟨_,hp,rfl⟩)),by rw[yan,yan];exact e⟩
  ·exact⟨_,(ms _).mpr (yce _ (ya6.mpr ⟨_,hp,rfl⟩)),by rw[yan,yan,tv];exact e⟩
theorem ziy{m n:yaf}(gd:MM.Good m){v:Nat}(hv:v<4)(h:yfz m v=some n):MM.Good n:=by
 rw[zl8]at h
 by_cases c:yjm<(yfa (yb3 m v) (yjm+1) 0 [[0]]).length
 ·rw[if_pos c]at h
  cases h
 ·rw[if_neg c]at h
  rw[<- ya1 h]
  have wf:=zyp gd.wf c (soOk m v)
  refine MM.zcr wf (MM.zi9 wf fun x hx=>zyq gd hv (mem_SS.mp (MM.zfk (ziw gd.wf) _ _ _ (fun y hy=>?_) x hx)))
  rw[ya4.mp hy]
  exact mem_SS.mpr ⟨by simp,by simp,fun z hz=>⟨0,ya4.mp hz,gd.wf.pos⟩⟩
section
variable {P:yav}{w:World}{K:yac}{mg:Str->Option Value}{base:Heap}
def spAll(CM CS CT:Addr):Sp:=fun vs H Q E=>∃(x:Addr) (m:yaf) (v:Nat),vs=[.ref x,nV v]/\MachAt CM H x m/\MM.Good m/\m.next.length<=24/\v<4/\zo5 CM CS CT H (yjn m v) Q E
theorem z0f:FnScope ["machine","v"] ["machine","v"] (ze zdn):=⟨rfl,rfl,rfl,by decide +kernel,rfl,by decide +kernel,by decide +kernel⟩
theorem ok_all{f fO fS CM CS CT fI:Addr}{fd fdO fdS fdI:ya2}(F:Fun K "all_machine" "all_machine" zdn f fd)(B:TB mg)(MI:MkM K mg CM fI fdI)(GO:Gf K mg "others_machine" zbu ["machine"] fO fdO)(GS:Gf K mg "some_machine" zbg ["machine","v"] fS fdS)(NS:FnOk P w K mg base (CXE P w) 4 fS fdS ["machine","v"] (zo6 CM CS CT)):FnOk P w K mg base (CXE P w) 5 f fd ["machine","v"] (spAll CM CS CT):=by
 have NO:FnOk P w K mg base CX0 4 fO fdO ["machine"] (spOth CM):=(z0a GO.F B MI).mono (by decide)
 refine F.okE z0f (fun vs H Q E h=>?_) (fun cdv A outer s H vs Q E hr h=>?_)
 ·obtain⟨x,m,v,rfl,_⟩:=h
  rfl
 ·obtain⟨x,m,v,rfl,M,gd,hz,hv,g⟩:=h
  refine⟨_,zf (zk (zi NO hr rfl GO.m GO.F.kp GO.b .nil pass0 (za (zi NS hr rfl GS.m GS.F.kp GS.b .nil zv (za (zi NO hr rfl GO.m GO.F.kp GO.b .nil pass0 (za (pv 0) zb)) (za (pv 1) zb))) zb))),?_⟩
  refine⟨_,rfl,x,m,rfl,M,by rw[gd.wf.ends];omega,fun H1 a1 M1 s1=>?_⟩
  refine⟨_,rfl,a1,MM.neg m,v,rfl,M1,(MM.zf8 gd).wf,hz,hv,?_⟩
  have en:=MM.zfw gd
  unfold yjn at g
  rw[en]at g
  cases e:yfz (MM.neg m) v with
  | none =>
   rw[e]at g
   exact fun H' s'=>g H' (s1.trans s')
  | some n =>
   rw[e]at g
   have gn:=ziy (MM.zf8 gd) hv e
   have e2:=MM.zfw gn
   have g2:Gives CM CS H (MM.neg n) Q E:=by rw[<- e2];exact g
   refine⟨fun H2 a2 M2 h24 s2=>?_,fun H2 hbig s2=>g2.2 H2 hbig (s1.trans s2)⟩
   refine⟨a2,n,rfl,M2,by rw[gn.wf.ends];omega,fun H3 a3 M3 s3=>?_⟩
   exact g2.1 H3 a3 M3 h24 (s1.trans (s2.trans s3))
end
end My
end
section
namespace My
open PySem PySem.Spec PyProof.Rows L2
open Rows (Told LETTERS)
structure TR(mg:Str->Option Value):Prop where
 regs:∃ t,mg "REGISTERS" = some (.int 16 t)
 fact:∃ t,mg "MOST_FACTOR" = some (.int 4 t)
 b:∃ t,mg "MOST_B" = some (.int 100 t)
 rest:∃ t,mg "MOST_REST" = some (.int 8 t)
 op:∃ t,mg "MOST_OP" = some (.int 15 t)
section
variable {P:yav}{w:World}{K:yac}{mg:Str->Option Value}{base:Heap}
def spCw(CO:Addr):Sp:=fun vs H Q E=>∃ a lo hi:Int,vs=[.int a,.int lo,.int hi]/\(lo<=a/\a<=hi->Q .non H)/\(¬ (lo<=a/\a<=hi)->E (.ref CO) none H)
theorem z05:FnScope ["number","least","most"] ["number","least","most"] (ze zat):=⟨rfl,rfl,rfl,by decide +kernel,rfl,by decide +kernel,by decide +kernel⟩
theorem znl{f CO:Addr}{fd:ya2}(F:Fun K "check_within" "check_within" zat f fd)(TO:Exc K mg "OutOfRange" CO):FnOk P w K mg base (CXE P w) 1 f fd ["number","least","most"] (spCw CO):=by
 refine F.okE z05 (fun vs H Q E h=>?_) (fun cdv A outer s H vs Q E hr h=>?_)
 ·obtain⟨a,lo,hi,rfl,_⟩:=h
  rfl
 ·obtain⟨a,lo,hi,rfl,h1,h2⟩:=h
  refine⟨_,zf (zbk (zwo (zah zq1 (pv 0) (pv 1) (zaj _)) (zse (zah zgi (pv 0) (pv 2) (zaj _)))).pt (zf (ze2 TO rfl)) zap),?_⟩
  refine⟨_,rfl,_,rfl,_,_,rfl,rfl,_,rfl,?_⟩
  by_cases c1:a<lo
  ·refine ifT (decide_eq_true c1) ?_
   exact ifT rfl (h2 (by omega))
  ·refine ifF (decide_eq_false c1) ?_
   refine⟨_,rfl,_,rfl,_,_,rfl,rfl,_,rfl,?_⟩
   by_cases c2:hi<a
   ·exact ifT (decide_eq_true c2) (h2 (by omega))
   ·exact ifF (decide_eq_false c2) (h1 (by omega))
def InR(hi:Int)(ns:List Int):Prop:=∀ n∈ns,0<=n/\n<=hi
def spCl(CO:Addr)(hi:Int):Sp:=fun vs H Q E=>∃(p:Addr) (ns:List Int),vs=[.ref p]/\H p=some (.lst (ns.map V.int))/\(InR hi ns->Q .non H)/\(¬ InR hi ns->E (.ref CO) none H)
theorem zka{K:yac}{CO p:Addr}{ns:List Int}{lo hi:Int}{H:Hp}{E:XK}{D:Ends}{tb:TS}{σ:L2.St}{i0:Nat}(Sg:L2.St->Prop)(h0:Sg σ)(hp:H p=some (.lst (ns.map V.int)))(body:∀ σ n (D':Ends),Sg σ->(lo<=n/\n<=hi->∀ σ',Sg σ'->D'.nx σ' H)->(¬ (lo<=n/\n<=hi)->E (.ref CO) none H)->tb D' (σ.set i0 (some (.int n))) H)(good:(∀ n∈ns,lo<=n/\n<=hi)->∀ σ',Sg σ'->D.nx σ' H)(bad:¬ (∀ n∈ns,lo<=n/\n<=hi)->E (.ref CO) none H) :
  ∃ W:Nat->Nat->L2.St->Hp->Prop,(∃ m,W 0 m σ H)/\∀ i m σ H,W i m σ H ->
   ((Itl K p).stop i H/\D.nx σ H)\/((Itl K p).go i H/\∃ N:L2.St->Hp->Prop,(∀ σ' H',N σ' H'->∃ m',m'<m/\W (i+1) m' σ' H')/\∀ x H',(Itl K p).yld i H x H'->gName i0 x σ H' fun σ2 H2=>tb { D with nx:=N,ct:=N,bk:=D.nx } σ2 H2):=by
 refine znp (K:=K) (a:=p) (xs:=ns.map V.int) (fun i σ' H'=>H'=H/\Sg σ'/\∀ n∈ns.take i,lo<=n/\n<=hi) ⟨rfl,h0,fun n m=>by simp at m⟩ (fun i σ' H' _ ⟨e,_⟩=>by rw[e];exact SqL.of hp) (fun i x σ' H' hx ⟨e,hs,hk⟩=>?_) fun σ' H' ⟨e,hs,hk⟩=>?_
 ·subst e
  obtain⟨n,en,rfl⟩:=zcx hx
  refine body σ' n _ hs (fun hin σ'' hs'=>⟨rfl,hs',fun k hk'=>?_⟩) fun hout=>bad fun hall=>hout (hall n (yat en))
  rw[zfl en]at hk'
  rcases yb1.mp hk' with m | m
  ·exact hk k m
  ·rw[ya4.mp m];exact hin
 ·subst e
  rw[yab,ydq]at hk
  exact good hk σ' hs
theorem sc_cr:FnScope ["numbers","number"] ["numbers"] (ze zab):=⟨rfl,rfl,rfl,by decide +kernel,rfl,by decide +kernel,by decide +kernel⟩
theorem z06{f fW CO:Addr}{fd fdW:ya2}(F:Fun K "check_registers" "check_registers" zab f fd)(T:TR mg)(GW:Gf K mg "check_within" zat ["number","least","most"] fW fdW)(TO:Exc K mg "OutOfRange" CO):FnOk P w K mg base (CXE P w) 2 f fd ["numbers"] (spCl CO 15):=by
 have NW:FnOk P w K mg base (CXE P w) 1 fW fdW ["number","least","most"] (spCw CO):=znl GW.F TO
 obtain⟨tk,hk⟩:=T.regs
 refine F.okE sc_cr (fun vs H Q E h=>?_) (fun cdv A outer s H vs Q E hr h=>?_)
 ·obtain⟨p,ns,rfl,_⟩:=h
  rfl
 ·obtain⟨p,ns,rfl,hp,h1,h2⟩:=h
  refine⟨_,zf (zf6 ydg rfl (zba (pv 0)) (zt (i:=1) sc_cr.nd rfl (ybk rfl)) (zf (zad (zi NW hr rfl GW.m GW.F.kp GW.b .nil zv (za (pv 1) (za zg (za (zaa zea (zx (v:=.int 16) rfl hk ⟨tk,rfl⟩) zg) zb))))))),?_⟩
  refine⟨_,rfl,p,rfl,⟨_,SqL.of hp⟩,?_⟩
  refine zka (CO:=CO) (ns:=ns) (lo:=0) (hi:=15) (E:=E) (i0:=1) (fun σ=>∃ r:Option V,σ=[some (.ref p),r]) ⟨none,rfl⟩ hp ?_ (fun g σ' _=>h1 g) h2
  rintro σ n D' ⟨r,rfl⟩ a b
  refine⟨_,rfl,_,_,rfl,rfl,n,0,15,rfl,fun g=>a g _ ⟨some (.int n),rfl⟩,b⟩
theorem sc_cv:FnScope ["numbers","number"] ["numbers"] (ze za8):=⟨rfl,rfl,rfl,by decide +kernel,rfl,by decide +kernel,by decide +kernel⟩
theorem z07{f fW CO:Addr}{fd fdW:ya2}(F:Fun K "check_variables" "check_variables" za8 f fd)(N:TN mg)(GW:Gf K mg "check_within" zat ["number","least","most"] fW fdW)(TO:Exc K mg "OutOfRange" CO):FnOk P w K mg base (CXE P w) 2 f fd ["numbers"] (spCl CO 3):=by
 have NW:FnOk P w K mg base (CXE P w) 1 fW fdW ["number","least","most"] (spCw CO):=znl GW.F TO
 obtain⟨tk,hk⟩:=N.vars
 refine F.okE sc_cv (fun vs H Q E h=>?_) (fun cdv A outer s H vs Q E hr h=>?_)
 ·obtain⟨p,ns,rfl,_⟩:=h
  rfl
 ·obtain⟨p,ns,rfl,hp,h1,h2⟩:=h
  refine⟨_,zf (zf6 ydg rfl (zba (pv 0)) (zt (i:=1) sc_cv.nd rfl (ybk rfl)) (zf (zad (zi NW hr rfl GW.m GW.F.kp GW.b .nil zv (za (pv 1) (za zg (za (zaa zea (zx (v:=.int 4) rfl hk ⟨tk,rfl⟩) zg) zb))))))),?_⟩
  refine⟨_,rfl,p,rfl,⟨_,SqL.of hp⟩,?_⟩
  refine zka (CO:=CO) (ns:=ns) (lo:=0) (hi:=3) (E:=E) (i0:=1) (fun σ=>∃ r:Option V,σ=[some (.ref p),r]) ⟨none,rfl⟩ hp ?_ (fun g σ' _=>h1 g) h2
  rintro σ n D' ⟨r,rfl⟩ a b
  refine⟨_,rfl,_,_,rfl,rfl,n,0,3,rfl,fun g=>a g _ ⟨some (.int n),rfl⟩,b⟩
def Cond(b:Int)(a:List Int):Prop:=(-100<=b/\b<=100)/\a.length=4/\∀ x∈a,-4<=x/\x<=4
def spCc(CO:Addr):Sp:=fun vs H Q E=>∃(b:Int) (p:Addr) (a:List Int),vs=[.int b,.ref p]/\H p=some (.lst (a.map V.int))/\(Cond b a->Q .non H)/\(¬ Cond b a->E (.ref CO) none H)
theorem sc_cc:FnScope ["b","factors","factor"] ["b","factors"] (ze zbq):=⟨rfl,rfl,rfl,by decide +kernel,rfl,by decide +kernel,by decide +kernel⟩
theorem z08{f fW CO:Addr}{fd fdW:ya2}(F:Fun K "check_condition" "check_condition" zbq f fd)(B:TB mg)(N:TN mg)(T:TR mg)(GW:Gf K mg "check_within" zat ["number","least","most"] fW fdW)(TO:Exc K mg "OutOfRange" CO):FnOk P w K mg base (CXE P w) 2 f fd ["b","factors"] (spCc CO):=by
 have NW:FnOk P w K mg base (CXE P w) 1 fW fdW ["number","least","most"] (spCw CO):=znl GW.F TO
 obtain⟨t1,k1⟩:=N.vars
 obtain⟨t2,k2⟩:=T.b
 obtain⟨t3,k3⟩:=T.fact
 refine F.okE sc_cc (fun vs H Q E h=>?_) (fun cdv A outer s H vs Q E hr h=>?_)
 ·obtain⟨b,p,a,rfl,_⟩:=h
  rfl
 ·obtain⟨b,p,a,rfl,hp,h1,h2⟩:=h
  refine⟨_,zc (zad (zi NW hr rfl GW.m GW.F.kp GW.b .nil zv (za (pv 0) (za (zbl za5 (zx (v:=.int 100) rfl k2 ⟨t2,rfl⟩)) (za (zx (v:=.int 100) rfl k2 ⟨t2,rfl⟩) zb)))))
   (zc (zad (zi NW hr rfl GW.m GW.F.kp GW.b .nil zv (za (zaf zag (by rfl) B.len yb9 (za (pv 1) zb)) (za (zx (v:=.int 4) rfl k1 ⟨t1,rfl⟩) (za (zx (v:=.int 4) rfl k1 ⟨t1,rfl⟩) zb)))))
   (zf (zf6 ydg rfl (zba (pv 1)) (zt (i:=2) sc_cc.nd rfl (ybk rfl)) (zf (zad (zi NW hr rfl GW.m GW.F.kp GW.b .nil zv (za (pv 2) (za (zbl za5 (zx (v:=.int 4) rfl k3 ⟨t3,rfl⟩)) (za (zx (v:=.int 4) rfl k3 ⟨t3,rfl⟩) zb))))))))),?_⟩
  refine⟨_,rfl,_,rfl,b,-100,100,rfl,fun c1=>?_,fun c=>h2 fun z=>c z.1⟩
  refine⟨_,rfl,p,_,rfl,.inl (SqL.of hp),(a.length:Int),4,4,(by rw[yab];rfl),fun c2=>?_,fun c=>h2 fun z=>c (by rw[z.2.1];decide)⟩
  refine⟨_,rfl,p,rfl,⟨_,SqL.of hp⟩,?_⟩
  refine zka (CO:=CO) (ns:=a) (lo:=-4) (hi:=4) (E:=E) (i0:=2) (fun σ=>∃ r:Option V,σ=[some (.int b),some (.ref p),r]) ⟨none,rfl⟩ hp ?_ (fun g σ' _=>h1 ⟨c1,by omega,g⟩) fun c=>h2 fun z=>c z.2.2
  rintro σ n D' ⟨r,rfl⟩ g b'
  refine⟨_,rfl,_,rfl,n,-4,4,rfl,fun g'=>g g' _ ⟨some (.int n),rfl⟩,b'⟩
end
end My
end
section
namespace My
open PySem PySem.Spec PyProof.Rows L2
open Rows (Told LETTERS)
theorem z09(a:List Int):∀ x:Told,(yet a x 0 == [0])=(x == [0])
 | []=>rfl
 | [z]=>by
  show((if (z - ycd a 0) % 2=0 then [(z - ycd a 0) / 2] else []) == [0])=([z] == [0])
  rw[MM.zol,yls,yef]
  by_cases c:z % 2=0
  ·rw[if_pos c];simp;omega
  ·rw[if_neg c];simp;omega
 | y::z::t=>by simp[yet]
theorem zyr{a:List Int}(h:Small a){b:Int}(hb:-100<=b/\b<=100):MM.Good (yj9 a b):=by
 have wf:=zde (ziq h) (yam _ (zfm hb)) (by show SE.length<=400;decide) (fun t=>t == [0])
 exact MM.zcr wf (MM.zi9 wf fun x _=>z09 a x)
theorem zt8{a:List Int}(h:Small a){b:Int}(hb:-100<=b/\b<=100):MM.Good (yin a b):=by
 rw[ztt]
 have wf:=zde (zir h) (zfm hb) (by rw[ztu];decide) zhc (most:=yh4)
 refine MM.zcr wf (MM.zi9 wf fun x _=>?_)
 unfold zhc zgd
 rw[MM.zol,yls]
 show decide (0<=x.getD 0 0 / 2)=decide (0<=x.getD 0 0)
 exact decide_eq_decide.mpr (by omega)
theorem zt9{a:List Int}{b:Int}{k:Nat}(hk:1<=k/\k<=8):MM.Good (yka a b (k:Int)):=by
 have wf:=zde (step:=zhw a (k:Int)) (zgo hk.1) (zlg (zfn b hk.1) (zfn 1 hk.1)) (show(SR k).length<=yh4 by have:=ztw hk.2;show(SR k).length<=400;omega) zlf
 refine MM.zcr wf (MM.zi9 wf fun x hx=>?_)
 obtain⟨y,z,rfl,h1,h2,_,_⟩:=zrx (MM.zfk (zgo (a:=a) hk.1) _ _ _ (fun t ht=>by rw[ya4.mp ht];exact zlg (zfn _ hk.1) (zfn _ hk.1)) x hx)
 show((y - z*ycd a 0) % (k:Int) == 0)=(y == 0)
 rw[MM.zol,ylr,yls]
 rw[Int.emod_eq_of_lt h1 h2]
theorem zqs{m n:yaf}(gm:MM.Good m)(gn:MM.Good n)(op:Nat):MM.Good (yfo op m n):=by
 rw[zm4]
 exact MM.zcr (znk gm.wf gn.wf op) (zwt gm gn op)
theorem zys{m:yaf}(gd:MM.Good m){v u:Nat}(hv:v<4)(hu:u<4):MM.Good (yhn m v u):=by
 rw[zry]
 have wf:=zde (zgp gd.wf hv hu) (zlh (q:=0) gd.wf.pos) (by rw[ztz];exact yao _) (swOk m) (most:=m.size)
 refine MM.zcr wf (MM.zi9 wf fun x hx=>?_)
 obtain⟨q,rfl,hq⟩:=zni (MM.zfk (zgp gd.wf hv hu) _ _ _ (fun t ht=>by rw[ya4.mp ht];exact zlh (q:=0) gd.wf.pos) x hx)
 have e:yd9 0 v u=0:=by simp[yd9]
 unfold swOk zit
 rw[e]
 exact gd.zr q hq
theorem zm5:MM.Good yh5:=by
 have wf:MM.Wf yh5:=by
  have:=zde (step:=fun _ _=>[0]) (S:=[[0]]) (most:=1) (t0:=[0]) (fun x _ c _=>by simp) (by simp) (by decide) (fun _=>false)
  exact this
 refine⟨wf,fun i j hi hj _=>?_,fun q hq=>?_⟩
 ·have h1:i<1:=hi
  have h2:j<1:=hj
  omega
 ·have h1:q<1:=hq
  have h0:q=0:=by omega
  subst h0
  rfl
def fReg(l:Addr):List (Str × V):=[("machines",.ref l)]
structure RegAt(CR CM:Addr)(H:Hp)(a l:Addr)(st:List yaf):Prop where
 ex:∃ dx ms,H a=some (.ins CR dx (fReg l))/\H l=some (.lst (ms.map V.ref))/\Paired (MachAt CM H) ms st
 n:st.length=16
 good:∀ m∈st,MM.Good m/\m.next.length<=24
theorem RegAt.same{CR CM:Addr}{H H':Hp}{a l:Addr}{st:List yaf}(R:RegAt CR CM H a l st)(s:Same H H'):RegAt CR CM H' a l st:=by
 obtain⟨dx,ms,h1,h2,h3⟩:=R.ex
 exact⟨⟨dx,ms,s _ _ h1,s _ _ h2,ygq.mapP h3 fun _ _ z=>z.same s⟩,R.n,R.good⟩
theorem MachAt.up{C:Addr}{H:Hp}{a l:Addr}{m:yaf}{xs:List V}{o:HO}(M:MachAt C H a m)(hl:H l=some (.lst xs)):MachAt C (upd H l o) a m:=by
 obtain⟨dx,e,k,rs,h1,h2,h3,h4⟩:=M.ex
 have up:∀ b u,H b=some u->u≠.lst xs->(upd H l o) b=some u:=fun b u e n=>by
  rw[zh (za9 e hl n)]
  exact e
 exact⟨dx,e,k,rs,up _ _ h1 (by intro z;cases z),up _ _ h2 (by intro z;cases z),up _ _ h3 (by intro z;cases z),h4.keep fun b xs' e=>up _ _ e (by intro z;cases z)⟩
structure TG'(K:yac)(CR:Addr):Prop where
 cl:Cls K CR
 nM:NoAttr K CR "machines"
section
variable {P:yav}{w:World}{K:yac}{mg:Str->Option Value}{base:Heap}
def zqt(CR CM:Addr):Sp:=fun vs H Q _=>∃ a dx,vs=[.ref a]/\H a=some (.ins CR dx [])/\∀ H' l,RegAt CR CM H' a l yh6->H l=none->Keep [a] H H'->Q .non H'
theorem sc_ri:FnScope ["self","r"] ["self"] (ze zcf):=⟨rfl,rfl,rfl,by decide +kernel,rfl,by decide +kernel,by decide +kernel⟩
theorem z1a{f CR CM fE fI:Addr}{fd fdE fdI:ya2}(F:Fun K "__init__" "Registers.__init__" zcf f fd)(T:TG' K CR)(B:TB mg)(N:TN mg)(R:TR mg)(MI:MkM K mg CM fI fdI)(GE:Gf K mg "empty_machine" zcs [] fE fdE):FnOk P w K mg base CX0 4 f fd ["self"] (zqt CR CM):=by
 have NE:FnOk P w K mg base CX0 3 fE fdE [] (spEmp CM):=z0c GE.F B N MI
 obtain⟨tk,hk⟩:=R.regs
 refine F.ok sc_ri (fun vs H Q E h=>?_) (fun cdv A outer s H vs Q E hr h=>?_)
 ·obtain⟨a,dx,rfl,_⟩:=h
  rfl
 ·obtain⟨a,dx,rfl,e0,k⟩:=h
  refine⟨_,zf (zes (pv 0) (zaq (te:=tCall (spEmp CM) [] E0 tNil) (own:=[("r",1)]) rfl sc_ri.nd (zau rfl B.range (za (zx (v:=.int 16) rfl hk ⟨tk,rfl⟩) zb)) (show BlkOk ["self","r"] (ze zcf) _ _ from zu (by decide +kernel)) (fun _ _ _ _ _=>zt (i:=1) sc_ri.nd rfl (ybk rfl)) (fun _ _ _ _ _=>zac)
   (fun _ _ _ _ _=>zuv NE hr rfl GE.m GE.F.kp GE.b .nil pass0)) rfl),?_⟩
  refine⟨_,rfl,by decide,by decide,fun D hD=>?_⟩
  refine zey (lo:=0) (n:=16) (g:=gName 1) (tt:=tYes) (te:=tCall (spEmp CM) [] E0 tNil) (vs:=[1]) (fun i H2=>Same H H2/\∃ ms,H2 D=some (.lst (ms.map V.ref))/\Paired (MachAt CM H2) ms (yby i yh5)) ⟨Same.new hD,[],zd,.nil⟩ (fun i H2 hi ⟨s2,ms,e2,q2⟩=>?_) fun H2 ⟨s2,ms,e2,q2⟩=>?_
  ·refine⟨rfl,?_⟩
   refine yes ?_
   refine⟨rfl,fun H3 x M3 s3=>?_⟩
   have e3:=s3 _ _ e2
   have hms:ms.length=i:=by rw[ybh q2,yi8]
   refine⟨_,e3,za3 (by rw[yab];omega),?_,ms++[x],by rw[zd,ya9];rfl,?_⟩
   ·exact fun b o e=>by rw[zh (zn e hD)];exact s3 _ _ (s2 _ _ e)
   ·rw[List.replicate_succ']
    exact zdr (ygq.mapP q2 fun _ _ z=>(z.same s3).up e3) (M3.up e3)
  ·have e1:=s2 _ _ e0
   refine⟨_,rfl,a,CR,dx,_,rfl,e1,T.cl,T.nM,(by show 0<1000;decide),?_⟩
   have na:∀ b o,H2 b=some o->o≠.ins CR dx []->(upd H2 a (.ins CR dx (putF "machines" (.ref D) []))) b=some o:=fun b o e n=>by
    rw[zh (za9 e e1 n)]
    exact e
   refine k _ D ⟨⟨dx,ms,zd,na _ _ e2 (by intro z;cases z),ygq.mapP q2 fun y m z=>?_⟩,by decide,fun m hm=>?_⟩ hD fun b o e hb=>?_
   ·obtain⟨dx',ee,ll,rs,h1,h2,h3,h4⟩:=z.ex
    exact⟨dx',ee,ll,rs,na _ _ h1 (by intro z;unfold fMach at z;cases z),na _ _ h2 (by intro z;cases z),na _ _ h3 (by intro z;cases z),h4.keep fun b xs' e=>na _ _ e (by intro z;cases z)⟩
   ·have:m=yh5:=List.eq_of_mem_replicate hm
    subst this
    exact⟨zm5,by decide⟩
   ·rw[zh (fun z=>hb (by simp[z]))]
    exact s2 _ _ e
def spPut(CR CM:Addr):Sp:=fun vs H Q _=>∃(a l x:Addr) (r:Nat) (st:List yaf) (m:yaf),vs=[.ref a,nV r,.ref x]/\RegAt CR CM H a l st/\r<16/\MachAt CM H x m/\MM.Good m/\m.next.length<=24 /\
 ∀ H' q,RegAt CR CM H' a l (st.set r m)->H' q=some (.lst [nV m.size])->H q=none->Keep [l] H H'->Q (.ref q) H'
theorem z0g:FnScope ["self","r","machine"] ["self","r","machine"] (ze zct):=⟨rfl,rfl,rfl,by decide +kernel,rfl,by decide +kernel,by decide +kernel⟩
theorem zlm{α β:Type}{F:α->β->Prop}:∀{l:List α} {r:List β} {i:Nat} {x:α} {y:β},Paired F l r->F x y->Paired F (l.set i x) (r.set i y)
 | _,_,_,_,_,.nil,_=>by simp;exact .nil
 | _,_,0,_,_,.cons _ t,h=>.cons h t
 | _,_,i+1,_,_,.cons q t,h=>.cons q (zlm t h)
theorem zhd{f CR CM:Addr}{fd:ya2}(F:Fun K "put" "Registers.put" zct f fd)(T:TG' K CR)(TMm:TM K mg CM)(B:TB mg):FnOk P w K mg base CX0 1 f fd ["self","r","machine"] (spPut CR CM):=by
 refine F.ok z0g (fun vs H Q E h=>?_) (fun cdv A outer s H vs Q E hr h=>?_)
 ·obtain⟨a,l,x,r,st,m,rfl,_⟩:=h
  rfl
 ·obtain⟨a,l,x,r,st,m,rfl,R,hr16,M,gd,hz,k⟩:=h
  obtain⟨dx,ms,h1,h2,h3⟩:=R.ex
  refine⟨_,zc (zzc (pv 2) (zzb (zq (pv 0) rfl) (pv 1) zux)) (zf (zk (zy (za (zaf zag (by rfl) B.len yb9 (za (zq (pv 2) rfl) zb)) zb)))),?_⟩
  have hml:ms.length=16:=by rw[ybh h3,R.n]
  refine⟨_,rfl,_,rfl,a,CR,dx,_,_,rfl,h1,T.cl,T.nM,rfl,_,rfl,l,_,_,r,rfl,rfl,h2,?_,?_⟩
  ·rw[yab,hml]
   unfold ixN
   rw[if_pos (by show(0:Int)<=(r:Int);omega)]
   simp only[yan]
   exact if_pos (by omega)
  have M':=M.up (o:=.lst ((ms.map V.ref).set r (.ref x))) h2
  obtain⟨dm,em,lm,rs,g1,g2,g3,g4⟩:=M'.ex
  refine⟨_,rfl,x,CM,dm,_,_,rfl,g1,TMm.cl,TMm.nE,zbe _ _,em,_,rfl,.inr (SqT.of g2),(by show 1<=yay;rw[ybr];decide),fun q hq=>?_⟩
  have hql:q≠l:=fun z=>by rw[z,zd]at hq;cases hq
  have hqn:H q=none:=by rw[zh hql]at hq;exact hq
  have ez:((m.ends.map bV).length:Int)=((m.size:Nat):Int):=by rw[yab,gd.wf.ends];rfl
  refine k _ q ⟨⟨dx,ms.set r x,?_,?_,?_⟩,?_,fun m' hm'=>?_⟩ ?_ hqn fun b o e hb=>?_
  ·rw[zh (zn h1 hqn),zh (za9 h1 h2 (by intro z;cases z))]
   exact h1
  ·rw[zh (yee hql),zd,<- List.map_set]
  ·exact ygq.mapP (zlm (ygq.mapP h3 fun _ _ z=>z.up h2) M') fun _ _ z=>z.same (Same.new hq)
  ·rw[yja];exact R.n
  ·rcases List.mem_or_eq_of_mem_set hm' with h | h
   ·exact R.good m' h
   ·rw[h];exact⟨gd,hz⟩
  ·rw[zd,ez];rfl
  ·rw[zh (zn e hqn),zh (fun z=>hb (by simp[z]))]
   exact e
end
end My
end
section
namespace My
open PySem PySem.Spec PyProof.Rows L2
open Rows (Told LETTERS)
def Puts(CR CM CS CT a l:Addr)(st:List yaf)(H:Hp)(r:Nat)(o:Option yaf)(Q:VK)(E:XK):Prop:=match o with
 | none=>∀ H',Same H H'->E (.ref CT) none H'
 | some m=>(m.next.length<=24->∀ H' q,RegAt CR CM H' a l (st.set r m)->H' q=some (.lst [nV m.size])->H q=none->Keep [l] H H'->Q (.ref q) H')/\(24<m.next.length->∀ H',Same H H'->E (.ref CS) none H')
structure MkP(K:yac)(CR fP:Addr)(dP:ya2):Prop where
 T:TG' K CR
 F:Fun K "put" "Registers.put" zct fP dP
 b:Binds K dP ["self","r","machine"] []
 m:Meth K CR "put" fP
section
variable {P:yav}{w:World}{K:yac}{mg:Str->Option Value}{base:Heap}
theorem zfa{CR CM CS CT a l:Addr}{st:List yaf}{H H2:Hp}{r:Nat}{m:yaf}{Q:VK}{E:XK}(R:RegAt CR CM H a l st)(s:Same H H2)(hr:r<16)(gd:MM.Good m)(hP:Puts CR CM CS CT a l st H r (some m) Q E) :
  Gives CM CS H2 m (fun v H3=>spPut CR CM [.ref a,nV r,v] H3 Q E0) E:=by
 refine⟨fun H3 x M h24 s3=>⟨a,l,x,r,st,m,rfl,R.same (s.trans s3),hr,M,gd,h24,fun H4 q R4 e4 n4 k4=>?_⟩,fun H3 hbig s3=>hP.2 hbig H3 (s.trans s3)⟩
 exact hP.1 h24 H4 q R4 e4 ((s.trans s3).free n4) fun b o e hb=>k4 b o ((s.trans s3) b o e) hb
theorem zm6{CR CM CS CT a l:Addr}{st:List yaf}{H H2:Hp}{r:Nat}{o:Option yaf}{Q:VK}{E:XK}(R:RegAt CR CM H a l st)(s:Same H H2)(hr:r<16)(gd:∀ m,o=some m->MM.Good m)(hP:Puts CR CM CS CT a l st H r o Q E) :
  zo5 CM CS CT H2 o (fun v H3=>spPut CR CM [.ref a,nV r,v] H3 Q E0) E:=by
 cases o with
 | none=>exact fun H' s'=>hP H' (s.trans s')
 | some m=>exact zfa (CT:=CT) R s hr (gd m rfl) hP
theorem in1{hi:Int}{r:Nat}:InR hi [(r:Int)]<->(r:Int)<=hi:=by
 constructor
 ·intro h;exact(h _ yaq).2
 ·intro h n hn;rw[ya4.mp hn];exact⟨yca _,h⟩
theorem in2{hi:Int}{r a:Nat}:InR hi [(r:Int),(a:Int)]<->(r:Int)<=hi/\(a:Int)<=hi:=by
 constructor
 ·intro h;exact⟨(h _ yaq).2,(h _ (yam _ yaq)).2⟩
 ·intro h n hn
  rcases yap.mp hn with e | hn
  ·rw[e];exact⟨yca _,h.1⟩
  ·rw[ya4.mp hn];exact⟨yca _,h.2⟩
theorem in3{hi:Int}{r a b:Nat}:InR hi [(r:Int),(a:Int),(b:Int)]<->(r:Int)<=hi/\(a:Int)<=hi/\(b:Int)<=hi:=by
 constructor
 ·intro h;exact⟨(h _ yaq).2,(h _ (yam _ yaq)).2,(h _ (yam _ (yam _ yaq))).2⟩
 ·intro h n hn
  rcases yap.mp hn with e | hn
  ·rw[e];exact⟨yca _,h.1⟩
  ·rcases yap.mp hn with e | hn
   ·rw[e];exact⟨yca _,h.2.1⟩
   ·rw[ya4.mp hn];exact⟨yca _,h.2.2⟩
theorem za0:1<=yay:=by rw[ybr];decide
theorem RegAt.obj{CR CM:Addr}{H:Hp}{a l:Addr}{st:List yaf}(R:RegAt CR CM H a l st):∃ dx,H a=some (.ins CR dx (fReg l)):=by
 obtain⟨dx,_,h,_⟩:=R.ex
 exact⟨dx,h⟩
def zua(CR CM CO CS CT:Addr):Sp:=fun vs H Q E=>∃(a l p:Addr) (st:List yaf) (r k:Nat) (b:Int) (f:List Int),vs=[.ref a,nV r,nV k,.int b,.ref p]/\RegAt CR CM H a l st/\H p=some (.lst (f.map V.int)) /\
 (¬ (r<16/\k<=1/\Cond b f)->∀ H',Same H H'->E (.ref CO) none H')/\(r<16/\k<=1/\Cond b f->Puts CR CM CS CT a l st H r (some (if k=0 then yj9 f b else yin f b)) Q E)
theorem zyt:FnScope ["self","r","k","b","factors"] ["self","r","k","b","factors"] (ze zdj):=⟨rfl,rfl,rfl,by decide +kernel,rfl,by decide +kernel,by decide +kernel⟩
theorem zyu{f CR CM CO CS CT fP fR fW fC fE fA:Addr}{fd dP dR dW dC dE dA:ya2}(F:Fun K "line" "Registers.line" zdj f fd)(B:TB mg)(TMm:TM K mg CM)(MP:MkP K CR fP dP)(GR:Gf K mg "check_registers" zab ["numbers"] fR dR)(NR:FnOk P w K mg base (CXE P w) 2 fR dR ["numbers"] (spCl CO 15))(GW:Gf K mg "check_within" zat ["number","least","most"] fW dW)(NW:FnOk P w K mg base (CXE P w) 1 fW dW ["number","least","most"] (spCw CO))(GC:Gf K mg "check_condition" zbq ["b","factors"] fC dC)(NC:FnOk P w K mg base (CXE P w) 2 fC dC ["b","factors"] (spCc CO))(GE:Gf K mg "equal_machine" zb1 ["b","factors"] fE dE)(NE:FnOk P w K mg base (CXE P w) 4 fE dE ["b","factors"] (spEq CM CS))(GA:Gf K mg "at_most_machine" zbp ["b","factors"] fA dA)(NA:FnOk P w K mg base (CXE P w) 4 fA dA ["b","factors"] (ztv CM CS)) :
  FnOk P w K mg base (CXE P w) 5 f fd ["self","r","k","b","factors"] (zua CR CM CO CS CT):=by
 have NP:FnOk P w K mg base CX0 4 fP dP ["self","r","machine"] (spPut CR CM):=(zhd MP.F MP.T TMm B).mono (by decide)
 have NR':=NR.mono (k:=4) (by decide)
 have NW':=NW.mono (k:=4) (by decide)
 have NC':=NC.mono (k:=4) (by decide)
 refine F.okE zyt (fun vs H Q E h=>?_) (fun cdv A outer s H vs Q E hr h=>?_)
 ·obtain⟨a,l,p,st,r,k,b,g,rfl,_⟩:=h
  rfl
 ·obtain⟨a,l,p,st,r,k,b,fs,rfl,R,hp,hbad,hgood⟩:=h
  refine⟨_,zc (zad (zi NR' hr rfl GR.m GR.F.kp GR.b .nil zv (za (zy (za (pv 1) zb)) zb)))
   (zc (zad (zi NW' hr rfl GW.m GW.F.kp GW.b .nil zv (za (pv 2) (za zg (za zg zb)))))
   (zc (zad (zi NC' hr rfl GC.m GC.F.kp GC.b .nil zv (za (pv 3) (za (pv 4) zb))))
   (zc (zbk (zah zco (pv 2) zg (zaj _)) (zf (zk (zai (pv 0) MP.T.cl MP.m NP hr MP.b .nil pass0 (za (pv 1) (za (zi NE hr rfl GE.m GE.F.kp GE.b .nil zv (za (pv 3) (za (pv 4) zb))) zb))))) zap)
   (zf (zk (zai (pv 0) MP.T.cl MP.m NP hr MP.b .nil pass0 (za (pv 1) (za (zi NA hr rfl GA.m GA.F.kp GA.b .nil zv (za (pv 3) (za (pv 4) zb))) zb)))))))),?_⟩
  refine⟨_,rfl,za0,fun q hq=>?_⟩
  have s1:Same H (upd H q (.lst [nV r])):=Same.new hq
  refine⟨q,[(r:Int)],rfl,zd,fun c1=>?_,fun c=>hbad (fun z=>c (in1.mpr (by omega))) _ s1⟩
  have r16:=in1.mp c1
  refine⟨_,rfl,(k:Int),0,1,rfl,fun c2=>?_,fun c=>hbad (fun z=>c ⟨yca _,by omega⟩) _ s1⟩
  refine⟨_,rfl,_,rfl,b,p,fs,rfl,s1 _ _ hp,fun c3=>?_,fun c=>hbad (fun z=>c z.2.2) _ s1⟩
  have hg:=hgood ⟨by omega,by omega,c3⟩
  obtain⟨dx,h1⟩:=(R.same s1).obj
  have sm:Small fs:=c3.2
  have hb:=c3.1
  refine⟨_,rfl,rfl,_,rfl,?_⟩
  by_cases k0:k=0
  ·subst k0
   refine ifT (by rfl) ?_
   refine⟨_,rfl,a,dx,_,rfl,h1,rfl,_,rfl,_,rfl,_,rfl,b,p,fs,rfl,s1 _ _ hp,sm,hb.1,hb.2,?_⟩
   exact zfa (CT:=CT) R s1 (by omega) (zyr sm hb) hg
  ·refine ifF (decide_eq_false fun e=>k0 (by injection e with e;exact yf5.mp e)) ?_
   rw[if_neg k0]at hg
   refine⟨_,rfl,a,dx,_,rfl,h1,rfl,_,rfl,_,rfl,_,rfl,b,p,fs,rfl,s1 _ _ hp,sm,hb.1,hb.2,?_⟩
   exact zfa (CT:=CT) R s1 (by omega) (zt8 sm hb) hg
end
end My
end
section
namespace My
open PySem PySem.Spec PyProof.Rows L2
open Rows (Told LETTERS)
theorem RegAt.get{CR CM:Addr}{H:Hp}{a l:Addr}{st:List yaf}(R:RegAt CR CM H a l st){i:Nat}(hi:i<16):∃(dx:Addr) (ms:List Addr) (x:Addr),H a=some (.ins CR dx (fReg l))/\H l=some (.lst (ms.map V.ref))/\(ms.map V.ref)[i]?=some (V.ref x)/\MachAt CM H x (ybf st i)/\MM.Good (ybf st i)/\(ybf st i).next.length<=24:=by
 obtain⟨dx,ms,h1,h2,h3⟩:=R.ex
 have hs:i<st.length:=by rw[R.n];exact hi
 have hm:ms.length=st.length:=ybh h3
 have hi':i<ms.length:=by omega
 obtain⟨m,e1,e2⟩:=za2 h3 (yad hi')
 have er:ybf st i=m:=by
  unfold ybf
  rw[yal,e1]
  rfl
 refine⟨dx,ms,ms[i],h1,h2,by rw[yaj,yad hi'];rfl,by rw[er];exact e2,?_⟩
 rw[er]
 exact R.good m (yat e1)
section
variable {P:yav}{w:World}{K:yac}{mg:Str->Option Value}{base:Heap}
def spRst(CR CM CO CS CT:Addr):Sp:=fun vs H Q E=>∃(a l p:Addr) (st:List yaf) (r m:Nat) (b:Int) (f:List Int),vs=[.ref a,nV r,nV m,.int b,.ref p]/\RegAt CR CM H a l st/\H p=some (.lst (f.map V.int)) /\
 (¬ (r<16/\(1<=m/\m<=8)/\Cond b f)->∀ H',Same H H'->E (.ref CO) none H')/\(r<16/\(1<=m/\m<=8)/\Cond b f->Puts CR CM CS CT a l st H r (some (yka f b (m:Int))) Q E)
theorem z0h:FnScope ["self","r","m","b","factors"] ["self","r","m","b","factors"] (ze zdk):=⟨rfl,rfl,rfl,by decide +kernel,rfl,by decide +kernel,by decide +kernel⟩
theorem z0i{f CR CM CO CS CT fP fR fW fC fE:Addr}{fd dP dR dW dC dE:ya2}(F:Fun K "rest" "Registers.rest" zdk f fd)(B:TB mg)(TMm:TM K mg CM)(T:TR mg)(MP:MkP K CR fP dP)(GR:Gf K mg "check_registers" zab ["numbers"] fR dR)(NR:FnOk P w K mg base (CXE P w) 2 fR dR ["numbers"] (spCl CO 15))(GW:Gf K mg "check_within" zat ["number","least","most"] fW dW)(NW:FnOk P w K mg base (CXE P w) 1 fW dW ["number","least","most"] (spCw CO))(GC:Gf K mg "check_condition" zbq ["b","factors"] fC dC)(NC:FnOk P w K mg base (CXE P w) 2 fC dC ["b","factors"] (spCc CO))(GE:Gf K mg "rest_machine" zb8 ["m","b","factors"] fE dE)(NE:FnOk P w K mg base (CXE P w) 4 fE dE ["m","b","factors"] (ztx CM CS)) :
  FnOk P w K mg base (CXE P w) 5 f fd ["self","r","m","b","factors"] (spRst CR CM CO CS CT):=by
 have NP:FnOk P w K mg base CX0 4 fP dP ["self","r","machine"] (spPut CR CM):=(zhd MP.F MP.T TMm B).mono (by decide)
 have NR':=NR.mono (k:=4) (by decide)
 have NW':=NW.mono (k:=4) (by decide)
 have NC':=NC.mono (k:=4) (by decide)
 obtain⟨tk,hk⟩:=T.rest
 refine F.okE z0h (fun vs H Q E h=>?_) (fun cdv A outer s H vs Q E hr h=>?_)
 ·obtain⟨a,l,p,st,r,k,b,g,rfl,_⟩:=h
  rfl
 ·obtain⟨a,l,p,st,r,k,b,fs,rfl,R,hp,hbad,hgood⟩:=h
  refine⟨_,zc (zad (zi NR' hr rfl GR.m GR.F.kp GR.b .nil zv (za (zy (za (pv 1) zb)) zb)))
   (zc (zad (zi NW' hr rfl GW.m GW.F.kp GW.b .nil zv (za (pv 2) (za zg (za (zx (v:=.int 8) rfl hk ⟨tk,rfl⟩) zb)))))
   (zc (zad (zi NC' hr rfl GC.m GC.F.kp GC.b .nil zv (za (pv 3) (za (pv 4) zb))))
   (zf (zk (zai (pv 0) MP.T.cl MP.m NP hr MP.b .nil pass0 (za (pv 1) (za (zi NE hr rfl GE.m GE.F.kp GE.b .nil zv (za (pv 2) (za (pv 3) (za (pv 4) zb)))) zb))))))),?_⟩
  refine⟨_,rfl,za0,fun q hq=>?_⟩
  have s1:Same H (upd H q (.lst [nV r])):=Same.new hq
  refine⟨q,[(r:Int)],rfl,zd,fun c1=>?_,fun c=>hbad (fun z=>c (in1.mpr (by omega))) _ s1⟩
  have r16:=in1.mp c1
  refine⟨_,rfl,(k:Int),1,8,rfl,fun c2=>?_,fun c=>hbad (fun z=>c ⟨by omega,by omega⟩) _ s1⟩
  refine⟨_,rfl,_,rfl,b,p,fs,rfl,s1 _ _ hp,fun c3=>?_,fun c=>hbad (fun z=>c z.2.2) _ s1⟩
  have hk8:1<=k/\k<=8:=⟨by omega,by omega⟩
  have hg:=hgood ⟨by omega,hk8,c3⟩
  obtain⟨dx,h1⟩:=(R.same s1).obj
  refine⟨_,rfl,a,dx,_,rfl,h1,rfl,_,rfl,_,rfl,_,rfl,_,rfl,k,b,p,fs,rfl,hk8.1,hk8.2,s1 _ _ hp,c3.2,?_⟩
  exact zfa (CT:=CT) R s1 (by omega) (zt9 hk8) hg
def spTwo(CR CM CO CS CT:Addr):Sp:=fun vs H Q E=>∃(o l:Addr) (st:List yaf) (r op a b:Nat),vs=[.ref o,nV r,nV op,nV a,nV b]/\RegAt CR CM H o l st /\
 (¬ (r<16/\a<16/\b<16/\op<=15)->∀ H',Same H H'->E (.ref CO) none H')/\(r<16/\a<16/\b<16/\op<=15->Puts CR CM CS CT o l st H r (some (yfo op (ybf st a) (ybf st b))) Q E)
theorem z0j:FnScope ["self","r","op","a","b"] ["self","r","op","a","b"] (ze zds):=⟨rfl,rfl,rfl,by decide +kernel,rfl,by decide +kernel,by decide +kernel⟩
theorem z0k{f CR CM CO CS CT fP fR fW fJ:Addr}{fd dP dR dW dJ:ya2}(F:Fun K "two" "Registers.two" zds f fd)(B:TB mg)(TMm:TM K mg CM)(T:TR mg)(MP:MkP K CR fP dP)(GR:Gf K mg "check_registers" zab ["numbers"] fR dR)(NR:FnOk P w K mg base (CXE P w) 2 fR dR ["numbers"] (spCl CO 15))(GW:Gf K mg "check_within" zat ["number","least","most"] fW dW)(NW:FnOk P w K mg base (CXE P w) 1 fW dW ["number","least","most"] (spCw CO))(GJ:Gf K mg "joined_machine" zcd ["op","one","other"] fJ dJ)(NJ:FnOk P w K mg base (CXE P w) 4 fJ dJ ["op","one","other"] (spJo CM CS)) :
  FnOk P w K mg base (CXE P w) 5 f fd ["self","r","op","a","b"] (spTwo CR CM CO CS CT):=by
 have NP:FnOk P w K mg base CX0 4 fP dP ["self","r","machine"] (spPut CR CM):=(zhd MP.F MP.T TMm B).mono (by decide)
 have NR':=NR.mono (k:=4) (by decide)
 have NW':=NW.mono (k:=4) (by decide)
 obtain⟨tk,hk⟩:=T.op
 refine F.okE z0j (fun vs H Q E h=>?_) (fun cdv A outer s H vs Q E hr h=>?_)
 ·obtain⟨o,l,st,r,op,a,b,rfl,_⟩:=h
  rfl
 ·obtain⟨o,l,st,r,op,a,b,rfl,R,hbad,hgood⟩:=h
  refine⟨_,zc (zad (zi NR' hr rfl GR.m GR.F.kp GR.b .nil zv (za (zy (za (pv 1) (za (pv 3) (za (pv 4) zb)))) zb)))
   (zc (zad (zi NW' hr rfl GW.m GW.F.kp GW.b .nil zv (za (pv 2) (za zg (za (zx (v:=.int 15) rfl hk ⟨tk,rfl⟩) zb)))))
   (zf (zk (zai (pv 0) MP.T.cl MP.m NP hr MP.b .nil pass0 (za (pv 1) (za (zi NJ hr rfl GJ.m GJ.F.kp GJ.b .nil zv (za (pv 2) (za (zp ix_list (zq (pv 0) rfl) (pv 3) (fun _ _=>rfl)) (za (zp ix_list (zq (pv 0) rfl) (pv 4) (fun _ _=>rfl)) zb)))) zb)))))),?_⟩
  refine⟨_,rfl,_,rfl,_,rfl,(by show 3<=yay;rw[ybr];decide),fun q hq=>?_⟩
  have s1:Same H (upd H q (.lst [nV r,nV a,nV b])):=Same.new hq
  refine⟨q,[(r:Int),(a:Int),(b:Int)],rfl,zd,fun c1=>?_,fun c=>hbad (fun z=>c (in3.mpr ⟨by omega,by omega,by omega⟩)) _ s1⟩
  obtain⟨hr1,hr2,hr3⟩:=in3.mp c1
  refine⟨_,rfl,(op:Int),0,15,rfl,fun c2=>?_,fun c=>hbad (fun z=>c ⟨by omega,by omega⟩) _ s1⟩
  have hg:=hgood ⟨by omega,by omega,by omega,by omega⟩
  obtain⟨dx,ms,x1,h1,h2,h3,M1,g1,z1⟩:=(R.same s1).get (i:=a) (by omega)
  obtain⟨dx',ms',x2,h1',h2',h3',M2,g2,z2⟩:=(R.same s1).get (i:=b) (by omega)
  refine⟨_,rfl,o,dx,_,rfl,h1,rfl,_,rfl,_,rfl,_,rfl,o,CR,dx,_,_,rfl,h1,MP.T.cl,MP.T.nM,rfl,_,rfl,l,_,_,_,rfl,rfl,SqL.of h2,zm h3,?_⟩
  refine⟨_,rfl,o,CR,dx,_,_,rfl,h1,MP.T.cl,MP.T.nM,rfl,_,rfl,l,_,_,_,rfl,rfl,SqL.of h2',zm h3',?_⟩
  refine⟨op,x1,x2,_,_,rfl,M1,g1.wf,z1,M2,g2.wf,z2,?_⟩
  exact zfa (CT:=CT) R s1 (by omega) (zqs g1 g2 op) hg
theorem zwe{m n:yaf}(gd:MM.Good m){v:Nat}(hv:v<4)(h:yjn m v=some n):MM.Good n:=by
 unfold yjn at h
 rw[MM.zfw gd]at h
 cases e:yfz (MM.neg m) v with
 | none=>rw[e]at h;cases h
 | some k =>
  rw[e]at h
  have gk:=ziy (MM.zf8 gd) hv e
  rw[<- ya1 h,MM.zfw gk]
  exact MM.zf8 gk
@[irreducible] def sM(m:yaf)(v:Nat):Option yaf:=yfz m v
@[irreducible] def aM(m:yaf)(v:Nat):Option yaf:=yjn m v
theorem zr0(m:yaf)(v:Nat):sM m v=yfz m v:=by unfold sM;rfl
theorem zr1(m:yaf)(v:Nat):aM m v=yjn m v:=by unfold aM;rfl
def spFor(CR CM CO CS CT:Addr)(fn:yaf->Nat->Option yaf):Sp:=fun vs H Q E=>∃(o l:Addr) (st:List yaf) (r a v:Nat),vs=[.ref o,nV r,nV a,nV v]/\RegAt CR CM H o l st /\
 (¬ (r<16/\a<16/\v<4)->∀ H',Same H H'->E (.ref CO) none H')/\(r<16/\a<16/\v<4->Puts CR CM CS CT o l st H r (fn (ybf st a) v) Q E)
theorem z1b:FnScope ["self","r","a","v"] ["self","r","a","v"] (ze zb3):=⟨rfl,rfl,rfl,by decide +kernel,rfl,by decide +kernel,by decide +kernel⟩
theorem z1c{f CR CM CO CS CT fP fR fV fS:Addr}{fd dP dR dV dS:ya2}(F:Fun K "for_some" "Registers.for_some" zb3 f fd)(B:TB mg)(TMm:TM K mg CM)(MP:MkP K CR fP dP)(GR:Gf K mg "check_registers" zab ["numbers"] fR dR)(NR:FnOk P w K mg base (CXE P w) 2 fR dR ["numbers"] (spCl CO 15))(GV:Gf K mg "check_variables" za8 ["numbers"] fV dV)(NV:FnOk P w K mg base (CXE P w) 2 fV dV ["numbers"] (spCl CO 3))(GS:Gf K mg "some_machine" zbg ["machine","v"] fS dS)(NS:FnOk P w K mg base (CXE P w) 4 fS dS ["machine","v"] (zo6 CM CS CT)) :
  FnOk P w K mg base (CXE P w) 5 f fd ["self","r","a","v"] (spFor CR CM CO CS CT sM):=by
 have NP:FnOk P w K mg base CX0 4 fP dP ["self","r","machine"] (spPut CR CM):=(zhd MP.F MP.T TMm B).mono (by decide)
 have NR':=NR.mono (k:=4) (by decide)
 have NV':=NV.mono (k:=4) (by decide)
 refine F.okE z1b (fun vs H Q E h=>?_) (fun cdv A outer s H vs Q E hr h=>?_)
 ·obtain⟨o,l,st,r,a,v,rfl,_⟩:=h
  rfl
 ·obtain⟨o,l,st,r,a,v,rfl,R,hbad,hgood⟩:=h
  refine⟨_,zc (zad (zi NR' hr rfl GR.m GR.F.kp GR.b .nil zv (za (zy (za (pv 1) (za (pv 2) zb))) zb)))
   (zc (zad (zi NV' hr rfl GV.m GV.F.kp GV.b .nil zv (za (zy (za (pv 3) zb)) zb)))
   (zf (zk (zai (pv 0) MP.T.cl MP.m NP hr MP.b .nil pass0 (za (pv 1) (za (zi NS hr rfl GS.m GS.F.kp GS.b .nil zv (za (zp ix_list (zq (pv 0) rfl) (pv 2) (fun _ _=>rfl)) (za (pv 3) zb))) zb)))))),?_⟩
  refine⟨_,rfl,_,rfl,(by show 2<=yay;rw[ybr];decide),fun q hq=>?_⟩
  have s1:Same H (upd H q (.lst [nV r,nV a])):=Same.new hq
  refine⟨q,[(r:Int),(a:Int)],rfl,zd,fun c1=>?_,fun c=>hbad (fun z=>c (in2.mpr ⟨by omega,by omega⟩)) _ s1⟩
  obtain⟨hr1,hr2⟩:=in2.mp c1
  refine⟨_,rfl,za0,fun q2 hq2=>?_⟩
  have s2:=s1.trans (Same.new (o:=.lst [nV v]) hq2)
  refine⟨q2,[(v:Int)],rfl,zd,fun c2=>?_,fun c=>hbad (fun z=>c (in1.mpr (by omega))) _ s2⟩
  have hv3:=in1.mp c2
  have hg:=hgood ⟨by omega,by omega,by omega⟩
  obtain⟨dx,ms,x1,h1,h2,h3,M1,g1,z1⟩:=(R.same s2).get (i:=a) (by omega)
  refine⟨_,rfl,o,dx,_,rfl,h1,rfl,_,rfl,_,rfl,o,CR,dx,_,_,rfl,h1,MP.T.cl,MP.T.nM,rfl,_,rfl,l,_,_,_,rfl,rfl,SqL.of h2,zm h3,_,rfl,?_⟩
  refine⟨x1,_,v,rfl,M1,g1.wf,z1,by omega,?_⟩
  rw[<- zr0]
  exact zm6 R s2 (by omega) (fun m e=>ziy g1 (by omega) ((zr0 _ _).symm.trans e)) hg
theorem z1d:FnScope ["self","r","a","v"] ["self","r","a","v"] (ze zci):=⟨rfl,rfl,rfl,by decide +kernel,rfl,by decide +kernel,by decide +kernel⟩
theorem z1e{f CR CM CO CS CT fP fR fV fS:Addr}{fd dP dR dV dS:ya2}(F:Fun K "for_all" "Registers.for_all" zci f fd)(B:TB mg)(TMm:TM K mg CM)(MP:MkP K CR fP dP)(GR:Gf K mg "check_registers" zab ["numbers"] fR dR)(NR:FnOk P w K mg base (CXE P w) 2 fR dR ["numbers"] (spCl CO 15))(GV:Gf K mg "check_variables" za8 ["numbers"] fV dV)(NV:FnOk P w K mg base (CXE P w) 2 fV dV ["numbers"] (spCl CO 3))(GS:Gf K mg "all_machine" zdn ["machine","v"] fS dS)(NS:FnOk P w K mg base (CXE P w) 5 fS dS ["machine","v"] (spAll CM CS CT)) :
  FnOk P w K mg base (CXE P w) 6 f fd ["self","r","a","v"] (spFor CR CM CO CS CT aM):=by
 have NP:FnOk P w K mg base CX0 5 fP dP ["self","r","machine"] (spPut CR CM):=(zhd MP.F MP.T TMm B).mono (by decide)
 have NR':=NR.mono (k:=5) (by decide)
 have NV':=NV.mono (k:=5) (by decide)
 refine F.okE z1d (fun vs H Q E h=>?_) (fun cdv A outer s H vs Q E hr h=>?_)
 ·obtain⟨o,l,st,r,a,v,rfl,_⟩:=h
  rfl
 ·obtain⟨o,l,st,r,a,v,rfl,R,hbad,hgood⟩:=h
  refine⟨_,zc (zad (zi NR' hr rfl GR.m GR.F.kp GR.b .nil zv (za (zy (za (pv 1) (za (pv 2) zb))) zb)))
   (zc (zad (zi NV' hr rfl GV.m GV.F.kp GV.b .nil zv (za (zy (za (pv 3) zb)) zb)))
   (zf (zk (zai (pv 0) MP.T.cl MP.m NP hr MP.b .nil pass0 (za (pv 1) (za (zi NS hr rfl GS.m GS.F.kp GS.b .nil zv (za (zp ix_list (zq (pv 0) rfl) (pv 2) (fun _ _=>rfl)) (za (pv 3) zb))) zb)))))),?_⟩
  refine⟨_,rfl,_,rfl,(by show 2<=yay;rw[ybr];decide),fun q hq=>?_⟩
  have s1:Same H (upd H q (.lst [nV r,nV a])):=Same.new hq
  refine⟨q,[(r:Int),(a:Int)],rfl,zd,fun c1=>?_,fun c=>hbad (fun z=>c (in2.mpr ⟨by omega,by omega⟩)) _ s1⟩
  obtain⟨hr1,hr2⟩:=in2.mp c1
  refine⟨_,rfl,za0,fun q2 hq2=>?_⟩
  have s2:=s1.trans (Same.new (o:=.lst [nV v]) hq2)
  refine⟨q2,[(v:Int)],rfl,zd,fun c2=>?_,fun c=>hbad (fun z=>c (in1.mpr (by omega))) _ s2⟩
  have hv3:=in1.mp c2
  have hg:=hgood ⟨by omega,by omega,by omega⟩
  obtain⟨dx,ms,x1,h1,h2,h3,M1,g1,z1⟩:=(R.same s2).get (i:=a) (by omega)
  refine⟨_,rfl,o,dx,_,rfl,h1,rfl,_,rfl,_,rfl,o,CR,dx,_,_,rfl,h1,MP.T.cl,MP.T.nM,rfl,_,rfl,l,_,_,_,rfl,rfl,SqL.of h2,zm h3,_,rfl,?_⟩
  refine⟨x1,_,v,rfl,M1,g1,z1,by omega,?_⟩
  rw[<- zr1]
  exact zm6 R s2 (by omega) (fun m e=>zwe g1 (by omega) ((zr1 _ _).symm.trans e)) hg
def spSwp(CR CM CO CS CT:Addr):Sp:=fun vs H Q E=>∃(o l:Addr) (st:List yaf) (r a v u:Nat),vs=[.ref o,nV r,nV a,nV v,nV u]/\RegAt CR CM H o l st /\
 (¬ (r<16/\a<16/\v<4/\u<4)->∀ H',Same H H'->E (.ref CO) none H')/\(r<16/\a<16/\v<4/\u<4->Puts CR CM CS CT o l st H r (some (yhn (ybf st a) v u)) Q E)
theorem z0l:FnScope ["self","r","a","v","w"] ["self","r","a","v","w"] (ze zdl):=⟨rfl,rfl,rfl,by decide +kernel,rfl,by decide +kernel,by decide +kernel⟩
theorem z0m{f CR CM CO CS CT fP fR fV fS:Addr}{fd dP dR dV dS:ya2}(F:Fun K "swap" "Registers.swap" zdl f fd)(B:TB mg)(TMm:TM K mg CM)(MP:MkP K CR fP dP)(GR:Gf K mg "check_registers" zab ["numbers"] fR dR)(NR:FnOk P w K mg base (CXE P w) 2 fR dR ["numbers"] (spCl CO 15))(GV:Gf K mg "check_variables" za8 ["numbers"] fV dV)(NV:FnOk P w K mg base (CXE P w) 2 fV dV ["numbers"] (spCl CO 3))(GS:Gf K mg "swapped_machine" zbo ["machine","v","w"] fS dS)(NS:FnOk P w K mg base (CXE P w) 4 fS dS ["machine","v","w"] (spSw CM CS)) :
  FnOk P w K mg base (CXE P w) 5 f fd ["self","r","a","v","w"] (spSwp CR CM CO CS CT):=by
 have NP:FnOk P w K mg base CX0 4 fP dP ["self","r","machine"] (spPut CR CM):=(zhd MP.F MP.T TMm B).mono (by decide)
 have NR':=NR.mono (k:=4) (by decide)
 have NV':=NV.mono (k:=4) (by decide)
 refine F.okE z0l (fun vs H Q E h=>?_) (fun cdv A outer s H vs Q E hr h=>?_)
 ·obtain⟨o,l,st,r,a,v,u,rfl,_⟩:=h
  rfl
 ·obtain⟨o,l,st,r,a,v,u,rfl,R,hbad,hgood⟩:=h
  refine⟨_,zc (zad (zi NR' hr rfl GR.m GR.F.kp GR.b .nil zv (za (zy (za (pv 1) (za (pv 2) zb))) zb)))
   (zc (zad (zi NV' hr rfl GV.m GV.F.kp GV.b .nil zv (za (zy (za (pv 3) (za (pv 4) zb))) zb)))
   (zf (zk (zai (pv 0) MP.T.cl MP.m NP hr MP.b .nil pass0 (za (pv 1) (za (zi NS hr rfl GS.m GS.F.kp GS.b .nil zv (za (zp ix_list (zq (pv 0) rfl) (pv 2) (fun _ _=>rfl)) (za (pv 3) (za (pv 4) zb)))) zb)))))),?_⟩
  refine⟨_,rfl,_,rfl,(by show 2<=yay;rw[ybr];decide),fun q hq=>?_⟩
  have s1:Same H (upd H q (.lst [nV r,nV a])):=Same.new hq
  refine⟨q,[(r:Int),(a:Int)],rfl,zd,fun c1=>?_,fun c=>hbad (fun z=>c (in2.mpr ⟨by omega,by omega⟩)) _ s1⟩
  obtain⟨hr1,hr2⟩:=in2.mp c1
  refine⟨_,rfl,_,rfl,(by show 2<=yay;rw[ybr];decide),fun q2 hq2=>?_⟩
  have s2:=s1.trans (Same.new (o:=.lst [nV v,nV u]) hq2)
  refine⟨q2,[(v:Int),(u:Int)],rfl,zd,fun c2=>?_,fun c=>hbad (fun z=>c (in2.mpr ⟨by omega,by omega⟩)) _ s2⟩
  obtain⟨hv3,hu3⟩:=in2.mp c2
  have hg:=hgood ⟨by omega,by omega,by omega,by omega⟩
  obtain⟨dx,ms,x1,h1,h2,h3,M1,g1,z1⟩:=(R.same s2).get (i:=a) (by omega)
  refine⟨_,rfl,o,dx,_,rfl,h1,rfl,_,rfl,_,rfl,o,CR,dx,_,_,rfl,h1,MP.T.cl,MP.T.nM,rfl,_,rfl,l,_,_,_,rfl,rfl,SqL.of h2,zm h3,_,rfl,_,rfl,?_⟩
  refine⟨x1,_,v,u,rfl,M1,g1.wf,z1,by omega,by omega,?_⟩
  exact zfa (CT:=CT) R s2 (by omega) (zys g1 (by omega) (by omega)) hg
end
end My
end
section
namespace My
open PySem PySem.Spec PyProof.Rows L2
open Rows (Told LETTERS)
def fRd(p:Addr)(i:Nat):List (Str × V):=[("calls",.ref p),("place",nV i)]
theorem zm7(p:Addr)(i:Nat):(fRd p i).lookup ("calls" : Str)=some (.ref p):=rfl
theorem ziz(p:Addr)(i:Nat):(fRd p i).lookup ("place" : Str)=some (nV i):=by rfl
theorem zyv(p:Addr)(i:Nat)(v:V):putF "place" v (fRd p i)=([("calls",.ref p),("place",v)]:List (Str × V)):=by rfl
structure TD(K:yac)(CD:Addr):Prop where
 cl:Cls K CD
 nC:NoAttr K CD "calls"
 nP:NoAttr K CD "place"
structure RdAt(K:yac)(CD:Addr)(H:Hp)(d p:Addr)(xs:List Int)(i:Nat):Prop where
 obj:∃ dx,H d=some (.ins CD dx (fRd p i))
 lst:SqL K H p (xs.map V.int)
def Bk(K:yac)(p:Addr)(ys:List V):Prop:=∀ H,SqL K H p ys
section
variable {P:yav}{w:World}{K:yac}{mg:Str->Option Value}{base:Heap}
theorem zln{H:Hp}{p D:Addr}{ys:List V}(h:SqL K H p ys)(hD:H D=none):p ∉ [D]\/Bk K p ys:=by
 rcases h with (h | ⟨o,h⟩) | h
 ·exact .inl (by simpa using zn h hD)
 ·exact .inl (by simpa using zn h hD)
 ·exact .inr fun _=>.inr h
theorem zub{H:Hp}{p d C dx:Addr}{fs:List (Str × V)}{ys:List V}(h:SqL K H p ys)(hd:H d=some (.ins C dx fs)):p ∉ [d]\/Bk K p ys:=by
 rcases h with (h | ⟨o,h⟩) | h
 ·exact .inl (by simpa using za9 h hd (by intro z;cases z))
 ·exact .inl (by simpa using za9 h hd (by intro z;cases z))
 ·exact .inr fun _=>.inr h
theorem zl9{ps:List Addr}{H H':Hp}{p:Addr}{ys:List V}(h:SqL K H p ys)(k:Keep ps H H')(n:p ∉ ps\/Bk K p ys):SqL K H' p ys:=by
 rcases n with n | n
 ·exact k.seqL n h
 ·exact n H'
theorem RdAt.keep{CD:Addr}{H H':Hp}{d p:Addr}{xs:List Int}{i:Nat}{ps:List Addr}(R:RdAt K CD H d p xs i)(k:Keep ps H H')(hd:d ∉ ps)(hp:p ∉ ps\/Bk K p (xs.map V.int)):RdAt K CD H' d p xs i:=by
 obtain⟨dx,e⟩:=R.obj
 exact⟨⟨dx,k _ _ e hd⟩,zl9 R.lst k hp⟩
theorem RdAt.same{CD:Addr}{H H':Hp}{d p:Addr}{xs:List Int}{i:Nat}(R:RdAt K CD H d p xs i)(s:Same H H'):RdAt K CD H' d p xs i:=by
 obtain⟨dx,e⟩:=R.obj
 exact⟨⟨dx,s _ _ e⟩,s.seq R.lst⟩
def zqu(K:yac)(CD:Addr):Sp:=fun vs H Q _=>∃ d dx p xs,vs=[.ref d,.ref p]/\H d=some (.ins CD dx [])/\SqL K H p (xs.map V.int)/\∀ H',RdAt K CD H' d p xs 0->Keep [d] H H'->Q .non H'
theorem z1f:FnScope ["self","calls"] ["self","calls"] (ze zdp):=⟨rfl,rfl,rfl,by decide +kernel,rfl,by decide +kernel,by decide +kernel⟩
theorem z1g{f CD:Addr}{fd:ya2}(F:Fun K "__init__" "Reader.__init__" zdp f fd)(T:TD K CD):FnOk P w K mg base CX0 1 f fd ["self","calls"] (zqu K CD):=by
 refine F.ok z1f (fun vs H Q E h=>?_) (fun cdv A outer s H vs Q E hr h=>?_)
 ·obtain⟨d,dx,p,xs,rfl,_⟩:=h
  rfl
 ·obtain⟨d,dx,p,xs,rfl,e0,hl,k⟩:=h
  refine⟨_,zc (zes (pv 0) (pv 1) rfl) (zf (zes (pv 0) zg rfl)),?_⟩
  refine⟨_,rfl,_,rfl,d,CD,dx,_,rfl,e0,T.cl,T.nC,(by show 0<1000;decide),?_⟩
  refine⟨_,rfl,d,CD,dx,_,rfl,zd,T.cl,T.nP,(by show 1<1000;decide),?_⟩
  have kk:Keep [d] H (upd (upd H d (.ins CD dx (putF "calls" (.ref p) []))) d (.ins CD dx (putF "place" (.int 0) (putF "calls" (.ref p) [])))):=fun b o e hb=>by
   have:b≠d:=fun z=>hb (by simp[z])
   rw[zh this,zh this]
   exact e
  exact k _ ⟨⟨dx,zd⟩,zl9 hl kk (zub hl e0)⟩ kk
def spDGo(K:yac)(CD:Addr):Sp:=fun vs H Q _=>∃ d p xs i,vs=[.ref d]/\RdAt K CD H d p xs i/\Q (.bl (decide (i<xs.length))) H
theorem z1h:FnScope ["self"] ["self"] (ze zcg):=⟨rfl,rfl,rfl,by decide +kernel,rfl,by decide +kernel,by decide +kernel⟩
theorem z1i{f CD:Addr}{fd:ya2}(F:Fun K "goes_on" "Reader.goes_on" zcg f fd)(T:TD K CD)(B:TB mg):FnOk P w K mg base CX0 1 f fd ["self"] (spDGo K CD):=by
 refine F.ok z1h (fun vs H Q E h=>?_) (fun cdv A outer s H vs Q E hr h=>?_)
 ·obtain⟨d,p,xs,i,rfl,_⟩:=h
  rfl
 ·obtain⟨d,p,xs,i,rfl,R,k⟩:=h
  obtain⟨dx,e⟩:=R.obj
  refine⟨_,zf (zk (zlu zq1 (zq (pv 0) rfl) (zaf zag (by rfl) B.len yb9 (za (zq (pv 0) rfl) zb)) (zaj _))),?_⟩
  refine⟨_,rfl,d,CD,dx,_,_,rfl,e,T.cl,T.nP,ziz _ _,_,rfl,d,CD,dx,_,_,rfl,e,T.cl,T.nC,zm7 _ _,p,_,rfl,.inl R.lst,_,_,rfl,rfl,?_⟩
  have ed:decide ((i:Int)<(((xs.map V.int).length:Nat):Int))=decide (i<xs.length):=by
   rw[yab]
   by_cases q:i<xs.length
   ·rw[decide_eq_true q,decide_eq_true (by omega)]
   ·rw[decide_eq_false q,decide_eq_false (by omega)]
  show Q (.bl (decide ((i:Int)<(((xs.map V.int).length:Nat):Int)))) H
  rw[ed]
  exact k
def zhe(K:yac)(CD:Addr):Sp:=fun vs H Q _=>∃ d p xs i x,vs=[.ref d]/\RdAt K CD H d p xs i/\xs[i]?=some x/\∀ H',RdAt K CD H' d p xs (i+1)->Keep [d] H H'->(∀ b,H b=none->H' b=none)->Q (.int x) H'
theorem z1j:FnScope ["self"] ["self"] (ze zcl):=⟨rfl,rfl,rfl,by decide +kernel,rfl,by decide +kernel,by decide +kernel⟩
theorem zwv{f CD:Addr}{fd:ya2}(F:Fun K "take" "Reader.take" zcl f fd)(T:TD K CD):FnOk P w K mg base CX0 1 f fd ["self"] (zhe K CD):=by
 refine F.ok z1j (fun vs H Q E h=>?_) (fun cdv A outer s H vs Q E hr h=>?_)
 ·obtain⟨d,p,xs,i,x,rfl,_⟩:=h
  rfl
 ·obtain⟨d,p,xs,i,x,rfl,R,hx,k⟩:=h
  obtain⟨dx,e⟩:=R.obj
  refine⟨_,zc (zes (pv 0) (zaa zkc (zq (pv 0) rfl) zg) rfl) (zf (zk (zp ix_list (zq (pv 0) rfl) (zaa zea (zq (pv 0) rfl) zg) (fun _ _=>rfl)))),?_⟩
  refine⟨_,rfl,d,CD,dx,_,_,rfl,e,T.cl,T.nP,ziz _ _,_,_,rfl,rfl,_,rfl,d,CD,dx,_,rfl,e,T.cl,T.nP,(by show 2<1000;decide),?_⟩
  have ef:putF "place" (.int ((i:Int)+1)) (fRd p i)=fRd p (i+1):=by
   rw[zyv]
   unfold fRd nV
   rw[show((i+1:Nat):Int)=(i:Int)+1 by omega]
  have e1:(upd H d (.ins CD dx (putF "place" (.int ((i:Int)+1)) (fRd p i)))) d=some (.ins CD dx (fRd p (i+1))):=by rw[zd,ef]
  have kk:Keep [d] H (upd H d (.ins CD dx (putF "place" (.int ((i:Int)+1)) (fRd p i)))):=fun b o e hb=>by
   rw[zh (fun z=>hb (by simp[z]))]
   exact e
  have R':RdAt K CD (upd H d (.ins CD dx (putF "place" (.int ((i:Int)+1)) (fRd p i)))) d p xs (i+1):=⟨⟨dx,e1⟩,zl9 R.lst kk (zub R.lst e)⟩
  refine⟨_,rfl,d,CD,dx,_,_,rfl,e1,T.cl,T.nC,zm7 _ _,_,rfl,d,CD,dx,_,_,rfl,e1,T.cl,T.nP,ziz _ _,_,_,rfl,rfl,p,_,_,V.int x,rfl,rfl,R'.lst,?_,?_⟩
  ·rw[show((i+1:Nat):Int) - 1=(i:Int) by omega]
   exact zm (by rw[yaj,hx];rfl)
  ·exact k _ R' kk fun b hb=>by rw[zh (fun z=>by rw[z,e]at hb;cases hb)];exact hb
def zo8(K:yac)(CD:Addr):Sp:=fun vs H Q _=>∃ d p xs i n,vs=[.ref d,nV n]/\RdAt K CD H d p xs i/\i+n<=xs.length/\n<100000/\∀ H' q,H' q=some (.lst (((xs.drop i).take n).map V.int))->RdAt K CD H' d p xs (i+n)->H q=none->Keep [d] H H'->Q (.ref q) H'
theorem sc_dm:FnScope ["self","many","turn"] ["self","many"] (ze zbh):=⟨rfl,rfl,rfl,by decide +kernel,rfl,by decide +kernel,by decide +kernel⟩
theorem z1k{f fT CD:Addr}{fd fdT:ya2}(F:Fun K "take_many" "Reader.take_many" zbh f fd)(T:TD K CD)(B:TB mg)(FT:Fun K "take" "Reader.take" zcl fT fdT)(bT:Binds K fdT ["self"] [])(mT:Meth K CD "take" fT):FnOk P w K mg base CX0 2 f fd ["self","many"] (zo8 K CD):=by
 have NT:FnOk P w K mg base CX0 1 fT fdT ["self"] (zhe K CD):=zwv FT T
 refine F.ok sc_dm (fun vs H Q E h=>?_) (fun cdv A outer s H vs Q E hr h=>?_)
 ·obtain⟨d,p,xs,i,n,rfl,_⟩:=h
  rfl
 ·obtain⟨d,p,xs,i,n,rfl,R,hn,hz,k⟩:=h
  refine⟨_,zf (zk (zaq (te:=tMeth CD "take" (zhe K CD) [] E0 (tVar 0) tNil) (own:=[("turn",2)]) rfl sc_dm.nd (zau rfl B.range (za (pv 1) zb)) (show BlkOk ["self","many","turn"] (ze zbh) _ _ from zu (by decide +kernel)) (fun _ _ _ _ _=>zt (i:=2) sc_dm.nd rfl (ybk rfl)) (fun _ _ _ _ _=>zac)
   (fun _ _ _ _ _=>za6 (pv 0) T.cl mT NT hr bT .nil pass0))),?_⟩
  refine⟨_,rfl,_,rfl,(by show -(2 ^ 62)<=(n:Int);omega),(by show(n:Int)<2 ^ 62;omega),fun D hD=>?_⟩
  obtain⟨dx0,e0⟩:=R.obj
  have nDd:D≠d:=fun z=>by rw[z,e0]at hD;cases hD
  refine zey (lo:=0) (n:=n) (g:=gName 2) (tt:=tYes) (te:=tMeth CD "take" (zhe K CD) [] E0 (tVar 0) tNil) (vs:=[2]) (fun j H2=>RdAt K CD H2 d p xs (i+j)/\Keep [d] H H2/\H2 D=some (.lst (((xs.drop i).take j).map V.int))) ⟨R.same (Same.new hD),Same.keep (Same.new hD),by rw[zd,List.take_zero];rfl⟩ (fun j H2 hj ⟨R2,k2,e2⟩=>?_) fun H2 ⟨R2,k2,e2⟩=>?_
  ·refine⟨rfl,?_⟩
   refine yes ?_
   obtain⟨dx2,o2⟩:=R2.obj
   have hx:xs[i+j]?=some (xs[i+j]'(by omega)):=yad (by omega)
   refine⟨_,rfl,d,dx2,_,rfl,o2,rfl,d,p,xs,i+j,_,rfl,R2,hx,fun H3 R3 k3 f3=>?_⟩
   have e3:H3 D=_:=k3 _ _ e2 (by simpa using nDd)
   refine⟨_,e3,za3 (by rw[yab,yd0];omega),?_,?_,?_⟩
   ·exact R3.keep (ps:=[D]) (Keep.upd (by simp)) (by simpa using yee nDd) (zln R.lst hD)
   ·intro b o e hb
    rw[zh (zn e hD)]
    exact k3 _ _ (k2 _ _ e hb) hb
   ·rw[zd]
    have:(xs.drop i).take (j+1)=(xs.drop i).take j++[xs[i+j]'(by omega)]:=zfl (by rw[yho];exact hx)
    rw[this,ya9]
    rfl
  ·exact k H2 D e2 R2 hD k2
end
end My
end
section
namespace My
open PySem PySem.Spec PyProof.Rows L2
open Rows (Told LETTERS)
def spAn(K:yac)(CR CM CD:Addr):Sp:=fun vs H Q _=>∃(o d l p:Addr) (xs:List Int) (i j:Nat) (st:List yaf) (c:List (List Int)),vs=[.ref o,.ref d]/\RegAt CR CM H o l st/\RdAt K CD H d p xs i/\(p ∉ [l]\/Bk K p (xs.map V.int))/\xs.length<100000 /\
 ygl yc2 (xs.drop i)=some (c,xs.drop j)/\i<j/\j<=xs.length/\ydl (ybg c)=true /\
 ∀ H' q,H' q=some (.lst ((ybi st (ybg c)).2.map V.int))->(ybi st (ybg c)).2.length<=1000->RegAt CR CM H' o l (ybi st (ybg c)).1->RdAt K CD H' d p xs j->H q=none->Keep [l,d] H H'->Q (.ref q) H'
def zex(st:List yaf)(cs:List (List (List Int))):List Int:=PyFlat.told (PyFlat.played ybi st (cs.map ybg))
theorem zuc(st:List yaf)(c:List (List Int))(cs:List (List (List Int))):zex st (c::cs)=(((ybi st (ybg c)).2.length:Int)::(ybi st (ybg c)).2)++zex (ybi st (ybg c)).1 cs:=by
 unfold zex
 rw[yb8,PyFlat.played]
 unfold PyFlat.told
 rw[List.flatMap_cons]
theorem zr2{l x r:List Int}(h:ylc l=some (x,r)):∃ j,0<j/\j<=l.length/\r=l.drop j:=by
 cases l with
 | nil=>cases h
 | cons n l =>
  simp only[ylc]at h
  split at h
  ·rename_i c
   cases h
   exact⟨n.toNat+1,by omega,by simp only[ybx];omega,by rw[ykc]⟩
  ·cases h
theorem zjt:∀{k:Nat} {l r:List Int} {xs:List (List Int)},yd3 k l=some (xs,r)->∃ j,j<=l.length/\r=l.drop j
 | 0,l,r,xs,h=>by
  unfold yd3 at h
  cases h
  exact⟨0,ybj _,by simp⟩
 | k+1,l,r,xs,h=>by
  unfold yd3 at h
  cases e:ylc l with
  | none=>rw[e]at h;cases h
  | some p =>
   obtain⟨x,s⟩:=p
   rw[e]at h
   simp only at h
   cases e2:yd3 k s with
   | none=>rw[e2]at h;cases h
   | some p2 =>
    obtain⟨xs2,t⟩:=p2
    rw[e2]at h
    cases h
    obtain⟨j,_,hj,rfl⟩:=zr2 e
    obtain⟨j2,hj2,rfl⟩:=zjt e2
    rw[ydr]at hj2
    exact⟨j+j2,by omega,by rw[yfb]⟩
theorem zpq{sh:Int->Option (Nat × Nat)}{l t:List Int}{c:List (List Int)}(h:ygl sh l=some (c,t)):∃ j,0<j/\j<=l.length/\t=l.drop j:=by
 cases l with
 | nil=>cases h
 | cons p r =>
  simp only[ygl]at h
  cases e:sh p with
  | none=>rw[e]at h;cases h
  | some nk =>
   obtain⟨n,k⟩:=nk
   rw[e]at h
   simp only at h
   split at h
   ·cases h
   ·rename_i hn
    cases e2:yd3 k (r.drop n) with
    | none=>rw[e2]at h;cases h
    | some p2 =>
     obtain⟨xs,t'⟩:=p2
     rw[e2]at h
     cases h
     obtain⟨j,hj,rfl⟩:=zjt e2
     rw[ydr]at hj
     exact⟨n+j+1,by omega,by simp only[ybx];omega,by rw[ykc,yfb]⟩
theorem zud{sh:Int->Option (Nat × Nat)}{f:Nat}{cs:List (List (List Int))}(h:yea sh f []=some cs):cs=[]:=by
 unfold yea at h
 cases f<;>(cases h;rfl)
theorem zr3{sh:Int->Option (Nat × Nat)}{f:Nat}{x:Int}{l:List Int}{cs:List (List (List Int))}(h:yea sh f (x::l)=some cs):∃ f' c t cs',f=f'+1/\ygl sh (x::l)=some (c,t)/\yea sh f' t=some cs'/\cs=c::cs':=by
 cases f with
 | zero=>unfold yea at h;cases h
 | succ f =>
  unfold yea at h
  cases e:ygl sh (x::l) with
  | none=>rw[e]at h;cases h
  | some p =>
   obtain⟨c,t⟩:=p
   rw[e]at h
   simp only at h
   cases e2:yea sh f t with
   | none=>rw[e2]at h;cases h
   | some cs' =>
    rw[e2]at h
    cases h
    exact⟨f,c,t,cs',rfl,rfl,e2,rfl⟩
structure MkD(K:yac)(mg:Str->Option Value)(CD fI fG:Addr)(dI dG:ya2):Prop where
 T:TD K CD
 mg:mg "Reader" = some (.ref CD)
 M:Mk K CD fI
 FI:Fun K "__init__" "Reader.__init__" zdp fI dI
 bI:Binds K dI ["self","calls"] []
 FG:Fun K "goes_on" "Reader.goes_on" zcg fG dG
 bG:Binds K dG ["self"] []
 mG:Meth K CD "goes_on" fG
structure MkR(K:yac)(mg:Str->Option Value)(CR fI:Addr)(dI:ya2):Prop where
 T:TG' K CR
 mg:mg "Registers" = some (.ref CR)
 M:Mk K CR fI
 bI:Binds K dI ["self"] []
section
variable {P:yav}{w:World}{K:yac}{mg:Str->Option Value}{base:Heap}
def spAnswers(K:yac):Sp:=fun vs H Q _=>∃(p:Addr) (xs:List Int) (cs:List (List (List Int))),vs=[.ref p]/\SqL K H p (xs.map V.int)/\xs.length<100000/\yea yc2 xs.length xs=some cs/\cs.length<=40/\(∀ c∈cs,ydl (ybg c)=true) /\
 ∀ H' q,H' q=some (.lst ((zex yh6 cs).map V.int))->Same H H'->Q (.ref q) H'
theorem sc_ans:FnScope ["calls","registers","reader","given","told"] ["calls"] (ze zcv):=⟨rfl,rfl,rfl,by decide +kernel,rfl,by decide +kernel,by decide +kernel⟩
theorem zr4{k:Nat}{f fA CR CM CD fRI fDI fDG:Addr}{fd dA dRI dDI dDG:ya2}(hk:5<=k)(F:Fun K "answers" "answers" zcv f fd)(B:TB mg)(GA:Gf K mg "answer" ze4 ["registers","reader"] fA dA)(NA:FnOk P w K mg base CX0 k fA dA ["registers","reader"] (spAn K CR CM CD))(MR:MkR K mg CR fRI dRI)(NRI:FnOk P w K mg base CX0 4 fRI dRI ["self"] (zqt CR CM))(MD:MkD K mg CD fDI fDG dDI dDG):FnOk P w K mg base CX0 (k+1) f fd ["calls"] (spAnswers K):=by
 obtain⟨k0,rfl⟩:∃ k0,k=k0+1:=⟨k - 1,by omega⟩
 have NRI':=NRI.mono (k:=k0) (by omega)
 have NDI:FnOk P w K mg base CX0 k0 fDI dDI ["self","calls"] (zqu K CD):=(z1g MD.FI MD.T).mono (by omega)
 have NDG:FnOk P w K mg base CX0 (k0+1) fDG dDG ["self"] (spDGo K CD):=(z1i MD.FG MD.T B).mono (by omega)
 refine F.ok sc_ans (fun vs H Q E h=>?_) (fun cdv A outer s H vs Q E hr h=>?_)
 ·obtain⟨p,xs,cs,rfl,_⟩:=h
  rfl
 ·obtain⟨p,xs,cs,rfl,hp,hz,hcs,h40,hask,kq⟩:=h
  refine⟨_,zc (zz (i:=1) sc_ans.nd rfl (ybk rfl) (zuw MR.M NRI' hr rfl MR.mg MR.bI .nil pass0))
   (zc (zz (i:=2) sc_ans.nd rfl (ybk rfl) (zc5 MD.M NDI hr rfl MD.mg MD.bI .nil pass0 (za (pv 0) zb)))
   (zc (zz (i:=3) sc_ans.nd rfl (ybk rfl) (zy zb))
   (zc (zcz yei (zfe (za6 (pv 2) MD.T.cl MD.mG NDG hr MD.bG .nil pass0))
    (zc (zz (i:=4) sc_ans.nd rfl (ybk rfl) (zi NA hr rfl GA.m GA.F.kp GA.b .nil pass0 (za (pv 1) (za (pv 2) zb))))
    (zc (zad (zhm yc4 ye1 ye2 zgj (pv 3) (za (zaf zag (by rfl) B.len yb9 (za (pv 4) zb)) zb)))
    (zf (zad (zhm yc4 yff yh7 zsl (pv 3) (za (pv 4) zb)))))))
   (zf (zk (pv 3)))))),?_⟩
  intro o dxo ho hdxo hneo
  refine⟨o,dxo,rfl,zd,fun H1 l R1 hl1 k1=>⟨rfl,?_⟩⟩
  have s1:Same H H1:=zge ho hdxo k1
  have hlH:H l=none:=(zcn ho hdxo).free hl1
  refine⟨_,rfl,?_⟩
  intro d dxd hd hdxd hned
  have up2:=zcn (C:=CD) hd hdxd
  refine⟨d,dxd,p,xs,rfl,zd,up2.seq (s1.seq hp),fun H2 RD2 k2=>⟨rfl,?_⟩⟩
  have s2:Same H1 H2:=zge hd hdxd k2
  refine⟨ybj _,fun g hg=>?_⟩
  have s3:Same H2 (upd H2 g (.lst [])):=Same.new hg
  have hol:∃ xs',H1 l=some (.lst xs'):=by obtain⟨_,ms,_,h2,_⟩:=R1.ex;exact⟨_,h2⟩
  obtain⟨lx,hlx⟩:=hol
  have hpl:=zln hp hlH
  have hgl:g≠l:=fun z=>by rw[z,s2 _ _ hlx]at hg;cases hg
  have hgd:g≠d:=fun z=>by obtain⟨dx,e⟩:=RD2.obj;rw[z,e]at hg;cases hg
  have hgH:H g=none:=(s1.trans s2).free hg
  have hdH:H d=none:=s1.free hd
  have hld:l≠d:=zn hlx hd
  have hgo:g≠o:=fun z=>by obtain⟨dx,e⟩:=R1.obj;rw[z,s2 _ _ e]at hg;cases hg
  refine⟨fun mx σ' H'=>∃(i f0:Nat) (st:List yaf) (cs':List (List (List Int))) (gv:List Int),(∃ r:Option V,σ'=[some (.ref p),some (.ref o),some (.ref d),some (.ref g),r])/\Same H H'/\RegAt CR CM H' o l st/\RdAt K CD H' d p xs i/\H' g=some (.lst (gv.map V.int))/\yea yc2 f0 (xs.drop i)=some cs'/\cs'.length<=40/\gv.length+1001*cs'.length<=1001*40/\(∀ c∈cs',ydl (ybg c)=true)/\gv++zex st cs'=zex yh6 cs/\i<=xs.length/\mx=xs.length - i,
   ⟨_,0,xs.length,yh6,cs,[],⟨none,rfl⟩,(s1.trans s2).trans s3,(R1.same s2).same s3,RD2.same s3,zd,hcs,h40,by simp;omega,hask,rfl,ybj _,rfl⟩,?_⟩
  rintro mx σ' H3 ⟨i,f0,st,cs',gv,⟨r,rfl⟩,sH,R3,D3,hg3,hc3,h403,hgv,hask3,htold,hi,rfl⟩
  obtain⟨dx3,o3⟩:=D3.obj
  refine⟨_,rfl,d,dx3,_,rfl,o3,rfl,d,p,xs,i,rfl,D3,_,rfl,?_⟩
  by_cases hlt:i<xs.length
  ·refine ifT (decide_eq_true hlt) ?_
   have hdr:xs.drop i=xs[i]::xs.drop (i+1):=yhs hlt
   rw[hdr]at hc3
   obtain⟨f',c,t,cs2,rfl,hcall,hrest,rfl⟩:=zr3 hc3
   rw[<- hdr]at hcall
   obtain⟨j,hj0,hjl,rfl⟩:=zpq hcall
   rw[ydr]at hjl
   rw[yfb]at hcall hrest
   refine⟨fun σ' H'=>∃ m',m'<xs.length - i/\∃(i f0:Nat) (st:List yaf) (cs':List (List (List Int))) (gv:List Int),(∃ r:Option V,σ'=[some (.ref p),some (.ref o),some (.ref d),some (.ref g),r])/\Same H H'/\RegAt CR CM H' o l st/\RdAt K CD H' d p xs i/\H' g=some (.lst (gv.map V.int))/\yea yc2 f0 (xs.drop i)=some cs'/\cs'.length<=40/\gv.length+1001*cs'.length<=1001*40/\(∀ c∈cs',ydl (ybg c)=true)/\gv++zex st cs'=zex yh6 cs/\i<=xs.length/\m'=xs.length - i,fun _ _ h=>h,?_⟩
   refine⟨_,rfl,_,rfl,o,d,l,p,xs,i,i+j,st,c,rfl,R3,D3,hpl,hz,hcall,by omega,by omega,hask3 c yaq,fun H4 q hq hlen R4 D4 hqn k4=>?_⟩
   have g4:H4 g=some (.lst (gv.map V.int)):=k4 _ _ hg3 (by simp[hgl,hgd])
   have hqg:q≠g:=fun z=>by rw[z,hg3]at hqn;cases hqn
   have s4:Same H H4:=fun b u e=>k4 b u (sH b u e) (by
    intro z
    simp only[yap,yda,or_false]at z
    rcases z with z | z
    ·rw[z,hlH]at e;cases e
    ·rw[z,hdH]at e;cases e)
   simp only[ybx]at h403 hgv
   refine⟨_,rfl,.inl ⟨rfl,_,SqL.of g4⟩,_,rfl,q,_,rfl,.inl (SqL.of hq),g,_,_,rfl,rfl,g4,za3 (by rw[yab];omega),?_⟩
   refine⟨_,rfl,.inl ⟨rfl,_,SqL.of zd⟩,_,rfl,g,q,_,_,rfl,rfl,zd,(by rw[zh hqg];exact hq),(by simp only[ya7,yab,yep];exact ycx (za3 (by omega))),?_⟩
   have e5:∀ b u,H4 b=some u->b≠g->(upd (upd H4 g (.lst (gv.map V.int++[V.int (((ybi st (ybg c)).2.map V.int).length:Nat)]))) g (.lst ((gv.map V.int++[V.int (((ybi st (ybg c)).2.map V.int).length:Nat)])++(ybi st (ybg c)).2.map V.int))) b=some u:=fun b u e n=>by
    rw[zh n,zh n]
    exact e
   refine⟨xs.length - (i+j),by omega,i+j,f',(ybi st (ybg c)).1,cs2,gv++(((ybi st (ybg c)).2.length:Int)::(ybi st (ybg c)).2),⟨some (.ref q),rfl⟩,fun b u e=>e5 b u (s4 b u e) (zn e hgH),?_,?_,?_,hrest,by omega,?_,fun c' hc'=>hask3 c' (yam _ hc'),?_,by omega,rfl⟩
   ·obtain⟨dx,ms,a1,a2,a3⟩:=R4.ex
    refine⟨⟨dx,ms,e5 _ _ a1 (yee hgo),e5 _ _ a2 (yee hgl),ygq.mapP a3 fun _ _ z=>(z.up g4).up zd⟩,R4.n,R4.good⟩
   ·exact D4.keep (ps:=[g]) (fun b u e n=>e5 b u e (by simpa using n)) (by simpa using yee hgd) (zln hp hgH)
   ·rw[zd]
    simp only[ya9,yb8,yab,ybv,yjl]
   ·simp only[ya7,ybx]
    omega
   ·rw[<- htold,zuc]
    simp only[ybv]
  ·refine ifF (decide_eq_false hlt) ?_
   have hn:xs.drop i=[]:=ygb (by omega)
   rw[hn]at hc3
   have:=zud hc3
   subst this
   refine⟨_,rfl,kq H3 g ?_ sH⟩
   rw[<- htold]
   show H3 g=some (.lst ((gv++[]).map V.int))
   rw[yex]
   exact hg3
end
end My
end
section
namespace My
open PySem PySem.Spec PyProof.Rows L2
open Rows (Told LETTERS)
structure Ends'(CR CM CO CS CT CV CN CE o l:Addr)(st:List yaf)(H:Hp)(z:List yaf × List Int)(Q:VK)(E:XK):Prop where
 hO:z=(st,[-1])->∀ H',Same H H'->E (.ref CO) none H'
 hS:z=(st,[-6])->∀ H',Same H H'->E (.ref CS) none H'
 hT:z=(st,[-7])->∀ H',Same H H'->E (.ref CT) none H'
 hV:z=(st,[-6])->∀ H',Same H H'->E (.ref CV) none H'
 hN:z=(st,[-5])->∀ H',Same H H'->E (.ref CN) none H'
 hE:z=(st,[-5])->∀ H',Same H H'->E (.ref CE) none H'
 hQ:∀ H' q,RegAt CR CM H' o l z.1->H' q=some (.lst (z.2.map V.int))->H q=none->Keep [l] H H'->Q (.ref q) H'
def zax(y:List yaf × ykd):List yaf × List Int:=(y.1,ycl y.2)
section
variable {CR CM CO CS CT CV CN CE o l:Addr}{st:List yaf}{H:Hp}{Q:VK}{E:XK}
theorem zfo{r:Nat}{m:yaf}(h:Ends' CR CM CO CS CT CV CN CE o l st H (zax (yh8 st r m)) Q E):Puts CR CM CS CT o l st H r (some m) Q E:=by
 refine⟨fun h24 H' q R hq hn k=>?_,fun hbig H' s=>?_⟩
 ·have e:zax (yh8 st r m)=(st.set r m,[(m.size:Int)]):=by
   unfold yh8
   rw[if_neg (show ¬ Rows.STATES<m.size from ymw.mpr h24)]
   rfl
  rw[e]at h
  exact h.hQ H' q R hq hn k
 ·have e:zax (yh8 st r m)=(st,[-6]):=by
   unfold yh8
   rw[if_pos (show Rows.STATES<m.size from hbig)]
   rfl
  exact h.hS e H' s
theorem zju{r:Nat}{mo:Option yaf}(h:Ends' CR CM CO CS CT CV CN CE o l st H (zax (yke st r mo)) Q E):Puts CR CM CS CT o l st H r mo Q E:=by
 cases mo with
 | none=>exact fun H' s=>h.hT rfl H' s
 | some m=>exact zfo h
theorem zwf{b:Int}{a:List Int}:ymf b a=true<->Cond b a:=by
 unfold ymf Cond
 rw[ycj,ycj,beq_iff_eq,decide_eq_true_eq,yem]
 simp only[decide_eq_true_eq]
 show(a.length=4/\(∀ x∈a,x.natAbs<=4)/\b.natAbs<=100)<->_
 constructor
 ·rintro⟨h1,h2,h3⟩
  exact⟨by omega,h1,fun x hx=>by have:=h2 x hx;omega⟩
 ·rintro⟨h1,h2,h3⟩
  exact⟨h2,fun x hx=>by have:=h3 x hx;omega,by omega⟩
theorem reg_iff{r:Nat}:yh9 r=false<->¬ r<16:=by
 unfold yh9
 rw[decide_eq_false_iff_not]
 rfl
theorem zer{r:Nat}:yle r=false<->¬ r<4:=by
 unfold yle
 rw[decide_eq_false_iff_not]
 rfl
theorem zjg{b:Int}{a:List Int}:ymf b a=false<->¬ Cond b a:=by
 rw[<- zwf]
 cases ymf b a<;>simp
theorem zue{r k:Nat}{b:Int}{a:List Int}(h:Ends' CR CM CO CS CT CV CN CE o l st H (zax (ybt st (.line r k b a))) Q E) :
  (¬ (r<16/\k<=1/\Cond b a)->∀ H',Same H H'->E (.ref CO) none H')/\(r<16/\k<=1/\Cond b a->Puts CR CM CS CT o l st H r (some (if k=0 then yj9 a b else yin a b)) Q E):=by
 unfold ybt at h
 simp only at h
 constructor
 ·intro c
  rw[if_pos (by rw[reg_iff,zjg];by_cases q:r<16<;>by_cases q2:k<=1<;>by_cases q3:Cond b a<;>simp_all<;>omega)]at h
  exact h.hO rfl
 ·intro c
  rw[if_neg (by rw[reg_iff,zjg];simp only[c.1,c.2.2,not_true_eq_false,false_or,or_false];omega)]at h
  exact zfo h
theorem zuf{r m:Nat}{b:Int}{a:List Int}(h:Ends' CR CM CO CS CT CV CN CE o l st H (zax (ybt st (.rest r m b a))) Q E) :
  (¬ (r<16/\(1<=m/\m<=8)/\Cond b a)->∀ H',Same H H'->E (.ref CO) none H')/\(r<16/\(1<=m/\m<=8)/\Cond b a->Puts CR CM CS CT o l st H r (some (yka a b (m:Int))) Q E):=by
 unfold ybt at h
 simp only at h
 constructor
 ·intro c
  rw[if_pos (by
   rw[reg_iff,zjg]
   show ¬ r<16\/m=0\/8<m\/¬ Cond b a
   by_cases q:r<16
   ·by_cases q3:Cond b a
    ·have:¬ (1<=m/\m<=8):=fun z=>c ⟨q,z,q3⟩
     omega
    ·exact .inr (.inr (.inr q3))
   ·exact .inl q)]at h
  exact h.hO rfl
 ·intro c
  rw[if_neg (by
   rw[reg_iff,zjg]
   show ¬ (¬ r<16\/m=0\/8<m\/¬ Cond b a)
   rintro (z | z | z | z)
   ·exact z c.1
   ·omega
   ·omega
   ·exact z c.2.2)]at h
  exact zfo h
theorem zwg{r op a b:Nat}(h:Ends' CR CM CO CS CT CV CN CE o l st H (zax (ybt st (.two r op a b))) Q E) :
  (¬ (r<16/\a<16/\b<16/\op<=15)->∀ H',Same H H'->E (.ref CO) none H')/\(r<16/\a<16/\b<16/\op<=15->Puts CR CM CS CT o l st H r (some (yfo op (ybf st a) (ybf st b))) Q E):=by
 unfold ybt at h
 simp only at h
 constructor
 ·intro c
  rw[if_pos (by rw[reg_iff,reg_iff,reg_iff];omega)]at h
  exact h.hO rfl
 ·intro c
  rw[if_neg (by rw[reg_iff,reg_iff,reg_iff];omega)]at h
  exact zfo h
theorem zug{r a v:Nat}(h:Ends' CR CM CO CS CT CV CN CE o l st H (zax (ybt st (.some_ r a v))) Q E) :
  (¬ (r<16/\a<16/\v<4)->∀ H',Same H H'->E (.ref CO) none H')/\(r<16/\a<16/\v<4->Puts CR CM CS CT o l st H r (sM (ybf st a) v) Q E):=by
 have er:ybt st (.some_ r a v)=if yh9 r=false\/yh9 a=false\/yle v=false then(st,ymg (-1)) else yke st r (sM (ybf st a) v):=by rw[zr0];rfl
 rw[er]at h
 constructor
 ·intro c
  rw[if_pos (by rw[reg_iff,reg_iff,zer];omega)]at h
  exact h.hO rfl
 ·intro c
  rw[if_neg (by rw[reg_iff,reg_iff,zer];omega)]at h
  exact zju h
theorem zwh{r a v:Nat}(h:Ends' CR CM CO CS CT CV CN CE o l st H (zax (ybt st (.all_ r a v))) Q E) :
  (¬ (r<16/\a<16/\v<4)->∀ H',Same H H'->E (.ref CO) none H')/\(r<16/\a<16/\v<4->Puts CR CM CS CT o l st H r (aM (ybf st a) v) Q E):=by
 have er:ybt st (.all_ r a v)=if yh9 r=false\/yh9 a=false\/yle v=false then(st,ymg (-1)) else yke st r (aM (ybf st a) v):=by rw[zr1];rfl
 rw[er]at h
 constructor
 ·intro c
  rw[if_pos (by rw[reg_iff,reg_iff,zer];omega)]at h
  exact h.hO rfl
 ·intro c
  rw[if_neg (by rw[reg_iff,reg_iff,zer];omega)]at h
  exact zju h
theorem zuh{r a v u:Nat}(h:Ends' CR CM CO CS CT CV CN CE o l st H (zax (ybt st (.swap r a v u))) Q E) :
  (¬ (r<16/\a<16/\v<4/\u<4)->∀ H',Same H H'->E (.ref CO) none H')/\(r<16/\a<16/\v<4/\u<4->Puts CR CM CS CT o l st H r (some (yhn (ybf st a) v u)) Q E):=by
 unfold ybt at h
 simp only at h
 constructor
 ·intro c
  rw[if_pos (by rw[reg_iff,reg_iff,zer,zer];omega)]at h
  exact h.hO rfl
 ·intro c
  rw[if_neg (by rw[reg_iff,reg_iff,zer,zer];omega)]at h
  exact zfo h
end
end My
end
section
namespace My
open PySem PySem.Spec PyProof.Rows L2
open Rows (Told LETTERS)
def ListsAt(H:Hp)(lr:List Addr)(ls:List (List Int)):Prop:=Paired (fun x a=>H x=some (.lst (a.map V.int))) lr ls
def zo9(CR CM CO CS CT CV CN CE:Addr):Sp:=fun vs H Q E=>∃(o l f ls:Addr) (st:List yaf) (c:Int) (fs:List Int) (lr:List Addr) (lists:List (List Int)),vs=[.ref o,.int c,.ref f,.ref ls]/\RegAt CR CM H o l st/\H f=some (.lst (fs.map V.int))/\H ls=some (.lst (lr.map V.ref))/\ListsAt H lr lists /\
 ydl (ybg ((c::fs)::lists))=true/\Ends' CR CM CO CS CT CV CN CE o l st H (ybi st (ybg ((c::fs)::lists))) Q E
structure TF(K:yac)(mg:Str->Option Value)(flds lsts:List Nat):Prop where
 f:∃ a,mg "FIELDS" = some (.ref a)/\∀ H,SqT K H a (flds.map nV)
 l:∃ a,mg "LISTS" = some (.ref a)/\∀ H,SqT K H a (lsts.map nV)
 sh:∀ p n k,yc2 p=some (n,k)->atI (flds.map nV) p=some (nV n)/\atI (lsts.map nV) p=some (nV k)
structure TX(K:yac)(mg:Str->Option Value)(CO CT CS CV CN CE:Addr):Prop where
 m0:mg "OutOfRange" = some (.ref CO)
 m1:mg "TooManySets" = some (.ref CT)
 m2:mg "TooManyStates" = some (.ref CS)
 m3:mg "TooManyRows" = some (.ref CV)
 m4:mg "NoRow" = some (.ref CN)
 m5:mg "NoEnd" = some (.ref CE)
 x00:yax K (.ref CO) (.ref CO)=some true
 x10:yax K (.ref CT) (.ref CO)=some false
 x11:yax K (.ref CT) (.ref CT)=some true
 x20:yax K (.ref CS) (.ref CO)=some false
 x21:yax K (.ref CS) (.ref CT)=some false
 x22:yax K (.ref CS) (.ref CS)=some true
 x30:yax K (.ref CV) (.ref CO)=some false
 x31:yax K (.ref CV) (.ref CT)=some false
 x32:yax K (.ref CV) (.ref CS)=some false
 x33:yax K (.ref CV) (.ref CV)=some true
 x40:yax K (.ref CN) (.ref CO)=some false
 x41:yax K (.ref CN) (.ref CT)=some false
 x42:yax K (.ref CN) (.ref CS)=some false
 x43:yax K (.ref CN) (.ref CV)=some false
 x44:yax K (.ref CN) (.ref CN)=some true
 x50:yax K (.ref CE) (.ref CO)=some false
 x51:yax K (.ref CE) (.ref CT)=some false
 x52:yax K (.ref CE) (.ref CS)=some false
 x53:yax K (.ref CE) (.ref CV)=some false
 x54:yax K (.ref CE) (.ref CN)=some false
 x55:yax K (.ref CE) (.ref CE)=some true
theorem exN{K:yac}{a b:Addr}(h:yax K (.ref a) (.ref b)=some false)(g:yax K (.ref b) (.ref b)=some true):a≠b:=fun e=>by
 subst e
 rw[h]at g
 cases g
theorem exF{K:yac}{a b:Addr}(h:yax K (.ref a) (.ref b)=some false)(n:a≠b):yax K (.ref a) (.ref b)=some (decide (a=b)):=by rw[h,decide_eq_false n]
theorem exT{K:yac}{a:Addr}(h:yax K (.ref a) (.ref a)=some true):yax K (.ref a) (.ref a)=some (decide (a=a)):=by rw[h,decide_eq_true rfl]
abbrev rT(k:Int):TS:=tRet (tLst (tCons (tUn (rU fun i=>.int (-i)) (tC (.int k))) tNil))
structure MkT(K:yac)(CD fT fM:Addr)(dT dM:ya2):Prop where
 T:TD K CD
 FT:Fun K "take" "Reader.take" zcl fT dT
 bT:Binds K dT ["self"] []
 mT:Meth K CD "take" fT
 FM:Fun K "take_many" "Reader.take_many" zbh fM dM
 bM:Binds K dM ["self","many"] []
 mM:Meth K CD "take_many" fM
theorem RegAt.keepD{CR CM CD d l o p:Addr}{H H':Hp}{st:List yaf}{i:Nat}{dx:Addr}(R:RegAt CR CM H o l st)(hd:H d=some (.ins CD dx (fRd p i)))(k:Keep [d] H H'):RegAt CR CM H' o l st:=by
 obtain⟨dx',ms,h1,h2,h3⟩:=R.ex
 have kp:∀ b u,H b=some u->u≠.ins CD dx (fRd p i)->H' b=some u:=fun b u e n=>k b u e (by simpa using za9 e hd n)
 refine⟨⟨dx',ms,kp _ _ h1 (by intro z;unfold fReg fRd at z;injection z with _ _ z;injection z with z;injection z with z;exact absurd z (by decide)),kp _ _ h2 (by intro z;cases z),ygq.mapP h3 fun x m M=>?_⟩,R.n,R.good⟩
 obtain⟨dm,e,k',rs,g1,g2,g3,g4⟩:=M.ex
 exact⟨dm,e,k',rs,kp _ _ g1 (by intro z;unfold fMach fRd at z;injection z with _ _ z;injection z with z;injection z with z;exact absurd z (by decide)),kp _ _ g2 (by intro z;cases z),kp _ _ g3 (by intro z;cases z),g4.keep fun b xs' e=>kp _ _ e (by intro z;cases z)⟩
theorem ListsAt.keep{ps:List Addr}{H H':Hp}{lr:List Addr}{ls:List (List Int)}(h:ListsAt H lr ls)(k:Keep ps H H')(n:∀ x∈lr,x ∉ ps):ListsAt H' lr ls:=by
 unfold ListsAt at h ⊢
 induction h with
 | nil=>exact .nil
 | cons q t ih=>exact .cons (k _ _ q (n _ yaq)) (ih fun x hx=>n x (yam _ hx))
theorem zr5{l t:List Int}{c:List (List Int)}(h:ygl yc2 l=some (c,t)):∃ p r n k xs,l=p::r/\yc2 p=some (n,k)/\n<=r.length/\yd3 k (r.drop n)=some (xs,t)/\c=(p::r.take n)::xs:=by
 cases l with
 | nil=>cases h
 | cons p r =>
  simp only[ygl]at h
  cases e:yc2 p with
  | none=>rw[e]at h;cases h
  | some nk =>
   obtain⟨n,k⟩:=nk
   rw[e]at h
   simp only at h
   split at h
   ·cases h
   ·rename_i hn
    cases e2:yd3 k (r.drop n) with
    | none=>rw[e2]at h;cases h
    | some p2 =>
     obtain⟨xs,t'⟩:=p2
     rw[e2]at h
     cases h
     exact⟨p,r,n,k,xs,rfl,e,by omega,e2,rfl⟩
theorem zr6{k:Nat}{l t:List Int}{xs:List (List Int)}(h:yd3 (k+1) l=some (xs,t)):∃(n:Nat) (r:List Int) (xs':List (List Int)),l=(n:Int)::r/\n<=r.length/\yd3 k (r.drop n)=some (xs',t)/\xs=r.take n::xs':=by
 unfold yd3 at h
 cases l with
 | nil=>cases h
 | cons z r =>
  simp only[ylc]at h
  by_cases c:0<=z/\z.toNat<=r.length
  ·rw[if_pos c]at h
   simp only at h
   cases e2:yd3 k (r.drop z.toNat) with
   | none=>rw[e2]at h;cases h
   | some p2 =>
    obtain⟨xs',t'⟩:=p2
    rw[e2]at h
    cases h
    exact⟨z.toNat,r,xs',by rw[Int.toNat_of_nonneg c.1],c.2,e2,rfl⟩
  ·rw[if_neg c]at h
   cases h
def zhf(o:Option (Nat × Nat)):Prop:=∀ n k,o=some (n,k)->n<=4/\k<=1
theorem zbf{c:Prop}[Decidable c]{a b:Option (Nat × Nat)}(ha:zhf a)(hb:zhf b):zhf (if c then a else b):=by
 by_cases h:c
 ·rw[if_pos h];exact ha
 ·rw[if_neg h];exact hb
theorem zpr{n k:Nat}(h:n<=4/\k<=1):zhf (some (n,k)):=fun a b e=>by
 have e:=ya1 e
 have e1:n=a:=congrArg Prod.fst e
 have e2:k=b:=congrArg Prod.snd e
 rw[<- e1,<- e2]
 exact h
theorem zps{p:Int}{n k:Nat}(h:yc2 p=some (n,k)):n<=4/\k<=1:=by
 have c:∀{n k:Nat},n<=4/\k<=1->zhf (some (n,k)):=fun h=>zpr h
 have q:zhf (yc2 p):=zbf (c (by decide)) (zbf (c (by decide)) (zbf (c (by decide)) (zbf (c (by decide)) (zbf (c (by decide)) (zbf (c (by decide)) (zbf (c (by decide)) (zbf (c (by decide)) (zbf (c (by decide)) (zbf (c (by decide)) (zbf (c (by decide)) (zbf (c (by decide)) (fun n k e=>nomatch e))))))))))))
 exact q n k h
section
variable {P:yav}{w:World}{K:yac}{mg:Str->Option Value}{base:Heap}
theorem sc_an:FnScope ["registers","reader","call","fields","lists","turn"] ["registers","reader"] (ze ze4):=⟨rfl,rfl,rfl,by decide +kernel,rfl,by decide +kernel,by decide +kernel⟩
def teAn(K:yac)(CD:Addr):TE:=tMeth CD "take_many" (zo8 K CD) [] E0 (tVar 1) (tCons (tMeth CD "take" (zhe K CD) [] E0 (tVar 1) tNil) tNil)
theorem z1l(hlen:∀(st:List yaf) (cc:List (List Int)),st.length=16->(∀ m∈st,MM.Good m/\m.next.length<=24)->(ybi st cc).2.length<=1000){k:Nat}{f fC CR CM CO CS CT CV CN CE CD fT fM:Addr}{fd dC dT dM:ya2}{flds lsts:List Nat}(hk:2<=k)(F:Fun K "answer" "answer" ze4 f fd)(B:TB mg)(TFi:TF K mg flds lsts)(X3:TX K mg CO CT CS CV CN CE)(MT:MkT K CD fT fM dT dM)(GC:Gf K mg "called" zga ["registers","call","f","lists"] fC dC)(NC:FnOk P w K mg base (CXE P w) k fC dC ["registers","call","f","lists"] (zo9 CR CM CO CS CT CV CN CE)):FnOk P w K mg base CX0 (k+1) f fd ["registers","reader"] (spAn K CR CM CD):=by
 have NT:FnOk P w K mg base CX0 k fT dT ["self"] (zhe K CD):=(zwv MT.FT MT.T).mono (by omega)
 have NM:FnOk P w K mg base CX0 k fM dM ["self","many"] (zo8 K CD):=(z1k MT.FM MT.T B MT.FT MT.bT MT.mT).mono (by omega)
 obtain⟨aF,mF,qF⟩:=TFi.f
 obtain⟨aL,mL,qL⟩:=TFi.l
 refine F.ok sc_an (fun vs H Q E h=>?_) (fun cdv A outer s H vs Q E hr h=>?_)
 ·obtain⟨o,d,l,p,xs,i,j,st,c,rfl,_⟩:=h
  rfl
 ·obtain⟨o,d,l,p,xs,i,j,st,c,rfl,R,D0,hpl,hz,hcall,hij,hjl,hask,kq⟩:=h
  refine⟨_,zc (zz (i:=2) sc_an.nd rfl (ybk rfl) (za6 (pv 1) MT.T.cl MT.mT NT hr MT.bT .nil pass0))
   (zc (zz (i:=3) sc_an.nd rfl (ybk rfl) (zai (pv 1) MT.T.cl MT.mM NM hr MT.bM .nil pass0 (za (zp ix_tup (zx (v:=.ref aF) rfl mF rfl) (pv 2) (fun _ _=>rfl)) zb)))
   (zc (zdv (i:=4) (te:=teAn K CD) (own:=[("turn",5)]) rfl sc_an.nd rfl rfl (zek rfl rfl rfl (by decide +kernel)) (zau rfl B.range (za (zp ix_tup (zx (v:=.ref aL) rfl mL rfl) (pv 2) (fun _ _=>rfl)) zb)) (show BlkOk ["registers","reader","call","fields","lists","turn"] (ze ze4) _ _ from zu (by decide +kernel))
     (fun _ _ _ _ _=>zt (i:=5) sc_an.nd rfl (ybk rfl)) (fun _ _ _ _ _=>zac) (fun _ _ _ _ _=>zai (pv 1) MT.T.cl MT.mM NM hr MT.bM .nil pass0 (za (za6 (pv 1) MT.T.cl MT.mT NT hr MT.bT .nil pass0) zb)))
   (zf (zzy NC hr (by rfl) GC.m GC.F.kp GC.b .nil (za (pv 0) (za (pv 2) (za (pv 3) (za (pv 4) zb)))) (by rfl) (by rfl))))),?_⟩
  obtain⟨c0,r,n,kk,ls,hl,hsh,hn,hrows,rfl⟩:=zr5 hcall
  obtain⟨hf1,hf2⟩:=TFi.sh c0 n kk hsh
  obtain⟨n4,k1⟩:=zps hsh
  have hx0:xs[i]?=some c0:=by
   have:(xs.drop i)[0]?=some c0:=by rw[hl];rfl
   rw[yho]at this
   exact this
  have hr1:xs.drop (i+1)=r:=by rw[<- yfb,hl];rfl
  have hrl:r.length=xs.length - (i+1):=by rw[<- hr1,ydr]
  obtain⟨dx0,o0⟩:=D0.obj
  have hld:l≠d:=by
   obtain⟨_,ms,_,h2,_⟩:=R.ex
   exact za9 h2 o0 (by intro z;cases z)
  have hil:i<xs.length:=(yag.mp hx0).1
  refine⟨_,rfl,d,dx0,_,rfl,o0,rfl,d,p,xs,i,c0,rfl,D0,hx0,fun H1 D1 kp1 fr1=>?_⟩
  obtain⟨dx1,o1⟩:=D1.obj
  refine⟨_,rfl,d,dx1,_,rfl,o1,rfl,_,rfl,aF,_,_,_,rfl,rfl,qF H1,hf1,d,p,xs,i+1,n,rfl,D1,by omega,by omega,fun H2 qf hqf D2 hqn kp2=>?_⟩
  rw[hr1]at hqf
  have kp12:Keep [d] H H2:=fun b u e hb=>kp2 b u (kp1 b u e hb) hb
  have hqfH:H qf=none:=by
   cases e:H qf with
   | none=>rfl
   | some u =>
    by_cases z:qf=d
    ·rw[z,o1]at hqn;cases hqn
    ·have:=kp1 _ _ e (by simpa using z);rw[hqn]at this;cases this
  refine⟨_,rfl,aL,_,_,_,rfl,rfl,qL H2,hf2,_,rfl,(by show -(2 ^ 62)<=(kk:Int);omega),(by show(kk:Int)<2 ^ 62;omega),fun D hD=>?_⟩
  obtain⟨dx2,o2⟩:=D2.obj
  have nDd:D≠d:=fun z=>by rw[z,o2]at hD;cases hD
  have nDf:D≠qf:=fun z=>by rw[z,hqf]at hD;cases hD
  refine zey (lo:=0) (n:=kk) (g:=gName 5) (tt:=tYes) (te:=teAn K CD) (vs:=[5]) (fun t H'=>∃(ij:Nat) (lr:List Addr) (ls1 ls2:List (List Int)),RdAt K CD H' d p xs ij/\Keep [d] H2 H'/\H' D=some (.lst (lr.map V.ref))/\ListsAt H' lr ls1/\lr.length=t/\ls1++ls2=ls/\yd3 (kk - t) (xs.drop ij)=some (ls2,xs.drop j)/\ij<=xs.length/\D ∉ lr/\d ∉ lr)
   ⟨i+1+n,[],[],ls,D2.same (Same.new hD),Same.keep (Same.new hD),zd,.nil,rfl,rfl,by rw[Nat.sub_zero,<- yfb,hr1];exact hrows,by omega,by simp,by simp⟩ (fun t H3 ht ⟨ij,lr,ls1,ls2,D3,kp3,e3,la3,ll3,hls,hrw,hij3,nD3,nd3⟩=>?_) fun H3 ⟨ij,lr,ls1,ls2,D3,kp3,e3,la3,ll3,hls,hrw,hij3,nD3,nd3⟩=>?_
  ·refine⟨rfl,?_⟩
   refine yes ?_
   rw[show kk - t=(kk - (t+1))+1 by omega]at hrw
   obtain⟨m,r',ls2',hdr,hmr,hrw',rfl⟩:=zr6 hrw
   have hxm:xs[ij]?=some (m:Int):=by
    have:(xs.drop ij)[0]?=some (m:Int):=by rw[hdr];rfl
    rw[yho]at this
    exact this
   have hijl:ij<xs.length:=(yag.mp hxm).1
   have hr':xs.drop (ij+1)=r':=by rw[<- yfb,hdr];rfl
   have hr'l:r'.length=xs.length - (ij+1):=by rw[<- hr',ydr]
   obtain⟨dx3,o3⟩:=D3.obj
   refine⟨_,rfl,d,dx3,_,rfl,o3,rfl,_,rfl,d,dx3,_,rfl,o3,rfl,d,p,xs,ij,(m:Int),rfl,D3,hxm,fun H4 D4 kp4 fr4=>?_⟩
   obtain⟨dx4,o4⟩:=D4.obj
   refine⟨d,p,xs,ij+1,m,rfl,D4,by omega,by omega,fun H5 q hq D5 hqn kp5=>?_⟩
   rw[hr']at hq
   have e5:H5 D=some (.lst (lr.map V.ref)):=kp5 _ _ (kp4 _ _ e3 (by simpa using nDd)) (by simpa using nDd)
   have hqD:q≠D:=fun z=>by rw[z,kp4 _ _ e3 (by simpa using nDd)]at hqn;cases hqn
   have hqd:q≠d:=fun z=>by rw[z,o4]at hqn;cases hqn
   refine⟨_,e5,za3 (by rw[yab];omega),ij+1+m,lr++[q],ls1++[r'.take m],ls2',?_,?_,by rw[zd,ya9];rfl,?_,by rw[ya7,ll3];rfl,by rw[ybv];exact hls,by rw[<- yfb,hr'];exact hrw',by omega,?_,?_⟩
   ·exact D5.keep (ps:=[D]) (Keep.upd (by simp)) (by simpa using yee nDd) (zln D2.lst hD)
   ·intro b u e hb
    rw[zh (zn e hD)]
    exact kp5 _ _ (kp4 _ _ (kp3 _ _ e hb) hb) hb
   ·unfold ListsAt at la3 ⊢
    have la5:ListsAt H5 lr ls1:=ListsAt.keep (ps:=[d]) la3 (fun b u e hb=>kp5 _ _ (kp4 _ _ e hb) hb) (fun x hx=>by
     have:x≠d:=fun z=>nd3 (z ▸ hx)
     simpa using this)
    have la6:ListsAt (upd H5 D (.lst (lr.map V.ref++[.ref q]))) lr ls1:=ListsAt.keep (ps:=[D]) la5 (Keep.upd (by simp)) (fun x hx=>by
     have:x≠D:=fun z=>nD3 (z ▸ hx)
     simpa using this)
    exact zdr la6 (by rw[zh hqD];exact hq)
   ·intro z
    rcases yb1.mp z with z | z
    ·exact nD3 z
    ·exact hqD (ya4.mp z).symm
   ·intro z
    rcases yb1.mp z with z | z
    ·exact nd3 z
    ·exact hqd (ya4.mp z).symm
  ·rw[Nat.sub_self]at hrw
   unfold yd3 at hrw
   have hrw:=ya1 hrw
   have hl2:ls2=[]:=(congrArg Prod.fst hrw).symm
   have hdd:xs.drop ij=xs.drop j:=congrArg Prod.snd hrw
   have ej:ij=j:=by
    have:=congrArg yl5 hdd
    rw[ydr,ydr]at this
    omega
   subst ej
   rw[hl2,yex]at hls
   subst hls
   have kp23:Keep [d] H H3:=fun b u e hb=>kp3 b u (kp12 b u e hb) hb
   have R3:RegAt CR CM H3 o l st:=R.keepD o0 kp23
   have hqf3:H3 qf=some (.lst ((r.take n).map V.int)):=kp3 _ _ hqf (by
    have:qf≠d:=fun z=>by rw[z,o1]at hqn;cases hqn
    simpa using this)
   have hgd:=hlen st (ybg ((c0::r.take n)::ls1)) R.n R.good
   have fin:∀ H' q,H' q=some (.lst ((ybi st (ybg ((c0::r.take n)::ls1))).2.map V.int))->RegAt CR CM H' o l (ybi st (ybg ((c0::r.take n)::ls1))).1->H3 q=none->Keep [l] H3 H'->Q (.ref q) H':=by
    intro H' q hq R' hqn' k'
    refine kq H' q hq hgd R' (D3.keep k' (by simpa using yee hld) hpl) ?_ fun b u e hb=>?_
    ·cases e:H q with
     | none=>rfl
     | some u =>
      by_cases z:q=d
      ·obtain⟨dx3,o3⟩:=D3.obj
       rw[z,o3]at hqn'
       cases hqn'
      ·have:=kp23 _ _ e (by simpa using z)
       rw[hqn']at this
       cases this
    ·simp only[yap,yda,or_false,not_or]at hb
     exact k' b u (kp23 b u e (by simpa using hb.2)) (by simpa using hb.1)
   have refused:∀(v:Int),ybi st (ybg ((c0::r.take n)::ls1))=(st,[v])->∀ H',Same H3 H'->∀ q,H' q=none->Q (.ref q) (upd H' q (.lst [.int v])):=by
    intro v ev H' s' q hq
    have s'':=s'.trans (Same.new (o:=.lst [.int v]) hq)
    refine fin _ q ?_ ?_ (s'.free hq) (Same.keep s'')
    ·rw[ev,zd];rfl
    ·rw[ev];exact R3.same s''
   have n10:=exN X3.x10 X3.x00
   have n20:=exN X3.x20 X3.x00
   have n21:=exN X3.x21 X3.x11
   have n30:=exN X3.x30 X3.x00
   have n31:=exN X3.x31 X3.x11
   have n32:=exN X3.x32 X3.x22
   have n40:=exN X3.x40 X3.x00
   have n41:=exN X3.x41 X3.x11
   have n42:=exN X3.x42 X3.x22
   have n43:=exN X3.x43 X3.x33
   have n50:=exN X3.x50 X3.x00
   have n51:=exN X3.x51 X3.x11
   have n52:=exN X3.x52 X3.x22
   have n53:=exN X3.x53 X3.x33
   have n54:=exN X3.x54 X3.x44
   refine⟨_,rfl,_,rfl,_,rfl,_,rfl,o,l,qf,D,st,c0,r.take n,lr,ls1,rfl,R3,hqf3,e3,la3,hask,⟨fun ez H' s'=>?_,fun ez H' s'=>?_,fun ez H' s'=>?_,fun ez H' s'=>?_,fun ez H' s'=>?_,fun ez H' s'=>?_,fun H' q R' hq hqn' k'=>fin H' q hq R' hqn' k'⟩⟩
   ·exact⟨rT 1,⟨CO,rfl,Hands.here ⟨⟨_,_,_,_,_,rfl,by rfl,X3.m0,by decide,fun a=>zf (zk (zy (za (zbl za5 zg) zb)))⟩,exT X3.x00⟩⟩,⟨_,rfl,za0,fun q hq=>refused (-1) ez H' s' q hq⟩⟩
   ·exact⟨rT 6,⟨CS,rfl,Hands.next (C1:=CO) (u:=rT 1) ⟨⟨_,_,_,_,_,rfl,by rfl,X3.m0,by decide,fun a=>zf (zk (zy (za (zbl za5 zg) zb)))⟩,exF X3.x20 n20⟩ n20 (Hands.next (C1:=CT) (u:=rT 7) ⟨⟨_,_,_,_,_,rfl,by rfl,X3.m1,by decide,fun a=>zf (zk (zy (za (zbl za5 zg) zb)))⟩,exF X3.x21 n21⟩ n21 (Hands.here ⟨⟨_,_,_,_,_,rfl,by rfl,X3.m2,by decide,fun a=>zf (zk (zy (za (zbl za5 zg) zb)))⟩,exT X3.x22⟩))⟩,⟨_,rfl,za0,fun q hq=>refused (-6) ez H' s' q hq⟩⟩
   ·exact⟨rT 7,⟨CT,rfl,Hands.next (C1:=CO) (u:=rT 1) ⟨⟨_,_,_,_,_,rfl,by rfl,X3.m0,by decide,fun a=>zf (zk (zy (za (zbl za5 zg) zb)))⟩,exF X3.x10 n10⟩ n10 (Hands.here ⟨⟨_,_,_,_,_,rfl,by rfl,X3.m1,by decide,fun a=>zf (zk (zy (za (zbl za5 zg) zb)))⟩,exT X3.x11⟩)⟩,⟨_,rfl,za0,fun q hq=>refused (-7) ez H' s' q hq⟩⟩
   ·exact⟨rT 6,⟨CV,rfl,Hands.next (C1:=CO) (u:=rT 1) ⟨⟨_,_,_,_,_,rfl,by rfl,X3.m0,by decide,fun a=>zf (zk (zy (za (zbl za5 zg) zb)))⟩,exF X3.x30 n30⟩ n30 (Hands.next (C1:=CT) (u:=rT 7) ⟨⟨_,_,_,_,_,rfl,by rfl,X3.m1,by decide,fun a=>zf (zk (zy (za (zbl za5 zg) zb)))⟩,exF X3.x31 n31⟩ n31 (Hands.next (C1:=CS) (u:=rT 6) ⟨⟨_,_,_,_,_,rfl,by rfl,X3.m2,by decide,fun a=>zf (zk (zy (za (zbl za5 zg) zb)))⟩,exF X3.x32 n32⟩ n32 (Hands.here ⟨⟨_,_,_,_,_,rfl,by rfl,X3.m3,by decide,fun a=>zf (zk (zy (za (zbl za5 zg) zb)))⟩,exT X3.x33⟩)))⟩,⟨_,rfl,za0,fun q hq=>refused (-6) ez H' s' q hq⟩⟩
   ·exact⟨rT 5,⟨CN,rfl,Hands.next (C1:=CO) (u:=rT 1) ⟨⟨_,_,_,_,_,rfl,by rfl,X3.m0,by decide,fun a=>zf (zk (zy (za (zbl za5 zg) zb)))⟩,exF X3.x40 n40⟩ n40 (Hands.next (C1:=CT) (u:=rT 7) ⟨⟨_,_,_,_,_,rfl,by rfl,X3.m1,by decide,fun a=>zf (zk (zy (za (zbl za5 zg) zb)))⟩,exF X3.x41 n41⟩ n41 (Hands.next (C1:=CS) (u:=rT 6) ⟨⟨_,_,_,_,_,rfl,by rfl,X3.m2,by decide,fun a=>zf (zk (zy (za (zbl za5 zg) zb)))⟩,exF X3.x42 n42⟩ n42 (Hands.next (C1:=CV) (u:=rT 6) ⟨⟨_,_,_,_,_,rfl,by rfl,X3.m3,by decide,fun a=>zf (zk (zy (za (zbl za5 zg) zb)))⟩,exF X3.x43 n43⟩ n43 (Hands.here ⟨⟨_,_,_,_,_,rfl,by rfl,X3.m4,by decide,fun a=>zf (zk (zy (za (zbl za5 zg) zb)))⟩,exT X3.x44⟩))))⟩,⟨_,rfl,za0,fun q hq=>refused (-5) ez H' s' q hq⟩⟩
   ·exact⟨rT 5,⟨CE,rfl,Hands.next (C1:=CO) (u:=rT 1) ⟨⟨_,_,_,_,_,rfl,by rfl,X3.m0,by decide,fun a=>zf (zk (zy (za (zbl za5 zg) zb)))⟩,exF X3.x50 n50⟩ n50 (Hands.next (C1:=CT) (u:=rT 7) ⟨⟨_,_,_,_,_,rfl,by rfl,X3.m1,by decide,fun a=>zf (zk (zy (za (zbl za5 zg) zb)))⟩,exF X3.x51 n51⟩ n51 (Hands.next (C1:=CS) (u:=rT 6) ⟨⟨_,_,_,_,_,rfl,by rfl,X3.m2,by decide,fun a=>zf (zk (zy (za (zbl za5 zg) zb)))⟩,exF X3.x52 n52⟩ n52 (Hands.next (C1:=CV) (u:=rT 6) ⟨⟨_,_,_,_,_,rfl,by rfl,X3.m3,by decide,fun a=>zf (zk (zy (za (zbl za5 zg) zb)))⟩,exF X3.x53 n53⟩ n53 (Hands.next (C1:=CN) (u:=rT 5) ⟨⟨_,_,_,_,_,rfl,by rfl,X3.m4,by decide,fun a=>zf (zk (zy (za (zbl za5 zg) zb)))⟩,exF X3.x54 n54⟩ n54 (Hands.here ⟨⟨_,_,_,_,_,rfl,by rfl,X3.m5,by decide,fun a=>zf (zk (zy (za (zbl za5 zg) zb)))⟩,exT X3.x55⟩)))))⟩,⟨_,rfl,za0,fun q hq=>refused (-5) ez H' s' q hq⟩⟩
end
end My
end
section
namespace My
open PySem PySem.Spec PyProof.Rows L2
theorem link(K:yac)(H:Hp)(xs:List V)(a:PySem.W.Codec.denoteAll PySem.Challenge.rw_leastmachines_s01_answers.args)(hO:OnlyF H)(hwi:PySem.W.Codec.withinAll PySem.Challenge.rw_leastmachines_s01_answers.args a=true)(hask:ylf PySem.Challenge.rw_leastmachines_s01_answers.args PySem.Challenge.rw_leastmachines_s01_answers.asked a=true)(hx:DwAll K H xs (PySem.W.Codec.encAll PySem.Challenge.rw_leastmachines_s01_answers.args a)) :
  spAnswers K xs H (fun v H'=>Dw K H' v (PySem.Challenge.rw_leastmachines_s01_answers.ret.enc (ylf PySem.Challenge.rw_leastmachines_s01_answers.args PySem.Challenge.rw_leastmachines_s01_answers.f a))) fun _ _ _=>False:=by
 cases hx with
 | cons h1 h2 =>
  cases h2
  cases h1 with
  | lst hs ha =>
   have e:=L2.zp0 a.1 _ ha
   subst e
   have q:((PySem.W.Codec.inLen 0 16000 a.1 && a.1.all (PySem.W.Codec.inInt (Int.negSucc 9223372036854775806) (Int.ofNat 9223372036854775807))) && true)=true:=hwi
   rw[ycj,ycj]at q
   have hlen:a.1.length<=16000:=(PySem.W.Codec.inNat_iff.mp q.1.1).2
   have hq:yi1 a.1=true:=hask
   unfold yi1 yms at hq
   cases ec:yea yc2 a.1.length a.1 with
   | none=>rw[ec]at hq;cases hq
   | some cs =>
    rw[ec]at hq
    simp only at hq
    rw[ycj]at hq
    have h40:cs.length<=40:=by
     have:=of_decide_eq_true hq.1
     rw[yab]at this
     exact this
    have hall:∀ c∈cs,ydl (ybg c)=true:=fun c hc=>by
     have h2:=hq.2
     unfold RowsNeutral.asked at h2
     rw[ycj]at h2
     exact yem.mp h2.1 _ (ya6.mpr ⟨c,hc,rfl⟩)
    refine⟨_,a.1,cs,rfl,hs,by omega,ec,h40,hall,fun H' p hp _=>?_⟩
    have ea:yiv a.1=zex yh6 cs:=by
     unfold yiv yms
     rw[ec]
     rfl
    show Dw K H' (.ref p) (PySem.W.WData.list ((yiv a.1).map PySem.W.WData.int))
    rw[ea]
    exact .lst (L2.SqL.of hp) (L2.zpz _)
end My
end
section
namespace My
open PySem PySem.Spec PyProof.Rows L2
open Rows (Told LETTERS)
theorem Sq.same{b:Bool}{K:yac}{H H':Hp}{a:Addr}{xs:List V}(e:Same H H')(h:L2.Sq b K H a xs):L2.Sq b K H' a xs:=by
 cases b
 ·exact e.seq h
 ·exact zin e h
section
variable {K:yac}{k1 k2:Bool}{a b:Addr}{xs ys:List V}{te:TE}{vs:List Nat}{σ:L2.St}{H1:Hp}{D:Addr}{Qd:Hp->Prop}{j1 j2:Nat}
theorem zui(R:Nat->V->Hp->Prop)(mono:zem R)(hD:H1 D=none)(hx:L2.Sq k1 K H1 a xs)(hy:L2.Sq k2 K H1 b ys)(hl:xs.length=ys.length)(hn:xs.length<=1000000)(hw:∀ u v,wipe (((wipe σ vs).set j1 (some u)).set j2 (some v)) vs=wipe σ vs)(step:∀ i x y H2 (Q:VK),xs[i]?=some x->ys[i]?=some y->Same H1 H2->(∀ z H3,R i z H3->Same H2 H3->Q z H3)->te (((wipe σ vs).set j1 (some x)).set j2 (some y)) H2 Q)(fin:∀ H2 acc,Same H1 H2->H2 D=some (.lst acc)->Paired (fun j y=>R j y H2) (yae xs.length) acc->Qd H2) :
  ∃ W:Nat->Nat->Hp->Prop,(∃ m,W 0 m (upd H1 D (.lst [])))/\∀ i m H,W i m H ->
   ((ItG K k1 k2 a b).stop i H/\Qd H)\/((ItG K k1 k2 a b).go i H/\∃ Nx:Hp->Prop,(∀ H',Nx H'->∃ m',m'<m/\W (i+1) m' H')/\∀ x H',(ItG K k1 k2 a b).yld i H x H'->gTup K 2 (gCons (gName j1) (gCons (gName j2) gNil)) x (wipe σ vs) H' fun σ2 H2=>wipe σ2 vs=wipe σ vs/\tYes σ2 H2 fun b H3 =>
    if b=true then te σ2 H3 fun y H4=>∃ acc,H4 D=some (.lst acc)/\acc.length<yay/\Nx (upd H4 D (.lst (acc++[y]))) else Nx H3):=by
 refine⟨fun i m H2=>m=xs.length - i/\i<=xs.length/\Same H1 H2/\∃ acc,H2 D=some (.lst acc)/\Paired (fun j y=>R j y H2) (yae i) acc,⟨xs.length,by simp,ybj _,Same.new hD,[],zd,.nil⟩,?_⟩
 rintro i m H2 ⟨rfl,hi,s2,acc,e,q⟩
 have qx:=Sq.same s2 hx
 have qy:=Sq.same s2 hy
 by_cases hlt:i<xs.length
 ·refine .inr ⟨⟨xs,ys,xs[i],ys[i]'(by omega),qx,qy,by simp[hlt],by rw[yad]⟩,fun H'=>Same H1 H'/\∃ acc,H' D=some (.lst acc)/\Paired (fun j y=>R j y H') (yae (i+1)) acc,fun H' p'=>⟨xs.length - (i+1),by omega,rfl,hlt,p'⟩,fun x H' y=>?_⟩
  obtain⟨T,x0,y0,rfl,hT,rfl,h1,h2⟩:=y
  have ex:=h1 xs qx
  have ey:=h2 ys qy
  refine⟨T,[x0,y0],rfl,SqT.of zd,rfl,x0,[y0],rfl,y0,[],rfl,rfl,hw _ _,?_⟩
  refine yes ?_
  have sT:Same H2 (upd H2 T (.tup [x0,y0])):=Same.new hT
  refine zf4 mono hD hlt hn ⟨s2.trans sT,acc,sT _ _ e,ygq.mapP q fun j y r=>mono j y _ _ (zan sT) r⟩ fun Q hq=>?_
  exact step i x0 y0 _ Q ex ey (s2.trans sT) hq
 ·obtain rfl:i=xs.length:=by omega
  exact .inl ⟨⟨xs,qx,yao _⟩,fin H2 acc s2 e q⟩
end
theorem zyw{K:yac}{k1 k2:Bool}{a b:Addr}{xs ys:List V}{g:TG}{tb:TS}{D:Ends}{σ:L2.St}{H:Hp}(Pv:Nat->L2.St->Hp->Prop)(h0:Pv 0 σ H)(hl:∀ i σ H,i<=xs.length->Pv i σ H->L2.Sq k1 K H a xs/\L2.Sq k2 K H b ys)(hn:xs.length=ys.length)(hs:∀ i x y σ H T,xs[i]?=some x->ys[i]?=some y->Pv i σ H->H T=none->g (.ref T) σ (upd H T (.tup [x,y])) fun σ2 H2=>tb { D with nx:=Pv (i+1),ct:=Pv (i+1),bk:=D.nx } σ2 H2)(hd:∀ σ H,Pv xs.length σ H->D.nx σ H) :
  ∃ W:Nat->Nat->L2.St->Hp->Prop,(∃ m,W 0 m σ H)/\∀ i m σ H,W i m σ H ->
   ((ItG K k1 k2 a b).stop i H/\D.nx σ H)\/((ItG K k1 k2 a b).go i H/\∃ N:L2.St->Hp->Prop,(∀ σ' H',N σ' H'->∃ m',m'<m/\W (i+1) m' σ' H')/\∀ x H',(ItG K k1 k2 a b).yld i H x H'->g x σ H' fun σ2 H2=>tb { D with nx:=N,ct:=N,bk:=D.nx } σ2 H2):=by
 refine⟨fun i m σ H=>m=xs.length - i/\i<=xs.length/\Pv i σ H,⟨xs.length,by simp,ybj _,h0⟩,?_⟩
 rintro i m σ H ⟨rfl,hi,p⟩
 obtain⟨qx,qy⟩:=hl i σ H hi p
 by_cases hlt:i<xs.length
 ·refine .inr ⟨⟨xs,ys,xs[i],ys[i]'(by omega),qx,qy,by simp[hlt],by rw[yad]⟩,Pv (i+1),fun σ' H' p'=>⟨xs.length - (i+1),by omega,rfl,hlt,p'⟩,fun x H' y=>?_⟩
  obtain⟨T,x0,y0,rfl,hT,rfl,h1,h2⟩:=y
  exact hs i x0 y0 σ H T (h1 xs qx) (h2 ys qy) p hT
 ·obtain rfl:i=xs.length:=by omega
  exact .inl ⟨⟨xs,qx,yao _⟩,hd σ H p⟩
structure TB2(mg:Str->Option Value):Prop where
 min:mg "min" = none
 any:mg "any" = none
theorem zwi:yd5 "min" = some (.builtin "min"):=by decide +kernel
theorem zwj:yd5 "any" = some (.builtin "any"):=by decide +kernel
def iV(l:List Nat):List Int:=l.map fun (n:Nat)=>(n:Int)
theorem zma(l:List Nat):(iV l).map V.int=l.map nV:=by unfold iV;rw[yb7];rfl
theorem zhg(P k:Nat):((P ^ k:Nat):Int)=(P:Int) ^ k:=yf6 ..
section
variable {P:yav}{w:World}{K:yac}{mg:Str->Option Value}{base:Heap}
theorem zyx(x:List Nat)(k:Nat):((yae 4).map fun v=>(if (x.getD v 0).testBit k=true then(1:Int) else 0)*2 ^ v).sum=((Rows.letter x k:Nat):Int):=by
 show((if (x.getD 0 0).testBit k=true then(1:Int) else 0)*1+((if (x.getD 1 0).testBit k=true then(1:Int) else 0)*2+((if (x.getD 2 0).testBit k=true then(1:Int) else 0)*4+((if (x.getD 3 0).testBit k=true then(1:Int) else 0)*8+0))):Int)=(((if (x.getD 0 0).testBit k=true then 1 else 0)+2*((if (x.getD 1 0).testBit k=true then 1 else 0)+2*((if (x.getD 2 0).testBit k=true then 1 else 0)+2*((if (x.getD 3 0).testBit k=true then 1 else 0)+2*0))):Nat):Int)
 generalize (x.getD 0 0).testBit k=b0
 generalize (x.getD 1 0).testBit k=b1
 generalize (x.getD 2 0).testBit k=b2
 generalize (x.getD 3 0).testBit k=b3
 cases b0<;>cases b1<;>cases b2<;>cases b3<;>rfl
theorem zm8(n k:Nat):((n / 2 ^ k:Nat):Int)=(n:Int) / 2 ^ k:=by rw[yiu,zhg];rfl
def shV(x:List Nat)(k:Nat):List V:=x.map fun a=>nV (a / 2 ^ k)
theorem zuj{x:List Nat}{k v:Nat}(h:v<x.length):(shV x k)[v]?=some (nV (x.getD v 0 / 2 ^ k)):=by
 unfold shV
 rw[yaj,MM.zbz h];rfl
def teLow(K:yac):TE:=tOp (rI CPow fun i j=>.int (i*2 ^ j.toNat)) (tOp (rI0 fun i j=>.int (ycr i j)) (tOp (rIxL K) (tVar 0) (tVar 1)) (tC (.int 1))) (tVar 1)
def spLow:Sp:=fun vs H Q _=>∃(p:Addr) (x:List Nat) (k:Nat),vs=[.ref p]/\H p=some (.lst (shV x k))/\x.length=4/\∀ H',Same H H'->Q (nV (Rows.letter x k)) H'
theorem sc_low:FnScope ["numbers","v"] ["numbers"] (ze zbn):=⟨rfl,rfl,rfl,by decide +kernel,rfl,by decide +kernel,by decide +kernel⟩
theorem z0n{f:Addr}{fd:ya2}(F:Fun K "lowest_letter" "lowest_letter" zbn f fd)(B:TB mg)(N:TN mg):FnOk P w K mg base CX0 1 f fd ["numbers"] spLow:=by
 obtain⟨tk,hv⟩:=N.vars
 refine F.ok sc_low (fun vs H Q E h=>?_) (fun cdv A outer s H vs Q E hr h=>?_)
 ·obtain⟨p,x,k,rfl,_⟩:=h
  rfl
 ·obtain⟨p,x,k,rfl,hp,hl,kq⟩:=h
  refine⟨_,zf (zk (zaf (zkh rfl) (by rfl) B.sum yl3 (za (zaq (te:=teLow K) (own:=[("v",1)]) rfl sc_low.nd
   (zau rfl B.range (za (zx (v:=.int 4) rfl hv ⟨tk,rfl⟩) zb)) (show BlkOk ["numbers","v"] (ze zbn) _ _ from zu (by decide +kernel)) (fun _ _ _ _ _=>zt (i:=1) sc_low.nd rfl (ybk rfl))
   (fun _ _ _ _ _=>zac) (fun _ _ _ _ _=>zaa zff (zaa zg1 (zp ix_list (pv 0) (pv 1) (fun _ _=>rfl)) zg) (pv 1))) zb))),?_⟩
  refine⟨_,rfl,by decide,by decide,fun D hD=>?_⟩
  refine zc2 (n:=4) (idx:=1) (fun j y _=>y=V.int ((if (x.getD j 0).testBit k=true then(1:Int) else 0)*2 ^ j)) (fun _ _ _ _ _ h=>h) hD (by decide) (fun _=>rfl) (fun i H2 Q2 hi s2 q2=>?_) fun H2 acc s2 e2 p2=>?_
  ·have ei:(0:Int)+(i:Int)=(i:Int):=by omega
   refine⟨_,rfl,_,rfl,p,_,_,_,rfl,rfl,SqL.of (s2 _ _ hp),zki ei (zuj (by omega)),_,_,rfl,rfl,_,rfl,_,_,rfl,rfl,⟨by omega,by omega,?_⟩,?_⟩
   ·rw[zm8,ze9]
    split<;>decide
   ·refine q2 _ H2 ?_ (Same.refl H2)
    rw[zm8,ze9,ei]
    rfl
  ·have ea:=zak p2
   refine⟨D,(yae 4).map fun v=>(if (x.getD v 0).testBit k=true then(1:Int) else 0)*2 ^ v,rfl,SqL.of (by rw[yb7];rw[ea]at e2;exact e2),?_⟩
   rw[zyx]
   exact kq H2 s2
end
end My
end
section
namespace My
open PySem PySem.Spec PyProof.Rows L2
open Rows (Told LETTERS)
section
variable {P:yav}{w:World}{K:yac}{mg:Str->Option Value}{base:Heap}
def spIn(CM:Addr):Sp:=fun vs H Q _=>∃(a p:Addr) (m:yaf) (x:List Nat),vs=[.ref a,.ref p]/\MachAt CM H a m/\MM.Wf m/\H p=some (.lst (x.map nV))/\x.length=4/\∀ H',Same H H'->Q (bV (m.has x)) H'
theorem sc_in:FnScope ["machine","row","state","numbers","number"] ["machine","row"] (ze ze3):=⟨rfl,rfl,rfl,by decide +kernel,rfl,by decide +kernel,by decide +kernel⟩
theorem zyy(a k:Nat):a / 2 ^ k / 2=a / 2 ^ (k+1):=by rw[ygd,ye3]
theorem z1m{f fL CM:Addr}{fd dL:ya2}(F:Fun K "row_in" "row_in" ze3 f fd)(B:TB mg)(N:TN mg)(TMm:TM K mg CM)(GL:Gf K mg "lowest_letter" zbn ["numbers"] fL dL):FnOk P w K mg base CX0 2 f fd ["machine","row"] (spIn CM):=by
 have NL:FnOk P w K mg base CX0 1 fL dL ["numbers"] spLow:=z0n GL.F B N
 refine F.ok sc_in (fun vs H Q E h=>?_) (fun cdv A outer s H vs Q E hr h=>?_)
 ·obtain⟨a,p,m,x,rfl,_⟩:=h
  rfl
 ·obtain⟨a,p,m,x,rfl,M,wf,hp,hl,kq⟩:=h
  refine⟨_,zc (zz (i:=2) sc_in.nd rfl (ybk rfl) zg)
   (zc (zz (i:=3) sc_in.nd rfl (ybk rfl) (pv 1))
   (zc (zcz yei (zah zgi (zaf (znw rfl) (by rfl) B.max zj7 (za (pv 3) zb)) zg (zaj _))
    (zc (zz (i:=2) sc_in.nd rfl (ybk rfl) (zp ix_tup (zp ix_tup (zq (pv 0) rfl) (pv 2) (fun _ _=>rfl)) (zi NL hr rfl GL.m GL.F.kp GL.b .nil pass0 (za (pv 3) zb)) (fun _ _=>rfl)))
    (zf (zdv (i:=3) (te:=tOp (rI (fun _ j=>0<=j) fun i j=>.int (i / 2 ^ j.toNat)) (tVar 4) (tC (.int 1))) (own:=[("number",4)]) rfl sc_in.nd rfl rfl (zek rfl rfl rfl (by decide +kernel)) (zba (pv 3)) (show BlkOk ["machine","row","state","numbers","number"] (ze ze3) _ _ from zu (by decide +kernel))
     (fun _ _ _ _ _=>zt (i:=4) sc_in.nd rfl (ybk rfl)) (fun _ _ _ _ _=>zac) (fun _ _ _ _ _=>zaa zf7 (pv 4) zg)))))
   (zf (zk (zp ix_tup (zq (pv 0) rfl) (pv 2) (fun _ _=>rfl)))))),?_⟩
  have h0:H p=some (.lst (shV x 0)):=by
   rw[hp]
   unfold shV
   simp only[ylt,Nat.div_one]
  refine⟨_,rfl,fun mm σ H'=>∃(k:Nat) (D:Addr),σ=[some (.ref a),some (.ref p),some (nV (m.through x k 0 0)),some (.ref D),none]/\mm=ygm x - k/\k<=ygm x/\Same H H'/\H' D=some (.lst (shV x k)),⟨_,0,p,rfl,rfl,ybj _,Same.refl H,h0⟩,?_⟩
  rintro mm σ H2 ⟨k,D,rfl,rfl,hk,s2,hD⟩
  have lt0:=MM.zkw wf x k 0 wf.pos
  obtain⟨dm,em,lm,rsm,g1,g2,g3,g4,g5⟩:=(M.same s2).row
  refine⟨_,rfl,D,iV (x.map fun a=>a / 2 ^ k),rfl,SqL.of (by rw[zma,yb7];exact hD),by unfold iV;rw[yab,yab];omega,fun mx hm hmax=>⟨_,_,rfl,rfl,_,rfl,?_⟩⟩
  unfold iV at hm hmax
  by_cases hgo:ygm x<=k
  ·have hz:mx=0:=by
    obtain⟨b,hb,rfl⟩:=ya6.mp hm
    obtain⟨c,hc,rfl⟩:=ya6.mp hb
    rw[ygv (MM.bits_le.mp hgo c hc)]
    rfl
   subst hz
   refine ifF (by decide) ?_
   refine⟨_,rfl,a,CM,dm,_,_,rfl,g1,TMm.cl,TMm.nE,zbe _ _,_,rfl,em,_,_,_,rfl,rfl,SqT.of g2,zm (zis wf lt0),?_⟩
   have:k=ygm x:=by omega
   subst this
   exact kq H2 s2
  ·have hpos:(0:Int)<mx:=by
    have hn:¬ ∀ a∈x,a<2 ^ k:=fun z=>hgo (MM.bits_le.mpr z)
    have:∃ a,a∈x/\¬ a<2 ^ k:=by
     refine yeu fun z=>hn fun a ha=>yeu fun z2=>z ⟨a,ha,z2⟩
    obtain⟨c,hc,hcz⟩:=this
    have h1:=hmax _ (ya6.mpr ⟨_,ya6.mpr ⟨c,hc,rfl⟩,rfl⟩)
    have h2:0<c / 2 ^ k:=Nat.div_pos (by omega) (yih (by decide))
    omega
   refine ifT (decide_eq_true hpos) ?_
   refine⟨fun σ' H'=>∃ m':Nat,m'<ygm x - k/\∃(k:Nat) (D:Addr),σ'=[some (.ref a),some (.ref p),some (nV (m.through x k 0 0)),some (.ref D),none]/\m'=ygm x - k/\k<=ygm x/\Same H H'/\H' D=some (.lst (shV x k)),fun _ _ h=>h,?_⟩
   obtain⟨r,hr1,hr2⟩:=zd0 g4 lt0
   refine⟨_,rfl,a,CM,dm,_,_,rfl,g1,TMm.cl,TMm.nL,zal _ _,_,rfl,lm,_,_,_,rfl,rfl,SqT.of g3,zm hr1,?_⟩
   refine⟨_,rfl,D,x,k,rfl,hD,hl,fun H3 s3=>?_⟩
   refine⟨r,_,_,_,rfl,rfl,SqT.of (s3 _ _ hr2),zm (zfy wf lt0 (MM.zmw x k)),?_⟩
   refine⟨_,rfl,D,rfl,⟨_,SqL.of (s3 _ _ hD)⟩,fun D2 hD2=>?_⟩
   refine zca (K:=K) (a:=D) (idx:=4) (fun j y _=>y=nV (x.getD j 0 / 2 ^ (k+1))) (fun _ _ _ _ _ h=>h) hD2 (SqL.of (s3 _ _ hD)) (by unfold shV;rw[yab];omega) (fun _=>rfl) (fun i z H4 Q4 hz s4 q4=>?_) fun H4 acc s4 e4 p4=>?_
   ·have hi:i<x.length:=by
     have:=(yag.mp hz).1
     unfold shV at this
     rw[yab]at this
     exact this
    rw[zuj hi]at hz
    cases hz
    refine⟨_,rfl,_,_,rfl,rfl,(show(0:Int)<=1 by decide),?_⟩
    refine q4 _ H4 ?_ (Same.refl H4)
    show V.int (((x.getD i 0 / 2 ^ k:Nat):Int) / 2)=_
    rw[<- zyy]
    rfl
   ·have ea:=zak p4
    refine⟨_,by omega,k+1,D2,?_,rfl,by omega,(s2.trans s3).trans s4,?_⟩
    ·rw[MM.zik,yfi]
     rfl
    ·rw[e4,ea]
     have:=za4 (x.map fun a=>a / 2 ^ (k+1)) 0 nV
     rw[yab,yb7]at this
     have e2:(shV x k).length=x.length:=by unfold shV;rw[yab]
     rw[e2]
     refine congrArg some (congrArg HO.lst ?_)
     refine Eq.trans ?_ this
     refine ybw fun j hj=>?_
     rw[MM.zw (show(x.map fun a=>a / 2 ^ (k+1))[j]?=some (x.getD j 0 / 2 ^ (k+1)) by rw[yaj,MM.zbz (yau.mp hj)];rfl)]
def spPl:Sp:=fun vs H Q _=>∃(v b:Nat),vs=[nV v,nV b]/\v<4/\b<=1000/\Q (nV (b*(3 - v))) H
theorem z1n:FnScope ["v","bits"] ["v","bits"] (ze zdi):=⟨rfl,rfl,rfl,by decide +kernel,rfl,by decide +kernel,by decide +kernel⟩
theorem zww{f:Addr}{fd:ya2}(F:Fun K "place_of" "place_of" zdi f fd)(N:TN mg):FnOk P w K mg base CX0 1 f fd ["v","bits"] spPl:=by
 obtain⟨tk,hv⟩:=N.vars
 refine F.ok z1n (fun vs H Q E h=>?_) (fun cdv A outer s H vs Q E hr h=>?_)
 ·obtain⟨v,b,rfl,_⟩:=h
  rfl
 ·obtain⟨v,b,rfl,h1,h2,kq⟩:=h
  refine⟨_,zf (zk (zaa zgz (pv 1) (zaa zea (zaa zea (zx (v:=.int 4) rfl hv ⟨tk,rfl⟩) zg) (pv 0)))),?_⟩
  refine⟨_,rfl,_,_,rfl,rfl,_,rfl,_,_,rfl,rfl,_,_,rfl,rfl,.inl ⟨by omega,by omega⟩,?_⟩
  show Q (.int ((b:Int)*(4 - 1 - (v:Int)))) H
  rw[show(4 - 1 - (v:Int))=((3 - v:Nat):Int) by omega,<- Int.natCast_mul]
  exact kq
theorem zm9(b v:Nat):(2:Int) ^ (b*(3 - v))=(((2 ^ b) ^ (3 - v):Nat):Int):=by
 rw[<- Nat.pow_mul,zhg]
 rfl
def teSd:TE:=tOp (rI CPow fun i j=>.int (i*2 ^ j.toNat)) (tOp (rI0 fun i j=>.int (ycr i j)) (tOp (rI (fun _ j=>0<=j) fun i j=>.int (i / 2 ^ j.toNat)) (tVar 0) (tVar 2)) (tC (.int 1))) (tCall spPl [] E0 (tCons (tVar 2) (tCons (tVar 1) tNil)))
def spSd:Sp:=fun vs H Q _=>∃(c b:Nat),vs=[nV c,nV b]/\b<=1000/\∀ H',Same H H'->Q (nV (MM.wl (2 ^ b) c)) H'
theorem sc_sd:FnScope ["letter","bits","v"] ["letter","bits"] (ze zb9):=⟨rfl,rfl,rfl,by decide +kernel,rfl,by decide +kernel,by decide +kernel⟩
theorem z0o(b c:Nat):((yae 4).map fun v=>(if c.testBit v=true then(1:Int) else 0)*(((2 ^ b) ^ (3 - v):Nat):Int)).sum=((MM.wl (2 ^ b) c:Nat):Int):=by
 show(if c.testBit 0=true then(1:Int) else 0)*(((2 ^ b) ^ 3:Nat):Int)+((if c.testBit 1=true then(1:Int) else 0)*(((2 ^ b) ^ 2:Nat):Int)+((if c.testBit 2=true then(1:Int) else 0)*(((2 ^ b) ^ 1:Nat):Int)+((if c.testBit 3=true then(1:Int) else 0)*(((2 ^ b) ^ 0:Nat):Int)+0)))=_
 unfold MM.wl MM.bt
 generalize 2 ^ b=X
 rw[show X ^ 3=X*X*X by simp[ye3],show X ^ 2=X*X by simp[ye3],Nat.pow_one,ylt]
 generalize X*X*X=X3
 generalize X*X=X2
 cases c.testBit 0<;>cases c.testBit 1<;>cases c.testBit 2<;>cases c.testBit 3<;>simp<;>omega
theorem z1o{f fP:Addr}{fd dP:ya2}(F:Fun K "side_by_side" "side_by_side" zb9 f fd)(B:TB mg)(N:TN mg)(GP:Gf K mg "place_of" zdi ["v","bits"] fP dP):FnOk P w K mg base CX0 2 f fd ["letter","bits"] spSd:=by
 have NP:FnOk P w K mg base CX0 1 fP dP ["v","bits"] spPl:=zww GP.F N
 obtain⟨tk,hv⟩:=N.vars
 refine F.ok sc_sd (fun vs H Q E h=>?_) (fun cdv A outer s H vs Q E hr h=>?_)
 ·obtain⟨c,b,rfl,_⟩:=h
  rfl
 ·obtain⟨c,b,rfl,hb,kq⟩:=h
  refine⟨_,zf (zk (zaf (zkh rfl) (by rfl) B.sum yl3 (za (zaq (te:=teSd) (own:=[("v",2)]) rfl sc_sd.nd
   (zau rfl B.range (za (zx (v:=.int 4) rfl hv ⟨tk,rfl⟩) zb)) (show BlkOk ["letter","bits","v"] (ze zb9) _ _ from zu (by decide +kernel)) (fun _ _ _ _ _=>zt (i:=2) sc_sd.nd rfl (ybk rfl))
   (fun _ _ _ _ _=>zac) (fun _ _ _ _ _=>zaa zff (zaa zg1 (zaa zf7 (pv 0) (pv 2)) zg) (zi NP hr rfl GP.m GP.F.kp GP.b .nil pass0 (za (pv 2) (za (pv 1) zb))))) zb))),?_⟩
  refine⟨_,rfl,by decide,by decide,fun D hD=>?_⟩
  refine zc2 (n:=4) (idx:=2) (fun j y _=>y=V.int ((if c.testBit j=true then(1:Int) else 0)*(((2 ^ b) ^ (3 - j):Nat):Int))) (fun _ _ _ _ _ h=>h) hD (by decide) (fun _=>rfl) (fun i H2 Q2 hi s2 q2=>?_) fun H2 acc s2 e2 p2=>?_
  ·have ei:(0:Int)+(i:Int)=(i:Int):=by omega
   have hle:b*(3 - i)<=3000:=ybq (yjy hb (Nat.sub_le 3 i)) (by decide)
   rw[ei]
   refine⟨_,rfl,_,rfl,_,_,rfl,rfl,by show(0:Int)<=(i:Int);omega,_,_,rfl,rfl,_,rfl,_,rfl,i,b,rfl,hi,hb,_,_,rfl,rfl,⟨by omega,by omega,?_⟩,?_⟩
   ·rw[yan,ze9]
    split<;>decide
   ·refine q2 _ H2 ?_ (Same.refl H2)
    show V.int (ycr ((c:Int) / 2 ^ ((i:Int)).toNat) 1*2 ^ (((b*(3 - i):Nat):Int)).toNat)=_
    rw[yan,ze9,yan,zm9]
  ·have ea:=zak p2
   refine⟨D,(yae 4).map fun v=>(if c.testBit v=true then(1:Int) else 0)*(((2 ^ b) ^ (3 - v):Nat):Int),rfl,SqL.of (by rw[yb7];rw[ea]at e2;exact e2),?_⟩
   rw[z0o]
   exact kq H2 s2
def teNo:TE:=tOp (rI (fun _ j=>0<j) fun i j=>.int (i % j)) (tOp (rI (fun _ j=>0<=j) fun i j=>.int (i / 2 ^ j.toNat)) (tVar 0) (tCall spPl [] E0 (tCons (tVar 2) (tCons (tVar 1) tNil)))) (tOp (rI CPow fun i j=>.int (i*2 ^ j.toNat)) (tC (.int 1)) (tVar 1))
def spNo:Sp:=fun vs H Q _=>∃(y b:Nat),vs=[nV y,nV b]/\b<=1000/\∀ H' q,H' q=some (.lst ((MM.nums (2 ^ b) y).map nV))->Same H H'->H q=none->Q (.ref q) H'
theorem sc_no:FnScope ["row","bits","v"] ["row","bits"] (ze zdd):=⟨rfl,rfl,rfl,by decide +kernel,rfl,by decide +kernel,by decide +kernel⟩
theorem z1p(b y:Nat):((yae 4).map fun v=>nV (y / (2 ^ b) ^ (3 - v) % 2 ^ b))=(MM.nums (2 ^ b) y).map nV:=by
 unfold MM.nums
 show [nV (y / (2 ^ b) ^ 3 % 2 ^ b),nV (y / (2 ^ b) ^ 2 % 2 ^ b),nV (y / (2 ^ b) ^ 1 % 2 ^ b),nV (y / (2 ^ b) ^ 0 % 2 ^ b)]=_
 generalize 2 ^ b=X
 rw[show X ^ 3=X*X*X by simp[ye3],show X ^ 2=X*X by simp[ye3],Nat.pow_one,ylt,Nat.div_one]
 rfl
theorem z1q{f fP:Addr}{fd dP:ya2}(F:Fun K "numbers_of" "numbers_of" zdd f fd)(B:TB mg)(N:TN mg)(GP:Gf K mg "place_of" zdi ["v","bits"] fP dP):FnOk P w K mg base CX0 2 f fd ["row","bits"] spNo:=by
 have NP:FnOk P w K mg base CX0 1 fP dP ["v","bits"] spPl:=zww GP.F N
 obtain⟨tk,hv⟩:=N.vars
 refine F.ok sc_no (fun vs H Q E h=>?_) (fun cdv A outer s H vs Q E hr h=>?_)
 ·obtain⟨y,b,rfl,_⟩:=h
  rfl
 ·obtain⟨y,b,rfl,hb,kq⟩:=h
  refine⟨_,zf (zk (zaq (te:=teNo) (own:=[("v",2)]) rfl sc_no.nd
   (zau rfl B.range (za (zx (v:=.int 4) rfl hv ⟨tk,rfl⟩) zb)) (show BlkOk ["row","bits","v"] (ze zdd) _ _ from zu (by decide +kernel)) (fun _ _ _ _ _=>zt (i:=2) sc_no.nd rfl (ybk rfl))
   (fun _ _ _ _ _=>zac) (fun _ _ _ _ _=>zaa zg0 (zaa zf7 (pv 0) (zi NP hr rfl GP.m GP.F.kp GP.b .nil pass0 (za (pv 2) (za (pv 1) zb)))) (zaa zff zg (pv 1))))),?_⟩
  refine⟨_,rfl,by decide,by decide,fun D hD=>?_⟩
  refine zc2 (n:=4) (idx:=2) (fun j z _=>z=nV (y / (2 ^ b) ^ (3 - j) % 2 ^ b)) (fun _ _ _ _ _ h=>h) hD (by decide) (fun _=>rfl) (fun i H2 Q2 hi s2 q2=>?_) fun H2 acc s2 e2 p2=>?_
  ·have ei:(0:Int)+(i:Int)=(i:Int):=by omega
   have hp:(0:Int)<1*2 ^ ((b:Int)).toNat:=by
    rw[yio,yan]
    have:(0:Nat)<2 ^ b:=yih (by decide)
    have e:(2:Int) ^ b=((2 ^ b:Nat):Int):=(zhg 2 b).symm
    omega
   rw[ei]
   refine⟨_,rfl,_,rfl,_,rfl,i,b,rfl,hi,hb,_,_,rfl,rfl,yca _,_,rfl,_,_,rfl,rfl,⟨by omega,by omega,by decide⟩,_,_,rfl,rfl,hp,?_⟩
   refine q2 _ H2 ?_ (Same.refl H2)
   show V.int ((y:Int) / 2 ^ (((b*(3 - i):Nat):Int)).toNat % (1*2 ^ ((b:Int)).toNat))=_
   rw[yan,yan,yio,zm9,show(2:Int) ^ b=((2 ^ b:Nat):Int) from(zhg 2 b).symm]
   rfl
  ·have ea:=zak p2
   rw[ea,z1p]at e2
   exact kq H2 D e2 s2 hD
end
end My
end
section
namespace My
open PySem PySem.Spec PyProof.Rows L2
open Rows (Told LETTERS)
section
variable {P:yav}{w:World}{K:yac}{mg:Str->Option Value}{base:Heap}
def worV(b:Nat):List V:=(yae LETTERS).map fun c=>nV (MM.wl (2 ^ b) c)
def teLf(K:yac):TE:=tOp (rI0 fun i j=>.int (i+j)) (tOp (rI CMul fun i j=>.int (i*j)) (tC (.int 2)) (tOp (rIxL K) (tVar 1) (tVar 4))) (tVar 5)
def lf(F row:List Nat)(b k:Nat):Nat:=MM.lmin k ((yae LETTERS).map fun c=>2*F.getD (row.getD c 0) 0+MM.wl (2 ^ b) c)
def spLf:Sp:=fun vs H Q _=>∃(k b:Nat) (r l w:Addr) (F row:List Nat),vs=[nV k,.ref r,.ref l,.ref w]/\H r=some (.lst (F.map nV))/\H l=some (.tup (row.map nV))/\H w=some (.lst (worV b))/\row.length=16/\(∀ x∈row,x<F.length)/\∀ H',Same H H'->Q (nV (lf F row b k)) H'
theorem sc_lf:FnScope ["known","rows","leads","worths","state","worth"] ["known","rows","leads","worths"] (ze zdc):=⟨rfl,rfl,rfl,by decide +kernel,rfl,by decide +kernel,by decide +kernel⟩
theorem z0p{a:Nat}{l:List Nat}{z:Int}(hm:z∈iV (a::l))(hx:∀ y,y∈iV (a::l)->z<=y):z=((MM.lmin a l:Nat):Int):=by
 unfold iV at hm hx
 obtain⟨b,hb,rfl⟩:=ya6.mp hm
 obtain⟨h1,h2⟩:=MM.zg7 l a
 have h3:MM.lmin a l<=b:=by
  rcases yap.mp hb with e | e
  ·rw[e];exact h1
  ·exact h2 b e
 have h4:MM.lmin a l∈a::l:=by
  rcases MM.zj1 l a with e | e
  ·rw[e];simp
  ·exact yam _ e
 have h5:=hx _ (ya6.mpr ⟨_,h4,rfl⟩)
 omega
theorem z1r{f:Addr}{fd:ya2}(F:Fun K "least_from" "least_from" zdc f fd)(B:TB mg)(B2:TB2 mg):FnOk P w K mg base CX0 1 f fd ["known","rows","leads","worths"] spLf:=by
 refine F.ok sc_lf (fun vs H Q E h=>?_) (fun cdv A outer s H vs Q E hr h=>?_)
 ·obtain⟨k,b,r,l,u,G,row,rfl,_⟩:=h
  rfl
 ·obtain⟨k,b,r,l,u,G,row,rfl,hr1,hl1,hu1,h16,hlt,kq⟩:=h
  refine⟨_,zf (zk (zaf (zzj rfl) (by rfl) B2.min zwi (za (zaa znv (zy (za (pv 0) zb)) (zaq (g:=gTup K 2 (gCons (gName 4) (gCons (gName 5) gNil))) (te:=teLf K) (own:=[("state",4),("worth",5)]) rfl sc_lf.nd
   (zl2 true false rfl B.zip (za (pv 2) (za (pv 3) zb))) (show BlkOk ["known","rows","leads","worths","state","worth"] (ze zdc) _ _ from zu (by decide +kernel))
   (fun _ _ _ _ _=>zh3 rfl (zcy (zt (i:=4) sc_lf.nd rfl (ybk rfl) (yc5 rfl)) (zcy (zt (i:=5) sc_lf.nd rfl (ybk rfl) (yc5 rfl)) zgy))) (fun _ _ _ _ _=>zac)
   (fun _ _ _ _ _=>zaa zkc (zaa zgz zg (zp ix_list (pv 1) (pv 4) (fun _ _=>rfl))) (pv 5)))) zb))),?_⟩
  refine⟨_,rfl,za0,fun p1 hp1=>?_⟩
  have s1:Same H (upd H p1 (.lst [nV k])):=Same.new hp1
  refine⟨_,rfl,_,rfl,l,u,_,_,rfl,SqT.of (s1 _ _ hl1),SqL.of (s1 _ _ hu1),fun D hD=>?_⟩
  have nw:(worV b).length=16:=by unfold worV;rw[yab,ya5];rfl
  refine zui (K:=K) (k1:=true) (k2:=false) (a:=l) (b:=u) (xs:=row.map nV) (ys:=worV b) (j1:=4) (j2:=5) (te:=teLf K) (fun j y _=>y=nV (2*G.getD (row.getD j 0) 0+MM.wl (2 ^ b) j)) (fun _ _ _ _ _ h=>h) hD (SqT.of (s1 _ _ hl1)) (SqL.of (s1 _ _ hu1)) (by rw[yab,nw,h16]) (by rw[yab];omega) (fun _ _=>rfl) (fun i x y H2 Q2 hx hy s2 q2=>?_) fun H2 acc s2 e2 p2=>?_
  ·have hi:i<row.length:=by
    have:=(yag.mp hx).1
    rw[yab]at this
    exact this
   rw[yaj,MM.zbz hi]at hx
   cases hx
   have hy':(worV b)[i]?=some (nV (MM.wl (2 ^ b) i)):=MM.zas (show i<16 by omega)
   rw[hy']at hy
   cases hy
   have hg:row.getD i 0<G.length:=hlt _ (MM.zcc hi)
   refine⟨_,rfl,_,rfl,r,_,_,_,rfl,rfl,SqL.of (s2 _ _ (s1 _ _ hr1)),zm (show(G.map nV)[row.getD i 0]?=some (nV (G.getD (row.getD i 0) 0)) by rw[yaj,MM.zbz hg];rfl),_,_,rfl,rfl,.inl ⟨by decide,by decide⟩,_,rfl,_,_,rfl,rfl,?_⟩
   exact q2 _ H2 rfl (Same.refl H2)
  ·have ea:=zak p2
   rw[yab,h16]at ea
   have ed:acc=((yae LETTERS).map fun c=>2*G.getD (row.getD c 0) 0+MM.wl (2 ^ b) c).map nV:=by
    rw[ea,yb7]
    rfl
   have hacc:acc.length=16:=by rw[ea,yab,ya5]
   refine⟨p1,D,[nV k],acc,rfl,rfl,s2 _ _ zd,e2,ycx (za3 (show 1+acc.length<1000000 by omega)),fun p hp=>?_⟩
   refine⟨p,iV (k::(yae LETTERS).map fun c=>2*G.getD (row.getD c 0) 0+MM.wl (2 ^ b) c),rfl,SqL.of (by rw[zd,zma,ed];rfl),by unfold iV;simp,fun z hm hx=>?_⟩
   rw[z0p hm hx]
   exact kq _ ((s1.trans s2).trans (Same.new hp))
theorem zfp(K:yac)(H:Hp):∀ l:List Nat,DpAll K H (l.map nV) ((iV l).map ycw)
 | []=>.nil
 | a::l=>.cons (.int _) (zfp K H l)
theorem zmb:∀ l k:List Nat,yfr ((iV l).map ycw) ((iV k).map ycw)=decide (l=k)
 | [],[]=>rfl
 | [],_::_=>by show yfr [] (_::_)=_;simp[yfr]
 | _::_,[]=>by show yfr (_::_) []=_;simp[yfr]
 | a::l,b::k=>by
  show yfr (ycw (a:Int)::(iV l).map ycw) (ycw (b:Int)::(iV k).map ycw)=_
  unfold yfr
  rw[zmb l k]
  unfold ym0
  by_cases h:a=b
  ·subst h;simp
  ·have:¬ (a:Int)=(b:Int):=fun z=>h (yf5.mp z)
   simp[h,this]
theorem zi0:∀ l:List Nat,yjo ((iV l).map ycw)=0
 | []=>rfl
 | a::l=>by
  show yjo (ycw (a:Int)::(iV l).map ycw)=0
  unfold yjo
  rw[zi0 l]
  rfl
theorem zhz:∀ l:List Nat,yia ((iV l).map ycw)=true
 | []=>rfl
 | a::l=>by
  show yia (ycw (a:Int)::(iV l).map ycw)=true
  unfold yia
  rw[zhz l]
  rfl
theorem zlo(l:List Nat):yf8 (.list ((iV l).map ycw))=true:=by
 unfold yf8 ymt PyData.depth
 rw[zhz,zi0]
 rfl
theorem zlp(l:List Nat):yf8 (.tuple ((iV l).map ycw))=true:=by
 unfold yf8 ymt PyData.depth
 rw[zhz,zi0]
 rfl
theorem zuk:∀ l k:List Nat,l.length=k.length->(∀ i,i<k.length->l.getD i 0<=k.getD i 0)->l.sum<=k.sum/\(l≠k->l.sum<k.sum)
 | [],[],_,_=>⟨yao _,fun h=>absurd rfl h⟩
 | [],_::_,h,_=>by cases h
 | _::_,[],h,_=>by cases h
 | a::l,b::k,h,g=>by
  have h0:a<=b:=g 0 (Nat.succ_pos _)
  obtain⟨h1,h2⟩:=zuk l k (Nat.succ.inj h) fun i hi=>g (i+1) (Nat.succ_lt_succ hi)
  rw[yg3,yg3]
  refine⟨by omega,fun n=>?_⟩
  by_cases c:l=k
  ·subst c
   have:a≠b:=fun z=>n (by rw[z])
   omega
  ·have:=h2 c
   omega
theorem z0q(b:Nat):(1:Int)*2 ^ ((4*b:Nat):Int).toNat=((MM.NR (2 ^ b):Nat):Int):=by
 rw[yio,yan,show(2:Int) ^ (4*b)=((2 ^ (4*b):Nat):Int) from(zhg 2 _).symm]
 congr 1
 unfold MM.NR
 rw[yfy 4 b,Nat.pow_mul]
 simp[ye3]
end
end My
end
section
namespace My
open PySem PySem.Spec PyProof.Rows L2
open Rows (Told LETTERS)
section
variable {P:yav}{w:World}{K:yac}{mg:Str->Option Value}{base:Heap}
abbrev nmLr:List Str:=["machine","bits","no_row","worths","rows","before","letter","end","row","leads"]
theorem sc_lr:FnScope nmLr ["machine"] (ze zc1):=⟨rfl,rfl,rfl,by decide +kernel,rfl,by decide +kernel,by decide +kernel⟩
abbrev zr7(own:List (Str × Nat))(scope:Scope):Prop:=BlkOk nmLr (ze zc1) scope own
def spLr(CM:Addr):Sp:=fun vs H Q _=>∃(a:Addr) (m:yaf),vs=[.ref a]/\MachAt CM H a m/\MM.Wf m/\MM.Zr m/\m.next.length<=576/\(yec m.least=none->∀ H',Same H H'->Q .non H')/\∀ x,yec m.least=some x->∀ H' q,H' q=some (.lst (x.map nV))->Same H H'->H q=none->Q (.ref q) H'
def iniF(m:yaf)(b:Nat):List Nat:=m.ends.map fun e=>if e=true then 0 else MM.NR (2 ^ b)
def teIni:TE:=tIf (tTest (tOp rEq (tVar 7) (tC (.int 1)))) (tC (.int 0)) (tVar 2)
def teRw:TE:=tCall spLf [] E0 (tCons (tVar 8) (tCons (tVar 5) (tCons (tVar 9) (tCons (tVar 3) tNil))))
theorem z1s{f fS fP fF fO CM:Addr}{fd dS dP dF dO:ya2}(F:Fun K "least_row" "least_row" zc1 f fd)(B:TB mg)(B2:TB2 mg)(N:TN mg)(TMm:TM K mg CM)(GS:Gf K mg "side_by_side" zb9 ["letter","bits"] fS dS)(GP:Gf K mg "place_of" zdi ["v","bits"] fP dP)(GF:Gf K mg "least_from" zdc ["known","rows","leads","worths"] fF dF)(GO:Gf K mg "numbers_of" zdd ["row","bits"] fO dO):FnOk P w K mg base CX0 3 f fd ["machine"] (spLr CM):=by
 have NS:FnOk P w K mg base CX0 2 fS dS ["letter","bits"] spSd:=z1o GS.F B N GP
 have NF:FnOk P w K mg base CX0 2 fF dF ["known","rows","leads","worths"] spLf:=(z1r GF.F B B2).mono (by decide)
 have NO:FnOk P w K mg base CX0 2 fO dO ["row","bits"] spNo:=z1q GO.F B N GP
 obtain⟨tk,hv⟩:=N.vars
 obtain⟨tk',hlets⟩:=N.lets
 refine F.ok sc_lr (fun vs H Q E h=>?_) (fun cdv A outer s H vs Q E hr h=>?_)
 ·obtain⟨a,m,rfl,_⟩:=h
  rfl
 ·obtain⟨a,m,rfl,M,wf,zr,hz,hnon,hsome⟩:=h
  refine⟨_,zc (zz (i:=1) sc_lr.nd rfl (yc5 rfl) (zaf zag (by rfl) B.len yb9 (za (zq (pv 0) rfl) zb)))
   (zc (zz (i:=2) sc_lr.nd rfl (yc5 rfl) (zaa zff zg (zaa zgz (zx (v:=.int 4) rfl hv ⟨tk,rfl⟩) (pv 1))))
   (zc (zz (i:=3) sc_lr.nd rfl (yc5 rfl) (zaq (te:=tCall spSd [] E0 (tCons (tVar 6) (tCons (tVar 1) tNil))) (own:=[("letter",6)]) rfl sc_lr.nd (zau rfl B.range (za (zx (v:=.int 16) rfl hlets ⟨tk',rfl⟩) zb)) (show zr7 _ _ from zu (by decide +kernel))
     (fun _ _ _ _ _=>zt (i:=6) sc_lr.nd rfl (ybk rfl)) (fun _ _ _ _ _=>zac) (fun _ _ _ _ _=>zi NS hr rfl GS.m GS.F.kp GS.b .nil pass0 (za (pv 6) (za (pv 1) zb)))))
   (zc (zdv (i:=4) (te:=teIni) (own:=[("end",7)]) rfl sc_lr.nd rfl rfl (zek rfl rfl rfl (by decide +kernel)) (zd9 (zq (pv 0) rfl)) (show zr7 _ _ from zu (by decide +kernel))
     (fun _ _ _ _ _=>zt (i:=7) sc_lr.nd rfl (ybk rfl)) (fun _ _ _ _ _=>zac) (fun _ _ _ _ _=>zhk (zah zco (pv 7) zg (zaj _)) zg (pv 2)))
   (zc (zz (i:=5) sc_lr.nd rfl (yc5 rfl) (zy zb))
   (zc (zcz yei (zah (zsn hr.units) (pv 4) (pv 5) (zaj _))
    (zc (zz (i:=5) sc_lr.nd rfl (yc5 rfl) (pv 4))
    (zf (zdv (i:=4) (g:=gTup K 2 (gCons (gName 8) (gCons (gName 9) gNil))) (te:=teRw) (own:=[("row",8),("leads",9)]) rfl sc_lr.nd rfl rfl (zek rfl rfl rfl (by decide +kernel)) (zl2 false true rfl B.zip (za (pv 5) (za (zq (pv 0) rfl) zb))) (show zr7 _ _ from zu (by decide +kernel))
     (fun _ _ _ _ _=>zh3 rfl (zcy (zt (i:=8) sc_lr.nd rfl (ybk rfl) (yc5 rfl)) (zcy (zt (i:=9) sc_lr.nd rfl (ybk rfl) (yc5 rfl)) zgy))) (fun _ _ _ _ _=>zac)
     (fun _ _ _ _ _=>zi NF hr rfl GF.m GF.F.kp GF.b .nil pass0 (za (pv 8) (za (pv 5) (za (pv 9) (za (pv 3) zb)))))))))
   (zc (zbk (zah zco (zp ix_list (pv 4) zg (fun _ _=>rfl)) (pv 2) (zaj _)) (zf (zk zsd)) zap)
   (zf (zk (zi NO hr rfl GO.m GO.F.kp GO.b .nil pass0 (za (zp ix_list (pv 4) zg (fun _ _=>rfl)) (za (pv 1) zb))))))))))),?_⟩
  obtain⟨dm,em,lm,rsm,g1,g2,g3,g4,g5⟩:=M.row
  have hll:(rsm.map V.ref).length=m.next.length:=by rw[yab];exact g5
  have hm1:=wf.pos
  refine⟨_,rfl,a,CM,dm,_,_,rfl,g1,TMm.cl,TMm.nL,zal _ _,lm,_,rfl,.inr (SqT.of g3),?_⟩
  rw[hll]
  refine⟨_,rfl,_,_,rfl,rfl,.inl ⟨by decide,by decide⟩,_,_,rfl,rfl,⟨by show(0:Int)<=4*(m.next.length:Int);omega,by show 4*(m.next.length:Int)<=1000000;omega,by decide⟩,?_⟩
  have eN:V.int (1*2 ^ ((4:Int)*((m.next.length:Nat):Int)).toNat)=nV (MM.NR (2 ^ m.next.length)):=by
   rw[show(4:Int)*((m.next.length:Nat):Int)=((4*m.next.length:Nat):Int) by omega,z0q]
   rfl
  rw[show(fun (i j:Int)=>V.int (i*2 ^ j.toNat)) 1 (4*((m.next.length:Nat):Int))=nV (MM.NR (2 ^ m.next.length)) from eN]
  have hP:0<2 ^ m.next.length:=yih (by decide)
  generalize eb:m.next.length=b at *
  refine⟨_,rfl,by decide,by decide,fun wd hwd=>?_⟩
  refine zc2 (n:=16) (idx:=6) (fun j y _=>y=nV (MM.wl (2 ^ b) j)) (fun _ _ _ _ _ h=>h) hwd (by decide) (fun _=>rfl) (fun i H2 Q2 hi s2 q2=>?_) fun H1 accw s1 e1 p1=>?_
  ·refine⟨_,rfl,_,rfl,i,b,?_,by omega,fun H3 s3=>q2 _ H3 rfl s3⟩
   show [V.int (0+(i:Int)),nV b]=[nV i,nV b]
   rw[ygs]
   rfl
  have eaw:=zak p1
  have ew:H1 wd=some (.lst (worV b)):=by rw[e1,eaw];rfl
  refine⟨_,rfl,a,CM,dm,_,_,rfl,s1 _ _ g1,TMm.cl,TMm.nE,zbe _ _,em,rfl,⟨_,SqT.of (s1 _ _ g2)⟩,fun D hD=>?_⟩
  refine zee (K:=K) (a:=em) (idx:=7) (te:=teIni) (fun j y _=>y=nV ((iniF m b).getD j 0)) (fun _ _ _ _ _ h=>h) hD (SqT.of (s1 _ _ g2)) (by rw[yab,wf.ends];omega) (fun _=>rfl) (fun i z H4 Q4 hz' s4 q4=>?_) fun H2 acc s2 e2 p2=>?_
  ·obtain⟨e,he,rfl⟩:=zcx hz'
   have hv':(iniF m b).getD i 0=if e=true then 0 else MM.NR (2 ^ b):=MM.zw (by unfold iniF;rw[yaj,he];rfl)
   refine⟨_,rfl,rfl,_,rfl,?_⟩
   cases e with
   | true=>exact ifT (by decide) (q4 _ H4 (by rw[hv'];rfl) (Same.refl H4))
   | false=>exact ifF (by decide) ⟨_,rfl,q4 _ H4 (by rw[hv'];rfl) (Same.refl H4)⟩
  have ea:=zak p2
  have e2':H2 D=some (.lst ((iniF m b).map nV)):=by
   rw[e2,ea]
   have:=za4 (iniF m b) 0 nV
   rw[show(iniF m b).length=(m.ends.map bV).length by unfold iniF;rw[yab,yab]]at this
   rw[this]
  refine⟨ybj _,fun D0 hD0=>?_⟩
  have s3:Same H (upd H2 D0 (.lst [])):=(s1.trans s2).trans (Same.new hD0)
  have hD0':∀ c u,H2 c=some u->(upd H2 D0 (.lst [])) c=some u:=fun c u e=>Same.new hD0 c u e
  refine⟨fun mm σ H'=>∃(G G0:List Nat) (D D0:Addr),σ=[some (.ref a),some (nV b),some (nV (MM.NR (2 ^ b))),some (.ref wd),some (.ref D),some (.ref D0),none,none,none,none]/\mm=2*G.sum+(if G=G0 then 0 else 1)/\Same H H'/\H' wd=some (.lst (worV b))/\H' D=some (.lst (G.map nV))/\H' D0=some (.lst (G0.map nV))/\MM.JF m (2 ^ b) G/\(G0=[]\/G=MM.stF m (2 ^ b) G0),⟨_,iniF m b,[],D,D0,rfl,rfl,s3,hD0' _ _ (s2 _ _ ew),hD0' _ _ e2',zd,MM.JF.zero wf,.inl rfl⟩,?_⟩
  rintro mm σ H3 ⟨G,G0,D,D0,rfl,rfl,s3,ew3,eD,eD0,J,hst⟩
  have hG:G.length=b:=by rw[J.len,eb]
  refine⟨_,rfl,_,rfl,.list ((iV G).map ycw),.list ((iV G0).map ycw),.lst (SqL.of eD) (zfp K H3 G),.lst (SqL.of eD0) (zfp K H3 G0),zlo G,zlo G0,_,rfl,?_⟩
  have et:(!PyData.eqv (.list ((iV G).map ycw)) (.list ((iV G0).map ycw))) = !decide (G=G0):=by
   rw[<- zmb G G0]
   unfold ym0
   rfl
  rw[et]
  have h0:(G.map nV)[0]?=some (nV (G.getD 0 0)):=by rw[yaj,MM.zbz (by omega)];rfl
  by_cases c:G=G0
  ·rw[decide_eq_true c]
   refine ifF rfl ?_
   have fx:MM.stF m (2 ^ b) G=G:=by
    rcases hst with h | h
    ·exfalso
     rw[c,h]at hG
     simp at hG
     omega
    ·rw[<- c]at h
     exact h.symm
   have hf:=J.first wf zr fx (by rw[eb])
   refine⟨_,rfl,D,_,_,_,rfl,rfl,SqL.of eD,zm (j:=0) h0,_,rfl,rfl,_,rfl,?_⟩
   by_cases c2:G.getD 0 0=MM.NR (2 ^ b)
   ·rw[if_pos c2]at hf
    rw[c2]
    refine ifT (decide_eq_true rfl) ?_
    exact hnon hf H3 s3
   ·rw[if_neg c2]at hf
    refine ifF (decide_eq_false fun z=>c2 (yf5.mp (V.int.inj z))) ?_
    refine⟨_,rfl,D,_,_,_,rfl,rfl,SqL.of eD,zm (j:=0) h0,_,rfl,G.getD 0 0,b,rfl,by omega,fun H5 q hq s5 hqn=>?_⟩
    exact hsome _ hf H5 q hq (s3.trans s5) (s3.free hqn)
  ·rw[decide_eq_false c]
   refine ifT rfl ?_
   refine⟨fun σ' H'=>∃ m':Nat,m'<2*G.sum+(if G=G0 then 0 else 1)/\∃(G G0:List Nat) (D D0:Addr),σ'=[some (.ref a),some (nV b),some (nV (MM.NR (2 ^ b))),some (.ref wd),some (.ref D),some (.ref D0),none,none,none,none]/\m'=2*G.sum+(if G=G0 then 0 else 1)/\Same H H'/\H' wd=some (.lst (worV b))/\H' D=some (.lst (G.map nV))/\H' D0=some (.lst (G0.map nV))/\MM.JF m (2 ^ b) G/\(G0=[]\/G=MM.stF m (2 ^ b) G0),fun _ _ h=>h,?_⟩
   have g1':=s3 _ _ g1
   have g3':=s3 _ _ g3
   refine⟨_,rfl,_,rfl,_,rfl,a,CM,dm,_,_,rfl,g1',TMm.cl,TMm.nL,zal _ _,D,lm,_,_,rfl,SqL.of eD,SqT.of g3',fun D2 hD2=>?_⟩
   refine zui (K:=K) (k1:=false) (k2:=true) (a:=D) (b:=lm) (xs:=G.map nV) (ys:=rsm.map V.ref) (j1:=8) (j2:=9) (te:=teRw) (fun j y _=>y=nV ((MM.stF m (2 ^ b) G).getD j 0)) (fun _ _ _ _ _ h=>h) hD2 (SqL.of eD) (SqT.of g3') (by rw[yab,hll,hG]) (by rw[yab];omega) (fun _ _=>rfl) (fun i x y H4 Q4 hx hy s4 q4=>?_) fun H4 acc s4 e4 p4=>?_
   ·have hi:i<G.length:=by
     have:=(yag.mp hx).1
     rw[yab]at this
     exact this
    have hib:i<m.next.length:=by omega
    rw[yaj,MM.zbz hi]at hx
    cases hx
    obtain⟨r',hr1,hr2⟩:=zd0 (g4.keep (zan (s3.trans s4))) hib
    rw[hy]at hr1
    cases hr1
    refine⟨_,rfl,_,rfl,_,rfl,_,rfl,G.getD i 0,b,D,r',wd,G,m.next.getD i [],rfl,s4 _ _ eD,hr2,s4 _ _ ew3,wf.row hib,fun z hz'=>?_,fun H5 s5=>q4 _ H5 ?_ s5⟩
    ·have:=wf.rg.lt (MM.zcc hib) hz'
     omega
    ·rw[MM.zku hib]
     rfl
   ·have ea:=zak p4
    have hsl:(MM.stF m (2 ^ b) G).length=b:=by unfold MM.stF;rw[yab,ya5,eb]
    have e4':H4 D2=some (.lst ((MM.stF m (2 ^ b) G).map nV)):=by
     have:=za4 (MM.stF m (2 ^ b) G) 0 nV
     rw[hsl]at this
     rw[e4,ea,yab,hG,this]
    have sp:=zuk (MM.stF m (2 ^ b) G) G (by rw[hsl,hG]) fun i hi=>MM.zom (by omega)
    refine⟨_,?_,MM.stF m (2 ^ b) G,G,D2,D,rfl,rfl,s3.trans s4,s4 _ _ ew3,e4',s4 _ _ eD,J.step wf hP,.inr rfl⟩
    rw[if_neg c]
    by_cases c3:MM.stF m (2 ^ b) G=G
    ·rw[if_pos c3,c3];omega
    ·rw[if_neg c3]
     have:=sp.2 c3
     omega
end
end My
end
section
namespace My
open PySem PySem.Spec PyProof.Rows L2
open Rows (Told LETTERS)
theorem zul:∀ l:List Nat,(iV l).sum=((l.foldr (fun (x y:Nat)=>x+y) 0:Nat):Int)
 | []=>rfl
 | a::l=>by
  show((a:Int)::iV l).sum=((a+l.foldr (fun (x y:Nat)=>x+y) 0:Nat):Int)
  rw[yg3,zul l]
  omega
theorem Sq.ix{K:yac}{b:Bool}{H:Hp}{p:Addr}{xs:List V}{j:Nat}{v:V}{Q:VK}(h:H p=some (sO b xs))(e:xs[j]?=some v)(q:Q v H):rIx K (.ref p) (.int (j:Int)) H Q:=by
 cases b
 ·exact .inl ⟨p,xs,_,_,rfl,rfl,SqL.of h,zm e,q⟩
 ·exact .inr (.inl ⟨p,xs,_,_,rfl,rfl,SqT.of h,zm e,q⟩)
theorem zkb{m:yaf}(wf:MM.Wf m)(n:Nat){q:Nat}(hq:q<m.next.length):((yej m n).map nV)[q]?=some (nV ((yej m n).getD q 0)):=by
 rw[yaj,MM.zbz (by rw[MM.zkv wf];exact hq)];rfl
section
variable {P:yav}{w:World}{K:yac}{mg:Str->Option Value}{base:Heap}
abbrev nmMb:List Str:=["machine","counts","found","turn","row","state"]
theorem sc_mb:FnScope nmMb ["machine","counts"] (ze zbv):=⟨rfl,rfl,rfl,by decide +kernel,rfl,by decide +kernel,by decide +kernel⟩
def spMb(CM:Addr):Sp:=fun vs H Q _=>∃(b:Bool) (a p:Addr) (m:yaf) (n:Nat),vs=[.ref a,.ref p]/\MachAt CM H a m/\MM.Wf m/\m.next.length<=24/\H p=some (sO b ((yej m n).map nV))/\∀ H' q b',H' q=some (sO b' ((yej m (n+m.next.length)).map nV))->Same H H'->Q (.ref q) H'
abbrev scMb:Scope:={ kind:=.function,names:=[(".0",.local),("row",.local),("sum",.globalImplicit),("found",.cell)],isGenerator:=false,isCoroutine:=false }
theorem z0r:BlkOk nmMb scMb { kind:=.function,names:=[(".0",.local),("state",.local),("found",.free)],isGenerator:=false,isCoroutine:=false } [("state",5)]:=zu (by decide +kernel)
def teMb(K:yac):TE:=tCB (rSum K) (tCons (tLc (iTup K (tVar 4)) (gName 5) tYes (tOp (rIx K) (tVar 2) (tVar 5)) [5]) tNil)
theorem z1t{f CM:Addr}{fd:ya2}(F:Fun K "with_more_bits" "with_more_bits" zbv f fd)(B:TB mg)(TMm:TM K mg CM):FnOk P w K mg base CX0 1 f fd ["machine","counts"] (spMb CM):=by
 refine F.ok sc_mb (fun vs H Q E h=>?_) (fun cdv A outer s H vs Q E hr h=>?_)
 ·obtain⟨b,a,p,m,n,rfl,_⟩:=h
  rfl
 ·obtain⟨b,a,p,m,n,rfl,M,wf,hz,hp,kq⟩:=h
  refine⟨_,zc (zz (i:=2) sc_mb.nd rfl (yc5 rfl) (pv 1))
   (zc (zf6 yei rfl (zau rfl B.range (za (zaf zag (by rfl) B.len yb9 (za (zq (pv 0) rfl) zb)) zb)) (zt (i:=3) sc_mb.nd rfl (ybk rfl))
     (zf (zz (i:=2) sc_mb.nd rfl (yc5 rfl) (zaq (te:=teMb K) (own:=[("row",4)]) rfl sc_mb.nd (zd9 (zq (pv 0) rfl)) (show BlkOk nmMb (ze zbv) _ _ from zu (by decide +kernel))
      (fun _ _ _ _ _=>zt (i:=4) sc_mb.nd rfl (ybk rfl)) (fun _ _ _ _ _=>zac)
      (fun _ _ _ _ _=>zaf (zkh rfl) (by rfl) B.sum yl3 (za (zaq (te:=tOp (rIx K) (tVar 2) (tVar 5)) (own:=[("state",5)]) rfl sc_mb.nd (zd9 (pv 4)) z0r (fun _ _ _ _ _=>zt (i:=5) sc_mb.nd rfl (ybk rfl)) (fun _ _ _ _ _=>zac) (fun _ _ _ _ _=>zp zh7 (pv 2) (pv 5) (fun _ _=>rfl))) zb))))))
   (zf (zk (pv 2)))),?_⟩
  obtain⟨dm,em,lm,rsm,g1,g2,g3,g4,g5⟩:=M.row
  have hll:(rsm.map V.ref).length=m.next.length:=by rw[yab];exact g5
  refine⟨_,rfl,_,rfl,a,CM,dm,_,_,rfl,g1,TMm.cl,TMm.nL,zal _ _,lm,_,rfl,.inr (SqT.of g3),_,rfl,(by rw[hll];omega),(by rw[hll];omega),?_⟩
  rw[show(((rsm.map V.ref).length:Nat):Int).toNat=m.next.length by rw[hll];rfl]
  refine zmg (fun i σ H2=>∃ D b',Same H H2/\H2 D=some (sO b' ((yej m (n+i)).map nV))/\∃ r:Option V,σ=[some (.ref a),some (.ref p),some (.ref D),r,none,none]) ⟨p,b,Same.refl H,hp,none,rfl⟩ (fun i σ H2 hi ⟨D,b',s2,e2,r,hσ⟩=>?_) fun σ H2 ⟨D,b',s2,e2,r,hσ⟩=>?_
  ·subst hσ
   refine⟨_,rfl,a,CM,dm,_,_,rfl,s2 _ _ g1,TMm.cl,TMm.nL,zal _ _,lm,rfl,⟨_,SqT.of (s2 _ _ g3)⟩,fun D' hD'=>?_⟩
   refine zee (K:=K) (a:=lm) (idx:=4) (te:=teMb K) (fun j y _=>y=nV ((yej m (n+i+1)).getD j 0)) (fun _ _ _ _ _ h=>h) hD' (SqT.of (s2 _ _ g3)) (by rw[hll];omega) (fun _=>rfl) (fun j y H3 Q3 hy s3 q3=>?_) fun H3 acc s3 e3 p3=>?_
   ·have hj:j<m.next.length:=by
     have:=(yag.mp hy).1
     omega
    obtain⟨r',hr1,hr2⟩:=zd0 (g4.keep (zan (s2.trans s3))) hj
    rw[hy]at hr1
    cases hr1
    have n16:((m.next.getD j []).map nV).length=16:=by rw[yab,wf.row hj];rfl
    refine⟨_,rfl,r',rfl,⟨_,SqT.of hr2⟩,fun D2 hD2=>?_⟩
    refine zee (K:=K) (a:=r') (idx:=5) (fun c y _=>y=nV ((yej m (n+i)).getD (m.on j c) 0)) (fun _ _ _ _ _ h=>h) hD2 (SqT.of hr2) (by rw[n16];decide) (fun _=>rfl) (fun c y H4 Q4 hy s4 q4=>?_) fun H4 acc s4 e4 p4=>?_
    ·have hc:c<16:=by
      have:=(yag.mp hy).1
      omega
     rw[zfy wf hj hc]at hy
     cases hy
     exact⟨_,rfl,_,rfl,Sq.ix (s4 _ _ (s3 _ _ e2)) (zkb wf _ (wf.on_lt hj hc)) (q4 _ H4 rfl (Same.refl H4))⟩
    ·have ea:=zak p4
     rw[n16]at ea
     have es:=MM.zgn (m:=m) (n+i) hj
     refine⟨D2,iV ((yae LETTERS).map fun c=>(yej m (n+i)).getD (m.on j c) 0),rfl,SqL.of (by rw[zma,yb7,e4,ea];rfl),?_⟩
     rw[zul,<- es]
     exact q3 _ H4 rfl s4
   ·have ea:=zak p3
    refine⟨D',false,s2.trans s3,?_,_,rfl⟩
    rw[e3,ea,hll]
    have:=za4 (yej m (n+i+1)) 0 nV
    rw[MM.zkv wf]at this
    rw[this]
    rfl
  ·subst hσ
   exact⟨_,rfl,kq H2 D b' e2 s2⟩
def spCr(CM CE CV:Addr):Sp:=fun vs H Q E=>∃(a:Addr) (m:yaf),vs=[.ref a]/\MachAt CM H a m/\MM.Good m/\m.next.length<=24/\(yib m=none->∀ H',Same H H'->E (.ref CE) none H')/\(∀ k,yib m=some k->2 ^ 63<=k->∀ H',Same H H'->E (.ref CV) none H')/\∀ k,yib m=some k->k<2 ^ 63->∀ H',Same H H'->Q (nV k) H'
theorem sc_cr2:FnScope ["machine","short","longer"] ["machine"] (ze zdy):=⟨rfl,rfl,rfl,by decide +kernel,rfl,by decide +kernel,by decide +kernel⟩
theorem zpt(m:yaf):(yej m 0).map nV=m.ends.map bV:=by
 show(m.ends.map _).map nV=_
 rw[yb7]
 refine ybw fun b _=>?_
 cases b<;>rfl
theorem z0s{f fB CM CE CV:Addr}{fd dB:ya2}(F:Fun K "count_rows" "count_rows" zdy f fd)(B:TB mg)(TMm:TM K mg CM)(GB:Gf K mg "with_more_bits" zbv ["machine","counts"] fB dB)(TE':Exc K mg "NoEnd" CE)(TV:Exc K mg "TooManyRows" CV)(hM:∃ t,mg "MOST_ROWS" = some (.int 9223372036854775807 t)) :
  FnOk P w K mg base (CXE P w) 2 f fd ["machine"] (spCr CM CE CV):=by
 have NB:FnOk P w K mg base CX0 1 fB dB ["machine","counts"] (spMb CM):=z1t GB.F B TMm
 obtain⟨tk,hM⟩:=hM
 refine F.okE sc_cr2 (fun vs H Q E h=>?_) (fun cdv A outer s H vs Q E hr h=>?_)
 ·obtain⟨a,m,rfl,_⟩:=h
  rfl
 ·obtain⟨a,m,rfl,M,gd,hz,hE,hV,hQ⟩:=h
  refine⟨_,zc (zz (i:=1) sc_cr2.nd rfl (ybk rfl) (zi NB hr rfl GB.m GB.F.kp GB.b .nil pass0 (za (pv 0) (za (zq (pv 0) rfl) zb))))
   (zc (zz (i:=2) sc_cr2.nd rfl (ybk rfl) (zi NB hr rfl GB.m GB.F.kp GB.b .nil pass0 (za (pv 0) (za (pv 1) zb))))
   (zc (zbk (zah zgi (zp zh7 (pv 2) zg (fun _ _=>rfl)) (zp zh7 (pv 1) zg (fun _ _=>rfl)) (zaj _)) (zf (ze2 TE' rfl)) zap)
   (zc (zbk (zah zgi (zp zh7 (pv 1) zg (fun _ _=>rfl)) (zx (v:=.int 9223372036854775807) rfl hM ⟨tk,rfl⟩) (zaj _)) (zf (ze2 TV rfl)) zap)
   (zf (zk (zp zh7 (pv 1) zg (fun _ _=>rfl))))))),?_⟩
  obtain⟨dm,em,lm,rsm,g1,g2,g3,g4,g5⟩:=M.row
  have ce:=MM.zvb gd.wf gd.zr
  refine⟨_,rfl,_,rfl,a,CM,dm,_,_,rfl,g1,TMm.cl,TMm.nE,zbe _ _,true,a,em,m,0,rfl,M,gd.wf,hz,by rw[zpt];exact g2,fun H1 q b1 hq s1=>?_⟩
  rw[yfi]at hq
  refine⟨_,rfl,_,rfl,b1,a,q,m,m.next.length,rfl,M.same s1,gd.wf,hz,hq,fun H2 q2 b2 hq2 s2=>?_⟩
  have s12:=s1.trans s2
  have c1:=zkb gd.wf m.next.length gd.wf.pos
  have c2:=zkb gd.wf (m.next.length+m.next.length) gd.wf.pos
  generalize (yej m m.next.length).getD 0 0=x at *
  generalize (yej m (m.next.length+m.next.length)).getD 0 0=y at *
  refine⟨_,rfl,Sq.ix (j:=0) hq2 c2 ⟨_,rfl,Sq.ix (j:=0) (s2 _ _ hq) c1 ⟨_,_,rfl,rfl,_,rfl,?_⟩⟩⟩
  by_cases h1:x<y
  ·rw[if_pos h1]at ce
   exact ifT (decide_eq_true (show(x:Int)<(y:Int) by omega)) (hE ce H2 s12)
  ·rw[if_neg h1]at ce
   refine ifF (decide_eq_false (show ¬ (x:Int)<(y:Int) by omega)) ?_
   refine⟨_,rfl,Sq.ix (j:=0) (s2 _ _ hq) c1 ⟨_,_,rfl,rfl,_,rfl,?_⟩⟩
   by_cases h2:2 ^ 63<=x
   ·exact ifT (decide_eq_true (show(9223372036854775807:Int)<(x:Int) by omega)) (hV x ce h2 H2 s12)
   ·refine ifF (decide_eq_false (show ¬ (9223372036854775807:Int)<(x:Int) by omega)) ?_
    exact⟨_,rfl,Sq.ix (j:=0) (s2 _ _ hq) c1 (hQ x ce (by omega) H2 s12)⟩
end
end My
end
section
namespace My
open PySem PySem.Spec PyProof.Rows L2
open Rows (Told LETTERS)
section
variable {P:yav}{w:World}{K:yac}{mg:Str->Option Value}{base:Heap}
def exch(row:List Nat)(v:Nat):List Nat:=(yae LETTERS).map fun c=>row.getD (ycp c v) 0
theorem sc_wx:FnScope ["row","bit","letter"] ["row","bit"] (ze zaz):=⟨rfl,rfl,rfl,by decide +kernel,rfl,by decide +kernel,by decide +kernel⟩
def spWx:Sp:=fun vs H Q _=>∃(r:Addr) (row:List Nat) (v:Nat),vs=[.ref r,nV (2 ^ v)]/\H r=some (.tup (row.map nV))/\row.length=16/\v<4/\∀ H' t,H' t=some (.tup ((exch row v).map nV))->Same H H'->Q (.ref t) H'
theorem z1u{f:Addr}{fd:ya2}(F:Fun K "with_bit_exchanged" "with_bit_exchanged" zaz f fd)(B:TB mg)(N:TN mg):FnOk P w K mg base CX0 1 f fd ["row","bit"] spWx:=by
 obtain⟨tk,hlets⟩:=N.lets
 refine F.ok sc_wx (fun vs H Q E h=>?_) (fun cdv A outer s H vs Q E hr h=>?_)
 ·obtain⟨r,row,v,rfl,_⟩:=h
  rfl
 ·obtain⟨r,row,v,rfl,hr0,h16,hv,kq⟩:=h
  refine⟨_,zf (zk (zcp ze8 (by rfl) B.tuple (by decide +kernel) (za (zaq (te:=tOp (rIxT K) (tVar 0) (tOp (rI0 fun i j=>.int (yd6 i j)) (tVar 2) (tVar 1))) (own:=[("letter",2)]) rfl sc_wx.nd
   (zau rfl B.range (za (zx (v:=.int 16) rfl hlets ⟨tk,rfl⟩) zb)) (show BlkOk ["row","bit","letter"] (ze zaz) _ _ from zu (by decide +kernel)) (fun _ _ _ _ _=>zt (i:=2) sc_wx.nd rfl (ybk rfl))
   (fun _ _ _ _ _=>zac) (fun _ _ _ _ _=>zp ix_tup (pv 0) (zaa zkd (pv 2) (pv 1)) (fun _ _=>rfl))) zb))),?_⟩
  refine⟨_,rfl,by decide,by decide,fun D hD=>?_⟩
  refine zc2 (n:=16) (idx:=2) (fun j y _=>y=nV (row.getD (ycp j v) 0)) (fun _ _ _ _ _ h=>h) hD (by decide) (fun _=>rfl) (fun i H2 Q2 hi s2 q2=>?_) fun H2 acc s2 e2 p2=>?_
  ·have ei:(0:Int)+(i:Int)=(i:Int):=by omega
   have ht:=zl7 i hi v hv
   rw[ei]
   refine⟨_,rfl,_,rfl,_,rfl,_,_,rfl,rfl,r,_,_,_,rfl,rfl,SqT.of (s2 _ _ hr0),?_,q2 _ H2 rfl (Same.refl H2)⟩
   show atI (row.map nV) (yd6 ((i:Nat):Int) ((2 ^ v:Nat):Int))=some (nV (row.getD (ycp i v) 0))
   rw[zo3 i hi v hv]
   exact zm (by rw[yaj,MM.zbz (by omega)];rfl)
  ·have ea:=zak p2
   refine⟨D,_,rfl,.inl e2,fun t H3 ht s3=>kq H3 t ?_ (s2.trans s3)⟩
   rw[ht,ea]
   unfold exch
   rw[yb7]
   rfl
def hgs(m:yaf)(v:Nat):Bool:=(yae m.size).any fun (q:Nat)=>(yae LETTERS).any fun (c:Nat)=>m.on q c != m.on q (ycp c v)
theorem sc_hg:FnScope ["machine","v","row"] ["machine","v"] (ze zd8):=⟨rfl,rfl,rfl,by decide +kernel,rfl,by decide +kernel,by decide +kernel⟩
def spHg(CM:Addr):Sp:=fun vs H Q _=>∃(a:Addr) (m:yaf) (v:Nat),vs=[.ref a,nV v]/\MachAt CM H a m/\MM.Wf m/\m.next.length<=24/\v<4/\∀ H',Same H H'->Q (.bl (hgs m v)) H'
def teHg(K:yac):TE:=tOp (rNeD K) (tVar 2) (tCall spWx [] E0 (tCons (tVar 2) (tCons (tOp (rI CPow fun i j=>.int (i*2 ^ j.toNat)) (tC (.int 1)) (tVar 1)) tNil)))
def rowHg(m:yaf)(v q:Nat):Bool:=!decide (m.next.getD q []=exch (m.next.getD q []) v)
theorem zpa{m:yaf}(wf:MM.Wf m)(v:Nat){q:Nat}(hq:q<m.next.length):rowHg m v q=(yae LETTERS).any fun (c:Nat)=>m.on q c != m.on q (ycp c v):=by
 have e:m.next.getD q []=(yae LETTERS).map fun c=>m.on q c:=(MM.zig (wf.row hq)).symm
 have h:m.next.getD q []=exch (m.next.getD q []) v<->∀ c∈yae LETTERS,m.on q c=m.on q (ycp c v):=by
  unfold exch
  constructor
  ·intro h c hc
   have h2:(yae LETTERS).map (fun c=>m.on q c)=(yae LETTERS).map fun c=>m.on q (ycp c v):=e.symm.trans h
   exact List.map_inj_left.mp h2 c hc
  ·intro h
   exact e.trans (ybw h)
 unfold rowHg
 rw[yef,ydb,yk3,decide_eq_false_iff_not,h]
 constructor
 ·intro z
  refine yeu fun y=>z fun c hc=>yeu fun x=>y ⟨c,hc,by simpa using x⟩
 ·rintro⟨c,hc,x⟩ z
  rw[z c hc]at x
  simp at x
theorem z1v{f fX CM:Addr}{fd dX:ya2}(F:Fun K "hangs_on" "hangs_on" zd8 f fd)(B:TB mg)(B2:TB2 mg)(N:TN mg)(TMm:TM K mg CM)(GX:Gf K mg "with_bit_exchanged" zaz ["row","bit"] fX dX):FnOk P w K mg base CX0 2 f fd ["machine","v"] (spHg CM):=by
 have NX:FnOk P w K mg base CX0 1 fX dX ["row","bit"] spWx:=z1u GX.F B N
 refine F.ok sc_hg (fun vs H Q E h=>?_) (fun cdv A outer s H vs Q E hr h=>?_)
 ·obtain⟨a,m,v,rfl,_⟩:=h
  rfl
 ·obtain⟨a,m,v,rfl,M,wf,hz,hv,kq⟩:=h
  refine⟨_,zf (zk (zaf (zzk rfl) (by rfl) B2.any zwj (za (zaq (te:=teHg K) (own:=[("row",2)]) rfl sc_hg.nd (zd9 (zq (pv 0) rfl)) (show BlkOk ["machine","v","row"] (ze zd8) _ _ from zu (by decide +kernel))
   (fun _ _ _ _ _=>zt (i:=2) sc_hg.nd rfl (ybk rfl)) (fun _ _ _ _ _=>zac) (fun _ _ _ _ _=>zlu (zsn hr.units) (pv 2) (zi NX hr rfl GX.m GX.F.kp GX.b .nil pass0 (za (pv 2) (za (zaa zff zg (pv 1)) zb))) (zaj _))) zb))),?_⟩
  obtain⟨dm,em,lm,rsm,g1,g2,g3,g4,g5⟩:=M.row
  have hll:(rsm.map V.ref).length=m.next.length:=by rw[yab];exact g5
  have hbv:V.int (1*2 ^ ((v:Int)).toNat)=nV (2 ^ v):=by
   rw[yan,yio]
   unfold nV
   rw[yf6]
   rfl
  refine⟨_,rfl,a,CM,dm,_,_,rfl,g1,TMm.cl,TMm.nL,zal _ _,lm,rfl,⟨_,SqT.of g3⟩,fun D hD=>?_⟩
  refine zee (K:=K) (a:=lm) (idx:=2) (te:=teHg K) (fun j y _=>y = .bl (rowHg m v j)) (fun _ _ _ _ _ h=>h) hD (SqT.of g3) (by rw[hll];omega) (fun _=>rfl) (fun j y H3 Q3 hy s3 q3=>?_) fun H3 acc s3 e3 p3=>?_
  ·have hj:j<m.next.length:=by
    have:=(yag.mp hy).1
    omega
   obtain⟨r',hr1,hr2⟩:=zd0 (g4.keep (zan s3)) hj
   rw[hy]at hr1
   cases hr1
   refine⟨_,rfl,_,rfl,_,rfl,_,_,rfl,rfl,⟨by show(0:Int)<=(v:Int);omega,by show(v:Int)<=1000000;omega,by decide⟩,r',m.next.getD j [],v,?_,hr2,wf.row hj,hv,fun H4 t ht s4=>?_⟩
   ·rw[<- hbv]
    rfl
   ·refine⟨.tuple ((iV (m.next.getD j [])).map ycw),.tuple ((iV (exch (m.next.getD j []) v)).map ycw),.tup (SqT.of (s4 _ _ hr2)) (zfp K H4 _),.tup (SqT.of ht) (zfp K H4 _),zlp _,zlp _,?_⟩
    refine q3 _ H4 ?_ s4
    unfold rowHg
    rw[<- zmb]
    unfold ym0
    rfl
  ·have ea:=zak p3
   rw[hll]at ea
   refine⟨D,(yae m.next.length).map fun j=>rowHg m v j,rfl,SqL.of (by rw[e3,ea,yb7];rfl),?_⟩
   have eh:((yae m.next.length).map fun j=>rowHg m v j).any id=hgs m v:=by
    unfold hgs
    rw[ylk,yef,ydb,ydb]
    constructor
    ·rintro⟨q,hq,h⟩
     exact⟨q,hq,by rw[<- zpa wf v (yau.mp hq)];exact h⟩
    ·rintro⟨q,hq,h⟩
     exact⟨q,hq,by show rowHg m v q=true;rw[zpa wf v (yau.mp hq)];exact h⟩
   rw[eh]
   exact kq H3 s3
theorem sc_vh:FnScope ["machine","v"] ["machine"] (ze zbc):=⟨rfl,rfl,rfl,by decide +kernel,rfl,by decide +kernel,by decide +kernel⟩
def spVh(CM:Addr):Sp:=fun vs H Q _=>∃(a:Addr) (m:yaf),vs=[.ref a]/\MachAt CM H a m/\MM.Wf m/\m.next.length<=24/\∀ H' q,H' q=some (.lst ((ygn m).map nV))->Same H H'->H q=none->Q (.ref q) H'
def hgU(m:yaf)(i:Nat):List Nat:=(yae i).filter fun v=>hgs m v
theorem zwk(m:yaf)(i:Nat):hgU m (i+1)=if hgs m i=true then hgU m i++[i] else hgU m i:=by
 unfold hgU
 rw[yc0,yhm]
 by_cases h:hgs m i=true
 ·rw[if_pos h,yd2,if_pos h];rfl
 ·rw[if_neg h,yd2,if_neg h];simp
def ttVh(CM:Addr):TT:=tB (tCall (spHg CM) [] E0 (tCons (tVar 0) (tCons (tVar 1) tNil)))
theorem z1w{f fH fX CM:Addr}{fd dH dX:ya2}(F:Fun K "variables_hung_on" "variables_hung_on" zbc f fd)(B:TB mg)(B2:TB2 mg)(N:TN mg)(TMm:TM K mg CM)(GH:Gf K mg "hangs_on" zd8 ["machine","v"] fH dH)(GX:Gf K mg "with_bit_exchanged" zaz ["row","bit"] fX dX):FnOk P w K mg base CX0 3 f fd ["machine"] (spVh CM):=by
 have NH:FnOk P w K mg base CX0 2 fH dH ["machine","v"] (spHg CM):=z1v GH.F B B2 N TMm GX
 obtain⟨tk,hv⟩:=N.vars
 refine F.ok sc_vh (fun vs H Q E h=>?_) (fun cdv A outer s H vs Q E hr h=>?_)
 ·obtain⟨a,m,rfl,_⟩:=h
  rfl
 ·obtain⟨a,m,rfl,M,wf,hz,kq⟩:=h
  refine⟨_,zf (zk (zaq (te:=tVar 1) (tt:=ttVh CM) (own:=[("v",1)]) rfl sc_vh.nd (zau rfl B.range (za (zx (v:=.int 4) rfl hv ⟨tk,rfl⟩) zb)) (show BlkOk ["machine","v"] (ze zbc) _ _ from zu (by decide +kernel))
   (fun _ _ _ _ _=>zt (i:=1) sc_vh.nd rfl (ybk rfl)) (fun _ _ _ _ _=>zpx (zfe (zi NH hr rfl GH.m GH.F.kp GH.b .nil pass0 (za (pv 0) (za (pv 1) zb))))) (fun _ _ _ _ _=>pv 1))),?_⟩
  refine⟨_,rfl,by decide,by decide,fun D hD=>?_⟩
  refine zey (lo:=0) (n:=4) (g:=gName 1) (tt:=ttVh CM) (te:=tVar 1) (vs:=[1]) (fun i H'=>Same H H'/\H' D=some (.lst ((hgU m i).map nV))) ⟨Same.new hD,zd⟩ (fun i H2 hi ⟨s2,e2⟩=>?_) fun H2 ⟨s2,e2⟩=>?_
  ·refine⟨rfl,?_⟩
   have ei:(0:Int)+(i:Int)=(i:Int):=by omega
   rw[ei]
   refine⟨_,rfl,_,rfl,a,m,i,rfl,M.same s2,wf,hz,hi,fun H3 s3=>⟨_,rfl,?_⟩⟩
   have s23:=s2.trans s3
   have e3:=s3 _ _ e2
   rw[zwk]
   by_cases hb:hgs m i=true
   ·rw[if_pos hb]
    refine ifT hb ?_
    refine⟨_,rfl,_,e3,za3 ?_,?_⟩
    ·rw[yab]
     unfold hgU
     have:=yfn (fun v=>hgs m v) (yae i)
     rw[ya5]at this
     omega
    ·refine⟨fun b o eo=>by rw[zh (zn eo hD)];exact s23 _ _ eo,?_⟩
     rw[zd,ya9]
     rfl
   ·rw[if_neg hb]
    refine ifF (by simpa using hb) ?_
    exact⟨s23,e3⟩
  ·exact kq H2 D e2 s2 hD
abbrev nmWo:List Str:=["machine","numbers","end","row"]
theorem sc_wo:FnScope nmWo ["machine"] (ze zdo):=⟨rfl,rfl,rfl,by decide +kernel,rfl,by decide +kernel,by decide +kernel⟩
def wout(m:yaf):List Nat:=(m.next.zip m.ends).flatMap fun (z:List Nat × Bool)=>(if z.2=true then 1 else 0)::z.1
def woU(m:yaf)(i:Nat):List Nat:=(yae i).flatMap fun q=>(if m.end_ q=true then 1 else 0)::m.next.getD q []
theorem zpb(m:yaf)(i:Nat):woU m (i+1)=woU m i++((if m.end_ i=true then 1 else 0)::m.next.getD i []):=by
 unfold woU
 rw[yc0,List.flatMap_append]
 simp
theorem zwx{m:yaf}(wf:MM.Wf m):woU m m.next.length=wout m:=by
 unfold woU wout
 have e:m.next.zip m.ends=(yae m.next.length).map fun q=>(m.next.getD q [],m.end_ q):=by
  refine yc3 fun i=>?_
  by_cases hi:i<m.next.length
  ·rw[MM.zas hi,List.getElem?_zip_eq_some]
   refine⟨?_,?_⟩
   ·rw[yal,yad hi];rfl
   ·show m.ends[i]?=some (m.ends.getD i false)
    rw[yal,yad (by rw[wf.ends];exact hi)];rfl
  ·rw[ybd (by simp;omega),ybd (by simp;omega)]
 rw[e,List.flatMap_map]
theorem zmc{m:yaf}(wf:MM.Wf m):∀ i,i<=m.next.length->(woU m i).length=17*i
 | 0,_=>rfl
 | i+1,h=>by
  rw[zpb,ya7,zmc wf i (by omega),ybx,wf.row (by omega)]
  show 17*i+(16+1)=17*(i+1)
  omega
def spWo(CM:Addr):Sp:=fun vs H Q _=>∃(a:Addr) (m:yaf),vs=[.ref a]/\MachAt CM H a m/\MM.Wf m/\m.next.length<=24/\∀ H' q,H' q=some (.lst ((wout m).map nV))->Same H H'->H q=none->Q (.ref q) H'
theorem z1x{f CM:Addr}{fd:ya2}(F:Fun K "written_out" "written_out" zdo f fd)(B:TB mg)(TMm:TM K mg CM):FnOk P w K mg base CX0 1 f fd ["machine"] (spWo CM):=by
 refine F.ok sc_wo (fun vs H Q E h=>?_) (fun cdv A outer s H vs Q E hr h=>?_)
 ·obtain⟨a,m,rfl,_⟩:=h
  rfl
 ·obtain⟨a,m,rfl,M,wf,hz,kq⟩:=h
  refine⟨_,zc (zz (i:=1) sc_wo.nd rfl (ybk rfl) (zy zb))
   (zc (zf6 yei rfl (zl2 true true rfl B.zip (za (zq (pv 0) rfl) (za (zq (pv 0) rfl) zb))) (zh3 rfl (zcy (zt (i:=2) sc_wo.nd rfl (ybk rfl) (yc5 rfl)) (zcy (zt (i:=3) sc_wo.nd rfl (ybk rfl) (yc5 rfl)) zgy)))
    (zc (zad (zhm yc4 ye1 ye2 zgj (pv 1) (za (pv 2) zb)))
    (zf (zad (zhm yc4 yff yh7 zrt (pv 1) (za (pv 3) zb))))))
   (zf (zk (pv 1)))),?_⟩
  obtain⟨dm,em,lm,rsm,g1,g2,g3,g4,g5⟩:=M.row
  have hll:(rsm.map V.ref).length=m.next.length:=by rw[yab];exact g5
  have hle:(m.ends.map bV).length=m.next.length:=by rw[yab,wf.ends]
  refine⟨ybj _,fun D hD=>?_⟩
  have s0:Same H (upd H D (.lst [])):=Same.new hD
  refine⟨_,rfl,a,CM,dm,_,_,rfl,s0 _ _ g1,TMm.cl,TMm.nE,zbe _ _,_,rfl,a,CM,dm,_,_,rfl,s0 _ _ g1,TMm.cl,TMm.nL,zal _ _,em,lm,_,_,rfl,SqT.of (s0 _ _ g2),SqT.of (s0 _ _ g3),?_⟩
  refine zyw (K:=K) (k1:=true) (k2:=true) (a:=em) (b:=lm) (xs:=m.ends.map bV) (ys:=rsm.map V.ref) (fun i σ H'=>∃ u v:Option V,σ=[some (.ref a),some (.ref D),u,v]/\Same H H'/\H' D=some (.lst ((woU m i).map nV))) ⟨none,none,rfl,s0,zd⟩ (fun i σ H' _ ⟨_,_,_,s1,_⟩=>⟨SqT.of (s1 _ _ g2),SqT.of (s1 _ _ g3)⟩) (by rw[hle,hll]) ?_ ?_
  ·rintro i x y σ H1 T hx hy ⟨u,v,rfl,s1,e1⟩ hT
   have hi:i<m.next.length:=by
    have:=(yag.mp hx).1
    omega
   rw[zis wf hi]at hx
   cases hx
   obtain⟨r',hr1,hr2⟩:=zd0 (g4.keep (zan s1)) hi
   rw[hy]at hr1
   cases hr1
   have sT:Same H1 (upd H1 T (.tup [bV (m.end_ i),.ref r'])):=Same.new hT
   have len:=zmc wf i (by omega)
   have nDr:r'≠D:=za9 hr2 e1 (by intro z;cases z)
   refine⟨T,_,rfl,SqT.of zd,rfl,bV (m.end_ i),[.ref r'],rfl,.ref r',[],rfl,rfl,?_⟩
   refine⟨_,rfl,.inl ⟨rfl,_,SqL.of (sT _ _ e1)⟩,_,rfl,D,_,_,rfl,rfl,sT _ _ e1,za3 (by rw[yab];omega),?_⟩
   refine⟨_,rfl,.inl ⟨rfl,_,SqL.of zd⟩,_,rfl,D,r',_,_,rfl,rfl,zd,SqT.of (by rw[zh nDr];exact sT _ _ hr2),ycx (za3 (by rw[ya7,yab,yab,wf.row hi];show _+1+16<1000000;omega)),?_⟩
   refine⟨_,_,rfl,fun b o e=>?_,?_⟩
   ·rw[zh (zn e hD),zh (zn e hD)]
    exact sT _ _ (s1 _ _ e)
   ·rw[zd,zpb,ya9,yb8,ybv]
    congr 4
    cases m.end_ i<;>rfl
  ·rintro σ H1 ⟨u,v,rfl,s1,e1⟩
   rw[hle,zwx wf]at e1
   exact⟨_,rfl,kq H1 D e1 s1 hD⟩
theorem z1y:FnScope ["number","numbers"] ["number","numbers"] (ze zb5):=⟨rfl,rfl,rfl,by decide +kernel,rfl,by decide +kernel,by decide +kernel⟩
def spWl:Sp:=fun vs H Q _=>∃(z:Int) (p:Addr) (xs:List Int),vs=[.int z,.ref p]/\H p=some (.lst (xs.map V.int))/\xs.length<=1000/\∀ H' q,H' q=some (.lst ((z::(xs.length:Int)::xs).map V.int))->Same H H'->H q=none->Q (.ref q) H'
theorem znm{f:Addr}{fd:ya2}(F:Fun K "with_list" "with_list" zb5 f fd)(B:TB mg):FnOk P w K mg base CX0 1 f fd ["number","numbers"] spWl:=by
 refine F.ok z1y (fun vs H Q E h=>?_) (fun cdv A outer s H vs Q E hr h=>?_)
 ·obtain⟨z,p,xs,rfl,_⟩:=h
  rfl
 ·obtain⟨z,p,xs,rfl,hp,hl,kq⟩:=h
  refine⟨_,zf (zk (zaa znv (zy (za (pv 0) (za (zaf zag (by rfl) B.len yb9 (za (pv 1) zb)) zb))) (pv 1))),?_⟩
  refine⟨_,rfl,_,rfl,p,_,rfl,.inl (SqL.of hp),(by show 2<=yay;rw[ybr];decide),fun q hq=>?_⟩
  refine⟨_,rfl,q,p,_,_,rfl,rfl,zd,Same.new hq _ _ hp,ycx (za3 (by rw[yab];show 2+xs.length<1000000;omega)),fun r hr'=>?_⟩
  refine kq _ r ?_ ((Same.new hq).trans (Same.new hr')) ((Same.new hq).free hr')
  rw[zd,yab]
  rfl
end
end My
end
section
namespace My
open PySem PySem.Spec PyProof.Rows L2
open Rows (Told LETTERS)
def Tells(H:Hp)(z:List Int)(Q:VK):Prop:=∀ H' q,H' q=some (.lst (z.map V.int))->Same H H'->H q=none->Q (.ref q) H'
def OutQ(H:Hp)(z:Addr ⊕ List Int)(Q:VK)(E:XK):Prop:=match z with
 | .inl C=>∀ H',Same H H'->E (.ref C) none H'
 | .inr z=>Tells H z Q
def spAsk(CR CM CO:Addr)(fn:yaf->Addr ⊕ List Int):Sp:=fun vs H Q E=>∃(o l:Addr) (st:List yaf) (a:Nat),vs=[.ref o,nV a]/\RegAt CR CM H o l st/\(¬ a<16->∀ H',Same H H'->E (.ref CO) none H')/\(a<16->OutQ H (fn (ybf st a)) Q E)
section
variable {P:yav}{w:World}{K:yac}{mg:Str->Option Value}{base:Heap}
def spHas(CR CM CO:Addr):Sp:=fun vs H Q E=>∃(o l p:Addr) (st:List yaf) (a:Nat) (x:List Nat),vs=[.ref o,nV a,.ref p]/\RegAt CR CM H o l st/\H p=some (.lst (x.map nV))/\(¬ (a<16/\x.length=4)->∀ H',Same H H'->E (.ref CO) none H')/\(a<16/\x.length=4->Tells H [if (ybf st a).has x=true then 1 else 0] Q)
theorem z0t:FnScope ["self","a","row"] ["self","a","row"] (ze zdt):=⟨rfl,rfl,rfl,by decide +kernel,rfl,by decide +kernel,by decide +kernel⟩
theorem z0u{f CR CM CO fR fW fI fL:Addr}{fd dR dW dI dL:ya2}(F:Fun K "has" "Registers.has" zdt f fd)(B:TB mg)(N:TN mg)(TMm:TM K mg CM)(T:TG' K CR)(GR:Gf K mg "check_registers" zab ["numbers"] fR dR)(NR:FnOk P w K mg base (CXE P w) 2 fR dR ["numbers"] (spCl CO 15))(GW:Gf K mg "check_within" zat ["number","least","most"] fW dW)(NW:FnOk P w K mg base (CXE P w) 1 fW dW ["number","least","most"] (spCw CO))(GI:Gf K mg "row_in" ze3 ["machine","row"] fI dI)(GL:Gf K mg "lowest_letter" zbn ["numbers"] fL dL):FnOk P w K mg base (CXE P w) 3 f fd ["self","a","row"] (spHas CR CM CO):=by
 have NI:FnOk P w K mg base CX0 2 fI dI ["machine","row"] (spIn CM):=z1m GI.F B N TMm GL
 have NW':=NW.mono (k:=2) (by decide)
 obtain⟨tk,hv⟩:=N.vars
 refine F.okE z0t (fun vs H Q E h=>?_) (fun cdv A outer s H vs Q E hr h=>?_)
 ·obtain⟨o,l,p,st,a,x,rfl,_⟩:=h
  rfl
 ·obtain⟨o,l,p,st,a,x,rfl,R,hp,hbad,hgood⟩:=h
  refine⟨_,zc (zad (zi NR hr rfl GR.m GR.F.kp GR.b .nil zv (za (zy (za (pv 1) zb)) zb)))
   (zc (zad (zi NW' hr rfl GW.m GW.F.kp GW.b .nil zv (za (zaf zag (by rfl) B.len yb9 (za (pv 2) zb)) (za (zx (v:=.int 4) rfl hv ⟨tk,rfl⟩) (za (zx (v:=.int 4) rfl hv ⟨tk,rfl⟩) zb)))))
   (zf (zk (zy (za (zi NI hr rfl GI.m GI.F.kp GI.b .nil pass0 (za (zp ix_list (zq (pv 0) rfl) (pv 1) (fun _ _=>rfl)) (za (pv 2) zb))) zb))))),?_⟩
  refine⟨_,rfl,za0,fun q hq=>?_⟩
  have s1:Same H (upd H q (.lst [nV a])):=Same.new hq
  refine⟨q,[(a:Int)],rfl,zd,fun c1=>?_,fun c=>hbad (fun z=>c (in1.mpr (by omega))) _ s1⟩
  have ha:=in1.mp c1
  refine⟨_,rfl,p,_,rfl,.inl (SqL.of (s1 _ _ hp)),?_⟩
  rw[yab]
  refine⟨_,_,_,rfl,fun c2=>?_,fun c=>hbad (fun z=>c ⟨by omega,by omega⟩) _ s1⟩
  have h4:x.length=4:=by omega
  have hg:=hgood ⟨by omega,h4⟩
  obtain⟨dx,ms,x1,h1,h2,h3,M1,g1,z1⟩:=(R.same s1).get (i:=a) (by omega)
  refine⟨_,rfl,o,CR,dx,_,_,rfl,h1,T.cl,T.nM,rfl,_,rfl,l,_,_,_,rfl,rfl,SqL.of h2,zm h3,_,rfl,x1,p,_,x,rfl,M1,g1.wf,s1 _ _ hp,h4,fun H2 s2=>?_⟩
  refine⟨za0,fun q2 hq2=>?_⟩
  have s12:=s1.trans s2
  refine hg _ q2 ?_ (s12.trans (Same.new hq2)) (s12.free hq2)
  rw[zd]
  rfl
def zfq(x:List Nat):List Int:=0::(x.length:Int)::iV x
def zhh(CN:Addr)(m:yaf):Addr ⊕ List Int:=match yec m with
 | none=>.inl CN
 | some x=>.inr (zfq x)
theorem sc_fi:FnScope ["self","a","row"] ["self","a"] (ze zc3):=⟨rfl,rfl,rfl,by decide +kernel,rfl,by decide +kernel,by decide +kernel⟩
theorem zgs{m:yaf}(w:MM.Wf m)(z:MM.Zr m){x:List Nat}(h:yec m=some x):x.length=4:=by
 have g:=MM.zkt w z
 rw[h]at g
 obtain⟨u,_,rfl⟩:=g.has
 rfl
theorem zna{H H2:Hp}{Q:VK}{q:Addr}{x:List Nat}(h4:x.length<=1000)(hg:Tells H (zfq x) Q)(s2:Same H H2)(hq:H2 q=some (.lst (x.map nV))):spWl [.int 0,.ref q] H2 Q E0:=by
 refine⟨0,q,iV x,rfl,by rw[zma];exact hq,by unfold iV;rw[yab];exact h4,fun H3 r hr s3 hn=>?_⟩
 refine hg H3 r ?_ (s2.trans s3) (s2.free hn)
 rw[hr]
 unfold zfq
 rw[show(iV x).length=x.length by unfold iV;rw[yab]]
theorem z1z{f CR CM CO CN fR fA fW:Addr}{fd dR dA dW:ya2}(F:Fun K "first" "Registers.first" zc3 f fd)(B:TB mg)(T:TG' K CR)(GR:Gf K mg "check_registers" zab ["numbers"] fR dR)(NR:FnOk P w K mg base (CXE P w) 2 fR dR ["numbers"] (spCl CO 15))(TE':Exc K mg "NoRow" CN)(GA:Gf K mg "least_row" zc1 ["machine"] fA dA)(NA:FnOk P w K mg base CX0 3 fA dA ["machine"] (spLr CM))(GW:Gf K mg "with_list" zb5 ["number","numbers"] fW dW):FnOk P w K mg base (CXE P w) 4 f fd ["self","a"] (spAsk CR CM CO (zhh CN)):=by
 have NR':=NR.mono (k:=3) (by decide)
 have NW:FnOk P w K mg base CX0 3 fW dW ["number","numbers"] spWl:=(znm GW.F B).mono (by decide)
 refine F.okE sc_fi (fun vs H Q E h=>?_) (fun cdv A outer s H vs Q E hr h=>?_)
 ·obtain⟨o,l,st,a,rfl,_⟩:=h
  rfl
 ·obtain⟨o,l,st,a,rfl,R,hbad,hgood⟩:=h
  refine⟨_,zc (zad (zi NR' hr rfl GR.m GR.F.kp GR.b .nil zv (za (zy (za (pv 1) zb)) zb)))
   (zc (zz (i:=2) sc_fi.nd rfl (ybk rfl) (zi NA hr rfl GA.m GA.F.kp GA.b .nil pass0 (za (zp ix_list (zq (pv 0) rfl) (pv 1) (fun _ _=>rfl)) zb)))
   (zc (zbk (zh2 (zno (pv 2))) (zf (ze2 TE' rfl)) zap)
   (zf (zk (zi NW hr rfl GW.m GW.F.kp GW.b .nil pass0 (za zg (za (pv 2) zb))))))),?_⟩
  refine⟨_,rfl,za0,fun q hq=>?_⟩
  have s1:Same H (upd H q (.lst [nV a])):=Same.new hq
  refine⟨q,[(a:Int)],rfl,zd,fun c1=>?_,fun c=>hbad (fun z=>c (in1.mpr (by omega))) _ s1⟩
  have ha:=in1.mp c1
  have hg:=hgood (by omega)
  obtain⟨dx,ms,x1,h1,h2,h3,M1,g1,z1⟩:=(R.same s1).get (i:=a) (by omega)
  unfold zhh at hg
  refine⟨_,rfl,o,CR,dx,_,_,rfl,h1,T.cl,T.nM,rfl,_,rfl,l,_,_,_,rfl,rfl,SqL.of h2,zm h3,x1,_,rfl,M1,g1.wf,g1.zr,by omega,fun e H2 s2=>?_,fun x e H2 q2 hq2 s2 hn2=>?_⟩
  ·rw[MM.zhs g1]at e
   rw[e]at hg
   exact⟨_,rfl,_,rfl,iteT (hg H2 (s1.trans s2))⟩
  ·rw[MM.zhs g1]at e
   rw[e]at hg
   refine⟨_,rfl,_,rfl,iteF ?_⟩
   exact⟨_,rfl,zna (by rw[zgs g1.wf g1.zr e];decide) hg (s1.trans s2) hq2⟩
def zhi(CE CV:Addr)(m:yaf):Addr ⊕ List Int:=match yib m with
 | none=>.inl CE
 | some k=>if 2 ^ 63<=k then .inl CV else .inr [(k:Int)]
theorem z12:FnScope ["self","a"] ["self","a"] (ze zb2):=⟨rfl,rfl,rfl,by decide +kernel,rfl,by decide +kernel,by decide +kernel⟩
theorem z13{f CR CM CO CE CV fR fA:Addr}{fd dR dA:ya2}(F:Fun K "row_count" "Registers.row_count" zb2 f fd)(T:TG' K CR)(GR:Gf K mg "check_registers" zab ["numbers"] fR dR)(NR:FnOk P w K mg base (CXE P w) 2 fR dR ["numbers"] (spCl CO 15))(GA:Gf K mg "count_rows" zdy ["machine"] fA dA)(NA:FnOk P w K mg base (CXE P w) 2 fA dA ["machine"] (spCr CM CE CV)):FnOk P w K mg base (CXE P w) 3 f fd ["self","a"] (spAsk CR CM CO (zhi CE CV)):=by
 refine F.okE z12 (fun vs H Q E h=>?_) (fun cdv A outer s H vs Q E hr h=>?_)
 ·obtain⟨o,l,st,a,rfl,_⟩:=h
  rfl
 ·obtain⟨o,l,st,a,rfl,R,hbad,hgood⟩:=h
  refine⟨_,zc (zad (zi NR hr rfl GR.m GR.F.kp GR.b .nil zv (za (zy (za (pv 1) zb)) zb)))
   (zf (zk (zy (za (zi NA hr rfl GA.m GA.F.kp GA.b .nil zv (za (zp ix_list (zq (pv 0) rfl) (pv 1) (fun _ _=>rfl)) zb)) zb)))),?_⟩
  refine⟨_,rfl,za0,fun q hq=>?_⟩
  have s1:Same H (upd H q (.lst [nV a])):=Same.new hq
  refine⟨q,[(a:Int)],rfl,zd,fun c1=>?_,fun c=>hbad (fun z=>c (in1.mpr (by omega))) _ s1⟩
  have ha:=in1.mp c1
  have hg:=hgood (by omega)
  obtain⟨dx,ms,x1,h1,h2,h3,M1,g1,z1⟩:=(R.same s1).get (i:=a) (by omega)
  unfold zhi at hg
  refine⟨_,rfl,o,CR,dx,_,_,rfl,h1,T.cl,T.nM,rfl,_,rfl,l,_,_,_,rfl,rfl,SqL.of h2,zm h3,x1,_,rfl,M1,g1,z1,fun e H2 s2=>?_,fun k e hk H2 s2=>?_,fun k e hk H2 s2=>?_⟩
  ·rw[e]at hg
   exact hg H2 (s1.trans s2)
  ·rw[e]at hg
   simp only[if_pos hk]at hg
   exact hg H2 (s1.trans s2)
  ·rw[e]at hg
   simp only[if_neg (ymz.mpr hk)]at hg
   refine⟨za0,fun q2 hq2=>?_⟩
   have s12:=s1.trans s2
   exact hg _ q2 (by rw[zd];rfl) (s12.trans (Same.new hq2)) (s12.free hq2)
def zfr(n:Nat)(x:List Nat):List Int:=(n:Int)::(x.length:Int)::iV x
def zmd(m:yaf):Addr ⊕ List Int:=.inr (zfr (ygn m).length (ygn m))
theorem sc_ha:FnScope ["self","a","variables"] ["self","a"] (ze zc4):=⟨rfl,rfl,rfl,by decide +kernel,rfl,by decide +kernel,by decide +kernel⟩
theorem znb{H H2:Hp}{Q:VK}{q:Addr}{n:Nat}{x:List Nat}(h4:x.length<=1000)(hg:Tells H (zfr n x) Q)(s2:Same H H2)(hq:H2 q=some (.lst (x.map nV))):spWl [nV n,.ref q] H2 Q E0:=by
 refine⟨(n:Int),q,iV x,rfl,by rw[zma];exact hq,by unfold iV;rw[yab];exact h4,fun H3 r hr s3 hn=>?_⟩
 refine hg H3 r ?_ (s2.trans s3) (s2.free hn)
 rw[hr]
 unfold zfr
 rw[show(iV x).length=x.length by unfold iV;rw[yab]]
theorem znc(m:yaf):(ygn m).length<=4:=by
 unfold ygn
 refine ybq (yfn _ _) ?_
 rw[ya5]
 decide
theorem z14{f CR CM CO fR fA fW:Addr}{fd dR dA dW:ya2}(F:Fun K "hangs" "Registers.hangs" zc4 f fd)(B:TB mg)(T:TG' K CR)(GR:Gf K mg "check_registers" zab ["numbers"] fR dR)(NR:FnOk P w K mg base (CXE P w) 2 fR dR ["numbers"] (spCl CO 15))(GA:Gf K mg "variables_hung_on" zbc ["machine"] fA dA)(NA:FnOk P w K mg base CX0 3 fA dA ["machine"] (spVh CM))(GW:Gf K mg "with_list" zb5 ["number","numbers"] fW dW):FnOk P w K mg base (CXE P w) 4 f fd ["self","a"] (spAsk CR CM CO zmd):=by
 have NR':=NR.mono (k:=3) (by decide)
 have NW:FnOk P w K mg base CX0 3 fW dW ["number","numbers"] spWl:=(znm GW.F B).mono (by decide)
 refine F.okE sc_ha (fun vs H Q E h=>?_) (fun cdv A outer s H vs Q E hr h=>?_)
 ·obtain⟨o,l,st,a,rfl,_⟩:=h
  rfl
 ·obtain⟨o,l,st,a,rfl,R,hbad,hgood⟩:=h
  refine⟨_,zc (zad (zi NR' hr rfl GR.m GR.F.kp GR.b .nil zv (za (zy (za (pv 1) zb)) zb)))
   (zc (zz (i:=2) sc_ha.nd rfl (ybk rfl) (zi NA hr rfl GA.m GA.F.kp GA.b .nil pass0 (za (zp ix_list (zq (pv 0) rfl) (pv 1) (fun _ _=>rfl)) zb)))
   (zf (zk (zi NW hr rfl GW.m GW.F.kp GW.b .nil pass0 (za (zaf zag (by rfl) B.len yb9 (za (pv 2) zb)) (za (pv 2) zb)))))),?_⟩
  refine⟨_,rfl,za0,fun q hq=>?_⟩
  have s1:Same H (upd H q (.lst [nV a])):=Same.new hq
  refine⟨q,[(a:Int)],rfl,zd,fun c1=>?_,fun c=>hbad (fun z=>c (in1.mpr (by omega))) _ s1⟩
  have ha:=in1.mp c1
  have hg:=hgood (by omega)
  obtain⟨dx,ms,x1,h1,h2,h3,M1,g1,z1⟩:=(R.same s1).get (i:=a) (by omega)
  refine⟨_,rfl,o,CR,dx,_,_,rfl,h1,T.cl,T.nM,rfl,_,rfl,l,_,_,_,rfl,rfl,SqL.of h2,zm h3,x1,_,rfl,M1,g1.wf,z1,fun H2 q2 hq2 s2 hn2=>?_⟩
  refine⟨_,rfl,q2,_,rfl,.inl (SqL.of hq2),_,rfl,?_⟩
  rw[yab]
  have:=znc (ybf st a)
  exact znb (by omega) hg (s1.trans s2) hq2
def zpc(m:yaf):Addr ⊕ List Int:=.inr (zfr m.next.length (wout m))
theorem z15:FnScope ["self","a"] ["self","a"] (ze zcj):=⟨rfl,rfl,rfl,by decide +kernel,rfl,by decide +kernel,by decide +kernel⟩
theorem zpd{m:yaf}(wf:MM.Wf m):(wout m).length=17*m.next.length:=by rw[<- zwx wf,zmc wf _ (yao _)]
theorem z16{f CR CM CO fR fA fW:Addr}{fd dR dA dW:ya2}(F:Fun K "machine" "Registers.machine" zcj f fd)(B:TB mg)(TMm:TM K mg CM)(T:TG' K CR)(GR:Gf K mg "check_registers" zab ["numbers"] fR dR)(NR:FnOk P w K mg base (CXE P w) 2 fR dR ["numbers"] (spCl CO 15))(GA:Gf K mg "written_out" zdo ["machine"] fA dA)(GW:Gf K mg "with_list" zb5 ["number","numbers"] fW dW):FnOk P w K mg base (CXE P w) 3 f fd ["self","a"] (spAsk CR CM CO zpc):=by
 have NA:FnOk P w K mg base CX0 2 fA dA ["machine"] (spWo CM):=(z1x GA.F B TMm).mono (by decide)
 have NW:FnOk P w K mg base CX0 2 fW dW ["number","numbers"] spWl:=(znm GW.F B).mono (by decide)
 refine F.okE z15 (fun vs H Q E h=>?_) (fun cdv A outer s H vs Q E hr h=>?_)
 ·obtain⟨o,l,st,a,rfl,_⟩:=h
  rfl
 ·obtain⟨o,l,st,a,rfl,R,hbad,hgood⟩:=h
  refine⟨_,zc (zad (zi NR hr rfl GR.m GR.F.kp GR.b .nil zv (za (zy (za (pv 1) zb)) zb)))
   (zf (zk (zi NW hr rfl GW.m GW.F.kp GW.b .nil pass0 (za (zaf zag (by rfl) B.len yb9 (za (zq (zp ix_list (zq (pv 0) rfl) (pv 1) (fun _ _=>rfl)) rfl) zb)) (za (zi NA hr rfl GA.m GA.F.kp GA.b .nil pass0 (za (zp ix_list (zq (pv 0) rfl) (pv 1) (fun _ _=>rfl)) zb)) zb))))),?_⟩
  refine⟨_,rfl,za0,fun q hq=>?_⟩
  have s1:Same H (upd H q (.lst [nV a])):=Same.new hq
  refine⟨q,[(a:Int)],rfl,zd,fun c1=>?_,fun c=>hbad (fun z=>c (in1.mpr (by omega))) _ s1⟩
  have ha:=in1.mp c1
  have hg:=hgood (by omega)
  obtain⟨dx,ms,x1,h1,h2,h3,M1,g1,z1⟩:=(R.same s1).get (i:=a) (by omega)
  obtain⟨dm,em,lm,rsm,k1,k2,k3,k4,k5⟩:=M1.row
  refine⟨_,rfl,o,CR,dx,_,_,rfl,h1,T.cl,T.nM,rfl,_,rfl,l,_,_,_,rfl,rfl,SqL.of h2,zm h3,x1,CM,dm,_,_,rfl,k1,TMm.cl,TMm.nE,zbe _ _,em,_,rfl,.inr (SqT.of k2),?_⟩
  rw[yab,g1.wf.ends]
  refine⟨_,rfl,o,CR,dx,_,_,rfl,h1,T.cl,T.nM,rfl,_,rfl,l,_,_,_,rfl,rfl,SqL.of h2,zm h3,x1,_,rfl,M1,g1.wf,z1,fun H2 q2 hq2 s2 hn2=>?_⟩
  exact znb (by rw[zpd g1.wf];omega) hg (s1.trans s2) hq2
def outWi(o:Option (List Nat)):List Int:=match o with
 | none=>[1]
 | some x=>zfq x
def spWi(CR CM CO:Addr):Sp:=fun vs H Q E=>∃(o l:Addr) (st:List yaf) (a b:Nat),vs=[.ref o,nV a,nV b]/\RegAt CR CM H o l st/\(¬ (a<16/\b<16)->∀ H',Same H H'->E (.ref CO) none H')/\(a<16/\b<16->Tells H (outWi (yec (yfo 4 (ybf st a) (ybf st b)))) Q)
theorem sc_wi:FnScope ["self","a","b","row"] ["self","a","b"] (ze zcu):=⟨rfl,rfl,rfl,by decide +kernel,rfl,by decide +kernel,by decide +kernel⟩
theorem z17{f CR CM CO fR fA fW fP:Addr}{fd dR dA dW dP:ya2}(F:Fun K "within" "Registers.within" zcu f fd)(B:TB mg)(T:TG' K CR)(hI:∃ t,mg "IN_THE_FIRST_ALONE" = some (.int 4 t))(GR:Gf K mg "check_registers" zab ["numbers"] fR dR)(NR:FnOk P w K mg base (CXE P w) 2 fR dR ["numbers"] (spCl CO 15))(GP:Gf K mg "pairs_machine" zbm ["op","one","other"] fP dP)(NP:FnOk P w K mg base CX0 3 fP dP ["op","one","other"] (zl5 CM))(GA:Gf K mg "least_row" zc1 ["machine"] fA dA)(NA:FnOk P w K mg base CX0 3 fA dA ["machine"] (spLr CM))(GW:Gf K mg "with_list" zb5 ["number","numbers"] fW dW):FnOk P w K mg base (CXE P w) 4 f fd ["self","a","b"] (spWi CR CM CO):=by
 have NR':=NR.mono (k:=3) (by decide)
 have NW:FnOk P w K mg base CX0 3 fW dW ["number","numbers"] spWl:=(znm GW.F B).mono (by decide)
 obtain⟨tk,hI⟩:=hI
 refine F.okE sc_wi (fun vs H Q E h=>?_) (fun cdv A outer s H vs Q E hr h=>?_)
 ·obtain⟨o,l,st,a,b,rfl,_⟩:=h
  rfl
 ·obtain⟨o,l,st,a,b,rfl,R,hbad,hgood⟩:=h
  refine⟨_,zc (zad (zi NR' hr rfl GR.m GR.F.kp GR.b .nil zv (za (zy (za (pv 1) (za (pv 2) zb))) zb)))
   (zc (zz (i:=3) sc_wi.nd rfl (ybk rfl) (zi NA hr rfl GA.m GA.F.kp GA.b .nil pass0 (za (zi NP hr rfl GP.m GP.F.kp GP.b .nil pass0 (za (zx (v:=.int 4) rfl hI ⟨tk,rfl⟩) (za (zp ix_list (zq (pv 0) rfl) (pv 1) (fun _ _=>rfl)) (za (zp ix_list (zq (pv 0) rfl) (pv 2) (fun _ _=>rfl)) zb)))) zb)))
   (zc (zbk (zh2 (zno (pv 3))) (zf (zk (zy (za zg zb)))) zap)
   (zf (zk (zi NW hr rfl GW.m GW.F.kp GW.b .nil pass0 (za zg (za (pv 3) zb))))))),?_⟩
  refine⟨_,rfl,_,rfl,(by show 2<=yay;rw[ybr];decide),fun q hq=>?_⟩
  have s1:Same H (upd H q (.lst [nV a,nV b])):=Same.new hq
  refine⟨q,[(a:Int),(b:Int)],rfl,zd,fun c1=>?_,fun c=>hbad (fun z=>c (in2.mpr ⟨by omega,by omega⟩)) _ s1⟩
  obtain⟨ha,hb⟩:=in2.mp c1
  have hg:=hgood ⟨by omega,by omega⟩
  obtain⟨dx,ms,x1,h1,h2,h3,M1,g1,z1⟩:=(R.same s1).get (i:=a) (by omega)
  obtain⟨dx',ms',x2,h1',h2',h3',M2,g2,z2⟩:=(R.same s1).get (i:=b) (by omega)
  refine⟨_,rfl,o,CR,dx,_,_,rfl,h1,T.cl,T.nM,rfl,_,rfl,l,_,_,_,rfl,rfl,SqL.of h2,zm h3,_,rfl,o,CR,dx,_,_,rfl,h1,T.cl,T.nM,rfl,_,rfl,l,_,_,_,rfl,rfl,SqL.of h2',zm h3',?_⟩
  refine⟨4,x1,x2,_,_,rfl,M1,g1.wf,z1,M2,g2.wf,z2,fun H2 y My' s2=>?_⟩
  have s12:=s1.trans s2
  have wj:=znk g1.wf g2.wf 4
  have zj:=zwt g1 g2 4
  rw[zm4]at hg
  refine⟨y,_,rfl,My',wj,zj,zt0 g1.wf g2.wf z1 z2 4,fun e H3 s3=>?_,fun x e H3 q3 hq3 s3 hn3=>?_⟩
  ·rw[show yec (yb0 ((ybf st a).size*(ybf st b).size) (zgf (ybf st a) (ybf st b)) (joOk 4 (ybf st a) (ybf st b)) [0,0]).least=none from e]at hg
   refine⟨_,rfl,_,rfl,iteT ?_⟩
   refine⟨za0,fun q2 hq2=>?_⟩
   have s13:=s12.trans s3
   exact hg _ q2 (by rw[zd];rfl) (s13.trans (Same.new hq2)) (s13.free hq2)
  ·have gl:=MM.zcr wj zj
   rw[show yec (yb0 ((ybf st a).size*(ybf st b).size) (zgf (ybf st a) (ybf st b)) (joOk 4 (ybf st a) (ybf st b)) [0,0]).least=some x from e]at hg
   refine⟨_,rfl,_,rfl,iteF ?_⟩
   exact⟨_,rfl,zna (by rw[zgs gl.wf gl.zr e];decide) hg (s12.trans s3) hq3⟩
end
end My
end
section
namespace My
open PySem PySem.Spec PyProof.Rows L2
open Rows (Told LETTERS)
section
variable {CR CM CO CS CT CV CN CE o l:Addr}{st:List yaf}{H:Hp}{Q:VK}{E:XK}
theorem zdm{z:List Int}(R:RegAt CR CM H o l st)(h:Ends' CR CM CO CS CT CV CN CE o l st H (st,z) Q E):Tells H z Q:=fun H' q hq s hn=>h.hQ H' q (R.same s) hq hn (Same.keep s)
theorem zwl{a:Nat}{x:List Nat}(R:RegAt CR CM H o l st)(h:Ends' CR CM CO CS CT CV CN CE o l st H (zax (ybt st (.has a x))) Q E) :
  (¬ (a<16/\x.length=4)->∀ H',Same H H'->E (.ref CO) none H')/\(a<16/\x.length=4->Tells H [if (ybf st a).has x=true then 1 else 0] Q):=by
 unfold ybt at h
 simp only at h
 constructor
 ·intro c
  rw[if_pos (by rw[reg_iff];show ¬ a<16\/¬ x.length=4;omega)]at h
  exact h.hO rfl
 ·intro c
  rw[if_neg (by rw[reg_iff];show ¬ (¬ a<16\/¬ x.length=4);omega)]at h
  exact zdm R h
theorem zr8{a:Nat}(R:RegAt CR CM H o l st)(h:Ends' CR CM CO CS CT CV CN CE o l st H (zax (ybt st (.first a))) Q E) :
  (¬ a<16->∀ H',Same H H'->E (.ref CO) none H')/\(a<16->OutQ H (zhh CN (ybf st a)) Q E):=by
 unfold ybt at h
 simp only at h
 constructor
 ·intro c
  rw[if_pos (reg_iff.mpr c)]at h
  exact h.hO rfl
 ·intro c
  rw[if_neg (fun z=>reg_iff.mp z c)]at h
  unfold zhh
  cases e:yec (ybf st a) with
  | none=>rw[e]at h;exact h.hN rfl
  | some x =>
   rw[e]at h
   have e2:zax (st,(⟨0,[x]⟩:ykd))=(st,zfq x):=by
    unfold zax ycl zfq iV
    simp
   exact zdm R (e2 ▸ h)
theorem zr9{a:Nat}(R:RegAt CR CM H o l st)(h:Ends' CR CM CO CS CT CV CN CE o l st H (zax (ybt st (.count a))) Q E) :
  (¬ a<16->∀ H',Same H H'->E (.ref CO) none H')/\(a<16->OutQ H (zhi CE CV (ybf st a)) Q E):=by
 unfold ybt at h
 simp only at h
 constructor
 ·intro c
  rw[if_pos (reg_iff.mpr c)]at h
  exact h.hO rfl
 ·intro c
  rw[if_neg (fun z=>reg_iff.mp z c)]at h
  unfold zhi
  cases e:yib (ybf st a) with
  | none=>rw[e]at h;exact h.hE rfl
  | some k =>
   rw[e]at h
   simp only at h ⊢
   by_cases c2:2 ^ 63<=k
   ·rw[if_pos c2]at h ⊢
    exact h.hV rfl
   ·rw[if_neg c2]at h ⊢
    exact zdm R h
theorem zsa{a:Nat}(R:RegAt CR CM H o l st)(h:Ends' CR CM CO CS CT CV CN CE o l st H (zax (ybt st (.hangs a))) Q E) :
  (¬ a<16->∀ H',Same H H'->E (.ref CO) none H')/\(a<16->OutQ H (zmd (ybf st a)) Q E):=by
 unfold ybt at h
 simp only at h
 constructor
 ·intro c
  rw[if_pos (reg_iff.mpr c)]at h
  exact h.hO rfl
 ·intro c
  rw[if_neg (fun z=>reg_iff.mp z c)]at h
  have e2:zax (st,Rows.lists (ygn (ybf st a)))=(st,zfr (ygn (ybf st a)).length (ygn (ybf st a))):=by
   unfold zax ycl Rows.lists zfr iV
   simp
  exact zdm R (e2 ▸ h)
theorem zum{a:Nat}(R:RegAt CR CM H o l st)(h:Ends' CR CM CO CS CT CV CN CE o l st H (zax (ybt st (.machine a))) Q E) :
  (¬ a<16->∀ H',Same H H'->E (.ref CO) none H')/\(a<16->OutQ H (zpc (ybf st a)) Q E):=by
 unfold ybt at h
 simp only at h
 constructor
 ·intro c
  rw[if_pos (reg_iff.mpr c)]at h
  exact h.hO rfl
 ·intro c
  rw[if_neg (fun z=>reg_iff.mp z c)]at h
  have e2:zax (st,(⟨((ybf st a).size:Nat),[wout (ybf st a)]⟩:ykd))=(st,zfr (ybf st a).next.length (wout (ybf st a))):=by
   unfold zax ycl zfr iV
   simp[Rows.Machine.size]
  exact zdm R (e2 ▸ h)
theorem zyz{a b:Nat}(R:RegAt CR CM H o l st)(h:Ends' CR CM CO CS CT CV CN CE o l st H (zax (ybt st (.within a b))) Q E) :
  (¬ (a<16/\b<16)->∀ H',Same H H'->E (.ref CO) none H')/\(a<16/\b<16->Tells H (outWi (yec (yfo 4 (ybf st a) (ybf st b)))) Q):=by
 unfold ybt at h
 simp only at h
 constructor
 ·intro c
  rw[if_pos (by rw[reg_iff,reg_iff];omega)]at h
  exact h.hO rfl
 ·intro c
  rw[if_neg (by rw[reg_iff,reg_iff];omega)]at h
  cases e:yec (yfo 4 (ybf st a) (ybf st b)) with
  | none=>rw[e]at h;exact zdm R h
  | some x =>
   rw[e]at h
   have e2:zax (st,(⟨0,[x]⟩:ykd))=(st,zfq x):=by
    unfold zax ycl zfq iV
    simp
   exact zdm R (e2 ▸ h)
end
theorem zpe(c:List (List Int)):ybg c=c:=by
 show @ymk (fun _=>List (List Int)) c (fun a b c d=>[[0,a,b,c],d]) (fun a b c d=>[[1,a,b,c],d]) (fun a b c d=>[[2,a,b,c,d]]) (fun a b c=>[[3,a,b,c]]) (fun a b c=>[[4,a,b,c]]) (fun a b c d=>[[5,a,b,c,d]]) (fun a b=>[[6,a],b]) (fun a=>[[7,a]]) (fun a=>[[8,a]]) (fun a=>[[9,a]]) (fun a=>[[10,a]]) (fun a b=>[[11,a,b]]) (fun c=>c)=c
 split<;>rfl
theorem zay{z:Int}{k:Nat}(h:yhf z k=true):∃ n:Nat,z=(n:Int):=by
 unfold yhf at h
 rw[ycj,decide_eq_true_eq]at h
 exact⟨z.toNat,by omega⟩
theorem zy0{l:List Int}(h:(l.all fun (z:Int)=>yhf z 63)=true):∃ x:List Nat,l=iV x:=by
 refine⟨l.map Int.toNat,?_⟩
 unfold iV
 rw[yb7]
 refine(List.map_id l).symm.trans (ybw fun z hz=>?_)
 obtain⟨n,rfl⟩:=zay (yem.mp h z hz)
 rfl
inductive Which:Int->List Int->List (List Int)->ymh->Prop
 | line (r k:Nat) (b:Int) (a:List Int):Which 0 [r,k,b] [a] (.line r k b a)
 | rest (r k:Nat) (b:Int) (a:List Int):Which 1 [r,k,b] [a] (.rest r k b a)
 | two (r k a b:Nat):Which 2 [r,k,a,b] [] (.two r k a b)
 | some_ (r a v:Nat):Which 3 [r,a,v] [] (.some_ r a v)
 | all_ (r a v:Nat):Which 4 [r,a,v] [] (.all_ r a v)
 | swap (r a v u:Nat):Which 5 [r,a,v,u] [] (.swap r a v u)
 | has (a:Nat) (x:List Nat):Which 6 [a] [iV x] (.has a x)
 | first (a:Nat):Which 7 [a] [] (.first a)
 | count (a:Nat):Which 8 [a] [] (.count a)
 | hangs (a:Nat):Which 9 [a] [] (.hangs a)
 | machine (a:Nat):Which 10 [a] [] (.machine a)
 | within (a b:Nat):Which 11 [a,b] [] (.within a b)
theorem zbj(l:List Nat):yfs (iV l)=true:=by
 unfold yfs iV
 rw[List.all_map,yem]
 intro n _
 exact decide_eq_true (yca n)
theorem zy1(x:List Nat):yl1 (iV x)=x:=by
 unfold yl1 iV
 rw[yb7]
 refine(ybw fun n _=>?_).trans (List.map_id x)
 rfl
theorem Which.call{c:Int}{fs:List Int}{ls:List (List Int)}{y:ymh}(h:Which c fs ls y):ykt ((c::fs)::ls)=some y:=by
 cases h with
 | line r k b a=>exact if_pos (e:=none) (zbj [r,k])
 | rest r k b a=>exact if_pos (e:=none) (zbj [r,k])
 | two r k a b=>exact if_pos (e:=none) (zbj [r,k,a,b])
 | some_ r a v=>exact if_pos (e:=none) (zbj [r,a,v])
 | all_ r a v=>exact if_pos (e:=none) (zbj [r,a,v])
 | swap r a v u=>exact if_pos (e:=none) (zbj [r,a,v,u])
 | has a x =>
  have e:(yfs [(a:Int)] && yfs (iV x))=true:=by rw[show yfs [(a:Int)]=true from zbj [a],zbj x];rfl
  refine(if_pos e).trans ?_
  rw[zy1]
  rfl
 | first a=>exact if_pos (e:=none) (zbj [a])
 | count a=>exact if_pos (e:=none) (zbj [a])
 | hangs a=>exact if_pos (e:=none) (zbj [a])
 | machine a=>exact if_pos (e:=none) (zbj [a])
 | within a b=>exact if_pos (e:=none) (zbj [a,b])
theorem Which.step{c:Int}{fs:List Int}{ls:List (List Int)}{y:ymh}(h:Which c fs ls y)(st:List yaf):ybi st (ybg ((c::fs)::ls))=zax (ybt st y):=by
 rw[zpe]
 unfold ybi
 rw[h.call]
 rfl
theorem zwm{c:Int}{fs:List Int}{ls:List (List Int)}(h:ydl (ybg ((c::fs)::ls))=true):∃ y,Which c fs ls y:=by
 rw[zpe]at h
 generalize e:(c::fs)::ls=z at h
 unfold ydl at h
 split at h<;>(try simp only[ycj,yb4]at h)<;>(try exact h.elim)
 ·injection e with e1 e2
  injection e1 with e1 e3
  subst e1 e2 e3
  obtain⟨h1,h2,_⟩:=h
  obtain⟨r,rfl⟩:=zay h1
  obtain⟨k,rfl⟩:=zay h2
  exact⟨_,.line r k _ _⟩
 ·injection e with e1 e2
  injection e1 with e1 e3
  subst e1 e2 e3
  obtain⟨h1,h2,_⟩:=h
  obtain⟨r,rfl⟩:=zay h1
  obtain⟨k,rfl⟩:=zay h2
  exact⟨_,.rest r k _ _⟩
 ·injection e with e1 e2
  injection e1 with e1 e3
  subst e1 e2 e3
  obtain⟨h1,h2,h3,h4⟩:=h
  obtain⟨r,rfl⟩:=zay h1
  obtain⟨k,rfl⟩:=zay h2
  obtain⟨a,rfl⟩:=zay h3
  obtain⟨b,rfl⟩:=zay h4
  exact⟨_,.two r k a b⟩
 ·injection e with e1 e2
  injection e1 with e1 e3
  subst e1 e2 e3
  obtain⟨h1,h2,h3⟩:=h
  obtain⟨r,rfl⟩:=zay h1
  obtain⟨a,rfl⟩:=zay h2
  obtain⟨v,rfl⟩:=zay h3
  exact⟨_,.some_ r a v⟩
 ·injection e with e1 e2
  injection e1 with e1 e3
  subst e1 e2 e3
  obtain⟨h1,h2,h3⟩:=h
  obtain⟨r,rfl⟩:=zay h1
  obtain⟨a,rfl⟩:=zay h2
  obtain⟨v,rfl⟩:=zay h3
  exact⟨_,.all_ r a v⟩
 ·injection e with e1 e2
  injection e1 with e1 e3
  subst e1 e2 e3
  obtain⟨h1,h2,h3,h4⟩:=h
  obtain⟨r,rfl⟩:=zay h1
  obtain⟨a,rfl⟩:=zay h2
  obtain⟨v,rfl⟩:=zay h3
  obtain⟨u,rfl⟩:=zay h4
  exact⟨_,.swap r a v u⟩
 ·injection e with e1 e2
  injection e1 with e1 e3
  subst e1 e2 e3
  obtain⟨h1,h2⟩:=h
  obtain⟨a,rfl⟩:=zay h1
  obtain⟨x,rfl⟩:=zy0 h2
  exact⟨_,.has a x⟩
 ·injection e with e1 e2
  injection e1 with e1 e3
  subst e1 e2 e3
  obtain⟨a,rfl⟩:=zay h
  exact⟨_,.first a⟩
 ·injection e with e1 e2
  injection e1 with e1 e3
  subst e1 e2 e3
  obtain⟨a,rfl⟩:=zay h
  exact⟨_,.count a⟩
 ·injection e with e1 e2
  injection e1 with e1 e3
  subst e1 e2 e3
  obtain⟨a,rfl⟩:=zay h
  exact⟨_,.hangs a⟩
 ·injection e with e1 e2
  injection e1 with e1 e3
  subst e1 e2 e3
  obtain⟨a,rfl⟩:=zay h
  exact⟨_,.machine a⟩
 ·injection e with e1 e2
  injection e1 with e1 e3
  subst e1 e2 e3
  obtain⟨h1,h2⟩:=h
  obtain⟨a,rfl⟩:=zay h1
  obtain⟨b,rfl⟩:=zay h2
  exact⟨_,.within a b⟩
theorem zy2(st:List yaf)(cc:List (List Int))(hn:st.length=16)(hg:∀ m∈st,MM.Good m/\m.next.length<=24):(ybi st cc).2.length<=1000:=by
 have rg:∀ a,MM.Good (ybf st a)/\(ybf st a).next.length<=24:=fun a=>by
  unfold ybf
  by_cases h:a<st.length
  ·rw[yal,yad h]
   exact hg _ (ygu h)
  ·rw[yal,ybd (by omega)]
   exact⟨zm5,by decide⟩
 unfold ybi
 cases ykt cc with
 | none=>simp
 | some y =>
  have one:∀(s:List yaf) (k:Int),(ycl (s,ymg k).2).length<=1000:=fun s k=>by simp[ycl,ymg]
  have sets:∀ r m,(ycl (yh8 st r m).2).length<=1000:=fun r m=>by
   unfold yh8
   split
   ·exact one _ _
   ·exact one (st.set r m) _
  have setsIf:∀ r mo,(ycl (yke st r mo).2).length<=1000:=fun r mo=>by
   cases mo with
   | none=>exact one st _
   | some m=>exact sets r m
  have lst:∀(k:Int) (x:List Nat),x.length<=500->(ycl ⟨k,[x]⟩).length<=1000:=fun k x hx=>by
   unfold ycl
   simp
   omega
  show(ycl (ybt st y).2).length<=1000
  cases y with
  | line r k b a =>
   unfold ybt
   simp only
   split
   ·exact one st _
   ·exact sets _ _
  | rest r k b a =>
   unfold ybt
   simp only
   split
   ·exact one st _
   ·exact sets _ _
  | two r k a b =>
   unfold ybt
   simp only
   split
   ·exact one st _
   ·exact sets _ _
  | some_ r a v =>
   unfold ybt
   simp only
   split
   ·exact one st _
   ·exact setsIf _ _
  | all_ r a v =>
   unfold ybt
   simp only
   split
   ·exact one st _
   ·exact setsIf _ _
  | swap r a v u =>
   unfold ybt
   simp only
   split
   ·exact one st _
   ·exact sets _ _
  | has a x =>
   unfold ybt
   simp only
   split
   ·exact one st _
   ·exact one st _
  | first a =>
   unfold ybt
   simp only
   split
   ·exact one st _
   ·cases e:yec (ybf st a) with
    | none=>exact one st _
    | some x=>exact lst 0 x (by rw[zgs (rg a).1.wf (rg a).1.zr e];decide)
  | count a =>
   unfold ybt
   simp only
   split
   ·exact one st _
   ·cases e:yib (ybf st a) with
    | none=>exact one st _
    | some k =>
     simp only
     split
     ·exact one st _
     ·exact one st _
  | hangs a =>
   unfold ybt
   simp only
   split
   ·exact one st _
   ·exact lst _ _ (by have:=znc (ybf st a);omega)
  | machine a =>
   unfold ybt
   simp only
   split
   ·exact one st _
   ·exact lst _ _ (by show(wout (ybf st a)).length<=500;rw[zpd (rg a).1.wf];have:=(rg a).2;omega)
  | within a b =>
   unfold ybt
   simp only
   split
   ·exact one st _
   ·cases e:yec (yfo 4 (ybf st a) (ybf st b)) with
    | none=>exact one st _
    | some x =>
     have gj:=zqs (rg a).1 (rg b).1 4
     exact lst 0 x (by rw[zgs gj.wf gj.zr e];decide)
end My
end
section
namespace My
open PySem PySem.Spec PyProof.Rows L2
open Rows (Told LETTERS)
structure Md(K:yac)(CR:Addr)(x:Str)(ps:List Str)(f:Addr)(d:ya2):Prop where
 m:Meth K CR x f
 b:Binds K d ps []
structure TC(mg:Str->Option Value):Prop where
 c0:∃ t,mg "LINE" = some (.int 0 t)
 c1:∃ t,mg "REST" = some (.int 1 t)
 c2:∃ t,mg "TWO" = some (.int 2 t)
 c3:∃ t,mg "SOME" = some (.int 3 t)
 c4:∃ t,mg "ALL" = some (.int 4 t)
 c5:∃ t,mg "SWAP" = some (.int 5 t)
 c6:∃ t,mg "HAS" = some (.int 6 t)
 c7:∃ t,mg "FIRST" = some (.int 7 t)
 c8:∃ t,mg "COUNT" = some (.int 8 t)
 c9:∃ t,mg "HANGS" = some (.int 9 t)
 c10:∃ t,mg "MACHINE" = some (.int 10 t)
abbrev nmCa:List Str:=["registers","call","f","lists"]
section
variable {P:yav}{w:World}{K:yac}{mg:Str->Option Value}{base:Heap}
theorem z18:FnScope nmCa nmCa (ze zg9):=⟨rfl,rfl,rfl,by decide +kernel,rfl,by decide +kernel,by decide +kernel⟩
def zqv(CR CM CO CS CT CV CN CE:Addr):Sp:=fun vs H Q E=>∃(o l f ls:Addr) (st:List yaf) (c:Int) (fs:List Int) (lr:List Addr) (lists:List (List Int)) (y:ymh),vs=[.ref o,.int c,.ref f,.ref ls]/\RegAt CR CM H o l st/\H f=some (.lst (fs.map V.int))/\H ls=some (.lst (lr.map V.ref))/\ListsAt H lr lists /\
 Which c fs lists y/\5<c/\Ends' CR CM CO CS CT CV CN CE o l st H (zax (ybt st y)) Q E
theorem list0{H:Hp}{lr:List Addr}{a:List Int}(h:ListsAt H lr [a]):∃ p,(lr.map V.ref)[0]?=some (V.ref p)/\H p=some (.lst (a.map V.int)):=by
 unfold ListsAt at h
 cases h with
 | cons q t=>cases t;exact⟨_,rfl,q⟩
theorem eqF{i j:Int}(h:i≠j):decide (V.int i=V.int j)=false:=decide_eq_false fun z=>h (V.int.inj z)
theorem eqT(i:Int):decide (V.int i=V.int i)=true:=decide_eq_true rfl
theorem z19{f CR CM CO CS CT CV CN CE fH fF fC fG fM fW:Addr}{fd dH dF dC dG dM dW:ya2}(F:Fun K "asked" "asked" zg9 f fd)(C:TC mg)(T:TG' K CR)(MH:Md K CR "has" ["self","a","row"] fH dH)(NH:FnOk P w K mg base (CXE P w) 3 fH dH ["self","a","row"] (spHas CR CM CO))(MF:Md K CR "first" ["self","a"] fF dF)(NF:FnOk P w K mg base (CXE P w) 4 fF dF ["self","a"] (spAsk CR CM CO (zhh CN)))(MC:Md K CR "row_count" ["self","a"] fC dC)(NC:FnOk P w K mg base (CXE P w) 3 fC dC ["self","a"] (spAsk CR CM CO (zhi CE CV)))(MG:Md K CR "hangs" ["self","a"] fG dG)(NG:FnOk P w K mg base (CXE P w) 4 fG dG ["self","a"] (spAsk CR CM CO zmd))(MM':Md K CR "machine" ["self","a"] fM dM)(NM:FnOk P w K mg base (CXE P w) 3 fM dM ["self","a"] (spAsk CR CM CO zpc))(MW:Md K CR "within" ["self","a","b"] fW dW)(NW:FnOk P w K mg base (CXE P w) 4 fW dW ["self","a","b"] (spWi CR CM CO)) :
  FnOk P w K mg base (CXE P w) 5 f fd nmCa (zqv CR CM CO CS CT CV CN CE):=by
 have NH':=NH.mono (k:=4) (by decide)
 have NC':=NC.mono (k:=4) (by decide)
 have NM':=NM.mono (k:=4) (by decide)
 obtain⟨t6,h6⟩:=C.c6
 obtain⟨t7,h7⟩:=C.c7
 obtain⟨t8,h8⟩:=C.c8
 obtain⟨t9,h9⟩:=C.c9
 obtain⟨t10,h10⟩:=C.c10
 refine F.okE z18 (fun vs H Q E h=>?_) (fun cdv A outer s H vs Q E hr h=>?_)
 ·obtain⟨o,l,f,ls,st,c,fs,lr,lists,y,rfl,_⟩:=h
  rfl
 ·obtain⟨o,l,f,ls,st,c,fs,lr,lists,y,rfl,R,hf,hls,hla,W,h5,En⟩:=h
  refine⟨_,zc (zbk (zah zco (pv 1) (zx (v:=.int 6) rfl h6 ⟨t6,rfl⟩) (zaj _)) (zf (zk (zai (pv 0) T.cl MH.m NH' hr MH.b .nil zv (za (zp ix_list (pv 2) zg (fun _ _=>rfl)) (za (zp ix_list (pv 3) zg (fun _ _=>rfl)) zb))))) zap)
   (zc (zbk (zah zco (pv 1) (zx (v:=.int 7) rfl h7 ⟨t7,rfl⟩) (zaj _)) (zf (zk (zai (pv 0) T.cl MF.m NF hr MF.b .nil zv (za (zp ix_list (pv 2) zg (fun _ _=>rfl)) zb)))) zap)
   (zc (zbk (zah zco (pv 1) (zx (v:=.int 8) rfl h8 ⟨t8,rfl⟩) (zaj _)) (zf (zk (zai (pv 0) T.cl MC.m NC' hr MC.b .nil zv (za (zp ix_list (pv 2) zg (fun _ _=>rfl)) zb)))) zap)
   (zc (zbk (zah zco (pv 1) (zx (v:=.int 9) rfl h9 ⟨t9,rfl⟩) (zaj _)) (zf (zk (zai (pv 0) T.cl MG.m NG hr MG.b .nil zv (za (zp ix_list (pv 2) zg (fun _ _=>rfl)) zb)))) zap)
   (zc (zbk (zah zco (pv 1) (zx (v:=.int 10) rfl h10 ⟨t10,rfl⟩) (zaj _)) (zf (zk (zai (pv 0) T.cl MM'.m NM' hr MM'.b .nil zv (za (zp ix_list (pv 2) zg (fun _ _=>rfl)) zb)))) zap)
   (zf (zk (zai (pv 0) T.cl MW.m NW hr MW.b .nil zv (za (zp ix_list (pv 2) zg (fun _ _=>rfl)) (za (zp ix_list (pv 2) zg (fun _ _=>rfl)) zb))))))))),?_⟩
  obtain⟨dx,ms,o1,_,_⟩:=R.ex
  cases W with
  | line r k b a=>exact absurd h5 (by decide)
  | rest r k b a=>exact absurd h5 (by decide)
  | two r k a b=>exact absurd h5 (by decide)
  | some_ r a v=>exact absurd h5 (by decide)
  | all_ r a v=>exact absurd h5 (by decide)
  | swap r a v u=>exact absurd h5 (by decide)
  | has a x =>
   obtain⟨p,hp0,hp⟩:=list0 hla
   rw[zma]at hp
   obtain⟨hb,hg⟩:=zwl R En
   refine⟨_,rfl,rfl,_,rfl,ifT (eqT 6) ?_⟩
   exact⟨_,rfl,o,dx,_,rfl,o1,rfl,_,rfl,f,_,_,_,rfl,rfl,SqL.of hf,zm (j:=0) rfl,_,rfl,ls,_,_,_,rfl,rfl,SqL.of hls,zm (j:=0) hp0,o,l,p,st,a,x,rfl,R,hp,hb,hg⟩
  | first a =>
   obtain⟨hb,hg⟩:=zr8 R En
   refine⟨_,rfl,rfl,_,rfl,ifF (eqF (by decide)) ?_⟩
   refine⟨_,rfl,rfl,_,rfl,ifT (eqT 7) ?_⟩
   exact⟨_,rfl,o,dx,_,rfl,o1,rfl,_,rfl,f,_,_,_,rfl,rfl,SqL.of hf,zm (j:=0) rfl,o,l,st,a,rfl,R,hb,hg⟩
  | count a =>
   obtain⟨hb,hg⟩:=zr9 R En
   refine⟨_,rfl,rfl,_,rfl,ifF (eqF (by decide)) ?_⟩
   refine⟨_,rfl,rfl,_,rfl,ifF (eqF (by decide)) ?_⟩
   refine⟨_,rfl,rfl,_,rfl,ifT (eqT 8) ?_⟩
   exact⟨_,rfl,o,dx,_,rfl,o1,rfl,_,rfl,f,_,_,_,rfl,rfl,SqL.of hf,zm (j:=0) rfl,o,l,st,a,rfl,R,hb,hg⟩
  | hangs a =>
   obtain⟨hb,hg⟩:=zsa R En
   refine⟨_,rfl,rfl,_,rfl,ifF (eqF (by decide)) ?_⟩
   refine⟨_,rfl,rfl,_,rfl,ifF (eqF (by decide)) ?_⟩
   refine⟨_,rfl,rfl,_,rfl,ifF (eqF (by decide)) ?_⟩
   refine⟨_,rfl,rfl,_,rfl,ifT (eqT 9) ?_⟩
   exact⟨_,rfl,o,dx,_,rfl,o1,rfl,_,rfl,f,_,_,_,rfl,rfl,SqL.of hf,zm (j:=0) rfl,o,l,st,a,rfl,R,hb,hg⟩
  | machine a =>
   obtain⟨hb,hg⟩:=zum R En
   refine⟨_,rfl,rfl,_,rfl,ifF (eqF (by decide)) ?_⟩
   refine⟨_,rfl,rfl,_,rfl,ifF (eqF (by decide)) ?_⟩
   refine⟨_,rfl,rfl,_,rfl,ifF (eqF (by decide)) ?_⟩
   refine⟨_,rfl,rfl,_,rfl,ifF (eqF (by decide)) ?_⟩
   refine⟨_,rfl,rfl,_,rfl,ifT (eqT 10) ?_⟩
   exact⟨_,rfl,o,dx,_,rfl,o1,rfl,_,rfl,f,_,_,_,rfl,rfl,SqL.of hf,zm (j:=0) rfl,o,l,st,a,rfl,R,hb,hg⟩
  | within a b =>
   obtain⟨hb,hg⟩:=zyz R En
   refine⟨_,rfl,rfl,_,rfl,ifF (eqF (by decide)) ?_⟩
   refine⟨_,rfl,rfl,_,rfl,ifF (eqF (by decide)) ?_⟩
   refine⟨_,rfl,rfl,_,rfl,ifF (eqF (by decide)) ?_⟩
   refine⟨_,rfl,rfl,_,rfl,ifF (eqF (by decide)) ?_⟩
   refine⟨_,rfl,rfl,_,rfl,ifF (eqF (by decide)) ?_⟩
   exact⟨_,rfl,o,dx,_,rfl,o1,rfl,_,rfl,f,_,_,_,rfl,rfl,SqL.of hf,zm (j:=0) rfl,_,rfl,f,_,_,_,rfl,rfl,SqL.of hf,zm (j:=1) rfl,o,l,st,a,b,rfl,R,hb,hg⟩
theorem z2a:FnScope nmCa nmCa (ze zga):=⟨rfl,rfl,rfl,by decide +kernel,rfl,by decide +kernel,by decide +kernel⟩
theorem z2b{f CR CM CO CS CT CV CN CE fA f0 f1 f2 f3 f4 f5:Addr}{fd dA d0 d1 d2 d3 d4 d5:ya2}(F:Fun K "called" "called" zga f fd)(C:TC mg)(T:TG' K CR)(GA:Gf K mg "asked" zg9 nmCa fA dA)(NA:FnOk P w K mg base (CXE P w) 5 fA dA nmCa (zqv CR CM CO CS CT CV CN CE))(M0:Md K CR "line" ["self","r","k","b","factors"] f0 d0)(N0:FnOk P w K mg base (CXE P w) 5 f0 d0 ["self","r","k","b","factors"] (zua CR CM CO CS CT))(M1:Md K CR "rest" ["self","r","m","b","factors"] f1 d1)(N1:FnOk P w K mg base (CXE P w) 5 f1 d1 ["self","r","m","b","factors"] (spRst CR CM CO CS CT))(M2:Md K CR "two" ["self","r","op","a","b"] f2 d2)(N2:FnOk P w K mg base (CXE P w) 5 f2 d2 ["self","r","op","a","b"] (spTwo CR CM CO CS CT))(M3:Md K CR "for_some" ["self","r","a","v"] f3 d3)(N3:FnOk P w K mg base (CXE P w) 5 f3 d3 ["self","r","a","v"] (spFor CR CM CO CS CT sM))(M4:Md K CR "for_all" ["self","r","a","v"] f4 d4)(N4:FnOk P w K mg base (CXE P w) 6 f4 d4 ["self","r","a","v"] (spFor CR CM CO CS CT aM))(M5:Md K CR "swap" ["self","r","a","v","w"] f5 d5)(N5:FnOk P w K mg base (CXE P w) 5 f5 d5 ["self","r","a","v","w"] (spSwp CR CM CO CS CT)) :
  FnOk P w K mg base (CXE P w) 7 f fd nmCa (zo9 CR CM CO CS CT CV CN CE):=by
 have NA':=NA.mono (k:=6) (by decide)
 have N0':=N0.mono (k:=6) (by decide)
 have N1':=N1.mono (k:=6) (by decide)
 have N2':=N2.mono (k:=6) (by decide)
 have N3':=N3.mono (k:=6) (by decide)
 have N5':=N5.mono (k:=6) (by decide)
 obtain⟨t0,h0⟩:=C.c0
 obtain⟨t1,h1⟩:=C.c1
 obtain⟨t2,h2⟩:=C.c2
 obtain⟨t3,h3⟩:=C.c3
 obtain⟨t4,h4⟩:=C.c4
 obtain⟨t5,h5⟩:=C.c5
 refine F.okE z2a (fun vs H Q E h=>?_) (fun cdv A outer s H vs Q E hr h=>?_)
 ·obtain⟨o,l,f,ls,st,c,fs,lr,lists,rfl,_⟩:=h
  rfl
 ·obtain⟨o,l,f,ls,st,c,fs,lr,lists,rfl,R,hf,hls,hla,hask,En⟩:=h
  obtain⟨y,W⟩:=zwm hask
  rw[W.step]at En
  refine⟨_,zc (zbk (zah zgi (pv 1) (zx (v:=.int 5) rfl h5 ⟨t5,rfl⟩) (zaj _)) (zf (zk (zi NA' hr rfl GA.m GA.F.kp GA.b .nil zv (za (pv 0) (za (pv 1) (za (pv 2) (za (pv 3) zb))))))) zap)
   (zc (zbk (zah zco (pv 1) (zx (v:=.int 0) rfl h0 ⟨t0,rfl⟩) (zaj _)) (zf (zk (zai (pv 0) T.cl M0.m N0' hr M0.b .nil zv (za (zp ix_list (pv 2) zg (fun _ _=>rfl)) (za (zp ix_list (pv 2) zg (fun _ _=>rfl)) (za (zp ix_list (pv 2) zg (fun _ _=>rfl)) (za (zp ix_list (pv 3) zg (fun _ _=>rfl)) zb))))))) zap)
   (zc (zbk (zah zco (pv 1) (zx (v:=.int 1) rfl h1 ⟨t1,rfl⟩) (zaj _)) (zf (zk (zai (pv 0) T.cl M1.m N1' hr M1.b .nil zv (za (zp ix_list (pv 2) zg (fun _ _=>rfl)) (za (zp ix_list (pv 2) zg (fun _ _=>rfl)) (za (zp ix_list (pv 2) zg (fun _ _=>rfl)) (za (zp ix_list (pv 3) zg (fun _ _=>rfl)) zb))))))) zap)
   (zc (zbk (zah zco (pv 1) (zx (v:=.int 2) rfl h2 ⟨t2,rfl⟩) (zaj _)) (zf (zk (zai (pv 0) T.cl M2.m N2' hr M2.b .nil zv (za (zp ix_list (pv 2) zg (fun _ _=>rfl)) (za (zp ix_list (pv 2) zg (fun _ _=>rfl)) (za (zp ix_list (pv 2) zg (fun _ _=>rfl)) (za (zp ix_list (pv 2) zg (fun _ _=>rfl)) zb))))))) zap)
   (zc (zbk (zah zco (pv 1) (zx (v:=.int 3) rfl h3 ⟨t3,rfl⟩) (zaj _)) (zf (zk (zai (pv 0) T.cl M3.m N3' hr M3.b .nil zv (za (zp ix_list (pv 2) zg (fun _ _=>rfl)) (za (zp ix_list (pv 2) zg (fun _ _=>rfl)) (za (zp ix_list (pv 2) zg (fun _ _=>rfl)) zb)))))) zap)
   (zc (zbk (zah zco (pv 1) (zx (v:=.int 4) rfl h4 ⟨t4,rfl⟩) (zaj _)) (zf (zk (zai (pv 0) T.cl M4.m N4 hr M4.b .nil zv (za (zp ix_list (pv 2) zg (fun _ _=>rfl)) (za (zp ix_list (pv 2) zg (fun _ _=>rfl)) (za (zp ix_list (pv 2) zg (fun _ _=>rfl)) zb)))))) zap)
   (zf (zk (zai (pv 0) T.cl M5.m N5' hr M5.b .nil zv (za (zp ix_list (pv 2) zg (fun _ _=>rfl)) (za (zp ix_list (pv 2) zg (fun _ _=>rfl)) (za (zp ix_list (pv 2) zg (fun _ _=>rfl)) (za (zp ix_list (pv 2) zg (fun _ _=>rfl)) zb)))))))))))),?_⟩
  obtain⟨dx,ms,o1,_,_⟩:=R.ex
  by_cases big:5<c
  ·refine⟨_,rfl,_,_,rfl,rfl,_,rfl,ifT (decide_eq_true big) ?_⟩
   exact⟨_,rfl,_,rfl,_,rfl,_,rfl,o,l,f,ls,st,c,fs,lr,lists,y,rfl,R,hf,hls,hla,W,big,En⟩
  refine⟨_,rfl,_,_,rfl,rfl,_,rfl,ifF (decide_eq_false big) ?_⟩
  cases W with
  | line r k b a =>
   obtain⟨p,hp0,hp⟩:=list0 hla
   obtain⟨hb,hg⟩:=zue En
   refine⟨_,rfl,rfl,_,rfl,ifT (eqT 0) ?_⟩
   exact⟨_,rfl,o,dx,_,rfl,o1,rfl,_,rfl,f,_,_,_,rfl,rfl,SqL.of hf,zm (j:=0) rfl,_,rfl,f,_,_,_,rfl,rfl,SqL.of hf,zm (j:=1) rfl,_,rfl,f,_,_,_,rfl,rfl,SqL.of hf,zm (j:=2) rfl,_,rfl,ls,_,_,_,rfl,rfl,SqL.of hls,zm (j:=0) hp0,o,l,p,st,r,k,b,a,rfl,R,hp,hb,hg⟩
  | rest r k b a =>
   obtain⟨p,hp0,hp⟩:=list0 hla
   obtain⟨hb,hg⟩:=zuf En
   refine⟨_,rfl,rfl,_,rfl,ifF (eqF (by decide)) ?_⟩
   refine⟨_,rfl,rfl,_,rfl,ifT (eqT 1) ?_⟩
   exact⟨_,rfl,o,dx,_,rfl,o1,rfl,_,rfl,f,_,_,_,rfl,rfl,SqL.of hf,zm (j:=0) rfl,_,rfl,f,_,_,_,rfl,rfl,SqL.of hf,zm (j:=1) rfl,_,rfl,f,_,_,_,rfl,rfl,SqL.of hf,zm (j:=2) rfl,_,rfl,ls,_,_,_,rfl,rfl,SqL.of hls,zm (j:=0) hp0,o,l,p,st,r,k,b,a,rfl,R,hp,hb,hg⟩
  | two r k a b =>
   obtain⟨hb,hg⟩:=zwg En
   refine⟨_,rfl,rfl,_,rfl,ifF (eqF (by decide)) ?_⟩
   refine⟨_,rfl,rfl,_,rfl,ifF (eqF (by decide)) ?_⟩
   refine⟨_,rfl,rfl,_,rfl,ifT (eqT 2) ?_⟩
   exact⟨_,rfl,o,dx,_,rfl,o1,rfl,_,rfl,f,_,_,_,rfl,rfl,SqL.of hf,zm (j:=0) rfl,_,rfl,f,_,_,_,rfl,rfl,SqL.of hf,zm (j:=1) rfl,_,rfl,f,_,_,_,rfl,rfl,SqL.of hf,zm (j:=2) rfl,_,rfl,f,_,_,_,rfl,rfl,SqL.of hf,zm (j:=3) rfl,o,l,st,r,k,a,b,rfl,R,hb,hg⟩
  | some_ r a v =>
   obtain⟨hb,hg⟩:=zug En
   refine⟨_,rfl,rfl,_,rfl,ifF (eqF (by decide)) ?_⟩
   refine⟨_,rfl,rfl,_,rfl,ifF (eqF (by decide)) ?_⟩
   refine⟨_,rfl,rfl,_,rfl,ifF (eqF (by decide)) ?_⟩
   refine⟨_,rfl,rfl,_,rfl,ifT (eqT 3) ?_⟩
   exact⟨_,rfl,o,dx,_,rfl,o1,rfl,_,rfl,f,_,_,_,rfl,rfl,SqL.of hf,zm (j:=0) rfl,_,rfl,f,_,_,_,rfl,rfl,SqL.of hf,zm (j:=1) rfl,_,rfl,f,_,_,_,rfl,rfl,SqL.of hf,zm (j:=2) rfl,o,l,st,r,a,v,rfl,R,hb,hg⟩
  | all_ r a v =>
   obtain⟨hb,hg⟩:=zwh En
   refine⟨_,rfl,rfl,_,rfl,ifF (eqF (by decide)) ?_⟩
   refine⟨_,rfl,rfl,_,rfl,ifF (eqF (by decide)) ?_⟩
   refine⟨_,rfl,rfl,_,rfl,ifF (eqF (by decide)) ?_⟩
   refine⟨_,rfl,rfl,_,rfl,ifF (eqF (by decide)) ?_⟩
   refine⟨_,rfl,rfl,_,rfl,ifT (eqT 4) ?_⟩
   exact⟨_,rfl,o,dx,_,rfl,o1,rfl,_,rfl,f,_,_,_,rfl,rfl,SqL.of hf,zm (j:=0) rfl,_,rfl,f,_,_,_,rfl,rfl,SqL.of hf,zm (j:=1) rfl,_,rfl,f,_,_,_,rfl,rfl,SqL.of hf,zm (j:=2) rfl,o,l,st,r,a,v,rfl,R,hb,hg⟩
  | swap r a v u =>
   obtain⟨hb,hg⟩:=zuh En
   refine⟨_,rfl,rfl,_,rfl,ifF (eqF (by decide)) ?_⟩
   refine⟨_,rfl,rfl,_,rfl,ifF (eqF (by decide)) ?_⟩
   refine⟨_,rfl,rfl,_,rfl,ifF (eqF (by decide)) ?_⟩
   refine⟨_,rfl,rfl,_,rfl,ifF (eqF (by decide)) ?_⟩
   refine⟨_,rfl,rfl,_,rfl,ifF (eqF (by decide)) ?_⟩
   exact⟨_,rfl,o,dx,_,rfl,o1,rfl,_,rfl,f,_,_,_,rfl,rfl,SqL.of hf,zm (j:=0) rfl,_,rfl,f,_,_,_,rfl,rfl,SqL.of hf,zm (j:=1) rfl,_,rfl,f,_,_,_,rfl,rfl,SqL.of hf,zm (j:=2) rfl,_,rfl,f,_,_,_,rfl,rfl,SqL.of hf,zm (j:=3) rfl,o,l,st,r,a,v,u,rfl,R,hb,hg⟩
  | has a x=>exact absurd (show(5:Int)<6 by decide) big
  | first a=>exact absurd (show(5:Int)<7 by decide) big
  | count a=>exact absurd (show(5:Int)<8 by decide) big
  | hangs a=>exact absurd (show(5:Int)<9 by decide) big
  | machine a=>exact absurd (show(5:Int)<10 by decide) big
  | within a b=>exact absurd (show(5:Int)<11 by decide) big
end
end My
end
section
namespace My
open PySem PySem.Spec PyProof.Rows L2
def Fx(K:yac)(x q:Str)(st:Stmt)(f:Addr):Prop:=∃(oc:Value) (od:Option Addr) (kV doc pm:Value) (an:Option Addr) (cdv ct:Value) (osl:Array (Option Value)),
 K.lookup f=some ⟨oc,od,.func (yeo x q (zdq st) (zck st) (ze st) .none kV doc pm an cdv ct),osl⟩/\yhq K cdv q=true/\yd7 K (.ref f)=true
section
variable {K:yac}{x q:Str}{st:Stmt}{f:Addr}
theorem Fx.mk(h:Fx K x q st f){ps:List Str}(hb:∀(kV doc pm:Value) (an:Option Addr) (cdv ct:Value) (us:List Value),us.length=ps.length->bindArgs (yeo x q (zdq st) (zck st) (ze st) .none kV doc pm an cdv ct) ⟨us,[]⟩=pure (ps.zip us)):∃ fd,Fun K x q st f fd/\Binds K fd ps []:=by
 obtain⟨_,_,_,_,_,_,_,_,_,l,c,k⟩:=h
 exact⟨_,zn0 l c k,(zn0 l c k).binds hb⟩
structure Gx(K:yac)(x:Str)(st:Stmt)(f:Addr):Prop where
 n:ycn K ya8 x=some (some (.ref f))
 h:Fx K x x st f
structure Mx(K:yac)(C:Addr)(x q:Str)(st:Stmt)(f:Addr):Prop where
 n:yb5 K (.ref C) x=some (some (.ref f))
 i:yi3 K (.ref f)=true
 h:Fx K x q st f
structure Kx(K:yac)(x:Str)(C:Addr):Prop where
 n:ycn K ya8 x=some (some (.ref C))
 pg:yfw K C Str.empty=true
 hd:ygf K C=true
 po:yhy K C=true
 sa:yb5 K (.ref C) "__setattr__" = some (some (.builtin "object.__setattr__"))
 mq:yi5 K C=true
 kc:yd7 K (.ref C)=true
structure Xx(K:yac)(x:Str)(C:Addr):Prop where
 n:ycn K ya8 x=some (some (.ref C))
 e:yii K C [.type "ValueError",.type "Exception",.type "BaseException",.type "object"] "ValueError.__new__" = true
def Nx(K:yac)(x:Str)(i:Int):Prop:=∃ t,ycn K ya8 x=some (some (.int i t))
theorem Fx.meth{C:Addr}(h:Mx K C x q st f):Meth K C x f:=by
 obtain⟨n,i,_,_,_,_,_,_,_,_,_,l,c,k⟩:=h
 exact⟨n,i,k⟩
variable {h:Heap}{mg:Str->Option Value}
theorem Gx.gf(g:Gx K x st f)(X:K.In h)(G:h.Ns ya8 mg){ps:List Str}(hb:∀(kV doc pm:Value) (an:Option Addr) (cdv ct:Value) (us:List Value),us.length=ps.length->bindArgs (yeo x x (zdq st) (zck st) (ze st) .none kV doc pm an cdv ct) ⟨us,[]⟩=pure (ps.zip us)):∃ fd,Gf K mg x st ps f fd:=by
 obtain⟨fd,F,b⟩:=g.h.mk hb
 exact⟨fd,F,b,ycq X G g.n⟩
theorem Nx.gl{i:Int}(g:Nx K x i)(X:K.In h)(G:h.Ns ya8 mg):∃ t,mg x=some (.int i t):=by
 obtain⟨t,g⟩:=g
 exact⟨t,ycq X G g⟩
theorem Xx.exc{C:Addr}(g:Xx K x C)(X:K.In h)(G:h.Ns ya8 mg):Exc K mg x C:=⟨ycq X G g.n,g.e⟩
end
theorem zsb(p:Int)(n k:Nat)(h:yc2 p=some (n,k)):atI ([3,3,4,3,3,4,1,1,1,1,1,2].map nV) p=some (nV n)/\atI ([1,1,0,0,0,0,1,0,0,0,0,0].map nV) p=some (nV k):=by
 unfold yc2 at h
 have two:∀{c:Prop} [Decidable c] {a:Nat × Nat} {r:Option (Nat × Nat)},(if c then some a else r)=some (n,k)->(c/\a=(n,k))\/r=some (n,k):=fun {c} _ {a r} e=>by
  by_cases z:c
  ·rw[if_pos z]at e;exact .inl ⟨z,ya1 e⟩
  ·rw[if_neg z]at e;exact .inr e
 rcases two h with⟨rfl,e⟩ | h
 ·cases e;exact⟨rfl,rfl⟩
 rcases two h with⟨rfl,e⟩ | h
 ·cases e;exact⟨rfl,rfl⟩
 rcases two h with⟨rfl,e⟩ | h
 ·cases e;exact⟨rfl,rfl⟩
 rcases two h with⟨rfl,e⟩ | h
 ·cases e;exact⟨rfl,rfl⟩
 rcases two h with⟨rfl,e⟩ | h
 ·cases e;exact⟨rfl,rfl⟩
 rcases two h with⟨rfl,e⟩ | h
 ·cases e;exact⟨rfl,rfl⟩
 rcases two h with⟨rfl,e⟩ | h
 ·cases e;exact⟨rfl,rfl⟩
 rcases two h with⟨rfl,e⟩ | h
 ·cases e;exact⟨rfl,rfl⟩
 rcases two h with⟨rfl,e⟩ | h
 ·cases e;exact⟨rfl,rfl⟩
 rcases two h with⟨rfl,e⟩ | h
 ·cases e;exact⟨rfl,rfl⟩
 rcases two h with⟨rfl,e⟩ | h
 ·cases e;exact⟨rfl,rfl⟩
 rcases two h with⟨rfl,e⟩ | h
 ·cases e;exact⟨rfl,rfl⟩
 cases h
end My
end
noncomputable section
namespace My
open PySem PySem.W
def goT(tb:String->Option Builtin)(p:yav)(w:World)(n0:Nat)(ann:Option Value):Nat->SharedT->Thread->Option (SharedT × Thread)
 | 0,s,t=>match through t with
  | true=>some (s,t)
  | false=>match stepOk n0 ann t with
   | false=>none
   | true=>stepT (denote tb) p w s t
 | k+1,s,t=>match goT tb p w n0 ann k s t with
  | some (s',t')=>goT tb p w n0 ann k s' t'
  | none=>none
theorem zme{tb:String->Option Builtin}{p:yav}{w:World}{n0:Nat}{ann:Option Value}:∀{k:Nat} {s s':SharedT} {t t':Thread},goT tb p w n0 ann k s t=some (s',t') ->
  ∃ m,m<=2 ^ k/\∀ n r,topRun tb p w n0 ann n s'.abs t'=some r->topRun tb p w n0 ann (m+n) s.abs t=some r
 | 0,s,s',t,t',h=>by
  unfold goT at h
  cases ht:through t with
  | true=>rw[ht]at h;cases h;exact⟨0,by decide,fun n r z=>by rw[yfi];exact z⟩
  | false =>
   rw[ht]at h
   cases hk:stepOk n0 ann t with
   | false=>rw[hk]at h;cases h
   | true =>
    rw[hk]at h
    refine⟨1,by decide,fun n r z=>?_⟩
    rw[Nat.add_comm]
    unfold topRun
    rw[ht,hk,stepT_spec h]
    exact z
 | k+1,s,s',t,t',h=>by
  unfold goT at h
  cases hg:goT tb p w n0 ann k s t with
  | none=>rw[hg]at h;cases h
  | some r =>
   obtain⟨s2,t2⟩:=r
   rw[hg]at h
   obtain⟨m1,l1,f1⟩:=zme hg
   obtain⟨m2,l2,f2⟩:=zme h
   exact⟨m1+m2,by rw[ye3];omega,fun n r z=>by rw[Nat.add_assoc];exact f1 _ _ (f2 _ _ z)⟩
def mkT(l:List Obj):Nat->Nat->Nat->BT
 | 0,_,_=>.nil
 | f+1,a,b=>match l[b]? with
  | some o=>.node o (mkT l f (2*a) (a+b)) (mkT l f (2*a) (2*a+b))
  | none=>.nil
def seenT(p q:yav)(loose:List Str)(Xt:yah->Bool)(h0:Heap)(s:yah) :=
 (staticsOk (importedModules p.main.body) h0 s.heap && namesBound p s.heap && gensDone s && laidKept h0 s.heap,openSeen q loose (importedModules p.main.body) Xt true s)
def zpf{α:Type}(p q:yav)(loose:List Str)(Xt:yah->Bool)(yT:SharedT->Option α)(k m0:Nat)(ann:Option Value)(T:Params->BT)(life:Params->Life)(w:World)(os:OsState) :=
 match goT treeTable p w m0 ann k ⟨T w.params,m0,life w.params,yjr [],boot_drawn,boot_toks,os⟩ (topStub p) with
 | some (s,t)=>match through t with
  | true=>match yT s with
   | some y=>some (seenT p q loose Xt (boot_heap w.params) s.abs,y)
   | none=>none
  | false=>none
 | none=>none
theorem zy3{p q:yav}{loose:List Str}{Xt:yah->Bool}{α:Type}{yT:SharedT->Option α}{Yf:yah->α}{y:α}{N k m0:Nat}{ann:Option Value}{T:Params->BT}{life:Params->Life}(e:opening p=plainProg p.main.scope.names)(hN:Nat.ble 600 N=true)(f:∀ s,fenceModules? p s=some s)(size:∀ w:World,((boot_heap w.params).isNs ya8 && (yjr []:Array GenState).size == 0,(boot_heap w.params).objs.size,(boot_heap w.params).nsMap ya8 "__annotations__")=(true,m0,ann))(tree:∀ P,absHeap (T P) m0 (life P)=boot_heap P)(hy:∀ s y,yT s=some y->Yf s.abs=y)(run:∀ w os,zpf p q loose Xt yT k m0 ann T life w os=some ((true,openGood q loose),y))(le:Nat.ble (2 ^ k+1) N=true):LeftO p q loose Xt Yf (fun _=>y) N:=fun w=>by
 obtain⟨⟨h,gs,d,kk,os⟩,e1,e2⟩:=yfc.mp (boot_open e hN f w)
 obtain⟨rfl,rfl,rfl,rfl⟩:h=boot_heap w.params/\gs=yjr []/\d=boot_drawn/\kk=boot_toks:=by simpa using e2
 obtain⟨z1,z2,z3⟩:_/\_/\_:=by simpa only[yif] using size w
 have r:=run w os
 unfold zpf at r
 cases hg:goT treeTable p w m0 ann k ⟨T w.params,m0,life w.params,yjr [],boot_drawn,boot_toks,os⟩ (topStub p) with
 | none=>rw[hg]at r;cases r
 | some st =>
  obtain⟨s,t⟩:=st
  rw[hg]at r
  cases ht:through t with
  | false=>simp only[ht]at r;cases r
  | true =>
   simp only[ht]at r
   cases hz:yT s with
   | none=>simp only[hz]at r;cases r
   | some y1 =>
   simp only[hz]at r
   obtain⟨r1,r2⟩:=ydm (ya1 r)
   obtain⟨l1,l2⟩:=ydm r1
   obtain⟨m,hm,hr⟩:=zme hg
   have r0:topRun treeTable p w m0 ann (m+1) ⟨boot_heap w.params,yjr [],boot_drawn,boot_toks,os⟩ (topStub p)=some s.abs:=by
    rw[<- tree]
    exact hr 1 _ (by unfold topRun;rw[ht])
   have le':=yjp le
   have r3:=topRun_mono (N - (m+1)) _ _ _ _ r0
   rw[show m+1+(N - (m+1))=N by omega]at r3
   have t3:topFrom treeTable p w N ⟨boot_heap w.params,yjr [],boot_drawn,boot_toks,os⟩=some s.abs:=by
    unfold topFrom
    dsimp only
    rw[z1,z2,z3,r3]
    show(match staticsOk (importedModules p.main.body) (boot_heap w.params) s.abs.heap && namesBound p s.abs.heap && gensDone s.abs && laidKept (boot_heap w.params) s.abs.heap with | true=>_ | false=>_)=_
    rw[l1]
   unfold openEnds
   rw[e1]
   show(topFrom treeTable p w N _).map _=_
   rw[t3]
   exact congrArg some (Prod.ext l2 ((hy s y1 hz).trans r2))
def zgh(h:Heap):List Nat->Frag
 | []=>[]
 | a::r=>match h.get? a with
  | some o=>(a,o)::zgh h r
  | none=>zgh h r
theorem zi1(h:Heap):∀ l:List Nat,(zgh h l).In h
 | [],a,o,e=>by cases e
 | b::r,a,o,e=>by
  unfold zgh at e
  cases hb:h.get? b with
  | none=>rw[hb]at e;exact zi1 h r a o e
  | some ob =>
   rw[hb]at e
   simp only[yfe]at e
   split at e
   ·rename_i z
    have:a=b:=by simpa using z
    subst this
    cases e
    exact hb
   ·exact zi1 h r a o e
def fragT(s:SharedT):List Nat->Option Frag
 | []=>some []
 | a::r=>match Nat.blt a s.n with
  | true=>match s.tree.get a with
   | some o=>match alive o with
    | some o'=>match fragT s r with
     | some K=>some ((a,o')::K)
     | none=>none
    | none=>none
   | none=>none
  | false=>none
theorem zpg{s:SharedT}:∀{l:List Nat} {K:Frag},fragT s l=some K->zgh s.abs.heap l=K
 | [],K,h=>by cases h;rfl
 | a::r,K,h=>by
  unfold fragT at h
  cases hb:Nat.blt a s.n with
  | false=>rw[hb]at h;cases h
  | true =>
   rw[hb]at h
   cases hg:s.tree.get a with
   | none=>rw[hg]at h;cases h
   | some o =>
    rw[hg]at h
    cases ha:alive o with
    | none=>simp only[ha]at h;cases h
    | some o' =>
     simp only[ha]at h
     cases hr:fragT s r with
     | none=>rw[hr]at h;cases h
     | some K' =>
      rw[hr]at h
      cases h
      have z:s.abs.heap.get? a=some o':=(abs_get (yjp hb) hg).trans ha
      unfold zgh
      rw[z,zpg hr]
abbrev Fn:=ya2 × Bool × Bool × Bool
def blank(f:ya2):ya2:={ f with kwdefaults:=.none,doc:=.none,pyModule:=.none,annotations:=none,code:=.none,closureTuple:=.none }
def fnAt(K:Frag)(q:Str)(v:Option (Option Value)):Option Fn:=match v with
 | some (some (.ref f))=>match K.lookup f with
  | some ⟨_,_,.func fd,_⟩=>some (blank fd,codeIn K fd.code q,keepIn K (.ref f),isFn K (.ref f))
  | _=>none
 | _=>none
def fnDue(x q:Str)(st:Stmt):Option Fn:=some (fnOf x q (L2.zdq st) (L2.zck st) (L2.ze st) .none .none .none .none none .none .none,true,true,true)
theorem fn_of{K:Frag}{x q:Str}{st:Stmt}{v:Option (Option Value)}(h:fnAt K q v=fnDue x q st):∃ f,v=some (some (.ref f))/\isFn K (.ref f)=true/\Fx K x q st f:=by
 unfold fnAt at h
 split at h
 ·rename_i f
  split at h
  ·rename_i oc od fd osl hl
   have h:=ya1 h
   obtain⟨h1,h⟩:=ydm h
   obtain⟨h2,h⟩:=ydm h
   obtain⟨h3,h4⟩:=ydm h
   refine⟨f,rfl,h4,?_⟩
   obtain⟨a1,a2,a3,a4,a5,a6,a7,a8,a9,a10,a11,a12,a13,a14,a15⟩:=fd
   have z:FuncData.mk a1 a2 a3 a4 a5 a6 a7 a8 a9 a10 a11 a12 a13 a14 a15=fnOf x q (L2.zdq st) (L2.zck st) (L2.ze st) .none a9 a10 a11 a12 a13 a14:=by
    unfold blank fnOf at h1
    unfold fnOf
    injection h1 with e1 e2 e3 e4 e5 e6 e7 e8 e9 e10 e11 e12 e13 e14 e15
    subst e1 e2 e3 e4 e5 e6 e7 e8 e15
    rfl
   rw[z]at hl
   exact⟨oc,od,a9,a10,a11,a12,a13,a14,osl,hl,h2,h3⟩
  ·cases h
 ·cases h
def nm(K:Frag)(x:Str):Option (Option Value):=nsIn K ya8 x
def clsOf(K:Frag)(c:Str):Value:=match nm K c with
 | some (some v)=>v
 | _=>.none
def meth(K:Frag)(c x:Str):Option (Option Value):=findIn K (clsOf K c) x
def clsAt(K:Frag)(c:Str):Option (List Bool × Option (Option Value)):=match nm K c with
 | some (some (.ref C))=>some ([plainGet K C Str.empty,hasDictIn K C,plainOver K C,makesIn K C,keepIn K (.ref C)],findIn K (.ref C) "__setattr__")
 | _=>none
def zun:Option (List Bool × Option (Option Value)):=some ([true,true,true,true,true],some (some (.builtin "object.__setattr__")))
theorem zlq{K:Frag}{c:Str}(h:clsAt K c=zun):∃ C,Kx K c C:=by
 unfold clsAt at h
 split at h
 ·rename_i C e
  have h:=ya1 h
  obtain⟨h1,h2⟩:=ydm h
  injection h1 with a1 h1
  injection h1 with a2 h1
  injection h1 with a3 h1
  injection h1 with a4 h1
  injection h1 with a5 h1
  exact⟨C,e,a1,a2,a3,h2,a4,a5⟩
 ·cases h
def excAt(K:Frag)(c:Str):Bool:=match nm K c with
 | some (some (.ref C))=>excIn K C [.type "ValueError",.type "Exception",.type "BaseException",.type "object"] "ValueError.__new__"
 | _=>false
theorem zhj{K:Frag}{c:Str}(h:excAt K c=true):∃ C,Xx K c C:=by
 unfold excAt at h
 split at h
 ·rename_i C e
  exact⟨C,e,h⟩
 ·cases h
def exmAt(K:Frag)(x y:Str):Option Bool:=exmOne K (clsOf K x) (clsOf K y)
def numAt(K:Frag)(x:Str):Option Int:=match nm K x with
 | some (some (.int i _))=>some i
 | _=>none
theorem za7{K:Frag}{x:Str}{i:Int}(h:numAt K x=some i):Nx K x i:=by
 unfold numAt at h
 split at h
 ·rename_i j t e
  cases h
  exact⟨t,e⟩
 ·cases h
def numV:Value->Option Int
 | .int i _=>some i
 | _=>none
def tupAt(K:Frag)(x:Str):Option (Value × List (Option Int)):=match nm K x with
 | some (some (.ref R))=>match K.lookup R with
  | some ⟨c,_,.seq xs _,_⟩=>some (c,xs.toList.map numV)
  | _=>none
 | _=>none
theorem zlr{K:Frag}{c:Str}{C:Addr}(h:nsIn K ya8 c=some (some (.ref C))):clsOf K c = .ref C:=by
 unfold clsOf nm
 rw[h]
theorem zao{K:Frag}{x:Str}{st:Stmt}(h:fnAt K x (nm K x)=fnDue x x st):∃ f,Gx K x st f:=by
 obtain⟨f,e,_,z⟩:=fn_of h
 exact⟨f,e,z⟩
theorem zb4{K:Frag}{c x q:Str}{st:Stmt}{C:Addr}(hc:nsIn K ya8 c=some (some (.ref C)))(h:fnAt K q (meth K c x)=fnDue x q st):∃ f,Mx K C x q st f:=by
 obtain⟨f,e,i,z⟩:=fn_of h
 unfold meth at e
 rw[zlr hc]at e
 exact⟨f,e,i,z⟩
theorem zqw:∀{l:List Nat} {xs:List Value},xs.map numV=l.map (fun (i:Nat)=>some (i:Int))->L2.Vals (l.map nV) xs
 | [],[],_=>.nil
 | [],_::_,h=>by cases h
 | _::_,[],h=>by cases h
 | i::l,v::xs,h=>by
  injection h with h1 h2
  refine .cons ?_ (zqw h2)
  cases v<;>first | (cases h1;exact⟨_,rfl⟩) | cases h1
theorem zuo{K:Frag}{x:Str}{l:List Nat}(hl:l.length<=1000)(h:tupAt K x=some (.type "tuple",l.map fun (i:Nat)=>some (i:Int))) :
  ∃ R,nsIn K ya8 x=some (some (.ref R))/\∀ H,L2.SqT K H R (l.map nV):=by
 unfold tupAt at h
 split at h
 ·rename_i R e
  split at h
  ·rename_i c od xs n sl z
   obtain⟨h1,h2⟩:=ydm (ya1 h)
   have hs:xs.size=l.length:=by
    have:=congrArg yl5 h2
    simpa using this
   exact⟨R,e,fun H=>.inr ⟨_,xs,n,z,h1,rfl,by rw[hs];exact ycx (L2.zsp hl),zqw h2⟩⟩
  ·cases h
 ·cases h
def nth{α:Type}:List α->Nat->Option α
 | [],_=>none
 | a::_,0=>some a
 | _::l,n+1=>nth l n
theorem at_{α β:Type}{f g:α->β}:∀{l:List α} (_:l.map f=l.map g) (i:Nat) {a:α} (_:nth l i=some a),f a=g a
 | [],_,_,_,h=>by cases h
 | b::l,e,0,a,h=>by
  cases h
  injection e
 | b::l,e,n+1,a,h=>by
  injection e with _ e
  exact at_ e n h
theorem zfs{K:Frag}{c x:Str}{C:Addr}{r:Option (Option Value)}(hc:nsIn K ya8 c=some (some (.ref C)))(h:meth K c x=r):findIn K (.ref C) x=r:=by
 unfold meth at h
 rw[zlr hc]at h
 exact h
theorem zbd{K:Frag}{c d:Str}{C D:Addr}{r:Option Bool}(hc:nsIn K ya8 c=some (some (.ref C)))(hd:nsIn K ya8 d=some (some (.ref D)))(h:exmAt K c d=r):exmOne K (.ref C) (.ref D)=r:=by
 unfold exmAt at h
 rw[zlr hc,zlr hd]at h
 exact h
end My
namespace My
open PySem PySem.Spec PyProof.Rows L2
set_option maxHeartbeats 0 in
theorem all_mk{P:yav}{w:World}{K:yac}{h:Heap}{mg:Str->Option Value}{fa C0 C1 C2 C3 E0 E1 E2 E3 E4 E5 f0 f1 f2 f3 f4 f5 f6 f7 f8 f9 f10 f11 f12 f13 f14 f15 f16 f17 f18 f19 f20 f21 f22 f23 f24 f25 f26 f27 f28 f29 f30 f31 f32 f33 f34 f35 f36 f37 f38 f39 f40 f41 f42 f43 f44 f45 f46 f47 f48 f49 f50 f51 f52 f53 f54 f55 f56 f57 f58 f59 f60 f61 f62 f63 f64 f65 f66 R0 R1:Addr}(X:K.In h)(G:h.Ns ya8 mg)(hfa:mg "answers" = some (.ref fa))(hk0:Kx K "Machine" C0)(hk1:Kx K "Walk" C1)(hk2:Kx K "Registers" C2)(hk3:Kx K "Reader" C3)(hx0:Xx K "OutOfRange" E0)(hx1:Xx K "TooManySets" E1)(hx2:Xx K "TooManyStates" E2)(hx3:Xx K "TooManyRows" E3)(hx4:Xx K "NoRow" E4)(hx5:Xx K "NoEnd" E5)(h0:Mx K C0 "__init__" "Machine.__init__" zc7 f0)(h1:Mx K C1 "__init__" "Walk.__init__" zec f1)(h2:Mx K C1 "goes_on" "Walk.goes_on" zc8 f2)(h3:Mx K C1 "current" "Walk.current" zc9 f3)(h4:Mx K C1 "lead_on" "Walk.lead_on" zb7 f4)(h5:Mx K C1 "number_of" "Walk.number_of" zbs f5)(h6:Gx K "empty_machine" zcs f6)(h7:Gx K "least_machine" zam f7)(h8:Gx K "told_apart" zda f8)(h9:Gx K "led_to" zej f9)(h10:Gx K "numbered" zd6 f10)(h11:Gx K "count_of" zd7 f11)(h12:Gx K "joined_machine" zcd f12)(h13:Gx K "pairs_machine" zbm f13)(h14:Gx K "some_machine" zbg f14)(h15:Gx K "led_either_way" zbt f15)(h16:Gx K "ends_by_more_bits" zbb f16)(h17:Gx K "all_machine" zdn f17)(h18:Gx K "others_machine" zbu f18)(h19:Gx K "swapped_machine" zbo f19)(h20:Gx K "swapped_letter" zce f20)(h21:Gx K "letter_sums" zbr f21)(h22:Gx K "letter_sum" zdb f22)(h23:Gx K "equal_machine" zb1 f23)(h24:Gx K "due_after" zed f24)(h25:Gx K "at_most_machine" zbp f25)(h26:Gx K "rest_machine" zb8 f26)(h27:Gx K "row_in" ze3 f27)(h28:Gx K "lowest_letter" zbn f28)(h29:Gx K "least_row" zc1 f29)(h30:Gx K "least_from" zdc f30)(h31:Gx K "side_by_side" zb9 f31)(h32:Gx K "numbers_of" zdd f32)(h33:Gx K "place_of" zdi f33)(h34:Gx K "count_rows" zdy f34)(h35:Gx K "with_more_bits" zbv f35)(h36:Gx K "variables_hung_on" zbc f36)(h37:Gx K "hangs_on" zd8 f37)(h38:Gx K "with_bit_exchanged" zaz f38)(h39:Gx K "written_out" zdo f39)(h40:Gx K "check_within" zat f40)(h41:Gx K "check_registers" zab f41)(h42:Gx K "check_variables" za8 f42)(h43:Gx K "check_condition" zbq f43)(h44:Gx K "with_list" zb5 f44)(h45:Mx K C2 "__init__" "Registers.__init__" zcf f45)(h46:Mx K C2 "put" "Registers.put" zct f46)(h47:Mx K C2 "line" "Registers.line" zdj f47)(h48:Mx K C2 "rest" "Registers.rest" zdk f48)(h49:Mx K C2 "two" "Registers.two" zds f49)(h50:Mx K C2 "for_some" "Registers.for_some" zb3 f50)(h51:Mx K C2 "for_all" "Registers.for_all" zci f51)(h52:Mx K C2 "swap" "Registers.swap" zdl f52)(h53:Mx K C2 "has" "Registers.has" zdt f53)(h54:Mx K C2 "first" "Registers.first" zc3 f54)(h55:Mx K C2 "row_count" "Registers.row_count" zb2 f55)(h56:Mx K C2 "hangs" "Registers.hangs" zc4 f56)(h57:Mx K C2 "machine" "Registers.machine" zcj f57)(h58:Mx K C2 "within" "Registers.within" zcu f58)(h59:Mx K C3 "__init__" "Reader.__init__" zdp f59)(h60:Mx K C3 "goes_on" "Reader.goes_on" zcg f60)(h61:Mx K C3 "take" "Reader.take" zcl f61)(h62:Mx K C3 "take_many" "Reader.take_many" zbh f62)(h63:Gx K "called" zga f63)(h64:Gx K "asked" zg9 f64)(h65:Gx K "answer" ze4 f65)(h66:Gx K "answers" zcv f66)(a00:yb5 K (.ref C0) "ends" = some none)(a01:yb5 K (.ref C0) "leads" = some none)(a10:yb5 K (.ref C1) "met" = some none)(a11:yb5 K (.ref C1) "numbers" = some none)(a12:yb5 K (.ref C1) "leads" = some none)(a20:yb5 K (.ref C2) "machines" = some none)(a30:yb5 K (.ref C3) "calls" = some none)(a31:yb5 K (.ref C3) "place" = some none)(x00:yax K (.ref E0) (.ref E0)=some true)(x10:yax K (.ref E1) (.ref E0)=some false)(x11:yax K (.ref E1) (.ref E1)=some true)(x20:yax K (.ref E2) (.ref E0)=some false)(x21:yax K (.ref E2) (.ref E1)=some false)(x22:yax K (.ref E2) (.ref E2)=some true)(x30:yax K (.ref E3) (.ref E0)=some false)(x31:yax K (.ref E3) (.ref E1)=some false)(x32:yax K (.ref E3) (.ref E2)=some false)(x33:yax K (.ref E3) (.ref E3)=some true)(x40:yax K (.ref E4) (.ref E0)=some false)(x41:yax K (.ref E4) (.ref E1)=some false)(x42:yax K (.ref E4) (.ref E2)=some false)(x43:yax K (.ref E4) (.ref E3)=some false)(x44:yax K (.ref E4) (.ref E4)=some true)(x50:yax K (.ref E5) (.ref E0)=some false)(x51:yax K (.ref E5) (.ref E1)=some false)(x52:yax K (.ref E5) (.ref E2)=some false)(x53:yax K (.ref E5) (.ref E3)=some false)(x54:yax K (.ref E5) (.ref E4)=some false)(x55:yax K (.ref E5) (.ref E5)=some true)(v0:Nx K "VARIABLES" 4)(v1:Nx K "LETTERS" 16)(v2:Nx K "MOST_STATES" 24)(v3:Nx K "MOST_SETS" 200)(v4:Nx K "REGISTERS" 16)(v5:Nx K "MOST_FACTOR" 4)(v6:Nx K "MOST_B" 100)(v7:Nx K "MOST_REST" 8)(v8:Nx K "MOST_OP" 15)(v9:Nx K "IN_THE_FIRST_ALONE" 4)(v10:Nx K "MOST_ROWS" 9223372036854775807)(v11:Nx K "LINE" 0)(v12:Nx K "REST" 1)(v13:Nx K "TWO" 2)(v14:Nx K "SOME" 3)(v15:Nx K "ALL" 4)(v16:Nx K "SWAP" 5)(v17:Nx K "HAS" 6)(v18:Nx K "FIRST" 7)(v19:Nx K "COUNT" 8)(v20:Nx K "HANGS" 9)(v21:Nx K "MACHINE" 10)(z0:ycn K ya8 "len" = some none)(z1:ycn K ya8 "range" = some none)(z2:ycn K ya8 "tuple" = some none)(z3:ycn K ya8 "list" = some none)(z4:ycn K ya8 "max" = some none)(z5:ycn K ya8 "sum" = some none)(z6:ycn K ya8 "sorted" = some none)(z7:ycn K ya8 "set" = some none)(z8:ycn K ya8 "zip" = some none)(z9:ycn K ya8 "enumerate" = some none)(z10:ycn K ya8 "min" = some none)(z11:ycn K ya8 "any" = some none)(r0:ycn K ya8 "FIELDS" = some (some (.ref R0)))(q0:∀ H,SqT K H R0 ([3,3,4,3,3,4,1,1,1,1,1,2].map nV))(r1:ycn K ya8 "LISTS" = some (some (.ref R1)))(q1:∀ H,SqT K H R1 ([1,1,0,0,0,0,1,0,0,0,0,0].map nV))
  : ∃ fd:ya2,(∀(s:yah) (us:List Value),us.length=(["calls"]:List Str).length->BindsTo s fd ⟨us,[]⟩ ((["calls"]:List Str).zip us))/\∀ base:Heap,K.In base->base.Ns ya8 mg->FnOk P w K mg base CX0 20 fa fd ["calls"] (spAnswers K):=by
 have e:=hfa.symm.trans (ycq X G h66.n)
 cases e
 have B:TB mg:=⟨ych X G z0,ych X G z1,ych X G z2,ych X G z3,ych X G z4,ych X G z5,ych X G z6,ych X G z7,ych X G z8,ych X G z9⟩
 have B2:TB2 mg:=⟨ych X G z10,ych X G z11⟩
 have N:TN mg:=⟨v0.gl X G,v1.gl X G,v2.gl X G,v3.gl X G⟩
 have R:TR mg:=⟨v4.gl X G,v5.gl X G,v6.gl X G,v7.gl X G,v8.gl X G⟩
 have TCc:TC mg:=⟨v11.gl X G,v12.gl X G,v13.gl X G,v14.gl X G,v15.gl X G,v16.gl X G,v17.gl X G,v18.gl X G,v19.gl X G,v20.gl X G,v21.gl X G⟩
 obtain⟨d0,F0,b0⟩:=h0.h.mk (ps:=["self","ends","leads"]) fun _ _ _ _ _ _ us hl=>match us,hl with | [_,_,_],_=>rfl
 have m0:=Fx.meth h0
 obtain⟨d1,F1,b1⟩:=h1.h.mk (ps:=["self","start"]) fun _ _ _ _ _ _ us hl=>match us,hl with | [_,_],_=>rfl
 have m1:=Fx.meth h1
 obtain⟨d2,F2,b2⟩:=h2.h.mk (ps:=["self"]) fun _ _ _ _ _ _ us hl=>match us,hl with | [_],_=>rfl
 have m2:=Fx.meth h2
 obtain⟨d3,F3,b3⟩:=h3.h.mk (ps:=["self"]) fun _ _ _ _ _ _ us hl=>match us,hl with | [_],_=>rfl
 have m3:=Fx.meth h3
 obtain⟨d4,F4,b4⟩:=h4.h.mk (ps:=["self","states"]) fun _ _ _ _ _ _ us hl=>match us,hl with | [_,_],_=>rfl
 have m4:=Fx.meth h4
 obtain⟨d5,F5,b5⟩:=h5.h.mk (ps:=["self","state"]) fun _ _ _ _ _ _ us hl=>match us,hl with | [_,_],_=>rfl
 have m5:=Fx.meth h5
 obtain⟨d6,G6⟩:=h6.gf X G (ps:=[]) fun _ _ _ _ _ _ us hl=>match us,hl with | [],_=>rfl
 obtain⟨d7,G7⟩:=h7.gf X G (ps:=["ends","leads"]) fun _ _ _ _ _ _ us hl=>match us,hl with | [_,_],_=>rfl
 obtain⟨d8,G8⟩:=h8.gf X G (ps:=["ends","leads"]) fun _ _ _ _ _ _ us hl=>match us,hl with | [_,_],_=>rfl
 obtain⟨d9,G9⟩:=h9.gf X G (ps:=["classes","states"]) fun _ _ _ _ _ _ us hl=>match us,hl with | [_,_],_=>rfl
 obtain⟨d10,G10⟩:=h10.gf X G (ps:=["signs"]) fun _ _ _ _ _ _ us hl=>match us,hl with | [_],_=>rfl
 obtain⟨d11,G11⟩:=h11.gf X G (ps:=["classes"]) fun _ _ _ _ _ _ us hl=>match us,hl with | [_],_=>rfl
 obtain⟨d12,G12⟩:=h12.gf X G (ps:=["op","one","other"]) fun _ _ _ _ _ _ us hl=>match us,hl with | [_,_,_],_=>rfl
 obtain⟨d13,G13⟩:=h13.gf X G (ps:=["op","one","other"]) fun _ _ _ _ _ _ us hl=>match us,hl with | [_,_,_],_=>rfl
 obtain⟨d14,G14⟩:=h14.gf X G (ps:=["machine","v"]) fun _ _ _ _ _ _ us hl=>match us,hl with | [_,_],_=>rfl
 obtain⟨d15,G15⟩:=h15.gf X G (ps:=["machine","states","letter","bit"]) fun _ _ _ _ _ _ us hl=>match us,hl with | [_,_,_,_],_=>rfl
 obtain⟨d16,G16⟩:=h16.gf X G (ps:=["machine","bit"]) fun _ _ _ _ _ _ us hl=>match us,hl with | [_,_],_=>rfl
 obtain⟨d17,G17⟩:=h17.gf X G (ps:=["machine","v"]) fun _ _ _ _ _ _ us hl=>match us,hl with | [_,_],_=>rfl
 obtain⟨d18,G18⟩:=h18.gf X G (ps:=["machine"]) fun _ _ _ _ _ _ us hl=>match us,hl with | [_],_=>rfl
 obtain⟨d19,G19⟩:=h19.gf X G (ps:=["machine","v","w"]) fun _ _ _ _ _ _ us hl=>match us,hl with | [_,_,_],_=>rfl
 obtain⟨d20,G20⟩:=h20.gf X G (ps:=["letter","v","w"]) fun _ _ _ _ _ _ us hl=>match us,hl with | [_,_,_],_=>rfl
 obtain⟨d21,G21⟩:=h21.gf X G (ps:=["factors"]) fun _ _ _ _ _ _ us hl=>match us,hl with | [_],_=>rfl
 obtain⟨d22,G22⟩:=h22.gf X G (ps:=["factors","letter"]) fun _ _ _ _ _ _ us hl=>match us,hl with | [_,_],_=>rfl
 obtain⟨d23,G23⟩:=h23.gf X G (ps:=["b","factors"]) fun _ _ _ _ _ _ us hl=>match us,hl with | [_,_],_=>rfl
 obtain⟨d24,G24⟩:=h24.gf X G (ps:=["due","part"]) fun _ _ _ _ _ _ us hl=>match us,hl with | [_,_],_=>rfl
 obtain⟨d25,G25⟩:=h25.gf X G (ps:=["b","factors"]) fun _ _ _ _ _ _ us hl=>match us,hl with | [_,_],_=>rfl
 obtain⟨d26,G26⟩:=h26.gf X G (ps:=["m","b","factors"]) fun _ _ _ _ _ _ us hl=>match us,hl with | [_,_,_],_=>rfl
 obtain⟨d27,G27⟩:=h27.gf X G (ps:=["machine","row"]) fun _ _ _ _ _ _ us hl=>match us,hl with | [_,_],_=>rfl
 obtain⟨d28,G28⟩:=h28.gf X G (ps:=["numbers"]) fun _ _ _ _ _ _ us hl=>match us,hl with | [_],_=>rfl
 obtain⟨d29,G29⟩:=h29.gf X G (ps:=["machine"]) fun _ _ _ _ _ _ us hl=>match us,hl with | [_],_=>rfl
 obtain⟨d30,G30⟩:=h30.gf X G (ps:=["known","rows","leads","worths"]) fun _ _ _ _ _ _ us hl=>match us,hl with | [_,_,_,_],_=>rfl
 obtain⟨d31,G31⟩:=h31.gf X G (ps:=["letter","bits"]) fun _ _ _ _ _ _ us hl=>match us,hl with | [_,_],_=>rfl
 obtain⟨d32,G32⟩:=h32.gf X G (ps:=["row","bits"]) fun _ _ _ _ _ _ us hl=>match us,hl with | [_,_],_=>rfl
 obtain⟨d33,G33⟩:=h33.gf X G (ps:=["v","bits"]) fun _ _ _ _ _ _ us hl=>match us,hl with | [_,_],_=>rfl
 obtain⟨d34,G34⟩:=h34.gf X G (ps:=["machine"]) fun _ _ _ _ _ _ us hl=>match us,hl with | [_],_=>rfl
 obtain⟨d35,G35⟩:=h35.gf X G (ps:=["machine","counts"]) fun _ _ _ _ _ _ us hl=>match us,hl with | [_,_],_=>rfl
 obtain⟨d36,G36⟩:=h36.gf X G (ps:=["machine"]) fun _ _ _ _ _ _ us hl=>match us,hl with | [_],_=>rfl
 obtain⟨d37,G37⟩:=h37.gf X G (ps:=["machine","v"]) fun _ _ _ _ _ _ us hl=>match us,hl with | [_,_],_=>rfl
 obtain⟨d38,G38⟩:=h38.gf X G (ps:=["row","bit"]) fun _ _ _ _ _ _ us hl=>match us,hl with | [_,_],_=>rfl
 obtain⟨d39,G39⟩:=h39.gf X G (ps:=["machine"]) fun _ _ _ _ _ _ us hl=>match us,hl with | [_],_=>rfl
 obtain⟨d40,G40⟩:=h40.gf X G (ps:=["number","least","most"]) fun _ _ _ _ _ _ us hl=>match us,hl with | [_,_,_],_=>rfl
 obtain⟨d41,G41⟩:=h41.gf X G (ps:=["numbers"]) fun _ _ _ _ _ _ us hl=>match us,hl with | [_],_=>rfl
 obtain⟨d42,G42⟩:=h42.gf X G (ps:=["numbers"]) fun _ _ _ _ _ _ us hl=>match us,hl with | [_],_=>rfl
 obtain⟨d43,G43⟩:=h43.gf X G (ps:=["b","factors"]) fun _ _ _ _ _ _ us hl=>match us,hl with | [_,_],_=>rfl
 obtain⟨d44,G44⟩:=h44.gf X G (ps:=["number","numbers"]) fun _ _ _ _ _ _ us hl=>match us,hl with | [_,_],_=>rfl
 obtain⟨d45,F45,b45⟩:=h45.h.mk (ps:=["self"]) fun _ _ _ _ _ _ us hl=>match us,hl with | [_],_=>rfl
 have m45:=Fx.meth h45
 obtain⟨d46,F46,b46⟩:=h46.h.mk (ps:=["self","r","machine"]) fun _ _ _ _ _ _ us hl=>match us,hl with | [_,_,_],_=>rfl
 have m46:=Fx.meth h46
 obtain⟨d47,F47,b47⟩:=h47.h.mk (ps:=["self","r","k","b","factors"]) fun _ _ _ _ _ _ us hl=>match us,hl with | [_,_,_,_,_],_=>rfl
 have m47:=Fx.meth h47
 obtain⟨d48,F48,b48⟩:=h48.h.mk (ps:=["self","r","m","b","factors"]) fun _ _ _ _ _ _ us hl=>match us,hl with | [_,_,_,_,_],_=>rfl
 have m48:=Fx.meth h48
 obtain⟨d49,F49,b49⟩:=h49.h.mk (ps:=["self","r","op","a","b"]) fun _ _ _ _ _ _ us hl=>match us,hl with | [_,_,_,_,_],_=>rfl
 have m49:=Fx.meth h49
 obtain⟨d50,F50,b50⟩:=h50.h.mk (ps:=["self","r","a","v"]) fun _ _ _ _ _ _ us hl=>match us,hl with | [_,_,_,_],_=>rfl
 have m50:=Fx.meth h50
 obtain⟨d51,F51,b51⟩:=h51.h.mk (ps:=["self","r","a","v"]) fun _ _ _ _ _ _ us hl=>match us,hl with | [_,_,_,_],_=>rfl
 have m51:=Fx.meth h51
 obtain⟨d52,F52,b52⟩:=h52.h.mk (ps:=["self","r","a","v","w"]) fun _ _ _ _ _ _ us hl=>match us,hl with | [_,_,_,_,_],_=>rfl
 have m52:=Fx.meth h52
 obtain⟨d53,F53,b53⟩:=h53.h.mk (ps:=["self","a","row"]) fun _ _ _ _ _ _ us hl=>match us,hl with | [_,_,_],_=>rfl
 have m53:=Fx.meth h53
 obtain⟨d54,F54,b54⟩:=h54.h.mk (ps:=["self","a"]) fun _ _ _ _ _ _ us hl=>match us,hl with | [_,_],_=>rfl
 have m54:=Fx.meth h54
 obtain⟨d55,F55,b55⟩:=h55.h.mk (ps:=["self","a"]) fun _ _ _ _ _ _ us hl=>match us,hl with | [_,_],_=>rfl
 have m55:=Fx.meth h55
 obtain⟨d56,F56,b56⟩:=h56.h.mk (ps:=["self","a"]) fun _ _ _ _ _ _ us hl=>match us,hl with | [_,_],_=>rfl
 have m56:=Fx.meth h56
 obtain⟨d57,F57,b57⟩:=h57.h.mk (ps:=["self","a"]) fun _ _ _ _ _ _ us hl=>match us,hl with | [_,_],_=>rfl
 have m57:=Fx.meth h57
 obtain⟨d58,F58,b58⟩:=h58.h.mk (ps:=["self","a","b"]) fun _ _ _ _ _ _ us hl=>match us,hl with | [_,_,_],_=>rfl
 have m58:=Fx.meth h58
 obtain⟨d59,F59,b59⟩:=h59.h.mk (ps:=["self","calls"]) fun _ _ _ _ _ _ us hl=>match us,hl with | [_,_],_=>rfl
 have m59:=Fx.meth h59
 obtain⟨d60,F60,b60⟩:=h60.h.mk (ps:=["self"]) fun _ _ _ _ _ _ us hl=>match us,hl with | [_],_=>rfl
 have m60:=Fx.meth h60
 obtain⟨d61,F61,b61⟩:=h61.h.mk (ps:=["self"]) fun _ _ _ _ _ _ us hl=>match us,hl with | [_],_=>rfl
 have m61:=Fx.meth h61
 obtain⟨d62,F62,b62⟩:=h62.h.mk (ps:=["self","many"]) fun _ _ _ _ _ _ us hl=>match us,hl with | [_,_],_=>rfl
 have m62:=Fx.meth h62
 obtain⟨d63,G63⟩:=h63.gf X G (ps:=["registers","call","f","lists"]) fun _ _ _ _ _ _ us hl=>match us,hl with | [_,_,_,_],_=>rfl
 obtain⟨d64,G64⟩:=h64.gf X G (ps:=["registers","call","f","lists"]) fun _ _ _ _ _ _ us hl=>match us,hl with | [_,_,_,_],_=>rfl
 obtain⟨d65,G65⟩:=h65.gf X G (ps:=["registers","reader"]) fun _ _ _ _ _ _ us hl=>match us,hl with | [_,_],_=>rfl
 have cl0:Cls K C0:=⟨hk0.pg,hk0.hd,hk0.po,hk0.sa⟩
 have mk0:Mk K C0 f0:=⟨hk0.mq,h0.n,h0.i,hk0.kc⟩
 have cl1:Cls K C1:=⟨hk1.pg,hk1.hd,hk1.po,hk1.sa⟩
 have mk1:Mk K C1 f1:=⟨hk1.mq,h1.n,h1.i,hk1.kc⟩
 have cl2:Cls K C2:=⟨hk2.pg,hk2.hd,hk2.po,hk2.sa⟩
 have mk2:Mk K C2 f45:=⟨hk2.mq,h45.n,h45.i,hk2.kc⟩
 have cl3:Cls K C3:=⟨hk3.pg,hk3.hd,hk3.po,hk3.sa⟩
 have mk3:Mk K C3 f59:=⟨hk3.mq,h59.n,h59.i,hk3.kc⟩
 have X0:=hx0.exc X G
 have X1:=hx1.exc X G
 have X2:=hx2.exc X G
 have X3:=hx3.exc X G
 have X4:=hx4.exc X G
 have X5:=hx5.exc X G
 have TXx:TX K mg E0 E1 E2 E3 E4 E5:=⟨ycq X G hx0.n,ycq X G hx1.n,ycq X G hx2.n,ycq X G hx3.n,ycq X G hx4.n,ycq X G hx5.n,x00,x10,x11,x20,x21,x22,x30,x31,x32,x33,x40,x41,x42,x43,x44,x50,x51,x52,x53,x54,x55⟩
 have TMm:TM K mg C0:=⟨cl0,a00,a01,ycq X G hk0.n⟩
 have MI:MkM K mg C0 f0 _:=⟨TMm,mk0,F0,b0⟩
 have TWw:TW K mg C1:=⟨cl1,a10,a11,a12⟩
 have W:MkW K mg C1 f1 f2 f3 f4 f5 _ _ _ _ _:=⟨TWw,ycq X G hk1.n,mk1,F1,b1,F2,b2,m2,F3,b3,m3,F4,b4,m4,F5,b5,m5⟩
 have TGg:TG' K C2:=⟨cl2,a20⟩
 have MP:MkP K C2 f46 _:=⟨TGg,F46,b46,m46⟩
 have MR:MkR K mg C2 f45 _:=⟨TGg,ycq X G hk2.n,mk2,b45⟩
 have TDd:TD K C3:=⟨cl3,a30,a31⟩
 have MD:MkD K mg C3 f59 f60 _ _:=⟨TDd,ycq X G hk3.n,mk3,F59,b59,F60,b60,m60⟩
 have MT:MkT K C3 f61 f62 _ _:=⟨TDd,F61,b61,m61,F62,b62,m62⟩
 have TFf:TF K mg [3,3,4,3,3,4,1,1,1,1,1,2] [1,1,0,0,0,0,1,0,0,0,0,0]:=⟨⟨_,ycq X G r0,q0⟩,⟨_,ycq X G r1,q1⟩,zsb⟩
 obtain⟨_,_,kV,doc,pm,an,cdv,ct,_,la,ca,ka⟩:=h66.h
 have FA:=zn0 (st:=zcv) la ca ka
 refine⟨yeo "answers" "answers" (zdq zcv) (zck zcv) (ze zcv) .none kV doc pm an cdv ct,fun s us hu=>match us,hu with | [_],_=>.of_eq rfl,fun base _ _=>?_⟩
 have NT:=zye (P:=P) (w:=w) (base:=base) G8.F B G10 G9 G11 X2 _ (v2.gl X G).choose_spec
 have NM:=zv5 (P:=P) (w:=w) (base:=base) G7.F B G8 G9 G11 NT MI
 have NLS:=zv7 (P:=P) (w:=w) (base:=base) G21.F B N G22
 have NE:=z00 (P:=P) (w:=w) (base:=base) G23.F B G21 G24 G7 NLS NM W
 have NA:=zyh (P:=P) (w:=w) (base:=base) G25.F B G21 G7 NLS NM W
 have NR:=zyi (P:=P) (w:=w) (base:=base) G26.F B G21 G7 NLS NM W
 have NSw:=z01 (P:=P) (w:=w) (base:=base) G19.F B N TMm G20 G7 NM W
 have NJ:=z03 (P:=P) (w:=w) (base:=base) G12.F B MI G13 G7 NM W
 have NPm:=zwu (P:=P) (w:=w) (base:=base) G13.F B MI W
 have NSo:=zyo (P:=P) (w:=w) (base:=base) G14.F B N TMm G15 G16 X1 G7 NM W
 have NAl:=ok_all (P:=P) (w:=w) (base:=base) G17.F B MI G18 G14 NSo
 have Ncw:=znl (P:=P) (w:=w) (base:=base) G40.F X0
 have Ncr:=z06 (P:=P) (w:=w) (base:=base) G41.F R G40 X0
 have Ncv:=z07 (P:=P) (w:=w) (base:=base) G42.F N G40 X0
 have Ncc:=z08 (P:=P) (w:=w) (base:=base) G43.F B N R G40 X0
 have N0:=zyu (P:=P) (w:=w) (base:=base) (CT:=E1) F47 B TMm MP G41 Ncr G40 Ncw G43 Ncc G23 NE G25 NA
 have N1:=z0i (P:=P) (w:=w) (base:=base) (CT:=E1) F48 B TMm R MP G41 Ncr G40 Ncw G43 Ncc G26 NR
 have N2:=z0k (P:=P) (w:=w) (base:=base) (CT:=E1) F49 B TMm R MP G41 Ncr G40 Ncw G12 NJ
 have N3:=z1c (P:=P) (w:=w) (base:=base) F50 B TMm MP G41 Ncr G42 Ncv G14 NSo
 have N4:=z1e (P:=P) (w:=w) (base:=base) F51 B TMm MP G41 Ncr G42 Ncv G17 NAl
 have N5:=z0m (P:=P) (w:=w) (base:=base) (CT:=E1) F52 B TMm MP G41 Ncr G42 Ncv G19 NSw
 have Nlr:=z1s (P:=P) (w:=w) (base:=base) G29.F B B2 N TMm G31 G33 G30 G32
 have Nvh:=z1w (P:=P) (w:=w) (base:=base) G36.F B B2 N TMm G37 G38
 have Ncn:=z0s (P:=P) (w:=w) (base:=base) G34.F B TMm G35 X5 X3 (v10.gl X G)
 have N6:=z0u (P:=P) (w:=w) (base:=base) F53 B N TMm TGg G41 Ncr G40 Ncw G27 G28
 have N7:=z1z (P:=P) (w:=w) (base:=base) F54 B TGg G41 Ncr X4 G29 Nlr G44
 have N8:=z13 (P:=P) (w:=w) (base:=base) F55 TGg G41 Ncr G34 Ncn
 have N9:=z14 (P:=P) (w:=w) (base:=base) F56 B TGg G41 Ncr G36 Nvh G44
 have N10:=z16 (P:=P) (w:=w) (base:=base) F57 B TMm TGg G41 Ncr G39 G44
 have N11:=z17 (P:=P) (w:=w) (base:=base) F58 B TGg (v9.gl X G) G41 Ncr G13 NPm G29 Nlr G44
 have Nas:=z19 (P:=P) (w:=w) (base:=base) (CS:=E2) (CT:=E1) G64.F TCc TGg ⟨m53,b53⟩ N6 ⟨m54,b54⟩ N7 ⟨m55,b55⟩ N8 ⟨m56,b56⟩ N9 ⟨m57,b57⟩ N10 ⟨m58,b58⟩ N11
 have Nca:=z2b (P:=P) (w:=w) (base:=base) G63.F TCc TGg G64 Nas ⟨m47,b47⟩ N0 ⟨m48,b48⟩ N1 ⟨m49,b49⟩ N2 ⟨m50,b50⟩ N3 ⟨m51,b51⟩ N4 ⟨m52,b52⟩ N5
 have Nri:=z1a (P:=P) (w:=w) (base:=base) F45 TGg B N R MI G6
 have Nan:=z1l (P:=P) (w:=w) (base:=base) zy2 (by decide) G65.F B TFf TXx MT G63 Nca
 exact(zr4 (P:=P) (w:=w) (base:=base) (by decide) FA B G65 Nan MR Nri MD).mono (by decide)
noncomputable def tabG:List (Str × Stmt):=("empty_machine",zcs)::("least_machine",zam)::("told_apart",zda)::("led_to",zej)::("numbered",zd6)::("count_of",zd7)::("joined_machine",zcd)::("pairs_machine",zbm)::("some_machine",zbg)::("led_either_way",zbt)::("ends_by_more_bits",zbb)::("all_machine",zdn)::("others_machine",zbu)::("swapped_machine",zbo)::("swapped_letter",zce)::("letter_sums",zbr)::("letter_sum",zdb)::("equal_machine",zb1)::("due_after",zed)::("at_most_machine",zbp)::("rest_machine",zb8)::("row_in",ze3)::("lowest_letter",zbn)::("least_row",zc1)::("least_from",zdc)::("side_by_side",zb9)::("numbers_of",zdd)::("place_of",zdi)::("count_rows",zdy)::("with_more_bits",zbv)::("variables_hung_on",zbc)::("hangs_on",zd8)::("with_bit_exchanged",zaz)::("written_out",zdo)::("check_within",zat)::("check_registers",zab)::("check_variables",za8)::("check_condition",zbq)::("with_list",zb5)::("called",zga)::("asked",zg9)::("answer",ze4)::("answers",zcv)::[]
noncomputable def tabM:List (Str × Str × Str × Stmt):=("Machine","__init__","Machine.__init__",zc7)::("Walk","__init__","Walk.__init__",zec)::("Walk","goes_on","Walk.goes_on",zc8)::("Walk","current","Walk.current",zc9)::("Walk","lead_on","Walk.lead_on",zb7)::("Walk","number_of","Walk.number_of",zbs)::("Registers","__init__","Registers.__init__",zcf)::("Registers","put","Registers.put",zct)::("Registers","line","Registers.line",zdj)::("Registers","rest","Registers.rest",zdk)::("Registers","two","Registers.two",zds)::("Registers","for_some","Registers.for_some",zb3)::("Registers","for_all","Registers.for_all",zci)::("Registers","swap","Registers.swap",zdl)::("Registers","has","Registers.has",zdt)::("Registers","first","Registers.first",zc3)::("Registers","row_count","Registers.row_count",zb2)::("Registers","hangs","Registers.hangs",zc4)::("Registers","machine","Registers.machine",zcj)::("Registers","within","Registers.within",zcu)::("Reader","__init__","Reader.__init__",zdp)::("Reader","goes_on","Reader.goes_on",zcg)::("Reader","take","Reader.take",zcl)::("Reader","take_many","Reader.take_many",zbh)::[]
noncomputable def tabC:List Str := "Machine" :: "Walk" :: "Registers" :: "Reader" :: []
noncomputable def tabE:List Str := "OutOfRange" :: "TooManySets" :: "TooManyStates" :: "TooManyRows" :: "NoRow" :: "NoEnd" :: []
noncomputable def tabX:List (Str × Str × Bool):=("OutOfRange","OutOfRange",true)::("TooManySets","OutOfRange",false)::("TooManySets","TooManySets",true)::("TooManyStates","OutOfRange",false)::("TooManyStates","TooManySets",false)::("TooManyStates","TooManyStates",true)::("TooManyRows","OutOfRange",false)::("TooManyRows","TooManySets",false)::("TooManyRows","TooManyStates",false)::("TooManyRows","TooManyRows",true)::("NoRow","OutOfRange",false)::("NoRow","TooManySets",false)::("NoRow","TooManyStates",false)::("NoRow","TooManyRows",false)::("NoRow","NoRow",true)::("NoEnd","OutOfRange",false)::("NoEnd","TooManySets",false)::("NoEnd","TooManyStates",false)::("NoEnd","TooManyRows",false)::("NoEnd","NoRow",false)::("NoEnd","NoEnd",true)::[]
noncomputable def tabA:List (Str × Str):=("Machine","ends")::("Machine","leads")::("Walk","met")::("Walk","numbers")::("Walk","leads")::("Registers","machines")::("Reader","calls")::("Reader","place")::[]
noncomputable def tabN:List (Str × Int):=("VARIABLES",4)::("LETTERS",16)::("MOST_STATES",24)::("MOST_SETS",200)::("REGISTERS",16)::("MOST_FACTOR",4)::("MOST_B",100)::("MOST_REST",8)::("MOST_OP",15)::("IN_THE_FIRST_ALONE",4)::("MOST_ROWS",9223372036854775807)::("LINE",0)::("REST",1)::("TWO",2)::("SOME",3)::("ALL",4)::("SWAP",5)::("HAS",6)::("FIRST",7)::("COUNT",8)::("HANGS",9)::("MACHINE",10)::[]
noncomputable def tabB:List Str := "len" :: "range" :: "tuple" :: "list" :: "max" :: "sum" :: "sorted" :: "set" :: "zip" :: "enumerate" :: "min" :: "any" :: []
noncomputable def tabR:List (Str × List Nat):=("FIELDS",[3,3,4,3,3,4,1,1,1,1,1,2])::("LISTS",[1,1,0,0,0,0,1,0,0,0,0,0])::[]
noncomputable def loose:List Str := "OutOfRange" :: "TooManySets" :: "TooManyStates" :: "TooManyRows" :: "NoRow" :: "NoEnd" :: "Machine" :: "Walk" :: "Registers" :: "Reader" :: "VARIABLES" :: "LETTERS" :: "MOST_STATES" :: "MOST_SETS" :: "REGISTERS" :: "MOST_FACTOR" :: "MOST_B" :: "MOST_REST" :: "MOST_OP" :: "IN_THE_FIRST_ALONE" :: "MOST_ROWS" :: "LINE" :: "REST" :: "TWO" :: "SOME" :: "ALL" :: "SWAP" :: "HAS" :: "FIRST" :: "COUNT" :: "HANGS" :: "MACHINE" :: "FIELDS" :: "LISTS" :: "empty_machine" :: "least_machine" :: "told_apart" :: "led_to" :: "numbered" :: "count_of" :: "joined_machine" :: "pairs_machine" :: "some_machine" :: "led_either_way" :: "ends_by_more_bits" :: "all_machine" :: "others_machine" :: "swapped_machine" :: "swapped_letter" :: "letter_sums" :: "letter_sum" :: "equal_machine" :: "due_after" :: "at_most_machine" :: "rest_machine" :: "row_in" :: "lowest_letter" :: "least_row" :: "least_from" :: "side_by_side" :: "numbers_of" :: "place_of" :: "count_rows" :: "with_more_bits" :: "variables_hung_on" :: "hangs_on" :: "with_bit_exchanged" :: "written_out" :: "check_within" :: "check_registers" :: "check_variables" :: "check_condition" :: "with_list" :: "called" :: "asked" :: "answer" :: []
abbrev Obs:=List (Option Fn) × List (Option Fn) × List (Option (List Bool × Option (Option Value))) × List Bool × List (Option Bool) × List (Option (Option Value)) × List (Option Int) × List (Option (Option Value)) × List (Option (Value × List (Option Int)))
def obsK(K:yac):Obs:=(tabG.map fun t=>fnAt K t.1 (nm K t.1),tabM.map fun t=>fnAt K t.2.2.1 (meth K t.1 t.2.1),tabC.map fun c=>clsAt K c,tabE.map fun c=>excAt K c,tabX.map fun t=>exmAt K t.1 t.2.1,tabA.map fun t=>meth K t.1 t.2,tabN.map fun t=>numAt K t.1,tabB.map fun c=>nm K c,tabR.map fun t=>tupAt K t.1)
def val:Obs:=(tabG.map fun t=>fnDue t.1 t.1 t.2,tabM.map fun t=>fnDue t.2.1 t.2.2.1 t.2.2.2,tabC.map fun _=>zun,tabE.map fun _=>true,tabX.map fun t=>some t.2.2,tabA.map fun _=>some none,tabN.map fun t=>some t.2,tabB.map fun _=>some none,tabR.map fun t=>some (.type "tuple",t.2.map fun (i:Nat)=>some (i:Int)))
noncomputable def qv:yav:={ PySem.Challenge.pw_leastmachines_s01_answers with main:={ PySem.Challenge.pw_leastmachines_s01_answers.main with body:=[zcv] } }
def xt(s:yah):Bool:=PySem.W.xlAt qv [] s && PySem.W.recOk [] s
noncomputable def adr:List Nat:=3::349::350::([24,37,50,63,76,89,106,109,127,134,141,146,153,156,167,172,177,182,187,194,201,206,211,216,221,228,233,238,245,250,255,260,267,272,277,282,287,292,297,302,307,314,321,326,331,336,341,348,357,364,371,378,385,397,404,411,418,425,432,439,446,453,460,467,474,481,488,491,509,516,523,528,531,542,549,554,561]:List Nat).flatMap fun a=>[a,a - 1]
def yf(s:yah):Obs:=obsK (zgh s.heap adr)
def yT(s:ymi):Option Obs:=(fragT s adr).map obsK
theorem z2c(s:ymi)(y:Obs)(h:yT s=some y):yf s.abs=y:=by
 obtain⟨K,h1,h2⟩:=yfc.mp h
 exact(congrArg obsK (zpg h1)).trans h2
def tree0(P:Params):PySem.W.BT:=mkT (yft P).objs.toList 10 1 0
def life0(P:Params):Life:=(yft P).life
set_option maxHeartbeats 0 in
theorem z0v{P:yav}{w:World}{K:yac}{h:Heap}{mg:Str->Option Value}{fa:Addr}(e:obsK K=val)(X:K.In h)(G:h.Ns ya8 mg)(hfa:mg "answers" = some (.ref fa))
  : ∃ fd:ya2,(∀(s:yah) (us:List Value),us.length=(["calls"]:List Str).length->BindsTo s fd ⟨us,[]⟩ ((["calls"]:List Str).zip us))/\∀ base:Heap,K.In base->base.Ns ya8 mg->FnOk P w K mg base CX0 20 fa fd ["calls"] (spAnswers K):=by
 obtain⟨eG,e⟩:=ydm e
 obtain⟨eM,e⟩:=ydm e
 obtain⟨eC,e⟩:=ydm e
 obtain⟨eE,e⟩:=ydm e
 obtain⟨eX,e⟩:=ydm e
 obtain⟨eA,e⟩:=ydm e
 obtain⟨eN,e⟩:=ydm e
 obtain⟨eB,e⟩:=ydm e
 obtain⟨_,hk0⟩:=zlq (at_ eC 0 rfl)
 obtain⟨_,hk1⟩:=zlq (at_ eC 1 rfl)
 obtain⟨_,hk2⟩:=zlq (at_ eC 2 rfl)
 obtain⟨_,hk3⟩:=zlq (at_ eC 3 rfl)
 obtain⟨_,hx0⟩:=zhj (at_ eE 0 rfl)
 obtain⟨_,hx1⟩:=zhj (at_ eE 1 rfl)
 obtain⟨_,hx2⟩:=zhj (at_ eE 2 rfl)
 obtain⟨_,hx3⟩:=zhj (at_ eE 3 rfl)
 obtain⟨_,hx4⟩:=zhj (at_ eE 4 rfl)
 obtain⟨_,hx5⟩:=zhj (at_ eE 5 rfl)
 obtain⟨_,h6⟩:=zao (at_ eG 0 rfl)
 obtain⟨_,h7⟩:=zao (at_ eG 1 rfl)
 obtain⟨_,h8⟩:=zao (at_ eG 2 rfl)
 obtain⟨_,h9⟩:=zao (at_ eG 3 rfl)
 obtain⟨_,h10⟩:=zao (at_ eG 4 rfl)
 obtain⟨_,h11⟩:=zao (at_ eG 5 rfl)
 obtain⟨_,h12⟩:=zao (at_ eG 6 rfl)
 obtain⟨_,h13⟩:=zao (at_ eG 7 rfl)
 obtain⟨_,h14⟩:=zao (at_ eG 8 rfl)
 obtain⟨_,h15⟩:=zao (at_ eG 9 rfl)
 obtain⟨_,h16⟩:=zao (at_ eG 10 rfl)
 obtain⟨_,h17⟩:=zao (at_ eG 11 rfl)
 obtain⟨_,h18⟩:=zao (at_ eG 12 rfl)
 obtain⟨_,h19⟩:=zao (at_ eG 13 rfl)
 obtain⟨_,h20⟩:=zao (at_ eG 14 rfl)
 obtain⟨_,h21⟩:=zao (at_ eG 15 rfl)
 obtain⟨_,h22⟩:=zao (at_ eG 16 rfl)
 obtain⟨_,h23⟩:=zao (at_ eG 17 rfl)
 obtain⟨_,h24⟩:=zao (at_ eG 18 rfl)
 obtain⟨_,h25⟩:=zao (at_ eG 19 rfl)
 obtain⟨_,h26⟩:=zao (at_ eG 20 rfl)
 obtain⟨_,h27⟩:=zao (at_ eG 21 rfl)
 obtain⟨_,h28⟩:=zao (at_ eG 22 rfl)
 obtain⟨_,h29⟩:=zao (at_ eG 23 rfl)
 obtain⟨_,h30⟩:=zao (at_ eG 24 rfl)
 obtain⟨_,h31⟩:=zao (at_ eG 25 rfl)
 obtain⟨_,h32⟩:=zao (at_ eG 26 rfl)
 obtain⟨_,h33⟩:=zao (at_ eG 27 rfl)
 obtain⟨_,h34⟩:=zao (at_ eG 28 rfl)
 obtain⟨_,h35⟩:=zao (at_ eG 29 rfl)
 obtain⟨_,h36⟩:=zao (at_ eG 30 rfl)
 obtain⟨_,h37⟩:=zao (at_ eG 31 rfl)
 obtain⟨_,h38⟩:=zao (at_ eG 32 rfl)
 obtain⟨_,h39⟩:=zao (at_ eG 33 rfl)
 obtain⟨_,h40⟩:=zao (at_ eG 34 rfl)
 obtain⟨_,h41⟩:=zao (at_ eG 35 rfl)
 obtain⟨_,h42⟩:=zao (at_ eG 36 rfl)
 obtain⟨_,h43⟩:=zao (at_ eG 37 rfl)
 obtain⟨_,h44⟩:=zao (at_ eG 38 rfl)
 obtain⟨_,h63⟩:=zao (at_ eG 39 rfl)
 obtain⟨_,h64⟩:=zao (at_ eG 40 rfl)
 obtain⟨_,h65⟩:=zao (at_ eG 41 rfl)
 obtain⟨_,h66⟩:=zao (at_ eG 42 rfl)
 obtain⟨_,h0⟩:=zb4 hk0.n (at_ eM 0 rfl)
 obtain⟨_,h1⟩:=zb4 hk1.n (at_ eM 1 rfl)
 obtain⟨_,h2⟩:=zb4 hk1.n (at_ eM 2 rfl)
 obtain⟨_,h3⟩:=zb4 hk1.n (at_ eM 3 rfl)
 obtain⟨_,h4⟩:=zb4 hk1.n (at_ eM 4 rfl)
 obtain⟨_,h5⟩:=zb4 hk1.n (at_ eM 5 rfl)
 obtain⟨_,h45⟩:=zb4 hk2.n (at_ eM 6 rfl)
 obtain⟨_,h46⟩:=zb4 hk2.n (at_ eM 7 rfl)
 obtain⟨_,h47⟩:=zb4 hk2.n (at_ eM 8 rfl)
 obtain⟨_,h48⟩:=zb4 hk2.n (at_ eM 9 rfl)
 obtain⟨_,h49⟩:=zb4 hk2.n (at_ eM 10 rfl)
 obtain⟨_,h50⟩:=zb4 hk2.n (at_ eM 11 rfl)
 obtain⟨_,h51⟩:=zb4 hk2.n (at_ eM 12 rfl)
 obtain⟨_,h52⟩:=zb4 hk2.n (at_ eM 13 rfl)
 obtain⟨_,h53⟩:=zb4 hk2.n (at_ eM 14 rfl)
 obtain⟨_,h54⟩:=zb4 hk2.n (at_ eM 15 rfl)
 obtain⟨_,h55⟩:=zb4 hk2.n (at_ eM 16 rfl)
 obtain⟨_,h56⟩:=zb4 hk2.n (at_ eM 17 rfl)
 obtain⟨_,h57⟩:=zb4 hk2.n (at_ eM 18 rfl)
 obtain⟨_,h58⟩:=zb4 hk2.n (at_ eM 19 rfl)
 obtain⟨_,h59⟩:=zb4 hk3.n (at_ eM 20 rfl)
 obtain⟨_,h60⟩:=zb4 hk3.n (at_ eM 21 rfl)
 obtain⟨_,h61⟩:=zb4 hk3.n (at_ eM 22 rfl)
 obtain⟨_,h62⟩:=zb4 hk3.n (at_ eM 23 rfl)
 obtain⟨_,r0,q0⟩:=zuo (by decide) (at_ e 0 rfl)
 obtain⟨_,r1,q1⟩:=zuo (by decide) (at_ e 1 rfl)
 exact all_mk X G hfa hk0 hk1 hk2 hk3 hx0 hx1 hx2 hx3 hx4 hx5 h0 h1 h2 h3 h4 h5 h6 h7 h8 h9 h10 h11 h12 h13 h14 h15 h16 h17 h18 h19 h20 h21 h22 h23 h24 h25 h26 h27 h28 h29 h30 h31 h32 h33 h34 h35 h36 h37 h38 h39 h40 h41 h42 h43 h44 h45 h46 h47 h48 h49 h50 h51 h52 h53 h54 h55 h56 h57 h58 h59 h60 h61 h62 h63 h64 h65 h66 (zfs hk0.n (at_ eA 0 rfl)) (zfs hk0.n (at_ eA 1 rfl)) (zfs hk1.n (at_ eA 2 rfl)) (zfs hk1.n (at_ eA 3 rfl)) (zfs hk1.n (at_ eA 4 rfl)) (zfs hk2.n (at_ eA 5 rfl)) (zfs hk3.n (at_ eA 6 rfl)) (zfs hk3.n (at_ eA 7 rfl)) (zbd hx0.n hx0.n (at_ eX 0 rfl)) (zbd hx1.n hx0.n (at_ eX 1 rfl)) (zbd hx1.n hx1.n (at_ eX 2 rfl)) (zbd hx2.n hx0.n (at_ eX 3 rfl)) (zbd hx2.n hx1.n (at_ eX 4 rfl)) (zbd hx2.n hx2.n (at_ eX 5 rfl)) (zbd hx3.n hx0.n (at_ eX 6 rfl)) (zbd hx3.n hx1.n (at_ eX 7 rfl)) (zbd hx3.n hx2.n (at_ eX 8 rfl)) (zbd hx3.n hx3.n (at_ eX 9 rfl)) (zbd hx4.n hx0.n (at_ eX 10 rfl)) (zbd hx4.n hx1.n (at_ eX 11 rfl)) (zbd hx4.n hx2.n (at_ eX 12 rfl)) (zbd hx4.n hx3.n (at_ eX 13 rfl)) (zbd hx4.n hx4.n (at_ eX 14 rfl)) (zbd hx5.n hx0.n (at_ eX 15 rfl)) (zbd hx5.n hx1.n (at_ eX 16 rfl)) (zbd hx5.n hx2.n (at_ eX 17 rfl)) (zbd hx5.n hx3.n (at_ eX 18 rfl)) (zbd hx5.n hx4.n (at_ eX 19 rfl)) (zbd hx5.n hx5.n (at_ eX 20 rfl)) (za7 (at_ eN 0 rfl)) (za7 (at_ eN 1 rfl)) (za7 (at_ eN 2 rfl)) (za7 (at_ eN 3 rfl)) (za7 (at_ eN 4 rfl)) (za7 (at_ eN 5 rfl)) (za7 (at_ eN 6 rfl)) (za7 (at_ eN 7 rfl)) (za7 (at_ eN 8 rfl)) (za7 (at_ eN 9 rfl)) (za7 (at_ eN 10 rfl)) (za7 (at_ eN 11 rfl)) (za7 (at_ eN 12 rfl)) (za7 (at_ eN 13 rfl)) (za7 (at_ eN 14 rfl)) (za7 (at_ eN 15 rfl)) (za7 (at_ eN 16 rfl)) (za7 (at_ eN 17 rfl)) (za7 (at_ eN 18 rfl)) (za7 (at_ eN 19 rfl)) (za7 (at_ eN 20 rfl)) (za7 (at_ eN 21 rfl)) (at_ eB 0 rfl) (at_ eB 1 rfl) (at_ eB 2 rfl) (at_ eB 3 rfl) (at_ eB 4 rfl) (at_ eB 5 rfl) (at_ eB 6 rfl) (at_ eB 7 rfl) (at_ eB 8 rfl) (at_ eB 9 rfl) (at_ eB 10 rfl) (at_ eB 11 rfl) r0 q0 r1 q1
def run1(w:World)(os:OsState):=zpf PySem.Challenge.pw_leastmachines_s01_answers qv loose xt yT 13 11 (some (.ref 6)) tree0 life0 w os
def due1:=some ((true,PySem.W.openGood qv loose),val)
def size1(w:World):=((yft w.params).isNs ya8 && (yjr []:Array GenState).size == 0,(yft w.params).objs.size,(yft w.params).nsMap ya8 "__annotations__")
theorem zwn:size1=size1:=rfl
theorem zy4:run1=run1:=rfl
theorem zy5:due1=due1:=rfl
end My
def PySem.W.Fast.tw4548309467147689909:PySem.Program:=PySem.Challenge.pw_leastmachines_s01_answers
theorem PySem.W.Fast.te4548309467147689909:PySem.Challenge.pw_leastmachines_s01_answers=PySem.W.Fast.tw4548309467147689909:=rfl
name_quick due1Y for My.due1 by My.zy5
name_quick run1Y for My.run1 by My.zy4
name_quick size1Y for My.size1 by My.zwn
theorem PySem.W.Fast.sizeY_ok:∀ w,PySem.W.Fast.size1Y w=(true,11,some (.ref 6)):=fun w=>by kernel_rfl
theorem PySem.W.Fast.runY_ok:∀ w os,PySem.W.Fast.run1Y w os=PySem.W.Fast.due1Y:=fun w os=>by kernel_rfl
open PySem PySem.W PyProof.Rows
theorem My.run_ok(w:World)(os:OsState):My.run1 w os=My.due1:=(congrFun (congrFun Fast.run1Y_eq w) os).trans ((Fast.runY_ok w os).trans Fast.due1Y_eq.symm)
theorem My.tree_ok(P:Params):absHeap (My.tree0 P) 11 (My.life0 P)=boot_heap P:=by kernel_rfl
theorem My.left_ok:LeftO PySem.Challenge.pw_leastmachines_s01_answers My.qv My.loose My.xt My.yf (fun _=>My.val) 8193:=My.zy3 (by kernel_rfl) (by decide) (fun s=>by kernel_rfl) (fun w=>(congrFun Fast.size1Y_eq w).trans (Fast.sizeY_ok w)) My.tree_ok My.z2c My.run_ok (by decide)
set_option maxRecDepth 100000 in
set_option maxHeartbeats 0 in
theorem PySem.Challenge.cw_leastmachines_s01_answers_holds : PySem.Challenge.rw_leastmachines_s01_answers.Holds := by
 have hw:PySem.Challenge.rw_leastmachines_s01_answers.wellSaid=true:=by decide +kernel
 refine holds_os (YP:=fun _ h=>∃ K:Frag,K.In h/\My.obsK K=My.val) My.left_ok (fun w s e=>⟨_,My.zi1 _ _,e⟩) (fun w h h2 y k=>⟨y.choose,y.choose_spec.1.keeps k,y.choose_spec.2⟩) (XP:=XL My.qv []) (fun s e=>xl_of s (yfu.mp e).1) XL.keeps (by rfl) (by rfl) (by rfl) (fun s e=>recFacts_of (yfu.mp e).2) os_shapes hw (by decide +kernel) ⟨rfl,rfl,rfl,rfl,rfl,by decide +kernel⟩ ⟨[.list []],by decide +kernel,by decide +kernel⟩ ?_
 intro w s0 s1 mg mb G y
 obtain⟨K,x,e⟩:=y
 exact L2.zq9 (r:=PySem.Challenge.rw_leastmachines_s01_answers) (k:=20) (CX:=L2.CX0) (ps:=["calls"]) (sp:=My.spAnswers) (K:=fun _=>K) (YP:=fun _ h=>K.In h) hw rfl rfl ⟨rfl,by decide,by decide⟩ (fun _ _ z=>z) (fun w mg fa h _ X G hmg=>My.z0v e X G hmg) My.link (fun _ _ _ _ z=>z) w s0 s1 mg mb G x
end
