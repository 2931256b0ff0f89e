import PyProof.Rows.All
import Wide.All
import OpenK.AllK
import Wide.FinOn
import PyProof.EqAt
import PyProof.EqKinds
import PyProof.TupleCall
import KE.BitLaws
import Open.SpecLaws
import KE.OsHead
import KE.OsGo
import KE.KLam
import PyProof.Rows.SortG.SortRunsSt
import KE.KSortTup
import KE.KDictSum
import KE.KSortKey
import PySem.Challenge.RW_flagbooks_s06_amend
set_option maxRecDepth 100000
set_option maxHeartbeats 4000000
set_option linter.all false
open Array renaming length_toList->G8,getElem?_eq_getElem->Jq,mk->Jr,getElem?_toList->Lz,getElem?_eq_none->Pq,toList->Pr,size_append->X4,toList_inj->X5
open Bool renaming false_ne_true->A8,and_eq_true->BL,false_and->DW,eq_iff_iff->Dy,false_eq_true->Dz,noConfusion->D0,true_and->D1,eq_false_iff->G9,false_or->HA,and_false->IG,or_eq_true->Jt,and_eq_true_iff->L0,or_false->L4,true_or->Pu
open Eq renaming symm->L7
open Except renaming error->Cj,map->Pw
open False renaming elim->Bf
open FlagCNeutral renaming text?->Ju,callOf->X6
open Flags renaming Locker->AN,Bytes->AX,Kind->Ad,Act->BG,Entry->BH,cutAt->BI,ascii->BM,rowBefore->BZ,Book->Bg,wordName->By,saidOf->CO,isName->Ck,actOf->DX,kindIn->DY,kindOf->D4,judge->Eo,entryIn->Fp,isMeaning->Fq,actIn->GN,digitOf->GO,dotted->GP,partAt->GQ,wrongBehind->GR,Role->HC,ENTRIES->IH,LOOKED->II,lookIn->IJ,shapeOf->IK,hexValue->Jv,namesIn->Jw,judgeLines->ME,nameIn->MF,LONG->Py,SIGNS->P1,before->P2,joined->P4,noTwoBlanks->YB
open Flags.Act renaming on->HB
open Flags.Book renaming text->Px
open Flags.Entry renaming text->X7
open Flags.Kind renaming isSign->FD,role->X8
open Flags.Locker renaming rowIn->Fo,actRow->MA,entryRow->MB,find->MC,rowText->MD,judgeEntries->Pz,points->P0,judgeBook->X9,signName->YA
open Flags.Role renaming sign->HD
open FlagsC3 renaming answer->MG
open ForInStep renaming yield->Jx
open Int renaming toNat_natCast->HE
open Int.ofNat renaming inj->MH
open List renaming length_map->AH,mem_cons->AQ,mem_cons_self->AV,getElem?_map->Ao,map_cons->Aq,mem_cons_of_mem->Av,mem_singleton->BB,length_append->BC,getElem?_eq_getElem->Ba,mem_map->Bb,size_toArray->Bc,length_cons->Bn,map_append->Bo,length_singleton->Bz,getElem?_eq_some_iff->CJ,all_eq_true->Cu,mem_filter->Cv,mem_of_getElem?->Cw,range->DB,any_cons->DH,append_nil->DI,find?_cons->DJ,length_take->DK,mem_append->DL,nodup_cons->DN,not_mem_nil->DZ,pairwise_cons->Dc,map_congr_left->ER,any_eq_false->Ep,lookup_cons->Er,length->FE,sum_cons->FF,take_of_length_le->FG,cons_append->Ft,filter_cons->Fu,length_nil->Fv,mem_append_right->Fw,all_map->GS,getD_eq_getElem?_getD->GU,lookup->GV,map_nil->GW,getElem?_append_right->HF,getElem_mem->HG,length_eq_zero_iff->HH,mapM_cons->HI,map_map->HJ,all_cons->IL,any_eq_true->IM,any_map->IP,dropLast_concat_getLast->IQ,drop_of_length_le->IS,getLast?_eq_none_iff->IT,length_filter_le->IU,mapM->IV,mem_append_left->IW,mem_iff_getElem?->IX,nodup_nil->IY,toList_toArray->IZ,drop_eq_getElem_cons->Jy,find?_some->Jz,flatMap_cons->J1,getElem_map->J2,mem_eraseDups->J3,mem_of_find?_eq_some->J4,of_mem_zip->J5,replicate->J6,replicate_succ->J7,zip_cons_cons->J8,filter_cons_of_neg->MI,filter_sublist->MJ,find?_eq_none->MK,forIn_nil->ML,getElem?_append_left->MM,getElem?_eq_none->MN,length_drop->MO,pairwise_append->MP,pairwise_singleton->MQ,range_succ_eq_map->MR,take_length->MS,countP_cons->P6,count_cons_of_ne->P7,filterMap_cons->P8,filter_append->P9,filter_congr->QA,filter_cons_of_pos->QB,findIdx?_eq_some_iff_getElem->QC,forIn_cons->QD,forall_mem_cons->QE,getElem?_cons_zero->QF,getElem?_set_ne->QG,getElem?_set_self->QH,getElem_inj->QI,length_range->QJ,map_drop->QK,mem_of_mem_take->QL,mem_range->QM,pairwise_iff_getElem->QN,pairwise_lt_range->QO,pairwise_map->QP,take_sublist->QQ,count_append->YD,drop_length->YE,filter_eq_nil_iff->YF,filter_eq_self->YG,filter_map->YH,filter_nil->YI,flatMap_nil->YJ,foldl_append->YK,foldl_cons->YL,foldr_cons->YM,getElem?_cons_succ->YN,getElem?_range->YO,getElem?_take_of_lt->YQ,getElem?_toArray->YR,getLast?_eq_some_iff->YS,idxOf_lt_length_iff->YT,mem_filterMap->YU,nil_append->YV
open List.Pairwise renaming filter->P5,nil->YC
open List.cons renaming inj->Dl
open Nat renaming le_refl->Aa,zero_le->Ax,ne_of_lt->B1,lt_of_lt_of_le->CU,le_trans->CW,lt_irrefl->C3,zero_add->ES,le_of_lt->Ia,sub_self->Ib,le_of_eq->J9,ne_of_gt->KA,zero_min->KC,le_of_succ_le->MT,lt_succ_of_lt->MU,lt_trans->MV,succ->MW,zero_sub->MX,add_comm->QR,add_le_add_left->QS,le_add_right->QT,lt_succ_iff_lt_or_eq->QU,lt_succ_self->QV,lt_trichotomy->QW,min_eq_left->QX,min_le_left->QY,not_lt_zero->QZ,le_antisymm->YW,mul_le_mul_left->YX,pos_of_ne_zero->YY,succ_ne_self->YZ
open Ne renaming symm->Ar
open Option renaming map_some->HK,map_eq_some_iff->KD,isSome_iff_exists->MY,isSome_map->MZ,none->Ma,getD_none->Qa,isSome_some->Yb
open Option.some renaming inj->Af,injEq->Mb
open Or renaming inl->Ai,inr->ET
open PyProof.Rows renaming take_snoc->D5,int_at->FH,boot_ord->Ic,callWith_type1->KG,intsAre_of->KH,boot_all->Md,listUpdate_at->Me,size_push'->Mf,Subscript_->Qb,all_range->Qc,any_range->Qe,get?_update_seq->Yc,gt_int->Yd
open PyProof.Rows.SortSt renaming mk'->Mc
open PySem renaming wpAny_bind->AI,wpAny_pure->AZ,boot_len->CM,mem_of_lookup->Cb,wpAny_loadPart'->Cc,wpAny_mono->DO,wpAny_truthy_bool->F0,codeAny_mono->Gb,wpAny_Call_Name_kw->Ge,wpAny_call_entry->Gf,wpAny_field->HQ,tupleKind_room_in1->Im,wpAny_callSpecial?_slot->Io,wpAny_newObj_type->Ip,call_meets->KN,call_meetsIn->KP,wpAny_holding->KQ,wpAny_passesOwn->KR,Within->Mq,pushCells_keeps->Mr,sizeLine_eq->Ms,wpAny_attempt->Mt,wpAny_call->Mu,wpAny_dictEntries->Mv,wpAny_pyIter_enum->Mw,wpAny_seqItems->Mx,wpAny_setField->Mz,wpAny_typeNameOfWhole_keyiter->M0,wpAny_typeNameOf_keyiter->M5,call->Q9,richCompare_meets_room->RA,wpAny_Name->RB,wpAny_dictEpoch->RC,wpAny_execs_nil->RD,wpAny_letGo->RE,wpAny_listPart->RF,wpAny_of_eq->RG,wpAny_pyIter_slot->RH,wpAny_pyIter_tuple->RI,wpAny_rule->RJ,wpAny_standAt->RK,codeAny_builtin->ZO,slot_list_getitem->ZP,slot_list_setitem->ZQ,wpAny_Call_method->ZR,wpAny_Dict_empty->ZS,wpAny_assign_Name->ZT,wpAny_execs_cons->ZU,wpAny_forIn_list->ZV,wpAny_isOneOf_keyiter->ZW,wpAny_isTrue_Compare1->ZX,wpAny_letOwnedTupleGo_enum->ZY,wpAny_pyIter_list->ZZ,wpAny_pyIter_revIter->Za,wpAny_specialOf->Zb,wpAny_updateSeq->Zc
open PySem.Around renaming under->Qg,frames_deeper->Ye,under_plainId->Yg
open PySem.AutoSeq1 renaming sub_tuple_tuple->Qh,sub_list_list->Yh,wpAny_loadPart'->Yi
open PySem.Builtin.Dict renaming showsAll->Yj
open PySem.Builtin.Dict_items renaming ownsTuple->Yk
open PySem.Builtin.List renaming listTooLong->KI,listItems->Qi,listAllItems->Yl,listSameRef->Ym,listSubscript?->Yn
open PySem.Builtin.SmallTypes renaming nextOf->Mg
open PySem.Calls renaming spliced_cons->Mh,callWith_builtin->Qj,evalArgs_plain->Qk,spliced_nil->Ql,Name_function_global->Yo
open PySem.Challenge renaming rw_flagbooks_s06_amend->Ak,pw_flagbooks_s06_amend->FI
open PySem.Code renaming isFrame->Qm
open PySem.F renaming plainAttrs_list->EU,slot_list_append->GX,type_list_append->GY,slot_dict_keyiterator_next->HL,slot_dict_get->Ie,entry_dict_get->Mi,slot_dict_keyiterator_iter->Mj,slot_tuple_iterator_next->Ml,slot_list_extend->Qn,args_dict_get_2->Yp,args_dict_get_3->Yq,args_dict_keyiterator_iter_1->Yr,args_dict_keyiterator_next_1->Ys,args_tuple_iterator_next_1->Yt,entry_dict_keyiterator_iter->Yu,entry_dict_keyiterator_next->Yv,entry_tuple_iterator_next->Yw,plainAttrs_dict->Yx,slot_dict_iter->Yy,slot_dict_len->Yz,slot_list_count->Y0,slot_list_index->Y1,type_dict_get->Y2,type_list_extend->Y3
open PySem.Heap renaming lt_size->BJ,get?_push_of_some->Bi,get?_push_size->CD,size_push->Dm,SameBut->Ig,get?_update_self->Y4,size_update->Y5
open PySem.Heap.SameBut renaming update->Ih
open PySem.IsL renaming isList->Y6
open PySem.MeetsSeq3 renaming plain_eq_loop->Mm,entry_eq_loop->Y7
open PySem.NameKind renaming free->Fx,cell->Qo
open PySem.Obj renaming mapSeq->DC,data_mapFields->Mn,cls_mapFields->Y8,isFreed_of_fields->Y9
open PySem.Paired renaming length->GZ
open PySem.PassesOwn renaming never->FJ
open PySem.PyData renaming int->C4,eqv->Fy,canLayAll0->Qp,depthAll->Qq
open PySem.Sem renaming wp_bind'->KJ,wp_pure'->Mo,wp_pure->Qr,wp_rule->Qs
open PySem.SeqAt renaming EqAt->Co,canLay_of_shaped->Ij,shaped->Ik,eqAt_reads->Qt,room_of_shaped->Qu
open PySem.SeqAt.EqAt renaming int_int->ZA,int_str->ZC,same->ZD,str_int->ZE
open PySem.Str renaming ofString->EV,empty->Qv
open PySem.Value renaming ref->Ab,none->Ca,bool->D6,type->FK,int->KL,str->Mp,notImplemented->ZF
open PySem.W renaming Frag->AD,emptyDict->Fz,instObj->Ga,findIn->HM,keepIn->HN,mg_of->HP,fnOf->Il,callWith_K->Qx,codeIn->Qy,hasDictIn->Qz,kat_cons->Q0,kat_yes->Q2,lookIn->Q3,methodObj->Q4,plainGet->Q5,tabIn->Q6,tab_of->Q7,takerIn->Q8,WRecords->ZG,cellsFrom_some->ZH,handedIn->ZI,kat_nil->ZJ,length_le_weightAllW->ZL,makesIn->ZM,plainOver->ZN
open PySem.W.KFB renaming if_not->Qw
open StateT renaming lift->RL,run_bind->RM,run_lift->RN
open Sum renaming inl->BR,inr->Gg
open Sum.inl renaming inj->KS
open True renaming intro->Iq
open UInt8 renaming ofNat->DP,toNat_inj->M8
set_option Elab.async false
theorem JJj{p:Prop}[i:Decidable p](h:¬p):decide p=false:=decide_eq_false h
theorem JJk{p:Prop}[i:Decidable p](h:p):decide p=true:=decide_eq_true h
theorem JJq{p:Prop}[i:Decidable p](h:decide p=true):p:=of_decide_eq_true h
theorem JJx.{u}{c:Prop}{h:Decidable c}(hc:¬c){α:Sort u}{t e:α}:ite c t e=e:=if_neg hc
theorem JJz.{u}{c:Prop}{h:Decidable c}(hc:c){α:Sort u}{t e:α}:ite c t e=t:=if_pos hc
namespace Fb
open PySem PySem.W PySem.Calls PyProof.Rows
noncomputable def LX (tb:String->Option Builtin) (p:Program) (w:World) (n₀:Nat) (ann:Option Value) (n:Nat):SharedT->Thread->Option SharedT :=
 @Nat.rec (fun _=>SharedT->Thread->Option SharedT) (fun _ _=>none)
  (fun _ ih s t=>match through t with
   | true=>some s
   | false=>match stepOk n₀ ann t with
    | false=>none
    | true=>match stepT (denote tb) p w s t with
     | some (s',t')=>ih s' t'
     | none=>none) n
theorem Uv {tb:String->Option Builtin}{p:Program}{w:World}{n₀:Nat}{ann:Option Value}:∀(n:Nat) (s r:SharedT) (t:Thread),LX tb p w n₀ ann n s t=some r->topRun tb p w n₀ ann n s.abs t=some r.abs
 | 0,_,_,_,h=>nomatch (show none=some _ from h)
 | n+1,s,r,t,h=>by
  have h:(match through t with
   | true=>some s
   | false=>match stepOk n₀ ann t with
    | false=>none
    | true=>match stepT (denote tb) p w s t with
     | some (s',t')=>LX tb p w n₀ ann n s' t'
     | none=>none)=some r:=h
  unfold topRun
  cases ht:through t with
  | true=>rw[ht] at h;cases h;rfl
  | false =>
   rw[ht] at h
   cases hk:stepOk n₀ ann t with
   | false=>rw[hk] at h;cases h
   | true =>
    rw[hk] at h
    cases hs:stepT (denote tb) p w s t with
    | none=>rw[hs] at h;cases h
    | some r' =>
     obtain⟨s₂,t₂⟩:=r'
     rw[hs] at h
     rw[stepT_spec hs]
     exact Uv n _ _ _ h
noncomputable def iI (l:List Obj):Nat->BT->BT:=@List.rec Obj (fun _=>Nat->BT->BT) (fun _ t=>t) (fun o _ ih n t=>ih (MW n) (t.ins n o)) l
noncomputable def Rp (P:Params):BT:=iI (boot_heap P).objs.toList 0 .nil
noncomputable def Kd (w:World) (os:OsState):SharedT:=⟨Rp w.params,(boot_heap w.params).objs.size,(boot_heap w.params).life,Jr [],boot_drawn,boot_toks,os⟩
theorem Zz (P:Params):absHeap (Rp P) (boot_heap P).objs.size (boot_heap P).life=boot_heap P:=by kernel_rfl
noncomputable def runA (p:Program) (N n₀:Nat) (ann:Option Value) (w:World) (os:OsState) {α:Type} (f:Shared->α):Option α:=(LX treeTable p w n₀ ann N (Kd w os) (topStub p)).map fun s=>f s.abs
theorem runA_rfl:@runA=@runA:=rfl
noncomputable def look1 (p:Program) (w:World) (s:Shared):Bool:=staticsOk (importedModules p.main.body) (boot_heap w.params) s.heap&&namesBound p s.heap&&gensDone s&&laidKept (boot_heap w.params) s.heap
theorem look1_rfl:@look1=@look1:=rfl
noncomputable def look2 (q:Program) (s:Shared):=seen ((recsOf q).map (·.name)) (ownsOf q) [] { s with gens:=#[] }
theorem look2_rfl:@look2=@look2:=rfl
noncomputable def look3 (q:Program) (loose mods:List Str) (Xt:Shared->Bool) (s:Shared):=(s.heap.bltView,s.heap.keysOk (looseW q loose) ((recsOf q).map (·.name)) ((litsOf q).map (·.1)) ((clssOf q (looseW q loose)).map (·.name))&&s.heap.accountedOkI mods&&s.heap.isNs mainGlobals&&s.heap.isNs builtinsNs&&tablesOk q s.heap&&Xt s&&(s.gens.size==0),tabsOk q s)
theorem look3_rfl:@look3=@look3:=rfl
noncomputable def look4 (q:Program) (loose:List Str) (s:Shared):=(pinSeenD q (drecsOf q) s,plainSeenE q (looseW q loose) s,plainSeenD q loose s,wideSeen q s,clsSeenW q loose s)
theorem look4_rfl:@look4=@look4:=rfl
theorem LW {p:Program}{N n₀:Nat}{ann:Option Value}{w:World}{os:OsState}{α:Type}{f:Shared->α}{a:α}{s:SharedT} (hr:LX treeTable p w n₀ ann N (Kd w os) (topStub p)=some s) (h:runA p N n₀ ann w os f=some a):f s.abs=a:=by
 unfold runA at h
 rw[hr] at h
 exact Af h
theorem cQ {p q:Program}{loose:List Str}{Xt:Shared->Bool}{α:Type}{Yf:Shared->α}{Ya:World->α}{N n₀:Nat}{ann:Option Value}
  (e:opening p=plainProg p.main.scope.names) (hN:Nat.ble 600 N=true) (f:∀s,fenceModules? p s=some s)
  (size:∀P:Params,((boot_heap P).isNs mainGlobals,(boot_heap P).objs.size,(boot_heap P).nsMap mainGlobals "__annotations__")=(true,n₀,ann))
  (h1:∀w os,runA p N n₀ ann w os (look1 p w)=some true) (h2:∀w os,runA p N n₀ ann w os (look2 q)=some (expectedOf q))
  (h3:∀w os,runA p N n₀ ann w os (look3 q loose (importedModules p.main.body) Xt)=some (bltViewBooted,true,true))
  (h4:∀w os,runA p N n₀ ann w os (look4 q loose)=some (pinGoodD (drecsOf q),plainGoodE q (looseW q loose),plainGoodD q loose,wideGood q,clsGoodW q loose))
  (h5:∀w os,runA p N n₀ ann w os Yf=some (Ya w)):LeftO p q loose Xt Yf Ya N:=fun w=>by
 obtain⟨⟨hp,gs,d,k,os⟩,e1,e2⟩:=KD.mp (boot_open e hN f w)
 obtain⟨rfl,rfl,rfl,rfl⟩:hp=boot_heap w.params/\gs=Jr []/\d=boot_drawn/\k=boot_toks:=by simpa using e2
 obtain⟨z1,z2,z3⟩:_/\_/\_:=by simpa only [Prod.mk.injEq] using size w.params
 obtain⟨s,hr,l1⟩:=KD.mp (h1 w os)
 have l2:=LW hr (h2 w os)
 have l3:=LW hr (h3 w os)
 have l4:=LW hr (h4 w os)
 have l5:=LW hr (h5 w os)
 have r:=Uv _ _ _ _ hr
 have ea:(Kd w os).abs=⟨boot_heap w.params,Jr [],boot_drawn,boot_toks,os⟩:=by
  unfold Kd SharedT.abs
  dsimp only
  rw[Zz]
 rw[ea] at r
 have t:topFrom treeTable p w N ⟨boot_heap w.params,Jr [],boot_drawn,boot_toks,os⟩=some s.abs:=by
  unfold topFrom
  dsimp only
  rw[z1,z2,z3,r]
  show(match look1 p w s.abs with | true=>_ | false=>_)=_
  rw[l1]
 unfold openEnds
 rw[e1]
 show(topFrom treeTable p w N ⟨boot_heap w.params,Jr [],boot_drawn,boot_toks,os⟩).map _=_
 rw[t]
 show some ((look2 q s.abs,(look3 q loose (importedModules p.main.body) Xt s.abs).1,(look3 q loose (importedModules p.main.body) Xt s.abs).2.1,(look3 q loose (importedModules p.main.body) Xt s.abs).2.2,look4 q loose s.abs),Yf s.abs)=_
 rw[l2,l3,l4,l5]
 rfl
end Fb
name_quick runAQ for Fb.runA by Fb.runA_rfl
name_quick look1Q for Fb.look1 by Fb.look1_rfl
name_quick look2Q for Fb.look2 by Fb.look2_rfl
name_quick look3Q for Fb.look3 by Fb.look3_rfl
name_quick look4Q for Fb.look4 by Fb.look4_rfl
namespace Fb
open PySem PySem.W PySem.Calls PyProof.Rows
def looseN:List Str:=["take_line_books","take_line_amendments","take_line_lockers"]
def lvN:List (Str×WData):=[]
def viewN:Program:=view FI [1,2,3,4,6,7,8,9,10,11,12,13,14,15,16,17,18,20,21,22,23,24,25,26,27,28,29,30,31,32,33,34,35,36,37,38,39,40,41,42,43,45,46,47,48,49,51,52,53,54,55,56,57,58,59,60,61,62,63,64,66,67,68,69,71,72,74,75,76,77,78,79,80,81,82,83,84,85,86,87,88,89,90,91,92,93,94,95,96,97,98,99,101,102,103,104,105,106,107,108]
def stepsN:Nat:=7490
def xtN (s:Shared):Bool:=xlAt viewN lvN s&&recOk [] s
theorem eU (w:World) (os:OsState):PySem.W.Fast.runAQ FI 7490 11 (some (.ref 6)) w os (PySem.W.Fast.look1Q FI w)=some true:=by kernel_rfl
theorem eV (w:World) (os:OsState):PySem.W.Fast.runAQ FI 7490 11 (some (.ref 6)) w os (PySem.W.Fast.look2Q viewN)=some (expectedOf viewN):=by kernel_rfl
theorem eW (w:World) (os:OsState):PySem.W.Fast.runAQ FI 7490 11 (some (.ref 6)) w os (PySem.W.Fast.look3Q viewN looseN (importedModules FI.main.body) xtN)=some (bltViewBooted,true,true):=by kernel_rfl
theorem eX (w:World) (os:OsState):PySem.W.Fast.runAQ FI 7490 11 (some (.ref 6)) w os (PySem.W.Fast.look4Q viewN looseN)=some (pinGoodD (drecsOf viewN),plainGoodE viewN (looseW viewN looseN),plainGoodD viewN looseN,wideGood viewN,clsGoodW viewN looseN):=by kernel_rfl
end Fb
section
namespace L2
open PySem PySem.Spec PyProof.Rows
abbrev Key:=Sum Int Str
def GB:Key->Value->Bool
 | .inl k,v=>Value.isInt k v
 | .inr x,v=>Value.isStrOf x v
def bx (w:World):Key->Int
 | .inl k=>hashInt k
 | .inr x=>hashStr w x
theorem Ex:∀{k:Key}{v:Value},GB k v=true->(∃i t,k=BR i/\v=KL i t)\/(∃x t,k=Gg x/\v=Mp x t)
 | .inl i,v,h=>by
  obtain⟨t,e⟩:=Value.isInt_shape (k:=i) (v:=v) h
  exact .inl ⟨i,t,rfl,e⟩
 | .inr x,v,h=>by
  obtain⟨t,e⟩:=Value.isStrOf_shape (x:=x) (v:=v) h
  exact .inr ⟨x,t,rfl,e⟩
theorem bz (i:Int) (t:Tok):GB (.inl i) (.int i t)=true:=by simp[GB,Value.isInt]
theorem b0 (x:Str) (t:Tok):GB (.inr x) (.str x t)=true:=by simp[GB,Value.isStrOf]
theorem b9 (a b:Int):decide ((BR a:Key)=BR b)=(a==b):=by
 by_cases e:a=b
 .subst e;simp
 .have h:¬(BR a:Key)=BR b:=fun q=>e (KS q)
  rw[JJj h]
  exact(beq_eq_false_iff_ne.mpr e).symm
theorem cE (a b:Str):decide ((Gg a:Key)=Gg b)=decide (a=b):=by
 by_cases e:a=b
 .subst e;simp
 .have h:¬(Gg a:Key)=Gg b:=fun q=>e (Gg.inj q)
  rw[JJj h,JJj e]
theorem cA (a:Int) (b:Str):decide ((BR a:Key)=Gg b)=false:=JJj (fun q=>nomatch q)
theorem cD (a:Str) (b:Int):decide ((Gg a:Key)=BR b)=false:=JJj (fun q=>nomatch q)
def Cz (prog:Program) (w:World):PySem.KeyKind prog w Key where
 is:=GB
 hash:=bx w
 inj:=fun v a b ha hb=>by
  rcases Ex ha with ⟨i,t,rfl,rfl⟩ | ⟨x,t,rfl,rfl⟩
  .rcases Ex hb with ⟨j,u,rfl,e⟩ | ⟨y,u,rfl,e⟩
   .injection e with e1 _;rw[e1]
   .exact nomatch e
  .rcases Ex hb with ⟨j,u,rfl,e⟩ | ⟨y,u,rfl,e⟩
   .exact nomatch e
   .injection e with e1 _;rw[e1]
 byValue:=fun k v h=>by
  rcases Ex h with ⟨i,t,rfl,rfl⟩ | ⟨x,t,rfl,rfl⟩ <;> rfl
 pyHash:=fun hv h=>by
  rcases Ex hv with ⟨i,t,rfl,rfl⟩ | ⟨x,t,rfl,rfl⟩
  .exact wpAny_pyHash_int h
  .exact wpAny_pyHash_str h
 eqBool:=fun hu hv h=>by
  rcases Ex hu with ⟨i,t,rfl,rfl⟩ | ⟨x,t,rfl,rfl⟩
  .rcases Ex hv with ⟨j,u,rfl,rfl⟩ | ⟨y,u,rfl,rfl⟩
   .rw[b9] at h;exact wpAny_eqBool_int h
   .rw[cA] at h;exact ZC i t y u _ _ _ _ h
  .rcases Ex hv with ⟨j,u,rfl,rfl⟩ | ⟨y,u,rfl,rfl⟩
   .rw[cD] at h;exact ZE x t j u _ _ _ _ h
   .rw[cE] at h;exact wpAny_eqBool_str h
 «strs»:=fun k x t v h=>by
  rcases Ex h with ⟨i,u,rfl,e⟩ | ⟨y,u,rfl,e⟩
  .exact nomatch e
  .injection e with e1 _
   subst e1
   cases v <;> rfl
theorem cq (prog:Program) (w:World) (i:Int) (t:Tok):(Cz prog w).is (.inl i) (.int i t)=true:=bz i t
theorem cu (prog:Program) (w:World) (x:Str) (t:Tok):(Cz prog w).is (.inr x) (.str x t)=true:=b0 x t
end L2
namespace L2
open PySem PySem.Spec PyProof.Rows
inductive V where
 | non | bl (b:Bool) | int (i:Int) | str (x:Str) | byt (b:Array UInt8) | flt (b:UInt64) | ref (a:Addr) | ty (n:String)
 deriving DecidableEq
def RelV:V->Value->Prop
 | .non,u=>u=Ca
 | .bl b,u=>u=D6 b
 | .int i,u=>∃t,u=KL i t
 | .str x,u=>∃t,u=Mp x t
 | .byt b,u=>∃t,u=Value.bytes b t
 | .flt b,u=>∃t,u=Value.float b t
 | .ref a,u=>u=Ab a
 | .ty n,u=>u=FK n
abbrev Vals:List V->List Value->Prop:=Paired RelV
theorem Vals.length {xs:List V}{us:List Value} (r:Vals xs us):xs.length=us.length:=GZ r
theorem Vals.get:∀{xs:List V}{us:List Value}{i:Nat}{x:V},Vals xs us->xs[i]?=some x->∃u,us[i]?=some u/\RelV x u
 | _,_,_,_,.nil,e=>by simp at e
 | _,_,0,_,.cons r _,e=>by simp at e;subst e;exact⟨_,rfl,r⟩
 | _,_,i+1,x,.cons _ t,e=>by
  obtain⟨u,h1,h2⟩:=Vals.get (i:=i) (x:=x) t (by simpa using e)
  exact⟨u,by simpa using h1,h2⟩
theorem Vals.append:∀{xs ys:List V}{us ws:List Value},Vals xs us->Vals ys ws->Vals (xs++ys) (us++ws)
 | _,_,_,_,.nil,s=>s
 | _,_,_,_,.cons r t,s=>.cons r (Vals.append t s)
theorem Vals.take:∀{xs:List V}{us:List Value} (n:Nat),Vals xs us->Vals (xs.take n) (us.take n)
 | _,_,0,_=>.nil
 | _,_,_+1,.nil=>.nil
 | _,_,n+1,.cons r t=>.cons r (Vals.take n t)
theorem Vals.drop:∀{xs:List V}{us:List Value} (n:Nat),Vals xs us->Vals (xs.drop n) (us.drop n)
 | _,_,0,r=>r
 | _,_,_+1,.nil=>.nil
 | _,_,n+1,.cons _ t=>Vals.drop n t
def RelO:Option V->Option Value->Prop
 | some v,some u=>RelV v u
 | none,none=>True
 | _,_=>False
def KV {κ:Type}:List (κ×V)->List (κ×Value)->Prop:=Paired fun (p:κ×V) (q:κ×Value)=>p.1=q.1/\RelV p.2 q.2
def kV:Key->V
 | .inl i=>.int i
 | .inr x=>.str x
inductive HO where
 | lst (xs:List V)
 | tup (xs:List V)
 | dK (kvs:List (Key×V)) | dT (kvs:List (List Key×V))
 | set (S:Int->Bool) (n:Nat)
 | ins (C dx:Addr) (fs:List (Str×V))
 | own (x:Addr)
 | xd (fs:List (Str×V))
 | met (f x:Addr)
 | rng (lo hi:Int)
 | frz (o:Obj) (u:HO)
 | tbl (ps:Array Value)
 | ext (φ:Heap->Prop)
abbrev Hp:=Addr->Option HO
def upd (H:Hp) (a:Addr) (o:HO):Hp:=fun b=>if b=a then some o else H b
theorem AG {H:Hp}{a:Addr}{o:HO}:upd H a o a=some o:=by unfold upd;rw[JJz rfl]
theorem AF {H:Hp}{a b:Addr}{o:HO} (h:b≠a):upd H a o b=H b:=by unfold upd;rw[JJx h]
theorem FC {H:Hp}{a:Addr}{o u:HO}:upd (upd H a o) a u=upd H a u:=by
 funext b;unfold upd;split <;> rfl
theorem BX {H:Hp}{a b:Addr}{o u:HO} (h:H a=some o) (h':H b=some u) (d:o≠u):a≠b:=by
 intro e;subst e;rw[h] at h';exact d (Af h')
theorem Ac {H:Hp}{a b:Addr}{o:HO} (h:H a=some o) (h':H b=none):a≠b:=by
 intro e;subst e;rw[h] at h';cases h'
section
variable (P:Program) (w:World)
def ObjOk (H:Hp) (h:Heap) (a:Addr):HO->Prop
 | .lst xs=>xs.length<=sizeLine/\∃(its:List Value) (n:Nat),Vals xs its/\h.get? a=some { cls:=.type "list",data:=.seq its.toArray n }
 | .tup xs=>xs.length<=sizeLine/\∃its:List Value,Vals xs its/\IsTup h a its.toArray
 | .dK kvs=>kvs.length<=sizeLine/\(a==sysModules)=false/\∃vs,KV kvs vs/\h.DictOf (Cz P w) a vs
 | .dT kvs=>kvs.length<=sizeLine/\(a==sysModules)=false/\∃xs:List (List Key×Addr×Value),
  Paired (fun (p:List Key×V) (q:List Key×Addr×Value)=>p.1=q.1/\H q.2.1=some (.tup (p.1.map kV))/\RelV p.2 q.2.2) kvs xs/\
  ∃o es ep,h.get? a=some o/\o.ExactDict/\o.data=.dict es ep/\es.toList=xs.map (entryOfKey (tupleKind (Cz P w)))/\(xs.map (·.1)).Nodup
 | .set S n=>h.SetOf (intKind P w) a S n
 | .ins C dx fs=>H dx=some (.own a)/\fs.length<=1000/\dx≠a/\h.get? a=some (Ga C dx)/\
  ∃mA,h.Ns1 dx mA/\(∀f,RelO (fs.lookup f) (mA f))/\Mq mA (fs.map (·.1))
 | .own _=>∃o,h.get? a=some o
 | .xd fs=>∃mA,h.Ns1 a mA/\∀f,RelO (fs.lookup f) (mA f)
 | .rng lo hi=>∃t u v,h.get? a=some { cls:=.type "range",data:=.fields #[.int lo t,.int hi u,.int 1 v] }
 | .frz o u=>h.get? a=some o/\ObjOk H h a u
 | .tbl ps=>h.get? a=some { cls:=.none,data:=.fields ps }
 | .met f x=>h.get? a=some (Q4 (.ref f) (.ref x))
 | .ext φ=>φ h/\(∃o,h.get? a=some o)/\∀h1 h2:Heap,φ h1->(∀o,h1.get? a=some o->h2.get? a=some o)->φ h2
def HOk (H:Hp) (h:Heap):Prop:=∀a o,H a=some o->ObjOk P w H h a o
end
section
variable {P:Program}{w:World}{H H':Hp}{h h':Heap}{a:Addr}{o:HO}
theorem ObjOk.lt (x:ObjOk P w H h a o):a < h.objs.size:=by
 cases o with
 | lst xs=>obtain⟨_,_,_,_,e⟩:=x;exact BJ e
 | tup xs=>obtain⟨_,_,_,p⟩:=x;exact p.lt
 | dK kvs=>obtain⟨_,_,_,_,o,_,_,e,_⟩:=x;exact BJ e
 | dT kvs=>obtain⟨_,_,_,_,o,_,_,e,_⟩:=x;exact BJ e
 | set S n=>obtain⟨o,_,_,_,e,_⟩:=x;exact BJ e
 | ins C dx fs=>obtain⟨_,_,_,e,_⟩:=x;exact BJ e
 | own y=>obtain⟨_,e⟩:=x;exact BJ e
 | xd fs=>obtain⟨_,⟨_,_,_,e,_⟩,_⟩:=x;exact BJ e
 | rng lo hi=>obtain⟨_,_,_,e⟩:=x;exact BJ e
 | frz ob u=>obtain⟨e,_⟩:=x;exact BJ e
 | tbl ps=>exact BJ (show h.get? a=some _ from x)
 | met f y=>exact BJ (show h.get? a=some _ from x)
 | ext φ=>obtain⟨_,⟨_,e⟩,_⟩:=x;exact BJ e
theorem Paired.mapP {α β:Type}{F G:α->β->Prop}:∀{l₁:List α}{l₂:List β},Paired F l₁ l₂->(∀a b,F a b->G a b)->Paired G l₁ l₂
 | _,_,.nil,_=>.nil
 | _,_,.cons r t,f=>.cons (f _ _ r) (Paired.mapP t f)
theorem ObjOk.stay (x:ObjOk P w H h a o) (k:∀b u,(b=a\/H b=some (.own a))->h.get? b=some u->h'.get? b=some u)
  (ho:∀b,H b=some (.own a)->H' b=some (.own a)) (ht:∀b xs,H b=some (.tup xs)->H' b=some (.tup xs)):ObjOk P w H' h' a o:=by
 induction o with
 | lst xs=>obtain⟨z,its,n,r,e⟩:=x;exact⟨z,its,n,r,k _ _ (.inl rfl) e⟩
 | tup xs=>obtain⟨z,its,r,ob,e,c⟩:=x;exact⟨z,its,r,ob,k _ _ (.inl rfl) e,c⟩
 | dK kvs=>obtain⟨z,y,vs,r,ob,es,ep,e,c⟩:=x;exact⟨z,y,vs,r,ob,es,ep,k _ _ (.inl rfl) e,c⟩
 | dT kvs =>
  obtain⟨z,y,xs,r,ob,es,ep,e,c⟩:=x
  exact⟨z,y,xs,Paired.mapP r fun p q z=>⟨z.1,ht _ _ z.2.1,z.2.2⟩,ob,es,ep,k _ _ (.inl rfl) e,c⟩
 | set S n=>obtain⟨ob,es,ep,t,e,c⟩:=x;exact⟨ob,es,ep,t,k _ _ (.inl rfl) e,c⟩
 | ins C dx fs =>
  obtain⟨d,z,ne,e,mA,⟨od,es,ep,e2,c⟩,r⟩:=x
  exact⟨ho _ d,z,ne,k _ _ (.inl rfl) e,mA,⟨od,es,ep,k _ _ (.inr d) e2,c⟩,r⟩
 | own y=>obtain⟨ob,e⟩:=x;exact⟨ob,k _ _ (.inl rfl) e⟩
 | xd fs=>obtain⟨mA,⟨od,es,ep,e,c⟩,r⟩:=x;exact⟨mA,⟨od,es,ep,k _ _ (.inl rfl) e,c⟩,r⟩
 | rng lo hi=>obtain⟨t,u,v,e⟩:=x;exact⟨t,u,v,k _ _ (.inl rfl) e⟩
 | frz ob u ih=>obtain⟨e,q⟩:=x;exact⟨k _ _ (.inl rfl) e,ih q⟩
 | tbl ps =>
  have e:h.get? a=some { cls:=.none,data:=.fields ps }:=x
  show h'.get? a=some { cls:=.none,data:=.fields ps }
  exact k a _ (.inl rfl) e
 | met f y =>
  have e:h.get? a=some (Q4 (.ref f) (.ref y)):=x
  show h'.get? a=some (Q4 (.ref f) (.ref y))
  exact k a _ (.inl rfl) e
 | ext φ=>obtain⟨p,⟨o,e⟩,st⟩:=x;exact⟨st _ _ p fun o q=>k _ _ (.inl rfl) q,⟨o,k _ _ (.inl rfl) e⟩,st⟩
theorem HOk.lt (x:HOk P w H h) (e:H a=some o):a < h.objs.size:=(x a o e).lt
theorem HOk.fresh (x:HOk P w H h) (e:h.objs.size<=a):H a=none:=by
 cases q:H a with
 | none=>rfl
 | some u=>exact absurd (CU (x.lt q) e) (C3 _)
theorem HOk.kept (x:HOk P w H h) (k:∀b u,h.get? b=some u->h'.get? b=some u):HOk P w H h':=fun a o e =>
 (x a o e).stay (fun b u _ q=>k b u q) (fun _ q=>q) fun _ _ q=>q
theorem HOk.laid (x:HOk P w H h) (k:∀b u,h.get? b=some u->h'.get? b=some u) (hp:h.objs.size<=a) (new:ObjOk P w (upd H a o) h' a o):HOk P w (upd H a o) h':=fun b u e=>by
 have hn:=x.fresh hp
 by_cases hb:b=a
 .subst hb;rw[AG] at e;cases e;exact new
 .rw[AF hb] at e
  exact(x b u e).stay (fun c v _ q=>k c v q) (fun c q=>by rw[AF (Ac q hn)];exact q) fun c xs q=>by rw[AF (Ac q hn)];exact q
end
def Rd (H:Hp) (a:Addr) (u:HO):Prop:=H a=some u\/∃o,H a=some (.frz o u)
theorem Rd.of {H:Hp}{a:Addr}{u:HO} (h:H a=some u):Rd H a u:=.inl h
theorem Rd.ok {P:Program}{w:World}{H:Hp}{h:Heap}{a:Addr}{u:HO} (r:Rd H a u) (x:HOk P w H h):ObjOk P w H h a u:=by
 rcases r with r | ⟨o,r⟩
 .exact x a u r
 .obtain⟨_,q⟩:=x a _ r
  exact q
def Mut:Option HO->Prop
 | some (.lst _)=>True
 | some (.dK _)=>True
 | some (.dT _)=>True
 | some (.set _ _)=>True
 | some (.ins _ _ _)=>True
 | some (.ext _)=>True
 | _=>False
section
variable {P:Program}{w:World}{H:Hp}{h h':Heap}{x e:Addr}{o':HO}
theorem HOk.write (ok:HOk P w H h) (mu:Mut (H x)) (he:e=x\/H e=some (.own x)) (k:∀b u,b≠e->h.get? b=some u->h'.get? b=some u) (heo:∃u,h'.get? e=some u)
  (new:ObjOk P w (upd H x o') h' x o'):HOk P w (upd H x o') h':=fun b u q=>by
 have nown:∀c y,H c=some (.own y)->c≠x:=fun c y r z=>by subst z;rw[r] at mu;exact mu
 have ntup:∀c xs,H c=some (.tup xs)->c≠x:=fun c xs r z=>by subst z;rw[r] at mu;exact mu
 by_cases hb:b=x
 .subst hb;rw[AG] at q;cases q;exact new
 .rw[AF hb] at q
  by_cases hbe:b=e
  .have q':H b=some (.own x):=by
    rcases he with z | z
    .exact absurd (hbe.trans z) hb
    .rw[hbe];exact z
   rw[q] at q';cases q'
   obtain⟨v,hv⟩:=heo
   exact⟨v,by rw[hbe];exact hv⟩
  .refine(ok b u q).stay (fun c v hc r=>k c v ?_ r) (fun c r=>by rw[AF (nown c b r)];exact r) fun c xs r=>by rw[AF (ntup c xs r)];exact r
   rcases hc with rfl | hc
   .exact hbe
   .rintro rfl
    rcases he with z | z
    .exact nown c b hc z
    .rw[hc] at z;cases z;exact hb rfl
end
structure Un (fs ex:List Addr) (H H':Hp) (h h':Heap):Prop where
 keep:∀b o,h.get? b=some o->H b=none->b∉fs->b∉ex->h'.get? b=some o
 slot:∀b o,h.get? b=some o->H b=none->b∈fs->b∉ex->∃sl,h'.get? b=some { o with slots:=sl }
 free:∀b o,h.get? b=some o->H b=none->b∉ex->H' b=none
 there:∀b o,h.get? b=some o->b∉ex->∃o',h'.get? b=some o'
 tups:∀b xs,H b=some (.tup xs)->H' b=some (.tup xs)
 frzs:∀b o u,H b=some (.frz o u)->H' b=some (.frz o u)
 tbls:∀b ps,H b=some (.tbl ps)->∃more,H' b=some (.tbl (ps++more))
section
variable {fs fs' ex ex':List Addr}{H H1 H2:Hp}{h h1 h2 h':Heap}{a x e:Addr}{o:HO}
theorem Un.any (u:Un fs ex H H1 h h1) {b:Addr}{ob:Obj} (q:h.get? b=some ob) (n:H b=none) (hx:b∉ex):∃sl,h1.get? b=some { ob with slots:=sl }:=by
 by_cases hb:b∈fs
 .exact u.slot b ob q n hb hx
 .exact⟨ob.slots,u.keep b ob q n hb hx⟩
theorem Un.kept (k:∀b u,h.get? b=some u->h'.get? b=some u):Un fs ex H H h h' :=
 ⟨fun b ob q _ _ _=>k b ob q,fun b ob q _ _ _=>⟨ob.slots,k b ob q⟩,fun _ _ _ n _=>n,fun b ob q _=>⟨ob,k b ob q⟩,fun _ _ q=>q,fun _ _ _ q=>q,fun _ ps q=>⟨#[],by rw[q];simp⟩⟩
theorem Un.refl:Un fs ex H H h h:=Un.kept fun _ _ q=>q
theorem Un.laid (k:∀b u,h.get? b=some u->h'.get? b=some u) (hp:h.objs.size<=a) (hn:H a=none):Un fs ex H (upd H a o) h h' where
 keep:=fun b u q _ _ _=>k b u q
 slot:=fun b u q _ _ _=>⟨u.slots,k b u q⟩
 free:=fun b u q n _=>by rw[AF (B1 (CU (BJ q) hp))];exact n
 there:=fun b u q _=>⟨u,k b u q⟩
 tups:=fun b xs q=>by rw[AF (Ac q hn)];exact q
 frzs:=fun b u xs q=>by rw[AF (Ac q hn)];exact q
 tbls:=fun b ps q=>⟨#[],by rw[AF (Ac q hn),q];simp⟩
theorem Un.write (mu:Mut (H x)) (he:e=x\/H e=some (.own x)) (k:∀b u,b≠e->h.get? b=some u->h'.get? b=some u) (heo:∃u,h'.get? e=some u):Un fs ex H (upd H x o) h h':=by
 have hx:∀b,H b=none->b≠x:=fun b n z=>by subst z;rw[n] at mu;exact mu
 have hb:∀b,H b=none->b≠e:=fun b n z=>by
  subst z
  rcases he with r | r
  .exact hx b n r
  .rw[n] at r;cases r
 have hm:∀b u,H b=some u->¬Mut (some u)->b≠x:=fun b u q nm z=>by subst z;rw[q] at mu;exact nm mu
 refine⟨fun b u q n _ _=>k b u (hb b n) q,fun b u q n _ _=>⟨u.slots,k b u (hb b n) q⟩,fun b u q n _=>by rw[AF (hx b n)];exact n,fun b u q _=>?_,
  fun b xs q=>by rw[AF (hm b _ q fun z=>z)];exact q,fun b u xs q=>by rw[AF (hm b _ q fun z=>z)];exact q,fun b ps q=>⟨#[],by rw[AF (hm b _ q fun z=>z),q];simp⟩⟩
 by_cases hbe:b=e
 .subst hbe;exact heo
 .exact⟨u,k b u hbe q⟩
end
def trk (h:Heap) (H:Hp):List Addr:=(DB h.objs.size).filter fun a=>(H a).isSome
def C5 (h:Heap) (H:Hp):Heap:=PySem.W.hideAll h (trk h H)
theorem S5 (h:Heap) (H:Hp):(C5 h H).objs.size=h.objs.size:=PySem.W.hideAll_size _ _
theorem S4 {h:Heap}{H:Hp}{b:Addr}{o:Obj} (e:h.get? b=some o) (n:H b=none):(C5 h H).get? b=some o :=
 PySem.W.hideAll_get _ e fun hm=>by
  have q:(H b).isSome=true:=(Cv.mp hm).2
  rw[n] at q;simp at q
theorem T8 {h:Heap}{H:Hp}{b:Addr}{o:Obj} (e:(C5 h H).get? b=some o):h.get? b=some o/\H b=none:=by
 have e':h.get? b=some o:=PySem.W.of_hideAll (trk h H) e
 refine⟨e',?_⟩
 cases q:H b with
 | none=>rfl
 | some x =>
  have hm:b∈trk h H:=Cv.mpr ⟨QM.mpr (BJ e'),by simp[q]⟩
  have z:(C5 h H).get? b=none:=PySem.W.hideAll_none (trk h H) hm
  rw[z] at e;cases e
def Zm (g h:Heap) (L:Addr):List (Addr×Obj):=(DB h.objs.size).filterMap fun a=>if a=L\/(g.get? a).isSome=true then none else (h.get? a).map fun o=>(a,o)
def rest (g h:Heap) (L d:Addr):List (Addr×Obj):=(Zm g h L).filter fun p=>decide (p.1≠d)
end L2
namespace L2
open PySem PySem.Spec PyProof.Rows
structure Mod (K:AD) (mg:Str->Option Value) (base:Heap):Prop where
 kin:K.In base
 glob:base.Ns mainGlobals mg
 blt:∃mb,base.Ns builtinsNs mb/\∀x:Str,x≠"__name__"->mb x=bootBuiltins x
 nolimit:base.NoLimit
structure Cx where
 prog:Program
 w:World
 K:AD
 mg:Str->Option Value
 base:Heap
 A:Around
 N:List Str
 s_0:Shared
 H_0:Hp
 env:Env
 outer:List Env
 stack:List Env
 ex:List Addr
 fn:Str->Bool
 calm:Bool
 pn:List (Addr×Obj)
 xe:Value->Shared->Prop
def frs (l:List Env):List Addr:=l.filterMap (·.frame)
abbrev Cx.fs (X:Cx):List Addr:=frs X.outer
def Vis (sc:Scope) (x:Str):Prop:=sc.names.lookup x=some .local\/sc.names.lookup x=some .cell\/sc.names.lookup x=some .free
def Loc (sc:Scope) (x:Str):Prop:=sc.names.lookup x=some .local\/sc.names.lookup x=some .cell
def Zd (env:Env) (h:Heap) (m:Str->Option Value) (x:Str) (u:Value):Prop :=
 (env.kindOf x=some .local/\m x=some u)\/((env.kindOf x=some .cell\/env.kindOf x=some .free)/\∃c,env.cells.lookup x=some c/\h.IsCell c (some u))
structure Cx.Ok (X:Cx):Prop where
 mod:Mod X.K X.mg X.base
 kind:X.env.scope.kind=.function
 glob:X.env.globals=mainGlobals
 blt:X.env.builtins=builtinsNs
 above:X.s_0.heap.objs.size<=X.env.locals
 inj:∀x y c,X.env.cells.lookup x=some c->X.env.cells.lookup y=some c->x=y
 has:∀x,(X.env.kindOf x=some .cell\/X.env.kindOf x=some .free)->∃c,X.env.cells.lookup x=some c
 cab:∀x c,X.fn x=true->X.env.cells.lookup x=some c->X.s_0.heap.objs.size<=c
 hd:X.calm=true->X.A.handled=none
 frames:X.A.frames=some X.stack
 stk:X.stack=X.outer\/(X.stack=X.env::X.outer/\X.env.frame=some X.env.locals)
 exf:∀b∈X.ex,b≠X.env.locals/\∀x c,X.env.cells.lookup x=some c->c≠b
 bs:∀b o,X.base.get? b=some o->X.s_0.heap.get? b=some o/\X.H_0 b=none
 bsz:X.base.objs.size<=X.s_0.heap.objs.size
 noex:∀b o,X.base.get? b=some o->b∉X.ex
 exfs:∀b∈X.ex,b∉X.fs
 funs:X.s_0.heap.FunFrames X.base X.outer
 frf:∀b∈X.fs,X.H_0 b=none
structure Inv (X:Cx) (pins:List (Addr×Obj)) (σ:List (Option V)) (H:Hp) (s:Shared):Prop where
 ok:X.Ok
 os:s.os=X.s_0.os
 bare:AllBare s.gens
 base:Un X.fs X.ex X.H_0 H X.s_0.heap s.heap
 loc:∃m,s.heap.Ns X.env.locals m/\∀(i:Nat) (x:Str) (v:V),X.N[i]?=some x->σ[i]?=some (some v)->Vis X.env.scope x->∃u,RelV v u/\Zd X.env s.heap m x u
 cell:∀x c,X.env.cells.lookup x=some c->∃v,s.heap.IsCell c v
 free:H X.env.locals=none
 freeC:∀x c,X.env.cells.lookup x=some c->H c=none
 pin:∀p∈X.pn++pins,s.heap.get? p.1=some p.2/\H p.1=none/\p.1≠X.env.locals/\p.1∉X.fs/\∀v,p.2.data≠.cell v
 hok:HOk X.prog X.w H s.heap
 len:σ.length=X.N.length
section
variable {X:Cx}{pins:List (Addr×Obj)}{σ:List (Option V)}{H H':Hp}{s:Shared}{h':Heap}
theorem Cx.Ok.nofr (ok:X.Ok) {b:Addr}{o:Obj} (e:X.base.get? b=some o):b∉X.fs:=fun hb=>by
 have:=(ok.funs.mem hb).1
 rw[e] at this;cases this
theorem Inv.bs (I:Inv X pins σ H s):∀b o,X.base.get? b=some o->s.heap.get? b=some o/\H b=none:=fun b o e =>
 ⟨I.base.keep b o (I.ok.bs b o e).1 (I.ok.bs b o e).2 (I.ok.nofr e) (I.ok.noex b o e),I.base.free b o (I.ok.bs b o e).1 (I.ok.bs b o e).2 (I.ok.noex b o e)⟩
theorem Inv.bk (I:Inv X pins σ H s):∀b o,X.base.get? b=some o->s.heap.get? b=some o:=fun b o e=>(I.bs b o e).1
theorem Inv.mod (I:Inv X pins σ H s):Mod X.K X.mg X.base:=I.ok.mod
theorem Inv.kIn (I:Inv X pins σ H s):X.K.In s.heap:=I.ok.mod.kin.keeps I.bk
theorem Inv.fr (I:Inv X pins σ H s):∃m,Fr X.base X.env.locals s.heap m :=
 let ⟨m,hn,_⟩:=I.loc
 ⟨m,hn,I.bk,CW I.ok.bsz I.ok.above⟩
theorem Inv.lt (I:Inv X pins σ H s):X.env.locals < s.heap.objs.size:=let ⟨_,hn,_⟩:=I.loc;hn.lt
theorem Inv.sz (I:Inv X pins σ H s):X.s_0.heap.objs.size<=s.heap.objs.size:=CW I.ok.above (Ia I.lt)
theorem Inv.nofs (I:Inv X pins σ H s) {a:Addr} (h:s.heap.objs.size<=a):a∉X.fs:=fun hb=>by
 obtain⟨_,o,ho,_⟩:=I.ok.funs.mem hb
 exact absurd (CU (BJ ho) (CW I.sz h)) (C3 _)
theorem Inv.cne (I:Inv X pins σ H s):∀x c,X.env.cells.lookup x=some c->c≠X.env.locals:=fun x c e z=>by
 obtain⟨v,o,ho,hd⟩:=I.cell x c e
 obtain⟨m,⟨o',es,ep,ho',hd',_⟩,_⟩:=I.loc
 rw[z,ho'] at ho;cases ho;rw[hd'] at hd;cases hd
theorem Inv.funs (I:Inv X pins σ H s):s.heap.FunFrames X.base X.outer:=by
 have all:∀(l:List Env),(∀b∈frs l,b∈X.fs)->X.s_0.heap.FunFrames X.base l->s.heap.FunFrames X.base l:=by
  intro l
  induction l with
  | nil=>intro _ _;trivial
  | cons env r ih =>
   intro hs hl
   obtain⟨hk,⟨L,o,hf,hn,ho,hd⟩,hr⟩:=hl
   have hL:L∈X.fs:=hs L (by unfold frs;rw[P8,hf];exact AV)
   obtain⟨sl,e⟩:=I.base.slot L o ho (I.ok.frf L hL) hL fun z=>I.ok.exfs L z hL
   exact⟨hk,⟨L,_,hf,hn,e,hd⟩,ih (fun b hb=>hs b (by unfold frs;rw[P8,hf];exact Av _ hb)) hr⟩
 exact all X.outer (fun _ hb=>hb) I.ok.funs
theorem Inv.stack (I:Inv X pins σ H s):s.heap.FunFrames X.base X.stack:=by
 rcases I.ok.stk with e | ⟨e,hf⟩
 .rw[e];exact I.funs
 .rw[e]
  obtain⟨m,hn,_⟩:=I.loc
  refine .cons (by rw[I.ok.kind];decide) hf hn ?_ I.funs
  exact Heap.get?_none_of_le (CW I.ok.bsz I.ok.above)
theorem Inv.stkSub (I:Inv X pins σ H s):∀b∈frs X.stack,b∈X.env.locals::X.fs:=fun b hb=>by
 rcases I.ok.stk with e | ⟨e,hf⟩
 .rw[e] at hb;exact Av _ hb
 .rw[e] at hb
  unfold frs at hb
  rw[P8,hf] at hb
  exact hb
theorem Inv.stkFree (I:Inv X pins σ H s):∀b∈frs X.stack,H b=none:=fun b hb=>by
 rcases AQ.mp (I.stkSub b hb) with e | hb
 .rw[e];exact I.free
 .obtain⟨_,o,ho,_⟩:=I.ok.funs.mem hb
  exact I.base.free b o ho (I.ok.frf b hb) fun z=>I.ok.exfs b z hb
theorem Inv.step {g':Array GenState}{t':Nat}{d':Drawn}{ch:List Addr} (I:Inv X pins σ H s)
  (hch:∀b∈ch,(b∈X.ex\/X.s_0.heap.objs.size<=b)/\b≠X.env.locals/\(∀x c,X.env.cells.lookup x=some c->c≠b)/\∀p∈X.pn++pins,p.1≠b)
  (keep:∀b o,b≠X.env.locals->b∉X.fs->b∉ch->s.heap.get? b=some o->H b=none->h'.get? b=some o)
  (slot:∀b o,b≠X.env.locals->b∈X.fs->b∉ch->s.heap.get? b=some o->H b=none->∃sl,h'.get? b=some { o with slots:=sl }) (free:∀b o,b∉ch->s.heap.get? b=some o->H b=none->H' b=none)
  (there:∀b o,b∉ch->s.heap.get? b=some o->∃o',h'.get? b=some o')
  (tups:∀b xs,H b=some (.tup xs)->H' b=some (.tup xs)) (frzs:∀b o u,H b=some (.frz o u)->H' b=some (.frz o u)) (tbls:∀b ps,H b=some (.tbl ps)->∃more,H' b=some (.tbl (ps++more)))
  (ns:∀m,s.heap.Ns X.env.locals m->h'.Ns X.env.locals m) (hok:HOk X.prog X.w H' h') (hg:AllBare g'):
  Inv X pins σ H' { s with heap:=h',gens:=g',drawn:=d',toks:=t' }:=by
 have neL:∀b o,X.s_0.heap.get? b=some o->b≠X.env.locals:=fun b o e=>B1 (CU (BJ e) I.ok.above)
 have neC:∀b o,X.s_0.heap.get? b=some o->b∉X.ex->b∉ch:=fun b o e hx hb=>by
  rcases(hch b hb).1 with z | z
  .exact hx z
  .exact absurd (CU (BJ e) z) (C3 _)
 have cellK:∀x c,X.env.cells.lookup x=some c->∀v,s.heap.IsCell c v->h'.IsCell c v:=fun x c e v ⟨o,ho,hd⟩=>by
  have nch:c∉ch:=fun z=>(hch c z).2.2.1 x c e rfl
  by_cases hc:c∈X.fs
  .obtain⟨sl,q⟩:=slot c o (I.cne x c e) hc nch ho (I.freeC x c e)
   exact⟨_,q,hd⟩
  .exact⟨o,keep c o (I.cne x c e) hc nch ho (I.freeC x c e),hd⟩
 refine⟨I.ok,I.os,hg,⟨fun b o e n hb hx=>?_,fun b o e n hb hx=>?_,fun b o e n hx=>?_,fun b o e hx=>?_,fun b xs e=>tups b xs (I.base.tups b xs e),fun b o xs e=>frzs b o xs (I.base.frzs b o xs e),fun b ps e=>?_⟩,?_,fun x c e=>?_,?_,fun x c e=>?_,fun p hp=>?_,hok,I.len⟩
 .exact keep b o (neL b o e) hb (neC b o e hx) (I.base.keep b o e n hb hx) (I.base.free b o e n hx)
 .obtain⟨sl,e1⟩:=I.base.slot b o e n hb hx
  obtain⟨sl',e2⟩:=slot b _ (neL b o e) hb (neC b o e hx) e1 (I.base.free b o e n hx)
  exact⟨sl',e2⟩
 .obtain⟨o',e1⟩:=I.base.there b o e hx
  exact free b o' (neC b o e hx) e1 (I.base.free b o e n hx)
 .obtain⟨o',e1⟩:=I.base.there b o e hx
  exact there b o' (neC b o e hx) e1
 .obtain⟨m1,e1⟩:=I.base.tbls b ps e
  obtain⟨m2,e2⟩:=tbls b _ e1
  exact⟨m1++m2,by rw[e2,Array.append_assoc]⟩
 .obtain⟨m,hn,hl⟩:=I.loc
  refine⟨m,ns m hn,fun i x v e1 e2 e3=>?_⟩
  obtain⟨u,r,l⟩:=hl i x v e1 e2 e3
  refine⟨u,r,?_⟩
  rcases l with l | ⟨k,c,e,z⟩
  .exact .inl l
  .exact .inr ⟨k,c,e,cellK x c e _ z⟩
 .obtain⟨v,z⟩:=I.cell x c e
  exact⟨v,cellK x c e v z⟩
 .obtain⟨m,⟨o,_,_,ho,_⟩,_⟩:=I.loc
  exact free _ o (fun z=>(hch _ z).2.1 rfl) ho I.free
 .obtain⟨v,o,ho,hd⟩:=I.cell x c e
  exact free c o (fun z=>(hch c z).2.2.1 x c e rfl) ho (I.freeC x c e)
 .obtain⟨e,n,ne,nf,d⟩:=I.pin p hp
  have nch:p.1∉ch:=fun z=>(hch p.1 z).2.2.2 p hp rfl
  exact⟨keep p.1 p.2 ne nf nch e n,free p.1 p.2 nch e n,ne,nf,d⟩
theorem Inv.un {t':Nat} (I:Inv X pins σ H s) (u:Un X.fs [] H H' s.heap h') (hok:HOk X.prog X.w H' h'):Inv X pins σ H' { s with heap:=h',toks:=t' }:=by
 obtain⟨m,⟨o,es,ep,ho,r⟩,_⟩:=id I.loc
 obtain⟨sl,hL⟩:=u.any ho I.free (by simp)
 exact I.step (g':=s.gens) (d':=s.drawn) (ch:=[]) (fun _ z=>nomatch z) (fun b o _ hb _ e n=>u.keep b o e n hb (by simp)) (fun b o _ hb _ e n=>u.slot b o e n hb (by simp)) (fun b o _ e n=>u.free b o e n (by simp)) (fun b o _ e=>u.there b o e (by simp)) u.tups u.frzs u.tbls (fun m' hm=>by
  obtain⟨o',es',ep',ho',r'⟩:=hm
  rw[ho] at ho';cases ho'
  exact⟨_,es',ep',hL,r'⟩) hok I.bare
theorem Inv.call {g':Array GenState}{t':Nat}{d':Drawn}{ch:List Addr} (I:Inv X pins σ H s) (u:Un (frs X.stack) ch H H' s.heap h') (hok:HOk X.prog X.w H' h') (hg:AllBare g')
  (hch:∀b∈ch,(b∈X.ex\/X.s_0.heap.objs.size<=b)/\b≠X.env.locals/\(∀x c,X.env.cells.lookup x=some c->c≠b)/\∀p∈X.pn++pins,p.1≠b):
  Inv X pins σ H' { s with heap:=h',gens:=g',drawn:=d',toks:=t' }:=by
 obtain⟨m,⟨o,es,ep,ho,r⟩,_⟩:=id I.loc
 obtain⟨sl,hL⟩:=u.any ho I.free fun z=>(hch _ z).2.1 rfl
 exact I.step (ch:=ch) hch (fun b o hL hb hc e n=>u.keep b o e n (fun z=>(AQ.mp (I.stkSub b z)).elim hL hb) hc) (fun b o _ _ hc e n=>u.any e n hc) (fun b o hc e n=>u.free b o e n hc) (fun b o hc e=>u.there b o e hc) u.tups u.frzs u.tbls (fun m' hm=>by
  obtain⟨o',es',ep',ho',r'⟩:=hm
  rw[ho] at ho';cases ho'
  exact⟨_,es',ep',hL,r'⟩) hok hg
theorem Inv.turned {t':Nat}{it:Addr} (I:Inv X pins σ H s) (k:∀b o,b≠it->s.heap.get? b=some o->h'.get? b=some o) (hn:H it=none) (hL:it≠X.env.locals)
  (h1:it∈X.ex\/X.s_0.heap.objs.size<=it) (h2:∀x c,X.env.cells.lookup x=some c->c≠it) (h3:∀p∈X.pn++pins,p.1≠it):Inv X pins σ H { s with heap:=h',toks:=t' }:=by
 have nit:∀b u,H b=some u->b≠it:=fun b u e z=>by rw[z,hn] at e;cases e
 refine I.step (g':=s.gens) (d':=s.drawn) (ch:=[it]) (fun b hb=>?_) (fun b o _ _ hc e _=>k b o (fun z=>hc (by simp[z])) e) (fun b o _ _ hc e _=>⟨o.slots,k b o (fun z=>hc (by simp[z])) e⟩) (fun _ _ _ _ n=>n)
  (fun b o hc e=>⟨o,k b o (fun z=>hc (by simp[z])) e⟩) (fun _ _ e=>e) (fun _ _ _ e=>e) (fun b ps e=>⟨#[],by rw[e];simp⟩) (fun m hm=>?_) (fun b u e=>?_) I.bare
 .have e:b=it:=by simpa using hb
  subst e
  exact⟨h1,hL,h2,h3⟩
 .obtain⟨o,es,ep,ho,r⟩:=hm
  exact⟨o,es,ep,k _ o (Ar hL) ho,r⟩
 .refine(I.hok b u e).stay (fun c v hc q=>k c v ?_ q) (fun _ q=>q) fun _ _ q=>q
  rcases hc with z | z
  .rw[z];exact nit b u e
  .exact nit c _ z
theorem Inv.tok (I:Inv X pins σ H s) (t:Nat):Inv X pins σ H { s with toks:=t }:=I.un (h':=s.heap) (t':=t) Un.refl I.hok
theorem Inv.kept {t':Nat} (I:Inv X pins σ H s) (k:∀b u,s.heap.get? b=some u->h'.get? b=some u):Inv X pins σ H { s with heap:=h',toks:=t' }:=I.un (Un.kept k) (I.hok.kept k)
theorem Inv.laid {a:Addr}{o:HO}{t':Nat} (I:Inv X pins σ H s) (k:∀b u,s.heap.get? b=some u->h'.get? b=some u) (hp:s.heap.objs.size<=a) (new:ObjOk X.prog X.w (upd H a o) h' a o):
 Inv X pins σ (upd H a o) { s with heap:=h',toks:=t' }:=I.un (Un.laid k hp (I.hok.fresh hp)) (I.hok.laid k hp new)
theorem Inv.write {x e:Addr}{o:HO}{t':Nat} (I:Inv X pins σ H s) (mu:Mut (H x)) (he:e=x\/H e=some (.own x)) (k:∀b u,b≠e->s.heap.get? b=some u->h'.get? b=some u) (heo:∃u,h'.get? e=some u)
 (new:ObjOk X.prog X.w (upd H x o) h' x o):Inv X pins σ (upd H x o) { s with heap:=h',toks:=t' }:=I.un (Un.write mu he k heo) (I.hok.write mu he k heo new)
theorem Inv.weak {σ':List (Option V)} (I:Inv X pins σ H s) (hl:σ'.length=σ.length) (w:∀(i:Nat) v,σ'[i]?=some (some v)->σ[i]?=some (some v)):Inv X pins σ' H s :=
 ⟨I.ok,I.os,I.bare,I.base,let ⟨m,hn,hl'⟩:=I.loc;⟨m,hn,fun i x v e1 e2 e3=>hl' i x v e1 (w i v e2) e3⟩,I.cell,I.free,I.freeC,I.pin,I.hok,hl.trans I.len⟩
theorem Inv.pins_of {pins':List (Addr×Obj)} (I:Inv X pins σ H s) (h:∀p∈pins',s.heap.get? p.1=some p.2/\H p.1=none/\p.1≠X.env.locals/\p.1∉X.fs/\∀v,p.2.data≠.cell v):Inv X pins' σ H s :=
 ⟨I.ok,I.os,I.bare,I.base,I.loc,I.cell,I.free,I.freeC,fun p hp=>(DL.mp hp).elim (fun z=>I.pin p (IW _ z)) (h p),I.hok,I.len⟩
theorem OO {N:List Str} (hN:N.Nodup) {i j:Nat}{x:Str} (a:N[i]?=some x) (b:N[j]?=some x):i=j:=by
 obtain⟨h1,e1⟩:=CJ.mp a
 obtain⟨h2,e2⟩:=CJ.mp b
 exact(QI hN).mp (e1.trans e2.symm)
theorem Xd {M:Model}{A:Around}{E:Value->Shared->Prop}{i:Nat}{x:Str}{v:V}{u:Value}{Q:Unit->Shared->Prop} (I:Inv X pins σ H s) (hN:X.N.Nodup) (hi:X.N[i]?=some x) (hx:Loc X.env.scope x) (r:RelV v u)
  (h:∀s',Inv X pins (σ.set i (some v)) H s'->(∃a,Ig a s.heap s'.heap/\(a=X.env.locals\/X.env.cells.lookup x=some a))->Q () s') (hf:X.fn x=true\/X.env.scope.names.lookup x=some .local:=by first | exact .inl rfl | exact .inr rfl | assumption):wpAny M A (storeName X.env x u) Q E s:=by
 obtain⟨m,hn,hl⟩:=id I.loc
 have hcls:(X.env.scope.kind==.class || (X.env.scope.kind==.module&&X.env.locals != X.env.globals))=false:=by rw[I.ok.kind];rfl
 have hiσ:i < σ.length:=by rw[I.len];exact(CJ.mp hi).1
 have cne:=I.cne
 have tracked:∀{a:Addr} {h':Heap},(∃o,s.heap.get? a=some o/\H a=none)->Ig a s.heap h'->HOk X.prog X.w H h':=fun {a h'} ha hs b ob e=>by
  obtain⟨_,_,hfree⟩:=ha
  refine(I.hok b ob e).stay (fun c w' hc q=>(hs.2 c ?_).trans q) (fun _ q=>q) fun _ _ q=>q
  rintro rfl
  rcases hc with rfl | hc
  .rw[hfree] at e;cases e
  .rw[hfree] at hc;cases hc
 rcases hx with hk | hk
 .refine wpAny_storeName_local hk hn (fun h' hn' hs=>?_) hcls
  obtain⟨oL,_,_,hoL,_⟩:=id hn
  refine h _ ⟨I.ok,I.os,I.bare,⟨fun b o e n hb hx=>?_,fun b o e n hb hx=>?_,I.base.free,fun b o e hx=>?_,I.base.tups,I.base.frzs,I.base.tbls⟩,⟨_,hn',fun j y v' e1 e2 e3=>?_⟩,fun y c e=>?_,I.free,I.freeC,fun p hp=>?_,tracked ⟨oL,hoL,I.free⟩ hs,by simpa using I.len⟩ ⟨_,hs,.inl rfl⟩
  .exact(hs.2 b (B1 (CU (BJ e) I.ok.above))).trans (I.base.keep b o e n hb hx)
  .obtain⟨sl,e1⟩:=I.base.slot b o e n hb hx
   exact⟨sl,(hs.2 b (B1 (CU (BJ e) I.ok.above))).trans e1⟩
  .obtain⟨o',e1⟩:=I.base.there b o e hx
   exact⟨o',(hs.2 b (B1 (CU (BJ e) I.ok.above))).trans e1⟩
  .by_cases hj:j=i
   .subst hj
    rw[hi] at e1;cases e1
    rw[QH hiσ] at e2
    cases e2
    exact⟨u,r,.inl ⟨hk,by simp⟩⟩
   .rw[QG (Ar hj)] at e2
    obtain⟨u',r',q⟩:=hl j y v' e1 e2 e3
    refine⟨u',r',?_⟩
    rcases q with ⟨k,e⟩ | ⟨k,c,e,z⟩
    .refine .inl ⟨k,?_⟩
     have:y≠x:=fun e=>hj (OO hN e1 (e▸hi))
     simp[this,e]
    .exact .inr ⟨k,c,e,z.sameBut hs (cne y c e)⟩
  .obtain⟨w',z⟩:=I.cell y c e
   exact⟨w',z.sameBut hs (cne y c e)⟩
  .obtain⟨e,n,ne,nf,d⟩:=I.pin p hp
   exact⟨(hs.2 p.1 ne).trans e,n,ne,nf,d⟩
 .have hfn:X.fn x=true:=by
   rcases hf with z | z
   .exact z
   .rw[z] at hk;cases hk
  obtain⟨c,hc⟩:=I.ok.has x (.inl hk)
  obtain⟨w',z⟩:=I.cell x c hc
  refine wpAny_storeName_cell I.ok.kind hk hc z (fun h' hc' hs=>?_)
  obtain⟨oc,hoc,hocd⟩:=id z
  refine h { s with heap:=h' } ⟨I.ok,I.os,I.bare,⟨fun b o e n hb hx=>?_,fun b o e n hb hx=>?_,I.base.free,fun b o e hx=>?_,I.base.tups,I.base.frzs,I.base.tbls⟩,⟨m,hn.sameBut hs (Ar (cne x c hc)),fun j y v' e1 e2 e3=>?_⟩,fun y c' e=>?_,I.free,I.freeC,fun p hp=>?_,tracked ⟨oc,hoc,I.freeC x c hc⟩ hs,by simpa using I.len⟩ ⟨c,hs,.inr hc⟩
  .exact(hs.2 b (B1 (CU (BJ e) (I.ok.cab x c hfn hc)))).trans (I.base.keep b o e n hb hx)
  .obtain⟨sl,e1⟩:=I.base.slot b o e n hb hx
   exact⟨sl,(hs.2 b (B1 (CU (BJ e) (I.ok.cab x c hfn hc)))).trans e1⟩
  .obtain⟨o',e1⟩:=I.base.there b o e hx
   exact⟨o',(hs.2 b (B1 (CU (BJ e) (I.ok.cab x c hfn hc)))).trans e1⟩
  .by_cases hj:j=i
   .subst hj
    rw[hi] at e1;cases e1
    rw[QH hiσ] at e2
    cases e2
    exact⟨u,r,.inr ⟨.inl hk,c,hc,hc'⟩⟩
   .rw[QG (Ar hj)] at e2
    obtain⟨u',r',q⟩:=hl j y v' e1 e2 e3
    refine⟨u',r',?_⟩
    rcases q with q | ⟨k,c',e,z'⟩
    .exact .inl q
    .refine .inr ⟨k,c',e,z'.sameBut hs ?_⟩
     rintro rfl
     exact hj (OO hN e1 (I.ok.inj _ _ _ e hc▸hi))
  .by_cases hcc:c'=c
   .subst hcc;exact⟨_,hc'⟩
   .obtain⟨w2,z2⟩:=I.cell y c' e
    exact⟨w2,z2.sameBut hs hcc⟩
  .obtain⟨e,n,ne,nf,d⟩:=I.pin p hp
   refine⟨(hs.2 p.1 ?_).trans e,n,ne,nf,d⟩
   intro q
   rw[q,hoc] at e
   have q':oc=p.2:=Af e
   exact d w' (by rw[<- q'];exact hocd)
theorem Xc {M:Model}{A:Around}{E:Value->Shared->Prop}{i:Nat}{x:Str}{v:V}{u:Value}{Q:Unit->Shared->Prop} (I:Inv X pins σ H s) (hN:X.N.Nodup) (hi:X.N[i]?=some x) (hx:Loc X.env.scope x) (r:RelV v u)
  (h:∀s',Inv X pins (σ.set i (some v)) H s'->Q () s') (hf:X.fn x=true\/X.env.scope.names.lookup x=some .local:=by first | exact .inl rfl | exact .inr rfl | assumption):wpAny M A (storeName X.env x u) Q E s :=
 Xd I hN hi hx r (fun s' I' _=>h s' I') hf
theorem Inv.call' {s':Shared}{ch:List Addr} (I:Inv X pins σ H s) (ho:s'.os=s.os) (u:Un (frs X.stack) ch H H' s.heap s'.heap) (hok:HOk X.prog X.w H' s'.heap) (hg:AllBare s'.gens)
  (hch:∀b∈ch,(b∈X.ex\/X.s_0.heap.objs.size<=b)/\b≠X.env.locals/\(∀x c,X.env.cells.lookup x=some c->c≠b)/\∀p∈X.pn++pins,p.1≠b):Inv X pins σ H' s':=by
 obtain⟨h',g',d',t',o'⟩:=s'
 have e:o'=s.os:=ho
 subst e
 exact I.call (g':=g') (t':=t') (d':=d') u hok hg hch
end
abbrev XK:=Value->Option Addr->Hp->Prop
abbrev St:=List (Option V)
abbrev VK:=V->Hp->Prop
abbrev TE:=St->Hp->VK->Prop
abbrev TT:=St->Hp->(Bool->Hp->Prop)->Prop
abbrev TA:=St->Hp->(List V->Hp->Prop)->Prop
structure Gj where
 nx:St->Hp->Prop
 rt:VK
 bk:St->Hp->Prop:=fun _ _=>False
 ct:St->Hp->Prop:=fun _ _=>False
abbrev TS:=Gj->St->Hp->Prop
def EP (X:Cx) (pins:List (Addr×Obj)) (σ:St) (Q:VK) (u:Value) (s':Shared):Prop:=∃v H',Inv X pins σ H' s'/\RelV v u/\Q v H'
def TP (X:Cx) (pins:List (Addr×Obj)) (σ:St) (Q:Bool->Hp->Prop) (b:Bool) (s':Shared):Prop:=∃H',Inv X pins σ H' s'/\Q b H'
def AP (X:Cx) (pins:List (Addr×Obj)) (σ:St) (Q:List V->Hp->Prop) (us:List Value) (s':Shared):Prop:=∃vs H',Inv X pins σ H' s'/\Vals vs us/\Q vs H'
def SP (X:Cx) (pins:List (Addr×Obj)) (D:Gj) (f:Flow) (s':Shared):Prop :=
 match f with
 | .next=>∃σ' H',Inv X pins σ' H' s'/\D.nx σ' H'
 | .brk=>∃σ' H',Inv X pins σ' H' s'/\D.bk σ' H'
 | .cont=>∃σ' H',Inv X pins σ' H' s'/\D.ct σ' H'
 | .ret u=>∃v σ' H',Inv X pins σ' H' s'/\RelV v u/\D.rt v H'
def PE (X:Cx) (e:Expr) (t:TE):Prop :=
 ∀(pins:List (Addr×Obj)) (s:Shared) (σ:St) (H:Hp) (Q:VK),Inv X pins σ H s->t σ H Q->wpAny (model X.prog X.w) X.A (eval e X.env) (EP X pins σ Q) X.xe s
def PT (X:Cx) (e:Expr) (t:TT):Prop :=
 ∀(pins:List (Addr×Obj)) (s:Shared) (σ:St) (H:Hp) (Q:Bool->Hp->Prop),Inv X pins σ H s->t σ H Q->wpAny (model X.prog X.w) X.A (isTrue e X.env (eval e X.env)) (TP X pins σ Q) X.xe s
def PW (X:Cx) (e:Expr) (t:TT):Prop :=
 ∀(whole:Sem Value) (pins:List (Addr×Obj)) (s:Shared) (σ:St) (H:Hp) (Q:Bool->Hp->Prop),Inv X pins σ H s->t σ H Q->wpAny (model X.prog X.w) X.A (isTrue e X.env whole) (TP X pins σ Q) X.xe s
theorem PW.pt {X:Cx}{e:Expr}{t:TT} (h:PW X e t):PT X e t:=h _
def PA (X:Cx) (es:List Expr) (t:TA):Prop :=
 ∀(pos:Pos) (pins:List (Addr×Obj)) (s:Shared) (σ:St) (H:Hp) (Q:List V->Hp->Prop),Inv X pins σ H s->t σ H Q->wpAny (model X.prog X.w) X.A (spliced (backTo pos (starEach es X.env))) (AP X pins σ Q) X.xe s
def PS (X:Cx) (st:Stmt) (t:TS):Prop :=
 ∀(pins:List (Addr×Obj)) (s:Shared) (σ:St) (H:Hp) (D:Gj),Inv X pins σ H s->t D σ H->wpAny (model X.prog X.w) X.A (exec st X.env) (SP X pins D) X.xe s
def PSs (X:Cx) (st:List Stmt) (t:TS):Prop :=
 ∀(pins:List (Addr×Obj)) (s:Shared) (σ:St) (H:Hp) (D:Gj),Inv X pins σ H s->t D σ H->wpAny (model X.prog X.w) X.A (execs st X.env) (SP X pins D) X.xe s
theorem thn {α:Type}{t:Sem α}{Q Q':α->Shared->Prop}{M:Model}{A:Around}{E:Value->Shared->Prop}{s:Shared} (h:wpAny M A t Q E s) (hQ:∀a s,Q a s->Q' a s):wpAny M A t Q' E s:=DO h hQ fun _ _ x=>x
end L2
namespace L2
open PySem PySem.Spec PyProof.Rows
section
variable {X:Cx}
theorem bin {a b:Expr}{ta tb:TE} (ha:PE X a ta) (hb:PE X b tb) {pins:List (Addr×Obj)}{s:Shared}{σ:St}{H:Hp}{R:V->V->Hp->Prop} (I:Inv X pins σ H s) (h:ta σ H fun x H1=>tb σ H1 fun y H2=>R x y H2)
  {α:Type} {Q:α->Shared->Prop} {f:Value->Value->Sem α}
  (hf:∀v u s2 x y H2,Inv X pins σ H2 s2->RelV x v->RelV y u->R x y H2->wpAny (model X.prog X.w) X.A (f v u) Q X.xe s2):
  wpAny (model X.prog X.w) X.A (eval a X.env) (fun v s₁=>wpAny (model X.prog X.w) X.A (eval b X.env) (fun u s₂=>wpAny (model X.prog X.w) X.A (f v u) Q X.xe s₂) X.xe s₁) X.xe s:=by
 refine thn (ha pins s σ H _ I h) fun v s1 ⟨x,H1,I1,r1,q1⟩=>?_
 refine thn (hb pins s1 σ H1 _ I1 q1) fun u s2 ⟨y,H2,I2,r2,q2⟩=>?_
 exact hf v u s2 x y H2 I2 r1 r2 q2
def En (i:Nat):TE:=fun σ H Q=>∃v,σ[i]?=some (some v)/\Q v H
def tC (v:V):TE:=fun _ H Q=>Q v H
theorem UP {i:Nat}{x:Str}{pos:Pos} (hN:X.N[i]?=some x) (hv:Vis X.env.scope x) (hd:(x==("__debug__":Str))=false:=by decide) (hcd:(x==("__classdict__":Str))=false:=by decide):PE X (.Name x pos) (En i):=by
 intro pins s σ H Q I h
 obtain⟨v,e,h⟩:=h
 obtain⟨m,hn,hl⟩:=I.loc
 obtain⟨u,r,l⟩:=hl i x v hN e hv
 have fin:EP X pins σ Q u s:=⟨v,H,I,r,h⟩
 rcases l with ⟨hk,hm⟩ | ⟨hk,c,hc,hcell⟩
 .exact RB (wpAny_loadName_local I.ok.kind hk hn hm fin) hd
 .rcases hk with hk | hk
  .exact RB (wpAny_loadName_cell I.ok.kind hk hc hcell fin) hd
  .exact RB (wpAny_loadName_free I.ok.kind hk hc hcell fin hcd) hd
theorem AU {i j pos}:PE X (.Constant (.int i) j pos) (tC (.int i)):=fun _ _ _ H _ I h=>wpAny_Constant_int ⟨.int i,H,I.tok _,⟨_,rfl⟩,h⟩
theorem OU {b j pos}:PE X (.Constant (.bool b) j pos) (tC (.bl b)):=fun _ _ _ H _ I h=>Constant_bool ⟨.bl b,H,I,rfl,h⟩
theorem Du {j pos}:PE X (.Constant .none j pos) (tC .non):=fun _ _ _ H _ I h=>Constant_none ⟨.non,H,I,rfl,h⟩
theorem Dh {x j pos}:PE X (.Constant (.str x) j pos) (tC (.str x)):=fun _ _ _ H _ I h=>Calls.Constant_str ⟨.str x,H,I.tok _,⟨_,rfl⟩,h⟩
def Gl (X:Cx) (x:Str):Prop:=X.env.kindOf x=some .globalImplicit
theorem Hk {E:Value->Shared->Prop}{pins:List (Addr×Obj)}{s:Shared}{σ:St}{H:Hp}{x:Str}{u:Value}{pos:Pos}{Q:Value->Shared->Prop} (I:Inv X pins σ H s) (hg:Gl X x) (hm:X.mg x=some u) (h:Q u s)
  (hd:(x==("__debug__":Str))=false:=by decide):wpAny (model X.prog X.w) X.A (eval (.Name x pos) X.env) Q E s :=
 Yo I.ok.kind hg (Calls.loadGlobal_global (by rw[I.ok.glob];exact I.mod.glob.keeps I.bk) hm h) hd
theorem G0 {E:Value->Shared->Prop}{pins:List (Addr×Obj)}{s:Shared}{σ:St}{H:Hp}{x:Str}{u:Value}{pos:Pos}{Q:Value->Shared->Prop} (I:Inv X pins σ H s) (hg:Gl X x) (hm:X.mg x=none) (hv:bootBuiltins x=some u) (h:Q u s)
  (hn:x≠"__name__":=by decide) (hd:(x==("__debug__":Str))=false:=by decide):wpAny (model X.prog X.w) X.A (eval (.Name x pos) X.env) Q E s:=by
 obtain⟨mb,h1,h2⟩:=I.mod.blt
 exact Yo I.ok.kind hg (Calls.loadGlobal_builtin (by rw[I.ok.glob];exact I.mod.glob.keeps I.bk) hm (by rw[I.ok.blt];exact h1.keeps I.bk) ((h2 x hn).trans hv) h) hd
theorem dn {x:Str}{v:V}{u:Value}{pos:Pos} (hg:Gl X x) (hm:X.mg x=some u) (r:RelV v u) (hd:(x==("__debug__":Str))=false:=by decide):PE X (.Name x pos) (tC v) :=
 fun _ _ _ H _ I h=>Hk I hg hm ⟨v,H,I,r,h⟩ hd
variable {a b:Expr}{ta tb:TE}{pos:Pos}
def PC (X:Cx) (op:CmpOp) (a b:Expr) (t:TE):Prop :=
 ∀(pins:List (Addr×Obj)) (s:Shared) (σ:St) (H:Hp) (Q:VK),Inv X pins σ H s->t σ H Q->
  wpAny (model X.prog X.w) X.A (eval a X.env) (fun v s₁=>wpAny (model X.prog X.w) X.A (eval b X.env) (fun u s₂=>wpAny (model X.prog X.w) X.A (compareOp op v u) (EP X pins σ Q) X.xe s₂) X.xe s₁) X.xe s
theorem T4 (b:Expr) {op:CmpOp} (h:op≠.In) (h2:op≠.NotIn):behindInMarks op b=false:=by
 have e1:(op==CmpOp.In)=false:=by cases op <;> first | rfl | exact absurd rfl h
 have e2:(op==CmpOp.NotIn)=false:=by cases op <;> first | rfl | exact absurd rfl h2
 cases b <;> simp[behindInMarks,e1,e2]
def tB (t:TE):TT:=fun σ H Q=>t σ H fun x H1=>∃c,x=.bl c/\Q c H1
theorem OW {op:CmpOp}{t:TE} (h:PC X op a b t) (h1:behindInMarks op b=false:=by first | exact T4 _ (by decide) (by decide) | rfl):PE X (.Compare a [op] [b] pos) t:=fun pins s σ H Q I hw=>wpAny_Compare1 (h pins s σ H Q I hw) h1
theorem iZ {op:CmpOp}{t:TE} (h:PC X op a b t) (h1:behindInMarks op b=false:=by first | exact T4 _ (by decide) (by decide) | rfl):PT X (.Compare a [op] [b] pos) (tB t):=by
 intro pins s σ H Q I hw
 refine ZX (thn (h pins s σ H _ I hw) fun v s1 h1=>thn h1 fun u s2 h2=>thn h2 fun c s3 ⟨x,H1,I1,r1,q1⟩=>?_) h1
 obtain⟨d,rfl,q⟩:=q1
 cases r1
 exact F0 ⟨H1,I1,q⟩
theorem DE {e:Expr}{t:TE} (h:PE X e t) (he:∀whole,isTrue e X.env whole=(do let v <- whole;standAt e.pos;holding [v] (truthy v)):=by intro _;rfl):PT X e (tB t):=by
 intro pins s σ H Q I hw
 refine isTrue_plain (thn (h pins s σ H _ I hw) fun v s1 ⟨x,H1,I1,r1,q1⟩=>?_) (he _)
 obtain⟨d,rfl,q⟩:=q1
 cases r1
 exact F0 ⟨H1,I1,q⟩
variable {tA tB':TT}{rest:List Expr}
def gk (t u:TT):TT:=fun σ H Q=>t σ H fun c H1=>if c=true then u σ H1 Q else Q false H1
def tOr (t u:TT):TT:=fun σ H Q=>t σ H fun c H1=>if c=true then Q true H1 else u σ H1 Q
def hZ (t:TT):TT:=fun σ H Q=>t σ H fun c H1=>Q (!c) H1
theorem Em (ha:PT X a tA):PW X (.BoolOp .And [a] pos) tA:=by
 intro wh pins s σ H Q I h
 refine isTrue_and (thn (ha pins s σ H Q I h) fun c s1 e=>?_)
 cases c with
 | true=>exact isTrue_and_nil e
 | false=>exact e
theorem Jd (ha:PT X a tA):PW X (.BoolOp .Or [a] pos) tA:=by
 intro wh pins s σ H Q I h
 refine isTrue_or (thn (ha pins s σ H Q I h) fun c s1 e=>?_)
 cases c with
 | false=>exact isTrue_or_nil e
 | true=>exact e
theorem Dv (ha:PT X a tA) (hb:PW X (.BoolOp .And (b::rest) pos) tB'):PW X (.BoolOp .And (a::b::rest) pos) (gk tA tB'):=by
 intro wh pins s σ H Q I h
 refine isTrue_and (thn (ha pins s σ H _ I h) fun c s1 ⟨H1,I1,q1⟩=>?_)
 cases c with
 | true=>exact hb wh pins s1 σ H1 Q I1 q1
 | false=>exact⟨H1,I1,q1⟩
theorem Hr (ha:PT X a tA) (hb:PW X (.BoolOp .Or (b::rest) pos) tB'):PW X (.BoolOp .Or (a::b::rest) pos) (tOr tA tB'):=by
 intro wh pins s σ H Q I h
 refine isTrue_or (thn (ha pins s σ H _ I h) fun c s1 ⟨H1,I1,q1⟩=>?_)
 cases c with
 | true=>exact⟨H1,I1,q1⟩
 | false=>exact hb wh pins s1 σ H1 Q I1 q1
theorem EG (ha:PT X a tA):PT X (.UnaryOp .Not a pos) (hZ tA):=by
 intro pins s σ H Q I h
 exact isTrue_not (ha pins s σ H (fun c H1=>Q (!c) H1) I h)
def gm (ta tb:TE):TE:=fun σ H Q=>ta σ H fun x H1=>∃c,x=.bl c/\if c=true then tb σ H1 Q else Q (.bl false) H1
def iA (ta tb:TE):TE:=fun σ H Q=>ta σ H fun x H1=>∃c,x=.bl c/\if c=true then Q (.bl true) H1 else tb σ H1 Q
theorem E4 {op}{t:TE} (h:PE X a t):PE X (.BoolOp op [a] pos) t:=fun pins s σ H Q I hw=>BoolOp_one (h pins s σ H Q I hw)
theorem E3 (ha:PE X a ta) (hb:PE X (.BoolOp .And (b::rest) pos) tb):PE X (.BoolOp .And (a::b::rest) pos) (gm ta tb):=by
 intro pins s σ H Q I h
 refine BoolOp_and (thn (ha pins s σ H _ I h) fun v s1 ⟨x,H1,I1,r1,q1⟩=>?_)
 obtain⟨c,rfl,q1⟩:=q1
 cases r1
 refine F0 ?_
 cases c with
 | true=>exact hb pins s1 σ H1 Q I1 q1
 | false=>exact⟨.bl false,H1,I1,rfl,q1⟩
theorem dy (ha:PE X a ta) (hb:PE X (.BoolOp .Or (b::rest) pos) tb):PE X (.BoolOp .Or (a::b::rest) pos) (iA ta tb):=by
 intro pins s σ H Q I h
 refine BoolOp_or (thn (ha pins s σ H _ I h) fun v s1 ⟨x,H1,I1,r1,q1⟩=>?_)
 obtain⟨c,rfl,q1⟩:=q1
 cases r1
 refine F0 ?_
 cases c with
 | false=>exact hb pins s1 σ H1 Q I1 q1
 | true=>exact⟨.bl true,H1,I1,rfl,q1⟩
def tIf (t:TT) (ta tb:TE):TE:=fun σ H Q=>t σ H fun c H1=>if c=true then ta σ H1 Q else tb σ H1 Q
theorem LP {c:Expr} (hc:PT X c tA) (ha:PE X a ta) (hb:PE X b tb):PE X (.IfExp c a b pos) (tIf tA ta tb):=by
 intro pins s σ H Q I h
 refine wpAny_IfExp (thn (hc pins s σ H _ I h) fun d s1 ⟨H1,I1,q1⟩=>?_)
 cases d with
 | true=>exact ha pins s1 σ H1 Q I1 q1
 | false=>exact hb pins s1 σ H1 Q I1 q1
end
end L2
namespace L2
open PySem PySem.Spec PyProof.Rows
def SqL (K:AD) (H:Hp) (a:Addr) (xs:List V):Prop :=
 Rd H a (.lst xs)\/
  ∃(o:Obj) (its:Array Value) (n:Nat),K.lookup a=some o/\o.cls=.type "list"/\o.dict=none/\o.data=.seq its n/\its.size<=sizeLine/\Vals xs its.toList
def SqT (K:AD) (H:Hp) (a:Addr) (xs:List V):Prop :=
 Rd H a (.tup xs)\/
  ∃(o:Obj) (its:Array Value) (n:Nat),K.lookup a=some o/\o.cls=.type "tuple"/\o.data=.seq its n/\its.size<=sizeLine/\Vals xs its.toList
def Zg:Value->Option V
 | .none=>some .non
 | .bool b=>some (.bl b)
 | .int i _=>some (.int i)
 | .str x _=>some (.str x)
 | .bytes b _=>some (.byt b)
 | .float b _=>some (.flt b)
 | .ref a=>some (.ref a)
 | .type n=>some (.ty n)
 | _=>none
theorem RelV.abs {x:V}{u:Value} (r:RelV x u):Zg u=some x:=by
 cases x with
 | non=>cases r;rfl
 | bl _=>cases r;rfl
 | int _=>obtain⟨t,rfl⟩:=r;rfl
 | str _=>obtain⟨t,rfl⟩:=r;rfl
 | byt _=>obtain⟨t,rfl⟩:=r;rfl
 | flt _=>obtain⟨t,rfl⟩:=r;rfl
 | ref _=>cases r;rfl
 | ty _=>cases r;rfl
theorem RelV.inj {x y:V}{u:Value} (r:RelV x u) (q:RelV y u):x=y:=Af (r.abs.symm.trans q.abs)
theorem Vals.inj:∀{xs ys:List V}{us:List Value},Vals xs us->Vals ys us->xs=ys
 | _,_,_,.nil,.nil=>rfl
 | _,_,_,.cons r t,.cons r' t'=>by rw[r.inj r',Vals.inj t t']
section
variable {X:Cx}{pins:List (Addr×Obj)}{σ:St}{H:Hp}{s:Shared}{a:Addr}{xs ys:List V}
theorem SqL.of {K:AD} (h:H a=some (.lst xs)):SqL K H a xs:=.inl (.inl h)
theorem SqT.of {K:AD} (h:H a=some (.tup xs)):SqT K H a xs:=.inl (.inl h)
theorem Inv.list (I:Inv X pins σ H s) (h:SqL X.K H a xs):∃its:List Value,Vals xs its/\PlainL s.heap a its.toArray/\xs.length<=sizeLine:=by
 rcases h with h | ⟨o,its,n,hk,hc,hd,hs,hz,r⟩
 .obtain⟨z,its,n,r,e⟩:=h.ok I.hok
  exact⟨its,r,⟨_,n,e,rfl,rfl,rfl⟩,z⟩
 .refine⟨its.toList,r,⟨o,n,I.kIn a o hk,hc,hd,by simpa using hs⟩,?_⟩
  have e:=r.length
  simp only[G8] at e
  omega
theorem Inv.tuple (I:Inv X pins σ H s) (h:SqT X.K H a xs):∃its:List Value,Vals xs its/\IsTup s.heap a its.toArray/\xs.length<=sizeLine:=by
 rcases h with h | ⟨o,its,n,hk,hc,hs,hz,r⟩
 .obtain⟨z,its,r,p⟩:=h.ok I.hok
  exact⟨its,r,p,z⟩
 .refine⟨its.toList,r,⟨o,I.kIn a o hk,hc,n,by simpa using hs⟩,?_⟩
  have e:=r.length
  simp only[G8] at e
  omega
theorem Inv.list_inj (I:Inv X pins σ H s) (h:SqL X.K H a xs) (h':SqL X.K H a ys):xs=ys:=by
 obtain⟨its,r,⟨o,n,e,_,_,d⟩,_⟩:=I.list h
 obtain⟨its',r',⟨o',n',e',_,_,d'⟩,_⟩:=I.list h'
 rw[e] at e';cases e'
 rw[d] at d'
 injection d' with d1 _
 have:its=its':=by simpa using congrArg Pr d1
 subst this
 exact r.inj r'
theorem Inv.tuple_inj (I:Inv X pins σ H s) (h:SqT X.K H a xs) (h':SqT X.K H a ys):xs=ys:=by
 obtain⟨its,r,⟨o,e,_,n,d⟩,_⟩:=I.tuple h
 obtain⟨its',r',⟨o',e',_,n',d'⟩,_⟩:=I.tuple h'
 rw[e] at e';cases e'
 rw[d] at d'
 injection d' with d1 _
 have:its=its':=by simpa using congrArg Pr d1
 subst this
 exact r.inj r'
end
abbrev Cx.wish (X:Cx) (E:Value->Shared->Prop):Cx:={ X with xe:=E }
abbrev Cx.nox (X:Cx):Cx:=X.wish fun _ _=>False
theorem Cx.Ok.wish {X:Cx} (ok:X.Ok) (E:Value->Shared->Prop):(X.wish E).Ok :=
 ⟨ok.mod,ok.kind,ok.glob,ok.blt,ok.above,ok.inj,ok.has,ok.cab,ok.hd,ok.frames,ok.stk,ok.exf,ok.bs,ok.bsz,ok.noex,ok.exfs,ok.funs,ok.frf⟩
theorem Cx.Ok.unwish {X:Cx}{E:Value->Shared->Prop} (ok:(X.wish E).Ok):X.Ok :=
 ⟨ok.mod,ok.kind,ok.glob,ok.blt,ok.above,ok.inj,ok.has,ok.cab,ok.hd,ok.frames,ok.stk,ok.exf,ok.bs,ok.bsz,ok.noex,ok.exfs,ok.funs,ok.frf⟩
section
variable {X:Cx}{pins:List (Addr×Obj)}{σ:St}{H:Hp}{s:Shared}{E:Value->Shared->Prop}
theorem Inv.wish (I:Inv X pins σ H s) (E:Value->Shared->Prop):Inv (X.wish E) pins σ H s:=⟨I.ok.wish E,I.os,I.bare,I.base,I.loc,I.cell,I.free,I.freeC,I.pin,I.hok,I.len⟩
theorem Inv.unwish (I:Inv (X.wish E) pins σ H s):Inv X pins σ H s:=⟨I.ok.unwish,I.os,I.bare,I.base,I.loc,I.cell,I.free,I.freeC,I.pin,I.hok,I.len⟩
theorem SP.unwish {D:Gj}{f:Flow}{s':Shared} (h:SP (X.wish E) pins D f s'):SP X pins D f s':=by
 cases f with
 | next=>obtain⟨σ',H',I,q⟩:=h;exact⟨σ',H',I.unwish,q⟩
 | brk=>obtain⟨σ',H',I,q⟩:=h;exact⟨σ',H',I.unwish,q⟩
 | cont=>obtain⟨σ',H',I,q⟩:=h;exact⟨σ',H',I.unwish,q⟩
 | ret u=>obtain⟨v,σ',H',I,r,q⟩:=h;exact⟨v,σ',H',I.unwish,r,q⟩
theorem PSs.nox {st:List Stmt}{t:TS} (h:PSs X.nox st t):PSs X st t:=fun pins s σ H D I hw =>
 DO (h pins s σ H D (I.wish _) hw) (fun _ _ q=>q.unwish) fun _ _ z=>Bf z
end
section
variable {X:Cx}{st:Stmt}{rest:List Stmt}{t u:TS}{e:Expr}{te:TE}{pos:Pos}
def PY:TS:=fun D σ H=>D.nx σ H
def Lv (t u:TS):TS:=fun D σ H=>t { D with nx:=u D } σ H
theorem Aw:PSs X [] PY:=fun _ _ σ H _ I h=>RD ⟨σ,H,I,h⟩
theorem AJ (h1:PS X st t) (h2:PSs X rest u):PSs X (st::rest) (Lv t u):=by
 intro pins s σ H D I h
 refine ZU (thn (h1 pins s σ H { D with nx:=u D } I h) fun f s1 q=>?_)
 cases f with
 | next =>
  obtain⟨σ',H',I',q⟩:=q
  exact h2 pins s1 σ' H' D I' q
 | ret v=>exact q
 | brk=>exact q
 | cont=>exact q
theorem AK (h1:PS X st t):PSs X [st] t:=by
 intro pins s σ H D I h
 refine ZU (thn (h1 pins s σ H D I h) fun f s1 q=>?_)
 cases f with
 | next=>exact RD q
 | ret v=>exact q
 | brk=>exact q
 | cont=>exact q
theorem Inv.quiet {pins:List (Addr×Obj)}{σ:St}{H:Hp}{s:Shared} (I:Inv X pins σ H s):interactive X.env=false:=by simp[interactive,I.ok.kind]
def gz (te:TE):TS:=fun D σ H=>te σ H fun _ H1=>D.nx σ H1
theorem El (he:PE X e te) (hs:swapsWith e none pos.line X.env=pure false:=by rfl):PS X (.Expr e pos) (gz te):=by
 intro pins s σ H D I h
 exact wpAny_Expr_any (thn (he pins s σ H _ I h) fun v s1 ⟨x,H1,I1,r1,q1⟩=>⟨σ,H1,I1,q1⟩) I.quiet hs
def IC (te:TE):TS:=fun D σ H=>te σ H D.rt
theorem AM (he:PE X e te):PS X (.Return (some e) pos) (IC te):=by
 intro pins s σ H D I h
 exact wpAny_Return_some (thn (he pins s σ H _ I h) fun v s1 ⟨x,H1,I1,r1,q1⟩=>⟨x,σ,H1,I1,r1,q1⟩)
def PV (c:TT) (t u:TS):TS:=fun D σ H=>c σ H fun b H1=>if b=true then t D σ H1 else u D σ H1
theorem As {c:Expr}{a b:List Stmt}{tc:TT} (hc:PT X c tc) (ha:PSs X a t) (hb:PSs X b u):PS X (.If c a b pos) (PV tc t u):=by
 intro pins s σ H D I h
 refine wpAny_If (thn (hc pins s σ H _ I h) fun d s1 ⟨H1,I1,q1⟩=>?_)
 cases d with
 | true=>exact ha pins s1 σ H1 D I1 q1
 | false=>exact hb pins s1 σ H1 D I1 q1
end
abbrev TG:=V->St->Hp->(St->Hp->Prop)->Prop
abbrev TGs:=List V->St->Hp->(St->Hp->Prop)->Prop
def PG (X:Cx) (target:Expr) (t:TG):Prop :=
 ∀(pins:List (Addr×Obj)) (s:Shared) (σ:St) (H:Hp) (v:V) (u:Value) (Q:St->Hp->Prop),Inv X pins σ H s->RelV v u->t v σ H Q->
  wpAny (model X.prog X.w) X.A (assign target X.env u) (fun _ s'=>∃σ' H',Inv X pins σ' H' s'/\Q σ' H') X.xe s
def PGs (X:Cx) (ts:List Expr) (t:TGs):Prop :=
 ∀(pins:List (Addr×Obj)) (s:Shared) (σ:St) (H:Hp) (vs:List V) (us:List Value) (Q:St->Hp->Prop),Inv X pins σ H s->Vals vs us->t vs σ H Q->
  wpAny (model X.prog X.w) X.A (assignInOrder ((assignEach ts X.env).map (·.2)) us) (fun _ s'=>∃σ' H',Inv X pins σ' H' s'/\Q σ' H') X.xe s
section
variable {X:Cx}{pos:Pos}
def Ky (i:Nat):TG:=fun v σ H Q=>Q (σ.set i (some v)) H
theorem CT {i:Nat}{x:Str} (hN:X.N.Nodup) (hi:X.N[i]?=some x) (hx:Loc X.env.scope x) (hf:X.fn x=true\/X.env.scope.names.lookup x=some .local:=by first | exact .inl rfl | exact .inr rfl | assumption):PG X (.Name x pos) (Ky i):=by
 intro pins s σ H v u Q I r h
 exact ZT (Xc I hN hi hx r (fun s' I'=>⟨_,H,I',h⟩) hf)
def bL:TGs:=fun vs σ H Q=>vs=[]/\Q σ H
def bK (t:TG) (u:TGs):TGs:=fun vs σ H Q=>∃v r,vs=v::r/\t v σ H fun σ' H'=>u r σ' H' Q
theorem UR:PGs X [] bL:=by
 intro pins s σ H vs us Q I r h
 obtain⟨e,h⟩:=h
 subst e
 cases r
 exact assignInOrder_nil ⟨σ,H,I,h⟩
theorem LQ {e:Expr}{es:List Expr}{t:TG}{u:TGs} (h1:PG X e t) (h2:PGs X es u)
  (hs:(assignEach (e::es) X.env).map (·.2)=assign e X.env::(assignEach es X.env).map (·.2):=by rfl):PGs X (e::es) (bK t u):=by
 intro pins s σ H vs us Q I r h
 obtain⟨v,vr,e1,h⟩:=h
 subst e1
 cases r with
 | cons r rr =>
  rw[hs]
  refine assignInOrder_cons (thn (h1 pins s σ H _ _ _ I r h) fun _ s1 ⟨σ1,H1,I1,q1⟩=>?_)
  exact h2 pins s1 σ1 H1 _ _ Q I1 rr q1
def bN (K:AD) (n:Nat) (t:TGs):TG:=fun v σ H Q=>∃a xs,v=.ref a/\SqT K H a xs/\xs.length=n/\t xs σ H Q
theorem UQ {es:List Expr}{k:Nat}{t:TGs}{n:Nat} (hc:X.calm=true) (h:PGs X es t)
  (hn:(assignEach es X.env).length=n:=by rfl) (hst:(assignEach es X.env).findIdx? (·.1)=none:=by rfl):PG X (.Tuple es k pos) (bN X.K n t):=by
 intro pins s σ H v u Q I r hw
 obtain⟨a,xs,e1,hq,hl,hw⟩:=hw
 subst e1
 cases r
 obtain⟨its,rv,ht,hz⟩:=I.tuple hq
 refine assign_Tuple_tuple (I.ok.hd hc) ht (by simp[hn,<- hl,rv.length]) hst fun h' hx=>?_
 have I1:Inv X pins σ H { s with heap:=h' }:=I.kept (t':=s.toks) fun b o e=>hx b o (B1 (BJ e)) e
 exact h pins _ σ H xs _ Q I1 (by simpa using rv) hw
def Xg (te:TE) (g:TG):TS:=fun D σ H=>te σ H fun x H1=>g x σ H1 D.nx
theorem BN {i:Nat}{x:Str}{e:Expr}{te:TE}{pos':Pos} (hN:X.N.Nodup) (hi:X.N[i]?=some x) (hx:Loc X.env.scope x) (he:PE X e te) (hs:swapsWith e (some (.Name x pos')) pos.line X.env=pure false:=by rfl) (hf:X.fn x=true\/X.env.scope.names.lookup x=some .local:=by first | exact .inl rfl | exact .inr rfl | assumption):
  PS X (.Assign [.Name x pos'] e pos) (Xg te (Ky i)):=by
 intro pins s σ H D I h
 refine wpAny_Assign_Name (thn (he pins s σ H _ I h) fun v s1 ⟨y,H1,I1,r1,q1⟩=>?_) hs
 exact Xc I1 hN hi hx r1 (fun s2 I2=>⟨_,H1,I2,q1⟩) hf
end
section
variable {X:Cx}{pos:Pos}
end
structure It where
 go:Nat->Hp->Prop
 yld:Nat->Hp->V->Hp->Prop
 stop:Nat->Hp->Prop
def EX (X:Cx) (pins:List (Addr×Obj)) (H:Hp) (b:Addr):Prop :=
 H b=none/\b≠X.env.locals/\b∉X.fs/\(b∈X.ex\/X.s_0.heap.objs.size<=b)/\(∀x c,X.env.cells.lookup x=some c->c≠b)/\∀p∈X.pn++pins,p.1≠b
theorem Inv.fpOk {X:Cx}{pins:List (Addr×Obj)}{σ:St}{H H':Hp}{s:Shared}{b:Addr} (I:Inv X pins σ H s) (hb:s.heap.objs.size<=b) (hn:H' b=none):EX X pins H' b:=by
 refine⟨hn,KA (CU I.lt hb),I.nofs hb,.inr (CW I.sz hb),fun x c e z=>?_,fun p hp z=>?_⟩
 .obtain⟨v,q⟩:=I.cell x c e
  exact absurd (CU q.lt (by rw[z];exact hb)) (C3 _)
 .exact absurd (CU (BJ (I.pin p hp).1) (by rw[z];exact hb)) (C3 _)
structure Et (P:Program) (w:World) (K:AD) (tg:Expr) (J:It) (fp:List Addr) (it:Addr) (tn:Nat->Heap->Prop):Prop where
 mem:it∈fp
 obj:∀i h,tn i h->∀b∈fp,∃o,h.get? b=some o/\∀v,o.data≠.cell v
 keep:∀i h h',tn i h->(∀b∈fp,∀o,h.get? b=some o->h'.get? b=some o)->tn i h'
 item:∀(X:Cx),X.prog=P->X.w=w->X.K=K->X.calm=true->∀(i:Nat) (pins:List (Addr×Obj)) (s:Shared) (σ:St) (H:Hp) (E:Value->Shared->Prop),Inv X pins σ H s->(∀b∈fp,EX X pins H b)->tn i s.heap->J.go i H->
  wpAny (model P w) X.A (pyNext (.ref it)) (fun r s1=>∃u,r=some u/\
   wpAny (model P w) X.A (letOwnedTupleGo tg (.ref it) u) (fun _ s2=>∃x H',Inv X pins σ H' s2/\RelV x u/\J.yld i H x H'/\tn (i+1) s2.heap/\∀b∈fp,H' b=none) E s1) E s
 done:∀(X:Cx),X.prog=P->X.w=w->X.K=K->X.calm=true->∀(i:Nat) (pins:List (Addr×Obj)) (s:Shared) (σ:St) (H:Hp) (E:Value->Shared->Prop),Inv X pins σ H s->(∀b∈fp,EX X pins H b)->tn i s.heap->J.stop i H->
  wpAny (model P w) X.A (pyNext (.ref it)) (fun r s1=>r=none/\Inv X pins σ H s1) E s
 self:∀(A:Around) (i:Nat) (s:Shared) (Q:Value->Shared->Prop) (E:Value->Shared->Prop),tn i s.heap->Q (.ref it) s->wpAny (model P w) A (pyIter (.ref it)) Q E s
abbrev TI:=St->Hp->(It->Hp->Prop)->Prop
def PIE (X:Cx) (pins:List (Addr×Obj)) (σ:St) (tg:Expr) (R:It->Hp->Prop) (itv:Value) (s2:Shared):Prop :=
 ∃(it:Addr) (fp:List Addr) (tn:Nat->Heap->Prop) (J:It) (H':Hp),itv=.ref it/\Inv X pins σ H' s2/\Et X.prog X.w X.K tg J fp it tn/\tn 0 s2.heap/\(∀b∈fp,EX X pins H' b)/\R J H'
def PI (X:Cx) (tg iter:Expr) (wi:TI):Prop :=
 ∀(pins:List (Addr×Obj)) (s:Shared) (σ:St) (H:Hp) (R:It->Hp->Prop),Inv X pins σ H s->wi σ H R->
  wpAny (model X.prog X.w) X.A (eval iter X.env) (fun v s1=>wpAny (model X.prog X.w) X.A (pyIter v) (PIE X pins σ tg R) X.xe s1) X.xe s
theorem Hc {M : Model} {A : Around} {E : Value -> Shared -> Prop} {s : Shared} {tg : Expr} {it : Addr} {u : Value} {o : Obj} {n : String} {vs : Array Value} {Q : Unit -> Shared -> Prop} (ho : s.heap.get? it = some o) (hc : o.cls = .type n) (hd : o.data = .fields vs)
    (hn : ["enumerate", "zip", "dict_itemiterator", "dict_reverseitemiterator", "odict_iterator", "itertools.zip_longest", "itertools.pairwise"].contains n = false) (hQ : Q () s) : wpAny M A (letOwnedTupleGo tg (.ref it) u) Q E s := by
  unfold letOwnedTupleGo
  cases tg <;> first
    | exact AZ hQ
    | (cases u <;> first
        | exact AZ hQ
        | (refine AI (wpAny_load ho ?_)
           rw [hc, hd]
           show wpAny M A (if (["enumerate", "zip", "dict_itemiterator", "dict_reverseitemiterator", "odict_iterator", "itertools.zip_longest", "itertools.pairwise"].contains n && vs[0]? == some (rawInt _)) = true then _ else _) Q E s
           rw [JJx (by intro h; rw [hn, DW] at h; cases h)]
           exact AZ hQ))
def Itl (K:AD) (a:Addr):It :=
 ⟨fun i H=>∃xs x,SqL K H a xs/\xs[i]?=some x,fun i H x H'=>H'=H/\∀xs,SqL K H a xs->xs[i]?=some x,fun i H=>∃xs,SqL K H a xs/\xs.length<=i⟩
def Itr (lo:Int) (n:Nat):It:=⟨fun i _=>i < n,fun i H x H'=>H'=H/\x=.int (lo+i),fun i _=>n<=i⟩
theorem iP {P:Program}{w:World}{K:AD}{tg:Expr} (a it:Addr):Et P w K tg (Itl K a) [it] it (fun i h=>h.IsListIter it a i) where
 mem:=by simp
 obj:=fun i h st b hb=>by
  have e:b=it:=by simpa using hb
  subst e
  obtain⟨o,e,c,d⟩:=st
  exact⟨o,e,fun v z=>by rw[d] at z;cases z⟩
 keep:=fun i h h' st k=>st.at fun o e=>k it (by simp) o e
 item:=by
  intro X hP hw hK hc i pins s σ H E I hf st hg
  subst hP hw hK
  obtain⟨xs,x,hq,hx⟩:=hg
  obtain⟨its,rv,p,hz⟩:=I.list hq
  obtain⟨u,hu,ru⟩:=rv.get hx
  obtain⟨f0,f1,f2,f3,f4,f5⟩:=hf it (by simp)
  refine wpAny_pyNext_list_item st p.isList (x:=u) (by simpa using hu) fun h' st' sb=>?_
  have I1:Inv X pins σ H { s with heap:=h' }:=I.turned (t':=s.toks) (fun b o hb e=>(sb.2 b hb).trans e) f0 f1 f3 f4 f5
  obtain⟨o,e,c,d⟩:=id st'
  exact⟨u,rfl,Hc (s:={ s with heap:=h' }) e c d (by decide) ⟨x,H,I1,ru,⟨rfl,fun ys hy=>by rw[I.list_inj hy hq];exact hx⟩,st',fun b hb=>(hf b hb).1⟩⟩
 done:=by
  intro X hP hw hK hc i pins s σ H E I hf st hg
  subst hP hw hK
  obtain⟨xs,hq,hx⟩:=hg
  obtain⟨its,rv,p,hz⟩:=I.list hq
  obtain⟨f0,f1,f2,f3,f4,f5⟩:=hf it (by simp)
  have hl:=rv.length
  exact wpAny_pyNext_list_end (I.ok.hd hc) st p.isList (by simp;omega) fun h' eb=>⟨rfl,I.turned (t':=s.toks) (fun b o hb e=>eb b o hb e) f0 f1 f3 f4 f5⟩
 self:=fun _ _ _ _ _ st h=>wpAny_pyIter_listiter st h
theorem iQ {P:Program}{w:World}{K:AD}{tg:Expr} (it:Addr) (lo:Int) (n:Nat):Et P w K tg (Itr lo n) [it] it (fun i h=>IsRangeIter h it (lo+(i:Nat) * 1) ((n:Int) - (i:Nat)) 1) where
 mem:=by simp
 obj:=fun i h st b hb=>by
  have e:b=it:=by simpa using hb
  subst e
  exact⟨_,st,fun v z=>by
   have z':Data.fields _=Data.cell v:=z
   cases z'⟩
 keep:=fun i h h' st k=>k it (by simp) _ st
 item:=by
  intro X hP hw hK hc i pins s σ H E I hf st hg
  subst hP hw hK
  obtain⟨f0,f1,f2,f3,f4,f5⟩:=hf it (by simp)
  have W:=Walks.range (prog:=X.prog) (w:=X.w) (I.ok.hd hc) it lo 1 n
  refine W.item i s _ _ hg st fun v h' tk hv st' kk=>?_
  obtain⟨t,rfl⟩:=hv
  have I1:Inv X pins σ H { s with heap:=h',toks:=tk }:=I.turned (fun b o hb e=>kk b o (by simpa using hb) e) f0 f1 f3 f4 f5
  refine⟨_,rfl,Hc (s:={ s with heap:=h',toks:=tk }) (n:="range_iterator") st' rfl rfl (by decide) ⟨.int (lo+i),H,I1,⟨t,?_⟩,⟨rfl,rfl⟩,st',fun b hb=>(hf b hb).1⟩⟩
  rw[Int.mul_one]
 done:=by
  intro X hP hw hK hc i pins s σ H E I hf st hg
  subst hP hw hK
  obtain⟨f0,f1,f2,f3,f4,f5⟩:=hf it (by simp)
  exact wpAny_pyNext_range_end (I.ok.hd hc) st (by have:n<=i:=hg;omega) fun h' eb=>⟨rfl,I.turned (t':=s.toks) (fun b o hb e=>eb b o hb e) f0 f1 f3 f4 f5⟩
 self:=fun _ _ _ _ _ st h=>wpAny_pyIter_rangeiter st h
end L2
namespace L2
open PySem PySem.Spec PyProof.Rows
section
variable {X:Cx}{tg:Expr}
def bZ (K:AD) (tl:TE):TI:=fun σ H R=>tl σ H fun x H1=>∃a,x=.ref a/\(∃xs,SqL K H1 a xs)/\R (Itl K a) H1
theorem DS {l:Expr}{tl:TE} (hl:PE X l tl):PI X tg l (bZ X.K tl):=by
 intro pins s σ H R I h
 refine thn (hl pins s σ H _ I h) fun v s1 ⟨x,H1,I1,r1,q1⟩=>?_
 obtain⟨a,e,⟨xs,hq⟩,q⟩:=q1
 subst e
 cases r1
 obtain⟨its,rv,p,hz⟩:=I1.list hq
 refine ZZ p.isList ?_
 refine⟨s1.heap.objs.size,[s1.heap.objs.size],_,_,H1,rfl,I1.kept (t':=s1.toks) fun b o e=>Bi _ e,iP a _,⟨_,CD _ rfl,rfl,rfl⟩,fun b hb=>?_,q⟩
 have e:b=s1.heap.objs.size:=by simpa using hb
 subst e
 exact I1.fpOk (Aa _) (I1.hok.fresh (Aa _))
theorem eZ {pins:List (Addr×Obj)}{σ:St}{H:Hp}{s:Shared}{R:It->Hp->Prop}{E:Value->Shared->Prop}{lo hi:Int}{t u v:Tok}{tk:Nat} (I:Inv X pins σ H s) (h1:-(2 ^ 62)<=lo) (h2:lo < 2 ^ 62) (h3:-(2 ^ 62)<=hi) (h4:hi < 2 ^ 62)
  (q:R (Itr lo (hi - lo).toNat) H):wpAny (model X.prog X.w) X.A (pyIter (.ref s.heap.objs.size)) (PIE X pins σ tg R) E { s with heap:=s.heap.push { cls:=.type "range",data:=.fields #[.int lo t,.int hi u,.int 1 v] },toks:=tk }:=by
 refine wpAny_pyIter_range (IsRange.new ..) (small_one h1 h2 h3 h4) ?_
 have I1:Inv X pins σ H { s with heap:=s.heap.push { cls:=.type "range",data:=.fields #[.int lo t,.int hi u,.int 1 v] },toks:=tk }:=I.kept fun b o e=>Bi _ e
 refine⟨(s.heap.push { cls:=.type "range",data:=.fields #[.int lo t,.int hi u,.int 1 v] }).objs.size,[(s.heap.push { cls:=.type "range",data:=.fields #[.int lo t,.int hi u,.int 1 v] }).objs.size],_,_,H,rfl,
  I1.kept (t':=tk) fun b o e=>Bi _ e,iQ _ lo (hi - lo).toNat,?_,fun b hb=>?_,q⟩
 .have e1:lo+((0:Nat):Int) * 1=lo:=by simp
  have e2:(((hi - lo).toNat:Nat):Int) - ((0:Nat):Int)=Builtin.Range.rangeSize lo hi 1:=by rw[rangeSize_one];split <;> omega
  show IsRangeIter _ _ (lo+((0:Nat):Int) * 1) ((((hi - lo).toNat:Nat):Int) - ((0:Nat):Int)) 1
  rw[e1,e2]
  exact CD _ rfl
 .have e:b=(s.heap.push { cls:=.type "range",data:=.fields #[.int lo t,.int hi u,.int 1 v] }).objs.size:=by simpa using hb
  subst e
  exact I1.fpOk (Aa _) (I1.hok.fresh (Aa _))
def bb (ta:TA):TI:=fun σ H R=>ta σ H fun vs H1=>∃j:Int,vs=[.int j]/\-(2 ^ 62)<=j/\j < 2 ^ 62/\R (Itr 0 j.toNat) H1
theorem eD {a:Expr}{ta:TA}{p pos:Pos} (hg:Gl X "range") (hm:X.mg "range"=none) (ha:PA X [a] ta) (hs:starEach [a] X.env=[(false,eval a X.env)]:=by rfl):PI X tg (.Call (.Name "range" p) [a] [] pos) (bb ta):=by
 intro pins s σ H R I h
 refine Call_ (G0 I hg hm boot_range (KG (thn (ha pos pins s σ H _ I h) fun us s1 ⟨vs,H1,I1,r1,q1⟩=>?_) hs rfl))
 obtain⟨j,e,q1,q2,q⟩:=q1
 subst e
 cases r1 with
 | cons r rr =>
  cases rr
  obtain⟨t,rfl⟩:=r
  exact call_range_1 (eZ I1 (by omega) (by omega) q1 q2 (by simpa using q))
def g7 (wi:TI) (g:TG) (tb:TS):TS:=fun D σ H=>wi σ H fun J H1=>∃W:Nat->Nat->St->Hp->Prop,(∃m,W 0 m σ H1)/\∀i m σ H,W i m σ H->
 (J.stop i H/\D.nx σ H)\/(J.go i H/\∃N:St->Hp->Prop,(∀σ' H',N σ' H'->∃m',m' < m/\W (i+1) m' σ' H')/\∀x H',J.yld i H x H'->g x σ H' fun σ2 H2=>tb { D with nx:=N,ct:=N,bk:=D.nx } σ2 H2)
def JZ (fp:List Addr) (h:Heap):List (Addr×Obj):=fp.filterMap fun b=>(h.get? b).map fun o=>(b,o)
theorem OG {fp:List Addr}{h:Heap}{b:Addr}{o:Obj} (hb:b∈fp) (e:h.get? b=some o):(b,o)∈JZ fp h:=YU.mpr ⟨b,hb,by rw[e];rfl⟩
theorem dN {fp:List Addr}{h:Heap}{p:Addr×Obj} (hp:p∈JZ fp h):p.1∈fp/\h.get? p.1=some p.2:=by
 obtain⟨b,hb,e⟩:=YU.mp hp
 cases q:h.get? b with
 | none=>rw[q] at e;cases e
 | some o =>
  rw[q] at e
  have e':(b,o)=p:=Af e
  subst e'
  exact⟨hb,q⟩
theorem Inv.pinned {pins:List (Addr×Obj)}{σ:St}{H:Hp}{s:Shared}{fp:List Addr} (I:Inv X pins σ H s) (hf:∀b∈fp,EX X pins H b) (ho:∀b∈fp,∃o,s.heap.get? b=some o/\∀v,o.data≠.cell v):Inv X (pins++JZ fp s.heap) σ H s :=
 I.pins_of fun p hp=>(DL.mp hp).elim (fun z=>I.pin p (Fw _ z)) fun z=>by
  obtain⟨hb,e⟩:=dN z
  obtain⟨f0,f1,f2,_⟩:=hf p.1 hb
  obtain⟨o,e',d⟩:=ho p.1 hb
  rw[e] at e';cases e'
  exact⟨e,f0,f1,f2,d⟩
theorem Inv.unpinned {pins pl:List (Addr×Obj)}{σ:St}{H:Hp}{s:Shared} (I:Inv X (pins++pl) σ H s):Inv X pins σ H s:=I.pins_of fun p hp=>I.pin p (Fw _ (IW _ hp))
theorem E6 {iter:Expr}{body:List Stmt}{wi:TI}{g:TG}{tb:TS}{pos:Pos} (hp:PassesOwn (model X.prog X.w) X.A X.env X.xe) (hc:X.calm=true) (hi:PI X tg iter wi) (hg:PG X tg g) (hb:PSs X body tb)
  (hs:∀x,foldedSetIterable iter X.env x=pure x:=by intro _;rfl):PS X (.For tg iter body [] pos) (g7 wi g tb):=by
 intro pins s σ H D I h
 refine wpAny_For (thn (hi pins s σ H _ I h) fun v s1 h1=>thn h1 fun itv s2 h2=>?_) hs
 obtain⟨it,fp,tn,J,H2,e,I2,T,st2,f2,W,⟨m0,w0⟩,turn⟩:=h2
 subst e
 have stat:∀{H':Hp},(∀b∈fp,H' b=none)->∀b∈fp,EX X pins H' b:=fun hn b hb=>⟨hn b hb,(f2 b hb).2⟩
 refine codeAny_forLoop_any (fun n s'=>∃i σ' H',Inv X pins σ' H' s'/\tn i s'.heap/\(∀b∈fp,H' b=none)/\W i n σ' H') ?_ m0 ⟨0,σ,H2,I2,st2,fun b hb=>(f2 b hb).1,w0⟩
 rintro n s3 ⟨i,σ3,H3,I3,st3,fr3,w3⟩
 rcases turn i n σ3 H3 w3 with ⟨stop,qn⟩ | ⟨go,N,hN,step⟩
 .refine KR hp (thn (T.done X rfl rfl rfl hc i pins s3 σ3 H3 X.xe I3 (stat fr3) st3 stop) fun r s4 ⟨hr,I4⟩=>?_)
  subst hr
  exact RD ⟨σ3,H3,I4,qn⟩
 .refine KR hp (thn (T.item X rfl rfl rfl hc i pins s3 σ3 H3 X.xe I3 (stat fr3) st3 go) fun r s4 ⟨u,hr,h4⟩=>?_)
  subst hr
  refine KR hp (thn h4 fun _ s5 ⟨x,H5,I5,r5,y5,st5,fr5⟩=>?_)
  have I5':=I5.pinned (stat fr5) (T.obj _ _ st5)
  refine KR hp (thn (hg _ s5 σ3 H5 x u _ I5' r5 (step x H5 y5)) fun _ s6 ⟨σ6,H6,I6,q6⟩=>?_)
  refine KR hp (thn (hb _ s6 σ6 H6 _ I6 q6) fun f s7 q7=>?_)
  have again:∀{σ7:St} {H7:Hp},Inv X (pins++JZ fp s5.heap) σ7 H7 s7->N σ7 H7->∃m,m < n/\∃i σ' H',Inv X pins σ' H' s7/\tn i s7.heap/\(∀b∈fp,H' b=none)/\W i m σ' H':=fun {σ7 H7} I7 n7=>by
   obtain⟨m',hm,w7⟩:=hN σ7 H7 n7
   refine⟨m',hm,i+1,σ7,H7,I7.unpinned,T.keep _ _ _ st5 fun b hb o e=>(I7.pin (b,o) (Fw _ (Fw _ (OG hb e)))).1,fun b hb=>?_,w7⟩
   obtain⟨o,e,d⟩:=T.obj _ _ st5 b hb
   exact(I7.pin (b,o) (Fw _ (Fw _ (OG hb e)))).2.1
  cases f with
  | next=>obtain⟨σ7,H7,I7,n7⟩:=q7;exact again I7 n7
  | cont=>obtain⟨σ7,H7,I7,n7⟩:=q7;exact again I7 n7
  | brk=>obtain⟨σ7,H7,I7,q7⟩:=q7;exact⟨σ7,H7,I7.unpinned,q7⟩
  | ret v=>obtain⟨x7,σ7,H7,I7,r7,q7⟩:=q7;exact⟨x7,σ7,H7,I7.unpinned,r7,q7⟩
end
theorem Ha {K:AD}{a:Addr}{xs:List V}{g:TG}{tb:TS}{D:Gj}{σ:St}{H:Hp} (Pv:Nat->St->Hp->Prop) (h0:Pv 0 σ H) (hl:∀i σ H,i<=xs.length->Pv i σ H->SqL K H a xs)
  (hs:∀i x σ H,xs[i]?=some x->Pv i σ H->g x σ H fun σ2 H2=>tb { D with nx:=Pv (i+1),ct:=Pv (i+1),bk:=D.nx } σ2 H2) (hd:∀σ H,Pv xs.length σ H->D.nx σ H):
  ∃W:Nat->Nat->St->Hp->Prop,(∃m,W 0 m σ H)/\∀i m σ H,W i m σ H->
   ((Itl K a).stop i H/\D.nx σ H)\/((Itl K a).go i H/\∃N:St->Hp->Prop,(∀σ' H',N σ' H'->∃m',m' < m/\W (i+1) m' σ' H')/\∀x H',(Itl K a).yld i H x H'->g x σ H' fun σ2 H2=>tb { D with nx:=N,ct:=N,bk:=D.nx } σ2 H2):=by
 refine⟨fun i m σ H=>m=xs.length - i/\i<=xs.length/\Pv i σ H,⟨xs.length,by simp,Ax _,h0⟩,?_⟩
 rintro i m σ H ⟨rfl,hi,p⟩
 have q:=hl i σ H hi p
 by_cases hlt:i < xs.length
 .refine .inr ⟨⟨xs,xs[i],q,by simp[hlt]⟩,Pv (i+1),fun σ' H' p'=>⟨xs.length - (i+1),by omega,rfl,hlt,p'⟩,fun x H' y=>?_⟩
  obtain⟨e,y⟩:=y
  subst e
  exact hs i x σ _ (y xs q) p
 .have e:i=xs.length:=by omega
  subst e
  exact .inl ⟨⟨xs,q,Aa _⟩,hd σ H p⟩
end L2
namespace L2
open PySem PySem.Spec PyProof.Rows
abbrev R2:=V->V->Hp->VK->Prop
def OpR (X:Cx) (f:Value->Value->Sem Value) (r:R2):Prop :=
 ∀(pins:List (Addr×Obj)) (s:Shared) (σ:St) (H:Hp) (x y:V) (v u:Value) (Q:VK),Inv X pins σ H s->RelV x v->RelV y u->r x y H Q->
  wpAny (model X.prog X.w) X.A (f v u) (EP X pins σ Q) X.xe s
def UnR (X:Cx) (f:Value->Sem Value) (r:V->Hp->VK->Prop):Prop :=
 ∀(pins:List (Addr×Obj)) (s:Shared) (σ:St) (H:Hp) (x:V) (v:Value) (Q:VK),Inv X pins σ H s->RelV x v->r x H Q->
  wpAny (model X.prog X.w) X.A (f v) (EP X pins σ Q) X.xe s
def EW (X:Cx) (f:Value) (r:List V->Hp->VK->Prop):Prop :=
 ∀(pins:List (Addr×Obj)) (s:Shared) (σ:St) (H:Hp) (xs:List V) (us:List Value) (Q:VK),Inv X pins σ H s->Vals xs us->r xs H Q->
  wpAny (model X.prog X.w) X.A (call f us) (EP X pins σ Q) X.xe s
def tOp (r:R2) (ta tb:TE):TE:=fun σ H Q=>ta σ H fun x H1=>tb σ H1 fun y H2=>r x y H2 Q
def tUn (r:V->Hp->VK->Prop) (ta:TE):TE:=fun σ H Q=>ta σ H fun x H1=>r x H1 Q
def rI (C:Int->Int->Prop) (g:Int->Int->V):R2:=fun x y H Q=>∃i j,x=.int i/\y=.int j/\C i j/\Q (g i j) H
def rI0 (g:Int->Int->V):R2:=fun x y H Q=>∃i j,x=.int i/\y=.int j/\Q (g i j) H
def rU (g:Int->V):V->Hp->VK->Prop:=fun x H Q=>∃i,x=.int i/\Q (g i) H
section
variable {X:Cx}{a b c:Expr}{ta tb tc:TE}{pos:Pos}
theorem NT (ha:PE X a ta) (hb:PE X b tb) {pins:List (Addr×Obj)}{s:Shared}{σ:St}{H:Hp}{R:V->V->Hp->Prop} (I:Inv X pins σ H s)
  (h:ta σ H fun x H1=>tb σ H1 fun y H2=>R x y H2) {Q:Value->Shared->Prop} {f:Value->Value->Sem Value}
  (hf:∀v u s2 x y H2,Inv X pins σ H2 s2->RelV x v->RelV y u->R x y H2->wpAny (model X.prog X.w) X.A (f v u) Q X.xe s2):
  wpAny (model X.prog X.w) X.A (eval a X.env) (fun v s₁=>wpAny (model X.prog X.w) X.A (eval b X.env) (fun u s₂=>wpAny (model X.prog X.w) X.A (f v u) Q X.xe s₂) X.xe s₁) X.xe s:=by
 refine thn (ha pins s σ H _ I h) fun v s1 ⟨x,H1,I1,r1,q1⟩=>?_
 refine thn (hb pins s1 σ H1 _ I1 q1) fun u s2 ⟨y,H2,I2,r2,q2⟩=>?_
 exact hf v u s2 x y H2 I2 r1 r2 q2
theorem C0 {op:Operator}{r:R2} (ho:OpR X (binaryOp op) r) (ha:PE X a ta) (hb:PE X b tb):PE X (.BinOp a op b pos) (tOp r ta tb):=by
 intro pins s σ H Q I h
 exact wpAny_BinOp (NT ha hb I h fun v u s2 x y H2 I2 rx ry q=>ho pins s2 σ H2 x y v u Q I2 rx ry q)
theorem G3 {op:UnaryOp}{r:V->Hp->VK->Prop} (ho:UnR X (unaryOp op) r) (ha:PE X a ta):PE X (.UnaryOp op a pos) (tUn r ta):=by
 intro pins s σ H Q I h
 exact UnaryOp_ (thn (ha pins s σ H _ I h) fun v s1 ⟨x,H1,I1,r1,q1⟩=>ho pins s1 σ H1 x v Q I1 r1 q1)
theorem opI {f:Value->Value->Sem Value}{C:Int->Int->Prop}{g:Int->Int->Int}
  (rule:∀(i j:Int) (t u:Tok) (s:Shared) (Q:Value->Shared->Prop) (E:Value->Shared->Prop),C i j->Q (.int (g i j) s.toks) { s with toks:=s.toks+1 }->wpAny (model X.prog X.w) X.A (f (.int i t) (.int j u)) Q E s):
  OpR X f (rI C fun i j=>.int (g i j)):=by
 intro pins s σ H x y v u Q I rx ry h
 obtain⟨i,j,rfl,rfl,hc,q⟩:=h
 obtain⟨t,rfl⟩:=rx
 obtain⟨t',rfl⟩:=ry
 exact rule i j t t' s _ _ hc ⟨.int (g i j),H,I.tok _,⟨_,rfl⟩,q⟩
theorem UD {f:Value->Value->Sem Value}{g:Int->Int->Int}
  (rule:∀(i j:Int) (t u:Tok) (s:Shared) (Q:Value->Shared->Prop) (E:Value->Shared->Prop),Q (.int (g i j) s.toks) { s with toks:=s.toks+1 }->wpAny (model X.prog X.w) X.A (f (.int i t) (.int j u)) Q E s):
  OpR X f (rI0 fun i j=>.int (g i j)):=by
 intro pins s σ H x y v u Q I rx ry h
 obtain⟨i,j,rfl,rfl,q⟩:=h
 obtain⟨t,rfl⟩:=rx
 obtain⟨t',rfl⟩:=ry
 exact rule i j t t' s _ _ ⟨.int (g i j),H,I.tok _,⟨_,rfl⟩,q⟩
theorem LK {f:Value->Value->Sem Value}{g:Int->Int->Bool}
  (rule:∀(i j:Int) (t u:Tok) (s:Shared) (Q:Value->Shared->Prop) (E:Value->Shared->Prop),Q (.bool (g i j)) s->wpAny (model X.prog X.w) X.A (f (.int i t) (.int j u)) Q E s):
  OpR X f (rI0 fun i j=>.bl (g i j)):=by
 intro pins s σ H x y v u Q I rx ry h
 obtain⟨i,j,rfl,rfl,q⟩:=h
 obtain⟨t,rfl⟩:=rx
 obtain⟨t',rfl⟩:=ry
 exact rule i j t t' s _ _ ⟨.bl (g i j),H,I,rfl,q⟩
def CMul (i j:Int):Prop:=(-(2 ^ 64) < i/\i < 2 ^ 64)\/(-(2 ^ 64) < j/\j < 2 ^ 64)
theorem CMul.ok {i j:Int} (h:CMul i j):IntMulOk i j:=by
 rcases h with ⟨h1,h2⟩ | ⟨h1,h2⟩
 .exact .of_left (intBits_le_64 h1 h2)
 .exact .of_right (intBits_le_64 h1 h2)
theorem OQ:OpR X (binaryOp .Add) (rI0 fun i j=>.int (i+j)):=UD fun _ _ _ _ _ _ _ q=>add_int q
theorem OR:OpR X (binaryOp .Sub) (rI0 fun i j=>.int (i - j)):=UD fun _ _ _ _ _ _ _ q=>sub_int q
theorem dX:OpR X (binaryOp .Mult) (rI CMul fun i j=>.int (i * j)):=opI fun _ _ _ _ _ _ _ hc q=>mul_int q hc.ok
theorem unI {f:Value->Sem Value}{g:Int->Int}
  (rule:∀(i:Int) (t:Tok) (s:Shared) (Q:Value->Shared->Prop) (E:Value->Shared->Prop),Q (.int (g i) s.toks) { s with toks:=s.toks+1 }->wpAny (model X.prog X.w) X.A (f (.int i t)) Q E s):
  UnR X f (rU fun i=>.int (g i)):=by
 intro pins s σ H x v Q I rx h
 obtain⟨i,rfl,q⟩:=h
 obtain⟨t,rfl⟩:=rx
 exact rule i t s _ _ ⟨.int (g i),H,I.tok _,⟨_,rfl⟩,q⟩
theorem G4:UnR X (unaryOp .USub) (rU fun i=>.int (-i)):=unI fun _ _ _ _ _ q=>neg_int q
end
def Vw:V->V->Bool
 | .non,.non=>true | .non,.int _=>true | .int _,.non=>true | .non,.bl _=>true | .bl _,.non=>true | .non,.str _=>true | .str _,.non=>true
 | .int _,.int _=>true | .bl _,.bl _=>true | .str _,.str _=>true | .byt _,.byt _=>true
 | .int _,.str _=>true | .str _,.int _=>true | .bl _,.str _=>true | .str _,.bl _=>true
 | _,_=>false
def rEq:R2:=fun x y H Q=>Vw x y=true/\Q (.bl (decide (x=y))) H
def rNe:R2:=fun x y H Q=>Vw x y=true/\Q (.bl (!decide (x=y))) H
theorem SA {i j:Int}:decide (V.int i=V.int j)=(i==j):=by
 rw[Dy]
 simp
theorem R8 {i j:Bool}:decide (V.bl i=V.bl j)=(i==j):=by
 rw[Dy]
 simp
theorem SD {i j:Str}:decide (V.str i=V.str j)=(i==j):=by
 rw[Dy]
 simp
theorem R9 {i j:Array UInt8}:decide (V.byt i=V.byt j)=(i.toList==j.toList):=by
 rw[Dy]
 cases i
 cases j
 simp
section
variable {X:Cx}{a b c:Expr}{ta tb tc:TE}{pos:Pos}
theorem Bj {pins:List (Addr×Obj)}{σ:St}{H:Hp}{s:Shared}{Q:VK}{k k':Bool} (I:Inv X pins σ H s) (q:Q (.bl k) H) (e:k=k'):EP X pins σ Q (.bool k') s:=by
 subst e
 exact⟨.bl k,H,I,rfl,q⟩
theorem Bt:OpR X (compareOp .Eq) rEq:=by
 intro pins s σ H x y v u Q I rx ry h
 obtain⟨hs,q⟩:=h
 cases x with
 | non =>
  cases rx
  cases y with
  | non=>cases ry;exact PySem.EqNone.eq_none_none (Bj I q (by simp))
  | bl j=>cases ry;exact PySem.EqNone.eq_none_bool (Bj I q (by simp))
  | int j=>obtain⟨t',rfl⟩:=ry;exact PySem.EqNone.eq_none_int (Bj I q (by simp))
  | str j=>obtain⟨t',rfl⟩:=ry;exact PySem.EqNone.eq_none_str (Bj I q (by simp))
  | _=>exact absurd (show false=true from hs) A8
 | bl i =>
  cases rx
  cases y with
  | non=>cases ry;exact PySem.EqNone.eq_bool_none (Bj I q (by simp))
  | bl j=>cases ry;exact eq_bool (Bj I q R8)
  | str j=>obtain⟨t',rfl⟩:=ry;exact PySem.EqMixed.eq_bool_str (Bj I q (by simp))
  | _=>exact absurd (show false=true from hs) A8
 | int i =>
  obtain⟨t,rfl⟩:=rx
  cases y with
  | non=>cases ry;exact PySem.EqNone.eq_int_none (Bj I q (by simp))
  | int j=>obtain⟨t',rfl⟩:=ry;exact eq_int (Bj I q SA)
  | str j=>obtain⟨t',rfl⟩:=ry;exact PySem.EqMixed.eq_int_str (Bj I q (by simp))
  | _=>exact absurd (show false=true from hs) A8
 | str i =>
  obtain⟨t,rfl⟩:=rx
  cases y with
  | non=>cases ry;exact PySem.EqNone.eq_str_none (Bj I q (by simp))
  | bl j=>cases ry;exact PySem.EqMixed.eq_str_bool (Bj I q (by simp))
  | int j=>obtain⟨t',rfl⟩:=ry;exact PySem.EqMixed.eq_str_int (Bj I q (by simp))
  | str j=>obtain⟨t',rfl⟩:=ry;exact eq_str (Bj I q SD)
  | _=>exact absurd (show false=true from hs) A8
 | byt i =>
  obtain⟨t,rfl⟩:=rx
  cases y with
  | byt j=>obtain⟨t',rfl⟩:=ry;exact PySem.W.eq_bytes (Bj I q R9)
  | _=>exact absurd (show false=true from hs) A8
 | _=>cases y <;> exact absurd (show false=true from hs) A8
theorem LN:OpR X (compareOp .NotEq) rNe:=by
 intro pins s σ H x y v u Q I rx ry h
 obtain⟨hs,q⟩:=h
 cases x with
 | non =>
  cases rx
  cases y with
  | non=>cases ry;exact PySem.EqNone.ne_none_none (Bj I q (by simp))
  | bl j=>cases ry;exact PySem.EqNone.ne_none_bool (Bj I q (by simp))
  | int j=>obtain⟨t',rfl⟩:=ry;exact PySem.EqNone.ne_none_int (Bj I q (by simp))
  | str j=>obtain⟨t',rfl⟩:=ry;exact PySem.EqNone.ne_none_str (Bj I q (by simp))
  | _=>exact absurd (show false=true from hs) A8
 | bl i =>
  cases rx
  cases y with
  | non=>cases ry;exact PySem.EqNone.ne_bool_none (Bj I q (by simp))
  | bl j=>cases ry;exact ne_bool (Bj I q (congrArg not R8))
  | str j=>obtain⟨t',rfl⟩:=ry;exact PySem.EqMixed.ne_bool_str (Bj I q (by simp))
  | _=>exact absurd (show false=true from hs) A8
 | int i =>
  obtain⟨t,rfl⟩:=rx
  cases y with
  | non=>cases ry;exact PySem.EqNone.ne_int_none (Bj I q (by simp))
  | int j=>obtain⟨t',rfl⟩:=ry;exact ne_int (Bj I q (congrArg not SA))
  | str j=>obtain⟨t',rfl⟩:=ry;exact PySem.EqMixed.ne_int_str (Bj I q (by simp))
  | _=>exact absurd (show false=true from hs) A8
 | str i =>
  obtain⟨t,rfl⟩:=rx
  cases y with
  | non=>cases ry;exact PySem.EqNone.ne_str_none (Bj I q (by simp))
  | bl j=>cases ry;exact PySem.EqMixed.ne_str_bool (Bj I q (by simp))
  | int j=>obtain⟨t',rfl⟩:=ry;exact PySem.EqMixed.ne_str_int (Bj I q (by simp))
  | str j=>obtain⟨t',rfl⟩:=ry;exact ne_str (Bj I q (congrArg not SD))
  | _=>exact absurd (show false=true from hs) A8
 | byt i =>
  obtain⟨t,rfl⟩:=rx
  cases y with
  | byt j=>obtain⟨t',rfl⟩:=ry;exact PySem.W.ne_bytes (Bj I q (congrArg not R9))
  | _=>exact absurd (show false=true from hs) A8
 | _=>cases y <;> exact absurd (show false=true from hs) A8
theorem LM:OpR X (compareOp .Lt) (rI0 fun i j=>.bl (decide (i < j))):=LK fun _ _ _ _ _ _ _ q=>lt_int q
theorem DR:OpR X (compareOp .LtE) (rI0 fun i j=>.bl (decide (i<=j))):=LK fun _ _ _ _ _ _ _ q=>le_int q
theorem FZ:OpR X (compareOp .Gt) (rI0 fun i j=>.bl (decide (j < i))):=LK fun _ _ _ _ _ _ _ q=>gt_int q
theorem dS:OpR X (compareOp .GtE) (rI0 fun i j=>.bl (decide (j<=i))):=LK fun _ _ _ _ _ _ _ q=>ge_int q
theorem UE:OpR X (compareOp .Is) (fun x y H Q=>y=.non/\Q (.bl (decide (x=.non))) H):=by
 intro pins s σ H x y v u Q I rx ry h
 obtain⟨rfl,q⟩:=h
 cases ry
 refine is_none_gen (Bj I q ?_)
 cases x <;> first
  | (cases rx;rfl)
  | (obtain⟨t,rfl⟩:=rx;rfl)
theorem AY (b:Expr) {op:CmpOp} (h:op≠.In:=by decide) (h2:op≠.NotIn:=by decide):behindInMarks op b=false:=by
 have e1:(op==CmpOp.In)=false:=by cases op <;> first | rfl | exact absurd rfl h
 have e2:(op==CmpOp.NotIn)=false:=by cases op <;> first | rfl | exact absurd rfl h2
 cases b <;> simp[behindInMarks,e1,e2]
theorem Dg {op:CmpOp}{r:R2} (ho:OpR X (compareOp op) r) (ha:PE X a ta) (hb:PE X b tb) (hm:behindInMarks op b=false):PE X (.Compare a [op] [b] pos) (tOp r ta tb):=by
 intro pins s σ H Q I h
 exact wpAny_Compare1 (NT ha hb I h fun v u s2 x y H2 I2 rx ry q=>ho pins s2 σ H2 x y v u Q I2 rx ry q) hm
def Lw (t:TE):TT:=fun σ H Q=>t σ H fun x H'=>∃k,x=.bl k/\Q k H'
theorem Aj {op:CmpOp}{r:R2} (ho:OpR X (compareOp op) r) (ha:PE X a ta) (hb:PE X b tb) (hm:behindInMarks op b=false):PT X (.Compare a [op] [b] pos) (Lw (tOp r ta tb)):=by
 intro pins s σ H Q I h
 refine ZX (thn (ha pins s σ H _ I h) fun v s1 ⟨x,H1,I1,r1,q1⟩=>thn (hb pins s1 σ H1 _ I1 q1) fun u s2 ⟨y,H2,I2,r2,q2⟩ =>
  thn (ho pins s2 σ H2 x y v u _ I2 r1 r2 q2) fun c s3 ⟨z,H3,I3,r3,k,e,q3⟩=>?_) hm
 subst e
 cases r3
 exact F0 ⟨H3,I3,q3⟩
def PU (r r':R2) (ta tb tc:TE):TE:=fun σ H Q=>ta σ H fun x H1=>tb σ H1 fun y H2=>r x y H2 fun z H3=>∃k,z=.bl k/\
 (if k=true then tc σ H3 fun w' H4=>r' y w' H4 Q else Q (.bl false) H3)
theorem JW {op op':CmpOp}{r r':R2} (ho:OpR X (compareOp op) r) (ho':OpR X (compareOp op') r') (ha:PE X a ta) (hb:PE X b tb) (hc:PE X c tc)
  (hm:lastMarks [op,op'] [b,c]=false:=by with_unfolding_all rfl):PE X (.Compare a [op,op'] [b,c] pos) (PU r r' ta tb tc):=by
 intro pins s σ H Q I h
 refine Compare_chain (thn (ha pins s σ H _ I h) fun v s1 ⟨x,H1,I1,r1,q1⟩=>chain_link (thn (hb pins s1 σ H1 _ I1 q1) fun u s2 ⟨y,H2,I2,r2,q2⟩ =>
  thn (ho pins s2 σ H2 x y v u _ I2 r1 r2 q2) fun d s3 ⟨z,H3,I3,r3,k,e,q3⟩=>?_)) hm
 subst e
 cases r3
 refine F0 ?_
 cases k with
 | false=>exact ite_ff ⟨.bl false,H3,I3,rfl,q3⟩
 | true=>exact ite_tt (chain_last (thn (hc pins s3 σ H3 _ I3 q3) fun w' s4 ⟨z',H4,I4,r4,q4⟩=>ho' pins s4 σ H4 y z' u w' Q I4 r2 r4 q4))
theorem eJ {op op':CmpOp}{r r':R2} (ho:OpR X (compareOp op) r) (ho':OpR X (compareOp op') r') (ha:PE X a ta) (hb:PE X b tb) (hc:PE X c tc)
  (hm:lastMarks [op,op'] [b,c]=false:=by with_unfolding_all rfl):PT X (.Compare a [op,op'] [b,c] pos) (Lw (PU r r' ta tb tc)):=by
 intro pins s σ H Q I h
 refine isTrue_chain (thn (ha pins s σ H _ I h) fun v s1 ⟨x,H1,I1,r1,q1⟩=>test_link (thn (hb pins s1 σ H1 _ I1 q1) fun u s2 ⟨y,H2,I2,r2,q2⟩ =>
  thn (ho pins s2 σ H2 x y v u _ I2 r1 r2 q2) fun d s3 ⟨z,H3,I3,r3,k,e,q3⟩=>?_)) hm
 subst e
 cases r3
 refine F0 ?_
 cases k with
 | false =>
  obtain⟨k',e',q'⟩:=q3
  cases e'
  exact ite_ff ⟨H3,I3,q'⟩
 | true =>
  refine ite_tt (test_last (thn (hc pins s3 σ H3 _ I3 q3) fun w' s4 ⟨z',H4,I4,r4,q4⟩=>thn (ho' pins s4 σ H4 y z' u w' _ I4 r2 r4 q4) fun d' s5 ⟨z2,H5,I5,r5,k2,e2,q5⟩=>?_))
  subst e2
  cases r5
  exact F0 ⟨H5,I5,q5⟩
theorem To:(sizeLine:Nat) < 2 ^ 63:=by rw[Ms];decide
theorem G6 {x:V}{us:List Value} (r:Vals [x] us):∃u,us=[u]/\RelV x u:=by
 cases r with
 | cons r1 r2=>cases r2;exact⟨_,rfl,r1⟩
theorem HX:EW X (.builtin "ord") (fun xs H Q=>∃x,xs=[.str x]/\x.length=1/\Q (.int (x.cps.getD 0 0:Nat)) H):=by
 intro pins s σ H xs us Q I r h
 obtain⟨x,rfl,hz,q⟩:=h
 obtain⟨u,rfl,t,rfl⟩:=G6 r
 exact ord_of_one hz ⟨.int _,H,I.tok _,⟨_,rfl⟩,q⟩
end
end L2
namespace L2
open PySem PySem.Spec PyProof.Rows
structure ObjM (h:Heap) (x dx C:Addr) (mA:Str->Option Value):Prop where
 obj:h.get? x=some (Ga C dx)
 ns:h.Ns1 dx mA
 ne:dx≠x
theorem cX {h:Heap}{dx:Addr}{mA:Str->Option Value} (n:h.Ns1 dx mA):∃od,h.get? dx=some od/\∀name,Q3 name od=some (mA name):=by
 obtain⟨o,es,ep,ho,hd,hk,_,hm⟩:=n
 refine⟨o,ho,fun name=>?_⟩
 have e:=hm name
 unfold nsFind findBy at e
 rw[<- Array.find?_toList] at e
 unfold Q3
 rw[hd]
 dsimp only
 split
 .rename_i y q
  rw[q] at e
  exact congrArg some e
 .rename_i q
  rw[q] at e
  have a:es.toList.any (·.refKey)=false:=by
   rw[Ep]
   intro y hy
   obtain⟨z,t,hkey⟩:=hk y (Array.mem_toList_iff.mp hy)
   simp[DictEntry.refKey,hkey]
  have a':¬es.toList.any (·.refKey)=true:=by rw[a];exact A8
  rw[JJx a']
  exact congrArg some e
theorem ObjM.look {h:Heap}{x dx C:Addr}{mA:Str->Option Value} (I:ObjM h x dx C mA):∃od,PySem.W.InstAt h x (Ga C dx) C (some od)/\∀name,Q3 name od=some (mA name) :=
 let ⟨od,ho,hl⟩:=cX I.ns
 ⟨od,⟨I.obj,rfl,rfl,ho⟩,hl⟩
section
variable {prog:Program}{w:World}{A:Around}{E:Value->Shared->Prop}{s:Shared}{K:AD}{x dx C f:Addr}{mA:Str->Option Value}{name:Str}{v:Value}
theorem bO {expr:Bool}{Q:Value->Shared->Prop} (X:K.In s.heap) (I:ObjM s.heap x dx C mA) (hg:Q5 K C name=true) (hh:Qz K C=true)
  (ha:HM K (.ref C) name=some none) (hv:mA name=some v) (hv':ZI v=true) (h:Q v { s with toks:=s.toks+1 }):
  wpAny (model prog w) A (getAttr (.ref x) name expr) Q E s:=by
 obtain⟨od,J,hl⟩:=I.look
 exact PySem.W.get_value X J (PySem.W.plainGet_of hg).1 (PySem.W.findObj_own hh ha rfl (by rw[hl,hv])) hv' h
theorem f6 {ns:List Str}{Q:Unit->Shared->Prop} (X:K.In s.heap) (I:ObjM s.heap x dx C mA)
  (hs:HM K (.ref C) "__setattr__"=some (some (.builtin "object.__setattr__"))) (hp:ZN K C=true) (ht:Q8 K C name=some none) (hh:Qz K C=true)
  (hw:Mq mA ns) (hsz:ns.length<=sizeLine)
  (h:∀h',ObjM h' x dx C (fun y=>if y=name then some v else mA y)->Ig dx s.heap h'->Q () { s with heap:=h',toks:=s.toks+2 }):
  wpAny (model prog w) A (setAttr (.ref x) name v) Q E s:=by
 obtain⟨od,J,hl⟩:=I.look
 refine PySem.W.set_plain X J hs (PySem.W.osa_open (s:={ s with toks:=s.toks+1 }) (r:=none) X J hp ht fun b=>?_)
 obtain⟨cd,hc,hd'⟩:=PySem.W.any_some hh
 have hx:s.heap.get? x=some ⟨.ref C,some dx,.plain,#[]⟩:=I.obj
 refine AI (AZ (AI (AI (wpAny_loadPart hx (AI (PySem.W.Looks.here (s:={ s with toks:=s.toks+1 }) (PySem.W.looks_clsIn X hc) ?_))))))
 rw[hd']
 refine AZ (a:=some dx) (AI (AZ (AI ?_)))
 refine wpAny_nsSet1 (s:={ s with toks:=s.toks+1 }) I.ns fun h' hn2 hs2=>?_
 obtain⟨oD,esD,epD,hoD,hdD,hcD⟩:=hn2.count (Mq.cons name v hw)
 refine AI (wpAny_lookBehind hoD (by rw[hdD];exact pastItsLine_dict (CW hcD (by rw[Bn];omega))) ?_)
 exact AZ (h _ ⟨(hs2.2 _ (Ar I.ne)).trans I.obj,hn2,I.ne⟩ hs2)
theorem ck {R:Result->Shared->Prop}{vs:List Value}{kw:List (Str×Value)} (X:K.In s.heap) (hm:ZM K C=true)
  (hi:HM K (.ref C) "__init__"=some (some (.ref f))) (hf:PySem.W.typeIn K (.ref f)=some (.type "function"))
  (h:codeAny (model prog w) (A.under (.builtin "type.__call__" ⟨.ref C::vs,kw⟩)) (.call (.ref f) ⟨.ref (s.heap.objs.size+1)::vs,kw⟩) (PySem.W.InitBack (s.heap.objs.size+1) R)
   { s with heap:=(s.heap.push Fz).push (Ga C s.heap.objs.size) }):
  codeAny (model prog w) A (.call (.ref C) ⟨vs,kw⟩) R s:=by
 obtain⟨hh,g,d,t,os⟩:=s
 exact PySem.W.make_core (PySem.W.makes_of X hm) (PySem.W.looks_findIn X hi) (fun self=>PySem.W.bind_fn X self hf) (.inl rfl) h
end
def BE (f:Str) (v:V):List (Str×V)->List (Str×V)
 | []=>[(f,v)]
 | (g,x)::r=>if g=f then (g,v)::r else (g,x)::BE f v r
theorem Tt (f g:Str) (v:V):∀fs:List (Str×V),(BE f v fs).lookup g=if g=f then some v else fs.lookup g
 | []=>by
  show GV g [(f,v)]=_
  by_cases h:g=f
  .have hb:(g==f)=true:=beq_iff_eq.mpr h
   simp only[GV,hb,JJz h]
  .have hb:(g==f)=false:=beq_eq_false_iff_ne.mpr h
   simp only[GV,hb,JJx h]
 | (k,x)::r=>by
  have ih:=Tt f g v r
  rw[show BE f v ((k,x)::r)=(if k=f then (k,v)::r else (k,x)::BE f v r) from rfl]
  by_cases hk:k=f
  .rw[JJz hk]
   by_cases h:g=k
   .have hb:(g==k)=true:=beq_iff_eq.mpr h
    simp only[GV,hb,JJz (h.trans hk)]
   .have hb:(g==k)=false:=beq_eq_false_iff_ne.mpr h
    simp only[GV,hb,JJx (fun e:g=f=>h (e.trans hk.symm))]
  .rw[JJx hk]
   by_cases h:g=k
   .have hb:(g==k)=true:=beq_iff_eq.mpr h
    simp only[GV,hb,JJx (fun e:g=f=>hk (h.symm.trans e))]
   .have hb:(g==k)=false:=beq_eq_false_iff_ne.mpr h
    simp only[GV,hb]
    exact ih
theorem N2 (f:Str) (v:V):∀fs:List (Str×V),f∈(BE f v fs).map (·.1)/\∀g,g∈fs.map (·.1)->g∈(BE f v fs).map (·.1)
 | []=>⟨by simp[BE],fun g h=>by simp at h⟩
 | (k,x)::r=>by
  obtain⟨i1,i2⟩:=N2 f v r
  rw[show BE f v ((k,x)::r)=(if k=f then (k,v)::r else (k,x)::BE f v r) from rfl]
  by_cases hk:k=f
  .rw[JJz hk]
   subst hk
   exact⟨by simp,fun g h=>by simpa using h⟩
  .rw[JJx hk]
   refine⟨?_,fun g h=>?_⟩
   .rw[Aq]
    exact Av _ i1
   .rw[Aq] at h ⊢
    rcases AQ.mp h with e | e
    .exact AQ.mpr (.inl e)
    .exact Av _ (i2 g e)
theorem Th (f:Str) (v:V):∀fs:List (Str×V),(BE f v fs).length<=fs.length+1
 | []=>by simp[BE]
 | (k,x)::r=>by
  have ih:=Th f v r
  rw[show BE f v ((k,x)::r)=(if k=f then (k,v)::r else (k,x)::BE f v r) from rfl]
  by_cases hk:k=f
  .rw[JJz hk,Bn,Bn];omega
  .rw[JJx hk,Bn,Bn];omega
theorem RelO.some_of {v:V}{o:Option Value} (r:RelO (some v) o):∃u,o=some u/\RelV v u:=by
 cases o with
 | none=>exact(show False from r).elim
 | some u=>exact⟨u,rfl,r⟩
theorem bS {v:V}{u:Value} (r:RelV v u):ZI u=true:=by
 cases v with
 | non=>cases (show u=Ca from r);rfl
 | bl b=>cases (show u=D6 b from r);rfl
 | int i=>obtain⟨t,e⟩:=(show ∃t,u=KL i t from r);cases e;rfl
 | str x=>obtain⟨t,e⟩:=(show ∃t,u=Mp x t from r);cases e;rfl
 | byt b=>obtain⟨t,e⟩:=(show ∃t,u=Value.bytes b t from r);cases e;rfl
 | flt b=>obtain⟨t,e⟩:=(show ∃t,u=Value.float b t from r);cases e;rfl
 | ref a=>cases (show u=Ab a from r);rfl
 | ty n=>cases (show u=FK n from r);rfl
section
variable {P:Program}{w:World}{H H':Hp}{h h':Heap}{a C dx:Addr}{fs fs':List (Str×V)}
theorem TF (hok:HOk P w H h) (e:H a=some (.ins C dx fs)):∃mA,ObjM h a dx C mA/\(∀f,RelO (fs.lookup f) (mA f))/\Mq mA (fs.map (·.1))/\fs.length<=1000/\H dx=some (.own a):=by
 obtain⟨d,z,ne,ob,mA,n,r,q⟩:=(show ObjOk P w H h a (.ins C dx fs) from hok a _ e)
 exact⟨mA,⟨ob,n,ne⟩,r,q,z,d⟩
end
structure Cls (K:AD) (C:Addr):Prop where
 pg:Q5 K C Qv=true
 hd:Qz K C=true
 po:ZN K C=true
 sa:HM K (.ref C) "__setattr__"=some (some (.builtin "object.__setattr__"))
theorem Cls.get {K:AD}{C:Addr} (c:Cls K C) (f:Str):Q5 K C f=true:=c.pg
def NoAttr (K:AD) (C:Addr) (f:Str):Prop:=HM K (.ref C) f=some none
theorem NoAttr.taker {K:AD}{C:Addr}{f:Str} (n:NoAttr K C f):Q8 K C f=some none:=by
 unfold Q8
 rw[show HM K (.ref C) f=some none from n]
 rfl
section
variable {X:Cx}{pins:List (Addr×Obj)}{σ:St}{H:Hp}{s:Shared}{a C dx:Addr}{fs:List (Str×V)}{f:Str}{v:V}{A:Around}{E:Value->Shared->Prop}
theorem bP {b:Bool}{Q:Value->Shared->Prop} (I:Inv X pins σ H s) (e:H a=some (.ins C dx fs)) (c:Cls X.K C) (n:NoAttr X.K C f) (l:fs.lookup f=some v)
  (h:∀u s',Inv X pins σ H s'->RelV v u->Q u s'):wpAny (model X.prog X.w) A (getAttr (.ref a) f b) Q E s:=by
 obtain⟨mA,O,r,_,_,_⟩:=TF I.hok e
 obtain⟨u,hu,ru⟩:=RelO.some_of (v:=v) (o:=mA f) (by rw[<- l];exact r f)
 exact bO I.kIn O (c.get f) c.hd n hu (bS ru) (h u _ (I.tok _) ru)
theorem f9 {y:V}{u:Value}{Q:Unit->Shared->Prop} (I:Inv X pins σ H s) (e:H a=some (.ins C dx fs)) (c:Cls X.K C) (n:NoAttr X.K C f) (hl:fs.length < 1000) (ry:RelV y u)
  (h:∀s',Inv X pins σ (upd H a (.ins C dx (BE f y fs))) s'->Q () s'):wpAny (model X.prog X.w) A (setAttr (.ref a) f u) Q E s:=by
 obtain⟨mA,O,r,wi,_,ho⟩:=TF I.hok e
 have hz:(fs.map (·.1)).length<=sizeLine:=by rw[AH,Ms];omega
 refine f6 I.kIn O c.sa c.po n.taker c.hd wi hz fun h' O' sb=>h _ ?_
 have hd:∃o,h'.get? dx=some o:=let ⟨o,_,_,e',_⟩:=O'.ns;⟨o,e'⟩
 refine I.write (x:=a) (e:=dx) (by rw[e];exact Iq) (.inr ho) (fun b q hb z=>(sb.2 b hb).trans z) hd ?_
 refine⟨by rw[AF O.ne];exact ho,?_,O.ne,O'.obj,_,O'.ns,fun g=>?_,fun g hg=>?_⟩
 .have:=Th f y fs;omega
 .show RelO ((BE f y fs).lookup g) (if g=f then some u else mA g)
  rw[Tt]
  by_cases q:g=f
  .rw[JJz q,JJz q];exact ry
  .rw[JJx q,JJx q];exact r g
 .by_cases q:g=f
  .rw[q];exact(N2 f y fs).1
  .refine(N2 f y fs).2 g (wi g fun z=>hg ?_)
   show(if g=f then some u else mA g)=none
   rw[JJx q];exact z
theorem Inv.made (I:Inv X pins σ H s):Inv X pins σ (upd (upd H s.heap.objs.size (.own (s.heap.objs.size+1))) (s.heap.objs.size+1) (.ins C s.heap.objs.size []))
  { s with heap:=(s.heap.push Fz).push (Ga C s.heap.objs.size) }:=by
 have e1:(s.heap.push Fz).get? s.heap.objs.size=some Fz:=CD s.heap rfl
 have e2:((s.heap.push Fz).push (Ga C s.heap.objs.size)).get? (s.heap.objs.size+1)=some (Ga C s.heap.objs.size):=by
  have:=CD (s.heap.push Fz) (o:=Ga C s.heap.objs.size) rfl
  rwa [Dm] at this
 have e3:(s.heap.push Fz).Ns s.heap.objs.size (fun _=>none):=⟨Fz,#[],_,e1,rfl,(fun e he=>absurd he (by simp)),fun _=>rfl⟩
 have I1:=I.laid (a:=s.heap.objs.size) (o:=.own (s.heap.objs.size+1)) (h':=s.heap.push Fz) (t':=s.toks) (fun b u q=>Bi _ q) (Aa _) ⟨_,e1⟩
 refine I1.laid (a:=s.heap.objs.size+1) (o:=.ins C s.heap.objs.size []) (t':=s.toks) (fun b u q=>Bi _ q) (J9 (Dm _ _)) ?_
 have ne:s.heap.objs.size≠s.heap.objs.size+1:=B1 (QV _)
 refine⟨by rw[AF ne,AG],Ax _,ne,e2,fun _=>none,(Heap.Ns1.of_empty e3).at fun o q=>Bi _ q,fun _=>Iq,fun y hy=>absurd rfl hy⟩
theorem Zw {prog:Program}{w:World}{env:Env}{e:Expr}{f:Str}{pos:Pos}{s:Shared}{Q:Value->Shared->Prop} (hb:attributeBase e f env (eval e env)=eval e env)
  (h:wpAny (model prog w) A (eval e env) (fun o s₁=>wpAny (model prog w) A (getAttr o f true) Q E s₁) E s):wpAny (model prog w) A (eval (.Attribute e f pos) env) Q E s :=
 Attribute_any_ h (by rw[arm_eval_Attribute,hb])
end
def Ls (K:AD) (ta:TE) (f:Str):TE:=fun σ H Q=>ta σ H fun x H1=>∃a C dx fs v,x=.ref a/\H1 a=some (.ins C dx fs)/\Cls K C/\NoAttr K C f/\fs.lookup f=some v/\Q v H1
def fG (K:AD) (ta tv:TE) (f:Str):TS:=fun D σ H=>tv σ H fun y H1=>ta σ H1 fun x H2=>∃a C dx fs,x=.ref a/\H2 a=some (.ins C dx fs)/\Cls K C/\NoAttr K C f/\fs.length < 1000/\
 D.nx σ (upd H2 a (.ins C dx (BE f y fs)))
section
variable {X:Cx}{o e value:Expr}{f:Str}{pos pos' tpos:Pos}{ta tv:TE}
theorem AW (he:PE X e ta) (hb:attributeBase e f X.env (eval e X.env)=eval e X.env):PE X (.Attribute e f pos) (Ls X.K ta f):=by
 intro pins s σ H Q I h
 refine Zw hb (thn (he pins s σ H _ I h) fun u s1 ⟨x,H1,I1,rx,a,C,dx,fs,v,ex,ea,c,n,l,q⟩=>?_)
 subst ex
 obtain rfl:u=Ab a:=rx
 exact bP I1 ea c n l fun u' s2 I2 ru=>⟨v,H1,I2,ru,q⟩
theorem BY (ha:PE X o ta) (hv:PE X value tv) (hs:swapsWith value (some (.Attribute o f pos')) pos.line X.env=pure false):PS X (.Assign [.Attribute o f pos'] value pos) (fG X.K ta tv f):=by
 intro pins s σ H D I h
 refine plainObj_wpAny_Assign_Attribute (thn (hv pins s σ H _ I h) fun u s1 ⟨y,H1,I1,ry,q⟩=>thn (ha pins s1 σ H1 _ I1 q) fun ov s2 ⟨x,H2,I2,rx,a,C,dx,fs,ex,ea,c,n,l,q2⟩=>?_) hs
 subst ex
 obtain rfl:ov=Ab a:=rx
 exact f9 I2 ea c n l ry fun s3 I3=>⟨σ,_,I3,q2⟩
end
section
variable {X:Cx}{pins:List (Addr×Obj)}{σ:St}{H:Hp}{s:Shared}{A:Around}{E:Value->Shared->Prop}{Q:Value->Shared->Prop}{c:Value}{b:Bool}
end
end L2
namespace L2
open PySem PySem.Spec PyProof.Rows
structure Room (k:Nat) (A:Around):Prop where
 hd:A.handled=none
 dp:A.depth+3 * k+5 < recursionLimit
 un:A.units+16 * k+200 < cLine
theorem Room.mono {j k:Nat}{A:Around} (r:Room k A) (h:j<=k):Room j A:=⟨r.hd,by have:=r.dp;omega,by have:=r.un;omega⟩
theorem Room.deeper {k:Nat}{A:Around} (r:Room (k+1) A) (env:Env):Room k (A.deeper env) :=
 ⟨r.hd,by have:=r.dp;show A.depth+1+3 * k+5 < _;omega,by have:=r.un;show A.units+3+16 * k+200 < _;omega⟩
theorem cj {A:Around}{C:Addr}{us:List Value}{kw:List (Str×Value)}:(A.under (.builtin "type.__call__" ⟨.ref C::us,kw⟩)).depth=A.depth+1:=by
 first | rfl | simp[Qg,Code.weight,Code.isCreation,Code.isGuard,Code.isCaller,Code.frames,Qm,guardIds]
theorem cn {A:Around}{C:Addr}{us:List Value}{kw:List (Str×Value)}:(A.under (.builtin "type.__call__" ⟨.ref C::us,kw⟩)).units=A.units+1:=by
 first | rfl | simp[Qg,Code.cUnits,Code.frames,Qm]
theorem Room.make {k:Nat}{A:Around} (r:Room (k+1) A) (C:Addr) (us:List Value) (kw:List (Str×Value)):Room k (A.under (.builtin "type.__call__" ⟨.ref C::us,kw⟩)) :=
 ⟨r.hd,by have:=r.dp;rw[cj];omega,by have:=r.un;rw[cn];omega⟩
theorem Room.depth {k:Nat}{A:Around} (r:Room k A):A.depth < recursionLimit:=by have:=r.dp;omega
theorem Room.units {k:Nat}{A:Around} (r:Room k A):A.units+64 < cLine:=by have:=r.un;omega
def GL:TA:=fun _ H Q=>Q [] H
def GK (ta:TE) (tr:TA):TA:=fun σ H Q=>ta σ H fun x H1=>tr σ H1 fun xs H2=>Q (x::xs) H2
section
variable {X:Cx}{e:Expr}{es:List Expr}{te:TE}{t:TA}{pos:Pos}
theorem AE:PA X [] GL:=fun _ _ _ _ H Q I h=>Ql ⟨[],H,I,.nil,h⟩
theorem AB (ha:PE X e te) (hr:PA X es t) (hs:starEach (e::es) X.env=(false,eval e X.env)::starEach es X.env:=by rfl):PA X (e::es) (GK te t):=by
 intro pos pins s σ H Q I h
 rw[hs]
 show wpAny _ _ (spliced ((false,eval e X.env)::backTo pos (starEach es X.env))) _ _ s
 refine Mh (thn (ha pins s σ H _ I h) fun u s1 ⟨x,H1,I1,r1,q1⟩=>?_)
 exact thn (hr pos pins s1 σ H1 _ I1 q1) fun us s2 ⟨xs,H2,I2,r2,q2⟩=>⟨x::xs,H2,I2,.cons r1 r2,q2⟩
def iD (t:TA):TE:=fun σ H Q=>t σ H fun xs H1=>xs.length<=sizeLine/\∀p,H1 p=none->Q (.ref p) (upd H1 p (.tup xs))
def hG (t:TA):TE:=fun σ H Q=>t σ H fun xs H1=>xs.length<=sizeLine/\∀p,H1 p=none->Q (.ref p) (upd H1 p (.lst xs))
theorem UO {x1} (h:PA X es t):PE X (.Tuple es x1 pos) (iD t):=by
 intro pins s σ H Q I hq
 refine wpAny_Tuple_spliced (thn (h pos pins s σ H _ I hq) fun us s1 ⟨xs,H1,I1,r,z,q⟩=>⟨by rw[<- r.length];exact z,?_⟩)
 have hf:H1 s1.heap.objs.size=none:=I1.hok.fresh (Aa _)
 refine⟨.ref s1.heap.objs.size,upd H1 s1.heap.objs.size (.tup xs),I1.laid (t':=s1.toks) (fun b u e=>Bi _ e) (Aa _) ?_,rfl,q _ hf⟩
 exact⟨z,us,r,⟨_,CD _ rfl,rfl,_,rfl⟩⟩
theorem BD (h:PA X es t):PE X (.List es pos) (hG t):=by
 intro pins s σ H Q I hq
 refine wpAny_List_spliced (thn (h pos pins s σ H _ I hq) fun us s1 ⟨xs,H1,I1,r,z,q⟩=>⟨by rw[<- r.length];exact z,?_⟩)
 have hf:H1 s1.heap.objs.size=none:=I1.hok.fresh (Aa _)
 refine⟨.ref s1.heap.objs.size,upd H1 s1.heap.objs.size (.lst xs),I1.laid (t':=s1.toks) (fun b u e=>Bi _ e) (Aa _) ?_,rfl,q _ hf⟩
 exact⟨z,us,0,r,CD _ rfl⟩
end
abbrev Sp:=List V->Hp->VK->XK->Prop
abbrev CXT:=List Env->Hp->Shared->XK->Value->Shared->Prop
structure Env0 (P:Program) (w:World) (K:AD) (mg:Str->Option Value) (base:Heap) (A:Around) (outer:List Env) (s:Shared) (H:Hp):Prop where
 frames:A.frames=some outer
 mod:Mod K mg base
 bs:∀b o,base.get? b=some o->s.heap.get? b=some o/\H b=none
 bsz:base.objs.size<=s.heap.objs.size
 funs:s.heap.FunFrames base outer
 frf:∀b∈frs outer,H b=none
 hok:HOk P w H s.heap
 bare:AllBare s.gens
def CE (outer:List Env) (P:Program) (w:World) (H:Hp) (s:Shared) (Q:VK) (u:Value) (s':Shared):Prop :=
 ∃v H',s'.os=s.os/\AllBare s'.gens/\Un (frs outer) [] H H' s.heap s'.heap/\HOk P w H' s'.heap/\RelV v u/\Q v H'
def CR (CX:CXT) (outer:List Env) (P:Program) (w:World) (H:Hp) (s:Shared) (Q:VK) (E:XK) (r:Result) (s':Shared):Prop :=
 match r with
 | .ok (.ret u)=>CE outer P w H s Q u s'
 | .ok _=>False
 | .error e=>CX outer H s E e s'
structure FnOk (P:Program) (w:World) (K:AD) (mg:Str->Option Value) (base:Heap) (CX:CXT) (k:Nat) (f:Addr) (fd:FuncData) (ps:List Str) (sp:Sp):Prop where
 len:∀vs H Q E,sp vs H Q E->vs.length=ps.length
 run:∀(A:Around) (outer:List Env) (s:Shared) (H:Hp) (args:Args) (us:List Value) (vs:List V) (Q:VK) (E:XK),Room k A->Env0 P w K mg base A outer s H->BindsTo s fd args (ps.zip us)->Vals vs us->sp vs H Q E->
  codeAny (model P w) A (.call (.ref f) args) (CR CX outer P w H s Q E) s
theorem FnOk.mono {P:Program}{w:World}{K:AD}{mg:Str->Option Value}{base:Heap}{CX:CXT}{j k:Nat}{f:Addr}{fd:FuncData}{ps:List Str}{sp:Sp} (F:FnOk P w K mg base CX j f fd ps sp) (h:j<=k):
 FnOk P w K mg base CX k f fd ps sp:=⟨F.len,fun A outer s H args us vs Q E hr=>F.run A outer s H args us vs Q E (hr.mono h)⟩
theorem Env0.make {P:Program}{w:World}{K:AD}{mg:Str->Option Value}{base:Heap}{A:Around}{outer:List Env}{s:Shared}{H:Hp} (e:Env0 P w K mg base A outer s H) (C:Addr) (us:List Value) (kw:List (Str×Value)):
 Env0 P w K mg base (A.under (.builtin "type.__call__" ⟨.ref C::us,kw⟩)) outer s H:=⟨by first | exact e.frames | (simpa [Qg,Code.envs,Qm,pushEnvs] using e.frames),e.mod,e.bs,e.bsz,e.funs,e.frf,e.hok,e.bare⟩
section
variable {X:Cx}{pins:List (Addr×Obj)}{σ:St}{H:Hp}{s s':Shared}
theorem Inv.env0 (I:Inv X pins σ H s):Env0 X.prog X.w X.K X.mg X.base X.A X.stack s H :=
 ⟨I.ok.frames,I.ok.mod,I.bs,CW I.ok.bsz I.sz,I.stack,I.stkFree,I.hok,I.bare⟩
theorem Inv.after {Q:VK}{u:Value} (I:Inv X pins σ H s) (h:CE X.stack X.prog X.w H s Q u s'):EP X pins σ Q u s':=by
 obtain⟨v,H',os,bare,un,hok,r,q⟩:=h
 obtain⟨hh,g,d,t,os'⟩:=s'
 obtain rfl:os'=s.os:=os
 exact⟨v,H',I.call (h':=hh) (g':=g) (d':=d) (t':=t) (ch:=[]) un hok bare (fun b z=>absurd z (by simp)),r,q⟩
end
def Jj (sp:Sp) (dvs:List V) (E:XK) (t:TA):TE:=fun σ H Q=>t σ H fun vs H1=>sp (vs++dvs) H1 Q E
def Lu (C:Addr) (sp:Sp) (dvs:List V) (E:XK) (t:TA):TE:=fun σ H Q=>t σ H fun vs H1=>∀x dx,H1 x=none->H1 dx=none->dx≠x->
 sp (.ref x::(vs++dvs)) (upd (upd H1 dx (.own x)) x (.ins C dx [])) (fun v H2=>v=.non/\Q (.ref x) H2) E
def Binds (K:AD) (fd:FuncData) (ps:List Str) (ds:List Value):Prop :=
 ∀(s:Shared) (us:List Value),K.In s.heap->(us++ds).length=ps.length->BindsTo s fd ⟨us,[]⟩ (ps.zip (us++ds))
theorem Binds.all {K:AD}{fd:FuncData}{ps:List Str} (h:∀us:List Value,us.length=ps.length->bindArgs fd ⟨us,[]⟩=pure (ps.zip us)):Binds K fd ps []:=fun s us _ hl=>by
 rw[DI] at hl ⊢
 exact .of_eq (h us hl)
def Gm (CX:CXT) (X:Cx) (E:XK):Prop:=∀(pins:List (Addr×Obj)) (σ:St) (H:Hp) (s:Shared) (e:Value) (s':Shared),Inv X pins σ H s->CX X.stack H s E e s'->X.xe e s'
section
variable {X:Cx}{CX:CXT}{k:Nat}{f C:Addr}{fd:FuncData}{ps:List Str}{sp:Sp}{dvs:List V}{ds:List Value}{E:XK}{x m:Str}{p pos apos:Pos}{e o:Expr}{es:List Expr}{ta:TE}{t:TA}
theorem Uw {pins:List (Addr×Obj)}{σ:St}{H:Hp}{s:Shared}{Q:VK}{us:List Value}{vs:List V} (F:FnOk X.prog X.w X.K X.mg X.base CX k f fd ps sp) (hr:Room k X.A) (hb:Binds X.K fd ps ds) (hd:Vals dvs ds) (hx:Gm CX X E)
  (I:Inv X pins σ H s) (r:Vals vs us) (h:sp (vs++dvs) H Q E):wpAny (model X.prog X.w) X.A (call (.ref f) us) (EP X pins σ Q) X.xe s:=by
 have r2:Vals (vs++dvs) (us++ds):=r.append hd
 have hl:(us++ds).length=ps.length:=by rw[<- r2.length];exact F.len _ _ _ _ h
 refine Mu (Gb (F.run X.A X.stack s H ⟨us,[]⟩ (us++ds) (vs++dvs) Q E hr I.env0 (hb s us I.kIn hl) r2 h) fun r s' hq=>?_)
 cases r with
 | error e=>exact hx pins σ H s e s' I hq
 | ok fl =>
  cases fl with
  | ret u=>exact I.after hq
  | next=>exact Bf hq
  | brk=>exact Bf hq
  | cont=>exact Bf hq
theorem UJ (F:FnOk X.prog X.w X.K X.mg X.base CX k f fd ps sp) (hr:Room k X.A) (hg:Gl X x) (hm:X.mg x=some (.ref f)) (hk:HN X.K (.ref f)=true) (hb:Binds X.K fd ps ds) (hd:Vals dvs ds) (hx:Gm CX X E)
  (ha:PA X (e::es) t) (hdb:(x==("__debug__":Str))=false:=by decide) (he:starEach (e::es) X.env=(false,eval e X.env)::starEach es X.env:=by rfl) (hpl:(backTo pos (starEach es X.env)).any (·.1)=false:=by rfl):
  PE X (.Call (.Name x p) (e::es) [] pos) (Jj sp dvs E t):=by
 intro pins s σ H Q I h
 refine Ge (Hk I hg hm ?_ hdb)
 refine Qx (h₀:=X.base) I.ok.mod.kin hk (thn (ha pos pins s σ H _ I h) fun us s1 ⟨vs,H1,I1,r,q⟩=>⟨I1.kIn,?_⟩) he hpl
 exact Uw F hr hb hd hx I1 r q
structure Mk (K:AD) (C f:Addr):Prop where
 makes:ZM K C=true
 init:HM K (.ref C) "__init__"=some (some (.ref f))
 fn:PySem.W.isFn K (.ref f)=true
 kp:HN K (.ref C)=true
theorem Ux {pins:List (Addr×Obj)}{σ:St}{H:Hp}{s:Shared}{Q:VK}{us:List Value}{vs:List V} (M:Mk X.K C f) (F:FnOk X.prog X.w X.K X.mg X.base CX k f fd ps sp) (hr:Room (k+1) X.A) (hb:Binds X.K fd ps ds) (hd:Vals dvs ds)
  (hx:Gm CX X E) (I:Inv X pins σ H s) (r:Vals vs us)
  (h:∀x dx,H x=none->H dx=none->dx≠x->sp (.ref x::(vs++dvs)) (upd (upd H dx (.own x)) x (.ins C dx [])) (fun v H2=>v=.non/\Q (.ref x) H2) E):
  wpAny (model X.prog X.w) X.A (call (.ref C) us) (EP X pins σ Q) X.xe s:=by
 have hq:=h (s.heap.objs.size+1) s.heap.objs.size (I.hok.fresh (Nat.le_succ _)) (I.hok.fresh (Aa _)) (B1 (QV _))
 have I2:=Inv.made (C:=C) I
 have r2:Vals (V.ref (s.heap.objs.size+1)::(vs++dvs)) (Ab (s.heap.objs.size+1)::(us++ds)):=.cons rfl (r.append hd)
 have hl:(Ab (s.heap.objs.size+1)::us++ds).length=ps.length:=by
  have e:=r2.length
  rw[F.len _ _ _ _ hq] at e
  exact e.symm
 refine Mu (ck (f:=f) I.kIn M.makes M.init (beq_iff_eq.mp M.fn) (Gb (F.run _ X.stack _ _ ⟨Ab (s.heap.objs.size+1)::us,[]⟩ (Ab (s.heap.objs.size+1)::(us++ds)) _ _ E (hr.make C us [])
  (I2.env0.make C us []) (hb _ (Ab (s.heap.objs.size+1)::us) I2.kIn hl) r2 hq) fun r s' hq'=>?_))
 cases r with
 | error e=>exact hx pins σ _ _ e s' I2 hq'
 | ok fl =>
  cases fl with
  | ret u =>
   obtain⟨v,H',I3,rv,ev,q3⟩:=I2.after hq'
   subst ev
   exact⟨rv,⟨V.ref (s.heap.objs.size+1),H',I3,rfl,q3⟩⟩
  | next=>exact Bf hq'
  | brk=>exact Bf hq'
  | cont=>exact Bf hq'
theorem dv (M:Mk X.K C f) (F:FnOk X.prog X.w X.K X.mg X.base CX k f fd ps sp) (hr:Room (k+1) X.A) (hg:Gl X x) (hm:X.mg x=some (.ref C)) (hb:Binds X.K fd ps ds) (hd:Vals dvs ds) (hx:Gm CX X E)
  (ha:PA X (e::es) t) (hdb:(x==("__debug__":Str))=false:=by decide) (he:starEach (e::es) X.env=(false,eval e X.env)::starEach es X.env:=by rfl) (hpl:(backTo pos (starEach es X.env)).any (·.1)=false:=by rfl):
  PE X (.Call (.Name x p) (e::es) [] pos) (Lu C sp dvs E t):=by
 intro pins s σ H Q I h
 refine Ge (Hk I hg hm ?_ hdb)
 refine Qx (h₀:=X.base) I.ok.mod.kin M.kp (thn (ha pos pins s σ H _ I h) fun us s1 ⟨vs,H1,I1,r,q⟩=>⟨I1.kIn,?_⟩) he hpl
 exact Ux M F hr hb hd hx I1 r q
theorem dw (M:Mk X.K C f) (F:FnOk X.prog X.w X.K X.mg X.base CX k f fd ps sp) (hr:Room (k+1) X.A) (hg:Gl X x) (hm:X.mg x=some (.ref C)) (hb:Binds X.K fd ps ds) (hd:Vals dvs ds) (hx:Gm CX X E)
  (hdb:(x==("__debug__":Str))=false:=by decide):PE X (.Call (.Name x p) [] [] pos) (Lu C sp dvs E GL):=by
 intro pins s σ H Q I h
 refine Ge (Hk I hg hm ?_ hdb)
 exact PySem.W.callWith_K0 I.kIn M.kp (Ux (us:=[]) M F hr hb hd hx I .nil h)
end
section
variable {X:Cx}{CX:CXT}{k:Nat}{f C:Addr}{fd:FuncData}{ps ks:List Str}{sp:Sp}{E:XK}{x m:Str}{p pos apos kpos:Pos}{e o:Expr}{es:List Expr}{kws:List Keyword}{te ta:TE}{t tk:TA}{nm:Option Str}
variable {g:List Value->List Value->List Value}{gV:List V->List V->List V}
end
structure Ag (N P:List Str) (sc:Scope):Prop where
 kind:sc.kind=.function
 co:sc.isCoroutine=false
 gen:sc.isGenerator=false
 nd:N.Nodup
 pre:N.take P.length=P
 par:∀x∈P,sc.names.lookup x=some .local\/sc.names.lookup x=some .cell
 nofree:∀y∈sc.names,y.2≠.free
theorem Rm {kindOf:Str->Option NameKind}{x:Str}:∀{binds:List (Str×Value)}{m:Str->Option Value},(∀v,(x,v)∉binds)->bindL kindOf binds m x=m x
 | [],_,_=>rfl
 | (n,v)::r,m,h=>by
  unfold bindL
  rw[Rm fun w hw=>h w (Av _ hw)]
  split
  .have:x≠n:=by rintro rfl;exact h v AV
   simp[this]
  .rfl
theorem Rk {kindOf:Str->Option NameKind}{x:Str}:∀{binds:List (Str×Value)}{m:Str->Option Value},(∀v,(x,v)∉binds)->bindC kindOf binds m x=m x
 | [],_,_=>rfl
 | (n,v)::r,m,h=>by
  unfold bindC
  rw[Rk fun w hw=>h w (Av _ hw)]
  split
  .rfl
  .have:x≠n:=by rintro rfl;exact h v AV
   simp[this]
theorem Rl {kindOf:Str->Option NameKind}{x:Str}{v:Value}:∀{P:List Str}{vs:List Value}{i:Nat}{m:Str->Option Value},P.Nodup->P[i]?=some x->vs[i]?=some v->kindOf x=some .local->
  bindL kindOf (P.zip vs) m x=some v
 | [],_,_,_,_,h,_,_=>by simp at h
 | _::_,[],_,_,_,_,h,_=>by simp at h
 | p::P,w::vs,0,m,nd,h1,h2,hk=>by
  simp at h1 h2;subst h1;subst h2
  show bindL kindOf ((p,w)::P.zip vs) m p=_
  unfold bindL
  rw[Rm fun v hv=>(DN.mp nd).1 (J5 hv).1,JJz hk]
  simp
 | p::P,w::vs,i+1,m,nd,h1,h2,hk=>by
  show bindL kindOf ((p,w)::P.zip vs) m x=_
  unfold bindL
  exact Rl (i:=i) (DN.mp nd).2 (by simpa using h1) (by simpa using h2) hk
theorem Rj {kindOf:Str->Option NameKind}{x:Str}{v:Value}:∀{P:List Str}{vs:List Value}{i:Nat}{m:Str->Option Value},P.Nodup->P[i]?=some x->vs[i]?=some v->kindOf x≠some .local->
  bindC kindOf (P.zip vs) m x=some v
 | [],_,_,_,_,h,_,_=>by simp at h
 | _::_,[],_,_,_,_,h,_=>by simp at h
 | p::P,w::vs,0,m,nd,h1,h2,hk=>by
  simp at h1 h2;subst h1;subst h2
  show bindC kindOf ((p,w)::P.zip vs) m p=_
  unfold bindC
  rw[Rk fun v hv=>(DN.mp nd).1 (J5 hv).1,JJx hk]
  simp
 | p::P,w::vs,i+1,m,nd,h1,h2,hk=>by
  show bindC kindOf ((p,w)::P.zip vs) m x=_
  unfold bindC
  exact Rj (i:=i) (DN.mp nd).2 (by simpa using h1) (by simpa using h2) hk
def start (N:List Str) (vs:List V):St:=vs.map some++J6 (N.length - vs.length) none
def Eu (CX:CXT) (P:Program) (w:World) (K:AD) (mg:Str->Option Value) (base:Heap) (N:List Str) (qual:Str) (scope:Scope) (f:Addr) (cd:Value) (A:Around) (outer:List Env) (s:Shared) (H:Hp) (E:XK):Cx where
 prog:=P
 w:=w
 K:=K
 mg:=mg
 base:=base
 A:=A.deeper (envOfC qual scope s.heap.objs.size f cd)
 N:=N
 s_0:=s
 H_0:=H
 env:=envOfC qual scope s.heap.objs.size f cd
 outer:=outer
 stack:=envOfC qual scope s.heap.objs.size f cd::outer
 ex:=[]
 calm:=true
 fn:=fun _=>true
 pn:=[]
 xe:=fun e s'=>wpAny (model P w) (A.deeper (envOfC qual scope s.heap.objs.size f cd)) (leaving (envOfC qual scope s.heap.objs.size f cd) e) (fun _ s''=>CX outer H s E e s'') (fun e' s''=>CX outer H s E e' s'') s'
theorem Rw {sc:Scope}{n:Nat}{x:Str} (h:sc.names.lookup x=some .cell):∃c,(cellsFrom n sc.names []).lookup x=some c:=by
 have q:=ZH sc.names n [] (.inl h)
 exact MY.mp q
theorem bh {CX:CXT}{P:Program}{w:World}{K:AD}{mg:Str->Option Value}{base:Heap}{N ps:List Str}{qual:Str}{scope:Scope}{f:Addr}{cd:Value}{A:Around}{outer:List Env}{s s1:Shared}{H:Hp}{E:XK}{us:List Value}{vs:List V}
  (S:Ag N ps scope) (hd:A.handled=none) (e0:Env0 P w K mg base A outer s H) (hl:vs.length=ps.length) (r:Vals vs us)
  (x:InCallC s s.heap.objs.size (bindL (envOfC qual scope s.heap.objs.size f cd).kindOf (ps.zip us) fun _=>none) (cellsFrom (s.heap.objs.size+1) scope.names []) (bindC (envOfC qual scope s.heap.objs.size f cd).kindOf (ps.zip us) fun _=>none) s1):
  Inv (Eu CX P w K mg base N qual scope f cd A outer s H E) [] (start N vs) H s1:=by
 have hpl:ps.length<=N.length:=by have:=congrArg FE S.pre;rw[DK] at this;omega
 obtain⟨h1,tk,rfl,hk⟩:=x.done
 have noA:∀b:Addr,b∉(Eu CX P w K mg base N qual scope f cd A outer s H E).ex:=fun b z=>absurd (show b∈([]:List Addr) from z) (by simp)
 refine⟨⟨e0.mod,S.kind,rfl,rfl,Aa _,fun y z c h1 h2=>?_,fun y hy=>?_,fun y c _ h=>?_,fun _=>hd,Ye e0.frames,.inr ⟨rfl,rfl⟩,fun b z=>absurd z (noA b),e0.bs,e0.bsz,fun b _ _=>noA b,fun b z=>absurd z (noA b),e0.funs,e0.frf⟩,
  rfl,e0.bare,Un.kept hk,⟨_,x.toInCall.ns,fun i y v h1 h2 h3=>?_⟩,fun y c h=>⟨_,x.cell y c h⟩,e0.hok.fresh (Aa _),fun y c h=>?_,fun p hp=>absurd (show p∈([]:List (Addr×Obj)) from hp) (by simp),e0.hok.kept hk,?_⟩
 .exact name_of_addr x.apart (Cb h1) (Cb h2)
 .have hy:scope.names.lookup y=some .cell\/scope.names.lookup y=some .free:=hy
  rcases hy with hy | hy
  .exact Rw hy
  .exact absurd rfl (S.nofree _ (Cb hy))
 .exact Ia (x.above y c (Cb h))
 .have hi:i < vs.length:=by
   unfold start at h2
   by_cases hi:i < vs.length
   .exact hi
   .rw[HF (by simpa using hi)] at h2
    rw[List.getElem?_replicate] at h2
    split at h2 <;> cases h2
  have ha:vs[i]?=some v:=by
   unfold start at h2
   rw[MM (by simpa using hi),Ao] at h2
   cases e:vs[i]? with
   | none=>rw[e] at h2;cases h2
   | some a=>rw[e] at h2;cases h2;rfl
  obtain⟨u,hu,rv⟩:=r.get ha
  have hp:ps[i]?=some y:=by
   rw[<- S.pre,YQ (by omega)];exact h1
  have ndP:ps.Nodup:=by rw[<- S.pre];exact S.nd.sublist (QQ _ _)
  refine⟨u,rv,?_⟩
  rcases S.par y (Cw hp) with k | k
  .exact .inl ⟨k,Rl ndP hp hu k⟩
  .obtain⟨c,e⟩:=Rw (n:=s.heap.objs.size+1) k
   refine .inr ⟨.inl k,c,e,?_⟩
   have q:=x.cell y c e
   rw[Rj ndP hp hu (by show scope.names.lookup y≠_;rw[k];decide)] at q
   exact q
 .exact e0.hok.fresh (Ia (x.above y c (Cb h)))
 .unfold start
  show _=N.length
  rw[BC,AH,List.length_replicate]
  omega
theorem Sj {CX:CXT}{P:Program}{w:World}{K:AD}{mg:Str->Option Value}{base:Heap}{k:Nat}{f:Addr}{name qual:Str}{params:Arguments}{body:List Stmt}{scope:Scope}{dV kV doc pm cdv ct oc:Value}{an od:Option Addr}
  {osl:Array (Option Value)} {N ps:List Str} {sp:Sp} (lk:K.lookup f=some ⟨oc,od,.func (Il name qual params body scope dV kV doc pm an cdv ct),osl⟩) (hcd:Qy K cdv qual=true) (S:Ag N ps scope)
  (len:∀vs H Q E,sp vs H Q E->vs.length=ps.length)
  (hbody:∀(A:Around) (outer:List Env) (s:Shared) (H:Hp) (vs:List V) (Q:VK) (E:XK),Room k (A.deeper (envOfC qual scope s.heap.objs.size f cdv))->sp vs H Q E->
   ∃t,PSs (Eu CX P w K mg base N qual scope f cdv A outer s H E) body t/\t { nx:=fun _ H'=>Q .non H',rt:=Q } (start N vs) H):
  FnOk P w K mg base CX (k+1) f (Il name qual params body scope dV kV doc pm an cdv ct) ps sp:=by
 refine⟨len,fun A outer s H args us vs Q E hr e0 hb r hsp=>?_⟩
 have hl:=len _ _ _ _ hsp
 have KX:K.In s.heap:=e0.mod.kin.keeps fun b o e=>(e0.bs b o e).1
 have lim:s.heap.NoLimit:=e0.mod.nolimit.keeps fun b o e=>(e0.bs b o e).1
 have hkind:∀y∈ps.zip us,scope.names.lookup y.1=some .local\/(scope.names.lookup y.1=some .cell/\((cellsFrom (s.heap.objs.size+1) scope.names []).lookup y.1).isSome=true):=fun ⟨n,v⟩ hy=>by
  rcases S.par n (J5 hy).1 with q | q
  .exact .inl q
  .exact .inr ⟨q,ZH _ _ _ (.inl q)⟩
 refine codeAny_call_function hr.depth (KX _ _ lk) rfl S.co S.gen rfl (PySem.W.codeRec_of KX hcd) (hb _ _ _ _ ?_)
 refine wpAny_newFunctionEnv_cells S.kind hkind fun env he s1 x=>?_
 subst he
 refine⟨lim.keeps x.toInCall.keep,codeAny_func ?_⟩
 obtain⟨t,ht,hq⟩:=hbody A outer s H vs Q E (hr.deeper _) hsp
 have I:Inv (Eu CX P w K mg base N qual scope f cdv A outer s H E) [] (start N vs) H s1:=bh S hr.hd e0 hl r x
 refine DO (ht [] s1 (start N vs) H _ I hq) (fun fl s' hs=>?_) fun e s' hs=>hs
 have fin:∀{σ':St} {H':Hp} {v:V} {u:Value},Inv (Eu CX P w K mg base N qual scope f cdv A outer s H E) [] σ' H' s'->RelV v u->Q v H'->CE outer P w H s Q u s' :=
  fun {σ' H' v u} J rv q=>⟨v,H',J.os,J.bare,J.base,J.hok,rv,q⟩
 cases fl with
 | ret u =>
  obtain⟨v,σ',H',J,rv,q⟩:=hs
  exact fin J rv q
 | next =>
  obtain⟨σ',H',J,q⟩:=hs
  exact fin (v:=V.non) (u:=Ca) J rfl q
 | brk =>
  obtain⟨_,_,_,q⟩:=hs
  exact Bf q
 | cont =>
  obtain⟨_,_,_,q⟩:=hs
  exact Bf q
end L2
namespace L2
open PySem PySem.Spec PyProof.Rows
section
variable {X:Cx}{x:Str}{p pos:Pos}{e:Expr}{es:List Expr}{t:TA}{id T:String}{r:List V->Hp->VK->Prop}
def tCB (r:List V->Hp->VK->Prop) (t:TA):TE:=fun σ H Q=>t σ H fun vs H1=>r vs H1 Q
theorem BV (hc:EW X (.builtin id) r) (hg:Gl X x) (hm:X.mg x=none) (hv:bootBuiltins x=some (.builtin id)) (ha:PA X (e::es) t) (hn:x≠"__name__":=by decide) (hdb:(x==("__debug__":Str))=false:=by decide)
  (he:starEach (e::es) X.env=(false,eval e X.env)::starEach es X.env:=by rfl) (hpl:(backTo pos (starEach es X.env)).any (·.1)=false:=by rfl):PE X (.Call (.Name x p) (e::es) [] pos) (tCB r t):=by
 intro pins s σ H Q I h
 refine Ge (G0 I hg hm hv ?_ hn hdb)
 exact PyProof.Rows.callWith_builtin1 (thn (ha pos pins s σ H _ I h) fun us s1 ⟨vs,H1,I1,r1,q1⟩=>hc pins s1 σ H1 vs us Q I1 r1 q1) he hpl
theorem Hq (hc:EW X (.type T) r) (hg:Gl X x) (hm:X.mg x=none) (hv:bootBuiltins x=some (.type T)) (ha:PA X (e::es) t) (hn:x≠"__name__":=by decide) (hdb:(x==("__debug__":Str))=false:=by decide)
  (he:starEach (e::es) X.env=(false,eval e X.env)::starEach es X.env:=by rfl) (hpl:(backTo pos (starEach es X.env)).any (·.1)=false:=by rfl):PE X (.Call (.Name x p) (e::es) [] pos) (tCB r t):=by
 intro pins s σ H Q I h
 refine Ge (G0 I hg hm hv ?_ hn hdb)
 exact KG (thn (ha pos pins s σ H _ I h) fun us s1 ⟨vs,H1,I1,r1,q1⟩=>hc pins s1 σ H1 vs us Q I1 r1 q1) he hpl
end
end L2
namespace HT
open PySem PyProof.Rows
def lexLt:List Int->List Int->Bool
 | [],[]=>false
 | [],_::_=>true
 | _::_,[]=>false
 | x::xs,y::ys=>if x=y then lexLt xs ys else decide (x < y)
theorem lexLt_cons (x y:Int) (xs ys:List Int):lexLt (x::xs) (y::ys)=if x=y then lexLt xs ys else decide (x < y):=rfl
theorem cU:lexLt [] []=false:=rfl
theorem lexLt_nil_cons (y:Int) (ys:List Int):lexLt [] (y::ys)=true:=rfl
theorem cR (x:Int) (xs:List Int):lexLt (x::xs) []=false:=rfl
theorem eqAt_int (A:Around) (s:Shared) (a:Int) (t:Tok) (c:Int) (u:Tok):∃e,Co A s (.int a t) (.int c u) e/\(e=true↔a=c) :=
 ⟨(a==c),ZA a t c u,by simp⟩
theorem ee (A:Around) (s:Shared) (a:Int) (t:Tok) (c:Int) (u:Tok) (prog:Program) (w:World) (E:Value->Shared->Prop) (Q:Value->Shared->Prop) (h:Q (.bool (decide (a < c))) s):
  wpAny (model prog w) A (richCompare .Lt (.int a t) (.int c u)) Q E s :=
 (PyProof.Rows.lt_int h:wpAny (model prog w) A (compareOp .Lt (.int a t) (.int c u)) Q E s)
section
open PySem.SeqAt
open PySem.AutoSeq1 (wpAny_loadPart')
open PySem.MeetsSeq PySem.MeetsSeq2 PySem.MeetsSeq3
theorem iK (l b:Addr) (items items2:Array Value) (n n2:Nat) (dd dd2:Option Addr) (sl sl2:Array (Option Value)) (ns ms:List Int) (hi:IntsAre items.toList ns) (hj:IntsAre items2.toList ms):
  Meets (Builtin.«tuple.__lt__» ⟨[.ref l,.ref b],[]⟩)
   (fun _ R s=>s.heap.get? l=some { cls:=.type "tuple",dict:=dd,data:=.seq items n,slots:=sl }/\s.heap.get? b=some { cls:=.type "tuple",dict:=dd2,data:=.seq items2 n2,slots:=sl2 }/\
    R (.ok (.ret (.bool (lexLt ns ms)))) s) :=
 .of_wp fun prog w A R s h=>by
  obtain⟨hp,g,d,tk,os⟩:=s;obtain⟨hl,hb,h⟩:=h
  have f2:=Qh
  have z1:items.size=ns.length:=by rw[<- hi.length];simp
  have z2:items2.size=ms.length:=by rw[<- hj.length];simp
  wp_walk using Cc hl,Cc hb,ZV _ (fun rest b s'=>b.1=none/\s'=⟨hp,g,d,tk,os⟩/\∃(vs ws:List Value) (ns' ms':List Int),rest=vs.zip ws/\
   IntsAre vs ns'/\IntsAre ws ms'/\ns'.length+items2.size=ms'.length+items.size/\R (.ok (.ret (.bool (lexLt ns' ms')))) ⟨hp,g,d,tk,os⟩) _
  case turn =>
   rintro⟨y,x⟩ rest b s' ⟨hb',rfl,vs,ws,ns',ms',hz,hvi,hwi,hlen,hR⟩
   cases hvi with
   | nil=>rw[List.zip_nil_left] at hz;cases hz
   | cons a t hvi' =>
    cases hwi with
    | nil=>rw[List.zip_nil_right] at hz;cases hz
    | cons c u hwi' =>
     rw[J8] at hz
     injection hz with hyx hrest
     injection hyx with hy hx
     subst hy hx
     rw[lexLt_cons] at hR
     simp only[Bn] at hlen
     obtain⟨e,he,hiff⟩:=eqAt_int A.in1 ⟨hp,g,d,tk,os⟩ a t c u
     refine AI (he prog w _ _ ?_)
     cases e with
     | true =>
      rw[JJz (hiff.mp rfl)] at hR
      wp_walk
      exact⟨rfl,rfl,_,_,_,_,hrest,hvi',hwi',by omega,hR⟩
     | false =>
      rw[JJx (fun q=>absurd (hiff.mpr q) A8)] at hR
      have hri:=ee A.in1 ⟨hp,g,d,tk,os⟩ a t c u prog w
      wp_walk using hri
      exact⟨_,rfl,by simpa using hR⟩
  case fin =>
   rintro⟨b1,b2⟩ s' ⟨hb',rfl,vs,ws,ns',ms',hz,hvi,hwi,hlen,hR⟩
   simp only at hb'
   subst hb'
   have hv:lexLt ns' ms'=decide (items.size < items2.size):=by
    cases hvi with
    | nil =>
     cases hwi with
     | nil =>
      simp only[Fv] at hlen
      rw[cU]
      exact(JJj (by omega)).symm
     | cons c u hw =>
      simp only[Fv,Bn] at hlen
      rw[lexLt_nil_cons]
      exact(JJk (by omega)).symm
    | cons a t hv =>
     cases hwi with
     | nil =>
      simp only[Fv,Bn] at hlen
      rw[cR]
      exact(JJj (by omega)).symm
     | cons c u hw =>
      rw[J8] at hz
      cases hz
   rw[hv] at hR
   wp_walk
   exact⟨_,rfl,by simpa [Builtin.Tuple.tupleCompareSizes] using hR⟩
  case h =>
   exact⟨rfl,rfl,items.toList,items2.toList,ns,ms,rfl,hi,hj,by omega,h⟩
end
section
variable {prog:Program}{w:World}{A:Around}{E:Value->Shared->Prop}{s:Shared}
theorem lt_tupInts {l b:Addr}{items items2:Array Value}{ns ms:List Int}{Q:Value->Shared->Prop} (hl:IsTup s.heap l items) (hb:IsTup s.heap b items2) (hi:IntsAre items.toList ns) (hj:IntsAre items2.toList ms)
  (hu:A.units < cLine) (h:Q (.bool (lexLt ns ms)) s):wpAny (model prog w) A (compareOp .Lt (.ref l) (.ref b)) Q E s:=by
 obtain⟨⟨cls,dd,data,sl⟩,ho,hc,n,hd⟩:=id hl
 obtain⟨⟨cls2,dd2,data2,sl2⟩,ho2,hc2,n2,hd2⟩:=id hb
 simp only at hc hd hc2 hd2
 subst hc hd hc2 hd2
 exact RA (op:=.Lt) ⟨_,ho,rfl⟩ ⟨_,ho2,rfl⟩ PySem.F.slot_tuple_lt PySem.F.entry_tuple_lt (PySem.F.args_tuple_lt_2 _ _) (iK l b items items2 n n2 dd dd2 sl sl2 ns ms hi hj)
  ⟨ho,ho2,show D6 (lexLt ns ms)≠ZF/\Q (.bool (lexLt ns ms)) s from⟨(fun x=>nomatch x),h⟩⟩ hu
def sIx (n d:Nat):Option Int->Nat
 | none=>d
 | some v=>if v < 0 then (v+(n:Int)).toNat else min v.toNat n
end
end HT
namespace L2
open PySem PySem.Spec PyProof.Rows
abbrev TO:=St->Hp->(Option Int->Hp->Prop)->Prop
def PO (X:Cx) (e:Option Expr) (t:TO):Prop :=
 ∀(pins:List (Addr×Obj)) (s:Shared) (σ:St) (H:Hp) (Q:Option Int->Hp->Prop),Inv X pins σ H s->t σ H Q->
  wpAny (model X.prog X.w) X.A (evalPart e X.env) (fun u s'=>∃o H',Inv X pins σ H' s'/\IsPart u o/\Q o H') X.xe s
def hX:TO:=fun _ H Q=>Q none H
def iB (t:TE):TO:=fun σ H Q=>t σ H fun x H1=>∃i,x=.int i/\Q (some i) H1
theorem K0 {ns:List Int}:∀{us:List Value},Vals (ns.map V.int) us->IntsAre us ns:=by
 induction ns with
 | nil=>intro us r;rw[GW] at r;cases r;exact .nil
 | cons n ns ih =>
  intro us r
  rw[Aq] at r
  cases r with
  | cons r1 r2 =>
   obtain⟨t,e⟩:=r1
   subst e
   exact .cons n t (ih r2)
section
variable {X:Cx}{e:Expr}{te:TE}{lo hi:Option Expr}{tl th:TO}{pos p2:Pos}
theorem Fe:PO X none hX:=by
 intro pins s σ H Q I h
 rw[evalPart_none]
 exact AZ ⟨none,H,I,.none,h⟩
theorem Ek (h:PE X e te):PO X (some e) (iB te):=by
 intro pins s σ H Q I hw
 rw[evalPart_some]
 refine thn (h pins s σ H _ I hw) fun u s1 ⟨x,H1,I1,r1,q1⟩=>?_
 obtain⟨i,rfl,q⟩:=q1
 obtain⟨t,rfl⟩:=r1
 exact⟨some i,H1,I1,.int i t,q⟩
def SlR (X:Cx) (r:V->Option Int->Option Int->Hp->VK->Prop):Prop :=
 ∀(pins:List (Addr×Obj)) (s:Shared) (σ:St) (H:Hp) (x:V) (v vl vu:Value) (lo hi:Option Int) (sl:Addr) (Q:VK),Inv X pins σ H s->RelV x v->s.heap.IsSliceOf sl vl vu .none->IsPart vl lo->IsPart vu hi->r x lo hi H Q->
  ∃T id,typeLookup (.type T) "__getitem__"=pure (some (.builtin id))/\s.TypeIs v T/\wpAny (model X.prog X.w) X.A (getItem v (.ref sl)) (EP X pins σ Q) X.xe s
def tSl (r:V->Option Int->Option Int->Hp->VK->Prop) (te:TE) (tl th:TO):TE:=fun σ H Q=>te σ H fun x H1=>tl σ H1 fun l H2=>th σ H2 fun u H3=>r x l u H3 Q
theorem E5 {r:V->Option Int->Option Int->Hp->VK->Prop} (hr:SlR X r) (he:PE X e te) (hl:PO X lo tl) (hu:PO X hi th):PE X (.Subscript e (.Slice lo hi none p2) pos) (tSl r te tl th):=by
 intro pins s σ H Q I h
 refine Qb (thn (he pins s σ H _ I h) fun v s1 ⟨x,H1,I1,r1,q1⟩=>?_)
 refine wpAny_Slice (thn (hl pins s1 σ H1 _ I1 q1) fun vl s2 ⟨l,H2,I2,pl,q2⟩=>thn (hu pins s2 σ H2 _ I2 q2) fun vu s3 ⟨u,H3,I3,pu,q3⟩=>?_)
 rw[evalPart_none]
 refine AZ ?_
 have I4:Inv X pins σ H3 { s3 with heap:=s3.heap.push { cls:=.type "slice",data:=.fields #[vl,vu,.none] } }:=I3.kept (t':=s3.toks) fun b ob q=>Bi _ q
 obtain⟨T,id,hT,ht,hg⟩:=hr pins { s3 with heap:=s3.heap.push { cls:=.type "slice",data:=.fields #[vl,vu,.none] } } σ H3 x v vl vu l u s3.heap.objs.size Q I4 r1 (Heap.IsSliceOf.new ..) pl pu q3
 show wpAny (model X.prog X.w) X.A (subscriptTail e (.Slice lo hi none p2) v (.ref s3.heap.objs.size)) (EP X pins σ Q) X.xe { s3 with heap:=s3.heap.push { cls:=.type "slice",data:=.fields #[vl,vu,.none] } }
 exact tail_any (ops:=[.ref s3.heap.objs.size,v]) ht hT hg (by with_unfolding_all rfl)
def Ce (xs:List V) (lo hi:Option Int):List V:=(xs.drop (HT.sIx xs.length 0 lo)).take (HT.sIx xs.length xs.length hi - HT.sIx xs.length 0 lo)
theorem aK (xs:List V) (lo hi:Option Int):(Ce xs lo hi).length<=xs.length:=by
 unfold Ce
 rw[DK,MO]
 omega
end
end L2
namespace L2
open PySem PySem.Spec PyProof.Rows
def ixN (n:Nat) (i:Int):Option Nat:=if 0<=i then (if i < n then some i.toNat else none) else if -(n:Int)<=i then some (i+n).toNat else none
def atI {α:Type} (xs:List α) (i:Int):Option α:=(ixN xs.length i).bind fun j=>xs[j]?
theorem bp {n:Nat}{i:Int}{j:Nat} (h:ixN n i=some j):seqIndex? i n=some j/\j < n/\-(n:Int)<=i/\i < n:=by
 unfold ixN at h
 by_cases h0:0<=i
 .rw[JJz h0] at h
  by_cases h1:i < n
  .rw[JJz h1] at h
   have e:i.toNat=j:=Af h
   exact⟨by rw[seqIndex_of h0 h1,e],by omega,by omega,h1⟩
  .rw[JJx h1] at h;cases h
 .rw[JJx h0] at h
  by_cases h1:-(n:Int)<=i
  .rw[JJz h1] at h
   have e:(i+n).toNat=j:=Af h
   exact⟨by rw[seqIndex_neg (by omega) h1,e],by omega,h1,by omega⟩
  .rw[JJx h1] at h;cases h
theorem Zu {α:Type}{xs:List α}{i:Int}{v:α} (h:atI xs i=some v):∃j,seqIndex? i xs.length=some j/\xs[j]?=some v/\j < xs.length/\-(xs.length:Int)<=i/\i < xs.length:=by
 unfold atI at h
 cases e:ixN xs.length i with
 | none=>rw[e] at h;cases h
 | some j =>
  rw[e] at h
  obtain⟨h1,h2,h3,h4⟩:=bp e
  exact⟨j,h1,h,h2,h3,h4⟩
theorem CP {α:Type}{xs:List α}{j:Nat}{v:α} (h:xs[j]?=some v):atI xs (j:Int)=some v:=by
 have hj:j < xs.length:=(CJ.mp h).1
 have e:ixN xs.length (j:Int)=some j:=by
  unfold ixN
  rw[JJz (by omega),JJz (by omega)];simp
 unfold atI;rw[e];exact h
theorem Iw {α:Type} (xs:List α) (v:α):atI (xs++[v]) (-1)=some v:=by
 have hl:(xs++[v]).length=xs.length+1:=by simp
 have e:ixN (xs++[v]).length (-1)=some xs.length:=by
  unfold ixN
  rw[hl,JJx (by decide),JJz (by omega)]
  congr 1
  omega
 unfold atI
 rw[e]
 show(xs++[v])[xs.length]?=some v
 simp
def RX (b:Expr):Prop:=∀o i,subscripted b false o i=operate [o,i] (getItem o i)
def IxR (X:Cx) (r:R2):Prop :=
 ∀(value slice:Expr) (pins:List (Addr×Obj)) (s:Shared) (σ:St) (H:Hp) (x y:V) (v u:Value) (Q:VK),Inv X pins σ H s->RelV x v->RelV y u->r x y H Q->
  subscripted slice false v u=operate [v,u] (getItem v u)->wpAny (model X.prog X.w) X.A (subscriptTail value slice v u) (EP X pins σ Q) X.xe s
def MtR (X:Cx) (id:String) (r:V->List V->Hp->VK->Prop):Prop :=
 ∀(pins:List (Addr×Obj)) (s:Shared) (σ:St) (H:Hp) (x:V) (xs:List V) (v:Value) (us:List Value) (Q:VK),Inv X pins σ H s->RelV x v->Vals xs us->r x xs H Q->
  wpAny (model X.prog X.w) X.A (call (.builtin id) (v::us)) (EP X pins σ Q) X.xe s
section
variable {X:Cx}{a b:Expr}{ta tb:TE}{pos:Pos}
theorem CH {r:R2} (hr:IxR X r) (ha:PE X a ta) (hb:PE X b tb) (hs:RX b):PE X (.Subscript a b pos) (tOp r ta tb):=by
 intro pins s σ H Q I h
 exact Qb (NT ha hb I h fun v u s2 x y H2 I2 rx ry q=>hr a b pins s2 σ H2 x y v u Q I2 rx ry q (hs _ _))
def Uc (K:AD):R2:=fun x y H Q=>∃p xs i v,x=.ref p/\y=.int i/\SqL K H p xs/\atI xs i=some v/\Q v H
theorem CF:IxR X (Uc X.K):=by
 intro value slice pins s σ H x y v u Q I rx ry h hs
 obtain⟨p,xs,i,z,rfl,rfl,hq,he,q⟩:=h
 cases rx
 obtain⟨t,rfl⟩:=ry
 obtain⟨its,r,pl,hz⟩:=I.list hq
 obtain⟨j,h1,h2,h3,h4,h5⟩:=Zu he
 obtain⟨w,ew,rw'⟩:=r.get h2
 have hl:=r.length
 have hn:=To
 have fin:EP X pins σ Q w s:=⟨z,H,I,rw',q⟩
 by_cases h0:0<=i
 .have hj:i.toNat=j:=by
   rw[seqIndex_of h0 h5] at h1
   exact Af h1
  exact item_listR pl.isList h0 (by omega) (by rw[hj];simpa using ew) fin hs
 .have hj:(i+(its.toArray.size:Int)).toNat=j:=by
   rw[seqIndex_neg (by omega) h4] at h1
   rw[Bc,<- hl]
   exact Af h1
  exact subscriptTail_builtinR (x:=w) pl.isList.typeIs ZP.lookup
   (wpAny_getItem_list_neg (Q:=fun r s'=>r=w/\EP X pins σ Q r s') pl.isList (by omega) (by rw[Bc] <;> omega) (by omega) (by rw[hj];simpa using ew) ⟨rfl,fin⟩) hs
theorem gH (lo hi:Option Int) (n:Nat):(sliceBounds lo hi none n).1=((HT.sIx n 0 lo:Nat):Int)/\(sliceBounds lo hi none n).2.1=((HT.sIx n n hi:Nat):Int)/\(sliceBounds lo hi none n).2.2=1:=by
 refine⟨?_,?_,rfl⟩
 .cases lo with
  | none=>simp[sliceBounds,HT.sIx]
  | some i =>
   simp only[sliceBounds,HT.sIx,Qa,show(1:Int) > 0 by decide,if_true]
   by_cases h:i < 0
   .simp only[h,if_true] <;> omega
   .simp only[h,if_false] <;> omega
 .cases hi with
  | none=>simp[sliceBounds,HT.sIx]
  | some i =>
   simp only[sliceBounds,HT.sIx,Qa,show(1:Int) > 0 by decide,if_true]
   by_cases h:i < 0
   .simp only[h,if_true] <;> omega
   .simp only[h,if_false] <;> omega
theorem gG (its:List Value) (lo hi:Option Int):slicePick its.toArray lo hi none=((its.drop (HT.sIx its.length 0 lo)).take (HT.sIx its.length its.length hi - HT.sIx its.length 0 lo)).toArray:=by
 obtain⟨h1,h2,h3⟩:=gH lo hi its.toArray.size
 unfold slicePick
 rw[h1,h2,h3]
 simp only[sliceRange_one,pick_run,Bc] <;> rfl
def eT (K:AD):V->Option Int->Option Int->Hp->VK->Prop:=fun x lo hi H Q=>∃a xs,x=.ref a/\SqL K H a xs/\∀p,H p=none->Q (.ref p) (upd H p (.lst (Ce xs lo hi)))
theorem FA:SlR X (eT X.K):=by
 intro pins s σ H x v vl vu lo hi sl Q I rx hs pl pu h
 obtain⟨a,xs,rfl,hx,q⟩:=h
 cases rx
 obtain⟨its,r,ht,hz⟩:=I.list hx
 have hlen:=r.length
 refine⟨"list",_,ZP.lookup,ht.isList.typeIs,?_⟩
 refine wpAny_getItem_list_slice ht.isList hs pl pu .none (by simp) ?_ (by rw[Bc] <;> omega)
 rw[gG,<- hlen]
 refine⟨.ref s.heap.objs.size,_,I.laid (t':=s.toks) (o:=.lst (Ce xs lo hi)) (fun b ob q=>Bi _ q) (Aa _) ?_,rfl,q _ (I.hok.fresh (Aa _))⟩
 exact⟨CW (aK xs lo hi) hz,_,0,(r.drop (HT.sIx xs.length 0 lo)).take (HT.sIx xs.length xs.length hi - HT.sIx xs.length 0 lo),CD _ rfl⟩
def Cy:V->Bool
 | .non=>true
 | .bl _=>true
 | .int _=>true
 | .str _=>true
 | _=>false
def eqV:V->V->Bool
 | .non,.non=>true
 | .bl a,.bl b=>a==b
 | .bl a,.int b=>(if a then 1 else 0)==b
 | .int a,.bl b=>a==(if b then 1 else 0)
 | .int a,.int b=>a==b
 | .str a,.str b=>a==b
 | _,_=>false
theorem a7 {A:Around}{s:Shared}{y x:V}{u v:Value} (ry:RelV y u) (rx:RelV x v) (fy:Cy y=true) (fx:Cy x=true):Co A s u v (eqV y x):=by
 cases y with
 | non =>
  cases ry
  cases x with
  | non=>cases rx;exact ZD _
  | bl b=>cases rx;exact Co.none_bool b
  | int b=>obtain⟨t,rfl⟩:=rx;exact Co.none_int b t
  | str b=>obtain⟨t,rfl⟩:=rx;exact Co.none_str b t
  | _=>exact absurd (show false=true from fx) A8
 | bl a =>
  cases ry
  cases x with
  | non=>cases rx;exact Co.bool_none a
  | bl b=>cases rx;exact Co.bool_bool a b
  | int b=>obtain⟨t,rfl⟩:=rx;exact Co.bool_int a b t
  | str b=>obtain⟨t,rfl⟩:=rx;exact Co.bool_str a b t
  | _=>exact absurd (show false=true from fx) A8
 | int a =>
  obtain⟨t',rfl⟩:=ry
  cases x with
  | non=>cases rx;exact Co.int_none a t'
  | bl b=>cases rx;exact Co.int_bool a t' b
  | int b=>obtain⟨t,rfl⟩:=rx;exact ZA a t' b t
  | str b=>obtain⟨t,rfl⟩:=rx;exact ZC a t' b t
  | _=>exact absurd (show false=true from fx) A8
 | str a =>
  obtain⟨t',rfl⟩:=ry
  cases x with
  | non=>cases rx;exact Co.str_none a t'
  | bl b=>cases rx;exact Co.str_bool a t' b
  | int b=>obtain⟨t,rfl⟩:=rx;exact ZE a t' b t
  | str b=>obtain⟨t,rfl⟩:=rx;exact Co.str_str a t' b t
  | _=>exact absurd (show false=true from fx) A8
 | _=>exact absurd (show false=true from fy) A8
def eqU (x:V) (u:Value):Bool:=match u with
 | .none=>eqV .non x
 | .bool b=>eqV (.bl b) x
 | .int i _=>eqV (.int i) x
 | .str z _=>eqV (.str z) x
 | _=>false
theorem JG {x y:V}{u:Value} (r:RelV y u) (f:Cy y=true):eqU x u=eqV y x:=by
 cases y with
 | non=>cases r;rfl
 | bl b=>cases r;rfl
 | int i=>obtain⟨t,rfl⟩:=r;rfl
 | str z=>obtain⟨t,rfl⟩:=r;rfl
 | _=>exact absurd (show false=true from f) A8
theorem NL {x:V}:∀{xs:List V}{us:List Value},Vals xs us->xs.all Cy=true->us.any (eqU x)=xs.any fun y=>eqV y x
 | _,_,.nil,_=>rfl
 | y::xs,u::us,.cons r t,f=>by
  rw[IL,BL] at f
  rw[DH,DH,JG r f.1,NL t f.2]
theorem JS {A:Around}{s:Shared}{x:V}{v:Value} (rx:RelV x v) (fx:Cy x=true):∀{xs:List V}{us:List Value},Vals xs us->xs.all Cy=true->∀u∈us,Co A s u v (eqU x u)
 | _,_,.nil,_=>fun u hu=>by cases hu
 | y::xs,u::us,.cons r t,f=>fun u' hu=>by
  rw[IL,BL] at f
  rcases AQ.mp hu with rfl | hu
  .rw[JG r f.1];exact a7 r rx f.1 fx
  .exact JS rx fx t f.2 u' hu
def inV (x:V) (xs:List V):Bool:=xs.any fun y=>eqV y x
def rIn (K:AD) (neg:Bool):R2:=fun x y H Q=>∃p xs,y=.ref p/\(SqL K H p xs\/SqT K H p xs)/\Cy x=true/\xs.all Cy=true/\Q (.bl (if neg then !inV x xs else inV x xs)) H
theorem LL:OpR X (compareOp .In) (rIn X.K false):=by
 intro pins s σ H x y v u Q I rx ry h
 obtain⟨p,xs,rfl,hq,fx,fs,q⟩:=h
 cases ry
 rcases hq with hq | hq
 .obtain⟨its,r,pl,hz⟩:=I.list hq
  refine SeqAt.in_listAt (eqU x) pl.isList (fun w hw=>JS rx fx r fs w (by simpa using hw)) ⟨.bl _,H,I,rfl,?_⟩
  rw[show its.toArray.any (eqU x)=its.any (eqU x) by simp,NL r fs]
  exact q
 .obtain⟨its,r,pl,hz⟩:=I.tuple hq
  refine SeqAt.in_tupleAt (eqU x) pl (fun w hw=>JS rx fx r fs w (by simpa using hw)) ⟨.bl _,H,I,rfl,?_⟩
  rw[show its.toArray.any (eqU x)=its.any (eqU x) by simp,NL r fs]
  exact q
theorem CQ:EW X (.builtin "len") (fun xs H Q=>∃p ys,xs=[.ref p]/\(SqL X.K H p ys\/SqT X.K H p ys)/\Q (.int ys.length) H):=by
 intro pins s σ H xs us Q I r h
 obtain⟨p,ys,rfl,hq,q⟩:=h
 obtain⟨u,rfl,rx⟩:=G6 r
 cases rx
 have hn:=To
 rcases hq with hq | hq
 .obtain⟨its,r',pl,hz⟩:=I.list hq
  have hlen:=r'.length
  exact Calls.call_len_list pl.isList (by simp only[Bc] <;> omega) ⟨.int ys.length,H,I.tok _,⟨s.toks+1,by rw[Bc,hlen]⟩,q⟩
 .obtain⟨its,r',pl,hz⟩:=I.tuple hq
  have hlen:=r'.length
  exact len_tuple pl (by simp only[Bc] <;> omega) ⟨.int ys.length,H,I.tok _,⟨s.toks+1,by rw[Bc,hlen]⟩,q⟩
theorem Z6:EW X (.type "list") (fun xs H Q=>∃p ys,xs=[.ref p]/\(SqL X.K H p ys\/SqT X.K H p ys)/\∀l,H l=none->Q (.ref l) (upd H l (.lst ys))):=by
 intro pins s σ H xs us Q I r h
 obtain⟨p,ys,rfl,hq,q⟩:=h
 obtain⟨u,rfl,rx⟩:=G6 r
 cases rx
 have fin:∀(its:List Value),Vals ys its->ys.length<=sizeLine->∀(h':Heap) (c':Nat),(∀b o',s.heap.get? b=some o'->h'.get? b=some o')->
   h'.get? s.heap.objs.size=some { cls:=.type "list",dict:=none,data:=.seq its.toArray c',slots:=#[] }->EP X pins σ Q (.ref s.heap.objs.size) { s with heap:=h' }:=fun its r' hz h' c' kp e =>
  ⟨.ref s.heap.objs.size,_,I.laid (t':=s.toks) kp (Aa _) (show ObjOk X.prog X.w _ h' _ (.lst ys) from⟨hz,its,c',r',e⟩),rfl,q _ (I.hok.fresh (Aa _))⟩
 rcases hq with hq | hq
 .obtain⟨its,r',pl,hz⟩:=I.list hq
  have hlen:=r'.length
  obtain⟨o,ho,hc,n,hd⟩:=pl.isList
  exact call_list_seq p (.inl rfl) ho hc hd (fun h' c' kp e=>fin its r' hz h' c' kp e) (by simp only[Bc] <;> omega)
 .obtain⟨its,r',pl,hz⟩:=I.tuple hq
  have hlen:=r'.length
  obtain⟨o,ho,hc,n,hd⟩:=pl
  exact call_list_seq p (.inr rfl) ho hc hd (fun h' c' kp e=>fin its r' hz h' c' kp e) (by simp only[Bc] <;> omega)
theorem Rr:EW X (.type "tuple") (fun xs H Q=>∃p ys,xs=[.ref p]/\((SqL X.K H p ys/\∀l,H l=none->Q (.ref l) (upd H l (.tup ys)))\/(SqT X.K H p ys/\Q (.ref p) H))):=by
 intro pins s σ H xs us Q I r h
 obtain⟨p,ys,rfl,h⟩:=h
 obtain⟨u,rfl,rx⟩:=G6 r
 cases rx
 rcases h with ⟨hq,q⟩ | ⟨hq,q⟩
 .obtain⟨its,r',pl,hz⟩:=I.list hq
  have hlen:=r'.length
  refine call_tuple_list pl.isList (fun h' kp=>?_) (by simp only[Bc] <;> omega)
  have I1:Inv X pins σ H { s with heap:=h' }:=I.kept (t':=s.toks) kp
  have I2:Inv X pins σ (upd H h'.objs.size (.tup ys)) { s with heap:=h'.push { cls:=.type "tuple",data:=.seq its.toArray } } :=
   I1.laid (t':=s.toks) (fun b o e=>Bi _ e) (Aa _) (show ObjOk X.prog X.w _ _ _ (.tup ys) from⟨hz,its,r',IsTup.new _ _⟩)
  exact⟨.ref h'.objs.size,_,I2,rfl,q _ (I1.hok.fresh (Aa _))⟩
 .obtain⟨its,r',pl,hz⟩:=I.tuple hq
  exact call_tuple_same pl ⟨.ref p,H,I,rfl,q⟩
def tyV (K:AD) (T:String) (x:V) (H:Hp):Prop:=match x with
 | .str _=>T="str"
 | .int _=>T="int"
 | .ref p=>(T="list"/\∃xs,SqL K H p xs)\/(T="tuple"/\∃o,K.lookup p=some o/\o.cls=.type "tuple"/\o.dict=none)\/
  (T="dict"/\((∃kvs,H p=some (.dK kvs))\/∃kvs,H p=some (.dT kvs)))\/(T="set"/\∃S n,H p=some (.set S n))
 | _=>False
theorem iS {pins:List (Addr×Obj)}{σ:St}{H:Hp}{s:Shared}{T:String}{x:V}{v:Value} (I:Inv X pins σ H s) (r:RelV x v) (ty:tyV X.K T x H):
  s.TypeIs v T/\∀a,v=.ref a->∃ob,s.heap.get? a=some ob/\ob.dict=none:=by
 cases x with
 | str z =>
  obtain⟨t,rfl⟩:=r
  cases (show T="str" from ty)
  exact⟨typeIs_str s z t,fun _ e=>nomatch e⟩
 | int i =>
  obtain⟨t,rfl⟩:=r
  cases (show T="int" from ty)
  exact⟨typeIs_int s i t,fun _ e=>nomatch e⟩
 | ref p =>
  cases r
  rcases ty with ⟨rfl,xs,hq⟩ | ⟨rfl,o,hk,hc,hd⟩ | ⟨rfl,hk⟩ | ⟨rfl,S,n,hk⟩
  .obtain⟨its,_,pl,_⟩:=I.list hq
   refine⟨pl.isList.typeIs,fun a e=>?_⟩
   cases e
   obtain⟨o,n,e,c,hd,_⟩:=pl
   exact⟨o,e,hd⟩
  .refine⟨⟨o,I.kIn p o hk,hc⟩,fun a e=>?_⟩
   cases e
   exact⟨o,I.kIn _ o hk,hd⟩
  .have z:∃o,s.heap.get? p=some o/\o.ExactDict:=by
    rcases hk with ⟨kvs,hk⟩ | ⟨kvs,hk⟩
    .obtain⟨_,_,_,_,o,_,_,e,ex,_⟩:=I.hok p _ hk
     exact⟨o,e,ex⟩
    .obtain⟨_,_,_,_,o,_,_,e,ex,_⟩:=I.hok p _ hk
     exact⟨o,e,ex⟩
   obtain⟨o,e,ex⟩:=z
   refine⟨⟨o,e,ex.1⟩,fun a e2=>?_⟩
   cases e2
   exact⟨o,e,ex.2.1⟩
  .obtain⟨o,_,_,_,e,ex,_⟩:=I.hok p _ hk
   refine⟨⟨o,e,ex.1⟩,fun a e2=>?_⟩
   cases e2
   exact⟨o,e,ex.2.1⟩
 | _=>exact Bf ty
def tBM (K:AD) (T:String) (r:V->List V->Hp->VK->Prop) (to:TE) (t:TA):TE:=fun σ H Q=>to σ H fun x H1=>tyV K T x H1/\t σ H1 fun xs H2=>r x xs H2 Q
variable {o e:Expr}{es:List Expr}{to:TE}{t:TA}{name:Str}{apos cpos:Pos}{T id:String}{r:V->List V->Hp->VK->Prop}
theorem EE (pa:PlainAttrs T) (slot:Slot T name id) (hty:typeOf (.builtin id)=pure (.type "method_descriptor")) (hm:MtR X id r) (ho:PE X o to) (ha:PA X (e::es) t)
  (hbase:attributeBase o name X.env (eval o X.env)=eval o X.env:=by rfl)
  (hfew:((backTo cpos (starEach (e::es) X.env)).all (fun x=>!x.1)&&(backToKw cpos (keywordEach [] X.env)).all (fun x=>x.1.isSome)
   && decide ((e::es).length+([]:List Keyword).length+(if ([]:List Keyword).isEmpty then 0 else 1) < 30))=true:=by rfl)
  (hline:(apos.endLine==cpos.line)=true:=by rfl) (hs:starEach (e::es) X.env=(false,eval e X.env)::starEach es X.env:=by rfl) (hplain:(backTo cpos (starEach es X.env)).any (·.1)=false:=by rfl):
  PE X (.Call (.Attribute o name apos) (e::es) [] cpos) (tBM X.K T r to t):=by
 intro pins s σ H Q I h
 refine wpAny_Call_method_late hbase hfew hline rfl (thn (ho pins s σ H _ I h) fun v s1 ⟨x,H1,I1,r1,ty,q1⟩=>?_)
 obtain⟨h1,h2⟩:=iS I1 r1 ty
 refine⟨T,id,pa,slot,hty,h1,h2,?_⟩
 have hA:=ha cpos pins s1 σ H1 _ I1 q1
 rw[hs] at hA ⊢
 refine Qj (by show(false || (backTo cpos (starEach es X.env)).any (·.1))=false;rw[hplain] <;> rfl) (Qk ?_)
 exact thn hA fun us s2 ⟨vs,H2,I2,r2,q2⟩=>hm pins s2 σ H2 x vs v us Q I2 r1 r2 q2
/- xs.append(e),list.index on a module's tuple .. are MtR facts of 06m -/
end
end L2
namespace L2
open PySem PySem.Spec PyProof.Rows
def MtM (X:Cx) (id:String) (r:V->List V->Hp->VK->Prop):Prop :=
 ∀(pins:List (Addr×Obj)) (s:Shared) (σ:St) (H:Hp) (x:V) (xs:List V) (v:Value) (us:List Value) (Q:VK),Inv X pins σ H s->RelV x v->Vals xs us->r x xs H Q->
  wpAny (model X.prog X.w) X.A (call (.builtin id) (v::us)) (EP X pins σ Q) X.xe s
theorem Vals.one:∀{x:V}{us:List Value},Vals [x] us->∃u,us=[u]/\RelV x u
 | _,_,.cons r .nil=>⟨_,rfl,r⟩
section
variable {X:Cx}{pins:List (Addr×Obj)}{σ:St}{H:Hp}{s:Shared}{l b:Addr}{xs ys zs:List V}
theorem Inv.lset {its its':List Value}{n:Nat}{f:Array Value->Array Value}{t':Nat} (I:Inv X pins σ H s) (hH:H l=some (.lst xs))
  (e:s.heap.get? l=some { cls:=.type "list",data:=.seq its.toArray n }) (hf:f its.toArray=its'.toArray) (hv:Vals ys its') (hz:ys.length<=sizeLine):
  Inv X pins σ (upd H l (.lst ys)) { s with heap:=s.heap.update l (DC f),toks:=t' }:=by
 have q:=PySem.IsL.update e f
 rw[hf] at q
 refine I.write (x:=l) (e:=l) (by rw[hH];exact trivial) (.inl rfl) (fun b' u hb hu=>(Heap.get?_update_other s.heap (DC f) (Ar hb)).trans hu) ⟨_,q⟩ ?_
 exact⟨hz,its',_,hv,q⟩
theorem Inv.lnew {its:List Value}{t':Nat} (I:Inv X pins σ H s) (hv:Vals ys its) (hz:ys.length<=sizeLine):
  Inv X pins σ (upd H s.heap.objs.size (.lst ys)) { s with heap:=s.heap.push { cls:=.type "list",data:=.seq its.toArray },toks:=t' } :=
 I.laid (fun _ _ q=>Bi _ q) (Aa _) ⟨hz,its,0,hv,CD _ rfl⟩
theorem Inv.fresh (I:Inv X pins σ H s):H s.heap.objs.size=none:=I.hok.fresh (Aa _)
theorem Inv.lstM (I:Inv X pins σ H s) (hH:H l=some (.lst xs)):xs.length<=sizeLine/\∃(its:List Value) (n:Nat),Vals xs its/\xs.length=its.length/\s.heap.get? l=some { cls:=.type "list",data:=.seq its.toArray n }:=by
 obtain⟨z,its,n,r,e⟩:=I.hok l _ hH
 exact⟨z,its,n,r,r.length,e⟩
theorem LI {n:Nat} (h:n<=sizeLine):KI n=false:=by
 unfold KI
 exact JJj (by omega)
end
section
variable {X:Cx}
def eM:V->List V->Hp->VK->Prop:=fun x vs H Q=>∃l xs y,x=.ref l/\vs=[y]/\H l=some (.lst xs)/\xs.length < sizeLine/\Q .non (upd H l (.lst (xs++[y])))
theorem GH:MtM X "list.append" eM:=by
 intro pins s σ H x vs v us Q I rx rv h
 obtain⟨l,xs,y,rfl,rfl,hH,hz,q⟩:=h
 cases rx
 obtain⟨u,rfl,ru⟩:=rv.one
 obtain⟨z,its,n,r,hl,e⟩:=I.lstM hH
 refine KN F.slot_list_append ⟨_,e,rfl⟩ F.entry_list_append (F.args_list_append_2 _ _) (PySem.list_append l its.toArray n u (by rw[Bc];omega)) ⟨e,?_⟩
 refine⟨.non,_,I.lset (its':=its++[u]) hH e (by simp) (r.append (.cons ru .nil)) ?_,rfl,q⟩
 rw[BC,Bz]
 omega
def eP:V->List V->Hp->VK->Prop:=fun x vs H Q=>∃l b xs zs,x=.ref l/\vs=[.ref b]/\H l=some (.lst xs)/\H b=some (.lst zs)/\xs.length+zs.length<=sizeLine/\Q .non (upd H l (.lst (xs++zs)))
theorem cx:MtM X "list.extend" eP:=by
 intro pins s σ H x vs v us Q I rx rv h
 obtain⟨l,b,xs,zs,rfl,rfl,hH,hB,hz,q⟩:=h
 cases rx
 obtain⟨u,rfl,ru⟩:=rv.one
 cases ru
 obtain⟨z,its,n,r,hl,e⟩:=I.lstM hH
 obtain⟨z2,its2,n2,r2,hl2,e2⟩:=I.lstM hB
 have hsz:its.toArray.size+its2.toArray.size<=sizeLine:=by rw[Bc,Bc];omega
 have hlong:¬(!its.toArray.isEmpty&&KI (its.toArray.size+its2.toArray.size))=true:=by
  rw[LI hsz,IG]
  exact A8
 refine KN F.slot_list_extend ⟨_,e,rfl⟩ F.entry_list_extend (F.args_list_extend_2 _ _)
  (AutoSeq1.list_extend_list_list_0 l its.toArray n b its2.toArray n2 hlong (by rw[Bc];omega) (by omega)) ⟨e,e2,?_⟩
 refine⟨.non,_,I.lset (its':=its++its2) hH e (by simp) (r.append r2) ?_,rfl,q⟩
 rw[BC]
 omega
def eN:R2:=fun x y H Q=>∃l b xs zs,x=.ref l/\y=.ref b/\H l=some (.lst xs)/\H b=some (.lst zs)/\xs.length+zs.length<=sizeLine/\∀p,H p=none->Q (.ref p) (upd H p (.lst (xs++zs)))
theorem Eh:OpR X (binaryOp .Add) eN:=by
 intro pins s σ H x y v u Q I rx ry h
 obtain⟨l,b,xs,zs,rfl,rfl,hH,hB,hz,q⟩:=h
 cases rx
 cases ry
 obtain⟨z,its,n,r,hl,e⟩:=I.lstM hH
 obtain⟨z2,its2,n2,r2,hl2,e2⟩:=I.lstM hB
 refine PySem.P.add_list e e2 ?_ (by rw[Bc,Bc];omega)
 have ea:its.toArray++its2.toArray=(its++its2).toArray:=by simp
 rw[ea]
 exact⟨.ref _,_,I.lnew (t':=s.toks) (r.append r2) (by rw[BC];omega),rfl,q _ I.fresh⟩
end
section
variable {prog:Program}{w:World}{A:Around}{E:Value->Shared->Prop}{s:Shared}
theorem Z3 {a c n:Nat} (hac:a<=c) (hc:c<=n):sliceBounds (some (a:Int)) (some (c:Int)) none n=((a:Int),(c:Int),1):=by
 simp only[sliceBounds,Qa]
 have h1:¬((a:Int) < 0):=by omega
 have h2:¬((c:Int) < 0):=by omega
 simp only[h1,h2,if_false,show(1:Int) > 0 by decide,if_true]
 congr 1
 .omega
 .congr 1;omega
set_option maxRecDepth 100000 in
theorem ia {l b sl : Addr} {items new : Array Value} {n n2 : Nat} {vl vu : Value} {a c : Nat} {Q : Unit -> Shared -> Prop}
    (e : s.heap.get? l = some { cls := .type "list", data := .seq items n }) (e2 : s.heap.get? b = some { cls := .type "list", data := .seq new n2 }) (hne : l ≠ b)
    (hs : s.heap.IsSliceOf sl vl vu .none) (pl : IsPart vl (some (a : Int))) (pu : IsPart vu (some (c : Int))) (hac : a <= c) (hc : c <= items.size)
    (hsz : items.size + new.size <= sizeLine) (h : Q () { s with heap := s.heap.update l (DC fun xs => xs.extract 0 a ++ new ++ xs.extract c xs.size) }) :
    wpAny (model prog w) A (setItem (.ref l) (.ref sl) (.ref b)) Q E s := by
  have hl : s.heap.IsList l items := Y6 e
  have hb : s.heap.IsList b new := Y6 e2
  obtain ⟨os, hos, hcs, hds⟩ := id hs
  have hTs : s.TypeIs (.ref sl) "slice" := ⟨os, hos, hcs⟩
  have hstep : ¬ ((rawPart none == rawInt 0) = true) := A8
  have hsame : Ym (.ref l) (.ref b) = false := by
    unfold Ym
    exact beq_eq_false_iff_ne.mpr hne
  have hmax : (max (a : Int) (c : Int)).toNat = c := by omega
  have hz' : ((fun xs : Array Value => xs.extract 0 a ++ new ++ xs.extract c xs.size) items).size <= sizeLine + 1 := by
    simp only [X4, Array.size_extract]
    omega
  unfold setItem
  try with_reducible refine KQ ?_
  first | refine AI (AZ ?_) | skip
  refine AI (wpAny_sequenceKey hl.typeIs (by decide) ?_)
  refine AI (Io (name := EV "__setitem__") hl.typeIs ZQ
    (Gf ZQ hl.typeIs entry_list_setitem ?_ (args_list_setitem _ _ _)))
  show wpAny _ _ (Yn (.ref sl) >>= _) _ _ s
  refine AI ?_
  unfold Yn
  refine AI (Zb hTs slice_no_index ?_)
  simp only [Option.isNone_none, if_true]
  refine AZ ?_
  show wpAny _ _ (typeOf (.ref sl) >>= _) _ _ s
  refine AI (wpAny_typeOf hTs ?_)
  first
    | rw [JJx (by decide)]
    | refine Qw (by decide) ?_
  rw [listSliceParts_eq]
  refine AI (AI (HQ hos hds (x := .none) rfl (AI (RF .none ?_))))
  rw [JJx hstep]
  refine AI (HQ hos hds (x := vl) rfl (AI (RF pl ?_)))
  refine AI (HQ hos hds (x := vu) rfl (AI (RF pu (AZ ?_))))
  first
    | simp only [hsame, Dz, if_false]
    | refine Qw hsame ?_
    | (dsimp only
       rw [JJx (by rw [hsame]; exact A8)])
  refine AI (m := Yl (.ref b) "must assign iterable to extended slice") ?_
  unfold Yl
  refine AI (wpAny_typeOf hb.typeIs ?_)
  first
    | refine PySem.W.KFB.if_so (by decide) ?_
    | rw [JJz (by decide)]
    | simp only [beq_self_eq_true, Pu, if_true]
  unfold Qi
  refine AI (Mx e2 rfl (AZ ?_))
  refine AI (AI (Mx e rfl (AZ ?_)))
  refine AI (RG ((sliceIndices_raw (some (a : Int)) (some (c : Int)) none items.size (by simp)).trans (congrArg (pure : Int × Int × Int -> Sem (Int × Int × Int)) (Z3 hac hc))) ?_)
  show wpAny _ _ (if ((1 : Int) == 1) = true then _ else _) _ _ s
  rw [JJz (by decide)]
  refine AI (RJ ?_)
  first
    | simp only [LI hsz, Dz, if_false]
    | refine Qw (LI hsz) ?_
  first | refine AI (AZ ?_) | skip
  show wpAny _ _ (updateSeq l (fun xs => xs.extract 0 ((a : Int)).toNat ++ new ++ xs.extract (max (a : Int) (c : Int)).toNat xs.size) >>= _) _ _ s
  rw [hmax, HE]
  refine AI (Zc (hz := CW (QT _ _) hsz) (_hz' := hz') e rfl ?_)
  refine AI (RE ?_)
  first
    | exact AI (AZ (AZ ⟨.none, rfl, AZ h⟩))
    | exact AZ ⟨.none, rfl, AZ h⟩
end
section
variable {X:Cx}
end
end L2
namespace L2
open PySem PySem.Spec PyProof.Rows
theorem Vals.bls:∀{bs:List Bool}{us:List Value},Vals (bs.map V.bl) us->us=bs.map D6
 | [],us,h=>by
  rw[GW] at h
  cases h
  rfl
 | b::bs,us,h=>by
  rw[Aq] at h
  cases h with
  | cons r t =>
   cases r
   rw[Vals.bls t,Aq]
theorem Vals.ref1 {a:Addr}{us:List Value} (r:Vals [V.ref a] us):us=[Ab a]:=by
 cases r with
 | cons r t =>
  cases t
  cases r
  rfl
section
variable {prog:Program}{w:World}{A:Around}{E:Value->Shared->Prop}{s:Shared}{l:Addr}{its:List Value}{ns:List Int}{Q:Value->Shared->Prop}
end
section
variable {X:Cx}
end
section
variable {X:Cx}
def Ub (K:AD):V->List V->Hp->VK->Prop:=fun x xs H Q=>∃(a:Addr) (ys:List V) (y:V) (j:Nat) (z:V),x=V.ref a/\xs=[y]/\SqL K H a ys/\Cy y=true/\ys.all Cy=true/\ys[j]?=some z/\eqV z y=true/\
 (∀(m:Nat) (z':V),m < j->ys[m]?=some z'->eqV z' y=false)/\Q (.int (j:Nat)) H
theorem Si {ys:List V} (f:ys.all Cy=true) {j:Nat}{z:V} (h:ys[j]?=some z):Cy z=true:=Cu.mp f z (Cw h)
theorem c7:MtR X "list.index" (Ub X.K):=by
 intro pins s σ H x xs v us Q I rx rxs h
 obtain⟨a,ys,y,j,z,rfl,rfl,hs,fy,fys,hz,hzj,hno,q⟩:=h
 cases rx
 cases rxs with
 | cons ry rt =>
  rename_i uy ut
  cases rt
  obtain⟨its,rv,⟨⟨cls,dd,data,sl⟩,n,ho,hc,hdn,hd⟩,hlen⟩:=I.list hs
  simp only at hc hd
  subst hc hd
  obtain⟨u,hu,ru⟩:=rv.get hz
  obtain⟨hjl,hje⟩:=CJ.mp hu
  have hvl:=rv.length
  have hj:j < its.toArray.size:=by simpa using hjl
  have hsl:=Ms
  refine KN Y1 ⟨_,ho,rfl⟩ PySem.F.entry_list_index (PySem.F.args_list_index_2 _ _)
   (SeqAt.list_indexAt a its.toArray n dd sl uy (eqU y) j hj (by omega) ?_ ?_) ⟨ho,fun u' hu'=>JS ry fy rv fys u' (by simpa using hu'),?_⟩
  .have e1:its.toArray[j]=u:=by simpa using hje
   rw[e1,JG ru (Si fys hz)]
   exact hzj
  .intro m hm hmj
   have hml:m < its.length:=by simpa using hm
   have hmy:m < ys.length:=by omega
   have hy':ys[m]?=some ys[m]:=Ba hmy
   obtain⟨u2,hu2,ru2⟩:=rv.get hy'
   obtain⟨_,hme⟩:=CJ.mp hu2
   have e1:its.toArray[m]=u2:=by simpa using hme
   rw[e1,JG ru2 (Si fys hy')]
   exact hno m _ hmj hy'
  .exact⟨.int (j:Nat),H,I.tok _,⟨_,rfl⟩,q⟩
end
section
variable {X:Cx}
end
theorem TQ {prog:Program}{w:World}{A:Around}{E:Value->Shared->Prop}{s:Shared}{l:Addr}{items:Array Value}{Q:Value->Shared->Prop} (hl:s.heap.IsList l items)
  (h:∀s₂:Shared,s₂={ s with heap:=s.heap.push { cls:=.type "list_iterator",data:=.fields #[.ref l,.int 0 0] } }->
   (s₂.heap.IsListIter s.heap.objs.size l 0/\s₂.heap.IsList l items)->l≠s.heap.objs.size->Q (.ref s.heap.objs.size) s₂):wpAny (model prog w) A (pyIter (.ref l)) Q E s:=by
 have hlt:l < s.heap.objs.size:=by obtain⟨_,e,_⟩:=hl;exact BJ e
 exact ZZ hl (h _ rfl ⟨⟨_,CD _ rfl,rfl,rfl⟩,hl.push _⟩ (B1 hlt))
theorem Xk {prog:Program}{w:World}{A:Around}{bs:List Bool}{its:List Value} (e:its=bs.map D6):
  TruthOf prog w A (fun i v=>its.toArray[i]?=some v) (fun i=>bs.getD i false):=fun i v s Q E hv hq=>by
 have hv':its[i]?=some v:=by simpa using hv
 rw[e,Ao] at hv'
 obtain⟨b,hb,rfl⟩:=KD.mp hv'
 have hg:bs.getD i false=b:=by rw[GU,hb] <;> rfl
 have hq':Q (bs.getD i false) s:=hq
 rw[hg] at hq'
 exact F0 hq'
theorem Rf:∀bs:List Bool,(DB bs.length).any (fun i=>bs.getD i false)=bs.any id
 | []=>rfl
 | b::bs=>by
  rw[Bn,MR,DH,IP,DH,<- Rf bs]
  all_goals rfl
theorem Ra:∀bs:List Bool,(DB bs.length).all (fun i=>bs.getD i false)=bs.all id
 | []=>rfl
 | b::bs=>by
  rw[Bn,MR,IL,GS,IL,<- Ra bs]
  all_goals rfl
section
variable {X:Cx}
def eL (K:AD):List V->Hp->VK->Prop:=fun vs H Q=>∃(a:Addr) (bs:List Bool),vs=[V.ref a]/\SqL K H a (bs.map V.bl)/\Q (.bl (bs.any id)) H
def eK (K:AD):List V->Hp->VK->Prop:=fun vs H Q=>∃(a:Addr) (bs:List Bool),vs=[V.ref a]/\SqL K H a (bs.map V.bl)/\Q (.bl (bs.all id)) H
theorem R3 (hc:X.calm=true):EW X (.builtin "any") (eL X.K):=by
 intro pins s σ H vs us Q I r h
 obtain⟨a,bs,rfl,hs,q⟩:=h
 obtain⟨its,rv,hl,_⟩:=I.list hs
 rw[Vals.ref1 r]
 have hb:=rv.bls
 refine call_any_walk (TQ hl.isList fun s₂ e2 st hne=>?_)
 subst e2
 refine⟨_,_,_,_,_,_,_,rfl,Walks.list (A:=X.A.in1) (I.ok.hd hc) _ a hne its.toArray,st,Xk hb,fun h' tk hk=>?_⟩
 refine⟨.bl _,H,I.kept fun b o eo=>hk b o (fun hmem=>?_) (Bi _ eo),?_,q⟩
 .rcases AQ.mp hmem with e1 | hmem
  .exact absurd (e1▸BJ eo) (C3 _)
  .cases hmem
 .show D6 _=D6 _
  rw[<- Rf,hb,Bc,AH]
theorem Kj (hc:X.calm=true):EW X (.builtin "all") (eK X.K):=by
 intro pins s σ H vs us Q I r h
 obtain⟨a,bs,rfl,hs,q⟩:=h
 obtain⟨its,rv,hl,_⟩:=I.list hs
 rw[Vals.ref1 r]
 have hb:=rv.bls
 refine call_all_walk (TQ hl.isList fun s₂ e2 st hne=>?_)
 subst e2
 refine⟨_,_,_,_,_,_,_,rfl,Walks.list (A:=X.A.in1) (I.ok.hd hc) _ a hne its.toArray,st,Xk hb,fun h' tk hk=>?_⟩
 refine⟨.bl _,H,I.kept fun b o eo=>hk b o (fun hmem=>?_) (Bi _ eo),?_,q⟩
 .rcases AQ.mp hmem with e1 | hmem
  .exact absurd (e1▸BJ eo) (C3 _)
  .cases hmem
 .show D6 _=D6 _
  rw[<- Ra,hb,Bc,AH]
end
mutual
inductive Dp (K:AD) (H:Hp):V->PyData->Prop
 | non:Dp K H .non .none
 | bl (b:Bool):Dp K H (.bl b) (.bool b)
 | int (i:Int):Dp K H (.int i) (.int i)
 | str (x:Str):Dp K H (.str x) (.str x)
 | lst {a:Addr} {xs:List V} {ds:List PyData}:SqL K H a xs->HS K H xs ds->Dp K H (.ref a) (.list ds)
 | tup {a:Addr} {xs:List V} {ds:List PyData}:SqT K H a xs->HS K H xs ds->Dp K H (.ref a) (.tuple ds)
inductive HS (K:AD) (H:Hp):List V->List PyData->Prop
 | nil:HS K H [] []
 | cons {v:V} {vs:List V} {d:PyData} {ds:List PyData}:Dp K H v d->HS K H vs ds->HS K H (v::vs) (d::ds)
end
section
variable {X:Cx}{pins:List (Addr×Obj)}{σ:St}{H:Hp}{s:Shared}
mutual
theorem Dp.reads (I:Inv X pins σ H s):∀(d:PyData) (v:V) (u:Value),Dp X.K H v d->RelV v u->∃as,Reads s.heap u d as
 | .none,_,_,h,r=>by
  cases h
  cases r
  exact⟨_,Reads.none⟩
 | .bool b,_,_,h,r=>by
  cases h
  cases r
  exact⟨_,Reads.bool b⟩
 | .int i,_,_,h,r=>by
  cases h
  obtain⟨t,rfl⟩:=r
  exact⟨_,Reads.int i t⟩
 | .str x,_,_,h,r=>by
  cases h
  obtain⟨t,rfl⟩:=r
  exact⟨_,Reads.str x t⟩
 | .list ds,_,_,h,r=>by
  cases h with
  | lst hs ha =>
   cases r
   obtain⟨its,rv,⟨o,n,ho,hc,_,hd⟩,_⟩:=I.list hs
   obtain⟨as,hr⟩:=Dp.readsAll I ds _ its ha rv
   exact⟨_,Reads.list ho hc hd hr⟩
 | .tuple ds,_,_,h,r=>by
  cases h with
  | tup hs ha =>
   cases r
   obtain⟨its,rv,⟨o,ho,hc,n,hd⟩,_⟩:=I.tuple hs
   obtain⟨as,hr⟩:=Dp.readsAll I ds _ its ha rv
   exact⟨_,Reads.tuple ho hc hd hr⟩
 | .dict _,_,_,h,_=>by cases h
theorem Dp.readsAll (I:Inv X pins σ H s):∀(ds:List PyData) (vs:List V) (us:List Value),HS X.K H vs ds->Vals vs us->∃as,ReadsAll s.heap us ds as
 | [],_,_,h,r=>by
  cases h
  cases r
  exact⟨_,ReadsAll.nil⟩
 | d::ds,_,_,h,r=>by
  cases h with
  | cons h1 h2 =>
   cases r with
   | cons r1 r2 =>
    obtain⟨as,q1⟩:=Dp.reads I d _ _ h1 r1
    obtain⟨bs,q2⟩:=Dp.readsAll I ds _ _ h2 r2
    exact⟨_,ReadsAll.cons q1 q2⟩
end
end
section
variable {X:Cx}
def eO (K:AD):R2:=fun x y H Q=>∃d e,Dp K H x d/\Dp K H y e/\Ik d=true/\Ik e=true/\Q (.bl (Fy d e)) H
def Ud (K:AD):R2:=fun x y H Q=>∃d e,Dp K H x d/\Dp K H y e/\Ik d=true/\Ik e=true/\Q (.bl (!Fy d e)) H
theorem Ei (hu:X.A.units+64 < cLine):OpR X (compareOp .Eq) (eO X.K):=by
 intro pins s σ H x y v u Q I rx ry h
 obtain⟨d,e,hd,he,sd,se,q⟩:=h
 obtain⟨as,r1⟩:=Dp.reads I d x v hd rx
 obtain⟨bs,r2⟩:=Dp.reads I e y u he ry
 exact SeqAt.compareEq_shaped r1 r2 sd se hu ⟨.bl _,H,I,rfl,q⟩
theorem Ey (hu:X.A.units+64 < cLine):OpR X (compareOp .NotEq) (Ud X.K):=by
 intro pins s σ H x y v u Q I rx ry h
 obtain⟨d,e,hd,he,sd,se,q⟩:=h
 obtain⟨as,r1⟩:=Dp.reads I d x v hd rx
 obtain⟨bs,r2⟩:=Dp.reads I e y u he ry
 exact SeqAt.compareNe_shaped r1 r2 sd se hu ⟨.bl _,H,I,rfl,q⟩
end
end L2
namespace L2
open PySem PySem.Spec PyProof.Rows
abbrev RO (h:Heap) (c:Addr) (v:Option Value):Prop:=h.IsCell c v
def eh (scope sc:Scope):Scope :=
 { scope with names:=scope.names.map fun (n,k)=>if (k==.free&&sc.kind==.function&&sc.names.lookup n==some .cell) then (n,.cell) else (n,k) }
def Cd (cells:List (Str×Addr)):List (Str×NameKind)->List (Str×Addr)->List (Str×Addr)
 | [],acc=>acc
 | (n,k)::r,acc=>if k==.free then Cd cells r ((n,(cells.lookup n).getD 0)::acc) else Cd cells r acc
theorem Rx (env:Env) (f:Str×NameKind->List (Str×Addr)->Sem (ForInStep (List (Str×Addr))))
  (hf:∀n k c,f (n,k) c=if k==.free then (do let a <- cellOf env n;pure (.yield ((n,a)::c))) else pure (.yield c)):
  ∀(names:List (Str×NameKind)) (acc:List (Str×Addr)),(∀y∈names,y.2=.free->∃c,env.cells.lookup y.1=some c)->forIn names acc f=pure (Cd env.cells names acc)
 | [],acc,_=>by rw[ML];rfl
 | (n,k)::r,acc,h=>by
  rw[QD,hf]
  have ih:=fun acc=>Rx env f hf r acc fun y hy=>h y (Av _ hy)
  unfold Cd
  by_cases hk:(k==Fx)=true
  .rw[JJz hk,JJz hk]
   obtain⟨c,hc⟩:=h (n,k) AV (by simpa using hk)
   have e:cellOf env n=pure c:=by unfold cellOf;rw[hc]
   rw[e]
   have e2:(env.cells.lookup n).getD 0=c:=by rw[hc];rfl
   rw[e2]
   exact ih _
  .rw[JJx hk,JJx hk]
   exact ih _
theorem Z9 {scope:Scope}{env:Env} (h:∀y∈scope.names,y.2=.free->∃c,env.cells.lookup y.1=some c):closureFor scope env=pure (Cd env.cells scope.names []):=by
 simp only[closureFor]
 rw[Rx env _ (fun n k c=>rfl) scope.names [] h]
 rfl
theorem OF {α:Type}:∀{l:List (Str×α)}{n:Str}{c:α},(n,c)∈l->∃c',l.lookup n=some c'
 | (k,v)::r,n,c,h=>by
  rw[Er]
  cases hb:n==k with
  | true=>exact⟨_,rfl⟩
  | false =>
   rcases AQ.mp h with e | h
   .cases e;simp at hb
   .exact OF h
theorem Kh {cells:List (Str×Addr)}:∀{names:List (Str×NameKind)}{acc:List (Str×Addr)}{n:Str}{c:Addr},(n,c)∈Cd cells names acc->(n,c)∈acc\/((n,.free)∈names/\c=(cells.lookup n).getD 0)
 | [],_,_,_,h=>.inl h
 | (m,k)::r,acc,n,c,h=>by
  unfold Cd at h
  split at h
  .rename_i hk
   have hk:k=.free:=by simpa using hk
   rcases Kh h with h | ⟨h1,h2⟩
   .rcases AQ.mp h with e | h
    .cases e;exact .inr ⟨hk▸AV,rfl⟩
    .exact .inl h
   .exact .inr ⟨Av _ h1,h2⟩
  .rcases Kh h with h | ⟨h1,h2⟩
   .exact .inl h
   .exact .inr ⟨Av _ h1,h2⟩
theorem NZ {cells:List (Str×Addr)}:∀{names:List (Str×NameKind)}{acc:List (Str×Addr)}{p:Str×Addr},p∈acc->p∈Cd cells names acc
 | [],_,_,h=>h
 | (m,k)::r,acc,p,h=>by
  unfold Cd
  split
  .exact NZ (Av _ h)
  .exact NZ h
theorem Na {cells:List (Str×Addr)}:∀{names:List (Str×NameKind)}{acc:List (Str×Addr)}{n:Str},(n,.free)∈names->(n,(cells.lookup n).getD 0)∈Cd cells names acc
 | (m,k)::r,acc,n,h=>by
  unfold Cd
  rcases AQ.mp h with e | h
  .cases e
   exact NZ AV
  .split
   .exact Na h
   .exact Na h
theorem Iz:∀{names:List (Str×NameKind)}{h:Heap}{acc:List (Str×Addr)}{x:Str}{c:Addr},(x,c)∈cellsFrom h.objs.size names acc->
  (x,c)∈acc\/((x,.cell)∈names/\h.objs.size<=c/\RO (pushCells h names) c none)
 | [],_,_,_,_,h=>.inl h
 | (n,k)::r,h,acc,x,c,hm=>by
  unfold cellsFrom at hm
  unfold pushCells
  split at hm
  .rename_i hk
   rw[JJz hk]
   have hk:k=.cell:=by simpa using hk
   rw[<- Dm h { cls:=.type "cell",data:=.cell none }] at hm
   rcases Iz hm with hm | ⟨h1,h2,h3⟩
   .rcases AQ.mp hm with e | hm
    .cases e
     exact .inr ⟨hk▸AV,Aa _,_,Mr r _ _ _ (CD _ rfl),rfl⟩
    .exact .inl hm
   .rw[Dm] at h2
    exact .inr ⟨Av _ h1,MT h2,h3⟩
  .rename_i hk
   rw[JJx hk]
   rcases Iz hm with hm | ⟨h1,h2,h3⟩
   .exact .inl hm
   .exact .inr ⟨Av _ h1,h2,h3⟩
theorem Kg:∀{names:List (Str×NameKind)}{n:Nat}{acc:List (Str×Addr)}{p:Str×Addr},p∈acc->p∈cellsFrom n names acc
 | [],_,_,_,h=>h
 | (m,k)::r,n,acc,p,h=>by
  unfold cellsFrom
  split
  .exact Kg (Av _ h)
  .exact Kg h
theorem NX:∀{names:List (Str×NameKind)}{n:Nat}{acc:List (Str×Addr)}{x:Str},(x,.cell)∈names->∃c,(x,c)∈cellsFrom n names acc
 | (m,k)::r,n,acc,x,h=>by
  unfold cellsFrom
  rcases AQ.mp h with e | h
  .cases e
   exact⟨n,Kg AV⟩
  .split
   .exact NX h
   .exact NX h
theorem NY:∀{names:List (Str×NameKind)}{h:Heap}{acc:List (Str×Addr)}{x y:Str}{c:Addr},(∀p∈acc,p.2 < h.objs.size)->(∀x y c,(x,c)∈acc->(y,c)∈acc->x=y)->
  (x,c)∈cellsFrom h.objs.size names acc->(y,c)∈cellsFrom h.objs.size names acc->x=y
 | [],_,_,_,_,_,_,hi,h1,h2=>hi _ _ _ h1 h2
 | (n,k)::r,h,acc,x,y,c,hl,hi,h1,h2=>by
  unfold cellsFrom at h1 h2
  split at h1
  .rename_i hk
   rw[JJz hk] at h2
   rw[<- Dm h { cls:=.type "cell",data:=.cell none }] at h1 h2
   refine NY (h:=h.push _) (fun p hp=>?_) (fun x y c a b=>?_) h1 h2
   .rw[Dm]
    rcases AQ.mp hp with rfl | hp
    .exact QV _
    .exact MU (hl p hp)
   .rcases AQ.mp a with e | a <;> rcases AQ.mp b with e' | b
    .cases e;cases e';rfl
    .cases e;exact absurd (hl _ b) (C3 _)
    .cases e';exact absurd (hl _ a) (C3 _)
    .exact hi _ _ _ a b
  .rename_i hk
   rw[JJx hk] at h2
   exact NY hl hi h1 h2
theorem dE {M:Model}{A:Around}{E:Value->Shared->Prop}{s:Shared}{scope:Scope}{globals:Addr}{closure:List (Str×Addr)}{qual:Str}{func:Option Addr}{code:Value}{around:Env}{builtins:Addr}{Q:Env->Shared->Prop}
  (h:Q (newEnv scope s.heap.objs.size globals (cellsFrom (s.heap.objs.size+1) scope.names closure) qual func code (some around) builtins)
   { s with heap:=pushCells (s.heap.push { cls:=.type "dict",data:=.dict #[] }) scope.names }):
  wpAny M A (newFunctionEnv scope globals closure [] qual func code (some around) builtins) Q E s:=by
 simp only[newFunctionEnv,Yb,if_true]
 refine AI (wpAny_alloc ?_)
 refine AI (wpAny_layCells _ (fun n k c=>rfl) scope.names closure _ _ ?_)
 rw[show({ s with heap:=s.heap.push { cls:=.type "dict",data:=.dict #[] } }:Shared).heap.objs.size=s.heap.objs.size+1 from Dm ..]
 rw[ML]
 exact AI (AZ (AZ h))
theorem OB {sc:Scope}:∀{names:List (Str×NameKind)}{x:Str}{k:NameKind},
  (names.map fun (n,k)=>if (k==Fx&&sc.kind==.function&&sc.names.lookup n==some .cell) then (n,Qo) else (n,k)).lookup x=some k->
  ∃k',names.lookup x=some k'/\(k=k'\/(k'=.free/\k=.cell))
 | [],_,_,h=>by simp at h
 | (n,k₀)::r,x,k,h=>by
  have ih:=@OB sc r x k
  have h':GV x ((if (k₀==Fx&&sc.kind==.function&&sc.names.lookup n==some .cell)=true then (n,Qo) else (n,k₀))::(r.map _))=some k:=h
  cases hx:x==n with
  | true =>
   simp only[Er,hx]
   by_cases hc:(k₀==Fx&&sc.kind==.function&&sc.names.lookup n==some .cell)=true
   .rw[JJz hc] at h'
    simp only[Er,hx] at h'
    cases h'
    simp only[BL,beq_iff_eq] at hc
    exact⟨k₀,rfl,.inr ⟨hc.1.1,rfl⟩⟩
   .rw[JJx hc] at h'
    simp only[Er,hx] at h'
    cases h'
    exact⟨_,rfl,.inl rfl⟩
  | false =>
   simp only[Er,hx]
   by_cases hc:(k₀==Fx&&sc.kind==.function&&sc.names.lookup n==some .cell)=true
   .rw[JJz hc] at h'
    simp only[Er,hx] at h'
    exact ih h'
   .rw[JJx hc] at h'
    simp only[Er,hx] at h'
    exact ih h'
structure Ir (N:List Str) (sc scope:Scope) (own:List (Str×Nat)):Prop where
 kind:scope.kind=.function
 uniq:∀y∈scope.names,scope.names.lookup y.1=some y.2
 ix:∀p∈own,N[p.2]?=some p.1
 free:∀y∈scope.names,y.2=.free->sc.names.lookup y.1=some .cell\/sc.names.lookup y.1=some .free
 own:∀y∈scope.names,y.2=.local\/y.2=.cell->y.1∈own.map (·.1)\/y.1∉N
def Bs (σ:St):List Nat->St
 | []=>σ
 | v::vs=>(Bs σ vs).set v none
theorem Ph (σ:St):∀vs:List Nat,(Bs σ vs).length=σ.length
 | []=>rfl
 | v::vs=>by unfold Bs;rw[List.length_set,Ph σ vs]
theorem Pj {σ:St}{i:Nat}{x:V}:∀{vs:List Nat},(Bs σ vs)[i]?=some (some x)->σ[i]?=some (some x)/\i∉vs
 | [],h=>⟨h,by simp⟩
 | v::vs,h=>by
  unfold Bs at h
  by_cases hi:v=i
  .subst hi
   by_cases hv:v < (Bs σ vs).length
   .rw[QH hv] at h;cases h
   .rw[MN (by simpa using hv)] at h;cases h
  .rw[QG hi] at h
   obtain⟨h1,h2⟩:=Pj h
   exact⟨h1,by simp only[AQ,not_or];exact⟨fun e=>hi e.symm,h2⟩⟩
abbrev Cx.blk (X:Cx) (s:Shared) (H:Hp) (scope:Scope) (cenv:Env) (fp:List Addr):Cx:={ X with s_0:=s,H_0:=H,env:=cenv,outer:=X.stack,ex:=fp,fn:=fun x=>scope.names.lookup x==some .cell,pn:=[],xe:=fun _ _=>False }
section
variable {X:Cx}{pins:List (Addr×Obj)}{σ:St}{H:Hp}{s:Shared}
theorem Zy {scope:Scope}{own:List (Str×Nat)}{fp:List Addr} (I:Inv X pins σ H s) (ok:Ir X.N X.env.scope scope own) (hN:X.N.Nodup) (hfp:∀b∈fp,EX X pins H b/\b < s.heap.objs.size):
  Inv (X.blk s H scope (compEnvC scope (cellsFrom (s.heap.objs.size+1) scope.names (Cd X.env.cells scope.names [])) s.heap.objs.size X.env) fp) [] (Bs σ (own.map (·.2))) H { s with heap:=pushCells (s.heap.push { cls:=.type "dict",data:=.dict #[] }) scope.names }:=by
 have hfree:∀y∈scope.names,y.2=.free->∃c,X.env.cells.lookup y.1=some c:=fun y hy e=>by
  rcases ok.free y hy e with k | k
  .exact I.ok.has _ (.inl k)
  .exact I.ok.has _ (.inr k)
 generalize hcenv:compEnvC scope (cellsFrom (s.heap.objs.size+1) scope.names (Cd X.env.cells scope.names [])) s.heap.objs.size X.env=cenv
 have kp:∀b o,s.heap.get? b=some o->(pushCells (s.heap.push { cls:=.type "dict",data:=.dict #[] }) scope.names).get? b=some o:=fun b o e=>Mr _ _ _ _ (Bi _ e)
 have hL:cenv.locals=s.heap.objs.size:=by rw[<- hcenv];rfl
 have hcl:cenv.cells=cellsFrom (s.heap.objs.size+1) scope.names (Cd X.env.cells scope.names []):=by rw[<- hcenv];rfl
 have hsc:cenv.scope=eh scope X.env.scope:=by rw[<- hcenv];rfl
 rw[<- Dm s.heap { cls:=.type "dict",data:=.dict #[] }] at hcl
 have cm:∀{y c},(y,c)∈Cd X.env.cells scope.names []->X.env.cells.lookup y=some c/\c < s.heap.objs.size:=fun {y c} hm=>by
  rcases Kh hm with hm | ⟨h1,rfl⟩
  .cases hm
  .obtain⟨c,hc⟩:=hfree _ h1 rfl
   rw[hc]
   obtain⟨w,z⟩:=I.cell _ _ hc
   exact⟨rfl,z.lt⟩
 have mem:∀{y c},cenv.cells.lookup y=some c->(X.env.cells.lookup y=some c/\c < s.heap.objs.size)\/(s.heap.objs.size+1<=c/\RO (pushCells (s.heap.push { cls:=.type "dict",data:=.dict #[] }) scope.names) c none):=fun {y c} e=>by
  rw[hcl] at e
  rcases Iz (Cb e) with hm | ⟨_,h2,h3⟩
  .exact .inl (cm hm)
  .rw[Dm] at h2;exact .inr ⟨h2,h3⟩
 have look:∀{y},scope.names.lookup y=some .free->∃c,cenv.cells.lookup y=some c/\X.env.cells.lookup y=some c:=fun {y} hl=>by
  have hy:(y,Fx)∈scope.names:=Cb hl
  obtain⟨c',e'⟩:=OF (Kg (names:=scope.names) (n:=(s.heap.push { cls:=.type "dict",data:=.dict #[] }).objs.size) (Na (cells:=X.env.cells) (acc:=[]) hy))
  rw[<- hcl] at e'
  refine⟨c',e',?_⟩
  rw[hcl] at e'
  rcases Iz (Cb e') with hm | ⟨h1,_,_⟩
  .exact(cm hm).1
  .have:=ok.uniq _ h1
   rw[hl] at this;cases this
 have okB:(X.blk s H scope cenv fp).Ok:=by
  refine⟨I.ok.mod,by show cenv.scope.kind=_;rw[hsc];exact ok.kind,by show cenv.globals=_;rw[<- hcenv];exact I.ok.glob,by show cenv.builtins=_;rw[<- hcenv];exact I.ok.blt,by show s.heap.objs.size<=cenv.locals;rw[hL];exact Aa _,
   fun y z c e1 e2=>?_,fun y hy=>?_,fun y c z e=>?_,I.ok.hd,I.ok.frames,.inl rfl,fun b hb=>⟨?_,fun y c e z=>?_⟩,I.bs,CW I.ok.bsz I.sz,fun b o e hb=>?_,fun b hb z=>?_,I.stack,I.stkFree⟩
  .have e1:cenv.cells.lookup y=some c:=e1
   have e2:cenv.cells.lookup z=some c:=e2
   rw[hcl] at e1 e2
   refine NY (fun p hp=>?_) (fun y z c a b=>I.ok.inj y z c (cm a).1 (cm b).1) (Cb e1) (Cb e2)
   rw[Dm]
   exact MU (cm (y:=p.1) (c:=p.2) hp).2
  .show ∃c,cenv.cells.lookup y=some c
   have key:∀k,cenv.kindOf y=some k->(k=.cell\/k=.free)->∃c,cenv.cells.lookup y=some c:=fun k hk hk'=>by
    unfold Env.kindOf at hk
    rw[hsc] at hk
    obtain⟨k',e,r⟩:=OB hk
    have:k'=.cell\/k'=.free:=by
     rcases r with rfl | ⟨rfl,_⟩
     .exact hk'
     .exact .inr rfl
    rcases this with rfl | rfl
    .obtain⟨c,hm⟩:=NX (n:=(s.heap.push { cls:=.type "dict",data:=.dict #[] }).objs.size) (acc:=Cd X.env.cells scope.names []) (Cb e)
     obtain⟨c',e'⟩:=OF hm
     exact⟨c',by rw[hcl];exact e'⟩
    .obtain⟨c,h1,_⟩:=look e
     exact⟨c,h1⟩
   rcases hy with hy | hy
   .exact key _ hy (.inl rfl)
   .exact key _ hy (.inr rfl)
  .have z:(scope.names.lookup y==some Qo)=true:=z
   have z:scope.names.lookup y=some .cell:=by simpa using z
   have e:cenv.cells.lookup y=some c:=e
   rw[hcl] at e
   rcases Iz (Cb e) with hm | ⟨_,h2,_⟩
   .rcases Kh hm with hm | ⟨h1,_⟩
    .cases hm
    .have q:=ok.uniq _ h1
     rw[z] at q;cases q
   .rw[Dm] at h2
    exact MT h2
  .show b≠cenv.locals
   rw[hL];exact B1 (hfp b hb).2
  .have e:cenv.cells.lookup y=some c:=e
   rcases mem e with ⟨h1,_⟩ | ⟨h1,_⟩
   .exact(hfp b hb).1.2.2.2.2.1 y c h1 z
   .have h2:s.heap.objs.size+1<=b:=by rw[<- z];exact h1
    exact absurd (CU (hfp b hb).2 (MT h2)) (C3 _)
  .rcases(hfp b hb).1.2.2.2.1 with z | z
   .exact I.ok.noex b o e z
   .exact absurd (CU (BJ e) (CW I.ok.bsz z)) (C3 _)
  .rcases AQ.mp (I.stkSub b z) with z | z
   .exact(hfp b hb).1.2.1 z
   .exact(hfp b hb).1.2.2.1 z
 refine⟨okB,rfl,I.bare,Un.kept kp,⟨fun _=>none,?_,fun i y av e1 e2 e3=>?_⟩,fun y c e=>?_,?_,fun y c e=>?_,fun p hp=>?_,I.hok.kept kp,by rw[Ph];exact I.len⟩
 .show Heap.Ns _ cenv.locals _
  rw[hL]
  exact Heap.Ns.keeps (Heap.Ns.new ..) fun b o e=>Mr _ _ _ _ e
 .obtain⟨e2,hne⟩:=Pj e2
  have hfr:scope.names.lookup y=some .free/\(cenv.kindOf y=some .cell\/cenv.kindOf y=some .free):=by
   have key:∀k,cenv.scope.names.lookup y=some k->k=.local\/k=.cell\/k=.free->scope.names.lookup y=some .free/\(cenv.kindOf y=some .cell\/cenv.kindOf y=some .free):=fun k hk hk'=>by
    have hk0:=hk
    rw[hsc] at hk
    obtain⟨k',e,r⟩:=OB hk
    have no:¬(k'=.local\/k'=.cell):=fun hh=>by
     rcases ok.own _ (Cb e) hh with e' | e'
     .obtain⟨p,hp,hpy⟩:=Bb.mp e'
      have e3:=ok.ix p hp
      have:p.1=y:=hpy
      rw[this] at e3
      exact hne (Bb.mpr ⟨p,hp,OO hN e3 e1⟩)
     .exact e' (Cw e1)
    rcases r with rfl | ⟨rfl,rfl⟩
    .rcases hk' with rfl | rfl | rfl
     .exact absurd (.inl rfl) no
     .exact absurd (.inr rfl) no
     .exact⟨e,.inr hk0⟩
    .exact⟨e,.inl hk0⟩
   have e3:Vis cenv.scope y:=e3
   rcases e3 with e3 | e3 | e3
   .exact key _ e3 (.inl rfl)
   .exact key _ e3 (.inr (.inl rfl))
   .exact key _ e3 (.inr (.inr rfl))
  obtain⟨m,hn,hl⟩:=I.loc
  have hvis:Vis X.env.scope y:=(ok.free _ (Cb hfr.1) rfl).elim (fun k=>.inr (.inl k)) (fun k=>.inr (.inr k))
  obtain⟨w,r,q⟩:=hl i y av e1 e2 hvis
  refine⟨w,r,.inr ⟨hfr.2,?_⟩⟩
  obtain⟨c,h1,h2⟩:=look hfr.1
  rcases q with ⟨k,_⟩ | ⟨_,c',e',z⟩
  .have k:X.env.scope.names.lookup y=some .local:=k
   rcases ok.free _ (Cb hfr.1) rfl with k' | k' <;> rw[show X.env.scope.names.lookup y=_ from k'] at k <;> cases k
  .rw[h2] at e';cases e'
   exact⟨c,h1,z.keeps kp⟩
 .have e:cenv.cells.lookup y=some c:=e
  rcases mem e with ⟨h1,_⟩ | ⟨_,z⟩
  .obtain⟨w,z⟩:=I.cell y c h1
   exact⟨w,z.keeps kp⟩
  .exact⟨_,z⟩
 .show H cenv.locals=none
  rw[hL];exact I.hok.fresh (Aa _)
 .have e:cenv.cells.lookup y=some c:=e
  rcases mem e with ⟨h1,_⟩ | ⟨h1,_⟩
  .exact I.freeC y c h1
  .exact I.hok.fresh (MT h1)
 .exact absurd (show p∈([]:List (Addr×Obj))++[] from hp) (by simp)
theorem Zp {E:Value->Shared->Prop}{D:Addr}{xs:List V}{y:V}{v:Value}{Q:Value->Shared->Prop} (I:Inv X pins σ H s) (hD:H D=some (.lst xs)) (hz:xs.length < sizeLine) (r:RelV y v)
  (h:∀s',Inv X pins σ (upd H D (.lst (xs++[y]))) s'->Q .none s'):wpAny (model X.prog X.w) X.A (call (.builtin "list.append") [.ref D,v]) Q E s:=by
 obtain⟨hz',its,n,ri,e⟩:=I.hok D _ hD
 have hl:=ri.length
 refine append_at (hsz:=by rw[Bc];omega) e fun h' sb ho'=>?_
 refine h { s with heap:=h' } (I.write (t':=s.toks) (by rw[hD];trivial) (.inl rfl) (fun b u hb q=>(sb.2 b hb).trans q) ⟨_,ho'⟩ ⟨by rw[BC];exact hz,its++[v],n+1,ri.append (.cons r .nil),?_⟩)
 rw[ho']
 simp
def PTs (X:Cx) (ifs:List Expr) (t:TT):Prop :=
 ∀(pins:List (Addr×Obj)) (s:Shared) (σ:St) (H:Hp) (Q:Bool->Hp->Prop),Inv X pins σ H s->t σ H Q->
  wpAny (model X.prog X.w) X.A (forIn ifs true fun c r=>if r=true then do let ok <- isTrue c X.env (eval c X.env);pure (Jx ok) else pure (Jx r)) (TP X pins σ Q) X.xe s
def Fl:TT:=fun _ H Q=>Q true H
theorem E7:PTs X [] Fl:=fun _ _ _ H _ I h=>wpAny_tests_nil ⟨H,I,h⟩
theorem UX {c:Expr}{t:TT} (h:PT X c t):PTs X [c] t:=fun pins s σ H Q I hw=>wpAny_tests_one (h pins s σ H Q I hw)
end
theorem ID {α:Type}{t:Sem α}{Q Q':α->Shared->Prop}{M:Model}{A:Around}{E:Value->Shared->Prop}{s:Shared} (h:wpAny M A t Q (fun _ _=>False) s) (hQ:∀a s,Q a s->Q' a s):wpAny M A t Q' E s:=DO h hQ fun _ _ z=>Bf z
theorem aB {prog:Program}{w:World}{A:Around}{R:Result->Shared->Prop}{s:Shared}{elt target iter:Expr}{ifs:List Expr}{scope:Scope}{pos:Pos}{it acc:Value}{env:Env} (I:Nat->Shared->Prop)
  (turn:∀n s,I n s->wpAny (model prog w) A (pyNext it) (fun r s₁=>match r with
   | none=>R (.ok .next) s₁
   | some v=>wpAny (model prog w) A (letOwnedTupleGo target it v) (fun _ s₁'=>wpAny (model prog w) A (assign target env v) (fun _ s₂ =>
    wpAny (model prog w) A (forIn ifs true fun c r=>if r=true then do let ok <- isTrue c env (eval c env);pure (Jx ok) else pure (Jx r)) (fun ok s₃ =>
     if ok=true then wpAny (model prog w) A (eval elt env) (fun x s₄ =>
      wpAny (model prog w) A (call (.builtin "list.append") [acc,x]) (fun _ s₅=>∃m,m < n/\I m s₅) (notedBy (model prog w) A env fun e s'=>R (.error e) s') s₄) (notedBy (model prog w) A env fun e s'=>R (.error e) s') s₃
     else ∃m,m < n/\I m s₃) (notedBy (model prog w) A env fun e s'=>R (.error e) s') s₂) (notedBy (model prog w) A env fun e s'=>R (.error e) s') s₁') (notedBy (model prog w) A env fun e s'=>R (.error e) s') s₁) (notedBy (model prog w) A env fun e s'=>R (.error e) s') s)
  (n:Nat) (h:I n s):
  codeAny (model prog w) A (.compLoop (.ListComp elt [⟨target,iter,ifs,0⟩] scope pos) 0 it acc env) R s:=by
 refine codeAny_loop rfl I (fun n s hI=>?_) n h
 show wpAny _ A ((compTurn (.ListComp elt [⟨target,iter,ifs,0⟩] scope pos) 0 it acc env).onRaise (fun x=>do noteFrame x env;theTreesLotGoes x)) _ _ s
 refine wpAny_noted ?_
 rw[compTurn_list]
 refine AI (RK (AI (DO (turn n s hI) (fun r s₁ h₁=>?_) fun _ _ h'=>h')))
 cases r with
 | none=>exact AZ h₁
 | some v =>
  refine AI (DO h₁ (fun _ s₁' h₁'=>?_) fun _ _ h'=>h')
  refine AI (DO h₁' (fun _ s₂ h₂=>AI (DO h₂ (fun ok s₃ h₃=>?_) fun _ _ h'=>h')) fun _ _ h'=>h')
  cases ok with
  | false=>exact AZ ⟨rfl,h₃⟩
  | true =>
   exact AI (AI (DO h₃ (fun x s₄ h₄=>AI (DO h₄ (fun _ s₅ h₅=>AZ (AZ ⟨rfl,h₅⟩)) fun _ _ h'=>h')) fun _ _ h'=>h'))
section
variable {X:Cx}
def tLc (wi:TI) (g:TG) (tt:TT) (te:TE) (vs:List Nat):TE:=fun σ H Q=>wi σ H fun J H1=>∀D,H1 D=none->∃W:Nat->Nat->Hp->Prop,(∃m,W 0 m (upd H1 D (.lst [])))/\∀i m H,W i m H->
 (J.stop i H/\Q (.ref D) H)\/(J.go i H/\∃Nx:Hp->Prop,(∀H',Nx H'->∃m',m' < m/\W (i+1) m' H')/\∀x H',J.yld i H x H'->g x (Bs σ vs) H' fun σ2 H2=>Bs σ2 vs=Bs σ vs/\tt σ2 H2 fun b H3 =>
  if b=true then te σ2 H3 fun y H4=>∃acc,H4 D=some (.lst acc)/\acc.length < sizeLine/\Nx (upd H4 D (.lst (acc++[y]))) else Nx H3)
theorem Tg {pins:List (Addr×Obj)}{s:Shared}{σ:St}{H:Hp}{Q:VK}{elt tg iter:Expr}{ifs:List Expr}{scope:Scope}{own:List (Str×Nat)}{pos pos':Pos}{wi:TI}{g:TG}{tt:TT}{te:TE}{use:Option (Value->Sem Unit)}{Qf:Value->Shared->Prop}
  (hc:X.calm=true) (hN:X.N.Nodup) (I:Inv X pins σ H s) (hi:PI X tg iter wi) (ok:Ir X.N X.env.scope scope own)
  (hg:∀(s:Shared) (H:Hp) (C:Addr) (cl:List (Str×Addr)) (fp:List Addr),PG (X.blk s H scope (compEnvC scope cl C X.env) fp) tg g) (ht:∀(s:Shared) (H:Hp) (C:Addr) (cl:List (Str×Addr)) (fp:List Addr),PTs (X.blk s H scope (compEnvC scope cl C X.env) fp) ifs tt)
  (he:∀(s:Shared) (H:Hp) (C:Addr) (cl:List (Str×Addr)) (fp:List Addr),PE (X.blk s H scope (compEnvC scope cl C X.env) fp) elt te) (hs:∀x,foldedSetIterable iter X.env x=pure x)
  (h:tLc wi g tt te (own.map (·.2)) σ H Q)
  (hRR:∀D C s' m H',Inv X pins σ H' s'->Q (.ref D) H'->s'.heap.Ns C m->EX X pins H' C->compPost (model X.prog X.w) X.A X.xe use Qf (.ref D) C (.ok .next) s'):
  wpAny (model X.prog X.w) X.A (comprehension (.ListComp elt [⟨tg,iter,ifs,0⟩] scope pos) scope X.env pos' (newList []) false (eval iter X.env) use) Qf X.xe s:=by
 have hfree:∀y∈scope.names,y.2=.free->∃c,X.env.cells.lookup y.1=some c:=fun y hy e=>by
  rcases ok.free y hy e with k | k
  .exact I.ok.has _ (.inl k)
  .exact I.ok.has _ (.inr k)
 refine wpAny_comprehension_free (use:=use) rfl hs (Z9 hfree) ok.kind (fun y hy e=>by rw[ok.uniq y hy,e])
  (thn (hi pins s σ H _ I h) fun xv s1 hx=>thn hx fun itv s2 h2=>?_)
 obtain⟨it,fp,tn,J,H2,e,I2,T,st2,f2,q⟩:=h2
 subst e
 refine Ip (dE ?_) (by show 0<=sizeLine;decide)
 generalize hD:s2.heap.objs.size=D
 have hDn:H2 D=none:=I2.hok.fresh (J9 hD)
 obtain⟨W,⟨m0,w0⟩,turn⟩:=q D hDn
 generalize hs3:({ s2 with heap:=s2.heap.push { cls:=.type "list",data:=.seq ([]:List Value).toArray } }:Shared)=s3
 have I3:Inv X pins σ (upd H2 D (.lst [])) s3:=by
  rw[<- hs3]
  refine I2.laid (t':=s2.toks) (fun b o e=>Bi _ e) (J9 hD) ⟨Ax _,[],0,.nil,?_⟩
  rw[<- hD]
  exact CD _ rfl
 have h3:s3.heap=s2.heap.push { cls:=.type "list",data:=.seq ([]:List Value).toArray }:=by rw[<- hs3]
 have sz:∀b∈fp,b < s2.heap.objs.size:=fun b hb=>by
  obtain⟨o,e,_⟩:=T.obj _ _ st2 b hb
  exact BJ e
 have f3:∀b∈fp,EX X pins (upd H2 D (.lst [])) b/\b < s3.heap.objs.size:=fun b hb=>by
  have hlt:=sz b hb
  refine⟨⟨?_,(f2 b hb).2⟩,by rw[h3,Dm];exact MU hlt⟩
  rw[AF (by rw[<- hD];exact B1 hlt)]
  exact(f2 b hb).1
 have st3:tn 0 s3.heap:=T.keep _ _ _ st2 fun b _ o e=>by rw[h3];exact Bi _ e
 have I4:=Zy I3 ok hN f3
 have pg:=hg s3 (upd H2 D (.lst [])) s3.heap.objs.size (cellsFrom (s3.heap.objs.size+1) scope.names (Cd X.env.cells scope.names [])) fp
 have pt:=ht s3 (upd H2 D (.lst [])) s3.heap.objs.size (cellsFrom (s3.heap.objs.size+1) scope.names (Cd X.env.cells scope.names [])) fp
 have pe:=he s3 (upd H2 D (.lst [])) s3.heap.objs.size (cellsFrom (s3.heap.objs.size+1) scope.names (Cd X.env.cells scope.names [])) fp
 show codeAny _ _ (.compStart (.ListComp elt [⟨tg,iter,ifs,0⟩] scope pos) 0 (.ref it) (.ref D) (compEnvC scope (cellsFrom (s3.heap.objs.size+1) scope.names (Cd X.env.cells scope.names [])) s3.heap.objs.size X.env)) (compPost (model X.prog X.w) X.A X.xe use Qf (.ref D) s3.heap.objs.size) { s3 with heap:=pushCells (s3.heap.push { cls:=.type "dict",data:=.dict #[] }) scope.names }
 have nfp:∀b∈fp,(upd H2 D (.lst [])) b=none:=fun b hb=>(f3 b hb).1.1
 generalize hce:compEnvC scope (cellsFrom (s3.heap.objs.size+1) scope.names (Cd X.env.cells scope.names [])) s3.heap.objs.size X.env=ce at I4 pg pt pe ⊢
 have cL:ce.locals=s3.heap.objs.size:=by subst hce;rfl
 generalize hH3:upd H2 D (.lst [])=H3 at I3 I4 pg pt pe w0 nfp f3
 generalize hs4:({ s3 with heap:=pushCells (s3.heap.push { cls:=.type "dict",data:=.dict #[] }) scope.names }:Shared)=s4 at I4 ⊢
 have st4:tn 0 s4.heap:=T.keep _ _ _ st3 fun b _ o e=>by rw[<- hs4];exact Mr _ _ _ _ (Bi _ e)
 have stat:∀{σ':St} {H':Hp} {s':Shared},Inv (X.blk s3 H3 scope ce fp) [] σ' H' s'->(∀b∈fp,H' b=none)->∀b∈fp,EX (X.blk s3 H3 scope ce fp) [] H' b:=fun {σ' H' s'} I' hn b hb =>
  ⟨hn b hb,(I'.ok.exf b hb).1,I'.ok.exfs b hb,.inl hb,fun x c e=>(I'.ok.exf b hb).2 x c e,fun p hp=>absurd (show p∈([]:List (Addr×Obj))++[] from hp) (by simp)⟩
 have loop:codeAny (model X.prog X.w) X.A (.compLoop (.ListComp elt [⟨tg,iter,ifs,0⟩] scope pos) 0 (.ref it) (.ref D) ce) (compPost (model X.prog X.w) X.A X.xe use Qf (.ref D) s3.heap.objs.size) s4:=by
  refine aB (fun n s'=>∃i H',Inv (X.blk s3 H3 scope ce fp) [] (Bs σ (own.map (·.2))) H' s'/\tn i s'.heap/\(∀b∈fp,H' b=none)/\W i n H') ?_ m0 ⟨0,H3,I4,st4,nfp,w0⟩
  rintro n s5 ⟨i,H5,I5,st5,n5,w5⟩
  rcases turn i n H5 w5 with ⟨stop,qq⟩ | ⟨go,Nx,hNx,step⟩
  .have td:=T.done (X.blk s3 H3 scope ce fp) rfl rfl rfl hc i [] s5 _ H5 (fun _ _=>False) I5 (stat I5 n5) st5 stop
   refine ID td fun r s6 ⟨hr,I6⟩=>?_
   subst hr
   have I7:Inv X pins σ H5 s6:=I3.call' (ch:=fp) I6.os I6.base I6.hok I6.bare fun b hb=>⟨(f3 b hb).1.2.2.2.1,(f3 b hb).1.2.1,(f3 b hb).1.2.2.2.2.1,(f3 b hb).1.2.2.2.2.2⟩
   have nC:H5 s3.heap.objs.size=none:=by
    have z:H5 ce.locals=none:=I6.free
    rw[cL] at z
    exact z
   obtain⟨m,hn,_⟩:=I6.loc
   have hn:s6.heap.Ns ce.locals m:=hn
   rw[cL] at hn
   exact hRR D s3.heap.objs.size s6 m H5 I7 qq hn (I3.fpOk (Aa _) nC)
  .have ti:=T.item (X.blk s3 H3 scope ce fp) rfl rfl rfl hc i [] s5 _ H5 (fun _ _=>False) I5 (stat I5 n5) st5 go
   refine ID ti fun r s6 ⟨u,hr,h6⟩=>?_
   subst hr
   refine ID h6 fun _ s7 ⟨x,H7,I7,r7,y7,st7,n7⟩=>?_
   have I7':=I7.pinned (stat I7 n7) (T.obj _ _ st7)
   refine ID (pg _ s7 _ H7 x u _ I7' r7 (step x H7 y7)) fun _ s8 ⟨σ8,H8,I8,hw8,q8⟩=>?_
   refine ID (pt _ s8 σ8 H8 _ I8 q8) fun b s9 ⟨H9,I9,q9⟩=>?_
   have fin:∀{s':Shared} {H':Hp},Inv (X.blk s3 H3 scope ce fp) ([]++JZ fp s7.heap) σ8 H' s'->Nx H'->∃m,m < n/\∃i H',Inv (X.blk s3 H3 scope ce fp) [] (Bs σ (own.map (·.2))) H' s'/\tn i s'.heap/\(∀b∈fp,H' b=none)/\W i m H':=fun {s' H'} I' nx=>by
    obtain⟨m',hm,w'⟩:=hNx H' nx
    have pin':∀b∈fp,∀o,s7.heap.get? b=some o->s'.heap.get? b=some o/\H' b=none:=fun b hb o e =>
     let z:=I'.pin (b,o) (Fw _ (Fw _ (OG hb e)))
     ⟨z.1,z.2.1⟩
    have hl:(Bs σ (own.map (·.2))).length=σ8.length:=by rw[<- hw8,Ph]
    refine⟨m',hm,i+1,H',(I'.unpinned (pins:=[])).weak hl (fun j v e=>?_),T.keep _ _ _ st7 fun b hb o e=>(pin' b hb o e).1,fun b hb=>?_,w'⟩
    .rw[<- hw8] at e
     exact(Pj e).1
    .obtain⟨o,e,_⟩:=T.obj _ _ st7 b hb
     exact(pin' b hb o e).2
   cases b with
   | false =>
    simp only[Dz,if_false] at q9 ⊢
    exact fin I9 q9
   | true =>
    simp only[if_true] at q9 ⊢
    refine ID (pe _ s9 σ8 H9 _ I9 q9) fun z s10 ⟨yv,H10,I10,r10,acc,hD10,hz10,nx⟩=>?_
    exact Zp (X:=X.blk s3 H3 scope ce fp) I10 hD10 hz10 r10 fun s11 I11=>fin I11 nx
 exact codeAny_compStart_list loop (T.self X.A 0 _ _ _ st4 loop)
theorem Ej {elt tg iter:Expr}{ifs:List Expr}{scope:Scope}{own:List (Str×Nat)}{pos:Pos}{wi:TI}{g:TG}{tt:TT}{te:TE} (hc:X.calm=true) (hN:X.N.Nodup) (hi:PI X tg iter wi) (ok:Ir X.N X.env.scope scope own)
  (hg:∀(s:Shared) (H:Hp) (C:Addr) (cl:List (Str×Addr)) (fp:List Addr),PG (X.blk s H scope (compEnvC scope cl C X.env) fp) tg g) (ht:∀(s:Shared) (H:Hp) (C:Addr) (cl:List (Str×Addr)) (fp:List Addr),PTs (X.blk s H scope (compEnvC scope cl C X.env) fp) ifs tt)
  (he:∀(s:Shared) (H:Hp) (C:Addr) (cl:List (Str×Addr)) (fp:List Addr),PE (X.blk s H scope (compEnvC scope cl C X.env) fp) elt te) (hs:∀x,foldedSetIterable iter X.env x=pure x:=by intro _;rfl):
  PE X (.ListComp elt [⟨tg,iter,ifs,0⟩] scope pos) (tLc wi g tt te (own.map (·.2))):=by
 intro pins s σ H Q I h
 rw[eval_ListComp]
 refine Tg hc hN I hi ok hg ht he hs h fun D C s' m H' I' q hn f=>⟨m,hn,fun h'' sb=>?_⟩
 obtain⟨f0,f1,f2,f3,f4,f5⟩:=f
 exact⟨.ref D,H',I'.turned (t':=s'.toks) (fun b o hb e=>(sb.2 b hb).trans e) f0 f1 f3 f4 f5,rfl,q⟩
theorem eI {i:Nat}{y:Str}{py:Pos}{elt tg iter:Expr}{ifs:List Expr}{scope:Scope}{own:List (Str×Nat)}{pos spos:Pos}{wi:TI}{g:TG}{tt:TT}{te:TE} (hc:X.calm=true) (hN:X.N.Nodup) (hy:X.N[i]?=some y) (hyl:X.env.scope.names.lookup y=some .local)
  (hsw:swapsWith (.ListComp elt [⟨tg,iter,ifs,0⟩] scope pos) (some (.Name y py)) spos.line X.env=pure true) (hi:PI X tg iter wi) (ok:Ir X.N X.env.scope scope own)
  (hg:∀(s:Shared) (H:Hp) (C:Addr) (cl:List (Str×Addr)) (fp:List Addr),PG (X.blk s H scope (compEnvC scope cl C X.env) fp) tg g) (ht:∀(s:Shared) (H:Hp) (C:Addr) (cl:List (Str×Addr)) (fp:List Addr),PTs (X.blk s H scope (compEnvC scope cl C X.env) fp) ifs tt)
  (he:∀(s:Shared) (H:Hp) (C:Addr) (cl:List (Str×Addr)) (fp:List Addr),PE (X.blk s H scope (compEnvC scope cl C X.env) fp) elt te) (hs:∀x,foldedSetIterable iter X.env x=pure x:=by intro _;rfl):
  PS X (.Assign [.Name y py] (.ListComp elt [⟨tg,iter,ifs,0⟩] scope pos) spos) (Xg (tLc wi g tt te (own.map (·.2))) (Ky i)):=by
 intro pins s σ H D I h
 rw[exec_Assign_Name_used _ _ _ _ hsw]
 refine AI (RK (AI ?_))
 show wpAny _ X.A (do let _ <- comprehension (.ListComp elt [⟨tg,iter,ifs,0⟩] scope pos) scope X.env (firstIterPos [⟨tg,iter,ifs,0⟩] pos) (newList []) false (eval iter X.env) (some (assign (.Name y py) X.env))) _ _ s
 have h:tLc wi g tt te (own.map (·.2)) σ H (fun x H1=>Ky i x σ H1 D.nx):=h
 refine AI (thn (Tg (Qf:=fun _ s'=>SP X pins D .next s') hc hN I hi ok hg ht he hs h fun L C s' m H' I' q hn f=>?_) fun _ s' hq=>AZ (AZ hq))
 show wpAny _ _ (assign (.Name y py) X.env (.ref L)) _ _ _
 refine ZT (Xd (v:=V.ref L) I' hN hy (.inl hyl) rfl (fun s2 I2 ⟨a,sb,ha⟩=>?_) (.inr hyl))
 obtain⟨f0,f1,f2,f3,f4,f5⟩:=f
 have haC:C≠a:=by
  rcases ha with z | z
  .rw[z];exact f1
  .exact fun e=>f4 y a z e.symm
 refine⟨m,hn.sameBut sb haC,fun h3 sb3=>?_⟩
 exact⟨_,H',I2.turned (t':=s2.toks) (fun b o hb e=>(sb3.2 b hb).trans e) f0 f1 f3 f4 f5,q⟩
theorem gj {elt:Expr}{gs:List Comprehension}{scope:Scope}{pos py:Pos}{y:Str}{l:Nat}{env:Env} (hk:env.scope.kind=.function) (hy:env.scope.names.lookup y=some .local) (hl:(py.line==pos.line)=true)
  (ha:(scope.names.any fun (n,k)=>n==y&&(k==.local || k==.cell))=false):swapsWith (.ListComp elt gs scope pos) (some (.Name y py)) l env=pure true:=by
 have ky:env.kindOf y=some .local:=hy
 have hb:env.blockKind=.function:=by unfold Env.blockKind;rw[hk];rfl
 unfold swapsWith
 simp only[hb,ky,ha,Expr.pos,hl]
 rfl
end
def Ro (N:List Str) (sc scope:Scope) (own:List (Str×Nat)):Bool :=
 (match scope.kind with | .function=>true | _=>false)&&(scope.names.all fun y=>decide (scope.names.lookup y.1=some y.2))&&(own.all fun p=>decide (N[p.2]?=some p.1)) &&
  (scope.names.all fun y=>match y.2 with
   | .free=>(match sc.names.lookup y.1 with | some .cell=>true | some .free=>true | _=>false)
   | .local=>decide (y.1∈own.map (·.1)) || decide (y.1∉N)
   | .cell=>decide (y.1∈own.map (·.1)) || decide (y.1∉N)
   | _=>true)
theorem D8 {N:List Str}{sc scope:Scope}{own:List (Str×Nat)} (h:Ro N sc scope own=true):Ir N sc scope own:=by
 unfold Ro at h
 simp only[BL,Cu,decide_eq_true_eq] at h
 obtain⟨⟨⟨h1,h2⟩,h3⟩,h4⟩:=h
 refine⟨?_,h2,h3,fun y hy e=>?_,fun y hy e=>?_⟩
 .split at h1
  .assumption
  .cases h1
 .have q:=h4 y hy
  simp only[e] at q
  split at q <;> first | exact .inl (by assumption) | exact .inr (by assumption) | cases q
 .have q:=h4 y hy
  rcases e with e | e <;> (simp only[e,Jt,decide_eq_true_eq] at q;exact q)
end L2
namespace L2
open PySem PySem.Spec PyProof.Rows
section
variable {prog:Program}{w:World}{A:Around}{R:Result->Shared->Prop}{s:Shared}{elt t0 i0 t1 i1:Expr}{ifs0 ifs1:List Expr}{scope:Scope}{pos:Pos}{it acc:Value}{env:Env}
end
section
variable {X:Cx}
end
end L2
namespace L2
open PySem PySem.Spec PyProof.Rows
section
variable {κ:Type} [DecidableEq κ]
def BO (kvs:List (κ×V)) (k:κ):Option V:=(kvs.find? fun kv=>decide (kv.1=k)).map (·.2)
def Cg (kvs:List (κ×V)) (k:κ) (v:V):List (κ×V) :=
 if (kvs.any fun kv=>decide (kv.1=k))=true then kvs.map (fun kv=>if kv.1=k then (kv.1,v) else kv) else kvs++[(k,v)]
theorem DG {p:κ×V}{r:List (κ×V)}{k:κ} (e:p.1=k):BO (p::r) k=some p.2:=by simp[BO,DJ,e]
theorem DF {p:κ×V}{r:List (κ×V)}{k:κ} (e:¬p.1=k):BO (p::r) k=BO r k:=by simp[BO,DJ,e]
theorem Jk (k:κ):∀kvs:List (κ×V),(kvs.any fun kv=>decide (kv.1=k))=(BO kvs k).isSome
 | []=>rfl
 | p::r=>by
  rw[DH]
  by_cases e:p.1=k
  .simp only[DG e,JJk e,Pu,Yb]
  .rw[DF e,JJj e,HA];exact Jk k r
theorem Xp (k j:κ) (y:V):∀kvs:List (κ×V),BO (kvs.map fun kv=>if kv.1=k then (kv.1,y) else kv) j=(BO kvs j).map fun x=>if j=k then y else x
 | []=>rfl
 | p::r=>by
  have ih:=Xp k j y r
  rw[Aq]
  by_cases h:p.1=k
  .rw[JJz h]
   by_cases e:p.1=j
   .rw[DG (p:=(p.1,y)) e,DG e,HK,JJz (e.symm.trans h)]
   .rw[DF (p:=(p.1,y)) e,DF e,ih]
  .rw[JJx h]
   by_cases e:p.1=j
   .rw[DG (p:=p) e,DG e,HK,JJx (fun z=>h (e.trans z))]
   .rw[DF (p:=p) e,DF e,ih]
theorem Xq (k j:κ) (y:V):∀kvs:List (κ×V),BO kvs k=none->BO (kvs++[(k,y)]) j=if j=k then some y else BO kvs j
 | [],_=>by
  by_cases e:k=j
  .rw[JJz e.symm];exact DG (p:=(k,y)) e
  .rw[JJx (fun z=>e z.symm)];exact DF (p:=(k,y)) e
 | p::r,hn=>by
  rw[Ft]
  have hk:¬p.1=k:=fun z=>by rw[DG z] at hn;cases hn
  rw[DF hk] at hn
  have ih:=Xq k j y r hn
  by_cases e:p.1=j
  .rw[DG e,DG e,JJx (fun z=>hk (e.trans z))]
  .rw[DF e,DF e,ih]
theorem iT (kvs:List (κ×V)) (k j:κ) (y:V):BO (Cg kvs k y) j=if j=k then some y else BO kvs j:=by
 unfold Cg
 by_cases a:(kvs.any fun kv=>decide (kv.1=k))=true
 .rw[JJz a,Xp]
  rw[Jk] at a
  by_cases e:j=k
  .obtain⟨x,hx⟩:=MY.mp a
   rw[JJz e,e,hx,HK,JJz rfl]
  .rw[JJx e]
   cases BO kvs j with
   | none=>rfl
   | some x=>rw[HK,JJx e]
 .rw[JJx a]
  refine Xq k j y kvs ?_
  rw[Jk] at a
  cases q:BO kvs k with
  | none=>rfl
  | some x=>rw[q] at a;exact(a rfl).elim
theorem N5 (kvs:List (κ×V)) (k:κ) (v:V):(Cg kvs k v).length<=kvs.length+1:=by
 unfold Cg
 split
 .rw[AH];omega
 .rw[BC,Bn,Fv];omega
theorem UZ {kvs:List (κ×V)}{k:κ} (v:V) (h:BO kvs k=none):Cg kvs k v=kvs++[(k,v)]:=by
 unfold Cg
 rw[Jk,h]
 exact JJx (by decide)
theorem RelO.isSome_eq {o:Option V}{u:Option Value} (r:RelO o u):o.isSome=u.isSome:=by
 cases o with
 | none=>cases u with
  | none=>rfl
  | some _=>exact(show False from r).elim
 | some _=>cases u with
  | none=>exact(show False from r).elim
  | some _=>rfl
theorem RelO.getD {o:Option V}{u:Option Value}{d:V}{d':Value} (r:RelO o u) (rd:RelV d d'):RelV (o.getD d) (u.getD d'):=by
 cases o with
 | none=>cases u with
  | none=>exact rd
  | some _=>exact(show False from r).elim
 | some _=>cases u with
  | none=>exact(show False from r).elim
  | some _=>exact r
theorem KV.val {kvs:List (κ×V)}{vs:List (κ×Value)} (r:KV kvs vs) (k:κ):RelO (BO kvs k) (valueAt vs k):=by
 unfold KV at r
 induction r with
 | nil=>exact Iq
 | @cons p q ps qs h t ih =>
  obtain⟨h1,h2⟩:=h
  by_cases e:p.1=k
  .have e':q.1=k:=h1.symm.trans e
   have b:valueAt (q::qs) k=some q.2:=by simp[valueAt,DJ,e']
   rw[DG e,b];exact h2
  .have e':¬q.1=k:=fun z=>e (h1.trans z)
   have b:valueAt (q::qs) k=valueAt qs k:=by simp[valueAt,DJ,e']
   rw[DF e,b];exact ih
theorem KV.any {kvs:List (κ×V)}{vs:List (κ×Value)} (r:KV kvs vs) (k:κ):(kvs.any fun kv=>decide (kv.1=k))=vs.any fun kv=>decide (kv.1=k):=by
 unfold KV at r
 induction r with
 | nil=>rfl
 | cons h t ih=>rw[DH,DH,ih,h.1]
theorem KV.repl {kvs:List (κ×V)}{vs:List (κ×Value)} (r:KV kvs vs) (k:κ) {y:V}{u:Value} (ry:RelV y u):
  KV (kvs.map fun kv=>if kv.1=k then (kv.1,y) else kv) (vs.map fun kv=>if kv.1=k then (kv.1,u) else kv):=by
 unfold KV at r ⊢
 induction r with
 | nil=>exact .nil
 | @cons p q ps qs h t ih =>
  rw[Aq,Aq]
  refine .cons ?_ ih
  obtain⟨h1,h2⟩:=h
  by_cases e:p.1=k
  .rw[JJz e,JJz (h1.symm.trans e)];exact⟨h1,ry⟩
  .rw[JJx e,JJx (fun z=>e (h1.trans z))];exact⟨h1,h2⟩
theorem KV.put {kvs:List (κ×V)}{vs:List (κ×Value)} (r:KV kvs vs) (k:κ) {y:V}{u:Value} (ry:RelV y u):KV (Cg kvs k y) (stored vs k u):=by
 unfold Cg stored
 rw[r.any k]
 by_cases e:(vs.any fun kv=>decide (kv.1=k))=true
 .rw[JJz e,JJz e];exact r.repl k ry
 .rw[JJx e,JJx e];exact Paired.snoc r ⟨rfl,ry⟩
theorem KV.length {kvs:List (κ×V)}{vs:List (κ×Value)} (r:KV kvs vs):kvs.length=vs.length:=GZ r
end
theorem Gw {P:Program}{w:World}{k:Key}{u:Value} (r:RelV (kV k) u):(Cz P w).is k u=true:=by
 cases k with
 | inl i=>obtain⟨t,e⟩:=(show ∃t,u=KL i t from r);subst e;exact cq P w i t
 | inr x=>obtain⟨t,e⟩:=(show ∃t,u=Mp x t from r);subst e;exact cu P w x t
theorem TM {P:Program}{w:World}:∀{ks:List Key}{us:List Value},Vals (ks.map kV) us->ItemsAre (Cz P w) ks us
 | [],_,r=>by rw[GW] at r;cases r;exact .nil
 | k::ks,_,r=>by
  rw[Aq] at r
  cases r with
  | cons h t=>exact .cons (Gw h) (TM t)
abbrev KT (H:Hp):List (List Key×V)->List (List Key×Addr×Value)->Prop:=Paired fun p q=>p.1=q.1/\H q.2.1=some (.tup (p.1.map kV))/\RelV p.2 q.2.2
theorem KT.val {H:Hp}{kvs:List (List Key×V)}{xs:List (List Key×Addr×Value)} (r:KT H kvs xs) (k:List Key):RelO (BO kvs k) ((atKey xs k).map (·.2)):=by
 induction r with
 | nil=>exact Iq
 | @cons p q ps qs h t ih =>
  obtain⟨h1,_,h2⟩:=h
  by_cases e:p.1=k
  .have e':q.1=k:=h1.symm.trans e
   have b:atKey (q::qs) k=some q.2:=by simp[atKey,DJ,e']
   rw[DG e,b];exact h2
  .have e':¬q.1=k:=fun z=>e (h1.trans z)
   have b:atKey (q::qs) k=atKey qs k:=by simp[atKey,DJ,e']
   rw[DF e,b];exact ih
theorem KT.repl {H:Hp}{kvs:List (List Key×V)}{xs:List (List Key×Addr×Value)} (r:KT H kvs xs) (k:List Key) {y:V}{u:Value} (ry:RelV y u):
  KT H (kvs.map fun kv=>if kv.1=k then (kv.1,y) else kv) (xs.map (putAt k u)):=by
 induction r with
 | nil=>exact .nil
 | @cons p q ps qs h t ih =>
  rw[Aq,Aq]
  refine .cons ?_ ih
  obtain⟨h1,h2,h3⟩:=h
  unfold putAt
  by_cases e:p.1=k
  .rw[JJz e,JJz (h1.symm.trans e)];exact⟨h1,h2,ry⟩
  .rw[JJx e,JJx (fun z=>e (h1.trans z))];exact⟨h1,h2,h3⟩
theorem KT.put {H:Hp}{kvs:List (List Key×V)}{xs:List (List Key×Addr×Value)} (r:KT H kvs xs) (k:List Key) {b:Addr}{y:V}{u:Value} (hb:H b=some (.tup (k.map kV))) (ry:RelV y u):
  KT H (Cg kvs k y) (storedH xs k b u):=by
 have e:(kvs.any fun kv=>decide (kv.1=k))=(atKey xs k).isSome:=by
  rw[Jk,(r.val k).isSome_eq,MZ]
 unfold Cg storedH
 rw[e]
 by_cases q:(atKey xs k).isSome=true
 .rw[JJz q,JJz q];exact r.repl k ry
 .rw[JJx q,JJx q];exact Paired.snoc r ⟨rfl,hb,ry⟩
theorem KT.keeps {H H':Hp}{kvs:List (List Key×V)}{xs:List (List Key×Addr×Value)} (r:KT H kvs xs) (ht:∀b ys,H b=some (.tup ys)->H' b=some (.tup ys)):KT H' kvs xs :=
 Paired.mapP r fun _ _ z=>⟨z.1,ht _ _ z.2.1,z.2.2⟩
section
variable {P:Program}{w:World}{H:Hp}{h:Heap}{a:Addr}
theorem Uh {u:HO} (ok:HOk P w H h) (e:Rd H a u):ObjOk P w H h a u:=e.ok ok
theorem F4 {kvs:List (Key×V)} (ok:HOk P w H h) (e:Rd H a (.dK kvs)):kvs.length<=sizeLine/\(a==sysModules)=false/\∃vs,KV kvs vs/\h.DictOf (Cz P w) a vs :=
 show ObjOk P w H h a (.dK kvs) from Uh ok e
theorem aa {kvs:List (Key×V)} (ok:HOk P w H h) (e:H a=some (.dK kvs)):kvs.length<=sizeLine/\(a==sysModules)=false/\∃vs,KV kvs vs/\h.DictOf (Cz P w) a vs:=F4 ok (.inl e)
theorem Gy {ks:List Key} (ok:HOk P w H h) (e:H a=some (.tup (ks.map kV))):(tupleKind (Cz P w)).is h ks a:=by
 obtain⟨_,its,r,o,h1,h2,n,h3⟩:=(show ObjOk P w H h a (.tup (ks.map kV)) from ok a _ e)
 exact⟨o,its.toArray,n,h1,h2,h3,by simpa using TM r⟩
theorem F5 {kvs:List (List Key×V)} (ok:HOk P w H h) (e:Rd H a (.dT kvs)):kvs.length<=sizeLine/\(a==sysModules)=false/\
  ∃xs,KT H kvs xs/\h.DictOfH (tupleKind (Cz P w)) a xs:=by
 obtain⟨z,y,xs,r,o,es,ep,h1,h2,h3,h4,h5⟩:=(show ObjOk P w H h a (.dT kvs) from Uh ok e)
 refine⟨z,y,xs,r,o,es,ep,h1,h2,h3,h4,fun x hx=>?_,h5⟩
 have all:∀{l:List (List Key×V)} {m:List (List Key×Addr×Value)},KT H l m->∀x∈m,(tupleKind (Cz P w)).is h x.1 x.2.1:=by
  intro l m q
  induction q with
  | nil=>intro x hx;exact nomatch hx
  | @cons p q ps qs hq t ih =>
   intro x hx
   rcases AQ.mp hx with e | hx
   .subst e
    exact Gy ok (by rw[<- hq.1];exact hq.2.1)
   .exact ih x hx
 exact all r x hx
theorem SI {kvs:List (List Key×V)} (ok:HOk P w H h) (e:H a=some (.dT kvs)):kvs.length<=sizeLine/\(a==sysModules)=false/\
 ∃xs,KT H kvs xs/\h.DictOfH (tupleKind (Cz P w)) a xs:=F5 ok (.inl e)
end
def DGet (H:Hp) (a:Addr) (y:V) (r:Option V):Prop :=
 (∃kvs k,Rd H a (.dK kvs)/\y=kV k/\r=BO kvs k)\/∃kvs k b,Rd H a (.dT kvs)/\y=.ref b/\H b=some (.tup (k.map kV))/\r=BO kvs k
def DPut (H:Hp) (a:Addr) (y v:V) (H':Hp):Prop :=
 (∃kvs k,H a=some (.dK kvs)/\y=kV k/\kvs.length < sizeLine/\H'=upd H a (.dK (Cg kvs k v)))\/
 ∃kvs k b,H a=some (.dT kvs)/\y=.ref b/\H b=some (.tup (k.map kV))/\kvs.length < sizeLine/\H'=upd H a (.dT (Cg kvs k v))
theorem DGet.k {H:Hp}{a:Addr}{kvs:List (Key×V)}{k:Key} (e:H a=some (.dK kvs)):DGet H a (kV k) (BO kvs k):=.inl ⟨kvs,k,.inl e,rfl,rfl⟩
theorem DGet.t {H:Hp}{a b:Addr}{kvs:List (List Key×V)}{k:List Key} (e:H a=some (.dT kvs)) (eb:H b=some (.tup (k.map kV))):DGet H a (.ref b) (BO kvs k):=.inr ⟨kvs,k,b,.inl e,rfl,eb,rfl⟩
theorem DPut.k {H:Hp}{a:Addr}{kvs:List (Key×V)}{k:Key}{v:V} (e:H a=some (.dK kvs)) (hl:kvs.length < sizeLine):DPut H a (kV k) v (upd H a (.dK (Cg kvs k v))):=.inl ⟨kvs,k,e,rfl,hl,rfl⟩
theorem DPut.t {H:Hp}{a b:Addr}{kvs:List (List Key×V)}{k:List Key}{v:V} (e:H a=some (.dT kvs)) (eb:H b=some (.tup (k.map kV))) (hl:kvs.length < sizeLine):
 DPut H a (.ref b) v (upd H a (.dT (Cg kvs k v))):=.inr ⟨kvs,k,b,e,rfl,eb,hl,rfl⟩
section
variable {X:Cx}{pins:List (Addr×Obj)}{σ:St}{H:Hp}{s:Shared}{a:Addr}{y v:V}{u r:Value}{o:Option V}{A:Around}{E:Value->Shared->Prop}
theorem Inv.big (I:Inv X pins σ H s):sysModules < s.heap.objs.size:=by
 have h:mainGlobals < s.heap.objs.size:=(I.mod.glob.keeps I.bk).lt
 exact MV (by decide) h
theorem aO {Q:Value->Shared->Prop} (hu:A.units+1 < cLine) (I:Inv X pins σ H s) (g:DGet H a y (some v)) (ry:RelV y u) (h:∀w' s',Inv X pins σ H s'->RelV v w'->Q w' s'):
  wpAny (model X.prog X.w) A (getItem (.ref a) u) Q E s:=by
 rcases g with ⟨kvs,k,e,ey,l⟩ | ⟨kvs,k,b,e,ey,eb,l⟩
 .subst ey
  obtain⟨z,hd,vs,rel,dd⟩:=F4 I.hok e
  obtain⟨w',hw,rw'⟩:=RelO.some_of (v:=v) (o:=valueAt vs k) (by rw[l];exact rel.val k)
  exact wpAny_getItem_of (Gw ry) dd.mapOf hw (h w' _ (I.tok _) rw')
 .subst ey
  cases (show u=Ab b from ry)
  obtain⟨z,hd,xs,rel,dd⟩:=F5 I.hok e
  obtain⟨w',hw,rw'⟩:=RelO.some_of (v:=v) (o:=(atKey xs k).map (·.2)) (by rw[l];exact rel.val k)
  obtain⟨p,hp,hp2⟩:=KD.mp hw
  refine wpAny_getItem_heap (Im hu) (Gy I.hok eb) dd hp ?_
  rw[hp2]
  exact h w' _ (I.tok _) rw'
theorem aP {Q:Value->Shared->Prop} (hu:A.units+1 < cLine) (I:Inv X pins σ H s) (g:DGet H a y o) (ry:RelV y u) (h:∀s',Inv X pins σ H s'->Q (.bool o.isSome) s'):
  wpAny (model X.prog X.w) A (compareOp .In u (.ref a)) Q E s:=by
 rcases g with ⟨kvs,k,e,ey,l⟩ | ⟨kvs,k,b,e,ey,eb,l⟩
 .subst ey
  obtain⟨z,hd,vs,rel,dd⟩:=F4 I.hok e
  refine wpAny_in_of (Gw ry) hd dd.mapOf ?_
  rw[<- (rel.val k).isSome_eq,<- l]
  exact h _ (I.tok _)
 .subst ey
  cases (show u=Ab b from ry)
  obtain⟨z,hd,xs,rel,dd⟩:=F5 I.hok e
  refine wpAny_in_heap (Im hu) (Gy I.hok eb) hd dd ?_
  have q:=(rel.val k).isSome_eq
  rw[MZ] at q
  rw[<- q,<- l]
  exact h _ (I.tok _)
theorem aS {Q:Value->Shared->Prop} (hu:A.units+1 < cLine) (I:Inv X pins σ H s) (g:DGet H a y o) (ry:RelV y u) (h:∀s',Inv X pins σ H s'->Q (.bool (!o.isSome)) s'):
  wpAny (model X.prog X.w) A (compareOp .NotIn u (.ref a)) Q E s:=by
 rcases g with ⟨kvs,k,e,ey,l⟩ | ⟨kvs,k,b,e,ey,eb,l⟩
 .subst ey
  obtain⟨z,hd,vs,rel,dd⟩:=F4 I.hok e
  refine wpAny_notIn_of (Gw ry) hd dd.mapOf ?_
  rw[<- (rel.val k).isSome_eq,<- l]
  exact h _ (I.tok _)
 .subst ey
  cases (show u=Ab b from ry)
  obtain⟨z,hd,xs,rel,dd⟩:=F5 I.hok e
  refine wpAny_notIn_heap (Im hu) (Gy I.hok eb) hd dd ?_
  have q:=(rel.val k).isSome_eq
  rw[MZ] at q
  rw[<- q,<- l]
  exact h _ (I.tok _)
theorem R7 {h':Heap}{t':Nat}{ob:HO} (I:Inv X pins σ H s) (mu:Mut (H a)) (hs:Ig a s.heap h') (he:∃q,h'.get? a=some q) (new:ObjOk X.prog X.w (upd H a ob) h' a ob):
  Inv X pins σ (upd H a ob) { s with heap:=h',toks:=t' } :=
 I.write (x:=a) (e:=a) mu (.inl rfl) (fun b q hb z=>(hs.2 b hb).trans z) he new
theorem aZ {P:Program}{w:World}{H':Hp}{h':Heap}{kvs:List (Key×V)}{vs:List (Key×Value)} (z:kvs.length<=sizeLine) (hd:(a==sysModules)=false) (rel:KV kvs vs) (dd:h'.DictOf (Cz P w) a vs):
 ObjOk P w H' h' a (.dK kvs):=⟨z,hd,vs,rel,dd⟩
theorem aT {H':Hp}{Q:Unit->Shared->Prop} (hu:A.units+1 < cLine) (I:Inv X pins σ H s) (g:DPut H a y v H') (ry:RelV y u) (rv:RelV v r) (h:∀s',Inv X pins σ H' s'->Q () s'):
  wpAny (model X.prog X.w) A (setItem (.ref a) u r) Q E s:=by
 rcases g with ⟨kvs,k,e,ey,l,eH⟩ | ⟨kvs,k,b,e,ey,eb,l,eH⟩
 .subst ey eH
  obtain⟨z,hd,vs,rel,dd⟩:=aa I.hok e
  have hz:vs.length<=sizeLine:=by rw[<- rel.length];exact z
  have hl:(Cg kvs k v).length<=sizeLine:=by have:=N5 kvs k v;omega
  refine wpAny_setItem_pairs (hsz:=hz) (Gw ry) dd fun h' dd' hs=>h _ ?_
  have he:∃q,h'.get? a=some q:=let ⟨q,_,_,hq,_⟩:=dd';⟨q,hq⟩
  exact R7 I (by rw[e];exact Iq) hs he (aZ hl hd (rel.put k rv) dd')
 .subst ey eH
  cases (show u=Ab b from ry)
  obtain⟨z,hd,xs,rel,dd⟩:=SI I.hok e
  have hz:xs.length<=sizeLine:=by rw[<- GZ rel];exact z
  have hl:(Cg kvs k v).length<=sizeLine:=by have:=N5 kvs k v;omega
  refine wpAny_setItem_heap (hsz:=hz) (Im hu) (Gy I.hok eb) dd fun h' dd' hs=>h _ ?_
  obtain⟨q,es,ep,hq,h2,h3,h4,_,h5⟩:=dd'
  refine R7 I (by rw[e];exact Iq) hs ⟨q,hq⟩ ⟨hl,hd,_,(rel.put k eb rv).keeps fun c ys ec=>?_,q,es,ep,hq,h2,h3,h4,h5⟩
  rw[AF (BX ec e (fun z=>nomatch z))]
  exact ec
end
section
variable {X:Cx}{pins:List (Addr×Obj)}{σ:St}{H:Hp}{s:Shared}{a:Addr}{kvs:List (Key×V)}{k:Key}{u:Value}{A:Around}{E:Value->Shared->Prop}
end
def RW (i:Expr):Prop:=∀ov iv,subscripted i false ov iv=operate [ov,iv] (getItem ov iv)
theorem gh {prog:Program}{w:World}{A:Around}{E:Value->Shared->Prop}{s:Shared}{env:Env}{value slice:Expr}{pos:Pos}{T id:String}{Q:Value->Shared->Prop}
  (hl:typeLookup (.type T) "__getitem__"=pure (some (.builtin id))) (hs:RW slice)
  (h:wpAny (model prog w) A (eval value env) (fun o s₁=>wpAny (model prog w) A (eval slice env) (fun i s₂=>s₂.TypeIs o T/\wpAny (model prog w) A (getItem o i) Q E s₂) E s₁) E s):
  wpAny (model prog w) A (eval (.Subscript value slice pos) env) Q E s:=by
 refine Qb (DO h (fun o s₁ h₁=>DO h₁ (fun i s₂ h₂=>?_) fun _ _ x=>x) fun _ _ x=>x)
 obtain⟨hT,h₂⟩:=h₂
 unfold subscriptTail
 refine AI ?_
 rw[getitemInPython_of_ne hT.not_modules]
 refine AI (Zb hT hl ?_)
 have fin:wpAny (model prog w) A (subscripted slice false o i) (fun r s₃=>wpAny (model prog w) A (letTemporaryGo value o r >>= fun _=>pure r) Q E s₃) E s₂:=by
  rw[hs o i]
  exact wpAny_operating (DO h₂ (fun r s₃ h₃=>AI (wpAny_letTemporaryGo (AZ h₃))) fun _ _ x=>x)
 first
  | exact AZ (AI fin)
  | exact AI (AZ (AI fin))
  | exact AI fin
theorem aW {X:Cx}{pins:List (Addr×Obj)}{σ:St}{H:Hp}{s:Shared}{a:Addr}{y:V}{o:Option V} (I:Inv X pins σ H s) (g:DGet H a y o):s.TypeIs (.ref a) "dict":=by
 rcases g with ⟨kvs,k,e,_,_⟩ | ⟨kvs,k,b,e,_,_,_⟩
 .obtain⟨_,_,vs,_,dd⟩:=F4 I.hok e
  exact dd.typeIs
 .obtain⟨_,_,xs,_,dd⟩:=F5 I.hok e
  exact dd.typeIs
def gq (td ty:TE):TE:=fun σ H Q=>td σ H fun x H1=>ty σ H1 fun y H2=>∃a v,x=.ref a/\DGet H2 a y (some v)/\Q v H2
def gv (ty td:TE):TE:=fun σ H Q=>ty σ H fun y H1=>td σ H1 fun x H2=>∃a o,x=.ref a/\DGet H2 a y o/\Q (.bl o.isSome) H2
def gy (ty td:TE):TE:=fun σ H Q=>ty σ H fun y H1=>td σ H1 fun x H2=>∃a o,x=.ref a/\DGet H2 a y o/\Q (.bl (!o.isSome)) H2
def fF (td ty tv:TE):TS:=fun D σ H=>tv σ H fun v H1=>td σ H1 fun x H2=>ty σ H2 fun y H3=>∃a H4,x=.ref a/\DPut H3 a y v H4/\D.nx σ H4
section
variable {X:Cx}{o i e value:Expr}{pos pos' tpos:Pos}{td ty tv:TE}
theorem LO (hu:X.A.units+1 < cLine) (ho:PE X o td) (hi:PE X i ty) (hs:RW i):PE X (.Subscript o i pos) (gq td ty):=by
 intro pins s σ H Q I h
 refine gh PySem.F.slot_dict_getitem.lookup hs (thn (ho pins s σ H _ I h) fun u s1 ⟨x,H1,I1,rx,q1⟩=>thn (hi pins s1 σ H1 _ I1 q1) fun iv s2 ⟨y,H2,I2,ry,a,v,ex,g,q2⟩=>?_)
 subst ex
 obtain rfl:u=Ab a:=rx
 exact⟨aW I2 g,aO hu I2 g ry fun w' s3 I3 rw'=>⟨v,H2,I3,rw',q2⟩⟩
theorem UI (hu:X.A.units+1 < cLine) (hi:PE X i ty) (ho:PE X o td):PC X .In i o (gv ty td):=by
 intro pins s σ H Q I h
 refine thn (hi pins s σ H _ I h) fun iv s1 ⟨y,H1,I1,ry,q1⟩=>thn (ho pins s1 σ H1 _ I1 q1) fun u s2 ⟨x,H2,I2,rx,a,ov,ex,g,q2⟩=>?_
 subst ex
 obtain rfl:u=Ab a:=rx
 exact aP hu I2 g ry fun s3 I3=>⟨.bl ov.isSome,H2,I3,rfl,q2⟩
theorem di (hu:X.A.units+1 < cLine) (hi:PE X i ty) (ho:PE X o td):PC X .NotIn i o (gy ty td):=by
 intro pins s σ H Q I h
 refine thn (hi pins s σ H _ I h) fun iv s1 ⟨y,H1,I1,ry,q1⟩=>thn (ho pins s1 σ H1 _ I1 q1) fun u s2 ⟨x,H2,I2,rx,a,ov,ex,g,q2⟩=>?_
 subst ex
 obtain rfl:u=Ab a:=rx
 exact aS hu I2 g ry fun s3 I3=>⟨.bl (!ov.isSome),H2,I3,rfl,q2⟩
theorem Ja (hu:X.A.units+1 < cLine) (ho:PE X o td) (hi:PE X i ty) (hv:PE X value tv) (hs:swapsWith value (some (.Subscript o i pos')) pos.line X.env=pure false):
  PS X (.Assign [.Subscript o i pos'] value pos) (fF td ty tv):=by
 intro pins s σ H D I h
 refine wpAny_Assign_Subscript (thn (hv pins s σ H _ I h) fun r s1 ⟨v,H1,I1,rv,q1⟩=>thn (ho pins s1 σ H1 _ I1 q1) fun u s2 ⟨x,H2,I2,rx,q2⟩=>thn (hi pins s2 σ H2 _ I2 q2) fun iv s3 ⟨y,H3,I3,ry,a,H4,ex,g,q3⟩=>?_) hs
 subst ex
 obtain rfl:u=Ab a:=rx
 exact aT hu I3 g ry rv fun s4 I4=>⟨σ,H4,I4,q3⟩
end
theorem aY {P:Program}{w:World}{H:Hp} (h:Heap) (hb:sysModules < h.objs.size):ObjOk P w H (h.push { cls:=.type "dict",data:=.dict #[] }) h.objs.size (.dK []) :=
 ⟨Ax _,beq_eq_false_iff_ne.mpr (Ar (B1 hb)),[],.nil,Heap.DictOf.new h⟩
theorem ag {P:Program}{w:World}{H:Hp} (h:Heap) (hb:sysModules < h.objs.size):ObjOk P w H (h.push { cls:=.type "dict",data:=.dict #[] }) h.objs.size (.dT []) :=
 ⟨Ax _,beq_eq_false_iff_ne.mpr (Ar (B1 hb)),[],.nil,_,#[],0,CD _ rfl,⟨rfl,rfl,rfl⟩,rfl,rfl,IY⟩
def gw:TE:=fun _ H Q=>∀p,H p=none->Q (.ref p) (upd H p (.dK []))
def gx:TE:=fun _ H Q=>∀p,H p=none->Q (.ref p) (upd H p (.dT []))
section
variable {X:Cx}{pos:Pos}
theorem UL:PE X (.Dict [] [] pos) gw:=fun pins s σ H Q I h =>
 ZS ⟨.ref s.heap.objs.size,_,I.laid (a:=s.heap.objs.size) (o:=.dK []) (t':=s.toks) (fun _ _ q=>Bi _ q) (Aa _) (aY s.heap I.big),rfl,h _ (I.hok.fresh (Aa _))⟩
theorem UM:PE X (.Dict [] [] pos) gx:=fun pins s σ H Q I h =>
 ZS ⟨.ref s.heap.objs.size,_,I.laid (a:=s.heap.objs.size) (o:=.dT []) (t':=s.toks) (fun _ _ q=>Bi _ q) (Aa _) (ag s.heap I.big),rfl,h _ (I.hok.fresh (Aa _))⟩
end
structure M1 (X:Cx) (o:Expr) (m:Str) (apos:Pos) (e:Expr) (cpos:Pos):Prop where
 base:attributeBase o m X.env (eval o X.env)=eval o X.env
 few:((backTo cpos (starEach [e] X.env)).all (fun x=>!x.1)&&(backToKw cpos (keywordEach [] X.env)).all (fun x=>x.1.isSome)
  && decide (([e]:List Expr).length+([]:List Keyword).length+(if ([]:List Keyword).isEmpty then 0 else 1) < 30))=true
 line:(apos.endLine==cpos.line)=true
 trees:backTo cpos (starEach [e] X.env)=[(false,eval e X.env)]
structure M2 (X:Cx) (o:Expr) (m:Str) (apos:Pos) (e f:Expr) (cpos:Pos):Prop where
 base:attributeBase o m X.env (eval o X.env)=eval o X.env
 few:((backTo cpos (starEach [e,f] X.env)).all (fun x=>!x.1)&&(backToKw cpos (keywordEach [] X.env)).all (fun x=>x.1.isSome)
  && decide (([e,f]:List Expr).length+([]:List Keyword).length+(if ([]:List Keyword).isEmpty then 0 else 1) < 30))=true
 line:(apos.endLine==cpos.line)=true
 trees:backTo cpos (starEach [e,f] X.env)=[(false,eval e X.env),(false,eval f X.env)]
def IsD (H:Hp) (a:Addr):Prop:=(∃kvs,Rd H a (.dK kvs))\/∃kvs,Rd H a (.dT kvs)
theorem TH {X:Cx}{pins:List (Addr×Obj)}{σ:St}{H:Hp}{s:Shared}{a:Addr} (I:Inv X pins σ H s) (d:IsD H a):
  s.TypeIs (.ref a) "dict"/\(∀b,Ab a=.ref b->∃ob,s.heap.get? b=some ob/\ob.dict=none)/\(a==sysModules)=false:=by
 rcases d with ⟨kvs,e⟩ | ⟨kvs,e⟩
 .obtain⟨_,hd,vs,_,dd⟩:=F4 I.hok e
  refine⟨dd.typeIs,fun b q=>?_,hd⟩
  cases q
  obtain⟨ob,_,_,h1,h2,_⟩:=dd
  exact⟨ob,h1,h2.2.1⟩
 .obtain⟨_,hd,xs,_,dd⟩:=F5 I.hok e
  refine⟨dd.typeIs,fun b q=>?_,hd⟩
  cases q
  obtain⟨ob,_,_,h1,h2,_⟩:=dd
  exact⟨ob,h1,h2.2.1⟩
section
variable {X:Cx}{pins:List (Addr×Obj)}{σ:St}{H:Hp}{s:Shared}{a:Addr}{y d:V}{u r:Value}{o:Option V}{A:Around}{E:Value->Shared->Prop}
theorem aM {Q:Value->Shared->Prop} (hu:A.units+1 < cLine) (I:Inv X pins σ H s) (g:DGet H a y o) (ry:RelV y u) (h:∀w' s',Inv X pins σ H s'->RelV (o.getD .non) w'->Q w' s'):
  wpAny (model X.prog X.w) A (call (.builtin "dict.get") [.ref a,u]) Q E s:=by
 rcases g with ⟨kvs,k,e,ey,l⟩ | ⟨kvs,k,b,e,ey,eb,l⟩
 .subst ey
  obtain⟨z,hd,vs,rel,dd⟩:=F4 I.hok e
  refine KP Ie dd.typeIs Mi (Yp _ _) (meets_dict_get (Cz X.prog X.w) a (Gw ry) hd) ⟨_,dd.mapOf,h _ _ (I.tok _) ?_⟩
  rw[l]
  exact(rel.val k).getD rfl
 .subst ey
  cases (show u=Ab b from ry)
  obtain⟨z,hd,xs,rel,dd⟩:=F5 I.hok e
  refine KP Ie dd.typeIs Mi (Yp _ _) (meetsH_dict_get (tupleKind (Cz X.prog X.w)) a b hd) ⟨Im hu,k,xs,Gy I.hok eb,dd,h _ _ (I.tok _) ?_⟩
  rw[l]
  exact(rel.val k).getD rfl
theorem aN {Q:Value->Shared->Prop} (hu:A.units+1 < cLine) (I:Inv X pins σ H s) (g:DGet H a y o) (ry:RelV y u) (rd:RelV d r) (h:∀w' s',Inv X pins σ H s'->RelV (o.getD d) w'->Q w' s'):
  wpAny (model X.prog X.w) A (call (.builtin "dict.get") [.ref a,u,r]) Q E s:=by
 rcases g with ⟨kvs,k,e,ey,l⟩ | ⟨kvs,k,b,e,ey,eb,l⟩
 .subst ey
  obtain⟨z,hd,vs,rel,dd⟩:=F4 I.hok e
  refine KP Ie dd.typeIs Mi (Yq _ _ _) (meets_dict_get_default (Cz X.prog X.w) a (Gw ry) hd r) ⟨_,dd.mapOf,h _ _ (I.tok _) ?_⟩
  rw[l]
  exact(rel.val k).getD rd
 .subst ey
  cases (show u=Ab b from ry)
  obtain⟨z,hd,xs,rel,dd⟩:=F5 I.hok e
  refine KP Ie dd.typeIs Mi (Yq _ _ _) (meetsH_dict_get_default (tupleKind (Cz X.prog X.w)) a b hd r) ⟨Im hu,k,xs,Gy I.hok eb,dd,h _ _ (I.tok _) ?_⟩
  rw[l]
  exact(rel.val k).getD rd
end
def gr (td ty:TE):TE:=fun σ H Q=>td σ H fun x H1=>∃a,x=.ref a/\IsD H1 a/\ty σ H1 fun y H2=>∃o,DGet H2 a y o/\Q (o.getD .non) H2
def gu (td ty tx:TE):TE:=fun σ H Q=>td σ H fun x H1=>∃a,x=.ref a/\IsD H1 a/\ty σ H1 fun y H2=>tx σ H2 fun z H3=>∃o,DGet H3 a y o/\Q (o.getD z) H3
section
variable {X:Cx}{o e f:Expr}{apos cpos:Pos}{td ty tx:TE}
theorem dk (hu:X.A.units+1 < cLine) (ho:PE X o td) (he:PE X e ty) (m:M1 X o "get" apos e cpos):PE X (.Call (.Attribute o "get" apos) [e] [] cpos) (gr td ty):=by
 intro pins s σ H Q I h
 refine ZR m.base m.few m.line Yx Ie Y2 (thn (ho pins s σ H _ I h) fun u s1 ⟨x,H1,I1,rx,a,ex,d,q1⟩=>?_)
 subst ex
 obtain rfl:u=Ab a:=rx
 obtain⟨t1,t2,_⟩:=TH I1 d
 refine⟨t1,t2,?_⟩
 rw[m.trees]
 refine Qj rfl (Qk (Mh (thn (he pins s1 σ H1 _ I1 q1) fun iv s2 ⟨y,H2,I2,ry,ov,g,q2⟩=>Ql ?_)))
 exact aM hu I2 g ry fun w' s3 I3 rw'=>⟨_,H2,I3,rw',q2⟩
theorem UK (hu:X.A.units+1 < cLine) (ho:PE X o td) (he:PE X e ty) (hf:PE X f tx) (m:M2 X o "get" apos e f cpos):PE X (.Call (.Attribute o "get" apos) [e,f] [] cpos) (gu td ty tx):=by
 intro pins s σ H Q I h
 refine ZR m.base m.few m.line Yx Ie Y2 (thn (ho pins s σ H _ I h) fun u s1 ⟨x,H1,I1,rx,a,ex,d,q1⟩=>?_)
 subst ex
 obtain rfl:u=Ab a:=rx
 obtain⟨t1,t2,_⟩:=TH I1 d
 refine⟨t1,t2,?_⟩
 rw[m.trees]
 refine Qj rfl (Qk (Mh (thn (he pins s1 σ H1 _ I1 q1) fun iv s2 ⟨y,H2,I2,ry,q2⟩ =>
  Mh (thn (hf pins s2 σ H2 _ I2 q2) fun fv s3 ⟨z,H3,I3,rz,ov,g,q3⟩=>Ql ?_))))
 exact aN hu I3 g ry rz fun w' s4 I4 rw'=>⟨_,H3,I4,rw',q3⟩
end
section
variable {X:Cx}{pins:List (Addr×Obj)}{σ:St}{H:Hp}{s:Shared}{a:Addr}{kvs:List (Key×V)}{A:Around}{E:Value->Shared->Prop}
end
section
variable {X:Cx}{pins:List (Addr×Obj)}{σ:St}{H:Hp}{s:Shared}{a:Addr}{y:V}{u:Value}{A:Around}{E:Value->Shared->Prop}
end
end L2
namespace L2
open PySem PySem.Spec PyProof.Rows
section
variable {prog:Program}{w:World}{A:Around}{E:Value->Shared->Prop}
end
section
variable {X:Cx}
end
end L2
namespace L2
open PySem PySem.Spec PyProof.Rows
theorem Z1:bootBuiltins "reversed"=some (.type "reversed"):=by decide +kernel
section
variable {X:Cx}{pins:List (Addr×Obj)}{σ:St}{H:Hp}{s:Shared}{h':Heap}
theorem Inv.turnedNew {t':Nat}{ch:List Addr}{T:Addr}{ob:HO} (I:Inv X pins σ H s) (k:∀b o,b∉ch->s.heap.get? b=some o->h'.get? b=some o) (hf:∀b∈ch,EX X pins H b) (hT:s.heap.objs.size<=T)
  (new:ObjOk X.prog X.w (upd H T ob) h' T ob):Inv X pins σ (upd H T ob) { s with heap:=h',toks:=t' }:=by
 have hn:H T=none:=I.hok.fresh hT
 have nit:∀b u,H b=some u->b∉ch:=fun b u e z=>by
  have q:=(hf b z).1
  rw[q] at e;cases e
 refine I.step (g':=s.gens) (d':=s.drawn) (ch:=ch) (fun b hb=>⟨(hf b hb).2.2.2.1,(hf b hb).2.1,(hf b hb).2.2.2.2.1,(hf b hb).2.2.2.2.2⟩) (fun b o _ _ hc e _=>k b o hc e) (fun b o _ _ hc e _=>⟨o.slots,k b o hc e⟩)
  (fun b o _ e n=>?_) (fun b o hc e=>⟨o,k b o hc e⟩) (fun b xs e=>?_) (fun b o u e=>?_) (fun b ps e=>⟨#[],?_⟩) (fun m hm=>?_) (fun b u e=>?_) I.bare
 .rw[AF (B1 (CU (BJ e) hT))];exact n
 .rw[AF (Ac e hn)];exact e
 .rw[AF (Ac e hn)];exact e
 .rw[AF (Ac e hn),e];simp
 .obtain⟨o,es,ep,ho,r⟩:=hm
  exact⟨o,es,ep,k _ o (fun z=>(hf _ z).2.1 rfl) ho,r⟩
 .by_cases hb:b=T
  .subst hb
   rw[AG] at e
   cases e
   exact new
  .rw[AF hb] at e
   refine(I.hok b u e).stay (fun c v hc q=>k c v ?_ q) (fun c q=>by rw[AF (Ac q hn)];exact q) fun c xs q=>by rw[AF (Ac q hn)];exact q
   rcases hc with z | z
   .rw[z];exact nit b u e
   .exact nit c _ z
theorem Inv.lock {d:Addr}{u:HO} (I:Inv X pins σ H s) (h:H d=some u) (mu:Mut (some u)):∃od,Inv X pins σ (upd H d (.frz od u)) s:=by
 have x:=I.hok d u h
 have ex:∃od,s.heap.get? d=some od:=by
  cases u with
  | lst xs=>obtain⟨_,_,_,_,e⟩:=x;exact⟨_,e⟩
  | dK kvs=>obtain⟨_,_,_,_,o,_,_,e,_⟩:=x;exact⟨o,e⟩
  | dT kvs=>obtain⟨_,_,_,_,o,_,_,e,_⟩:=x;exact⟨o,e⟩
  | set S n=>obtain⟨o,_,_,_,e,_⟩:=x;exact⟨o,e⟩
  | ins C dx fs=>obtain⟨_,_,_,e,_⟩:=x;exact⟨_,e⟩
  | ext φ=>obtain⟨_,⟨_,e⟩,_⟩:=x;exact⟨_,e⟩
  | _=>exact Bf mu
 obtain⟨od,e⟩:=ex
 have new:ObjOk X.prog X.w (upd H d (.frz od u)) s.heap d (.frz od u):=by
  refine⟨e,x.stay (fun b v _ q=>q) (fun b q=>?_) fun b xs q=>?_⟩
  .rw[AF (fun z=>by rw[z,h] at q;cases q;exact mu)];exact q
  .rw[AF (fun z=>by rw[z,h] at q;cases q;exact mu)];exact q
 exact⟨od,I.write (x:=d) (e:=d) (t':=s.toks) (h':=s.heap) (by rw[h];exact mu) (.inl rfl) (fun b v _ q=>q) ⟨od,e⟩ new⟩
theorem Inv.nofrz {d:Addr}{u:HO} (I:Inv X pins σ H s) (h:H d=some u) (mu:Mut (some u)):∀o' u',X.H_0 d≠some (.frz o' u'):=fun o' u' e=>by
 have q:=I.base.frzs d o' u' e
 rw[h] at q
 cases q
 exact mu
theorem Inv.unlock {d:Addr}{od:Obj}{u:HO} (I:Inv X pins σ H s) (h:H d=some (.frz od u)) (hn:∀o' u',X.H_0 d≠some (.frz o' u')):Inv X pins σ (upd H d u) s:=by
 have neH:∀b o,H b=some o->(∀o' u',o≠.frz o' u')->b≠d:=fun b o e hne z=>by
  rw[z,h] at e
  cases e
  exact hne _ _ rfl
 have neN:∀b,H b=none->b≠d:=fun b e z=>by rw[z,h] at e;cases e
 refine⟨I.ok,I.os,I.bare,⟨I.base.keep,I.base.slot,fun b o e n hx=>?_,I.base.there,fun b xs e=>?_,fun b o x e=>?_,fun b ps e=>?_⟩,I.loc,I.cell,?_,fun x c e=>?_,fun p hp=>?_,fun b o e=>?_,I.len⟩
 .rw[AF (neN b (I.base.free b o e n hx))];exact I.base.free b o e n hx
 .have q:=I.base.tups b xs e
  rw[AF (neH b _ q (fun _ _ z=>nomatch z))];exact q
 .have q:=I.base.frzs b o x e
  rw[AF (fun z=>by rw[z] at e;exact hn _ _ e)];exact q
 .obtain⟨m,q⟩:=I.base.tbls b ps e
  exact⟨m,by rw[AF (neH b _ q (fun _ _ z=>nomatch z))];exact q⟩
 .rw[AF (neN _ I.free)];exact I.free
 .rw[AF (neN c (I.freeC x c e))];exact I.freeC x c e
 .obtain⟨e,n,r⟩:=I.pin p hp
  exact⟨e,by rw[AF (neN _ n)];exact n,r⟩
 .by_cases hb:b=d
  .rw[hb,AG] at e
   cases e
   rw[hb]
   obtain⟨_,x⟩:=I.hok d _ h
   exact x.stay (fun c v _ q=>q) (fun c q=>by rw[AF (neH c _ q (fun _ _ z=>nomatch z))];exact q) fun c xs q=>by rw[AF (neH c _ q (fun _ _ z=>nomatch z))];exact q
  .rw[AF hb] at e
   exact(I.hok b o e).stay (fun c v _ q=>q) (fun c q=>by rw[AF (neH c _ q (fun _ _ z=>nomatch z))];exact q) fun c xs q=>by rw[AF (neH c _ q (fun _ _ z=>nomatch z))];exact q
end
def ib (t:TS):TS:=fun D σ H=>∃d u,H d=some u/\Mut (some u)/\∀od,t ⟨fun σ' H'=>H' d=some (.frz od u)/\D.nx σ' (upd H' d u),fun v H'=>H' d=some (.frz od u)/\D.rt v (upd H' d u),fun σ' H'=>H' d=some (.frz od u)/\D.bk σ' (upd H' d u),fun σ' H'=>H' d=some (.frz od u)/\D.ct σ' (upd H' d u)⟩ σ (upd H d (.frz od u))
def g9 (t:TE):TE:=fun σ H Q=>∃d u,H d=some u/\Mut (some u)/\∀od,t σ (upd H d (.frz od u)) fun v H'=>H' d=some (.frz od u)/\Q v (upd H' d u)
section
variable {X:Cx}
theorem UN {e:Expr}{t:TE} (h:PE X e t):PE X e (g9 t):=by
 intro pins s σ H Q I hw
 obtain⟨d,u,hd,mu,hw⟩:=hw
 obtain⟨od,I1⟩:=I.lock hd mu
 refine thn (h pins s σ _ _ I1 (hw od)) fun v s1 ⟨x,H1,I2,r,e2,q⟩=>?_
 exact⟨x,_,I2.unlock e2 (I.nofrz hd mu),r,q⟩
theorem JY {tg:Expr}{pins:List (Addr×Obj)}{σ:St}{H:Hp}{s:Shared}{R:It->Hp->Prop}{J:It}{tn:Nat->Heap->Prop}{tk:Nat} (I:Inv X pins σ H s) (o:Obj)
  (T:Et X.prog X.w X.K tg J [s.heap.objs.size] s.heap.objs.size tn) (st:tn 0 (s.heap.push o)) (q:R J H):PIE X pins σ tg R (.ref s.heap.objs.size) { s with heap:=s.heap.push o,toks:=tk }:=by
 refine⟨s.heap.objs.size,[s.heap.objs.size],tn,J,H,rfl,I.kept fun b ob e=>Bi _ e,T,st,fun b hb=>?_,q⟩
 have e:b=s.heap.objs.size:=by simpa using hb
 subst e
 exact I.fpOk (Aa _) (I.hok.fresh (Aa _))
end
section
variable {X:Cx}{tg:Expr}
end
def Itv (K:AD) (a:Addr) (n:Nat):It :=
 ⟨fun i H=>i < n/\∃(xs:List V) (x:V),SqL K H a xs/\xs[n - 1 - i]?=some x,fun i H x H'=>H'=H/\∀xs,SqL K H a xs->xs[n - 1 - i]?=some x,fun i _=>n<=i⟩
theorem iR {P:Program}{w:World}{K:AD}{tg:Expr} (a it:Addr) (n:Nat):Et P w K tg (Itv K a n) [it] it (fun i h=>i<=n/\h.IsRevIter it a ((n:Int) - 1 - (i:Nat))) where
 mem:=by simp
 obj:=fun i h st b hb=>by
  have e:b=it:=by simpa using hb
  subst e
  obtain⟨_,o,e,c,d⟩:=st
  exact⟨o,e,fun v z=>by rw[d] at z;cases z⟩
 keep:=fun i h h' st k=>⟨st.1,st.2.at fun o e=>k it (by simp) o e⟩
 item:=by
  intro X hP hw hK hc i pins s σ H E I hf st hg
  subst hP hw hK
  obtain⟨hin,xs,x,hq,hx⟩:=hg
  obtain⟨its,rv,p,hz⟩:=I.list hq
  obtain⟨u,hu,ru⟩:=rv.get hx
  obtain⟨f0,f1,f2,f3,f4,f5⟩:=hf it (by simp)
  obtain⟨_,hit⟩:=st
  have e1:(n:Int) - 1 - ((i:Nat):Int)=((n - 1 - i:Nat):Int):=by omega
  rw[e1] at hit
  refine wpAny_pyNext_rev_item hit p.isList (x:=u) (by simpa using hu) fun h' st' sb=>?_
  have e2:((n - 1 - i:Nat):Int) - 1=(n:Int) - 1 - ((i+1:Nat):Int):=by omega
  rw[e2] at st'
  have I1:Inv X pins σ H { s with heap:=h' }:=I.turned (t':=s.toks) (fun b o hb e=>(sb.2 b hb).trans e) f0 f1 f3 f4 f5
  obtain⟨o,e,c,d⟩:=id st'
  exact⟨u,rfl,Hc (s:={ s with heap:=h' }) e c d (by decide) ⟨x,H,I1,ru,⟨rfl,fun ys hy=>by rw[I.list_inj hy hq];exact hx⟩,⟨hin,st'⟩,fun b hb=>(hf b hb).1⟩⟩
 done:=by
  intro X hP hw hK hc i pins s σ H E I hf st hg
  subst hP hw hK
  obtain⟨f0,f1,f2,f3,f4,f5⟩:=hf it (by simp)
  obtain⟨hin,hit⟩:=st
  have hge:n<=i:=hg
  have e1:(n:Int) - 1 - ((i:Nat):Int)=-1:=by omega
  rw[e1] at hit
  exact wpAny_pyNext_rev_end (I.ok.hd hc) hit fun h' eb=>⟨rfl,I.turned (t':=s.toks) (fun b o hb e=>eb b o hb e) f0 f1 f3 f4 f5⟩
 self:=fun A i s Q E st h=>Za st.2 h
def ba (K:AD) (ta:TA):TI:=fun σ H R=>ta σ H fun vs H1=>∃(a:Addr) (xs:List V),vs=[.ref a]/\SqL K H1 a xs/\R (Itv K a xs.length) H1
section
variable {X:Cx}{tg:Expr}
theorem eE {e:Expr}{ta:TA}{p pos:Pos} (hg:Gl X "reversed") (hm:X.mg "reversed"=none) (ha:PA X [e] ta) (hs:starEach [e] X.env=[(false,eval e X.env)]:=by rfl):PI X tg (.Call (.Name "reversed" p) [e] [] pos) (ba X.K ta):=by
 intro pins s σ H R I h
 refine Call_ (G0 I hg hm Z1 (KG (thn (ha pos pins s σ H _ I h) fun us s1 ⟨vs,H1,I1,r1,q1⟩=>?_) hs rfl))
 obtain⟨a,xs,e,hq,q⟩:=q1
 subst e
 cases r1 with
 | cons r rr =>
  cases rr
  cases r
  obtain⟨its,rv,p',hz⟩:=I1.list hq
  have hl:=rv.length
  have e1:((its.toArray.size:Nat):Int) - 1=(xs.length:Int) - 1 - ((0:Nat):Int):=by simp only[Bc];omega
  refine call_reversed_list p'.isList (Za (l:=a) (i:=((its.toArray.size:Nat):Int) - 1) ⟨_,CD _ rfl,rfl,rfl⟩ ?_)
  refine JY (tk:=s1.toks) I1 _ (iR a _ xs.length) ⟨Ax _,?_⟩ q
  rw[<- e1]
  exact⟨_,CD _ rfl,rfl,rfl⟩
end
def Its (x:Str):It:=⟨fun i _=>i < x.cps.size,fun i H v H'=>H'=H/\∃c,x.cps[i]?=some c/\v=.str ⟨#[c]⟩,fun i _=>x.cps.size<=i⟩
theorem Xl {P:Program}{w:World}{K:AD}{tg:Expr} (it:Addr) (x:Str) (t:Tok) (ty:String) (hty:ty="str_ascii_iterator"\/ty="str_iterator"):
  Et P w K tg (Its x) [it] it (fun i h=>h.IsStrIter it ty x t i) where
 mem:=by simp
 obj:=fun i h st b hb=>by
  have e:b=it:=by simpa using hb
  subst e
  obtain⟨o,e,c,d⟩:=st
  exact⟨o,e,fun v z=>by rw[d] at z;cases z⟩
 keep:=fun i h h' st k=>let ⟨o,ho,r⟩:=st;⟨o,k it (by simp) o ho,r⟩
 item:=by
  intro X hP hw hK hc i pins s σ H E I hf st hg
  subst hP hw hK
  obtain⟨f0,f1,f2,f3,f4,f5⟩:=hf it (by simp)
  have W:Walks X.prog X.w X.A it [it] [it] x.cps.size (SignAt x) (fun i h=>h.IsStrIter it ty x t i):=by
   rcases hty with e | e
   .rw[e];exact Walks.strAscii (I.ok.hd hc) it x t
   .rw[e];exact Walks.strWide (I.ok.hd hc) it x t
  have hno:["enumerate","zip","dict_itemiterator","dict_reverseitemiterator","odict_iterator","itertools.zip_longest","itertools.pairwise"].contains ty=false:=by
   rcases hty with e | e
   .rw[e];decide
   .rw[e];decide
  refine W.item i s _ _ hg st fun v h' tk hv st' kk=>?_
  obtain⟨c,u,hcx,rfl⟩:=hv
  have I1:Inv X pins σ H { s with heap:=h',toks:=tk }:=I.turned (fun b o hb e=>kk b o (by simpa using hb) e) f0 f1 f3 f4 f5
  obtain⟨oi,e,cc,dd⟩:=id st'
  exact⟨_,rfl,Hc (s:={ s with heap:=h',toks:=tk }) e cc dd hno ⟨.str ⟨#[c]⟩,H,I1,⟨u,rfl⟩,⟨rfl,c,hcx,rfl⟩,st',fun b hb=>(hf b hb).1⟩⟩
 done:=by
  intro X hP hw hK hc i pins s σ H E I hf st hg
  subst hP hw hK
  obtain⟨f0,f1,f2,f3,f4,f5⟩:=hf it (by simp)
  have hx:x.cps[i]?=none:=Pq hg
  rcases hty with e | e
  .rw[e] at st
   exact wpAny_pyNext_ascii_end (I.ok.hd hc) st hx fun h' eb=>⟨rfl,I.turned (t':=s.toks) (fun b o hb e=>eb b o hb e) f0 f1 f3 f4 f5⟩
  .rw[e] at st
   exact wpAny_pyNext_wide_end (I.ok.hd hc) st hx fun h' eb=>⟨rfl,I.turned (t':=s.toks) (fun b o hb e=>eb b o hb e) f0 f1 f3 f4 f5⟩
 self:=fun A i s Q E st h=>by
  rcases hty with e | e
  .rw[e] at st;exact wpAny_pyIter_striter_ascii st h
  .rw[e] at st;exact wpAny_pyIter_striter_wide st h
def bc (te:TE):TI:=fun σ H R=>te σ H fun v H1=>∃x,v=.str x/\R (Its x) H1
theorem eF {X:Cx}{tg e:Expr}{te:TE} (he:PE X e te):PI X tg e (bc te):=by
 intro pins s σ H R I h
 refine thn (he pins s σ H _ I h) fun v s1 ⟨y,H1,I1,r1,x,ex,q⟩=>?_
 subst ex
 obtain⟨t,rfl⟩:=r1
 cases ha:x.cps.all (· < 128)
 .exact wpAny_pyIter_wide ha (JY (tk:=s1.toks) I1 _ (Xl _ x t "str_iterator" (.inr rfl)) ⟨_,CD _ rfl,rfl,rfl⟩ q)
 .exact wpAny_pyIter_ascii ha (JY (tk:=s1.toks) I1 _ (Xl _ x t "str_ascii_iterator" (.inl rfl)) ⟨_,CD _ rfl,rfl,rfl⟩ q)
section
variable {prog:Program}{w:World}{A:Around}{E:Value->Shared->Prop}{s:Shared}
theorem N1 {d:Addr}{o:Obj}{es:Array DictEntry}{ep:Nat}{Q:Value->Shared->Prop} (hd:(d==sysModules)=false) (ho:s.heap.get? d=some o) (hc:o.ExactDict) (hdat:o.data=.dict es ep)
  (hQ:Q (.ref s.heap.objs.size) { s with heap:=s.heap.push { cls:=.type "dict_keyiterator",data:=.fields #[.ref d,.int 0 0,.int es.size 0,.int ep 0] } }):
  wpAny (model prog w) A (pyIter (.ref d)) Q E s:=by
 have hT:s.TypeIs (.ref d) "dict":=⟨o,ho,hc.1⟩
 refine RH hT Yy (Gf Yy hT F.entry_dict_iter ?_ (F.args_dict_iter_1 _))
 unfold Builtin.«dict.__iter__»
 refine AI ?_
 unfold Builtin.Dict.dictSlotNone
 refine AI (wpAny_notOrdered_dict hT ?_)
 show wpAny _ _ (pure (Ab d)) _ _ s
 refine AZ ?_
 show wpAny _ _ (Yj d >>= _) _ _ s
 unfold Yj
 rw[JJx (by rw[hd];exact A8)]
 refine AI (AZ ?_)
 refine AI (Mv ho hdat ?_)
 refine AI (RC ho hdat ?_)
 refine AI (Ip (AZ ⟨_,rfl,"dict_keyiterator",_,⟨_,CD _ rfl,rfl⟩,HL.lookup,?_⟩))
 simpa [rawInt] using hQ
theorem T2 {it d:Addr}{i n ep:Nat}{od:Obj}{es:Array DictEntry}{en:DictEntry}{Q:Option Value->Shared->Prop} (hit:s.heap.IsKeyIter it d i n ep) (hod:s.heap.get? d=some od) (hdd:od.data=.dict es ep)
  (hsz:es.size=n) (hx:es[i]?=some en) (hQ:∀h',h'.IsKeyIter it d (i+1) n ep->Ig it s.heap h'->Q (some en.key) { s with heap:=h' }):wpAny (model prog w) A (pyNext (.ref it)) Q E s:=by
 obtain⟨o,ho,hc,hd⟩:=id hit
 unfold pyNext
 refine AI (Mt (Io (name:=EV "__next__") hit.typeIs HL
  (Gf HL hit.typeIs Yv ?_ (Ys _))))
 refine AI (AZ ?_)
 refine AI ?_
 refine AI ?_
 first | refine AI (M0 hit.typeIs (AZ ?_)) | refine AI (M5 hit.typeIs (AZ ?_))
 refine AI (wpAny_fieldsOf ho hd ?_)
 have hown:Yk "dict_keyiterator"=false:=by decide
 simp only[hown,Dz,if_false]
 show wpAny _ _ (if (Ab d==Ca)=true then _ else _) _ _ s
 rw[JJx (show ¬((Ab d==Ca)=true) from A8)]
 refine AI (AZ ?_)
 refine AI (Mv hod hdd ?_)
 rw[JJx (by rw[hsz];simp)]
 refine AI (AZ ?_)
 refine AI (RC hod hdd ?_)
 rw[JJx (by simp)]
 refine AZ ?_
 obtain⟨hlt',hen⟩:=Array.getElem?_eq_some_iff.mp hx
 simp only[show ¬((i:Int) < 0) from by omega,if_false,HE,Jq hlt']
 refine AI ?_
 first | refine AI (M0 hit.typeIs (AZ ?_)) | refine AI (M5 hit.typeIs (AZ ?_))
 refine AI (ZW hit.typeIs ?_)
 show wpAny _ _ (setField (.ref it) 1 (rawInt ((i:Int)+1)) >>= _) _ _ s
 refine AI (Mz ho hd (by simp) ?_)
 have hit':(s.heap.update it (Obj.mapFields (·.setIfInBounds 1 (rawInt ((i:Int)+1))))).IsKeyIter it d (i+1) n ep :=
  ⟨_,Y4 _ ho (Y9 (Mn hd _)),(Y8 ..).trans hc,by rw[Mn hd];simp[rawInt]⟩
 refine AI (KQ ?_)
 refine AI (ZW (s:={ s with heap:=s.heap.update it (Obj.mapFields (·.setIfInBounds 1 (rawInt ((i:Int)+1)))) }) hit'.typeIs ?_)
 show wpAny _ _ (pure es[i].key) _ _ _
 rw[hen]
 exact AZ (AZ ⟨_,rfl,AZ (hQ _ hit' (Ih ..))⟩)
theorem OJ {it d:Addr}{i n ep:Nat}{od:Obj}{es:Array DictEntry}{Q:Option Value->Shared->Prop} (hh:A.handled=none) (hit:s.heap.IsKeyIter it d i n ep) (hod:s.heap.get? d=some od) (hdd:od.data=.dict es ep)
  (hsz:es.size=n) (hge:n<=i) (hQ:∀h',Heap.ExtBut it s.heap h'->Q none { s with heap:=h' }):wpAny (model prog w) A (pyNext (.ref it)) Q E s:=by
 obtain⟨o,ho,hc,hd⟩:=id hit
 unfold pyNext
 refine AI (Mt (Io (name:=EV "__next__") hit.typeIs HL
  (Gf HL hit.typeIs Yv ?_ (Ys _))))
 refine AI (AZ ?_)
 refine AI ?_
 refine AI ?_
 first | refine AI (M0 hit.typeIs (AZ ?_)) | refine AI (M5 hit.typeIs (AZ ?_))
 refine AI (wpAny_fieldsOf ho hd ?_)
 have hown:Yk "dict_keyiterator"=false:=by decide
 simp only[hown,Dz,if_false]
 show wpAny _ _ (if (Ab d==Ca)=true then _ else _) _ _ s
 rw[JJx (show ¬((Ab d==Ca)=true) from A8)]
 refine AI (AZ ?_)
 refine AI (Mv hod hdd ?_)
 rw[JJx (by rw[hsz];simp)]
 refine AI (AZ ?_)
 refine AI (RC hod hdd ?_)
 rw[JJx (by simp)]
 refine AZ ?_
 have hge':es.size<=i:=by rw[hsz];exact hge
 simp only[show ¬((i:Int) < 0) from by omega,if_false,HE,Pq hge']
 refine AI ?_
 first | refine AI (M0 hit.typeIs (AZ ?_)) | refine AI (M5 hit.typeIs (AZ ?_))
 show wpAny _ _ (setField (.ref it) 0 .none >>= _) _ _ s
 refine AI (Mz ho hd (by simp) ?_)
 show wpAny _ _ (newExc (.type "StopIteration") [] >>= _) _ _ _
 refine AI ?_
 simp only[newExc,newTuple]
 refine AI (Ip ?_ (by size_fits))
 refine AI (m:=firstArgMember _ _) (RG (a:=Ca) (by first | rfl | (simp only[firstArgMember];rfl)) ?_)
 refine Ip ?_ (by size_fits)
 simp only[raiseNew]
 refine AI (wpAny_handled ?_)
 rw[show A.in1.handled=none from hh]
 refine AI (AZ (wpAny_throw ?_))
 refine AI (wpAny_isInstance (T:="StopIteration") (b:=true) ⟨_,CD _ rfl,rfl⟩ isSubtype_stop ?_)
 exact AZ (hQ _ (((Ih ..).extBut.push _).push _))
end
theorem cK {κ:Type}{kvs:List (κ×V)}{vs:List (κ×Value)} (h:KV kvs vs):∀{i:Nat}{k:κ}{v:V},kvs[i]?=some (k,v)->∃u,vs[i]?=some (k,u)/\RelV v u:=by
 unfold KV at h
 induction h with
 | nil=>intro i k v e;simp at e
 | @cons a b l₁ l₂ r t ih =>
  intro i k v e
  cases i with
  | zero =>
   simp only[QF,Mb] at e
   subst e
   refine⟨b.2,?_,r.2⟩
   simp only[QF]
   exact congrArg some (Prod.ext r.1.symm rfl)
  | succ j =>
   simp only[YN] at e ⊢
   exact ih e
theorem dh {α β:Type}{G:α->β->Prop}{l₁:List α}{l₂:List β} (h:Paired G l₁ l₂):∀{i:Nat}{a:α},l₁[i]?=some a->∃b,l₂[i]?=some b/\G a b:=by
 induction h with
 | nil=>intro i a e;simp at e
 | @cons a b l₁ l₂ r t ih =>
  intro i a' e
  cases i with
  | zero =>
   simp only[QF,Mb] at e
   subst e
   exact⟨b,rfl,r⟩
  | succ j =>
   simp only[YN] at e ⊢
   exact ih e
theorem ej {k:Key}{u:Value} (h:GB k u=true):RelV (kV k) u:=by
 rcases Ex h with ⟨i,t,rfl,rfl⟩ | ⟨x,t,rfl,rfl⟩
 .exact⟨t,rfl⟩
 .exact⟨t,rfl⟩
section
variable {X:Cx}{pins:List (Addr×Obj)}{σ:St}{H:Hp}{s:Shared}{d:Addr}{o:Obj}
theorem Inv.frzK {kvs:List (Key×V)} (I:Inv X pins σ H s) (h:H d=some (.frz o (.dK kvs))):
  (d==sysModules)=false/\s.heap.get? d=some o/\o.ExactDict/\∃(es:Array DictEntry) (ep:Nat) (vs:List (Key×Value)),o.data=.dict es ep/\es.size=kvs.length/\KV kvs vs/\s.heap.DictAt (Cz X.prog X.w) d vs ep:=by
 obtain⟨hd,z,hs,vs,kv,o',es,ep,ho,hx,hdt,r⟩:=I.hok d _ h
 rw[hd] at ho
 cases ho
 refine⟨hs,hd,hx,es,ep,vs,hdt,?_,kv,o,es,hd,hx,hdt,r⟩
 have l1:=r.2.1.length
 have l2:kvs.length=vs.length:=GZ kv
 rw[G8] at l1
 omega
theorem Inv.frzT {kvs:List (List Key×V)} (I:Inv X pins σ H s) (h:H d=some (.frz o (.dT kvs))):
  (d==sysModules)=false/\s.heap.get? d=some o/\o.ExactDict/\∃(es:Array DictEntry) (ep:Nat),o.data=.dict es ep/\es.size=kvs.length/\
   ∀(i:Nat) (k:List Key) (v:V),kvs[i]?=some (k,v)->∃(en:DictEntry) (q:Addr),es[i]?=some en/\en.key=.ref q/\H q=some (.tup (k.map kV)):=by
 obtain⟨hd,z,hs,xs,pr,o',es,ep,ho,hx,hdt,he,_⟩:=I.hok d _ h
 rw[hd] at ho
 cases ho
 refine⟨hs,hd,hx,es,ep,hdt,?_,fun i k v e=>?_⟩
 .have l1:es.size=xs.length:=size_of_entries he
  have l2:kvs.length=xs.length:=GZ pr
  omega
 .obtain⟨b,hb,e1,e2,_⟩:=dh pr e
  have q:=entry_at he i
  rw[hb] at q
  exact⟨_,b.2.1,q,rfl,e2⟩
end
def Itk (d:Addr) (o:Obj) (kvs:List (Key×V)):It :=
 ⟨fun i H=>H d=some (.frz o (.dK kvs))/\i < kvs.length,fun i H x H'=>H'=H/\∃k v,kvs[i]?=some (k,v)/\x=kV k,fun i H=>H d=some (.frz o (.dK kvs))/\kvs.length<=i⟩
def RU (d:Addr) (o:Obj) (kvs:List (List Key×V)):It :=
 ⟨fun i H=>H d=some (.frz o (.dT kvs))/\i < kvs.length,fun i H x H'=>H'=H/\∃(k:List Key) (v:V) (q:Addr),kvs[i]?=some (k,v)/\x=.ref q/\H q=some (.tup (k.map kV)),fun i H=>H d=some (.frz o (.dT kvs))/\kvs.length<=i⟩
theorem Ks {o:Obj}{es es':Array DictEntry}{ep ep':Nat} (h:o.data=.dict es ep) (h':o.data=.dict es' ep'):es'=es/\ep'=ep:=by
 rw[h] at h'
 cases h'
 exact⟨rfl,rfl⟩
section
variable {P:Program}{w:World}{K:AD}{tg:Expr}{d:Addr}{o:Obj}{es:Array DictEntry}{ep:Nat}
theorem iN {kvs:List (Key×V)} (it:Addr) (hod:o.data=.dict es ep):Et P w K tg (Itk d o kvs) [it] it (fun i h=>h.IsKeyIter it d i kvs.length ep) where
 mem:=by simp
 obj:=fun i h st b hb=>by
  have e:b=it:=by simpa using hb
  subst e
  obtain⟨oi,e,c,dd⟩:=st
  exact⟨oi,e,fun v z=>by rw[dd] at z;cases z⟩
 keep:=fun i h h' st k=>st.at fun oi e=>k it (by simp) oi e
 item:=by
  intro X hP hw hK hc i pins s σ H E I hf st hg
  subst hP hw hK
  obtain⟨hd,hi⟩:=hg
  obtain⟨f0,f1,f2,f3,f4,f5⟩:=hf it (by simp)
  obtain⟨hs,hgd,hx,es',ep',vs,hdt,hsz,kv,hm⟩:=I.frzK hd
  obtain⟨rfl,rfl⟩:=Ks hod hdt
  obtain⟨⟨k,v⟩,hkv⟩:∃p,kvs[i]?=some p:=⟨kvs[i],Ba hi⟩
  obtain⟨u,hu,ru⟩:=cK kv hkv
  have hl:kvs.length=vs.length:=GZ kv
  rw[hl] at st
  refine wpAny_pyNext_dict_item st hm hu fun key h' hkey st' sb=>?_
  have I1:Inv X pins σ H { s with heap:=h' }:=I.turned (t':=s.toks) (fun b ob hb e=>(sb.2 b hb).trans e) f0 f1 f3 f4 f5
  obtain⟨oi,e,c,dd⟩:=id st'
  refine⟨key,rfl,Hc (s:={ s with heap:=h' }) e c dd (by decide) ⟨kV k,H,I1,ej (show GB k key=true from hkey),⟨rfl,k,v,hkv,rfl⟩,?_,fun b hb=>(hf b hb).1⟩⟩
  show h'.IsKeyIter it d (i+1) kvs.length _
  rw[hl]
  exact st'
 done:=by
  intro X hP hw hK hc i pins s σ H E I hf st hg
  subst hP hw hK
  obtain⟨hd,hi⟩:=hg
  obtain⟨f0,f1,f2,f3,f4,f5⟩:=hf it (by simp)
  obtain⟨hs,hgd,hx,es',ep',vs,hdt,hsz,kv,hm⟩:=I.frzK hd
  obtain⟨rfl,rfl⟩:=Ks hod hdt
  exact OJ (I.ok.hd hc) st hgd hdt hsz hi fun h' eb=>⟨rfl,I.turned (t':=s.toks) (fun b ob hb e=>eb b ob hb e) f0 f1 f3 f4 f5⟩
 self:=fun A i s Q E st h=>wpAny_pyIter_keyiter st h
theorem iO {kvs:List (List Key×V)} (it:Addr) (hod:o.data=.dict es ep):Et P w K tg (RU d o kvs) [it] it (fun i h=>h.IsKeyIter it d i kvs.length ep) where
 mem:=by simp
 obj:=fun i h st b hb=>by
  have e:b=it:=by simpa using hb
  subst e
  obtain⟨oi,e,c,dd⟩:=st
  exact⟨oi,e,fun v z=>by rw[dd] at z;cases z⟩
 keep:=fun i h h' st k=>st.at fun oi e=>k it (by simp) oi e
 item:=by
  intro X hP hw hK hc i pins s σ H E I hf st hg
  subst hP hw hK
  obtain⟨hd,hi⟩:=hg
  obtain⟨f0,f1,f2,f3,f4,f5⟩:=hf it (by simp)
  obtain⟨hs,hgd,hx,es',ep',hdt,hsz,ent⟩:=I.frzT hd
  obtain⟨rfl,rfl⟩:=Ks hod hdt
  obtain⟨⟨k,v⟩,hkv⟩:∃p,kvs[i]?=some p:=⟨kvs[i],Ba hi⟩
  obtain⟨en,q,hen,hkey,hq⟩:=ent i k v hkv
  refine T2 st hgd hdt hsz hen fun h' st' sb=>?_
  have I1:Inv X pins σ H { s with heap:=h' }:=I.turned (t':=s.toks) (fun b ob hb e=>(sb.2 b hb).trans e) f0 f1 f3 f4 f5
  obtain⟨oi,e,c,dd⟩:=id st'
  exact⟨en.key,rfl,Hc (s:={ s with heap:=h' }) e c dd (by decide) ⟨.ref q,H,I1,hkey,⟨rfl,k,v,q,hkv,rfl,hq⟩,st',fun b hb=>(hf b hb).1⟩⟩
 done:=by
  intro X hP hw hK hc i pins s σ H E I hf st hg
  subst hP hw hK
  obtain⟨hd,hi⟩:=hg
  obtain⟨f0,f1,f2,f3,f4,f5⟩:=hf it (by simp)
  obtain⟨hs,hgd,hx,es',ep',hdt,hsz,ent⟩:=I.frzT hd
  obtain⟨rfl,rfl⟩:=Ks hod hdt
  exact OJ (I.ok.hd hc) st hgd hdt hsz hi fun h' eb=>⟨rfl,I.turned (t':=s.toks) (fun b ob hb e=>eb b ob hb e) f0 f1 f3 f4 f5⟩
 self:=fun A i s Q E st h=>by
  refine RH st.typeIs Mj (Gf Mj st.typeIs Yu ?_ (Yr _))
  show wpAny _ _ (ret (.ref it)) _ _ s
  exact AZ ⟨_,rfl,"dict_keyiterator",_,st.typeIs,HL.lookup,h⟩
end
def bY (td:TE):TI:=fun σ H R=>td σ H fun x H1=>∃d o,x=.ref d/\((∃kvs,H1 d=some (.frz o (.dK kvs))/\R (Itk d o kvs) H1)\/∃kvs,H1 d=some (.frz o (.dT kvs))/\R (RU d o kvs) H1)
section
variable {X:Cx}{tg e:Expr}{td:TE}{apos cpos:Pos}
theorem US (he:PE X e td):PI X tg e (bY td):=by
 intro pins s σ H R I h
 refine thn (he pins s σ H _ I h) fun u s1 ⟨x,H1,I1,rx,d,o,ex,q⟩=>?_
 subst ex
 obtain rfl:u=Ab d:=rx
 rcases q with ⟨kvs,hd,q⟩ | ⟨kvs,hd,q⟩
 .obtain⟨hs,hgd,hx,es,ep,vs,hdt,hsz,kv,hm⟩:=I1.frzK hd
  refine N1 hs hgd hx hdt (JY (tk:=s1.toks) I1 _ (iN _ hdt) ⟨_,CD _ rfl,rfl,?_⟩ q)
  rw[hsz] <;> rfl
 .obtain⟨hs,hgd,hx,es,ep,hdt,hsz,ent⟩:=I1.frzT hd
  refine N1 hs hgd hx hdt (JY (tk:=s1.toks) I1 _ (iO _ hdt) ⟨_,CD _ rfl,rfl,?_⟩ q)
  rw[hsz] <;> rfl
end
def Ite (K:AD) (a:Addr):It :=
 ⟨fun i H=>∃(xs:List V) (x:V),SqL K H a xs/\xs[i]?=some x,fun i H v H'=>∃T x,v=.ref T/\H T=none/\H'=upd H T (.tup [.int (i:Nat),x])/\∀xs,SqL K H a xs->xs[i]?=some x,fun i H=>∃xs:List V,SqL K H a xs/\xs.length<=i⟩
theorem iL {P:Program}{w:World}{K:AD}{elts:List Expr}{kk:Nat}{tpos:Pos} (a e it:Addr):
  Et P w K (.Tuple elts kk tpos) (Ite K a) [e,it] e (fun i h=>(∃old,IsEnum h e it ((i:Nat):Int) old)/\h.IsListIter it a i/\e≠it) where
 mem:=by simp
 obj:=fun i h st b hb=>by
  obtain⟨⟨old,he⟩,⟨o,ho,hc,hd⟩,_⟩:=st
  have e':b=e\/b=it:=by simpa using hb
  rcases e' with z | z
  .rw[z];exact⟨_,he,fun v q=>nomatch q⟩
  .rw[z];exact⟨o,ho,fun v q=>by rw[hd] at q;cases q⟩
 keep:=fun i h h' st k=>let ⟨⟨old,he⟩,hi,hne⟩:=st;⟨⟨old,k e (by simp) _ he⟩,hi.at fun o q=>k it (by simp) o q,hne⟩
 item:=by
  intro X hP hw hK hc i pins s σ H E I hf st hg
  subst hP hw hK
  obtain⟨⟨old,he⟩,hit,hne⟩:=st
  obtain⟨xs,x,hq,hx⟩:=hg
  obtain⟨its,rv,p,hz⟩:=I.list hq
  obtain⟨u,hu,ru⟩:=rv.get hx
  have hel:e < s.heap.objs.size:=BJ he
  have hil:it < s.heap.objs.size:=by obtain⟨_,q,_⟩:=hit;exact BJ q
  refine wpAny_pyNext_enum_item he hit p.isList (x:=u) (by simpa using hu) hne fun h' ho hit' hT hsz hk=>?_
  refine⟨_,rfl,ZY (s:={ s with heap:=h',toks:=s.toks+1 }) ho fun h'' he' sb=>?_⟩
  have hT2:h''.get? s.heap.objs.size=some { cls:=.type "tuple",data:=.seq #[.int i s.toks,u] }:=(sb.2 _ (KA hel)).trans hT
  have new:ObjOk X.prog X.w (upd H s.heap.objs.size (.tup [.int (i:Nat),x])) h'' s.heap.objs.size (.tup [.int (i:Nat),x]) :=
   ⟨by show 2<=sizeLine;decide,[.int i s.toks,u],.cons ⟨_,rfl⟩ (.cons ru .nil),⟨_,hT2,rfl,_,rfl⟩⟩
  have I1:Inv X pins σ (upd H s.heap.objs.size (.tup [.int (i:Nat),x])) { s with heap:=h'',toks:=s.toks+1 } :=
   I.turnedNew (ch:=[e,it]) (fun b ob hb q=>(sb.2 b (fun z=>hb (by simp[z]))).trans (hk b ob (fun z=>hb (by simp[z])) (fun z=>hb (by simp[z])) q)) hf (Aa _) new
  refine⟨.ref s.heap.objs.size,_,I1,rfl,⟨_,x,rfl,I.hok.fresh (Aa _),rfl,fun ys hy=>by rw[I.list_inj hy hq];exact hx⟩,⟨⟨u,?_⟩,hit'.at fun o q=>(sb.2 it (Ar hne)).trans q,hne⟩,fun b hb=>?_⟩
  .have e1:((i+1:Nat):Int)=(i:Int)+1:=by omega
   rw[e1];exact he'
  .have hb':b < s.heap.objs.size:=by
    have e':b=e\/b=it:=by simpa using hb
    rcases e' with z | z
    .rw[z];exact hel
    .rw[z];exact hil
   rw[AF (B1 hb')]
   exact(hf b hb).1
 done:=by
  intro X hP hw hK hc i pins s σ H E I hf st hg
  subst hP hw hK
  obtain⟨⟨old,he⟩,hit,hne⟩:=st
  obtain⟨xs,hq,hx⟩:=hg
  obtain⟨its,rv,p,hz⟩:=I.list hq
  obtain⟨f0,f1,f2,f3,f4,f5⟩:=hf it (by simp)
  have hl:=rv.length
  exact wpAny_pyNext_enum_end (I.ok.hd hc) he hit p.isList (by simp;omega) fun h' eb=>⟨rfl,I.turned (t':=s.toks) (fun b o hb q=>eb b o hb q) f0 f1 f3 f4 f5⟩
 self:=fun A i s Q E st h=>let ⟨⟨_,he⟩,_⟩:=st;Mw he h
def bW (K:AD) (ta:TA):TI:=fun σ H R=>ta σ H fun vs H1=>∃a xs,vs=[.ref a]/\SqL K H1 a xs/\R (Ite K a) H1
theorem d8 {X:Cx}{e:Expr}{ta:TA}{p pos tpos:Pos}{elts:List Expr}{kk:Nat} (hg:Gl X "enumerate") (hm:X.mg "enumerate"=none) (ha:PA X [e] ta) (hs:starEach [e] X.env=[(false,eval e X.env)]:=by rfl):
  PI X (.Tuple elts kk tpos) (.Call (.Name "enumerate" p) [e] [] pos) (bW X.K ta):=by
 intro pins s σ H R I h
 refine Call_ (G0 I hg hm boot_enumerate (KG (thn (ha pos pins s σ H _ I h) fun us s1 ⟨vs,H1,I1,r1,q1⟩=>?_) hs rfl))
 obtain⟨a,xs,ex,hq,q⟩:=q1
 subst ex
 cases r1 with
 | cons r rr =>
  cases rr
  cases r
  obtain⟨its,rv,p',hz⟩:=I1.list hq
  refine call_enumerate_list p'.isList fun h' he hit hsz hk=>Mw he ?_
  have I2:Inv X pins σ H1 { s1 with heap:=h' }:=I1.kept (t':=s1.toks) hk
  refine⟨s1.heap.objs.size+1,[s1.heap.objs.size+1,s1.heap.objs.size],_,_,H1,rfl,I2,iL a (s1.heap.objs.size+1) s1.heap.objs.size,⟨⟨.none,he⟩,hit,YZ _⟩,fun b hb=>?_,q⟩
  have e':b=s1.heap.objs.size+1\/b=s1.heap.objs.size:=by simpa using hb
  have hle:s1.heap.objs.size<=b:=by
   rcases e' with z | z
   .rw[z];exact QT _ _
   .rw[z];exact Aa _
  exact I1.fpOk hle (I1.hok.fresh hle)
end L2
namespace Bits
open PySem PyProof.Rows
end Bits
namespace TL
open PySem PySem.Builtin PySem.Builtin.Str PySem.StrLaws
abbrev tl (x:Str):List Nat:=x.cps.toList
def pre (S l:List Nat):Bool:=l.take S.length==S
def par (S:List Nat):List Nat->List Nat->Option (List Nat×List Nat)
 | _,[]=>none
 | acc,c::r=>if pre S (c::r)=true then some (acc,(c::r).drop S.length) else par S (acc++[c]) r
end TL
namespace L2
open PySem PySem.Spec PyProof.Rows
section
variable {X:Cx}{pins:List (Addr×Obj)}{σ:St}{H:Hp}{s:Shared}{Q:VK}
end
section
variable {X:Cx}
end
section
variable {X:Cx}{o e:Expr}{to te:TE}
end
end L2
namespace L2
open PySem PySem.Spec PyProof.Rows
section
variable {X:Cx}
end
end L2
namespace Att
open PySem PySem.W PySem.Calls PyProof.Rows
theorem bg {P:Params}{h:Heap}:∀(ns:List Int) (vs:List Value),WellAll P h vs (ns.map WData.int)->IntsAre vs ns:=by
 intro ns
 induction ns with
 | nil =>
  intro vs w
  rw[GW] at w
  cases w
  exact .nil
 | cons n ns ih =>
  intro vs w
  rw[Aq] at w
  cases w with
  | cons a b =>
   cases a
   exact .cons _ _ (ih _ b)
theorem fw {l:OpenLaw}{n:Nat} (hn:l.most=some n) {P:Params}{h:Heap}{args:List WData}{vals:List Value}
  (hpre:l.row.toRowW.claim.pre args=true) (hwl:WellAll P h vals args):
  ∃a vs ns,vals=[Ab a]/\args=[WData.list (ns.map WData.int)]/\h.get? a=some { cls:=.type "list",data:=.seq vs.toArray }/\IntsAre vs ns/\ns.length<=n:=by
 have hsh:WShape.hasAll [] args [.list .int]=true:=(pre_splitW hpre).1
 have hc:l.pre.holds [] { args:=args }=true:=(pre_splitW hpre).2
 obtain⟨d,r,rfl,h1,h2⟩:=hasAllW_cons hsh
 obtain rfl:=hasAllW_nil h2
 obtain⟨xs,rfl,h3⟩:=hasW_list h1
 obtain⟨ns,rfl⟩:=items_int h3
 have hlen:ns.length<=n:=by
  unfold OpenLaw.pre at hc
  have h4:(WTm.not (.lt (.lit (.int (n:Int))) (.len (.arg 0)))).holds [] { args:=[.list (ns.map .int)] }=true:=by
   have h4:=(holds_andW hc).1
   rw[hn] at h4
   exact h4
  have h5:=condW_of h4 (w_not (w_lt w_lit (w_len_list (w_arg rfl))))
  rw[AH] at h5
  refine Nat.le_of_not_lt fun q=>?_
  have q':(n:Int) < ((ns.length:Nat):Int):=by omega
  first
   | (rw[JJk q'] at h5;exact absurd h5 (by decide))
   | (simp at h5;omega)
 cases hwl with
 | cons w1 w2 =>
  cases w2
  cases w1 with
  | list ho hall=>exact⟨_,_,ns,rfl,rfl,ho,bg ns _ hall,hlen⟩
theorem eG (l:OpenLaw) (args:List WData):l.row.toRowW.claim.post args (.bool true) args=true :=
 postW_of (r:=l.row.toRowW) (X:=(true==true))
  (show WShape.has [] (.bool true) .bool=true by first | rfl | decide | simp[WShape.has,WShape.arms,WShape.armsAll])
  (show(WTm.eq .res (.lit (.bool true))).value [] { args:=args,res:=some (.bool true),after:=args }=some (.bool (true==true)) from w_eq_bool (w_res rfl) w_lit) rfl
theorem attach_call {l:OpenLaw}{n:Nat}{q:Program}{loose:List Str}{XP:(Str->Option Value)->Heap->Prop}{YP:World->Heap->Prop}{d:DefRec}
  (hn:l.most=some n) (hdf:d.params.defaults=[])
  (call:∀(w:World) (s₀ s₁:Shared) (mg mb:Str->Option Value) (fa:Addr) (o:Obj) (pm cd doc:Value) (a:Addr) (vs:List Value) (ns:List Int),
   Ground q loose [] XP w s₀ mg mb s₁.heap->YP w s₁.heap->
   s₁.heap.get? fa=some o->o.data=.func (docDef d.name d.params d.body d.scope pm cd doc)->s₁.heap.CodeRec cd d.name->mg d.name=some (.ref fa)->
   s₁.heap.get? a=some { cls:=.type "list",data:=.seq vs.toArray }->IntsAre vs ns->ns.length<=n->s₁.gens=#[]->
   codeAny (model l.prog w) callerA (.call (.ref fa) ⟨[.ref a],[]⟩) (fun r s'=>r=.ok (.ret (.bool true))/\OldK s₁.heap s'.heap/\s'.os=s₁.os/\AllBare s'.gens) s₁):
  WalkO q loose XP YP l.row.toRowW d [] (fun f vs=>Q9 f vs):=by
 intro w s₀ s₁ mg mb G Y fa o pm cd doc dV kV ho hd hcd hD hmg hg args vals as hpre hlay hrd hwl hlo
 obtain rfl:dV=.none:=Dflts.none hD hdf
 obtain rfl:kV=.none:=Dflts.noKw hD
 obtain⟨a,vs,ns,rfl,rfl,hobj,hints,hlen⟩:=fw hn hpre hwl
 refine enter_call (Gb (call w s₀ s₁ mg mb fa o pm cd doc a vs ns G Y ho (fd_plain hd) hcd hmg hobj hints hlen hg) fun r s' hq=>?_)
 obtain⟨rfl,h2,h3,h4⟩:=hq
 exact⟨.inl ⟨.bool true,.bool true,[],rfl,fun _=>rfl,.bool true,eG l _,fun _=>⟨YC,fun _ hm=>(nomatch hm)⟩⟩,h2,h3,h4⟩
section
variable {prog:Program}{w:World}{A:Around}{E:Value->Shared->Prop}{s:Shared}{K:Frag}
end
end Att
namespace L2
open PySem PySem.Spec PyProof.Rows
theorem Xv:∀{vs:List Value}{ns:List Int},IntsAre vs ns->Vals (ns.map V.int) vs
 | _,_,.nil=>.nil
 | _,_,.cons n t h=>.cons ⟨t,rfl⟩ (Xv h)
def NG (H:Hp):Prop:=∀b,H b=none\/∃o xs,H b=some (.frz o (.lst xs))
theorem cO {P:Program}{w:World}{K:AD}{mg mb:Str->Option Value}{CX:CXT}{k:Nat}{fa a:Addr}{fd:FuncData}{x:Str}{sp:Sp}{s₁:Shared}{vs:List Value}{ns:List Int}
  (KX:K.In s₁.heap) (hns:s₁.heap.Ns mainGlobals mg) (hb:s₁.heap.Ns builtinsNs mb) (hbb:∀x:Str,x≠"__name__"->mb x=bootBuiltins x) (hlim:s₁.heap.NoLimit) (hg:s₁.gens=#[])
  (ha:s₁.heap.get? a=some { cls:=.type "list",data:=.seq vs.toArray }) (hi:IntsAre vs ns) (hl:ns.length<=sizeLine) (hr:Room k callerA)
  (F:∀base:Heap,K.In base->base.Ns mainGlobals mg->FnOk P w K mg base CX k fa fd [x] sp) (hbind:∀(s:Shared) (u:Value),BindsTo s fd ⟨[u],[]⟩ [(x,u)])
  (hsp:∀H:Hp,NG H->SqL K H a (ns.map V.int)->sp [.ref a] H (fun v _=>v=.bl true) fun _ _ _=>False)
  (hCX:∀H e s',CX [] H s₁ (fun _ _ _=>False) e s'->False):
  codeAny (model P w) callerA (.call (.ref fa) ⟨[.ref a],[]⟩) (fun r s'=>r=.ok (.ret (.bool true))/\OldK s₁.heap s'.heap/\s'.os=s₁.os/\AllBare s'.gens) s₁:=by
 have rv:=Xv hi
 have lenV:=hi.length
 have core:∀H:Hp,NG H->SqL K H a (ns.map V.int)->HOk P w H s₁.heap->(∀b,H b≠none->b=a)->(H a≠none->K.lookup a=none)->
   codeAny (model P w) callerA (.call (.ref fa) ⟨[.ref a],[]⟩) (fun r s'=>r=.ok (.ret (.bool true))/\OldK s₁.heap s'.heap/\s'.os=s₁.os/\AllBare s'.gens) s₁:=by
  intro H hO hS hok hA hK
  have base_of:∀{b:Addr} {o:Obj},s₁.heap.get? b=some o->H b=none->(C5 s₁.heap H).get? b=some o:=fun e n=>S4 e n
  have noA:∀{b:Addr} {o:Obj} {es:Array DictEntry} {ep:Nat},s₁.heap.get? b=some o->o.data=.dict es ep->H b=none:=fun {b o es ep} e d=>by
   cases q:H b with
   | none=>rfl
   | some u =>
    have e':b=a:=hA b (by rw[q];simp)
    subst e'
    rw[ha] at e;cases e
    have d':Data.seq vs.toArray _=Data.dict es ep:=d
    cases d'
  have nsK:∀{b:Addr} {m:Str->Option Value},s₁.heap.Ns b m->(C5 s₁.heap H).Ns b m:=fun {b m} ⟨o,es,ep,e,d,r⟩=>⟨o,es,ep,base_of e (noA e d),d,r⟩
  have hKb:K.In (C5 s₁.heap H):=fun b o e=>base_of (KX b o e) (by
   cases q:H b with
   | none=>rfl
   | some u =>
    have e':b=a:=hA b (by rw[q];simp)
    subst e'
    rw[hK (by rw[q];simp)] at e;cases e)
  have hM:Mod K mg (C5 s₁.heap H):=⟨hKb,nsK hns,⟨mb,nsK hb,hbb⟩,let ⟨mc,h1,h2⟩:=hlim;⟨mc,nsK h1,h2⟩⟩
  have e0:Env0 P w K mg (C5 s₁.heap H) callerA [] s₁ H:=⟨rfl,hM,fun b o e=>T8 e,J9 (S5 _ _),trivial,fun b hb=>absurd (show b∈([]:List Addr) from hb) (by simp),hok,.of_eq hg⟩
  refine Gb ((F _ hKb (nsK hns)).run callerA [] s₁ H ⟨[.ref a],[]⟩ [.ref a] [.ref a] _ _ hr e0 (hbind s₁ (.ref a)) (.cons rfl .nil) (hsp H hO hS)) fun r s' h=>?_
  cases r with
  | error e=>exact(hCX H e s' h).elim
  | ok fl =>
   cases fl with
   | next=>exact Bf h
   | brk=>exact Bf h
   | cont=>exact Bf h
   | ret u =>
    obtain⟨v,H',os,bare,un,hok',r',q⟩:=h
    have q':v=.bl true:=q
    subst q'
    obtain rfl:u=D6 true:=r'
    refine⟨rfl,OldK.of_keep fun b o e=>?_,os,bare⟩
    cases q:H b with
    | none=>exact un.keep b o e q (by intro z;exact absurd (show b∈([]:List Addr) from z) (by simp)) (by simp)
    | some u =>
     rcases hO b with z | ⟨ob,xs,z⟩
     .rw[q] at z;cases z
     .have z2:=un.frzs b ob _ z
      obtain⟨e1,_⟩:=hok b _ z
      obtain⟨e2,_⟩:=hok' b _ z2
      rw[e] at e1;cases e1
      exact e2
 cases hk:K.lookup a with
 | some o =>
  have e:=KX a o hk
  rw[ha] at e
  cases e
  refine core (fun _=>none) (fun _=>.inl rfl) (.inr ⟨_,vs.toArray,_,hk,rfl,rfl,rfl,by rw[Bc,lenV];exact hl,by simpa using rv⟩) (fun b u z=>by have z':(none:Option HO)=some u:=z;cases z') (fun b z=>absurd rfl z) fun z=>absurd rfl z
 | none =>
  refine core (fun b=>if b=a then some (.frz { cls:=.type "list",data:=.seq vs.toArray } (.lst (ns.map V.int))) else none) (fun b=>?_) (.inl (.inr ⟨{ cls:=.type "list",data:=.seq vs.toArray },JJz rfl⟩)) (fun b u z=>?_) (fun b z=>?_) fun _=>hk
  .by_cases hb:b=a
   .exact .inr ⟨_,_,JJz hb⟩
   .exact .inl (JJx hb)
  .by_cases hb:b=a
   .have z':=(JJz hb).symm.trans z
    cases z'
    subst hb
    exact⟨ha,by rw[AH];exact hl,vs,_,rv,ha⟩
   .have z':=(JJx hb).symm.trans z
    cases z'
  .by_cases hb:b=a
   .exact hb
   .exact absurd (JJx hb) z
end L2
namespace L2
open PySem PySem.Spec PyProof.Rows
abbrev KOf {K:AD}{h:Heap} (_:K.In h):AD:=K
theorem walk_of {l:PySem.W.OpenLaw}{n k:Nat}{q:Program}{loose:List Str}{XP:(Str->Option Value)->Heap->Prop}{YP:World->Heap->Prop}{d:DefRec}{K:Params->AD}{CX:World->CXT}{sp:World->Sp}{x:Str}
  (hn:l.most=some n) (hn2:n<=sizeLine) (hdf:d.params.defaults=[]) (hr:Room k callerA)
  (hY:∀(w:World) (h:Heap),YP w h->(K w.params).In h)
  (F:∀(w:World) (mg:Str->Option Value) (fa:Addr) (h:Heap),(K w.params).In h->h.Ns mainGlobals mg->mg d.name=some (.ref fa)->
   ∃fd:FuncData,(∀(s:Shared) (u:Value),BindsTo s fd ⟨[u],[]⟩ [(x,u)])/\
    ∀base:Heap,(K w.params).In base->base.Ns mainGlobals mg->FnOk l.prog w (K w.params) mg base (CX w) k fa fd [x] (sp w))
  (hsp:∀(w:World) (H:Hp) (a:Addr) (ns:List Int),ns.length<=n->NG H->SqL (K w.params) H a (ns.map V.int)->sp w [.ref a] H (fun v _=>v=.bl true) fun _ _ _=>False)
  (hCX:∀(w:World) (H:Hp) (s:Shared) (e:Value) (s':Shared),CX w [] H s (fun _ _ _=>False) e s'->False):
  PySem.W.WalkO q loose XP YP l.row.toRowW d [] (fun f vs=>Q9 f vs):=by
 refine Att.attach_call hn hdf fun w s₀ s₁ mg mb fa o pm cd doc a vs ns G Y ho hd hcd hmg hobj hints hlen hg=>?_
 have KX:=hY w _ Y
 obtain⟨fd,hb,hF⟩:=F w mg fa _ KX G.T.g hmg
 exact cO KX G.T.g G.T.b G.T.builtins G.T.nolimit hg hobj hints (CW hlen hn2) hr hF hb (fun H hO hS=>hsp w H a ns hlen hO hS) fun H e s'=>hCX w H s₁ e s'
end L2
/- THE LAST THEOREM (shape;LID,My.* are yours):
 My.Adr: a structure of the addresses that your layer names (classes,functions);My.Txt K t: a structure (Prop) of the equations over K;
 My.txt_mk:{K} {implicit addresses ..} (e1:nsIn K mainGlobals "law"=some (some (.ref f))) (e2:K.lookup f=some ⟨oc,od,.func (fnOf "law" "law" params body scope dV kV doc pm an cdv ct),sl⟩) (e3:codeIn K cdv "law"=true) ..:∃t,My.Txt K t
set_option maxRecDepth 100000 in
set_option maxHeartbeats 0 in
theorem PySem.Challenge.cw_LID_holds : PySem.Challenge.rw_LID.Holds := by
 w_on;o_law;k_head;(case hw=>w_witness2)
 k_fill
 refine L2.walk_of (l:=PySem.Challenge.rw_LID) (n:=63) (k:=40) (x:="script") (CX:=fun w=>..) (sp:=fun _=>My.sp_law) rfl (by decide) rfl ⟨rfl,by decide,by decide⟩ (fun w h Y=>PySem.W.kIn_of Y) ?F ?S ?C
 case F =>
  intro w mg fa h KX G hmg
  have T:∃t,My.Txt (L2.KOf KX) t:=by
   dsimp only [L2.KOf]                          -- K must stand as «<heap const> w.params» for k_is
   refine' My.txt_mk ?e1 ?e2 ?e3 ..
   (case e1=>PySem.W.k_is)                    -- in the order: a name -> its address -> its object -> its parts
   (case e2=>PySem.W.k_is)
   ..
  obtain⟨t,T⟩:=T
  have e0:=hmg.symm.trans (HP KX G T.law)
  cases e0                                       -- fa is the law's own address
  exact⟨_,fun s u=>.of_eq rfl,fun base kb nb=>My.law_fn T kb nb⟩     -- if «.of_eq rfl» comes too early: refine' ⟨_,?b,fun base kb nb=>My.law_fn T kb nb⟩;exact fun s u=>.of_eq rfl
 case S=>exact fun w H a ns hl hO hS=>..
 case C=>exact ..
(the tactic k_is has no namespace: write k_is) -/
namespace L2
open PySem PySem.Spec PyProof.Rows
def De (s:Stmt) (j:Nat):Stmt:=match s with
 | .ClassDef _ _ _ body _ _ _ _ _ _ _=>body.getD j (.Pass ⟨0,0,0,0⟩)
 | _=>.Pass ⟨0,0,0,0⟩
def DD (s:Stmt):Arguments:=match s with
 | .FunctionDef _ a _ _ _ _ _ _ _ _=>a
 | _=>{ posonlyargs:=[],args:=[],vararg:=none,kwonlyargs:=[],kw_defaults:=[],kwarg:=none,defaults:=[] }
def Cq (s:Stmt):List Stmt:=match s with
 | .FunctionDef _ _ b _ _ _ _ _ _ _=>b
 | _=>[]
def AL (s:Stmt):Scope:=match s with
 | .FunctionDef _ _ _ _ _ _ sc _ _ _=>sc
 | _=>{ kind:=.function,names:=[],isGenerator:=false,isCoroutine:=false }
abbrev CX0:CXT:=fun _ _ _ _ _ _=>False
abbrev E0:XK:=fun _ _ _=>False
theorem Ho {X:Cx}:Gm CX0 X E0:=fun _ _ _ _ _ _ _ h=>h.elim
structure Fun (K:AD) (x qual:Str) (st:Stmt) (f:Addr) (fd:FuncData):Prop where
 ex:∃(oc:Value) (od:Option Addr) (kV doc pm:Value) (an:Option Addr) (cdv ct:Value) (osl:Array (Option Value)),
  fd=Il x qual (DD st) (Cq st) (AL st) .none kV doc pm an cdv ct/\K.lookup f=some ⟨oc,od,.func fd,osl⟩/\Qy K cdv qual=true
 kp:HN K (.ref f)=true
section
variable {P:Program}{w:World}{K:AD}{mg:Str->Option Value}{base:Heap}
theorem Fun.ok {x qual:Str}{st:Stmt}{f:Addr}{fd:FuncData}{N ps:List Str}{k:Nat}{sp:Sp} (F:Fun K x qual st f fd) (S:Ag N ps (AL st)) (len:∀vs H Q E,sp vs H Q E->vs.length=ps.length)
  (hbody:∀(cdv:Value) (A:Around) (outer:List Env) (s:Shared) (H:Hp) (vs:List V) (Q:VK) (E:XK),Room k (A.deeper (envOfC qual (AL st) s.heap.objs.size f cdv))->sp vs H Q E->
   ∃t,PSs (Eu CX0 P w K mg base N qual (AL st) f cdv A outer s H E).nox (Cq st) t/\t { nx:=fun _ H'=>Q .non H',rt:=Q } (start N vs) H):FnOk P w K mg base CX0 (k+1) f fd ps sp:=by
 obtain⟨oc,od,kV,doc,pm,an,cdv,ct,osl,rfl,lk,hcd⟩:=F.ex
 refine Sj lk hcd S len fun A outer s H vs Q E hr hsp=>?_
 obtain⟨t,h,q⟩:=hbody cdv A outer s H vs Q E hr hsp
 exact⟨t,h.nox,q⟩
theorem Fun.binds {x qual:Str}{st:Stmt}{f:Addr}{fd:FuncData}{ps:List Str} (F:Fun K x qual st f fd)
  (h:∀(kV doc pm:Value) (an:Option Addr) (cdv ct:Value) (us:List Value),us.length=ps.length->bindArgs (Il x qual (DD st) (Cq st) (AL st) .none kV doc pm an cdv ct) ⟨us,[]⟩=pure (ps.zip us)):Binds K fd ps []:=by
 obtain⟨oc,od,kV,doc,pm,an,cdv,ct,osl,rfl,lk,hcd⟩:=F.ex
 exact .all (h kV doc pm an cdv ct)
theorem Hb {x qual:Str}{st:Stmt}{f:Addr}{oc:Value}{od an:Option Addr}{osl:Array (Option Value)}{kV doc pm cdv ct:Value} (l:K.lookup f=some ⟨oc,od,.func (Il x qual (DD st) (Cq st) (AL st) .none kV doc pm an cdv ct),osl⟩)
 (c:Qy K cdv qual=true) (k:HN K (.ref f)=true):Fun K x qual st f (Il x qual (DD st) (Cq st) (AL st) .none kV doc pm an cdv ct):=⟨⟨oc,od,kV,doc,pm,an,cdv,ct,osl,rfl,l,c⟩,k⟩
end
theorem Ew {A:Around}{k:Nat} (hr:Room k A):A.units+1 < cLine:=Nat.lt_of_le_of_lt (QS (by decide:1<=64) _) hr.units
section
variable {X:Cx}
theorem pv (i:Nat) {x:Str}{pos:Pos} (hN:X.N[i]?=some x:=by rfl) (hv:Vis X.env.scope x:=by first | exact Ai rfl | exact ET (Ai rfl) | exact ET (ET rfl)) (hd:(x==("__debug__":Str))=false:=by decide)
 (hcd:(x==("__classdict__":Str))=false:=by decide):PE X (.Name x pos) (En i):=UP hN hv hd hcd
end
theorem K3 {A B:Prop} (h:B):if false=true then A else B:=by
 rw[JJx A8]
 exact h
theorem TJ {A B:Prop} (h:A):if true=true then A else B:=by
 rw[JJz rfl]
 exact h
theorem GA {c A B:Prop} [Decidable c] (h1:c->A) (h2:¬c->B):if c then A else B:=by
 by_cases h:c
 .rw[JJz h]
  exact h1 h
 .rw[JJx h]
  exact h2 h
theorem bo {c A B:Prop} [Decidable c] (hc:c) (h:B):if (!decide c)=true then A else B:=by
 rw[JJk hc]
 exact K3 h
def Same (H H':Hp):Prop:=∀b o,H b=some o->H' b=some o
theorem Same.refl (H:Hp):Same H H:=fun _ _ h=>h
theorem Same.trans {H H1 H2:Hp} (a:Same H H1) (b:Same H1 H2):Same H H2:=fun c o h=>b c o (a c o h)
theorem Same.free {H H':Hp} (e:Same H H') {l:Addr} (h:H' l=Ma):H l=Ma:=by
 cases q:H l with
 | none=>rfl
 | some o =>
  rw[e l o q] at h
  cases h
theorem Same.seq {K:AD}{H H':Hp}{a:Addr}{xs:List V} (e:Same H H') (h:SqL K H a xs):SqL K H' a xs:=by
 rcases h with (h | ⟨o,h⟩) | h
 .exact .inl (.inl (e _ _ h))
 .exact .inl (.inr ⟨o,e _ _ h⟩)
 .exact .inr h
section
variable {κ:Type} [DecidableEq κ]
end
theorem Zv {xs:List V}{z:Int}{j:Nat}{v:V} (e:z=(j:Int)) (h:xs[j]?=some v):atI xs z=some v:=by
 rw[e]
 exact CP h
theorem dC {α:Type}{l:List α} (hN:l.Nodup) {i j:Nat}{x:α} (a:l[i]?=some x) (b:l[j]?=some x):i=j:=by
 obtain⟨h1,e1⟩:=CJ.mp a
 obtain⟨h2,e2⟩:=CJ.mp b
 exact(QI hN).mp (e1.trans e2.symm)
theorem Same.made {H H1:Hp}{x dx C:Addr} (nx:H x=Ma) (nd:H dx=Ma) (k:∀b o,(upd (upd H dx (.own x)) x (.ins C dx [])) b=some o->b≠x->H1 b=some o):Same H H1:=fun b o e =>
 k b o (by rw[AF (Ac e nx),AF (Ac e nd)];exact e) (Ac e nx)
end L2
set_option maxHeartbeats 2000000
namespace L2
open PySem PySem.Spec PyProof.Rows
open PySem.W (WData Codec OpenSpec Well WellAll ReadsW ReadsAllW)
mutual
inductive Dw (K:AD) (H:Hp):V->WData->Prop
 | non:Dw K H .non .none
 | bl (b:Bool):Dw K H (.bl b) (.bool b)
 | int (i:Int):Dw K H (.int i) (.int i)
 | str (x:Str):Dw K H (.str x) (.str x)
 | byt (b:Array UInt8):Dw K H (.byt b) (.bytes b.toList)
 | lst {a:Addr} {xs:List V} {ds:List WData}:SqL K H a xs->Dn K H xs ds->Dw K H (.ref a) (.list ds)
 | tup {a:Addr} {xs:List V} {ds:List WData}:SqT K H a xs->Dn K H xs ds->Dw K H (.ref a) (.tuple ds)
inductive Dn (K:AD) (H:Hp):List V->List WData->Prop
 | nil:Dn K H [] []
 | cons {v:V} {vs:List V} {d:WData} {ds:List WData}:Dw K H v d->Dn K H vs ds->Dn K H (v::vs) (d::ds)
end
theorem dw_ints {K:AD}{H:Hp}:∀ns:List Int,Dn K H (ns.map V.int) (ns.map WData.int)
 | []=>.nil
 | n::r=>.cons (.int n) (dw_ints r)
theorem ints_dw {K:AD}{H:Hp}:∀(ns:List Int) (xs:List V),Dn K H xs (ns.map WData.int)->xs=ns.map V.int
 | [],xs,h=>by
  cases h
  rfl
 | n::r,xs,h=>by
  cases h with
  | cons h1 h2 =>
   cases h1
   rw[ints_dw r _ h2] <;> rfl
section
variable {P:Program}{w:World}{K:AD}{H:Hp}{h:Heap}{R:ZG}{cl:Str->Option Addr}
theorem gP {a:Addr}{xs:List V} (hok:HOk P w H h) (KX:K.In h) (q:SqL K H a xs):∃(its:List Value) (o:Obj) (n:Nat),Vals xs its/\h.get? a=some o/\o.cls=.type "list"/\o.data=.seq its.toArray n:=by
 rcases q with q | ⟨o,its,n,e,hc,_,hd,_,hv⟩
 .obtain⟨_,its,n,hv,e⟩:=(show ObjOk P w H h a (.lst xs) from q.ok hok)
  exact⟨its,_,n,hv,e,rfl,rfl⟩
 .exact⟨its.toList,o,n,hv,KX _ _ e,hc,by simp[hd]⟩
theorem gQ {a:Addr}{xs:List V} (hok:HOk P w H h) (KX:K.In h) (q:SqT K H a xs):∃(its:List Value) (o:Obj) (n:Nat),Vals xs its/\h.get? a=some o/\o.cls=.type "tuple"/\o.data=.seq its.toArray n:=by
 rcases q with q | ⟨o,its,n,e,hc,hd,_,hv⟩
 .obtain⟨_,its,hv,o,e,hc,n,hd⟩:=(show ObjOk P w H h a (.tup xs) from q.ok hok)
  exact⟨its,o,n,hv,e,hc,hd⟩
 .exact⟨its.toList,o,n,hv,KX _ _ e,hc,by simp[hd]⟩
mutual
theorem Dw.reads (hok:HOk P w H h) (KX:K.In h):∀(d:WData) (v:V) (u:Value),Dw K H v d->RelV v u->∃as,ReadsW R cl h u d as
 | .none,_,_,x,r=>by
  cases x
  cases r
  exact⟨_,ReadsW.none⟩
 | .bool b,_,_,x,r=>by
  cases x
  cases r
  exact⟨_,ReadsW.bool b⟩
 | .int i,_,_,x,r=>by
  cases x
  obtain⟨t,rfl⟩:=r
  exact⟨_,ReadsW.int i t⟩
 | .str s,_,_,x,r=>by
  cases x
  obtain⟨t,rfl⟩:=r
  exact⟨_,ReadsW.str s t⟩
 | .bytes b,_,_,x,r=>by
  cases x
  obtain⟨t,rfl⟩:=r
  exact⟨_,ReadsW.bytes _ t⟩
 | .list ds,_,_,x,r=>by
  cases x with
  | lst hs ha =>
   cases r
   obtain⟨its,o,n,rv,ho,hc,hd⟩:=gP hok KX hs
   obtain⟨as,hr⟩:=Dw.readsAll hok KX ds _ its ha rv
   exact⟨_,ReadsW.list ho hc hd hr⟩
 | .tuple ds,_,_,x,r=>by
  cases x with
  | tup hs ha =>
   cases r
   obtain⟨its,o,n,rv,ho,hc,hd⟩:=gQ hok KX hs
   obtain⟨as,hr⟩:=Dw.readsAll hok KX ds _ its ha rv
   exact⟨_,ReadsW.tuple ho hc hd hr⟩
 | .float _,_,_,x,_=>by cases x
 | .dict _,_,_,x,_=>by cases x
 | .bytearray _,_,_,x,_=>by cases x
 | .set _,_,_,x,_=>by cases x
 | .frozenset _,_,_,x,_=>by cases x
 | .obj _ _,_,_,x,_=>by cases x
theorem Dw.readsAll (hok:HOk P w H h) (KX:K.In h):∀(ds:List WData) (vs:List V) (us:List Value),Dn K H vs ds->Vals vs us->∃as,ReadsAllW R cl h us ds as
 | [],_,_,x,r=>by
  cases x
  cases r
  exact⟨_,ReadsAllW.nil⟩
 | d::ds,_,_,x,r=>by
  cases x with
  | cons h1 h2 =>
   cases r with
   | cons r1 r2 =>
    obtain⟨as,q1⟩:=Dw.reads hok KX d _ _ h1 r1
    obtain⟨bs,q2⟩:=Dw.readsAll hok KX ds _ _ h2 r2
    exact⟨_,ReadsAllW.cons q1 q2⟩
end
end
mutual
def plW:WData->Bool
 | .none=>true
 | .bool _=>true
 | .int _=>true
 | .str _=>true
 | .bytes _=>true
 | .list xs=>EF xs
 | .tuple xs=>EF xs
 | _=>false
def EF:List WData->Bool
 | []=>true
 | x::r=>plW x&&EF r
end
theorem UT {α:Type}{f:α->WData} (h:∀a,plW (f a)=true):∀l:List α,EF (l.map f)=true
 | []=>rfl
 | x::r=>by
  show(plW (f x)&&EF (r.map f))=true
  rw[h x,UT h r] <;> rfl
theorem GJ:∀(c:Codec) (a:c.denote),plW (c.enc a)=true
 | .unit,_=>rfl
 | .bool,_=>rfl
 | .int _ _,_=>rfl
 | .nat _ _,_=>rfl
 | .u8,_=>rfl
 | .bytes _ _,_=>rfl
 | .text _ _ _ _,_=>rfl
 | .list _ _ c,a=>UT (fun x=>GJ c x) a
 | .pair c d,a=>by
  show(plW (c.enc a.1)&&(plW (d.enc a.2)&&true))=true
  rw[GJ c a.1,GJ d a.2] <;> rfl
 | .triple c d e,a=>by
  show(plW (c.enc a.1)&&(plW (d.enc a.2.1)&&(plW (e.enc a.2.2)&&true)))=true
  rw[GJ c a.1,GJ d a.2.1,GJ e a.2.2] <;> rfl
 | .option c,none=>rfl
 | .option c,some x=>GJ c x
theorem UU:∀(cs:List Codec) (a:Codec.denoteAll cs),EF (Codec.encAll cs a)=true
 | [],_=>rfl
 | c::cs,a=>by
  show(plW (c.enc a.1)&&EF (Codec.encAll cs a.2))=true
  rw[GJ c a.1,UU cs a.2] <;> rfl
theorem Pg:∀{xs:List WData}{d:WData},d∈xs->d.weight<=WData.weightAll xs
 | [],d,h=>absurd h (by simp)
 | x::r,d,h=>by
  show d.weight<=x.weight+1+WData.weightAll r
  rcases AQ.mp h with e | m
  .rw[e]
   omega
  .have z:=Pg m
   omega
def toV:Value->V
 | .none=>.non
 | .bool b=>.bl b
 | .int i _=>.int i
 | .str x _=>.str x
 | .bytes b _=>.byt b
 | .ref a=>.ref a
 | _=>.non
def OkU (A:List Addr):Value->Prop
 | .none=>True
 | .bool _=>True
 | .int _ _=>True
 | .str _ _=>True
 | .bytes _ _=>True
 | .ref a=>a∈A
 | _=>False
theorem OkU.mono {A B:List Addr} (h:∀a∈A,a∈B):∀{u:Value},OkU A u->OkU B u:=fun {u} x=>by
 cases u with
 | ref a=>exact h a x
 | none=>trivial
 | bool b=>trivial
 | int i t=>trivial
 | str s t=>trivial
 | bytes b t=>trivial
 | _=>exact Bf x
theorem er {A:List Addr}{u:Value} (x:OkU A u):RelV (toV u) u:=by
 cases u with
 | ref a=>rfl
 | none=>rfl
 | bool b=>rfl
 | int i t=>exact⟨t,rfl⟩
 | str s t=>exact⟨t,rfl⟩
 | bytes b t=>exact⟨t,rfl⟩
 | _=>exact Bf x
theorem IF {A:List Addr}:∀{vs:List Value},(∀u∈vs,OkU A u)->Vals (vs.map toV) vs
 | [],_=>.nil
 | u::r,h=>.cons (er (h u (AV ..))) (IF fun x hx=>h x (Av _ hx))
def ArgOb (h:Heap) (A:List Addr) (a:Addr):Prop:=∃vs:List Value,vs.length<=sizeLine/\(∀u∈vs,OkU A u)/\
 (h.get? a=some { cls:=.type "list",data:=.seq vs.toArray }\/h.get? a=some { cls:=.type "tuple",data:=.seq vs.toArray })
theorem ArgOb.mono {h:Heap}{A B:List Addr}{a:Addr} (k:∀a∈A,a∈B) (x:ArgOb h A a):ArgOb h B a:=by
 obtain⟨vs,h1,h2,h3⟩:=x
 exact⟨vs,h1,fun u hu=>(h2 u hu).mono k,h3⟩
theorem Ly {P:Params}{h:Heap}:∀{vs:List Value}{ds:List WData},WellAll P h vs ds->vs.length=ds.length
 | _,_,.nil=>rfl
 | _,_,.cons _ b=>by
  show _+1=_+1
  rw[Ly b]
theorem Xy {P:Params}{h:Heap}{v:Value}{ds:List WData} (x:Well P h v (.list ds)):∃(a:Addr) (vs:List Value),v=.ref a/\h.get? a=some { cls:=.type "list",data:=.seq vs.toArray }/\WellAll P h vs ds:=by
 cases x with
 | list ho hall=>exact⟨_,_,rfl,ho,hall⟩
theorem Xz {P:Params}{h:Heap}{v:Value}{ds:List WData} (x:Well P h v (.tuple ds)):∃(a:Addr) (vs:List Value),v=.ref a/\h.get? a=some { cls:=.type "tuple",data:=.seq vs.toArray }/\WellAll P h vs ds:=by
 cases x with
 | tuple ho hall=>exact⟨_,_,rfl,ho,hall⟩
theorem Xx {P:Params}{h:Heap}{us:List Value}{d:WData}{ds:List WData} (x:WellAll P h us (d::ds)):∃(v:Value) (vs:List Value),us=v::vs/\Well P h v d/\WellAll P h vs ds:=by
 cases x with
 | cons a b=>exact⟨_,_,rfl,a,b⟩
theorem Tq {n:Nat} (h:n<=1048576):n<=sizeLine:=CW h (by decide)
section
variable {P:Params}{h:Heap}
mutual
theorem Zq:∀(d:WData) (v:Value),Well P h v d->plW d=true->d.weight<=1048576->∃A:List Addr,OkU A v/\∀a∈A,ArgOb h A a
 | .none,_,x,_,_=>by
  cases x
  exact⟨[],trivial,fun a m=>absurd m (by simp)⟩
 | .bool b,_,x,_,_=>by
  cases x
  exact⟨[],trivial,fun a m=>absurd m (by simp)⟩
 | .int i,_,x,_,_=>by
  cases x
  exact⟨[],trivial,fun a m=>absurd m (by simp)⟩
 | .str s,_,x,_,_=>by
  cases x
  exact⟨[],trivial,fun a m=>absurd m (by simp)⟩
 | .bytes b,_,x,_,_=>by
  cases x
  exact⟨[],trivial,fun a m=>absurd m (by simp)⟩
 | .list ds,_,x,p,z=>by
  obtain⟨a,vs,rfl,ho,hall⟩:=Xy x
  have z2:WData.weightAll ds<=1048576:=z
  obtain⟨A,h1,h2⟩:=Ka ds _ hall p fun d hd=>CW (Pg hd) z2
  have k:∀b∈A,b∈a::A:=fun b hb=>Av _ hb
  refine⟨a::A,AV ..,fun b hb=>?_⟩
  rcases AQ.mp hb with e | m
  .rw[e]
   exact⟨vs,Tq (by rw[Ly hall];exact CW (ZL ds) z2),fun u hu=>(h1 u hu).mono k,.inl ho⟩
  .exact(h2 b m).mono k
 | .tuple ds,_,x,p,z=>by
  obtain⟨a,vs,rfl,ho,hall⟩:=Xz x
  have z2:WData.weightAll ds<=1048576:=z
  obtain⟨A,h1,h2⟩:=Ka ds _ hall p fun d hd=>CW (Pg hd) z2
  have k:∀b∈A,b∈a::A:=fun b hb=>Av _ hb
  refine⟨a::A,AV ..,fun b hb=>?_⟩
  rcases AQ.mp hb with e | m
  .rw[e]
   exact⟨vs,Tq (by rw[Ly hall];exact CW (ZL ds) z2),fun u hu=>(h1 u hu).mono k,.inr ho⟩
  .exact(h2 b m).mono k
 | .float _,_,_,p,_=>D0 (show false=true from p)
 | .dict _,_,_,p,_=>D0 (show false=true from p)
 | .bytearray _,_,_,p,_=>D0 (show false=true from p)
 | .set _,_,_,p,_=>D0 (show false=true from p)
 | .frozenset _,_,_,p,_=>D0 (show false=true from p)
 | .obj _ _,_,_,p,_=>D0 (show false=true from p)
theorem Ka:∀(ds:List WData) (vs:List Value),WellAll P h vs ds->EF ds=true->(∀d∈ds,d.weight<=1048576)->∃A:List Addr,(∀u∈vs,OkU A u)/\∀a∈A,ArgOb h A a
 | [],_,x,_,_=>by
  cases x
  exact⟨[],fun u m=>absurd m (by simp),fun a m=>absurd m (by simp)⟩
 | d::ds,_,x,p,z=>by
  obtain⟨v,vs,rfl,x1,x2⟩:=Xx x
  have q:plW d=true/\EF ds=true:=L0.mp p
  obtain⟨A,a1,a2⟩:=Zq d v x1 q.1 (z d (AV ..))
  obtain⟨B,b1,b2⟩:=Ka ds vs x2 q.2 fun e he=>z e (Av _ he)
  have kA:∀b∈A,b∈A++B:=fun b hb=>DL.mpr (.inl hb)
  have kB:∀b∈B,b∈A++B:=fun b hb=>DL.mpr (.inr hb)
  refine⟨A++B,fun u hu=>?_,fun b hb=>?_⟩
  .rcases AQ.mp hu with e | m
   .rw[e]
    exact a1.mono kA
   .exact(b1 u m).mono kB
  .rcases DL.mp hb with m | m
   .exact(a2 b m).mono kA
   .exact(b2 b m).mono kB
end
end
def Kz (o:Obj):Option HO:=match o.data with
 | .seq vs _=>if (o.cls==FK "list")=true then some (.frz o (.lst (vs.toList.map toV))) else some (.frz o (.tup (vs.toList.map toV)))
 | _=>none
def Cm (K:AD) (h:Heap) (A:List Addr):Hp:=fun b=>if b∈A then (if (K.lookup b).isNone=true then (h.get? b).bind Kz else none) else none
theorem S6 (vs:List Value):Kz { cls:=.type "list",data:=.seq vs.toArray }=some (.frz { cls:=.type "list",data:=.seq vs.toArray } (.lst (vs.map toV))):=by
 show(if (FK "list"==FK "list")=true then some (HO.frz { cls:=.type "list",data:=.seq vs.toArray } (.lst (vs.toArray.toList.map toV))) else some (HO.frz { cls:=.type "list",data:=.seq vs.toArray } (.tup (vs.toArray.toList.map toV))))=_
 rw[JJz (beq_self_eq_true _)]
theorem S7 (vs:List Value):Kz { cls:=.type "tuple",data:=.seq vs.toArray }=some (.frz { cls:=.type "tuple",data:=.seq vs.toArray } (.tup (vs.map toV))):=by
 show(if (FK "tuple"==FK "list")=true then some (HO.frz { cls:=.type "tuple",data:=.seq vs.toArray } (.lst (vs.toArray.toList.map toV))) else some (HO.frz { cls:=.type "tuple",data:=.seq vs.toArray } (.tup (vs.toArray.toList.map toV))))=_
 rw[JJx (by decide)]
section
variable {P:Program}{w:World}{K:AD}{h:Heap}{A:List Addr}
theorem Kb {b:Addr}{o:Obj} (hb:b∈A) (hk:K.lookup b=none) (e:h.get? b=some o):Cm K h A b=Kz o:=by
 unfold Cm
 rw[JJz hb,hk,JJz (show(none:Option Obj).isNone=true from rfl),e] <;> rfl
theorem dM {b:Addr}{u:HO} (q:Cm K h A b=some u):b∈A/\K.lookup b=none:=by
 unfold Cm at q
 by_cases hb:b∈A
 .rw[JJz hb] at q
  cases hk:K.lookup b with
  | none=>exact⟨hb,rfl⟩
  | some o =>
   rw[hk,JJx (by simp)] at q
   cases q
 .rw[JJx hb] at q
  cases q
theorem NP (ar : ∀ a ∈ A, ArgOb h A a) {b : Addr} {u : HO} (q : Cm K h A b = some u) : K.lookup b = none /\ ∃ vs : List Value, vs.length <= sizeLine /\ (∀ u ∈ vs, OkU A u) /\
    ((h.get? b = some { cls := .type "list", data := .seq vs.toArray } /\ u = .frz { cls := .type "list", data := .seq vs.toArray } (.lst (vs.map toV))) \/
     (h.get? b = some { cls := .type "tuple", data := .seq vs.toArray } /\ u = .frz { cls := .type "tuple", data := .seq vs.toArray } (.tup (vs.map toV)))) := by
  obtain ⟨hb, hk⟩ := dM q
  obtain ⟨vs, h1, h2, h3⟩ := ar b hb
  refine ⟨hk, vs, h1, h2, ?_⟩
  rcases h3 with e | e
  . rw [Kb hb hk e, S6] at q
    exact .inl ⟨e, (Af q).symm⟩
  . rw [Kb hb hk e, S7] at q
    exact .inr ⟨e, (Af q).symm⟩
theorem Zr (ar:∀a∈A,ArgOb h A a):HOk P w (Cm K h A) h:=fun b u q=>by
 obtain⟨_,vs,h1,h2,⟨e,rfl⟩ | ⟨e,rfl⟩⟩:=NP ar q
 .exact⟨e,by rw[AH];exact h1,vs,_,IF h2,e⟩
 .exact⟨e,by rw[AH];exact h1,vs,IF h2,_,e,rfl,_,rfl⟩
theorem Le {c c':Value}{vs us:List Value} (e:(some { cls:=c,data:=.seq vs.toArray }:Option Obj)=some { cls:=c',data:=.seq us.toArray }):c=c'/\vs=us:=by
 have e1:=Af e
 have e2:c=c':=congrArg Obj.cls e1
 have e3:Data.seq vs.toArray=Data.seq us.toArray:=congrArg Obj.data e1
 injection e3 with e4
 refine⟨e2,?_⟩
 have e5:=congrArg Pr e4
 simpa using e5
theorem Zs (KX:K.In h) (ar:∀a∈A,ArgOb h A a) {a:Addr}{vs:List Value} (ha:a∈A) (e:h.get? a=some { cls:=.type "list",data:=.seq vs.toArray }):(∀u∈vs,OkU A u)/\SqL K (Cm K h A) a (vs.map toV):=by
 obtain⟨us,h1,h2,h3⟩:=ar a ha
 have hu:us=vs:=by
  rcases h3 with q | q
  .rw[e] at q
   exact(Le q).2.symm
  .rw[e] at q
   exact absurd (FK.inj (Le q).1) (by decide)
 subst hu
 refine⟨h2,?_⟩
 cases hk:K.lookup a with
 | none=>exact .inl (.inr ⟨_,by rw[Kb ha hk e,S6]⟩)
 | some o =>
  have e2:=KX a o hk
  rw[e] at e2
  obtain rfl:=Af e2
  exact .inr ⟨_,us.toArray,_,hk,rfl,rfl,rfl,by rw[Bc];exact h1,by simpa using IF h2⟩
theorem Zt (KX:K.In h) (ar:∀a∈A,ArgOb h A a) {a:Addr}{vs:List Value} (ha:a∈A) (e:h.get? a=some { cls:=.type "tuple",data:=.seq vs.toArray }):(∀u∈vs,OkU A u)/\SqT K (Cm K h A) a (vs.map toV):=by
 obtain⟨us,h1,h2,h3⟩:=ar a ha
 have hu:us=vs:=by
  rcases h3 with q | q
  .rw[e] at q
   exact absurd (FK.inj (Le q).1) (by decide)
  .rw[e] at q
   exact(Le q).2.symm
 subst hu
 refine⟨h2,?_⟩
 cases hk:K.lookup a with
 | none=>exact .inl (.inr ⟨_,by rw[Kb ha hk e,S7]⟩)
 | some o =>
  have e2:=KX a o hk
  rw[e] at e2
  obtain rfl:=Af e2
  exact .inr ⟨_,us.toArray,_,hk,rfl,rfl,by rw[Bc];exact h1,by simpa using IF h2⟩
mutual
theorem ai {Pm:Params} (KX:K.In h) (ar:∀a∈A,ArgOb h A a):∀(d:WData) (v:Value),Well Pm h v d->plW d=true->OkU A v->Dw K (Cm K h A) (toV v) d
 | .none,_,x,_,_=>by
  cases x
  exact .non
 | .bool b,_,x,_,_=>by
  cases x
  exact .bl b
 | .int i,_,x,_,_=>by
  cases x
  exact .int i
 | .str s,_,x,_,_=>by
  cases x
  exact .str s
 | .bytes b,_,x,_,_=>by
  cases x
  have z:=Dw.byt (K:=K) (H:=Cm K h A) b.toArray
  exact z
 | .list ds,_,x,p,hu=>by
  obtain⟨a,vs,rfl,ho,hall⟩:=Xy x
  obtain⟨h2,hs⟩:=Zs KX ar hu ho
  exact .lst hs (Ku KX ar ds _ hall p h2)
 | .tuple ds,_,x,p,hu=>by
  obtain⟨a,vs,rfl,ho,hall⟩:=Xz x
  obtain⟨h2,hs⟩:=Zt KX ar hu ho
  exact .tup hs (Ku KX ar ds _ hall p h2)
 | .float _,_,_,p,_=>D0 (show false=true from p)
 | .dict _,_,_,p,_=>D0 (show false=true from p)
 | .bytearray _,_,_,p,_=>D0 (show false=true from p)
 | .set _,_,_,p,_=>D0 (show false=true from p)
 | .frozenset _,_,_,p,_=>D0 (show false=true from p)
 | .obj _ _,_,_,p,_=>D0 (show false=true from p)
theorem Ku {Pm:Params} (KX:K.In h) (ar:∀a∈A,ArgOb h A a):∀(ds:List WData) (vs:List Value),WellAll Pm h vs ds->EF ds=true->(∀u∈vs,OkU A u)->Dn K (Cm K h A) (vs.map toV) ds
 | [],_,x,_,_=>by
  cases x
  exact .nil
 | d::ds,_,x,p,hu=>by
  obtain⟨v,vs,rfl,x1,x2⟩:=Xx x
  have q:plW d=true/\EF ds=true:=L0.mp p
  exact .cons (ai KX ar d v x1 q.1 (hu _ (AV ..))) (Ku KX ar ds vs x2 q.2 fun u m=>hu u (Av _ m))
end
end
theorem cP {ds:List WData} (h:WData.layableAll ds=true):∀d∈ds,d.weight<=1048576:=fun d hd =>
 (PySem.W.layableW_iff.mp (Cu.mp h d hd)).2.2
theorem SO:∀(cs:List Codec) (a:Codec.denoteAll cs),(Codec.encAll cs a).length=cs.length
 | [],_=>rfl
 | c::cs,a=>by
  show(Codec.encAll cs a.2).length+1=cs.length+1
  rw[SO cs a.2]
end L2
end
namespace Fm
open Flags
theorem Ji {α:Type}{f g:α->Nat}:∀{l:List α},(∀x∈l,f x<=g x)->(l.map f).sum<=(l.map g).sum
 | [],_=>Aa _
 | a::l,h=>by
  have h1:=h a AV
  have h2:=Ji (l:=l) fun x hx=>h x (Av _ hx)
  simp only[Aq,FF]
  omega
theorem sum_eq {α:Type}{f g:α->Nat}{l:List α} (h:∀x∈l,f x=g x):(l.map f).sum=(l.map g).sum:=by
 rw[ER h]
theorem IB {α:Type}:∀l:List α,(l.map fun _=>0).sum=0
 | []=>rfl
 | a::l=>by
  have:=IB l
  simp only[Aq,FF]
  omega
theorem Xe {α:Type} (p:α->Bool) (f:α->Nat):∀l:List α,((l.filter p).map f).sum=(l.map fun x=>if p x=true then f x else 0).sum
 | []=>rfl
 | a::l=>by
  have ih:=Xe p f l
  rw[Fu]
  cases h:p a with
  | true=>simp only[if_true,Aq,FF,h,ih]
  | false=>simp only[Dz,if_false,Aq,FF,h,ih,ES]
theorem Sf {p:Nat->Bool}:∀l:List Nat,l.filter p∈choices l
 | []=>AV
 | x::r=>by
  have ih:=Sf (p:=p) r
  rw[Fu]
  unfold choices
  cases p x with
  | true=>exact Fw _ (List.mem_map_of_mem ih)
  | false=>exact IW _ ih
def bM (c:Nat->Nat) (s i x:Nat) (st:Nat×Nat):Nat×Nat:=if x=s then (if 0 < st.1 then (st.1 - 1+c i,st.2) else (st.1+c i,st.2+1)) else st
def Sv (c:Nat->Nat) (s:Nat):Nat->List Nat->Nat×Nat->Nat×Nat
 | _,[],st=>st
 | i,x::r,st=>Sv c s (i+1) r (bM c s i x st)
def cnt (s:Nat):List Nat->Nat
 | []=>0
 | x::r=>(if x=s then 1 else 0)+cnt s r
end Fm
namespace Fm
open Flags
theorem range_cons (n:Nat):DB (n+1)=0::(DB n).map (·+1):=MR
theorem Kw {α:Type}{p q:α->Bool}:∀{l:List α},(∀x∈l,p x=true->q x=true)->(l.filter p).length<=(l.filter q).length
 | [],_=>Aa _
 | a::l,h=>by
  have ih:=Kw (l:=l) fun x hx=>h x (Av _ hx)
  rw[Fu,Fu]
  cases hp:p a with
  | true =>
   rw[h a AV hp]
   simp;omega
  | false =>
   cases q a <;> simp <;> omega
def mayAt (L:Locker) (r:List Nat) (i:Nat):List Nat:=L.sameKinds.filter fun (f:Nat)=>decide (L.points f<=i)&&r.getD (L.points f - 1) 0==r.getD i 0
theorem spots_one (L:Locker) (r:List Nat):L.spots [r]=(DB r.length).map fun i=>⟨r.getD i 0,mayAt L r i⟩:=by
 unfold Locker.spots mayAt
 rw[J1,YJ,DI]
theorem Zn (L:Locker) (k:Nat):L.allCopies.getD k 0=L.copies k:=by
 unfold Locker.allCopies Locker.copies
 rw[GU,Ao]
def lk (L:Locker) (r:List Nat) (s:Nat):Nat:=cnt s r - L.copies s
def gi (L:Locker) (i:Nat):Nat:=((L.sameKinds.filter fun f=>L.points f==i+1).map L.copies).sum
end Fm
namespace Fm
open Flags
theorem ON:∀(n:Nat) (l:List Nat),l.length<=n->l.eraseDups.Nodup
 | _,[],_=>by simp
 | 0,a::l,h=>by simp at h
 | n+1,a::l,h=>by
  rw[List.eraseDups_cons]
  have hl:(l.filter fun b=>!b==a).length<=n:=CW (IU _ _) (by simpa using h)
  refine DN.mpr ⟨fun m=>?_,ON n _ hl⟩
  have:=(Cv.mp (J3.mp m)).2
  simp at this
theorem contains_mem {l:List Nat}{x:Nat}:l.contains x=true↔x∈l:=by simp
def flown (L:Locker) (r:List Nat) (s:Nat):Nat:=(Sv (gi L) s 0 r (0,0)).2
end Fm
namespace Fb
open Flags (Bytes cutAt isName isSign)
def zs (b:Bytes):List Int:=b.map fun (c:UInt8)=>(c.toNat:Int)
theorem Al (b:Bytes):(zs b).length=b.length:=AH _
theorem Xm {a b:UInt8} (h:(a.toNat:Int)=(b.toNat:Int)):a=b:=M8.mp (by omega)
theorem EO:∀{a b:Bytes},zs a=zs b->a=b
 | [],[],_=>rfl
 | [],_::_,h=>by simp[zs] at h
 | _::_,[],h=>by simp[zs] at h
 | x::a,y::b,h=>by
  have h:(x.toNat:Int)::zs a=(y.toNat:Int)::zs b:=h
  obtain⟨h1,h2⟩:=Dl h
  rw[Xm h1,EO h2]
theorem X3 {a b:Bytes}:zs a=zs b↔a=b:=⟨EO,fun h=>by rw[h]⟩
theorem zs_nil {a:Bytes}:zs a=[]↔a=[]:=by cases a <;> simp[zs]
def BF (m:Int):List Int->List (List Int)
 | []=>[[]]
 | x::r=>if x=m then []::BF m r else match BF m r with
  | []=>[[x]]
  | w::l=>(x::w)::l
theorem Km (m:Int):∀r:List Int,BF m r≠[]
 | []=>by simp[BF]
 | x::r=>by
  unfold BF
  split
  .simp
  .split <;> simp
theorem Ea (m:UInt8):∀r:Bytes,cutAt m r≠[]
 | []=>by simp[cutAt]
 | x::r=>by
  unfold cutAt
  split
  .simp
  .split <;> simp
theorem Kq (m:UInt8):∀b:Bytes,BF (m.toNat:Int) (zs b)=(cutAt m b).map zs
 | []=>rfl
 | x::r=>by
  have ih:=Kq m r
  show BF (m.toNat:Int) ((x.toNat:Int)::zs r)=_
  unfold BF cutAt
  by_cases e:x=m
  .rw[JJz e,JJz (by rw[e]),ih]
   rfl
  .rw[JJx e,JJx (fun q=>e (Xm q)),ih]
   cases h:cutAt m r with
   | nil=>exact absurd h (Ea m r)
   | cons w l=>rfl
theorem Kn (m v:Int):∀(xs:List Int) (done:List (List Int)) (p:List Int),BF m xs=done++[p]->BF m (xs++[v])=if v=m then done++[p]++[[]] else done++[p++[v]]
 | [],done,p,h=>by
  have:done=[]/\p=[]:=by
   cases done with
   | nil=>simp[BF] at h;exact⟨rfl,h⟩
   | cons a l=>simp[BF] at h
  obtain⟨rfl,rfl⟩:=this
  by_cases e:v=m
  .simp[BF,e]
  .simp[BF,e]
 | x::r,done,p,h=>by
  show BF m (x::(r++[v]))=_
  unfold BF at h ⊢
  by_cases e:x=m
  .rw[JJz e] at h ⊢
   cases done with
   | nil =>
    have:BF m r=[]:=by simpa using(Dl h).2
    exact absurd this (Km m r)
   | cons d ds =>
    have h1:=Dl h
    have ih:=Kn m v r ds p h1.2
    rw[ih,<- h1.1]
    split <;> rfl
  .rw[JJx e] at h ⊢
   cases hr:BF m r with
   | nil=>exact absurd hr (Km m r)
   | cons w l =>
    rw[hr] at h
    have h:(x::w)::l=done++[p]:=h
    cases done with
    | nil =>
     have h1:=Dl h
     have hl:l=[]:=h1.2
     subst hl
     have ih:=Kn m v r [] w hr
     rw[ih]
     by_cases ev:v=m
     .rw[JJz ev,JJz ev,<- h1.1];rfl
     .rw[JJx ev,JJx ev,<- h1.1];rfl
    | cons d ds =>
     have h1:=Dl h
     have hl:l=ds++[p]:=h1.2
     have ih:=Kn m v r (w::ds) p (by rw[hr,hl];rfl)
     rw[ih]
     by_cases ev:v=m
     .rw[JJz ev,JJz ev,<- h1.1];rfl
     .rw[JJx ev,JJx ev,<- h1.1];rfl
theorem JC (m:Int):∀xs:List Int,(BF m xs).length=xs.count m+1
 | []=>by simp[BF]
 | x::r=>by
  have ih:=JC m r
  unfold BF
  by_cases e:x=m
  .rw[JJz e,Bn,ih,e,List.count_cons_self]
  .rw[JJx e]
   cases hr:BF m r with
   | nil=>exact absurd hr (Km m r)
   | cons w l =>
    rw[hr] at ih
    rw[P7 e,<- ih]
    rfl
theorem Gr (m:Int) (xs:List Int):(BF m xs).length<=xs.length+1:=by
 rw[JC]
 have:=List.count_le_length (a:=m) (l:=xs)
 omega
theorem Ez (m:Int):∀(xs:List Int) (w:List Int),w∈BF m xs->w.length<=xs.length
 | [],w,h=>by simp[BF] at h;subst h;simp
 | x::r,w,h=>by
  have ih:=Ez m r
  unfold BF at h
  split at h
  .rcases AQ.mp h with e | h
   .subst e;simp
   .have:=ih w h;simp;omega
  .split at h
   .simp at h;subst h;simp
   .rename_i w' l hr
    rcases AQ.mp h with e | h
    .subst e
     have:=ih w' (by rw[hr];exact AV)
     simp;omega
    .have:=ih w (by rw[hr];exact Av _ h)
     simp;omega
def GI (b:Int):Bool:=(decide (65<=b)&&decide (b<=90)) || (decide (48<=b)&&decide (b<=57))
def Ed (l:List Int):Bool:=(decide (1<=l.length)&&decide (l.length<=8))&&l.all GI
theorem CY {p q:Prop} [Decidable p] [Decidable q] (h:p↔q):decide p=decide q:=by
 by_cases x:p
 .rw[JJk x,JJk (h.mp x)]
 .rw[JJj x,JJj fun y=>x (h.mpr y)]
theorem dB (c:UInt8):GI (c.toNat:Int)=isSign c:=by
 unfold GI isSign
 rw[CY (show(65:Int)<=c.toNat↔65<=c.toNat by omega),CY (show(c.toNat:Int)<=90↔c.toNat<=90 by omega),CY (show(48:Int)<=c.toNat↔48<=c.toNat by omega),CY (show(c.toNat:Int)<=57↔c.toNat<=57 by omega)]
theorem Rb {p:Int->Bool}{q:UInt8->Bool} (h:∀c:UInt8,p (c.toNat:Int)=q c) (b:Bytes):(zs b).all p=b.all q:=by
 unfold zs
 rw[GS]
 congr 1
 funext c
 exact h c
theorem K2 (b:Bytes):Ed (zs b)=isName b:=by
 unfold Ed isName
 rw[Al,Rb dB,Bool.and_assoc]
def JT (w ns:List Int):Bool:=match BF 32 ns with
 | [a,b]=>decide (a=w)&&Ed b
 | _=>false
theorem HY (b:Bytes):BF 32 (zs b)=(cutAt 32 b).map zs:=Kq 32 b
theorem Kk (b:Bytes):BF 10 (zs b)=(cutAt 10 b).map zs:=Kq 10 b
theorem Kl (b:Bytes):BF 46 (zs b)=(cutAt 46 b).map zs:=Kq 46 b
theorem LH {w line n:Bytes} (h:By w line=some n):JT (zs w) (zs line)=true/\(BF 32 (zs line))[1]?=some (zs n):=by
 unfold By at h
 unfold JT
 rw[HY]
 split at h
 .rename_i a b hc
  split at h
  .rename_i hh
   cases h
   rw[hc]
   show(decide (zs a=zs w)&&Ed (zs n))=true/\_
   rw[JJk (by rw[hh.1]),K2,hh.2]
   exact⟨rfl,rfl⟩
  .cases h
 .cases h
theorem LG {w line:Bytes} (h:By w line=none):JT (zs w) (zs line)=false:=by
 unfold By at h
 unfold JT
 rw[HY]
 match hc:cutAt 32 line with
 | [a,b] =>
  rw[hc] at h
  have h:(if a=w/\isName b=true then some b else none)=none:=h
  show(decide (zs a=zs w)&&Ed (zs b))=false
  by_cases e:a=w
  .by_cases e2:isName b=true
   .rw[JJz ⟨e,e2⟩] at h;cases h
   .rw[K2,G9.mpr e2,IG]
  .rw[JJj fun q=>e (EO q),DW]
 | []=>rfl
 | [a]=>rfl
 | a::b::c::l=>rfl
def K1 (l:List Int):Bool:=(decide (l.length<=64)&&l.all fun b=>decide (32<=b)&&decide (b<=126))&&!(decide ([]∈BF 32 l))
theorem R5 (m x:UInt8) (r:Bytes):[]∈cutAt m (x::r)↔x=m\/[]∈(cutAt m r).tail:=by
 show []∈(if x=m then []::cutAt m r else match cutAt m r with
  | []=>[[x]]
  | w::l=>(x::w)::l)↔_
 by_cases e:x=m
 .rw[JJz e]
  exact⟨fun _=>.inl e,fun _=>AV⟩
 .rw[JJx e]
  cases h:cutAt m r with
  | nil=>exact absurd h (Ea m r)
  | cons w l=>simp[e]
theorem Kp (m x:UInt8) (r:Bytes):[]∈(cutAt m (x::r)).tail↔(x=m/\[]∈cutAt m r)\/(x≠m/\[]∈(cutAt m r).tail):=by
 show []∈(if x=m then []::cutAt m r else match cutAt m r with
  | []=>[[x]]
  | w::l=>(x::w)::l).tail↔_
 by_cases e:x=m
 .rw[JJz e];simp[e]
 .rw[JJx e]
  cases h:cutAt m r with
  | nil=>exact absurd h (Ea m r)
  | cons w l=>simp[e]
open Flags (noTwoBlanks isMeaning) in
theorem Rn:∀(x:UInt8) (r:Bytes),[]∈(cutAt 32 (x::r)).tail↔¬((x::r).getLast?≠some 32/\noTwoBlanks (x::r)=true)
 | x,[]=>by
  rw[Kp]
  simp[cutAt,noTwoBlanks]
 | x,y::r=>by
  have ih:=Rn y r
  rw[Kp,R5]
  have e1:(x::y::r).getLast?=(y::r).getLast?:=by rw[List.getLast?_cons_cons]
  have e2:noTwoBlanks (x::y::r)=(!(x==32&&y==32)&&noTwoBlanks (y::r)):=rfl
  rw[e1,e2]
  have e3:[]∈(cutAt 32 r).tail/\y≠32↔[]∈(cutAt 32 (y::r)).tail/\y≠32:=by
   rw[Kp]
   constructor
   .rintro⟨a,b⟩;exact⟨.inr ⟨b,a⟩,b⟩
   .rintro⟨a | a,b⟩
    .exact(b a.1).elim
    .exact⟨a.2,b⟩
  by_cases hx:x=32
  .by_cases hy:y=32
   .simp[hx,hy]
   .have:[]∈(cutAt 32 r).tail↔[]∈(cutAt 32 (y::r)).tail:=⟨fun a=>(e3.mp ⟨a,hy⟩).1,fun a=>(e3.mpr ⟨a,hy⟩).1⟩
    rw[this,ih]
    simp[hx,hy]
  .rw[ih]
   simp[hx]
theorem bj (b:Bytes):K1 (zs b)=Fq b:=by
 unfold K1 Fq
 have hmem:([]∈BF 32 (zs b))↔[]∈cutAt 32 b:=by
  rw[HY]
  constructor
  .intro h
   obtain⟨w,hw,e⟩:=Bb.mp h
   rw[<- zs_nil.mp e];exact hw
  .intro h
   exact Bb.mpr ⟨[],h,rfl⟩
 rw[Al,Rb (q:=fun c=>decide (32<=c.toNat)&&decide (c.toNat<=126)) (fun c=>by rw[CY (show(32:Int)<=c.toNat↔32<=c.toNat by omega),CY (show(c.toNat:Int)<=126↔c.toNat<=126 by omega)]),CY hmem]
 cases b with
 | nil=>rfl
 | cons x r =>
  rw[CY (R5 32 x r)]
  have h2:=Rn x r
  by_cases hx:x=32
  .simp[hx]
  .have h3:(x=32\/[]∈(cutAt 32 r).tail)↔[]∈(cutAt 32 (x::r)).tail:=by
    rw[Kp]
    simp[hx]
   rw[CY h3,CY h2]
   have e1:(x::r).head?=some x:=rfl
   rw[e1]
   have e4:(some x != some (32:UInt8))=true:=by simp[hx]
   rw[e4]
   have e5:decide (1<=(x::r).length)=true:=by simp
   rw[e5,D1,D1]
   have e6:(!decide (¬((x::r).getLast?≠some 32/\YB (x::r)=true)))=((x::r).getLast? != some 32&&YB (x::r)):=by
    rw[Dy]
    simp
   rw[e6,Bool.and_assoc]
theorem UG {c:UInt8}:∀{l:Bytes},GQ c l=none->cutAt c l=[l]
 | [],_=>rfl
 | x::r,h=>by
  unfold GQ at h
  unfold cutAt
  split at h
  .cases h
  .rename_i e
   rw[JJx e]
   have:GQ c r=none:=by
    cases q:GQ c r with
    | none=>rfl
    | some p=>rw[q] at h;cases h
   rw[UG this]
theorem UH {c:UInt8}:∀{l p q:Bytes},GQ c l=some (p,q)->(cutAt c l)[0]?=some p/\l=p++c::q
 | [],_,_,h=>by cases h
 | x::r,p,q,h=>by
  unfold GQ at h
  unfold cutAt
  split at h
  .rename_i e
   cases h
   rw[JJz e,e]
   exact⟨rfl,rfl⟩
  .rename_i e
   rw[JJx e]
   cases z:GQ c r with
   | none=>rw[z] at h;cases h
   | some y =>
    rw[z] at h
    obtain⟨y1,y2⟩:=y
    have h:some (x::y1,y2)=some (p,q):=h
    cases h
    obtain⟨h1,h2⟩:=UH z
    cases hr:cutAt c r with
    | nil=>exact absurd hr (Ea c r)
    | cons w l =>
     rw[hr] at h1
     have h1:w=y1:=by simpa using h1
     subst h1
     exact⟨rfl,by rw[h2];rfl⟩
end Fb
namespace Fb
inductive ZLab where
 | sign (n:List Int)
 | same (k:Int)
 | ans
 deriving DecidableEq
structure ZK where
 lab:ZLab
 copies:Int
 shape:Int
 look:Int
 deriving DecidableEq
def ZLab.rank:ZLab->Int
 | .sign _=>1
 | .same _=>2
 | .ans=>3
def zl:HC->ZLab
 | .sign n=>.sign (zs n)
 | .same k=>.same (k:Int)
 | .answer=>.ans
def zk (k:Ad):ZK:=⟨zl k.role,k.copies,k.shape,k.look⟩
theorem iY:∀{a b:HC},zl a=zl b->a=b
 | .sign _,.sign _,h=>by injection h with h;rw[EO h]
 | .same _,.same _,h=>by injection h with h;rw[MH h]
 | .answer,.answer,_=>rfl
 | .sign _,.same _,h=>nomatch h
 | .sign _,.answer,h=>nomatch h
 | .same _,.sign _,h=>nomatch h
 | .same _,.answer,h=>nomatch h
 | .answer,.sign _,h=>nomatch h
 | .answer,.same _,h=>nomatch h
def rk (k:Ad):Nat:=match k.role with
 | .sign _=>1
 | .same _=>2
 | .answer=>3
theorem LU (k:Ad):(zk k).lab.rank=(rk k:Int):=by
 unfold zk rk
 cases k.role <;> rfl
structure Wf (ks:List Ad):Prop where
 order:ks.Pairwise fun a b=>rk a<=rk b/\rk a≠3
 names:ks.Pairwise fun a b=>∀n,a.role=.sign n->b.role≠.sign n
 sames:ks.Pairwise fun a b=>∀i j,a.role=.same i->b.role=.same j->i < j
 ge:∀k∈ks,∀i,k.role=.same i->1<=i
 few:(ks.filter FD).length<=48
theorem Wf.nil:Wf []:=⟨.nil,.nil,.nil,fun _ h=>absurd h DZ,by decide⟩
theorem isSign_rk (k:Ad):k.isSign=decide (rk k=1):=by
 unfold FD rk
 cases k.role <;> rfl
theorem HV (k:Ad):(k.role==.answer)=decide (rk k=3):=by
 unfold rk
 cases k.role with
 | sign n=>exact beq_eq_false_iff_ne.mpr (fun q=>nomatch q)
 | same n=>exact beq_eq_false_iff_ne.mpr (fun q=>nomatch q)
 | answer=>exact beq_self_eq_true _
theorem Oc (k:Ad):1<=rk k/\rk k<=3:=by
 unfold rk
 cases k.role <;> simp
def EZ (past:List Ad) (x:Ad):Bool:=match x.role with
 | .sign _=>past.any fun (k:Ad)=>!k.isSign
 | _=>past.any fun (k:Ad)=>k.role==.answer
def dup (past:List Ad) (x:Ad):Bool:=match x.role with
 | .sign _=>past.any fun (k:Ad)=>k.role==x.role
 | .same j=>past.any fun (k:Ad)=>match k.role with
  | .same i=>decide (j<=i)
  | _=>false
 | .answer=>false
theorem Jo (past:List Ad) (x:Ad):GR past x=if EZ past x=true then some 1 else if dup past x=true then some 2 else if (x.isSign&&decide (P1<=past.length))=true then some 3 else
 if (past.any fun (k:Ad)=>k.shape==x.shape&&k.look==x.look)=true then some 4 else none:=rfl
theorem NV {past:List Ad}{x:Ad}{n:AX} (h:x.role=.sign n):EZ past x=past.any fun (k:Ad)=>!k.isSign:=by unfold EZ;rw[h]
theorem Rv {past:List Ad}{x:Ad}{n:Nat} (h:x.role=.same n):EZ past x=past.any fun (k:Ad)=>k.role==.answer:=by unfold EZ;rw[h]
theorem Ru {past:List Ad}{x:Ad} (h:x.role=.answer):EZ past x=past.any fun (k:Ad)=>k.role==.answer:=by unfold EZ;rw[h]
def IA (past:List ZK) (z:ZK):Bool:=match past.getLast? with
 | none=>true
 | some b=>!(decide (b.lab.rank=3))&&decide (b.lab.rank<=z.lab.rank)
def Eg (past:List ZK) (z:ZK):Bool:=match z.lab with
 | .sign n=>past.any fun b=>decide (b.lab=.sign n)
 | .same k=>past.any fun b=>match b.lab with
  | .same j=>decide (k<=j)
  | _=>false
 | .ans=>false
def Fg (past:List ZK):Nat:=(past.filter fun b=>decide (b.lab.rank=1)).length
def JP (past:List ZK) (z:ZK):Bool:=past.any fun b=>decide (b.shape=z.shape)&&decide (b.look=z.look)
def Kv (past:List ZK) (z:ZK):Int:=if IA past z=false then 1 else if Eg past z=true then 2 else if z.lab.rank=1/\Fg past=48 then 3 else if JP past z=true then 4 else 0
theorem JM {α:Type}{l:List α}{b:α} (h:l.getLast?=some b):∃r,l=r++[b]:=by
 obtain⟨r,e⟩:=YS.mp h
 exact⟨r,e⟩
theorem gR {past:List Ad} (w:Wf past) (x:Ad):IA (past.map zk) (zk x)=!EZ past x:=by
 unfold IA
 rw[List.getLast?_map]
 cases h:past.getLast? with
 | none =>
  have:past=[]:=IT.mp h
  subst this
  unfold EZ
  cases x.role <;> rfl
 | some b =>
  obtain⟨r,e⟩:=JM h
  subst e
  show(!(decide ((zk b).lab.rank=3))&&decide ((zk b).lab.rank<=(zk x).lab.rank))=_
  rw[LU,LU]
  have ord:∀k∈r,rk k<=rk b/\rk k≠3:=fun k hk=>(MP.mp w.order).2.2 k hk b AV
  have pb:=Oc b
  cases hx:x.role with
  | sign n =>
   have rx:rk x=1:=by unfold rk;rw[hx]
   rw[rx,NV hx]
   by_cases hb:rk b=1
   .have:((r++[b]).any fun (k:Ad)=>!k.isSign)=false:=by
     rw[Ep]
     intro k hk
     rw[isSign_rk]
     rcases DL.mp hk with q | q
     .have:=ord k q
      have:=Oc k
      rw[JJk (by omega)];simp
     .rw[BB.mp q,JJk hb];simp
    show _=!((r++[b]).any fun (k:Ad)=>!k.isSign)
    rw[this,hb];rfl
   .have:((r++[b]).any fun (k:Ad)=>!k.isSign)=true:=by
     rw[IM]
     exact⟨b,by simp,by rw[isSign_rk,JJj hb];rfl⟩
    show _=!((r++[b]).any fun (k:Ad)=>!k.isSign)
    rw[this,JJj (show ¬((rk b:Nat):Int)<=((1:Nat):Int) by omega),IG];rfl
  | same j =>
   have rx:rk x=2:=by unfold rk;rw[hx]
   rw[rx,Rv hx]
   by_cases hb:rk b=3
   .have:((r++[b]).any fun (k:Ad)=>k.role==.answer)=true:=by
     rw[IM]
     exact⟨b,by simp,by rw[HV,JJk hb]⟩
    show _=!((r++[b]).any fun (k:Ad)=>k.role==.answer)
    rw[this,hb];rfl
   .have:((r++[b]).any fun (k:Ad)=>k.role==.answer)=false:=by
     rw[Ep]
     intro k hk
     rw[HV]
     rcases DL.mp hk with q | q
     .rw[JJj (ord k q).2];simp
     .rw[BB.mp q,JJj hb];simp
    show _=!((r++[b]).any fun (k:Ad)=>k.role==.answer)
    rw[this,JJj (show ¬((rk b:Nat):Int)=3 by omega),JJk (show((rk b:Nat):Int)<=((2:Nat):Int) by omega)];rfl
  | answer =>
   have rx:rk x=3:=by unfold rk;rw[hx]
   rw[rx,Ru hx]
   by_cases hb:rk b=3
   .have:((r++[b]).any fun (k:Ad)=>k.role==.answer)=true:=by
     rw[IM]
     exact⟨b,by simp,by rw[HV,JJk hb]⟩
    show _=!((r++[b]).any fun (k:Ad)=>k.role==.answer)
    rw[this,hb];rfl
   .have:((r++[b]).any fun (k:Ad)=>k.role==.answer)=false:=by
     rw[Ep]
     intro k hk
     rw[HV]
     rcases DL.mp hk with q | q
     .rw[JJj (ord k q).2];simp
     .rw[BB.mp q,JJj hb];simp
    show _=!((r++[b]).any fun (k:Ad)=>k.role==.answer)
    rw[this,JJj (show ¬((rk b:Nat):Int)=3 by omega),JJk (show((rk b:Nat):Int)<=((3:Nat):Int) by omega)];rfl
theorem Tf (past:List Ad) (x:Ad):Eg (past.map zk) (zk x)=dup past x:=by
 unfold Eg dup
 have el:(zk x).lab=zl x.role:=rfl
 rw[el]
 cases hx:x.role with
 | sign n =>
  show((past.map zk).any fun b=>decide (b.lab=ZLab.sign (zs n)))=past.any fun k=>k.role==HD n
  rw[IP]
  congr 1
  funext k
  show decide (zl k.role=zl (.sign n))=(k.role==.sign n)
  rw[Dy,beq_iff_eq,decide_eq_true_iff]
  exact⟨iY,fun h=>by rw[h]⟩
 | same j =>
  show((past.map zk).any fun b=>match b.lab with
   | .same i=>decide ((j:Int)<=i)
   | _=>false)=past.any fun k=>match k.role with
   | .same i=>decide (j<=i)
   | _=>false
  rw[IP]
  congr 1
  funext k
  show(match zl k.role with
   | .same i=>decide ((j:Int)<=i)
   | _=>false)=_
  cases k.role with
  | sign n=>rfl
  | same i=>exact CY (by show(j:Int)<=(i:Int)↔_;omega)
  | answer=>rfl
 | answer=>rfl
theorem cY (past:List Ad) (x:Ad):JP (past.map zk) (zk x)=past.any fun (k:Ad)=>k.shape==x.shape&&k.look==x.look:=by
 unfold JP
 rw[IP]
 congr 1
 funext k
 show(decide ((k.shape:Int)=(x.shape:Int))&&decide ((k.look:Int)=(x.look:Int)))=_
 rw[CY (show(k.shape:Int)=x.shape↔k.shape=x.shape by omega),CY (show(k.look:Int)=x.look↔k.look=x.look by omega)]
 rfl
theorem Wv (past:List Ad):Fg (past.map zk)=(past.filter FD).length:=by
 unfold Fg
 rw[YH,AH]
 congr 1
 apply QA
 intro k _
 show decide ((zk k).lab.rank=1)=k.isSign
 rw[LU,isSign_rk]
 exact CY (by omega)
theorem bB {past:List Ad} (w:Wf past) (x:Ad):Kv (past.map zk) (zk x)=match GR past x with
  | none=>0
  | some e=>(e:Int):=by
 unfold Kv
 rw[Jo,gR w x,Tf past x,cY past x,Wv past]
 cases h1:EZ past x with
 | true=>rfl
 | false =>
  simp only[Bool.not_false,Bool.true_eq_false,if_false,Dz]
  cases h2:dup past x with
  | true=>rfl
  | false =>
   simp only[Dz,if_false]
   have hc:((zk x).lab.rank=1/\(past.filter FD).length=48)↔(x.isSign&&decide (P1<=past.length))=true:=by
    rw[LU,BL,isSign_rk,decide_eq_true_iff,decide_eq_true_iff]
    constructor
    .rintro⟨q1,q2⟩
     refine⟨by omega,?_⟩
     have:=IU FD past
     show 48<=_
     omega
    .rintro⟨q1,q2⟩
     refine⟨by omega,?_⟩
     have q2:48<=past.length:=q2
     have few:=w.few
     have all:past.filter FD=past:=by
      apply YG.mpr
      intro k hk
      cases hx:x.role with
      | sign n =>
       rw[NV hx] at h1
       have:=(Ep.mp h1) k hk
       cases q:k.isSign with
       | true=>rfl
       | false=>rw[q] at this;exact absurd rfl this
      | same n=>unfold rk at q1;rw[hx] at q1;cases q1
      | answer=>unfold rk at q1;rw[hx] at q1;cases q1
     rw[all] at few ⊢
     omega
   by_cases hh:(zk x).lab.rank=1/\(past.filter FD).length=48
   .rw[JJz hh,JJz (hc.mp hh)];rfl
   .rw[JJx hh,JJx fun q=>hh (hc.mpr q)]
    split <;> rfl
theorem Wf.snoc {past:List Ad} (w:Wf past) {x:Ad} (hx:∀i,x.role=.same i->1<=i) (h:GR past x=none):Wf (past++[x]):=by
 rw[Jo] at h
 by_cases h1:EZ past x=true
 .rw[JJz h1] at h;cases h
 rw[JJx h1] at h
 by_cases h2:dup past x=true
 .rw[JJz h2] at h;cases h
 rw[JJx h2] at h
 by_cases h3:(x.isSign&&decide (P1<=past.length))=true
 .rw[JJz h3] at h;cases h
 replace h1:=G9.mpr h1
 replace h2:=G9.mpr h2
 have one:∀{R:Ad->Ad->Prop},past.Pairwise R->(∀a∈past,R a x)->(past++[x]).Pairwise R:=fun p q =>
  MP.mpr ⟨p,MQ _ _,fun a ha b hb=>by rw[BB.mp hb];exact q a ha⟩
 have r1:∀a∈past,rk a<=rk x/\rk a≠3:=fun a ha=>by
  have pa:=Oc a
  cases hr:x.role with
  | sign n =>
   have rx:rk x=1:=by unfold rk;rw[hr]
   rw[NV hr] at h1
   have:=(Ep.mp h1) a ha
   rw[isSign_rk] at this
   have:rk a=1:=by
    by_cases q:rk a=1
    .exact q
    .rw[JJj q] at this;exact absurd rfl this
   omega
  | same n =>
   have rx:rk x=2:=by unfold rk;rw[hr]
   rw[Rv hr] at h1
   have:=(Ep.mp h1) a ha
   rw[HV,decide_eq_true_iff] at this
   omega
  | answer =>
   have rx:rk x=3:=by unfold rk;rw[hr]
   rw[Ru hr] at h1
   have:=(Ep.mp h1) a ha
   rw[HV,decide_eq_true_iff] at this
   omega
 refine⟨one w.order r1,one w.names fun a ha n e1 e2=>?_,one w.sames fun a ha i j e1 e2=>?_,fun k hk i e=>?_,?_⟩
 .unfold dup at h2
  rw[e2] at h2
  have:=(Ep.mp h2) a ha
  rw[e1] at this
  exact this (beq_self_eq_true _)
 .unfold dup at h2
  rw[e2] at h2
  have:=(Ep.mp h2) a ha
  rw[e1] at this
  have:¬j<=i:=fun q=>this (JJk q)
  omega
 .rcases DL.mp hk with q | q
  .exact w.ge k q i e
  .rw[BB.mp q] at e;exact hx i e
 .rw[P9,BC,Fu]
  have few:=w.few
  cases q:x.isSign with
  | false=>simp;exact few
  | true =>
   rw[q,D1,decide_eq_true_iff] at h3
   have h3:¬48<=past.length:=h3
   have:=IU FD past
   simp
   omega
end Fb
namespace Fb
def Gv (k:Int) (z:ZK):Bool:=decide (z.lab=.same k)
structure CS where
 L:Int->Int
 F:Int->Int
 keys:List Int
def cs0:CS:=⟨fun _=>0,fun _=>0,[]⟩
def zn (r:List Nat):List Int:=r.map fun (n:Nat)=>(n:Int)
theorem UW {L:AN} (w:Wf L.kinds):∀f∈L.sameKinds,1<=L.points f:=by
 intro f hf
 obtain⟨h1,h2⟩:=Cv.mp hf
 have h1:=QM.mp h1
 unfold P0
 rw[Ba h1] at h2 ⊢
 cases hr:L.kinds[f].role with
 | sign n=>rw[HK,hr] at h2;cases h2
 | same k =>
  rw[HK,hr]
  exact w.ge _ (HG h1) k hr
 | answer=>rw[HK,hr] at h2;cases h2
theorem EN (r:List Nat):(zn r).length=r.length:=AH _
theorem X2:∀{a b:List Nat},zn a=zn b->a=b
 | [],[],_=>rfl
 | [],_::_,h=>by simp[zn] at h
 | _::_,[],h=>by simp[zn] at h
 | x::a,y::b,h=>by
  have h:(x:Int)::zn a=(y:Int)::zn b:=h
  obtain⟨h1,h2⟩:=Dl h
  rw[MH h1,X2 h2]
end Fb
namespace Fb
open Flags (Bytes cutAt Fault)
def Bm {S:Type} (step:S->Nat->Bytes->Except Nat S):Nat->S->List Bytes->Except Fault S
 | _,s,[]=>.ok s
 | i,s,w::r=>match step s i w with
  | .error k=>.error (k,i)
  | .ok s'=>Bm step (i+1) s' r
section
variable {S:Type}{step:S->Nat->Bytes->Except Nat S}{i k:Nat}{s s':S}{w:Bytes}{r:List Bytes}
theorem CZ (h:step s i w=.error k):Bm step i s (w::r)=.error (k,i):=by
 unfold Bm;rw[h]
theorem C1 (h:step s i w=.ok s'):Bm step i s (w::r)=Bm step (i+1) s' r:=by
 conv=>lhs;unfold Bm
 rw[h]
end
def AR (t:Bytes):List Bytes:=(cutAt 10 t).dropLast
def Be (t:Bytes):Bytes:=(cutAt 10 t).getLast (Ea 10 t)
theorem F3 (t:Bytes):cutAt 10 t=AR t++[Be t]:=(IQ (Ea 10 t)).symm
def HZ {S T:Type} (f:S->Except Fault T):Except Fault S->Except Fault T
 | .error e=>.error e
 | .ok s=>f s
def Dj (past:List Ad) (line:Bytes):Except Nat (List Ad):=match DY line with
 | none=>.error 1
 | some x=>match GR past x with
  | some e=>.error e
  | none=>.ok (past++[x])
def Nj (w:Bytes) (n:Nat) (p:List Ad):Except Fault (List Ad):=if w≠[]\/p.all (fun k=>!k.isSign)=true then .error (1,n) else .ok p
theorem Ta:∀(ls:List Bytes) (i:Nat) (past:List Ad) (w:Bytes),ME i past (ls++[w])=HZ (Nj w (i+ls.length)) (Bm (fun s _ l=>Dj s l) i past ls)
 | [],i,past,w=>rfl
 | x::ls,i,past,w=>by
  have ne:ls++[w]≠[]:=by simp
  have e:ME i past (x::(ls++[w]))=match DY x with
    | none=>.error (1,i)
    | some y=>match GR past y with
     | some e=>.error (e,i)
     | none=>ME (i+1) (past++[y]) (ls++[w]):=by
   cases h:ls++[w] with
   | nil=>exact absurd h ne
   | cons a b=>rfl
  rw[Ft,e]
  cases h1:DY x with
  | none =>
   rw[CZ (k:=1) (by unfold Dj;rw[h1])]
   rfl
  | some y =>
   dsimp only
   cases h2:GR past y with
   | some e =>
    rw[CZ (k:=e) (by unfold Dj;rw[h1];dsimp only;rw[h2])]
    rfl
   | none =>
    dsimp only
    rw[C1 (s':=past++[y]) (by unfold Dj;rw[h1];dsimp only;rw[h2]),Ta ls (i+1) (past++[y]) w,show i+1+ls.length=i+(ls.length+1) by omega]
    rfl
structure LS where
 name:Bytes
 kinds:List Ad
def CN (s:LS) (i:Nat) (line:Bytes):Except Nat LS:=if i=0 then (match MF line with
 | none=>.error 1
 | some n=>.ok ⟨n,s.kinds⟩) else (Dj s.kinds line).map fun k=>⟨s.name,k⟩
theorem Uu (n:Bytes):∀(ls:List Bytes) (i:Nat) (past:List Ad),Bm CN (i+1) ⟨n,past⟩ ls=(Bm (fun s _ l=>Dj s l) (i+1) past ls).map fun k=>⟨n,k⟩
 | [],_,_=>rfl
 | w::ls,i,past=>by
  have e:CN ⟨n,past⟩ (i+1) w=(Dj past w).map fun k=>⟨n,k⟩:=by
   unfold CN
   rw[JJx (by omega)]
  cases h:Dj past w with
  | error k =>
   rw[CZ (k:=k) (by rw[e,h];rfl),CZ (k:=k) h]
   rfl
  | ok p =>
   rw[C1 (s':=⟨n,p⟩) (by rw[e,h];rfl),C1 (s':=p) h]
   exact Uu n ls (i+1) p
def FQ (w:Bytes) (n:Nat) (s:LS):Except Fault AN:=if w≠[]\/s.kinds.all (fun k=>!k.isSign)=true then .error (1,n) else .ok ⟨s.name,s.kinds⟩
theorem bt (t:Bytes):Eo t=HZ (FQ (Be t) (AR t).length) (Bm CN 0 ⟨[],[]⟩ (AR t)):=by
 unfold Eo
 rw[F3]
 generalize AR t=ls
 generalize Be t=w
 cases ls with
 | nil =>
  show Cj (1,0)=if w≠[]\/true=true then Cj (1,0) else _
  rw[JJz (.inr rfl)]
 | cons x ls =>
  have e1:(x::ls)++[w]=x::(ls++[w]):=rfl
  rw[e1]
  obtain⟨a,b,h⟩:∃a b,ls++[w]=a::b:=by
   cases ls with
   | nil=>exact⟨w,[],rfl⟩
   | cons a b=>exact⟨a,b++[w],rfl⟩
  have e2:CN ⟨[],[]⟩ 0 x=match MF x with
    | none=>.error 1
    | some n=>.ok ⟨n,[]⟩:=by
   unfold CN
   rw[JJz rfl]
  rw[h]
  dsimp only
  rw[<- h]
  cases hn:MF x with
  | none =>
   rw[CZ (k:=1) (by rw[e2,hn])]
   rfl
  | some n =>
   dsimp only
   rw[Ta ls 1 [] w,C1 (s':=⟨n,[]⟩) (by rw[e2,hn]),Uu n ls 0 []]
   cases Bm (fun s _ l=>Dj s l) (0+1) [] ls with
   | error e=>rfl
   | ok p =>
    show Pw _ (Nj w (1+ls.length) p)=FQ w (ls.length+1) ⟨n,p⟩
    unfold Nj FQ
    rw[QR]
    split <;> rfl
structure BS where
 name:Bytes
 entries:List BH
def C8 (L:AN) (past:List BH) (line:Bytes):Except Nat (List BH):=match Fp line with
 | none=>.error 1
 | some (n,m)=>match L.entryRow past n with
  | .error k=>.error k
  | .ok row=>.ok (past++[⟨row,m⟩])
def Nk (w:Bytes) (n:Nat) (p:List BH):Except Fault (List BH):=if w=[] then .ok p else .error (1,n)
theorem TX (L:AN):∀(ls:List Bytes) (i:Nat) (past:List BH) (w:Bytes),L.judgeEntries i past (ls++[w])=HZ (Nk w (i+ls.length)) (Bm (fun s _ l=>C8 L s l) i past ls)
 | [],i,past,w=>rfl
 | x::ls,i,past,w=>by
  have ne:ls++[w]≠[]:=by simp
  have e:L.judgeEntries i past (x::(ls++[w]))=match Fp x with
    | none=>.error (1,i)
    | some (n,m)=>match L.entryRow past n with
     | .error k=>.error (k,i)
     | .ok row=>L.judgeEntries (i+1) (past++[⟨row,m⟩]) (ls++[w]):=by
   cases h:ls++[w] with
   | nil=>exact absurd h ne
   | cons a b=>rfl
  rw[Ft,e]
  cases h1:Fp x with
  | none =>
   rw[CZ (k:=1) (by unfold C8;rw[h1])]
   rfl
  | some y =>
   obtain⟨n,m⟩:=y
   dsimp only
   cases h2:L.entryRow past n with
   | error e =>
    rw[CZ (k:=e) (by unfold C8;rw[h1];dsimp only;rw[h2])]
    rfl
   | ok row =>
    dsimp only
    rw[C1 (s':=past++[⟨row,m⟩]) (by unfold C8;rw[h1];dsimp only;rw[h2]),TX L ls (i+1) _ w,show i+1+ls.length=i+(ls.length+1) by omega]
    rfl
def Bv (L:AN) (s:BS) (i:Nat) (line:Bytes):Except Nat BS :=
 if 2<=i then (C8 L s.entries line).map fun l=>⟨s.name,l⟩
 else if i=0 then (match By (BM "book") line with
  | none=>.error 1
  | some n=>.ok ⟨n,s.entries⟩)
 else match By (BM "for") line with
  | none=>.error 1
  | some o=>if o≠L.name then .error 2 else .ok s
theorem Ut (L:AN) (n:Bytes):∀(ls:List Bytes) (i:Nat) (past:List BH),Bm (Bv L) (i+2) ⟨n,past⟩ ls=(Bm (fun s _ l=>C8 L s l) (i+2) past ls).map fun k=>⟨n,k⟩
 | [],_,_=>rfl
 | w::ls,i,past=>by
  have e:Bv L ⟨n,past⟩ (i+2) w=(C8 L past w).map fun k=>⟨n,k⟩:=by
   unfold Bv
   rw[JJz (by omega)]
  cases h:C8 L past w with
  | error k =>
   rw[CZ (k:=k) (by rw[e,h];rfl),CZ (k:=k) h]
   rfl
  | ok p =>
   rw[C1 (s':=⟨n,p⟩) (by rw[e,h];rfl),C1 (s':=p) h]
   exact Ut L n ls (i+1) p
def FP (w:Bytes) (n:Nat) (s:BS):Except Fault Bg:=if w≠[] then .error (1,n) else if n < 2 then .error (1,n) else .ok ⟨s.name,s.entries⟩
theorem br (L:AN) (t:Bytes):L.judgeBook t=HZ (FP (Be t) (AR t).length) (Bm (Bv L) 0 ⟨[],[]⟩ (AR t)):=by
 unfold X9
 rw[F3]
 generalize AR t=ls
 generalize Be t=w
 have s0:∀(s:BS) (x:Bytes),Bv L s 0 x=match By (BM "book") x with
   | none=>.error 1
   | some n=>.ok ⟨n,s.entries⟩:=fun s x=>by
  unfold Bv
  rw[JJx (by omega),JJz rfl]
 have s1:∀(s:BS) (x:Bytes),Bv L s (0+1) x=match By (BM "for") x with
   | none=>.error 1
   | some o=>if o≠L.name then .error 2 else .ok s:=fun s x=>by
  unfold Bv
  rw[JJx (by omega),JJx (by omega)]
 match ls with
 | [] =>
  show Cj (1,0)=if w≠[] then Cj (1,0) else if 0 < 2 then Cj (1,0) else _
  rw[JJz (by omega:0 < 2)]
  split <;> rfl
 | [x] =>
  show(match By (BM "book") x with
   | none=>(Cj (1,0):Except Fault Bg)
   | some n=>Cj (1,1))=_
  cases hn:By (BM "book") x with
  | none =>
   rw[CZ (k:=1) (by rw[s0,hn])]
   rfl
  | some n =>
   rw[C1 (s':=⟨n,[]⟩) (by rw[s0,hn])]
   show Cj (1,1)=if w≠[] then Cj (1,1) else if 1 < 2 then Cj (1,1) else _
   rw[JJz (by omega:1 < 2)]
   split <;> rfl
 | x::y::ls =>
  have e1:(x::y::ls)++[w]=x::y::(ls++[w]):=rfl
  rw[e1]
  have ne:(ls++[w]).isEmpty=false:=by cases ls <;> rfl
  show(match By (BM "book") x with
   | none=>(Cj (1,0):Except Fault Bg)
   | some n=>if (ls++[w]).isEmpty=true then Cj (1,1) else match By (BM "for") y with
    | none=>Cj (1,1)
    | some o=>if o≠L.name then Cj (2,1) else (L.judgeEntries 2 [] (ls++[w])).map fun l=>(⟨n,l⟩:Bg))=_
  cases hn:By (BM "book") x with
  | none =>
   rw[CZ (k:=1) (by rw[s0,hn])]
   rfl
  | some n =>
   dsimp only
   rw[ne,JJx A8,C1 (s':=⟨n,[]⟩) (by rw[s0,hn])]
   cases ho:By (BM "for") y with
   | none =>
    rw[CZ (k:=1) (by rw[s1,ho])]
    rfl
   | some o =>
    dsimp only
    by_cases hq:o≠L.name
    .rw[JJz hq,CZ (k:=2) (by rw[s1,ho];exact JJz hq)]
     rfl
    .rw[JJx hq,TX L ls 2 [] w,C1 (s':=⟨n,[]⟩) (by rw[s1,ho];exact JJx hq),Ut L n ls 0 []]
     cases Bm (fun s _ l=>C8 L s l) (0+2) [] ls with
     | error e=>rfl
     | ok p =>
      show Pw _ (Nk w (2+ls.length) p)=FP w (ls.length+2) ⟨n,p⟩
      unfold Nk FP
      rw[JJx (show ¬ls.length+2 < 2 by omega)]
      by_cases hw:w=[]
      .rw[JJz hw,JJx (fun q=>q hw)];rfl
      .rw[JJx hw,JJz hw,QR];rfl
end Fb
namespace Fb
open Flags (Bytes cutAt)
def EJ (most:Int):List Int->Int
 | [c]=>if 1<=c - 48/\c - 48<=most then c - 48 else 0
 | _=>0
theorem O3 {most n:Nat}{w:Bytes} (h:GO most w=some n):EJ (most:Int) (zs w)=(n:Int)/\1<=n:=by
 unfold GO at h
 split at h
 .rename_i c
  split at h
  .rename_i q
   cases h
   show(if 1<=(c.toNat:Int) - 48/\(c.toNat:Int) - 48<=most then (c.toNat:Int) - 48 else 0)=_/\_
   rw[JJz (by omega)]
   omega
  .cases h
 .cases h
theorem Ww {most:Nat}{w:Bytes} (h:GO most w=none):EJ (most:Int) (zs w)=0:=by
 match w,h with
 | [],_=>rfl
 | [c],h =>
  have h:(if 49<=c.toNat/\c.toNat<=48+most then some (c.toNat - 48) else none)=none:=h
  show(if 1<=(c.toNat:Int) - 48/\(c.toNat:Int) - 48<=most then (c.toNat:Int) - 48 else 0)=0
  split at h
  .cases h
  .rw[JJx (by omega)]
 | a::b::l,_=>rfl
def digs:List Int:=[48,49,50,51,52,53,54,55,56,57,97,98,99,100,101,102]
theorem bU:∀n:Nat,n < 256->(if 48<=n/\n<=57 then some (n - 48) else if 97<=n/\n<=102 then some (n - 87) else none)=if (n:Int)∈digs then some (digs.idxOf (n:Int)) else none:=by decide +kernel
theorem Nz (c:UInt8):Jv c=if (c.toNat:Int)∈digs then some (digs.idxOf (c.toNat:Int)) else none:=bU c.toNat c.toNat_lt
def GG:List Int->Int
 | []=>0
 | b::r=>GG r * 16+(digs.idxOf b:Nat)
def Dt (w:List Int):Int:=if w.length≠16\/¬(w.all fun b=>decide (b∈digs))=true then -1 else GG w
theorem Xf (k:Nat) (f:Nat->Nat):∀l:List Nat,(l.map fun i=>k * f i).sum=k * (l.map f).sum
 | []=>by simp
 | a::l=>by
  have ih:=Xf k f l
  simp only[Aq,FF,ih,Nat.mul_add]
theorem Ts:∀(l:List Nat),((DB l.length).map fun i=>l.getD i 0 % 16 * 16 ^ i).sum=l.foldr (fun d acc=>acc * 16+d % 16) 0
 | []=>rfl
 | d::l=>by
  have ih:=Ts l
  rw[Bn,Fm.range_cons,Aq,FF,HJ,YM,<- ih]
  have e:((DB l.length).map ((fun i=>(d::l).getD i 0 % 16 * 16 ^ i) ∘ fun x=>x+1)).sum=((DB l.length).map fun i=>16 * (l.getD i 0 % 16 * 16 ^ i)).sum:=Fm.sum_eq fun i _=>by
   show(d::l).getD (i+1) 0 % 16 * 16 ^ (i+1)=_
   rw[List.getD_cons_succ,Nat.pow_succ,<- Nat.mul_assoc,Nat.mul_comm]
  rw[e,Xf]
  show d % 16 * 16 ^ 0+_=_
  omega
theorem Tv {f:UInt8->Option Nat}:∀{w:Bytes},w.mapM f=none->∃c∈w,f c=none
 | [],h=>by simp at h
 | c::w,h=>by
  rw[HI] at h
  cases hc:f c with
  | none=>exact⟨c,AV,hc⟩
  | some n =>
   rw[hc] at h
   cases hw:w.mapM f with
   | none =>
    obtain⟨d,hd,e⟩:=Tv hw
    exact⟨d,Av _ hd,e⟩
   | some l=>rw[hw] at h;cases h
theorem Tw {f:UInt8->Option Nat}:∀{w:Bytes}{l:List Nat},w.mapM f=some l->l.length=w.length/\(∀c∈w,f c≠none)/\l=w.map fun c=>(f c).getD 0
 | [],l,h=>by simp at h;subst h;simp
 | c::w,l,h=>by
  rw[HI] at h
  cases hc:f c with
  | none=>rw[hc] at h;cases h
  | some n =>
   rw[hc] at h
   cases hw:w.mapM f with
   | none=>rw[hw] at h;cases h
   | some m =>
    rw[hw] at h
    have h:some (n::m)=some l:=h
    cases h
    obtain⟨h1,h2,h3⟩:=Tw hw
    refine⟨by simp[h1],fun d hd=>?_,by rw[Aq,hc,<- h3];rfl⟩
    rcases AQ.mp hd with q | q
    .rw[q,hc];simp
    .exact h2 d q
theorem Tr:∀w:Bytes,(∀c∈w,Jv c≠none)->GG (zs w)=(((w.map fun c=>(Jv c).getD 0).foldr (fun d acc=>acc * 16+d % 16) 0:Nat):Int)
 | [],_=>rfl
 | c::w,h=>by
  have ih:=Tr w fun d hd=>h d (Av _ hd)
  have hc:=h c AV
  show GG ((c.toNat:Int)::zs w)=_
  unfold GG
  rw[ih,Aq,YM]
  rw[Nz] at hc ⊢
  split at hc
  .rename_i hm
   rw[JJz hm]
   have:digs.idxOf (c.toNat:Int) < 16:=YT.mpr hm
   simp only[Option.getD_some]
   omega
  .exact absurd rfl hc
theorem cb {w:Bytes}{n:Nat} (h:IJ w=some n):Dt (zs w)=(n:Int):=by
 unfold IJ at h
 split at h
 .cases h
 .rename_i hl
  have hl:w.length=16:=by omega
  cases hm:w.mapM Jv with
  | none=>rw[hm] at h;cases h
  | some l =>
   rw[hm] at h
   have h:some (Flags.lookOf fun i=>l.getD i 0)=some n:=h
   have h:=Af h
   subst h
   obtain⟨h1,h2,h3⟩:=Tw hm
   unfold Dt
   rw[JJx]
   .rw[Tr w h2,<- h3,<- Ts,h1,hl]
    rfl
   .rintro(q | q)
    .exact q (by rw[Al,hl])
    .apply q
     rw[Cu]
     intro b hb
     obtain⟨c,hc,rfl⟩:=Bb.mp hb
     have:=h2 c hc
     rw[Nz] at this
     split at this
     .rename_i z;exact JJk z
     .exact absurd rfl this
theorem cZ {w:Bytes} (h:IJ w=none):Dt (zs w)=-1:=by
 unfold Dt
 unfold IJ at h
 split at h
 .rename_i hl
  exact JJz (.inl (by rw[Al];exact hl))
 .cases hm:w.mapM Jv with
  | some l=>rw[hm] at h;cases h
  | none =>
   obtain⟨c,hc,e⟩:=Tv hm
   refine JJz (.inr fun q=>?_)
   rw[Cu] at q
   have:=JJq (q (c.toNat:Int) (Bb.mpr ⟨c,hc,rfl⟩))
   rw[Nz,JJz this] at e
   cases e
def Az (line:Bytes):Bytes:=(cutAt 32 line).headD []
def BK (line:Bytes):Bytes:=line.drop ((Az line).length+1)
def Cn (line:Bytes):Bool:=(decide ((cutAt 46 (Az line)).length<=8)&&(cutAt 46 (Az line)).all Ck)&&Fq (BK line)
theorem Nm (line:Bytes):Fp line=if Cn line=true then some (cutAt 46 (Az line),BK line) else none:=by
 unfold Fp
 cases h:GQ 32 line with
 | none =>
  have e1:=UG h
  have e2:Az line=line:=by unfold Az;rw[e1];rfl
  have e3:BK line=[]:=by unfold BK;rw[e2];exact IS (by omega)
  have:Cn line=false:=by
   unfold Cn
   rw[e3]
   exact IG _
  rw[this]
  rfl
 | some y =>
  obtain⟨p,q⟩:=y
  obtain⟨h1,h2⟩:=UH h
  have e2:Az line=p:=by
   unfold Az
   cases hc:cutAt 32 line with
   | nil=>exact absurd hc (Ea 32 line)
   | cons w l =>
    rw[hc] at h1
    have h1:w=p:=by simpa using h1
    exact h1
  have e3:BK line=q:=by
   unfold BK
   rw[e2,h2,List.drop_append]
   simp
  unfold Cn
  rw[e2,e3]
  show((Jw p).bind fun l=>if Fq q=true then some (l,q) else none)=_
  unfold Jw
  by_cases a:(cutAt 46 p).length<=8/\(cutAt 46 p).all Ck=true
  .have a':(cutAt 46 p).length<=Py/\(cutAt 46 p).all Ck=true:=a
   simp only[JJz a']
   rw[JJk a.1,a.2]
   rfl
  .have a':¬((cutAt 46 p).length<=Py/\(cutAt 46 p).all Ck=true):=a
   simp only[JJx a']
   have:(decide ((cutAt 46 p).length<=8)&&(cutAt 46 p).all Ck)=false:=by
    rw[G9]
    intro z
    rw[BL,decide_eq_true_iff] at z
    exact a z
   rw[this,DW]
   rfl
end Fb
namespace Fb
open Flags (Bytes Fault)
section
variable {S:Type}{step:S->Nat->Bytes->Except Nat S}
theorem Oi:∀{a:List Bytes} (b:List Bytes) {i:Nat}{s s':S},Bm step i s a=.ok s'->Bm step i s (a++b)=Bm step (i+a.length) s' b
 | [],b,i,s,s',h=>by cases h;rfl
 | w::a,b,i,s,s',h=>by
  cases q:step s i w with
  | error k=>rw[CZ q] at h;cases h
  | ok s1 =>
   rw[C1 q] at h
   rw[Ft,C1 q,Oi b h,Bn,show i+1+a.length=i+(a.length+1) by omega]
def Fi (step:S->Nat->Bytes->Except Nat S) (s0:S) (ls:List Bytes) (i:Nat) (s:S):Prop:=i<=ls.length/\Bm step 0 s0 (ls.take i)=.ok s
noncomputable def rAt (step:S->Nat->Bytes->Except Nat S) (s0:S) (ls:List Bytes) (i:Nat):Int:=match Bm step 0 s0 (ls.take i),ls[i]? with
 | .ok s,some w=>(match step s i w with
  | .error k=>(k:Int)
  | .ok _=>0)
 | _,_=>0
theorem PN {s0:S}{ls:List Bytes}:Fi step s0 ls 0 s0:=⟨Ax _,by rw[List.take_zero];rfl⟩
theorem Hs {s0 s:S}{ls:List Bytes}{i:Nat}{w:Bytes} (h:Fi step s0 ls i s) (hw:ls[i]?=some w):rAt step s0 ls i=match step s i w with
  | .error k=>(k:Int)
  | .ok _=>0:=by
 unfold rAt
 rw[h.2,hw]
theorem PZ:∀{l:List Bytes}{i:Nat}{x:Bytes},l[i]?=some x->l.take (i+1)=l.take i++[x]
 | [],i,x,h=>by simp at h
 | a::l,0,x,h=>by
  have e:a=x:=Af h
  subst e
  rfl
 | a::l,i+1,x,h=>by
  have ih:=PZ (l:=l) (i:=i) (x:=x) h
  show a::l.take (i+1)=a::l.take i++[x]
  rw[ih]
  rfl
theorem PM {s0 s s':S}{ls:List Bytes}{i:Nat}{w:Bytes} (h:Fi step s0 ls i s) (hw:ls[i]?=some w) (hs:step s i w=.ok s'):Fi step s0 ls (i+1) s':=by
 have hl:i < ls.length:=(CJ.mp hw).1
 refine⟨hl,?_⟩
 rw[PZ hw,Oi [w] h.2,DK,QX (by omega),ES,C1 hs]
 rfl
theorem Jg {s0 s:S}{ls:List Bytes} (h:Fi step s0 ls ls.length s):Bm step 0 s0 ls=.ok s:=by
 have:=h.2
 rwa [MS] at this
theorem Oj {s0 s:S}{ls:List Bytes}{i k:Nat}{w:Bytes} (h:Fi step s0 ls i s) (hw:ls[i]?=some w) (hs:step s i w=.error k):Bm step 0 s0 ls=.error (k,i):=by
 have hl:i < ls.length:=(CJ.mp hw).1
 have e:ls=ls.take i++(w::ls.drop (i+1)):=by
  have q:=List.take_append_drop i ls
  rw[Jy hl] at q
  have:ls[i]=w:=by
   have:=Ba hl
   rw[hw] at this
   exact(Af this).symm
  rw[this] at q
  exact q.symm
 rw[e,Oi _ h.2,DK,QX (by omega),ES,CZ hs]
end
end Fb
namespace Fm
open Flags
end Fm
namespace Fb
end Fb
namespace Fm
open Flags
theorem C9 {α:Type} [DecidableEq α] (f:α->Nat) (a:α):∀{l:List α},l.Nodup->a∈l->(l.map f).sum=f a+((l.filter fun x=>decide (x≠a)).map f).sum
 | x::l,hn,ha=>by
  obtain⟨n1,n2⟩:=DN.mp hn
  by_cases e:x=a
  .subst e
   have hf:(l.filter fun y=>decide (y≠x))=l:=YG.mpr fun y hy=>JJk fun q=>n1 (q▸hy)
   rw[MI (by simp),hf,Aq,FF]
  .have ha':a∈l:=(AQ.mp ha).elim (fun q=>absurd q.symm e) id
   have ih:=C9 f a n2 ha'
   rw[QB (by simpa using e),Aq,FF,Aq,FF,ih]
   omega
theorem Fj {α:Type} [DecidableEq α] {f g:α->Nat}{a:α}{l:List α} (h:∀x∈l,x≠a->f x=g x):((l.filter fun x=>decide (x≠a)).map f).sum=((l.filter fun x=>decide (x≠a)).map g).sum :=
 sum_eq fun x hx=>by
  obtain⟨h1,h2⟩:=Cv.mp hx
  exact h x h1 (by simpa using h2)
def cs (l:List Spot) (s:Nat):Nat:=(l.filter fun (p:Spot)=>p.sign==s).length
def lkF (c:Nat->Nat) (l:List Spot) (s:Nat):Nat:=cs l s - c s
def nnY (Y:Nat->Bool) (l:List Spot) (s:Nat):Nat:=(l.filter fun (p:Spot)=>p.sign==s&&p.may.any Y).length
def D9 (K:List Nat) (Y:Nat->Bool) (c:Nat->Nat):Nat:=(K.map fun k=>if Y k=true then 0 else c k).sum
def Ok (K S:List Nat) (c:Nat->Nat) (l:List Spot):Prop:=∀Y:Nat->Bool,(S.map (lkF c l)).sum<=D9 K Y c+(S.map fun s=>min (lkF c l s) (nnY Y l s)).sum
def dec (c:Nat->Nat) (f:Nat):Nat->Nat:=fun k=>if k=f then c f - 1 else c k
theorem JD (c:Nat->Nat) (f:Nat):dec c f f=c f - 1:=JJz rfl
theorem Ds {c:Nat->Nat}{f k:Nat} (h:k≠f):dec c f k=c k:=JJx h
theorem JB {p:Spot}{l:List Spot}:cs (p::l) p.sign=cs l p.sign+1:=by
 unfold cs
 rw[QB (by simp),Bn]
theorem R4 {p:Spot}{l:List Spot}{s:Nat} (h:s≠p.sign):cs (p::l) s=cs l s:=by
 unfold cs
 rw[MI (by simpa using fun q=>h q.symm)]
theorem Hn {Y:Nat->Bool}{p:Spot}{l:List Spot}{s:Nat} (h:s≠p.sign):nnY Y (p::l) s=nnY Y l s:=by
 unfold nnY
 rw[MI]
 have:(p.sign==s)=false:=beq_eq_false_iff_ne.mpr fun q=>h q.symm
 rw[this];simp
theorem OL {Y:Nat->Bool}{p:Spot}{l:List Spot} (h:p.may.any Y=true):nnY Y (p::l) p.sign=nnY Y l p.sign+1:=by
 unfold nnY
 rw[QB (by simpa using h),Bn]
theorem JU {Y:Nat->Bool}{p:Spot}{l:List Spot} (h:p.may.any Y=false):nnY Y (p::l) p.sign=nnY Y l p.sign:=by
 unfold nnY
 rw[MI (by rw[h];simp)]
theorem T3 {Y:Nat->Bool}{l:List Spot}{s:Nat}:nnY Y l s<=cs l s:=Kw fun p _ h=>by
 rw[BL] at h
 exact h.1
theorem dH {Y:Nat->Bool}{l:List Spot}{s:Nat} (h:∀p∈l,p.sign=s->p.may.any Y=true):nnY Y l s=cs l s :=
 YW T3 (Kw fun p hp q=>by
  rw[BL]
  exact⟨q,h p hp (by simpa using q)⟩)
theorem OK {Y Z:Nat->Bool}{l:List Spot}{s:Nat} (h:∀p∈l,p.sign=s->p.may.any Y=true->p.may.any Z=true):nnY Y l s<=nnY Z l s:=Kw fun p hp q=>by
 rw[BL] at q ⊢
 exact⟨q.1,h p hp (by simpa using q.1) q.2⟩
theorem any_iff {l:List Nat}{Y:Nat->Bool}:l.any Y=true↔∃k∈l,Y k=true:=IM
structure Nest (K S:List Nat) (l:List Spot):Prop where
 kn:K.Nodup
 sn:S.Nodup
 inS:∀p∈l,p.sign∈S
 inK:∀p∈l,∀k∈p.may,k∈K
 dis:∀s∈S,s∉K
 up:l.Pairwise fun p q=>p.sign=q.sign->∀k∈p.may,k∈q.may
 one:∀p∈l,∀q∈l,∀k,k∈p.may->k∈q.may->p.sign=q.sign
 asc:∀p∈l,(p.sign::p.may).Pairwise (· < ·)
theorem Nest.tail {K S:List Nat}{p:Spot}{l:List Spot} (h:Nest K S (p::l)):Nest K S l :=
 ⟨h.kn,h.sn,fun q hq=>h.inS q (Av _ hq),fun q hq=>h.inK q (Av _ hq),h.dis,(Dc.mp h.up).2,fun q hq r hr=>h.one q (Av _ hq) r (Av _ hr),fun q hq=>h.asc q (Av _ hq)⟩
theorem Nest.out {K S:List Nat}{l:List Spot} (h:Nest K S l) {p:Spot} (hp:p∈l):p.sign∉K:=h.dis _ (h.inS p hp)
theorem Nest.later {K S:List Nat}{p:Spot}{l:List Spot} (h:Nest K S (p::l)) {q:Spot} (hq:q∈l) (e:q.sign=p.sign) {k:Nat} (hk:k∈p.may):k∈q.may:=(Dc.mp h.up).1 q hq e.symm k hk
theorem Iy {K:List Nat} (hn:K.Nodup) {k0:Nat} (hk:k0∈K) (Y:Nat->Bool) (c:Nat->Nat):D9 K Y c=(if Y k0=true then 0 else c k0)+((K.filter fun x=>decide (x≠k0)).map fun k=>if Y k=true then 0 else c k).sum:=C9 _ k0 hn hk
theorem NW {K:List Nat}{f:Nat} (h:f∉K) (Y:Nat->Bool) (c:Nat->Nat):D9 K Y (dec c f)=D9 K Y c:=sum_eq fun k hk=>by
 have e:k≠f:=fun q=>h (by rw[<- q];exact hk)
 rw[Ds e]
theorem G1 {c:Nat->Nat}{p:Spot}{l:List Spot} (h:0 < c p.sign) (s:Nat):lkF (dec c p.sign) l s=lkF c (p::l) s:=by
 unfold lkF
 by_cases e:s=p.sign
 .subst e
  rw[JB,JD]
  omega
 .rw[R4 e,Ds e]
theorem LC {c:Nat->Nat}{p:Spot}{l:List Spot}{k:Nat} (hk:p.sign≠k):lkF (dec c k) l p.sign=lkF c (p::l) p.sign - 1:=by
 unfold lkF
 rw[JB,Ds hk]
 omega
theorem LB {c:Nat->Nat}{p:Spot}{l:List Spot}{k s:Nat} (hs:s≠p.sign) (hk:s≠k):lkF (dec c k) l s=lkF c (p::l) s:=by
 unfold lkF
 rw[R4 hs,Ds hk]
theorem cW {c:Nat->Nat}{l:List Spot}{s:Nat}:lkF c l s<=cs l s:=Nat.sub_le _ _
def Gi:(Nat->Nat)->List Spot->List Nat->Prop
 | _,[],[]=>True
 | c,p::l,f::g=>0 < c f/\(f=p.sign\/(f∈p.may/\0 < lkF c (p::l) p.sign))/\Gi (dec c f) l g
 | _,_,_=>False
theorem UB {K S:List Nat}{c:Nat->Nat}{p:Spot}{l:List Spot} (N:Nest K S (p::l)) (h0:0 < c p.sign) (h:Ok K S (dec c p.sign) l):Ok K S c (p::l):=fun Y=>by
 have q:=h Y
 rw[NW (N.out AV)] at q
 have e:(S.map (lkF (dec c p.sign) l))=S.map (lkF c (p::l)):=ER fun s _=>G1 h0 s
 rw[e] at q
 refine CW q (QS (Ji fun s _=>?_) _)
 rw[G1 h0 s]
 have:nnY Y l s<=nnY Y (p::l) s:=by
  by_cases e:s=p.sign
  .subst e
   cases hy:p.may.any Y with
   | true=>rw[OL hy];omega
   | false=>rw[JU hy];exact Aa _
  .rw[Hn e];exact Aa _
 omega
theorem UA {K S:List Nat}{c:Nat->Nat}{p:Spot}{l:List Spot} (N:Nest K S (p::l)) {k:Nat} (hk:k∈p.may) (h0:0 < c k) (hl:0 < lkF c (p::l) p.sign) (h:Ok K S (dec c k) l):Ok K S c (p::l):=fun Y=>by
 have q:=h Y
 have hkK:=N.inK p AV k hk
 have hsS:=N.inS p AV
 have hks:p.sign≠k:=fun e=>N.out AV (e▸hkK)
 have hsk:∀s∈S,s≠p.sign->lkF (dec c k) l s=lkF c (p::l) s:=fun s hs e=>LB e fun z=>N.dis s hs (z▸hkK)
 have eA:((S.filter fun x=>decide (x≠p.sign)).map (lkF (dec c k) l)).sum=((S.filter fun x=>decide (x≠p.sign)).map (lkF c (p::l))).sum:=Fj hsk
 have eB:((S.filter fun x=>decide (x≠p.sign)).map fun s=>min (lkF (dec c k) l s) (nnY Y l s)).sum=((S.filter fun x=>decide (x≠p.sign)).map fun s=>min (lkF c (p::l) s) (nnY Y (p::l) s)).sum:=Fj fun s hs e=>by rw[hsk s hs e,Hn e]
 have eC:((K.filter fun x=>decide (x≠k)).map fun x=>if Y x=true then 0 else dec c k x).sum=((K.filter fun x=>decide (x≠k)).map fun x=>if Y x=true then 0 else c x).sum:=Fj fun x _ e=>by rw[Ds e]
 rw[C9 _ p.sign N.sn hsS,C9 (fun s=>min (lkF (dec c k) l s) (nnY Y l s)) p.sign N.sn hsS,eA,eB,LC hks,Iy N.kn hkK,eC,JD] at q
 rw[C9 _ p.sign N.sn hsS,C9 (fun s=>min (lkF c (p::l) s) (nnY Y (p::l) s)) p.sign N.sn hsS,Iy N.kn hkK]
 generalize ((S.filter fun x=>decide (x≠p.sign)).map (lkF c (p::l))).sum=A at q ⊢
 generalize ((S.filter fun x=>decide (x≠p.sign)).map fun s=>min (lkF c (p::l) s) (nnY Y (p::l) s)).sum=B at q ⊢
 generalize ((K.filter fun x=>decide (x≠k)).map fun x=>if Y x=true then 0 else c x).sum=C at q ⊢
 cases hy:Y k with
 | true =>
  rw[hy] at q
  rw[OL (any_iff.mpr ⟨k,hk,hy⟩)]
  simp only[if_true] at q ⊢
  omega
 | false =>
  rw[hy] at q
  have:nnY Y l p.sign<=nnY Y (p::l) p.sign:=by
   cases hz:p.may.any Y with
   | true=>rw[OL hz];omega
   | false=>rw[JU hz];exact Aa _
  simp only[Dz,if_false] at q ⊢
  omega
theorem LJ {K S:List Nat}:∀{l:List Spot}{c:Nat->Nat}{g:List Nat},Nest K S l->Gi c l g->Ok K S c l
 | [],c,[],N,_=>fun Y=>by
  have:(S.map (lkF c [])).sum=0:=by
   rw[show S.map (lkF c [])=S.map fun _=>0 from ER fun s _=>MX _]
   exact IB S
  omega
 | p::l,c,f::g,N,h=>by
  obtain⟨h0,h1,h2⟩:=h
  have ih:=LJ N.tail h2
  rcases h1 with rfl | ⟨h1,h3⟩
  .exact UB N h0 ih
  .exact UA N h1 h0 h3 ih
 | [],c,_::_,_,h=>nomatch h
 | _::_,c,[],_,h=>nomatch h
theorem cp {S:List Nat}{f g:Nat->Nat}:(S.map fun s=>min (f s) (g s)).sum<=(S.map f).sum:=Ji fun s _=>QY _ _
theorem gg {K S:List Nat}{c:Nat->Nat}{p:Spot}{l:List Spot} (N:Nest K S (p::l)) (h:Ok K S c (p::l)) (hl:lkF c (p::l) p.sign=0):0 < c p.sign/\Ok K S (dec c p.sign) l:=by
 have h0:0 < c p.sign:=by
  unfold lkF at hl
  rw[JB] at hl
  omega
 refine⟨h0,fun Y=>?_⟩
 have q:=h Y
 have e1:S.map (lkF (dec c p.sign) l)=S.map (lkF c (p::l)):=ER fun s _=>G1 h0 s
 have e2:(S.map fun s=>min (lkF (dec c p.sign) l s) (nnY Y l s))=S.map fun s=>min (lkF c (p::l) s) (nnY Y (p::l) s):=ER fun s _=>by
  rw[G1 h0 s]
  by_cases e:s=p.sign
  .rw[e,hl,KC,KC]
  .rw[Hn e]
 rw[NW (N.out AV),e1,e2]
 exact q
theorem gd {K S:List Nat}{c:Nat->Nat}{p:Spot}{l:List Spot} (N:Nest K S (p::l)) (h:Ok K S c (p::l)) (hl:0 < lkF c (p::l) p.sign) {k:Nat} (hk:k∈p.may) (h0:0 < c k):Ok K S (dec c k) l:=fun Y=>by
 have hkK:=N.inK p AV k hk
 have hsS:=N.inS p AV
 have hks:p.sign≠k:=fun e=>N.out AV (e▸hkK)
 have hsk:∀s∈S,s≠p.sign->lkF (dec c k) l s=lkF c (p::l) s:=fun s hs e=>LB e fun z=>N.dis s hs (z▸hkK)
 have eA:((S.filter fun x=>decide (x≠p.sign)).map (lkF (dec c k) l)).sum=((S.filter fun x=>decide (x≠p.sign)).map (lkF c (p::l))).sum:=Fj hsk
 have eB:((S.filter fun x=>decide (x≠p.sign)).map fun s=>min (lkF (dec c k) l s) (nnY Y l s)).sum=((S.filter fun x=>decide (x≠p.sign)).map fun s=>min (lkF c (p::l) s) (nnY Y (p::l) s)).sum:=Fj fun s hs e=>by rw[hsk s hs e,Hn e]
 have eC:((K.filter fun x=>decide (x≠k)).map fun x=>if Y x=true then 0 else dec c k x).sum=((K.filter fun x=>decide (x≠k)).map fun x=>if Y x=true then 0 else c x).sum:=Fj fun x _ e=>by rw[Ds e]
 rw[C9 _ p.sign N.sn hsS,C9 (fun s=>min (lkF (dec c k) l s) (nnY Y l s)) p.sign N.sn hsS,eA,eB,LC hks,Iy N.kn hkK,eC,JD]
 have q:=h Y
 rw[C9 _ p.sign N.sn hsS,C9 (fun s=>min (lkF c (p::l) s) (nnY Y (p::l) s)) p.sign N.sn hsS,Iy N.kn hkK] at q
 have hcs:lkF c (p::l) p.sign<=cs l p.sign+1:=by
  have:=cW (c:=c) (l:=p::l) (s:=p.sign)
  rw[JB] at this
  exact this
 have all:p.may.any Y=true->nnY Y l p.sign=cs l p.sign:=fun z=>dH fun r hr e=>by
  obtain⟨x,hx,hy⟩:=any_iff.mp z
  exact any_iff.mpr ⟨x,N.later hr e hx,hy⟩
 cases hy:Y k with
 | true =>
  have e:=all (any_iff.mpr ⟨k,hk,hy⟩)
  have m:=QY (lkF c (p::l) p.sign) (nnY Y (p::l) p.sign)
  rw[hy] at q
  generalize ((S.filter fun x=>decide (x≠p.sign)).map (lkF c (p::l))).sum=A at q ⊢
  generalize ((S.filter fun x=>decide (x≠p.sign)).map fun s=>min (lkF c (p::l) s) (nnY Y (p::l) s)).sum=B at q ⊢
  generalize ((K.filter fun x=>decide (x≠k)).map fun x=>if Y x=true then 0 else c x).sum=C at q ⊢
  simp only[if_true] at q ⊢
  rw[e]
  omega
 | false =>
  have z:=h fun x=>Y x || x==k
  have zB:((S.filter fun x=>decide (x≠p.sign)).map fun s=>min (lkF c (p::l) s) (nnY (fun x=>Y x || x==k) (p::l) s)).sum=((S.filter fun x=>decide (x≠p.sign)).map fun s=>min (lkF c (p::l) s) (nnY Y (p::l) s)).sum:=Fj fun s _ e=>by
   have:nnY (fun x=>Y x || x==k) (p::l) s=nnY Y (p::l) s:=YW (OK fun r hr es w=>by
    obtain⟨x,hx,hw⟩:=any_iff.mp w
    rcases(Jt _ _).mp hw with hw | hw
    .exact any_iff.mpr ⟨x,hx,hw⟩
    .have ex:x=k:=by simpa using hw
     exact absurd ((N.one r hr p AV k (ex▸hx) hk).symm.trans es) (Ar e)) (OK fun r hr es w=>by
    obtain⟨x,hx,hw⟩:=any_iff.mp w
    exact any_iff.mpr ⟨x,hx,by rw[hw];rfl⟩)
   rw[this]
  have zC:((K.filter fun x=>decide (x≠k)).map fun x=>if (Y x || x==k)=true then 0 else c x).sum=((K.filter fun x=>decide (x≠k)).map fun x=>if Y x=true then 0 else c x).sum:=Fj fun x _ e=>by
   have:(x==k)=false:=beq_eq_false_iff_ne.mpr e
   rw[this,L4]
  rw[C9 _ p.sign N.sn hsS,C9 (fun s=>min (lkF c (p::l) s) (nnY (fun x=>Y x || x==k) (p::l) s)) p.sign N.sn hsS,Iy N.kn hkK,zB,zC,JJz (show(Y k || k==k)=true by simp)] at z
  have m:=QY (lkF c (p::l) p.sign) (nnY (fun x=>Y x || x==k) (p::l) p.sign)
  rw[hy] at q
  generalize ((S.filter fun x=>decide (x≠p.sign)).map (lkF c (p::l))).sum=A at q z ⊢
  generalize ((S.filter fun x=>decide (x≠p.sign)).map fun s=>min (lkF c (p::l) s) (nnY Y (p::l) s)).sum=B at q z ⊢
  generalize ((K.filter fun x=>decide (x≠k)).map fun x=>if Y x=true then 0 else c x).sum=C at q z ⊢
  simp only[Dz,if_false] at q ⊢
  cases hp:p.may.any Y with
  | true =>
   rw[all hp]
   omega
  | false =>
   rw[JU hp] at q
   omega
theorem gf {K S:List Nat}{c:Nat->Nat}{p:Spot}{l:List Spot} (N:Nest K S (p::l)) (h:Ok K S c (p::l)) (hl:0 < lkF c (p::l) p.sign) (hno:∀k∈p.may,c k=0):0 < c p.sign/\Ok K S (dec c p.sign) l:=by
 have hsS:=N.inS p AV
 have h0:0 < c p.sign:=by
  have q:=h fun x=>!p.may.contains x
  have e1:D9 K (fun x=>!p.may.contains x) c=0:=by
   unfold D9
   rw[show(K.map fun k=>if (!p.may.contains k)=true then 0 else c k)=K.map fun _=>0 from ER fun k _=>by
    by_cases hm:k∈p.may
    .rw[hno k hm];simp
    .have:p.may.contains k=false:=by simpa using hm
     rw[this];simp]
   exact IB K
  have e2:p.may.any (fun x=>!p.may.contains x)=false:=by
   cases z:p.may.any (fun x=>!p.may.contains x) with
   | false=>rfl
   | true =>
    obtain⟨x,hx,hw⟩:=any_iff.mp z
    have:p.may.contains x=true:=by simpa using hx
    rw[this] at hw
    cases hw
  have e3:((S.filter fun x=>decide (x≠p.sign)).map fun s=>min (lkF c (p::l) s) (nnY (fun x=>!p.may.contains x) (p::l) s)).sum<=((S.filter fun x=>decide (x≠p.sign)).map (lkF c (p::l))).sum:=cp
  rw[C9 _ p.sign N.sn hsS,C9 (fun s=>min (lkF c (p::l) s) (nnY (fun x=>!p.may.contains x) (p::l) s)) p.sign N.sn hsS,e1,JU e2] at q
  have e4:=T3 (Y:=fun x=>!p.may.contains x) (l:=l) (s:=p.sign)
  have e5:lkF c (p::l) p.sign=cs l p.sign+1 - c p.sign:=by unfold lkF;rw[JB]
  omega
 refine⟨h0,fun Y=>?_⟩
 have q:=h fun x=>Y x&&!p.may.contains x
 have e1:S.map (lkF (dec c p.sign) l)=S.map (lkF c (p::l)):=ER fun s _=>G1 h0 s
 have e2:D9 K (fun x=>Y x&&!p.may.contains x) c=D9 K Y c:=sum_eq fun k _=>by
  by_cases hm:k∈p.may
  .rw[hno k hm];simp
  .have:p.may.contains k=false:=by simpa using hm
   show(if (Y k&&!p.may.contains k)=true then 0 else c k)=_
   rw[this];simp
 have e3:p.may.any (fun x=>Y x&&!p.may.contains x)=false:=by
  cases z:p.may.any (fun x=>Y x&&!p.may.contains x) with
  | false=>rfl
  | true =>
   obtain⟨x,hx,hw⟩:=any_iff.mp z
   have:p.may.contains x=true:=by simpa using hx
   rw[this] at hw
   simp at hw
 rw[NW (N.out AV),e1]
 rw[e2] at q
 refine CW q (QS (Ji fun s _=>?_) _)
 rw[G1 h0 s]
 have mono:nnY (fun x=>Y x&&!p.may.contains x) l s<=nnY Y l s:=OK fun r _ _ w=>by
  obtain⟨x,hx,hw⟩:=any_iff.mp w
  exact any_iff.mpr ⟨x,hx,((BL _ _).mp hw).1⟩
 have:nnY (fun x=>Y x&&!p.may.contains x) (p::l) s=nnY (fun x=>Y x&&!p.may.contains x) l s:=by
  by_cases e:s=p.sign
  .subst e;exact JU e3
  .exact Hn e
 rw[this]
 omega
theorem Ki {K S:List Nat}:∀{l:List Spot}{c:Nat->Nat},Nest K S l->Ok K S c l->∃g,Gi c l g
 | [],c,_,_=>⟨[],trivial⟩
 | p::l,c,N,h=>by
  by_cases hl:lkF c (p::l) p.sign=0
  .obtain⟨h0,h1⟩:=gg N h hl
   obtain⟨g,hg⟩:=Ki N.tail h1
   exact⟨p.sign::g,h0,.inl rfl,hg⟩
  .have hl:0 < lkF c (p::l) p.sign:=YY hl
   by_cases hk:∃k∈p.may,0 < c k
   .obtain⟨k,hk,h0⟩:=hk
    obtain⟨g,hg⟩:=Ki N.tail (gd N h hl hk h0)
    exact⟨k::g,h0,.inr ⟨hk,hl⟩,hg⟩
   .obtain⟨h0,h1⟩:=gf N h hl fun k hm=>Nat.eq_zero_of_not_pos fun z=>hk ⟨k,hm,z⟩
    obtain⟨g,hg⟩:=Ki N.tail h1
    exact⟨p.sign::g,h0,.inl rfl,hg⟩
end Fm
namespace Fm
open Flags
theorem PR {f:Nat->Nat}:∀{T S:List Nat},S.Nodup->T.Nodup->(∀t∈T,t∈S)->(∀s∈S,s∉T->f s=0)->(S.map f).sum=(T.map f).sum
 | [],S,_,_,_,h=>by
  rw[show S.map f=S.map fun _=>0 from ER fun s hs=>h s hs DZ]
  exact IB S
 | t::T,S,hs,ht,hsub,h=>by
  obtain⟨t1,t2⟩:=DN.mp ht
  rw[C9 f t hs (hsub t AV),Aq,FF]
  have e:=PR (f:=f) (T:=T) (S:=S.filter fun x=>decide (x≠t)) (hs.sublist MJ) t2 (fun x hx=>Cv.mpr ⟨hsub x (Av _ hx),JJk (fun (q:x=t)=>t1 (by rw[<- q];exact hx))⟩) fun s hs' hn=>by
   obtain⟨m1,m2⟩:=Cv.mp hs'
   exact h s m1 fun q=>(AQ.mp q).elim (fun z=>(JJq m2) z) hn
  rw[e]
def cOf (left:List Nat):Nat->Nat:=fun k=>left.getD k 0
theorem aD {l:List Spot}{s:Nat} (h:∀p∈l,p.sign≠s):cs l s=0:=by
 unfold cs
 rw[HH,YF]
 intro p hp
 simpa using h p hp
theorem Nl {L:Locker}{left:List Nat}{l:List Spot}{S:List Nat} (N:Nest L.sameKinds S l):L.enough left l=true↔Ok L.sameKinds S (cOf left) l:=by
 have hd:((l.map fun (p:Spot)=>p.sign).eraseDups).Nodup:=ON _ _ (Aa _)
 have sub:∀t∈(l.map fun (p:Spot)=>p.sign).eraseDups,t∈S:=fun t ht=>by
  obtain⟨p,hp,rfl⟩:=Bb.mp (J3.mp ht)
  exact N.inS p hp
 have zero:∀s∈S,s∉(l.map fun (p:Spot)=>p.sign).eraseDups->lkF (cOf left) l s=0:=fun s _ hn=>by
  unfold lkF
  rw[aD fun p hp e=>hn (J3.mpr (Bb.mpr ⟨p,hp,e⟩)),MX]
 have e1:((l.map fun (p:Spot)=>p.sign).eraseDups.map (lacks left l)).sum=(S.map (lkF (cOf left) l)).sum:=(PR N.sn hd sub zero).symm
 have e2:∀Y:Nat->Bool,((l.map fun (p:Spot)=>p.sign).eraseDups.map fun s=>min (lkF (cOf left) l s) (nnY Y l s)).sum=(S.map fun s=>min (lkF (cOf left) l s) (nnY Y l s)).sum:=fun Y=>(PR N.sn hd sub fun s hs hn=>by rw[zero s hs hn,KC]).symm
 have e3:∀Y:Nat->Bool,((L.sameKinds.filter fun k=>!Y k).map fun k=>left.getD k 0).sum=D9 L.sameKinds Y (cOf left):=fun Y=>by
  rw[Xe]
  refine sum_eq fun k _=>?_
  cases Y k <;> rfl
 unfold Locker.enough
 dsimp only
 rw[Cu]
 constructor
 .intro h Y
  have q:=JJq (h (L.sameKinds.filter Y) (Sf _))
  rw[e1] at q
  have m:∀k∈L.sameKinds,(L.sameKinds.filter Y).contains k=Y k:=fun k hk=>by
   cases hy:Y k with
   | true=>simpa using Cv.mpr ⟨hk,hy⟩
   | false =>
    cases z:(L.sameKinds.filter Y).contains k with
    | false=>rfl
    | true =>
     have:=(Cv.mp (contains_mem.mp z)).2
     rw[hy] at this;cases this
  have c1:((L.sameKinds.filter fun k=>!(L.sameKinds.filter Y).contains k).map fun k=>left.getD k 0).sum=D9 L.sameKinds Y (cOf left):=by
   rw[<- e3 Y]
   congr 2
   exact QA fun k hk=>by rw[m k hk]
  have c2:((l.map fun (p:Spot)=>p.sign).eraseDups.map fun s=>min (lacks left l s) ((l.filter fun (p:Spot)=>p.sign==s&&p.may.any fun (k:Nat)=>(L.sameKinds.filter Y).contains k).length)).sum=(S.map fun s=>min (lkF (cOf left) l s) (nnY Y l s)).sum:=by
   rw[<- e2 Y]
   refine sum_eq fun s _=>?_
   have:(l.filter fun (p:Spot)=>p.sign==s&&p.may.any fun (k:Nat)=>(L.sameKinds.filter Y).contains k)=l.filter fun (p:Spot)=>p.sign==s&&p.may.any Y:=QA fun p hp=>by
    congr 1
    rw[Dy,any_iff,any_iff]
    exact⟨fun ⟨k,hk,z⟩=>⟨k,hk,by rw[<- m k (N.inK p hp k hk)];exact z⟩,fun ⟨k,hk,z⟩=>⟨k,hk,by rw[m k (N.inK p hp k hk)];exact z⟩⟩
   rw[this]
   rfl
  rw[c1,c2] at q
  exact q
 .intro h y _
  have q:=h fun k=>y.contains k
  rw[<- e1,<- e2,<- e3] at q
  exact JJk q
theorem K8 (left:List Nat) (f:Nat):cOf (less1 left f)=dec (cOf left) f:=funext fun k=>by
 unfold cOf less1 dec
 rw[GU,List.getElem?_set]
 by_cases e:f=k
 .subst e
  rw[JJz rfl,JJz rfl]
  by_cases hf:f < left.length
  .rw[JJz hf];rfl
  .rw[JJx hf]
   show 0=left.getD f 0 - 1
   rw[GU,MN (by omega)]
   rfl
 .rw[JJx e,JJx fun q=>e q.symm]
  show _=left.getD k 0
  rw[GU]
def N6:List Nat->List Nat->Prop
 | [],[]=>True
 | f::g,f'::g'=>f < f'\/(f=f'/\N6 g g')
 | _,_=>False
theorem Se {L:Locker}{S:List Nat}:∀{l:List Spot}{left:List Nat},Nest L.sameKinds S l->Ok L.sameKinds S (cOf left) l->Gi (cOf left) l (L.fill l left)/\∀g,Gi (cOf left) l g->N6 (L.fill l left) g
 | [],left,_,_=>by
  unfold Locker.fill
  refine⟨trivial,fun g hg=>?_⟩
  cases g with
  | nil=>trivial
  | cons _ _=>exact nomatch hg
 | p::l,left,N,h=>by
  have N':=N.tail
  have cand:∀f,f∈(p.sign::if 0 < lacks left (p::l) p.sign then p.may else []).filter (fun (f:Nat)=>decide (0 < left.getD f 0)&&L.enough (less1 left f) l)↔(0 < cOf left f/\(f=p.sign\/(f∈p.may/\0 < lkF (cOf left) (p::l) p.sign))/\Ok L.sameKinds S (dec (cOf left) f) l):=fun f=>by
   have hl:lacks left (p::l) p.sign=lkF (cOf left) (p::l) p.sign:=rfl
   rw[Cv,BL,decide_eq_true_eq,Nl N',K8,AQ,hl]
   by_cases z:0 < lkF (cOf left) (p::l) p.sign
   .rw[JJz z]
    exact⟨fun ⟨q,a,b⟩=>⟨a,q.imp id fun w=>⟨w,z⟩,b⟩,fun ⟨a,q,b⟩=>⟨q.imp id And.left,a,b⟩⟩
   .rw[JJx z]
    exact⟨fun ⟨q,a,b⟩=>⟨a,q.imp id fun w=>(nomatch w),b⟩,fun ⟨a,q,b⟩=>⟨q.imp id fun w=>absurd w.2 z,a,b⟩⟩
  have unf:L.fill (p::l) left=(((p.sign::if 0 < lacks left (p::l) p.sign then p.may else []).filter (fun (f:Nat)=>decide (0 < left.getD f 0)&&L.enough (less1 left f) l)).headD 0)::L.fill l (less1 left (((p.sign::if 0 < lacks left (p::l) p.sign then p.may else []).filter (fun (f:Nat)=>decide (0 < left.getD f 0)&&L.enough (less1 left f) l)).headD 0)):=by
   rw[Locker.fill]
  have asc:((p.sign::if 0 < lacks left (p::l) p.sign then p.may else []).filter (fun (f:Nat)=>decide (0 < left.getD f 0)&&L.enough (less1 left f) l)).Pairwise (· < ·):=by
   refine P5 _ ?_
   have:=N.asc p AV
   split
   .exact this
   .exact MQ _ _
  obtain⟨g0,h0⟩:=Ki N h
  have ne:(p.sign::if 0 < lacks left (p::l) p.sign then p.may else []).filter (fun (f:Nat)=>decide (0 < left.getD f 0)&&L.enough (less1 left f) l)≠[]:=by
   cases g0 with
   | nil=>exact nomatch h0
   | cons f g =>
    obtain⟨a,b,c⟩:=h0
    intro z
    have:=(cand f).mpr ⟨a,b,LJ N' c⟩
    rw[z] at this
    cases this
  rw[unf]
  generalize (p.sign::if 0 < lacks left (p::l) p.sign then p.may else []).filter (fun (f:Nat)=>decide (0 < left.getD f 0)&&L.enough (less1 left f) l)=cs0 at cand asc ne ⊢
  cases cs0 with
  | nil=>exact absurd rfl ne
  | cons f fs =>
   obtain⟨a1,_⟩:=Dc.mp asc
   obtain⟨b1,b2,b3⟩:=(cand f).mp AV
   have e:((f::fs).headD 0)=f:=rfl
   rw[e]
   rw[<- K8] at b3
   obtain⟨i1,i2⟩:=Se N' b3
   refine⟨⟨b1,b2,by rw[<- K8];exact i1⟩,fun g hg=>?_⟩
   cases g with
   | nil=>exact nomatch hg
   | cons f' g' =>
    obtain⟨c1,c2,c3⟩:=hg
    have m:=(cand f').mpr ⟨c1,c2,LJ N' c3⟩
    rcases AQ.mp m with z | z
    .subst z
     exact .inr ⟨rfl,i2 g' (by rw[K8];exact c3)⟩
    .exact .inl (a1 f' z)
end Fm
namespace Fm
open Flags
def DQ:(Nat->Nat)->List Spot->List Nat->Prop
 | _,[],[]=>True
 | c,p::l,f::g=>0 < c f/\(f=p.sign\/f∈p.may)/\DQ (dec c f) l g
 | _,_,_=>False
def ns:List Spot->List Nat->Nat
 | p::l,f::g=>(if f=p.sign then 0 else 1)+ns l g
 | _,_=>0
theorem LD {K S:List Nat}{p:Spot}{l:List Spot} (N:Nest K S (p::l)) {k:Nat} (hk:k∈p.may):k≠p.sign:=fun e=>N.out (AV (a:=p) (l:=l)) (e▸N.inK p AV k hk)
theorem OA {K S:List Nat}{c:Nat->Nat}{p:Spot}{l:List Spot} (h0:0 < c p.sign):(S.map (lkF (dec c p.sign) l)).sum=(S.map (lkF c (p::l))).sum:=sum_eq fun s _=>G1 h0 s
theorem N9 {K S:List Nat}{c:Nat->Nat}{p:Spot}{l:List Spot} (N:Nest K S (p::l)) {k:Nat} (hk:k∈p.may):(S.map (lkF c (p::l))).sum=lkF c (p::l) p.sign+((S.filter fun x=>decide (x≠p.sign)).map (lkF c (p::l))).sum/\(S.map (lkF (dec c k) l)).sum=lkF c (p::l) p.sign - 1+((S.filter fun x=>decide (x≠p.sign)).map (lkF c (p::l))).sum:=by
 have hkK:=N.inK p AV k hk
 have hsS:=N.inS p AV
 have hks:p.sign≠k:=fun e=>N.out AV (e▸hkK)
 have hsk:∀s∈S,s≠p.sign->lkF (dec c k) l s=lkF c (p::l) s:=fun s hs e=>LB e fun z=>N.dis s hs (z▸hkK)
 refine⟨C9 _ p.sign N.sn hsS,?_⟩
 rw[C9 _ p.sign N.sn hsS,Fj hsk,LC hks]
theorem Nq {K S:List Nat}:∀{l:List Spot}{c:Nat->Nat}{g:List Nat},Nest K S l->DQ c l g->(S.map (lkF c l)).sum<=ns l g
 | [],c,[],_,_=>by
  rw[show S.map (lkF c [])=S.map fun _=>0 from ER fun s _=>MX _,IB S]
  exact Ax _
 | p::l,c,f::g,N,⟨h0,h1,h2⟩=>by
  have ih:=Nq N.tail h2
  show _<=(if f=p.sign then 0 else 1)+ns l g
  rcases h1 with rfl | h1
  .rw[OA (K:=K) h0] at ih
   rw[JJz rfl]
   omega
  .obtain⟨e1,e2⟩:=N9 N h1 (c:=c)
   rw[JJx (LD N h1)]
   omega
 | [],c,_::_,_,h=>nomatch h
 | _::_,c,[],_,h=>nomatch h
theorem Nb {K S:List Nat}:∀{l:List Spot}{c:Nat->Nat}{g:List Nat},Nest K S l->DQ c l g->ns l g=(S.map (lkF c l)).sum->Gi c l g
 | [],c,[],_,_,_=>trivial
 | p::l,c,f::g,N,⟨h0,h1,h2⟩,hn=>by
  have hn:(if f=p.sign then 0 else 1)+ns l g=(S.map (lkF c (p::l))).sum:=hn
  have le:=Nq N.tail h2
  rcases h1 with rfl | h1
  .rw[JJz rfl,ES,<- OA (K:=K) h0] at hn
   exact⟨h0,.inl rfl,Nb N.tail h2 hn⟩
  .obtain⟨e1,e2⟩:=N9 N h1 (c:=c)
   rw[JJx (LD N h1)] at hn
   have hp:0 < lkF c (p::l) p.sign:=by omega
   exact⟨h0,.inr ⟨h1,hp⟩,Nb N.tail h2 (by omega)⟩
 | [],c,_::_,_,h,_=>nomatch h
 | _::_,c,[],_,h,_=>nomatch h
theorem Sh {K S:List Nat}:∀{l:List Spot}{c:Nat->Nat}{g:List Nat},Nest K S l->Gi c l g->DQ c l g/\ns l g=(S.map (lkF c l)).sum
 | [],c,[],_,_=>⟨trivial,by
  rw[show S.map (lkF c [])=S.map fun _=>0 from ER fun s _=>MX _,IB S]
  rfl⟩
 | p::l,c,f::g,N,⟨h0,h1,h2⟩=>by
  obtain⟨i1,i2⟩:=Sh N.tail h2
  rcases h1 with rfl | ⟨h1,hp⟩
  .refine⟨⟨h0,.inl rfl,i1⟩,?_⟩
   show(if p.sign=p.sign then 0 else 1)+ns l g=_
   rw[JJz rfl,i2,OA (K:=K) h0,ES]
  .obtain⟨e1,e2⟩:=N9 N h1 (c:=c)
   refine⟨⟨h0,.inr h1,i1⟩,?_⟩
   show(if f=p.sign then 0 else 1)+ns l g=_
   rw[JJx (LD N h1),i2]
   omega
 | [],c,_::_,_,h=>nomatch h
 | _::_,c,[],_,h=>nomatch h
def NI (c:Nat->Nat) (l:List Spot) (h:List Nat):Prop:=DQ c l h/\∀g,DQ c l g->ns l h < ns l g\/(ns l h=ns l g/\N6 h g)
theorem bC {L:Locker}{S:List Nat}{l:List Spot}{left:List Nat} (N:Nest L.sameKinds S l) (h:L.enough left l=true):NI (cOf left) l (L.fill l left):=by
 obtain⟨h1,h2⟩:=Se N ((Nl N).mp h)
 obtain⟨f1,f2⟩:=Sh N h1
 refine⟨f1,fun g hg=>?_⟩
 have le:=Nq N hg
 by_cases e:ns l g=(S.map (lkF (cOf left) l)).sum
 .exact .inr ⟨f2.trans e.symm,h2 g (Nb N hg e)⟩
 .exact .inl (by omega)
theorem dR {K S:List Nat}{c:Nat->Nat}{p:Spot}{l:List Spot} (N:Nest K S (p::l)) {k:Nat} (hk:k∈p.may) (hl:lkF c (p::l) p.sign=0) (h:Ok K S (dec c k) l):Ok K S c (p::l):=fun Y=>by
 have q:=h Y
 have hkK:=N.inK p AV k hk
 have hks:p.sign≠k:=fun e=>N.out AV (e▸hkK)
 have hsk:∀s∈S,lkF (dec c k) l s=lkF c (p::l) s:=fun s hs=>by
  by_cases e:s=p.sign
  .rw[e,LC hks,hl]
  .exact LB e fun z=>N.dis s hs (z▸hkK)
 rw[sum_eq hsk] at q
 have e2:(S.map fun s=>min (lkF (dec c k) l s) (nnY Y l s)).sum=(S.map fun s=>min (lkF c (p::l) s) (nnY Y (p::l) s)).sum:=sum_eq fun s hs=>by
  rw[hsk s hs]
  by_cases e:s=p.sign
  .rw[e,hl,KC,KC]
  .rw[Hn e]
 have e3:D9 K Y (dec c k)<=D9 K Y c:=Ji fun x _=>by
  have:dec c k x<=c x:=by
   unfold dec
   split
   .rename_i z
    rw[z]
    exact Nat.sub_le _ _
   .exact Aa _
  split
  .exact Aa _
  .exact this
 rw[e2] at q
 omega
theorem T9 {K S:List Nat}:∀{l:List Spot}{c:Nat->Nat}{g:List Nat},Nest K S l->DQ c l g->Ok K S c l
 | [],c,[],N,_=>LJ N (g:=[]) trivial
 | p::l,c,f::g,N,⟨h0,h1,h2⟩=>by
  have ih:=T9 N.tail h2
  rcases h1 with rfl | h1
  .exact UB N h0 ih
  .by_cases hl:lkF c (p::l) p.sign=0
   .exact dR N h1 hl ih
   .exact UA N h1 h0 (YY hl) ih
 | [],c,_::_,_,h=>nomatch h
 | _::_,c,[],_,h=>nomatch h
theorem bI {L:Locker}{S:List Nat}{l:List Spot}{left:List Nat} (N:Nest L.sameKinds S l):L.enough left l=true↔∃g,DQ (cOf left) l g:=by
 constructor
 .intro h
  exact⟨_,(bC N h).1⟩
 .rintro⟨g,hg⟩
  exact(Nl N).mpr (T9 N hg)
theorem role_at {L:Locker}{s:Nat} (h:L.isSignAt s=true):∃k,L.kinds[s]?=some k/\k.isSign=true:=by
 unfold Locker.isSignAt at h
 cases hk:L.kinds[s]? with
 | none=>rw[hk] at h;cases h
 | some k=>rw[hk] at h;exact⟨k,rfl,h⟩
theorem same_at {L:Locker}{f:Nat} (h:f∈L.sameKinds):∃k j,L.kinds[f]?=some k/\k.role=.same j:=by
 have:=(Cv.mp h).2
 cases hk:L.kinds[f]? with
 | none=>rw[hk] at this;cases this
 | some k =>
  rw[hk] at this
  have this:(match some k.role with | some (.same _)=>true | _=>false)=true:=this
  cases hr:k.role with
  | sign n=>rw[hr] at this;cases this
  | same j=>exact⟨k,j,rfl,hr⟩
  | answer=>rw[hr] at this;cases this
theorem Wu {L:Locker} (hw:Fb.Wf L.kinds) {s f:Nat} (hs:L.isSignAt s=true) (hf:f∈L.sameKinds):s < f:=by
 obtain⟨k,hk,hs⟩:=role_at hs
 obtain⟨k',j,hk',hr⟩:=same_at hf
 rw[Fb.isSign_rk] at hs
 have r1:Fb.rk k=1:=JJq hs
 have r2:Fb.rk k'=2:=by unfold Fb.rk;rw[hr]
 rcases QW s f with q | q | q
 .exact q
 .subst q
  rw[hk] at hk'
  cases hk'
  omega
 .exfalso
  obtain⟨lf,ef⟩:=CJ.mp hk'
  obtain⟨ls,es⟩:=CJ.mp hk
  have:=(QN.mp hw.order f s lf ls q).1
  rw[ef,es] at this
  omega
theorem dD {L:Locker}{r:List Nat} (hw:Fb.Wf L.kinds) (hr:∀s∈r,L.isSignAt s=true):Nest L.sameKinds r.eraseDups (L.spots [r]):=by
 have mem:∀p∈L.spots [r],∃i,i < r.length/\p=⟨r.getD i 0,mayAt L r i⟩:=fun p hp=>by
  rw[spots_one] at hp
  obtain⟨i,hi,rfl⟩:=Bb.mp hp
  exact⟨i,QM.mp hi,rfl⟩
 have inr:∀i,i < r.length->r.getD i 0∈r:=fun i hi=>by
  rw[GU,Ba hi]
  exact HG hi
 have pts:∀{i k},k∈mayAt L r i->k∈L.sameKinds/\L.points k<=i/\r.getD (L.points k - 1) 0=r.getD i 0:=fun {i k} h=>by
  obtain⟨h1,h2⟩:=Cv.mp h
  rw[BL,decide_eq_true_eq,beq_iff_eq] at h2
  exact⟨h1,h2.1,h2.2⟩
 refine⟨List.nodup_range.sublist MJ,ON _ _ (Aa _),fun p hp=>?_,fun p hp k hk=>?_,fun s hs hk=>?_,?_,fun p hp q hq k hkp hkq=>?_,fun p hp=>?_⟩
 .obtain⟨i,hi,rfl⟩:=mem p hp
  exact J3.mpr (inr i hi)
 .obtain⟨i,hi,rfl⟩:=mem p hp
  exact(pts hk).1
 .exact absurd (Wu hw (hr s (J3.mp hs)) hk) (C3 _)
 .rw[spots_one,QP]
  refine QO.imp fun {i j} hij e k hk=>?_
  obtain⟨k1,k2,k3⟩:=pts hk
  have e:r.getD i 0=r.getD j 0:=e
  refine Cv.mpr ⟨k1,?_⟩
  rw[BL,decide_eq_true_eq,beq_iff_eq]
  exact⟨by omega,k3.trans e⟩
 .obtain⟨i,hi,rfl⟩:=mem p hp
  obtain⟨j,hj,rfl⟩:=mem q hq
  exact(pts hkp).2.2.symm.trans (pts hkq).2.2
 .obtain⟨i,hi,rfl⟩:=mem p hp
  refine Dc.mpr ⟨fun k hk=>Wu hw (hr _ (inr i hi)) (pts hk).1,?_⟩
  exact(QO.sublist (MJ.trans MJ))
theorem aC (L:Locker):cOf L.allCopies=L.copies:=funext fun k=>Zn L k
end Fm
namespace Fm
open Flags
def greedy:(Nat->Nat)->List Spot->Option (List Nat)
 | _,[]=>some []
 | c,p::l=>match (p.sign::p.may).find? (fun f=>decide (0 < c f)) with
  | none=>none
  | some f=>(greedy (dec c f) l).map (f::·)
def less (c:Nat->Nat) (g:List Nat):Nat->Nat:=fun k=>c k - g.count k
theorem less_nil (c:Nat->Nat):less c []=c:=funext fun k=>by unfold less;simp
theorem less_snoc (c:Nat->Nat) (g:List Nat) (f:Nat):less c (g++[f])=dec (less c g) f:=funext fun k=>by
 unfold less dec
 rw[YD]
 by_cases e:k=f
 .subst e
  rw[JJz rfl]
  simp
  omega
 .rw[JJx e,P7 (fun q=>e q.symm)]
  simp
theorem Kr (c:Nat->Nat) (a b:Nat):dec (dec c a) b=dec (dec c b) a:=funext fun k=>by
 unfold dec
 by_cases h1:k=a <;> by_cases h2:k=b <;> by_cases h3:a=b <;> simp[h1,h2,h3] <;> first | omega | (subst h1;simp_all) | (subst h2;simp_all) | skip
theorem Nr {s f f':Nat}:∀{l:List Spot}{c:Nat->Nat}{g:List Nat},(∀q∈l,(f=q.sign\/f∈q.may)->f'∈q.may/\q.sign=s)->f≠f'->0 < c f->DQ (dec c f') l g->0 < c f'->∃g',DQ (dec c f) l g'/\ns l g'<=ns l g+(if f=s then 1 else 0)
 | [],c,[],_,_,_,_,_=>⟨[],trivial,Ax _⟩
 | p::l,c,x::g,hall,ne,h0,⟨hx0,hx1,hx2⟩,h0'=>by
  by_cases ex:x=f
  .subst ex
   obtain⟨m1,m2⟩:=hall p AV hx1
   refine⟨f'::g,⟨?_,.inr m1,?_⟩,?_⟩
   .rw[Ds ne.symm];exact h0'
   .rw[Kr];exact hx2
   .show(if f'=p.sign then 0 else 1)+ns l g<=(if x=p.sign then 0 else 1)+ns l g+_
    rw[m2]
    split <;> split <;> omega
  .by_cases ex':x=f'
   .subst ex'
    rw[JD] at hx0
    obtain⟨g',i1,i2⟩:=Nr (s:=s) (f:=f) (f':=x) (l:=l) (c:=dec c x) (g:=g) (fun q hq=>hall q (Av _ hq)) ne (by rw[Ds ne];exact h0) hx2 (by rw[JD];exact hx0)
    refine⟨x::g',⟨by rw[Ds ne.symm];exact h0',hx1,by rw[Kr];exact i1⟩,?_⟩
    show(if x=p.sign then 0 else 1)+ns l g'<=(if x=p.sign then 0 else 1)+ns l g+_
    omega
   .rw[Ds ex'] at hx0
    obtain⟨g',i1,i2⟩:=Nr (s:=s) (f:=f) (f':=f') (l:=l) (c:=dec c x) (g:=g) (fun q hq=>hall q (Av _ hq)) ne (by rw[Ds (fun q=>ex q.symm)];exact h0) (by rw[Kr];exact hx2) (by rw[Ds (fun q=>ex' q.symm)];exact h0')
    refine⟨x::g',⟨by rw[Ds ex];exact hx0,hx1,by rw[Kr];exact i1⟩,?_⟩
    show(if x=p.sign then 0 else 1)+ns l g'<=(if x=p.sign then 0 else 1)+ns l g+_
    omega
 | [],_,_::_,_,_,_,h,_=>nomatch h
 | _::_,_,[],_,_,_,h,_=>nomatch h
theorem gb {K S:List Nat}{c:Nat->Nat}{p:Spot}{l:List Spot}{f f':Nat}{g:List Nat} (N:Nest K S (p::l)) (hf:f=p.sign\/f∈p.may) (hf':f'∈p.may) (ne:f≠f') (h0:0 < c f) (h:DQ c (p::l) (f'::g)):
  ∃g',DQ (dec c f) l g'/\ns l g'<=ns l g+(if f=p.sign then 1 else 0):=by
 obtain⟨a1,a2,a3⟩:=h
 refine Nr (fun q hq hfq=>?_) ne h0 a3 a1
 have hqm:q∈p::l:=Av _ hq
 have es:q.sign=p.sign:=by
  rcases hf with hf | hf
  .rcases hfq with e | e
   .rw[<- e,hf]
   .exact absurd (N.inK q hqm f e) (hf▸N.out AV)
  .rcases hfq with e | e
   .exact absurd (N.inK p AV f hf) (e▸N.out hqm)
   .exact N.one q hqm p AV f e hf
 exact⟨N.later hq es hf',es⟩
theorem gc {K S:List Nat}{c:Nat->Nat}{p:Spot}{l:List Spot}{f f':Nat}{g:List Nat} (N:Nest K S (p::l)) (hf:f=p.sign\/f∈p.may) (hf0:0 < c f) (hno:f∈p.may->c p.sign=0) (h:DQ c (p::l) (f'::g)):∃g',DQ (dec c f) l g':=by
 by_cases e:f'=f
 .exact⟨g,e▸h.2.2⟩
 .have m:f'∈p.may:=by
   rcases h.2.1 with z | z
   .rcases hf with w | w
    .exact absurd (z.trans w.symm) e
    .have:=hno w
     have:=h.1
     rw[z] at this
     omega
   .exact z
  obtain⟨g',i,_⟩:=gb N hf m (Ar e) hf0 h
  exact⟨g',i⟩
theorem bG {c:Nat->Nat}{p:Spot}{f:Nat} (hs:p.sign∉p.may) (h:(p.sign::p.may).find? (fun f=>decide (0 < c f))=some f):f∈p.may->c p.sign=0:=fun hm=>by
 rw[DJ] at h
 by_cases z:0 < c p.sign
 .rw[JJk z] at h
  have e:=Af h
  exact absurd (e▸hm) hs
 .omega
theorem S0 {K S:List Nat}:∀{l:List Spot}{c:Nat->Nat},Nest K S l->((greedy c l).isSome=true↔∃g,DQ c l g)
 | [],c,_=>⟨fun _=>⟨[],trivial⟩,fun _=>rfl⟩
 | p::l,c,N=>by
  unfold greedy
  cases hfd:(p.sign::p.may).find? (fun f=>decide (0 < c f)) with
  | none =>
   have hn:=MK.mp hfd
   refine⟨fun z=>(nomatch z),fun ⟨g,hg⟩=>?_⟩
   cases g with
   | nil=>exact nomatch hg
   | cons f g=>exact absurd (JJk hg.1) (hn f (AQ.mpr hg.2.1))
  | some f =>
   have hfm:f=p.sign\/f∈p.may:=AQ.mp (J4 hfd)
   have hf0:0 < c f:=by
    have:=Jz hfd
    exact JJq this
   have ih:=S0 (l:=l) (c:=dec c f) N.tail
   show((greedy (dec c f) l).map (f::·)).isSome=true↔_
   rw[MZ,ih]
   constructor
   .rintro⟨g,hg⟩
    exact⟨f::g,hf0,hfm,hg⟩
   .rintro⟨g,hg⟩
    cases g with
    | nil=>exact nomatch hg
    | cons f' g=>exact gc N hfm hf0 (bG (fun z=>LD N z rfl) hfd) hg
theorem canShow_greedy {L:Locker}{r:List Nat} (hw:Fb.Wf L.kinds) (hr:∀s∈r,L.isSignAt s=true):L.canShow r=(greedy L.copies (L.spots [r])).isSome:=by
 have N:=dD hw hr
 unfold Locker.canShow
 rw[Dy,bI N,S0 N,aC]
theorem greedy_len:∀{l:List Spot}{c:Nat->Nat}{h:List Nat},greedy c l=some h->h.length=l.length
 | [],c,h,e=>by cases e;rfl
 | p::l,c,h,e=>by
  unfold greedy at e
  split at e
  .cases e
  .obtain⟨h',e1,e2⟩:=KD.mp e
   subst e2
   rw[Bn,Bn,greedy_len e1]
end Fm
namespace Fb
open Flags (Bytes Fault cutAt)
def C7 (L:AN) (B:Bg) (past:List BG) (line:Bytes):Except Nat (List BG):=match GN line with
 | none=>.error 1
 | some (c,n,m)=>match L.actRow B past c n m with
  | .error k=>.error k
  | .ok x=>.ok (past++[x])
def Ni (B:Bg) (w:Bytes) (n:Nat) (p:List BG):Except Fault (List BG):=if w≠[] then .error (1,n) else if IH < (p.foldl HB B.entries).length then .error (7,n) else .ok p
theorem TU (L:AN) (B:Bg):∀(ls:List Bytes) (i:Nat) (past:List BG) (w:Bytes),L.judgeActs B i past (ls++[w])=HZ (Ni B w (i+ls.length)) (Bm (fun s _ l=>C7 L B s l) i past ls)
 | [],i,past,w=>rfl
 | x::ls,i,past,w=>by
  have ne:ls++[w]≠[]:=by simp
  have e:L.judgeActs B i past (x::(ls++[w]))=match GN x with
    | none=>.error (1,i)
    | some (c,n,m)=>match L.actRow B past c n m with
     | .error k=>.error (k,i)
     | .ok y=>L.judgeActs B (i+1) (past++[y]) (ls++[w]):=by
   cases h:ls++[w] with
   | nil=>exact absurd h ne
   | cons a b=>rfl
  rw[Ft,e]
  cases h1:GN x with
  | none =>
   rw[CZ (k:=1) (by unfold C7;rw[h1])]
   rfl
  | some y =>
   obtain⟨c,n,m⟩:=y
   dsimp only
   cases h2:L.actRow B past c n m with
   | error e =>
    rw[CZ (k:=e) (by unfold C7;rw[h1];dsimp only;rw[h2])]
    rfl
   | ok y =>
    dsimp only
    rw[C1 (s':=past++[y]) (by unfold C7;rw[h1];dsimp only;rw[h2]),TU L B ls (i+1) _ w,show i+1+ls.length=i+(ls.length+1) by omega]
    rfl
def Bq (L:AN) (B:Bg) (s:List BG) (i:Nat) (line:Bytes):Except Nat (List BG) :=
 if i=0 then (match By (BM "amend") line with
  | none=>.error 1
  | some n=>if n≠B.name then .error 2 else .ok s)
 else C7 L B s line
theorem Ur (L:AN) (B:Bg):∀(ls:List Bytes) (i:Nat) (past:List BG),Bm (Bq L B) (i+1) past ls=Bm (fun s _ l=>C7 L B s l) (i+1) past ls
 | [],_,_=>rfl
 | w::ls,i,past=>by
  have e:Bq L B past (i+1) w=C7 L B past w:=by
   unfold Bq
   rw[JJx (by omega)]
  cases h:C7 L B past w with
  | error k=>rw[CZ (k:=k) (by rw[e,h]),CZ (k:=k) h]
  | ok p =>
   rw[C1 (s':=p) (by rw[e,h]),C1 (s':=p) h]
   exact Ur L B ls (i+1) p
def FO (B:Bg) (w:Bytes) (n:Nat) (s:List BG):Except Fault Flags.Amendment:=if w≠[]\/n=0 then .error (1,n) else if IH < (s.foldl HB B.entries).length then .error (7,n) else .ok ⟨B.name,s⟩
theorem bq (L:AN) (B:Bg) (t:Bytes):L.judgeAmend B t=HZ (FO B (Be t) (AR t).length) (Bm (Bq L B) 0 [] (AR t)):=by
 unfold AN.judgeAmend
 rw[F3]
 generalize AR t=ls
 generalize Be t=w
 cases ls with
 | nil =>
  show Cj (1,0)=if w≠[]\/0=0 then Cj (1,0) else _
  rw[JJz (.inr rfl)]
 | cons x ls =>
  have e1:(x::ls)++[w]=x::(ls++[w]):=rfl
  rw[e1]
  obtain⟨a,b,h⟩:∃a b,ls++[w]=a::b:=by
   cases ls with
   | nil=>exact⟨w,[],rfl⟩
   | cons a b=>exact⟨a,b++[w],rfl⟩
  have e2:Bq L B [] 0 x=match By (BM "amend") x with
    | none=>.error 1
    | some n=>if n≠B.name then .error 2 else .ok []:=by
   unfold Bq
   rw[JJz rfl]
  rw[h]
  dsimp only
  rw[<- h]
  cases hn:By (BM "amend") x with
  | none =>
   rw[CZ (k:=1) (by rw[e2,hn])]
   rfl
  | some n =>
   dsimp only
   by_cases hb:n≠B.name
   .rw[JJz hb,CZ (k:=2) (by rw[e2,hn];dsimp only;rw[JJz hb])]
    rfl
   .rw[JJx hb,TU L B ls 1 [] w,C1 (s':=[]) (by rw[e2,hn];dsimp only;rw[JJx hb]),Ur L B ls 0 []]
    cases Bm (fun s _ l=>C7 L B s l) (0+1) [] ls with
    | error e=>rfl
    | ok p =>
     show Pw _ (Ni B w (1+ls.length) p)=FO B w (ls.length+1) p
     unfold Ni FO
     rw[QR]
     by_cases hw:w≠[]
     .rw[JJz hw,JJz (.inl hw)]
      rfl
     .have hn':¬(w≠[]\/ls.length+1=0):=fun q=>q.elim hw (fun z=>nomatch z)
      simp only[JJx hw,JJx hn']
      split <;> rfl
theorem gW {L:AN}{B:Bg}{s:List BG}{k:Nat}{b:Bytes} (h:C7 L B s b=.error k):k≠0:=by
 unfold C7 at h
 cases hk:GN b with
 | none =>
  rw[hk] at h
  have h:(Cj 1:Except Nat (List BG))=.error k:=h
  cases h;decide
 | some x =>
  obtain⟨c,n,m⟩:=x
  rw[hk] at h
  dsimp only at h
  cases hr:L.actRow B s c n m with
  | ok r=>rw[hr] at h;cases h
  | error e =>
   rw[hr] at h
   have h:(Cj e:Except Nat (List BG))=.error k:=h
   cases h
   unfold MA at hr
   intro q
   subst q
   split at hr
   .cases hr
   .split at hr
    .cases hr
    .split at hr
     .cases hr
     .split at hr <;> cases hr
theorem gS {L:AN}{B:Bg}{s:List BG}{i k:Nat}{b:Bytes} (h:Bq L B s i b=.error k):k≠0:=by
 unfold Bq at h
 split at h
 .split at h
  .cases h;decide
  .split at h
   .cases h;decide
   .cases h
 .exact gW h
end Fb
namespace Fb
open Flags (Bytes Row Entry Act Book rowBefore before putEntry)
theorem Rg:∀a:List Nat,before a a=false
 | []=>rfl
 | x::a=>by
  have ih:=Rg a
  show(decide (x < x) || (x==x&&before a a))=false
  rw[ih,JJj (C3 x)]
  simp
theorem Ri:∀{a b c:List Nat},before a b=true->before b c=true->before a c=true
 | x::a,y::b,z::c,h1,h2=>by
  have p1:(decide (x < y) || (x==y&&before a b))=true:=h1
  have p2:(decide (y < z) || (y==z&&before b c))=true:=h2
  show(decide (x < z) || (x==z&&before a c))=true
  simp only[Jt,decide_eq_true_eq,BL,beq_iff_eq] at p1 p2 ⊢
  rcases p1 with p1 | ⟨e1,p1⟩
  .rcases p2 with p2 | ⟨e2,p2⟩
   .exact .inl (MV p1 p2)
   .exact .inl (e2▸p1)
  .rcases p2 with p2 | ⟨e2,p2⟩
   .exact .inl (e1▸p2)
   .exact .inr ⟨e1.trans e2,Ri p1 p2⟩
 | [],_,_,h1,_=>by simp[before] at h1
 | _::_,[],_,h1,_=>by simp[before] at h1
 | _::_,_::_,[],_,h2=>by simp[before] at h2
theorem Rh:∀{a b:List Nat},a.length=b.length->a=b\/before a b=true\/before b a=true
 | [],[],_=>.inl rfl
 | [],_::_,h=>by simp at h
 | _::_,[],h=>by simp at h
 | x::a,y::b,h=>by
  have h':a.length=b.length:=by simpa using h
  show _\/(decide (x < y) || (x==y&&before a b))=true\/(decide (y < x) || (y==x&&before b a))=true
  simp only[Jt,decide_eq_true_eq,BL,beq_iff_eq]
  rcases QW x y with q | q | q
  .exact .inr (.inl (.inl q))
  .subst q
   rcases Rh h' with z | z | z
   .exact .inl (by rw[z])
   .exact .inr (.inl (.inr ⟨rfl,z⟩))
   .exact .inr (.inr (.inr ⟨rfl,z⟩))
  .exact .inr (.inr (.inl q))
theorem rb_iff {r s:Row}:rowBefore r s=true↔r.length < s.length\/(r.length=s.length/\before r s=true):=by
 unfold BZ
 simp
theorem Ff (r:Row):rowBefore r r=false:=by
 cases h:rowBefore r r with
 | false=>rfl
 | true =>
  rcases rb_iff.mp h with q | ⟨_,q⟩
  .exact absurd q (C3 _)
  .rw[Rg] at q;cases q
theorem rb_trans {a b c:Row} (h1:rowBefore a b=true) (h2:rowBefore b c=true):rowBefore a c=true:=by
 rw[rb_iff] at *
 rcases h1 with h1 | ⟨e1,h1⟩
 .rcases h2 with h2 | ⟨e2,h2⟩
  .exact .inl (by omega)
  .exact .inl (by omega)
 .rcases h2 with h2 | ⟨e2,h2⟩
  .exact .inl (by omega)
  .exact .inr ⟨by omega,Ri h1 h2⟩
theorem Oa (a b:Row):a=b\/rowBefore a b=true\/rowBefore b a=true:=by
 rcases QW a.length b.length with q | q | q
 .exact .inr (.inl (rb_iff.mpr (.inl q)))
 .rcases Rh q with z | z | z
  .exact .inl z
  .exact .inr (.inl (rb_iff.mpr (.inr ⟨q,z⟩)))
  .exact .inr (.inr (rb_iff.mpr (.inr ⟨q.symm,z⟩)))
 .exact .inr (.inr (rb_iff.mpr (.inl q)))
def Sorted (l:List Entry):Prop:=l.Pairwise fun a b=>rowBefore a.row b.row=true
theorem Sorted.row_inj:∀{l:List Entry},Sorted l->∀{a b:Entry},a∈l->b∈l->a.row=b.row->a=b
 | x::l,h,a,b,ha,hb,e=>by
  obtain⟨h1,h2⟩:=Dc.mp h
  rcases AQ.mp ha with qa | qa
  .rcases AQ.mp hb with qb | qb
   .rw[qa,qb]
   .have:=h1 b qb
    rw[<- qa,e,Ff] at this;cases this
  .rcases AQ.mp hb with qb | qb
   .have:=h1 a qa
    rw[<- qb,<- e,Ff] at this;cases this
   .exact Sorted.row_inj h2 qa qb e
theorem Sorted.ext:∀{l m:List Entry},Sorted l->Sorted m->(∀e,e∈l↔e∈m)->l=m
 | [],[],_,_,_=>rfl
 | [],y::m,_,_,h=>absurd ((h y).mpr AV) DZ
 | x::l,[],_,_,h=>absurd ((h x).mp AV) DZ
 | x::l,y::m,hl,hm,h=>by
  obtain⟨l1,l2⟩:=Dc.mp hl
  obtain⟨m1,m2⟩:=Dc.mp hm
  have exy:x=y:=by
   rcases AQ.mp ((h x).mp AV) with q | q
   .exact q
   .rcases AQ.mp ((h y).mpr AV) with z | z
    .exact z.symm
    .have:=rb_trans (m1 x q) (l1 y z)
     rw[Ff] at this;cases this
  subst exy
  have:l=m:=Sorted.ext l2 m2 fun e=>by
   constructor
   .intro he
    rcases AQ.mp ((h e).mp (Av _ he)) with q | q
    .have:=l1 e he
     rw[q,Ff] at this;cases this
    .exact q
   .intro he
    rcases AQ.mp ((h e).mpr (Av _ he)) with q | q
    .have:=m1 e he
     rw[q,Ff] at this;cases this
    .exact q
  rw[this]
theorem LR (e:Entry):∀{l:List Entry},Sorted l->∀x,x∈putEntry e l↔x=e\/(x∈l/\x.row≠e.row)
 | [],_,x=>by
  show x∈[e]↔_
  simp
 | y::l,h,x=>by
  obtain⟨h1,h2⟩:=Dc.mp h
  show x∈(if y.row=e.row then e::l else if rowBefore e.row y.row=true then e::y::l else y::putEntry e l)↔_
  by_cases q1:y.row=e.row
  .rw[JJz q1,AQ,AQ]
   constructor
   .rintro(z | z)
    .exact .inl z
    .refine .inr ⟨.inr z,fun w=>?_⟩
     have:=h1 x z
     rw[w,<- q1,Ff] at this;cases this
   .rintro(z | ⟨z | z,w⟩)
    .exact .inl z
    .exact absurd (by rw[z,q1]) w
    .exact .inr z
  .rw[JJx q1]
   by_cases q2:rowBefore e.row y.row=true
   .rw[JJz q2,AQ]
    constructor
    .rintro(z | z)
     .exact .inl z
     .refine .inr ⟨z,fun w=>?_⟩
      rcases AQ.mp z with v | v
      .exact q1 (by rw[<- v,w])
      .have:=rb_trans q2 (h1 x v)
       rw[w,Ff] at this;cases this
    .rintro(z | ⟨z,_⟩)
     .exact .inl z
     .exact .inr z
   .rw[JJx q2,AQ,LR e h2 x,AQ]
    constructor
    .rintro(z | z | ⟨z,w⟩)
     .exact .inr ⟨.inl z,by rw[z];exact q1⟩
     .exact .inl z
     .exact .inr ⟨.inr z,w⟩
    .rintro(z | ⟨z | z,w⟩)
     .exact .inr (.inl z)
     .exact .inl z
     .exact .inr (.inr ⟨z,w⟩)
theorem OZ (e:Entry):∀{l:List Entry},Sorted l->Sorted (putEntry e l)
 | [],_=>MQ _ _
 | y::l,h=>by
  obtain⟨h1,h2⟩:=Dc.mp h
  show Sorted (if y.row=e.row then e::l else if rowBefore e.row y.row=true then e::y::l else y::putEntry e l)
  by_cases q1:y.row=e.row
  .rw[JJz q1]
   exact Dc.mpr ⟨fun b hb=>by rw[<- q1];exact h1 b hb,h2⟩
  .rw[JJx q1]
   by_cases q2:rowBefore e.row y.row=true
   .rw[JJz q2]
    refine Dc.mpr ⟨fun b hb=>?_,h⟩
    rcases AQ.mp hb with z | z
    .rw[z];exact q2
    .exact rb_trans q2 (h1 b z)
   .rw[JJx q2]
    refine Dc.mpr ⟨fun b hb=>?_,OZ e h2⟩
    rcases(LR e h2 b).mp hb with z | ⟨z,_⟩
    .rw[z]
     rcases Oa y.row e.row with w | w | w
     .exact absurd w q1
     .exact w
     .exact absurd w q2
    .exact h1 b z
theorem OP {l:List Entry} (h:Sorted l):∀a:Act,Sorted (Act.on l a)
 | .add r s=>OZ _ h
 | .drop r=>h.filter _
 | .change r s=>OZ _ h
def Zh:Act->Option Entry
 | .add r s=>some ⟨r,s⟩
 | .drop _=>none
 | .change r s=>some ⟨r,s⟩
theorem UC {l:List Entry} (h:Sorted l) (a:Act) (x:Entry):x∈Act.on l a↔Zh a=some x\/(x∈l/\x.row≠a.row):=by
 cases a with
 | add r s =>
  show x∈putEntry ⟨r,s⟩ l↔some (⟨r,s⟩:Entry)=some x\/_
  rw[LR _ h x,Mb]
  exact⟨fun q=>q.imp L7 id,fun q=>q.imp L7 id⟩
 | drop r =>
  show x∈l.filter (fun (e:Entry)=>e.row != r)↔none=some x\/(x∈l/\x.row≠r)
  rw[Cv]
  simp
 | change r s =>
  show x∈putEntry ⟨r,s⟩ l↔some (⟨r,s⟩:Entry)=some x\/_
  rw[LR _ h x,Mb]
  exact⟨fun q=>q.imp L7 id,fun q=>q.imp L7 id⟩
theorem Sl:∀(as:List Act) {l:List Entry},Sorted l->Sorted (as.foldl Act.on l)
 | [],_,h=>h
 | a::as,_,h=>Sl as (OP h a)
end Fb
namespace Fm
open Flags
theorem ax {L:Locker}{past:List Entry}{n:List Bytes}{r:Row} (h:L.entryRow past n=.ok r):(past.getLast?.any fun (e:Entry)=>!rowBefore e.row r)=false/\past.length < ENTRIES:=by
 unfold Locker.entryRow at h
 split at h
 .cases h
 .split at h
  .cases h
  .split at h
   .cases h
   .split at h
    .cases h
    .rename_i q1 q2
     cases h
     exact⟨G9.mpr q1,Nat.lt_of_not_le q2⟩
theorem gO {past:List Entry}{e:Entry} (h:Fb.Sorted past) (hb:(past.getLast?.any fun (x:Entry)=>!rowBefore x.row e.row)=false):Fb.Sorted (past++[e]):=by
 refine MP.mpr ⟨h,MQ _ _,fun a ha b hb'=>?_⟩
 rw[BB.mp hb']
 cases hl:past.getLast? with
 | none=>rw[IT.mp hl] at ha;cases ha
 | some z =>
  rw[hl] at hb
  have hz:rowBefore z.row e.row=true:=by simpa using hb
  obtain⟨ys,rfl⟩:=YS.mp hl
  rcases DL.mp ha with q | q
  .exact Fb.rb_trans ((MP.mp h).2.2 a q z (BB.mpr rfl)) hz
  .rw[BB.mp q];exact hz
theorem TZ (L:Locker):∀(ls:List Bytes) (i:Nat) (past es:List Entry),L.judgeEntries i past ls=.ok es->Fb.Sorted past->Fb.Sorted es
 | [],i,past,es,h,hp=>by
  unfold Locker.judgeEntries at h
  cases h
 | [w],i,past,es,h,hp=>by
  unfold Locker.judgeEntries at h
  split at h
  .cases h;exact hp
  .cases h
 | w::x::r,i,past,es,h,hp=>by
  unfold Locker.judgeEntries at h
  cases he:entryIn w with
  | none=>rw[he] at h;cases h
  | some p =>
   obtain⟨n,m⟩:=p
   rw[he] at h
   dsimp only at h
   cases hr:L.entryRow past n with
   | error k=>rw[hr] at h;cases h
   | ok row =>
    rw[hr] at h
    dsimp only at h
    exact TZ L (x::r) (i+1) _ es h (gO hp (ax hr).1)
theorem judgeBook_sorted {L:Locker}{t:Bytes}{B:Book} (h:L.judgeBook t=.ok B):Fb.Sorted B.entries:=by
 unfold Locker.judgeBook at h
 split at h
 .split at h
  .cases h
  .split at h
   .cases h
   .split at h
    .cases h
    .split at h
     .cases h
     .rename_i r _ _ _ _ _ _ _ _ _
      cases hj:L.judgeEntries 2 [] r with
      | error e=>rw[hj] at h;cases h
      | ok es =>
       rw[hj] at h
       cases h
       exact TZ L _ _ _ _ hj YC
 .cases h
end Fm
namespace Fb
open Flags (Bytes cutAt)
def DV (b:Bytes):Bool:=decide ((cutAt 46 b).length<=8)&&(cutAt 46 b).all Ck
theorem Ko (m:UInt8):∀(r:Bytes) (x:UInt8),x∈r->x=m\/∃w∈cutAt m r,x∈w
 | y::r,x,h=>by
  show x=m\/∃w∈(if y=m then []::cutAt m r else match cutAt m r with
   | []=>[[y]]
   | w::l=>(y::w)::l),x∈w
  by_cases e:y=m
  .rw[JJz e]
   rcases AQ.mp h with q | q
   .exact .inl (q.trans e)
   .rcases Ko m r x q with z | ⟨w,hw,z⟩
    .exact .inl z
    .exact .inr ⟨w,Av _ hw,z⟩
  .rw[JJx e]
   rcases AQ.mp h with q | q
   .subst q
    cases hc:cutAt m r with
    | nil=>exact .inr ⟨[x],AV,AV⟩
    | cons w l=>exact .inr ⟨x::w,AV,AV⟩
   .rcases Ko m r x q with z | ⟨w,hw,z⟩
    .exact .inl z
    .cases hc:cutAt m r with
     | nil=>rw[hc] at hw;cases hw
     | cons w' l =>
      rw[hc] at hw
      rcases AQ.mp hw with q | q
      .exact .inr ⟨y::w',AV,Av _ (q▸z)⟩
      .exact .inr ⟨w,Av _ q,z⟩
theorem R6 (m:UInt8):∀(r:Bytes),m∉r->cutAt m r=[r]
 | [],_=>rfl
 | y::r,h=>by
  have e:¬y=m:=fun e=>h (by rw[e];exact AV)
  show(if y=m then []::cutAt m r else match cutAt m r with
   | []=>[[y]]
   | w::l=>(y::w)::l)=_
  rw[JJx e,R6 m r fun q=>h (Av _ q)]
theorem Je {r:Bytes} (h:DV r=true):Az r=r/\BK r=[]:=by
 unfold DV at h
 rw[BL] at h
 have n32:(32:UInt8)∉r:=fun m=>by
  rcases Ko 46 r 32 m with z | ⟨w,hw,z⟩
  .exact absurd z (by decide)
  .have h1:=Cu.mp h.2 w hw
   unfold Ck at h1
   rw[BL,BL] at h1
   have h2:=Cu.mp h1.2.2 32 z
   exact absurd h2 (by decide)
 have e:Az r=r:=by unfold Az;rw[R6 32 r n32];rfl
 refine⟨e,?_⟩
 unfold BK
 rw[e]
 exact IS (by omega)
def Dr:Bytes->Bool
 | c::d::r=>if d=32 then (if c=45 then DV r else if c=43\/c=61 then Cn r else false) else false
 | _=>false
theorem dA (r:Bytes):Jw r=if DV r=true then some (cutAt 46 r) else none:=by
 unfold Jw DV
 dsimp only
 by_cases h:(cutAt 46 r).length<=Py/\(cutAt 46 r).all Ck=true
 .rw[JJz h,JJz (by rw[BL];exact⟨JJk h.1,h.2⟩)]
 .rw[JJx h,JJx (fun q=>h (by rw[BL] at q;exact⟨JJq q.1,q.2⟩))]
theorem NJ (c d:UInt8) (r:Bytes):GN (c::d::r)=if Dr (c::d::r)=true then some (c,cutAt 46 (Az r),BK r) else none:=by
 have e2:Dr (c::d::r)=if d=32 then (if c=45 then DV r else if c=43\/c=61 then Cn r else false) else false:=rfl
 by_cases h:d=32
 .subst h
  have e1:GN (c::32::r)=if c=45 then (Jw r).map (fun (l:List Bytes)=>(c,l,[])) else if c=43\/c=61 then (Fp r).map (fun (x:List Bytes×Bytes)=>(c,x.1,x.2)) else none:=rfl
  rw[e1,e2,JJz rfl]
  by_cases h1:c=45
  .rw[JJz h1,JJz h1,dA]
   by_cases h2:DV r=true
   .rw[JJz h2,JJz h2,(Je h2).1,(Je h2).2]
    rfl
   .rw[JJx h2,JJx h2]
    rfl
  .rw[JJx h1,JJx h1]
   by_cases h3:c=43\/c=61
   .rw[JJz h3,JJz h3,Nm]
    by_cases h2:Cn r=true
    .rw[JJz h2,JJz h2]
     rfl
    .rw[JJx h2,JJx h2]
     rfl
   .rw[JJx h3,JJx h3]
    rfl
 .rw[e2,JJx h]
  unfold GN
  split
  .rename_i q
   exact absurd (by injection q with _ q2;injection q2) h
  .rfl
def zc:BG->Int×List Nat×Bytes
 | .add r s=>(43,r,s)
 | .drop r=>(45,r,[])
 | .change r s=>(61,r,s)
theorem Pn (x:BG):(zc x).2.1=x.row:=by cases x <;> rfl
theorem OD {c:UInt8}{r:Bytes} (h:Dr (c::32::r)=true):(c=45/\BK r=[])\/c=43\/c=61:=by
 have e2:Dr (c::32::r)=if (32:UInt8)=32 then (if c=45 then DV r else if c=43\/c=61 then Cn r else false) else false:=rfl
 rw[e2,JJz rfl] at h
 by_cases h1:c=45
 .rw[JJz h1] at h
  exact .inl ⟨h1,(Je h).2⟩
 .rw[JJx h1] at h
  by_cases h3:c=43\/c=61
  .exact .inr h3
  .rw[JJx h3] at h;cases h
theorem X0 {c:UInt8} (r:List Nat) {s:Bytes} (h:(c=45/\s=[])\/c=43\/c=61):zc (DX c r s)=(((c.toNat:Nat):Int),r,s):=by
 unfold DX
 rcases h with ⟨rfl,rfl⟩ | rfl | rfl <;> rfl
def F6 (v:Option Bytes) (m:Int) (s:Bytes):Bool:=if m=43 then v.isNone else v.isSome&&!decide (v=some s)
theorem bH {B:Bg}{c:UInt8}{r:List Nat}{s:Bytes} (h:(c=45/\s=[])\/c=43\/c=61) (hs:∀t,CO B r=some t->t≠[]):(DX c r s).fits B=F6 (CO B r) (c.toNat:Nat) s:=by
 unfold DX F6
 rcases h with ⟨rfl,rfl⟩ | rfl | rfl
 .show(CO B r).isSome=_
  rw[JJx (by decide)]
  cases hv:CO B r with
  | none=>rfl
  | some t =>
   show true=(true&&!decide (some t=some []))
   rw[JJj fun e=>hs t hv (Af e)]
   rfl
 .show(CO B r).isNone=_
  rw[JJz (by decide)]
 .show((CO B r).isSome&&CO B r != some s)=_
  rw[JJx (by decide)]
  congr 1
  cases hv:CO B r with
  | none=>rfl
  | some t =>
   show(!(some t==some s))=_
   by_cases e:t=s
   .subst e;simp
   .simp[e]
def EA (L:AN) (v:List Nat->Option Bytes) (acts:List BG) (c:UInt8) (names:List Bytes) (s:Bytes):Nat:=match L.rowIn names with
 | none=>3
 | some r=>if c=43/\L.canShow r=false then 4 else if (acts.getLast?.any fun (x:BG)=>!BZ x.row r)=true then 5 else if F6 (v r) (c.toNat:Nat) s=false then 6 else 0
theorem gZ {L:AN}{B:Bg}{acts:List BG}{c:UInt8}{r:Bytes} (h:Dr (c::32::r)=true) (hs:∀q t,CO B q=some t->t≠[]):
  C7 L B acts (c::32::r)=if EA L (CO B) acts c (cutAt 46 (Az r)) (BK r)=0 then .ok (acts++[DX c ((L.rowIn (cutAt 46 (Az r))).getD []) (BK r)]) else .error (EA L (CO B) acts c (cutAt 46 (Az r)) (BK r)):=by
 have hm:=OD h
 unfold C7
 rw[NJ,JJz h]
 dsimp only
 have go:∀(x:Except Nat BG) (k:Nat),L.actRow B acts c (cutAt 46 (Az r)) (BK r)=x->EA L (CO B) acts c (cutAt 46 (Az r)) (BK r)=k->(match x with
   | .error e=>.error e
   | .ok y=>.ok (acts++[y]):Except Nat (List BG))=(if k=0 then .ok (acts++[DX c ((L.rowIn (cutAt 46 (Az r))).getD []) (BK r)]) else .error k)->
   (match L.actRow B acts c (cutAt 46 (Az r)) (BK r) with
   | .error e=>.error e
   | .ok y=>.ok (acts++[y]):Except Nat (List BG))=(if EA L (CO B) acts c (cutAt 46 (Az r)) (BK r)=0 then .ok (acts++[DX c ((L.rowIn (cutAt 46 (Az r))).getD []) (BK r)]) else .error (EA L (CO B) acts c (cutAt 46 (Az r)) (BK r))):=by
  rintro x k rfl rfl h
  exact h
 cases hr:L.rowIn (cutAt 46 (Az r)) with
 | none=>rw[hr] at go;exact go (.error 3) 3 (by unfold MA;rw[hr]) (by unfold EA;rw[hr]) rfl
 | some q =>
  rw[hr] at go
  have e1:L.actRow B acts c (cutAt 46 (Az r)) (BK r)=if c=43/\L.canShow q=false then .error 4 else if (acts.getLast?.any fun (x:BG)=>!BZ x.row q)=true then .error 5 else if (DX c q (BK r)).fits B=false then .error 6 else .ok (DX c q (BK r)):=by
   unfold MA
   rw[hr]
  have e2:EA L (CO B) acts c (cutAt 46 (Az r)) (BK r)=if c=43/\L.canShow q=false then 4 else if (acts.getLast?.any fun (x:BG)=>!BZ x.row q)=true then 5 else if F6 (CO B q) (c.toNat:Nat) (BK r)=false then 6 else 0:=by
   unfold EA
   rw[hr]
  rw[bH hm (hs q)] at e1
  by_cases h1:c=43/\L.canShow q=false
  .exact go (.error 4) 4 (by rw[e1,JJz h1]) (by rw[e2,JJz h1]) rfl
  .rw[JJx h1] at e1 e2
   by_cases h2:(acts.getLast?.any fun (x:BG)=>!BZ x.row q)=true
   .exact go (.error 5) 5 (by rw[e1,JJz h2]) (by rw[e2,JJz h2]) rfl
   .rw[JJx h2] at e1 e2
    by_cases h3:F6 (CO B q) (c.toNat:Nat) (BK r)=false
    .exact go (.error 6) 6 (by rw[e1,JJz h3]) (by rw[e2,JJz h3]) rfl
    .exact go (.ok (DX c q (BK r))) 0 (by rw[e1,JJx h3]) (by rw[e2,JJx h3]) rfl
end Fb
namespace Fb
open Flags (Bytes Entry Act)
abbrev TB:=List Nat×Bytes
def Ct (tbl:List TB) (r:List Nat) (s:Bytes):List TB:=if (tbl.any fun x=>decide (x.1=r))=true then tbl.map (fun x=>if x.1=r then (x.1,s) else x) else tbl++[(r,s)]
def BU (tbl:List TB) (r:List Nat):Option Bytes:=(tbl.find? fun x=>decide (x.1=r)).map (·.2)
def CI (es:List Entry):List TB:=es.foldl (fun t e=>Ct t e.row e.says) []
theorem IE (x:TB) (tbl:List TB) (r:List Nat):BU (x::tbl) r=if x.1=r then some x.2 else BU tbl r:=by
 unfold BU
 rw[DJ]
 by_cases e:x.1=r
 .rw[JJk e,JJz e];rfl
 .rw[JJj e,JJx e]
theorem Xn (r:List Nat) (s:Bytes) (r':List Nat):∀(tbl:List TB),BU (tbl.map fun x=>if x.1=r then (x.1,s) else x) r'=(BU tbl r').map fun y=>if r'=r then s else y
 | []=>rfl
 | x::tbl=>by
  rw[Aq,IE,IE,Xn r s r' tbl]
  by_cases e:x.1=r
  .rw[JJz e]
   by_cases e2:x.1=r'
   .rw[JJz e2,JJz e2]
    show some s=some (if r'=r then s else x.2)
    rw[JJz (e2.symm.trans e)]
   .rw[JJx e2,JJx e2]
  .rw[JJx e]
   by_cases e2:x.1=r'
   .rw[JJz e2,JJz e2]
    show some x.2=some (if r'=r then s else x.2)
    rw[JJx (fun z=>e (e2.trans z))]
   .rw[JJx e2,JJx e2]
theorem Xo (r:List Nat) (s:Bytes) (r':List Nat):∀(tbl:List TB),(tbl.any fun x=>decide (x.1=r))=false->BU (tbl++[(r,s)]) r'=if r'=r then some s else BU tbl r'
 | [],_=>by
  show BU [(r,s)] r'=_
  rw[IE]
  by_cases e:r=r'
  .rw[JJz e,JJz e.symm]
  .rw[JJx e,JJx (fun z=>e z.symm)]
 | x::tbl,h=>by
  rw[DH,Bool.or_eq_false_iff] at h
  have hx:=of_decide_eq_false h.1
  rw[Ft,IE,IE,Xo r s r' tbl h.2]
  by_cases e:x.1=r'
  .rw[JJz e,JJz e,JJx (fun z=>hx (e.trans z))]
  .rw[JJx e,JJx e]
theorem NN (r:List Nat):∀(tbl:List TB),(tbl.any fun x=>decide (x.1=r))=(BU tbl r).isSome
 | []=>rfl
 | x::tbl=>by
  rw[DH,IE,NN r tbl]
  by_cases e:x.1=r
  .rw[JJk e,JJz e];rfl
  .rw[JJj e,JJx e];rfl
theorem Pe (tbl:List TB) (r:List Nat) (s:Bytes) (r':List Nat):BU (Ct tbl r s) r'=if r'=r then some s else BU tbl r':=by
 unfold Ct
 cases h:tbl.any fun x=>decide (x.1=r) with
 | true =>
  rw[JJz rfl,Xn]
  by_cases e:r'=r
  .subst e
   rw[NN] at h
   obtain⟨y,hy⟩:=MY.mp h
   rw[hy,JJz rfl]
   show some (if r'=r' then s else y)=some s
   rw[JJz rfl]
  .rw[JJx e]
   cases BU tbl r' with
   | none=>rfl
   | some y =>
    show some (if r'=r then s else y)=some y
    rw[JJx e]
 | false =>
  rw[JJx A8]
  exact Xo r s r' tbl h
theorem valT_mem {tbl:List TB}{r:List Nat}:r∈tbl.map (·.1)↔(BU tbl r).isSome=true:=by
 rw[<- NN,IM,Bb]
 exact⟨fun ⟨x,hx,e⟩=>⟨x,hx,JJk e⟩,fun ⟨x,hx,e⟩=>⟨x,hx,JJq e⟩⟩
def Rel (tbl:List TB) (es:List Entry):Prop:=∀r s,(BU tbl r=some s/\s≠[])↔(⟨r,s⟩:Entry)∈es
theorem Sm:∀(es:List Entry) (t:List TB) (r:List Nat),Sorted es->BU (es.foldl (fun t (e:Entry)=>Ct t e.row e.says) t) r=match es.find? fun (e:Entry)=>e.row==r with
  | some e=>some e.says
  | none=>BU t r
 | [],t,r,_=>rfl
 | e::es,t,r,h=>by
  obtain⟨h1,h2⟩:=Dc.mp h
  rw[YL,Sm es _ r h2,DJ]
  by_cases q:e.row=r
  .have:(es.find? fun (x:Entry)=>x.row==r)=none:=MK.mpr fun x hx=>by
    intro z
    have z:=beq_iff_eq.mp z
    have:=h1 x hx
    rw[z,<- q,Ff] at this
    cases this
   rw[this,beq_iff_eq.mpr q]
   show BU (Ct t e.row e.says) r=some e.says
   rw[Pe,JJz q.symm]
  .rw[beq_eq_false_iff_ne.mpr q]
   dsimp only
   cases es.find? fun (x:Entry)=>x.row==r with
   | some x=>rfl
   | none =>
    show BU (Ct t e.row e.says) r=BU t r
    rw[Pe,JJx (fun z=>q z.symm)]
theorem Xi {B:Bg} (h:Sorted B.entries) (r:List Nat):BU (CI B.entries) r=CO B r:=by
 unfold CI CO
 rw[Sm _ _ r h]
 cases B.entries.find? fun (e:Entry)=>e.row==r with
 | some e=>rfl
 | none=>rfl
theorem Vm {B:Bg} (h:Sorted B.entries) {r:List Nat}{s:Bytes}:CO B r=some s↔(⟨r,s⟩:Entry)∈B.entries:=by
 unfold CO
 constructor
 .intro q
  cases hf:B.entries.find? fun (e:Entry)=>e.row==r with
  | none=>rw[hf] at q;cases q
  | some e =>
   rw[hf] at q
   have e1:e.says=s:=Af q
   have e2:e.row=r:=by have:=Jz hf;simpa using this
   have:=J4 hf
   rw[<- e1,<- e2]
   exact this
 .intro q
  cases hf:B.entries.find? fun (e:Entry)=>e.row==r with
  | none=>exact absurd (MK.mp hf ⟨r,s⟩ q) (by simp)
  | some e =>
   have e2:e.row=r:=by have:=Jz hf;simpa using this
   have:=h.row_inj (J4 hf) q e2
   rw[this]
   rfl
theorem et {B:Bg} (h:Sorted B.entries) (hs:∀e∈B.entries,e.says≠[]):Rel (CI B.entries) B.entries:=fun r s=>by
 rw[Xi h,Vm h]
 exact⟨fun q=>q.1,fun q=>⟨q,hs _ q⟩⟩
def M9 (x:Act):Prop:=match x with
 | .add _ s=>s≠[]
 | .drop _=>True
 | .change _ s=>s≠[]
theorem eu {tbl:List TB}{es:List Entry} (h:Rel tbl es) (hs:Sorted es) {x:Act} (hx:M9 x):Rel (Ct tbl (zc x).2.1 (zc x).2.2) (Act.on es x):=fun r s=>by
 rw[UC hs x ⟨r,s⟩,Pe,Pn]
 have hr:=h r s
 by_cases e:r=x.row
 .rw[JJz e]
  cases x with
  | add r0 s0 =>
   show(some s0=some s/\s≠[])↔(some (⟨r0,s0⟩:Entry)=some ⟨r,s⟩\/_)
   have e:r=r0:=e
   subst e
   constructor
   .rintro⟨q,_⟩
    exact .inl (by rw[Af q])
   .rintro(q | ⟨_,q⟩)
    .cases Af q
     exact⟨rfl,hx⟩
    .exact absurd rfl q
  | drop r0 =>
   show(some []=some s/\s≠[])↔((none:Option Entry)=some ⟨r,s⟩\/_)
   constructor
   .rintro⟨q,w⟩
    exact absurd (Af q).symm w
   .rintro(q | ⟨_,q⟩)
    .cases q
    .exact absurd e q
  | change r0 s0 =>
   show(some s0=some s/\s≠[])↔(some (⟨r0,s0⟩:Entry)=some ⟨r,s⟩\/_)
   have e:r=r0:=e
   subst e
   constructor
   .rintro⟨q,_⟩
    exact .inl (by rw[Af q])
   .rintro(q | ⟨_,q⟩)
    .cases Af q
     exact⟨rfl,hx⟩
    .exact absurd rfl q
 .rw[JJx e,hr]
  constructor
  .intro q
   exact .inr ⟨q,e⟩
  .rintro(q | ⟨q,_⟩)
   .exfalso
    cases x with
    | add r0 s0=>cases Af (show some (⟨r0,s0⟩:Entry)=some ⟨r,s⟩ from q);exact e rfl
    | drop r0=>exact nomatch (show(none:Option Entry)=some ⟨r,s⟩ from q)
    | change r0 s0=>cases Af (show some (⟨r0,s0⟩:Entry)=some ⟨r,s⟩ from q);exact e rfl
   .exact q
def Dq (tbl:List TB) (acts:List Act):List TB:=acts.foldl (fun t x=>Ct t (zc x).2.1 (zc x).2.2) tbl
theorem Ui:∀(acts:List Act) {tbl:List TB}{es:List Entry},Rel tbl es->Sorted es->(∀x∈acts,M9 x)->Rel (Dq tbl acts) (acts.foldl Act.on es)
 | [],_,_,h,_,_=>h
 | x::acts,_,_,h,hs,hx=>Ui acts (eu h hs (hx x AV)) (OP hs x) fun y hy=>hx y (Av _ hy)
def JE (tbl:List TB) (rows:List (List Nat)):List Entry:=(rows.filter fun r=>!decide (BU tbl r=some [])).map fun r=>⟨r,(BU tbl r).getD []⟩
theorem ab {tbl:List TB}{es:List Entry}{rows:List (List Nat)} (h:Rel tbl es) (hs:Sorted es) (hp:rows.Perm (tbl.map (·.1))) (ho:rows.Pairwise fun a b=>BZ a b=true):JE tbl rows=es:=by
 refine Sorted.ext ?_ hs fun e=>?_
 .unfold Sorted JE
  rw[QP]
  exact ho.filter _
 .unfold JE
  rw[Bb]
  constructor
  .rintro⟨r,hr,rfl⟩
   rw[Cv] at hr
   obtain⟨y,hy⟩:=MY.mp (valT_mem.mp (hp.mem_iff.mp hr.1))
   rw[hy]
   refine(h r y).mp ⟨hy,fun z=>?_⟩
   have:=hr.2
   rw[hy,z] at this
   simp at this
  .intro he
   obtain⟨h1,h2⟩:=(h e.row e.says).mpr he
   refine⟨e.row,Cv.mpr ⟨hp.mem_iff.mpr (valT_mem.mpr (by rw[h1];rfl)),?_⟩,by rw[h1];rfl⟩
   rw[h1,JJj fun z=>h2 (Af z)]
   rfl
end Fb
namespace Fb
open Flags (Bytes Entry Act)
def Gn (L:AN) (r:List Nat):Prop:=r≠[]/\r.length<=8/\∀s∈r,∃k n,L.kinds[s]?=some k/\k.role=.sign n/\n.length<=8/\n≠[]
theorem c8 {n:Bytes} (h:Ck n=true):n≠[]:=fun e=>by
 rw[e] at h
 exact absurd h (by decide)
theorem OI {n:Bytes} (h:Ck n=true):n.length<=8:=by
 unfold Ck at h
 rw[BL,BL] at h
 exact JJq h.2.1
theorem bE {L:AN}{n:Bytes}{i:Nat} (h:L.find n=some i):∃k,L.kinds[i]?=some k/\k.role=.sign n:=by
 unfold MC at h
 obtain⟨h1,h2,_⟩:=QC.mp h
 exact⟨L.kinds[i],Ba h1,by simpa using h2⟩
theorem Ul {L:AN}:∀{ns:List Bytes}{r:List Nat},L.rowIn ns=some r->(∀n∈ns,Ck n=true)->r.length=ns.length/\∀s∈r,∃k n,L.kinds[s]?=some k/\k.role=.sign n/\n.length<=8/\n≠[]
 | [],r,h,_=>by
  simp[Fo] at h
  subst h
  exact⟨rfl,fun s hs=>nomatch hs⟩
 | n::ns,r,h,hn=>by
  unfold Fo at h
  rw[HI] at h
  cases hf:L.find n with
  | none=>rw[hf] at h;cases h
  | some i =>
   rw[hf] at h
   cases hr:IV L.find ns with
   | none=>rw[hr] at h;cases h
   | some r' =>
    rw[hr] at h
    have h:some (i::r')=some r:=h
    cases h
    obtain⟨h1,h2⟩:=Ul (L:=L) (ns:=ns) (r:=r') hr fun m hm=>hn m (Av _ hm)
    refine⟨by rw[Bn,Bn,h1],fun s hs=>?_⟩
    rcases AQ.mp hs with e | hs
    .subst e
     obtain⟨k,k1,k2⟩:=bE hf
     exact⟨k,n,k1,k2,OI (hn n AV),c8 (hn n AV)⟩
    .exact h2 s hs
theorem Uk {L:AN}{w:Bytes}{r:List Nat} (h:L.rowIn (BI 46 w)=some r) (hl:(BI 46 w).length<=8) (hn:(BI 46 w).all Ck=true):Gn L r:=by
 obtain⟨h1,h2⟩:=Ul h (Cu.mp hn)
 refine⟨fun e=>?_,by omega,h2⟩
 rw[e] at h1
 have:BI 46 w=[]:=HH.mp h1.symm
 cases w with
 | nil=>cases this
 | cons x t =>
  have e:BI 46 (x::t)=if x=46 then []::BI 46 t else match BI 46 t with
   | []=>[[x]]
   | w::l=>(x::w)::l:=rfl
  rw[e] at this
  split at this
  .cases this
  .split at this <;> cases this
theorem JR {s:Bytes} (h:Fq s=true):s.length<=64/\s≠[]:=by
 unfold Fq at h
 rw[BL,BL] at h
 refine⟨JJq h.2.1,fun e=>?_⟩
 have:=JJq h.1
 rw[e] at this
 exact absurd this (by decide)
def F2 (L:AN) (e:Entry):Prop:=Gn L e.row/\e.says.length<=64/\e.says≠[]
theorem SQ {r:Bytes} (h:Cn r=true):(BI 46 (Az r)).length<=8/\(BI 46 (Az r)).all Ck=true/\Fq (BK r)=true:=by
 unfold Cn at h
 rw[BL,BL] at h
 exact⟨JJq h.1.1,h.1.2,h.2⟩
theorem az {L:AN}{past:List Entry}{w:Bytes}{n:List Bytes}{m:Bytes}{row:List Nat} (he:Fp w=some (n,m)) (hr:L.entryRow past n=.ok row):F2 L ⟨row,m⟩:=by
 rw[Nm] at he
 split at he
 .rename_i hok
  cases he
  obtain⟨h1,h2,h3⟩:=SQ hok
  have hrow:L.rowIn (BI 46 (Az w))=some row:=by
   unfold MB at hr
   cases hq:L.rowIn (BI 46 (Az w)) with
   | none=>rw[hq] at hr;cases hr
   | some r' =>
    rw[hq] at hr
    dsimp only at hr
    split at hr
    .cases hr
    .split at hr
     .cases hr
     .split at hr
      .cases hr
      .cases hr;rfl
  exact⟨Uk hrow h1 h2,JR h3⟩
 .cases he
theorem TY (L:AN):∀(ls:List Bytes) (i:Nat) (past es:List Entry),L.judgeEntries i past ls=.ok es->(∀e∈past,F2 L e)->∀e∈es,F2 L e
 | [],i,past,es,h,hp=>by
  unfold Pz at h
  cases h
 | [w],i,past,es,h,hp=>by
  unfold Pz at h
  split at h
  .cases h;exact hp
  .cases h
 | w::x::r,i,past,es,h,hp=>by
  unfold Pz at h
  cases he:Fp w with
  | none=>rw[he] at h;cases h
  | some p =>
   obtain⟨n,m⟩:=p
   rw[he] at h
   dsimp only at h
   cases hr:L.entryRow past n with
   | error k=>rw[hr] at h;cases h
   | ok row =>
    rw[hr] at h
    dsimp only at h
    refine TY L (x::r) (i+1) _ es h fun e hm=>?_
    rcases DL.mp hm with hm | hm
    .exact hp e hm
    .rw[BB.mp hm]
     exact az he hr
theorem TV {L:AN}{t:Bytes}{B:Bg} (h:L.judgeBook t=.ok B):(∀e∈B.entries,F2 L e)/\B.name.length<=8:=by
 unfold X9 at h
 split at h
 .split at h
  .cases h
  .rename_i n hn
   split at h
   .cases h
   .split at h
    .cases h
    .split at h
     .cases h
     .generalize hj:L.judgeEntries 2 [] _=y at h
      cases y with
      | error e=>cases h
      | ok es =>
       cases h
       refine⟨TY L _ _ _ _ hj (fun e hm=>nomatch hm),?_⟩
       unfold By at hn
       split at hn
       .split at hn
        .rename_i q
         cases hn
         exact OI q.2
        .cases hn
       .cases hn
 .cases h
def Gh (L:AN) (x:Act):Prop:=M9 x/\Gn L (zc x).2.1/\(zc x).2.2.length<=64
theorem gX {L:AN}{B:Bg}{acts acts':List Act}{ln:Bytes} (h:C7 L B acts ln=.ok acts') (hp:∀x∈acts,Gh L x):∀x∈acts',Gh L x:=by
 unfold C7 at h
 cases ha:GN ln with
 | none=>rw[ha] at h;cases h
 | some y =>
  obtain⟨c,n,m⟩:=y
  rw[ha] at h
  dsimp only at h
  cases hr:L.actRow B acts c n m with
  | error k=>rw[hr] at h;cases h
  | ok x0 =>
   rw[hr] at h
   have h:(Except.ok (acts++[x0]):Except Nat (List Act))=.ok acts':=h
   cases h
   intro x hx
   rcases DL.mp hx with hx | hx
   .exact hp x hx
   .rw[BB.mp hx]
    match ln,ha with
    | [],ha=>cases ha
    | [_],ha=>cases ha
    | c'::d::r,ha =>
    rw[NJ] at ha
    split at ha
    .rename_i hok
     cases ha
     have hd:d=32:=by
      by_cases z:d=32
      .exact z
      .have e2:Dr (c::d::r)=if d=32 then (if c=45 then DV r else if c=43\/c=61 then Cn r else false) else false:=rfl
       rw[e2,JJx z] at hok
       cases hok
     subst hd
     have hm:=OD hok
     have parts:(BI 46 (Az r)).length<=8/\(BI 46 (Az r)).all Ck=true/\(c=45\/Fq (BK r)=true):=by
      have e2:Dr (c::32::r)=if (32:UInt8)=32 then (if c=45 then DV r else if c=43\/c=61 then Cn r else false) else false:=rfl
      rw[e2,JJz rfl] at hok
      by_cases h1:c=45
      .rw[JJz h1] at hok
       rw[(Je hok).1]
       unfold DV at hok
       rw[BL] at hok
       exact⟨JJq hok.1,hok.2,.inl h1⟩
      .rw[JJx h1] at hok
       by_cases h3:c=43\/c=61
       .rw[JJz h3] at hok
        obtain⟨q1,q2,q3⟩:=SQ hok
        exact⟨q1,q2,.inr q3⟩
       .rw[JJx h3] at hok;cases hok
     obtain⟨p1,p2,p3⟩:=parts
     have hx0:∃rw0,L.rowIn (BI 46 (Az r))=some rw0/\x0=DX c rw0 (BK r):=by
      unfold MA at hr
      cases hq:L.rowIn (BI 46 (Az r)) with
      | none=>rw[hq] at hr;cases hr
      | some r' =>
       rw[hq] at hr
       dsimp only at hr
       split at hr
       .cases hr
       .split at hr
        .cases hr
        .split at hr
         .cases hr
         .cases hr;exact⟨r',rfl,rfl⟩
     obtain⟨rw0,hrow,rfl⟩:=hx0
     refine⟨?_,?_⟩
     .unfold DX
      rcases hm with ⟨rfl,_⟩ | rfl | rfl
      .trivial
      .exact(JR (p3.resolve_left (by decide))).2
      .exact(JR (p3.resolve_left (by decide))).2
     .rw[X0 rw0 hm]
      refine⟨Uk hrow p1 p2,?_⟩
      rcases hm with ⟨_,e⟩ | e | e
      .show(BK r).length<=64
       rw[e];exact Ax _
      .exact(JR (p3.resolve_left (by rw[e];decide))).1
      .exact(JR (p3.resolve_left (by rw[e];decide))).1
    .cases ha
theorem gT {L:AN}{B:Bg}{acts acts':List Act}{i:Nat}{ln:Bytes} (h:Bq L B acts i ln=.ok acts') (hp:∀x∈acts,Gh L x):∀x∈acts',Gh L x:=by
 unfold Bq at h
 split at h
 .split at h
  .cases h
  .split at h
   .cases h
   .cases h;exact hp
 .exact gX h hp
theorem Us {L:AN}{B:Bg}:∀(ls:List Bytes) (i:Nat) (acts acts':List Act),Bm (Bq L B) i acts ls=.ok acts'->(∀x∈acts,Gh L x)->∀x∈acts',Gh L x
 | [],i,acts,acts',h,hp=>by
  have h:(Except.ok acts:Except Flags.Fault (List Act))=.ok acts':=h
  cases h;exact hp
 | w::ls,i,acts,acts',h,hp=>by
  cases hs:Bq L B acts i w with
  | error k=>rw[CZ hs] at h;cases h
  | ok a1 =>
   rw[C1 hs] at h
   exact Us ls (i+1) a1 acts' h (gT hs hp)
theorem Sk {L:AN}:∀(acts:List Act) (es:List Entry),Sorted es->(∀e∈es,F2 L e)->(∀x∈acts,Gh L x)->∀e∈acts.foldl Act.on es,F2 L e
 | [],es,_,h,_=>h
 | x::acts,es,hs,h,hx=>by
  refine Sk acts (Act.on es x) (OP hs x) (fun e he=>?_) fun y hy=>hx y (Av _ hy)
  rcases(UC hs x e).mp he with q | ⟨q,_⟩
  .have hxx:=hx x AV
   cases x with
   | add r s=>cases Af (show some (⟨r,s⟩:Entry)=some e from q);exact⟨hxx.2.1,hxx.2.2,hxx.1⟩
   | drop r=>exact nomatch (show(none:Option Entry)=some e from q)
   | change r s=>cases Af (show some (⟨r,s⟩:Entry)=some e from q);exact⟨hxx.2.1,hxx.2.2,hxx.1⟩
  .exact h e q
theorem bu {t:Bytes}{L:AN} (h:Eo t=.ok L):L.name.length<=8:=by
 unfold Eo at h
 split at h
 .split at h
  .rename_i n hn
   generalize hj:ME 1 [] _=y at h
   cases y with
   | error e=>cases h
   | ok es =>
    cases h
    unfold MF at hn
    split at hn
    .split at hn
     .rename_i q
      cases hn
      exact OI q.2
     .cases hn
    .cases hn
  .cases h
 .cases h
end Fb
namespace Fb
open Flags (Bytes Row Entry Act Book rowBefore betweenFrom)
end Fb
namespace Fb
open Flags
end Fb
namespace Fb
open PySem
def top (i:Nat):Stmt:=FI.main.body.getD i (.Pass ⟨0,0,0,0⟩)
abbrev WR:Stmt:=top 1
abbrev V9:Stmt:=top 2
abbrev WA:Stmt:=top 3
abbrev V1:Stmt:=top 4
abbrev WS:Stmt:=top 10
abbrev Wl:Stmt:=top 11
abbrev WI:Stmt:=top 12
abbrev WH:Stmt:=top 13
abbrev WJ:Stmt:=top 14
abbrev WX:Stmt:=top 15
abbrev WY:Stmt:=top 16
abbrev V8:Stmt:=top 17
abbrev V6:Stmt:=top 18
abbrev Vs:Stmt:=top 31
abbrev Vq:Stmt:=top 32
abbrev WG:Stmt:=top 33
abbrev Wh:Stmt:=top 34
abbrev WU:Stmt:=top 35
abbrev WL:Stmt:=top 36
abbrev WM:Stmt:=top 37
abbrev WC:Stmt:=top 38
abbrev Wj:Stmt:=top 39
abbrev Wa:Stmt:=top 40
abbrev WK:Stmt:=top 41
abbrev Wg:Stmt:=top 42
abbrev Wm:Stmt:=top 43
abbrev Wo:Stmt:=top 44
abbrev Wc:Stmt:=top 46
abbrev Wt:Stmt:=top 47
abbrev V7:Stmt:=top 48
abbrev Wr:Stmt:=top 49
abbrev Vr:Stmt:=top 57
abbrev Vp:Stmt:=top 58
abbrev WV:Stmt:=top 59
abbrev WB:Stmt:=top 60
abbrev V4:Stmt:=top 61
abbrev V0:Stmt:=top 62
abbrev V3:Stmt:=top 63
abbrev WW:Stmt:=top 64
abbrev Wn:Stmt:=top 65
abbrev Wb:Stmt:=top 67
abbrev V5:Stmt:=top 68
abbrev Vz:Stmt:=top 69
abbrev WZ:Stmt:=top 72
abbrev Vt:Stmt:=top 85
abbrev Vu:Stmt:=top 86
abbrev Wk:Stmt:=top 87
abbrev Wi:Stmt:=top 88
abbrev WT:Stmt:=top 89
abbrev WQ:Stmt:=top 90
abbrev WO:Stmt:=top 91
abbrev V2:Stmt:=top 92
abbrev WD:Stmt:=top 93
abbrev WE:Stmt:=top 94
abbrev WN:Stmt:=top 95
abbrev Vx:Stmt:=top 96
abbrev Wq:Stmt:=top 97
abbrev Wd:Stmt:=top 99
abbrev Vv:Stmt:=top 105
abbrev We:Stmt:=top 106
abbrev Ws:Stmt:=top 107
abbrev Vy:Stmt:=top 108
end Fb
namespace Fb
open PySem PySem.Spec PyProof.Rows L2
open PySem.W (Codec)
def Has (P:Program) (w:World) (K:AD) (mg:Str->Option Value) (x:Str) (k:Nat) (ps:List Str) (sp:Sp):Prop :=
 ∃(f:Addr) (fd:FuncData),mg x=some (.ref f)/\HN K (.ref f)=true/\Binds K fd ps []/\∀base:Heap,FnOk P w K mg base CX0 k f fd ps sp
structure Def (K:AD) (mg:Str->Option Value) (x nm qual:Str) (st:Stmt) (ps:List Str) (f:Addr) (fd:FuncData):Prop where
 fn:Fun K nm qual st f fd
 at_:mg x=some (.ref f)
 bd:Binds K fd ps []
section
variable {P:Program}{w:World}{K:AD}{mg:Str->Option Value}
theorem Def.has {x nm qual:Str}{st:Stmt}{ps:List Str}{f:Addr}{fd:FuncData}{k:Nat}{sp:Sp} (D:Def K mg x nm qual st ps f fd) (h:∀base:Heap,FnOk P w K mg base CX0 k f fd ps sp):Has P w K mg x k ps sp :=
 ⟨f,fd,D.at_,D.fn.kp,D.bd,h⟩
end
theorem AO {X:Cx}{k:Nat}{ps:List Str}{sp:Sp}{x:Str}{p pos:Pos}{e:Expr}{es:List Expr}{t:TA} (h:Has X.prog X.w X.K X.mg x k ps sp) (hr:Room k X.A) (hg:Gl X x) (ha:PA X (e::es) t)
  (hdb:(x==("__debug__":Str))=false:=by decide) (he:starEach (e::es) X.env=(false,eval e X.env)::starEach es X.env:=by rfl) (hpl:(backTo pos (starEach es X.env)).any (·.1)=false:=by rfl):
  PE X (.Call (.Name x p) (e::es) [] pos) (Jj sp [] E0 t):=by
 obtain⟨f,fd,h1,h2,h3,h4⟩:=h
 exact UJ (h4 X.base) hr hg h1 h2 h3 .nil Ho ha hdb he hpl
theorem _root_.L2.Same.new {H H':Hp} (s:Same H H') {p:Addr}{o:HO} (h:H' p=none):Same H (upd H' p o):=fun b u e=>by
 rw[AF (Ac (s b u e) h)]
 exact s b u e
theorem _root_.L2.Same.wr {H H':Hp} (s:Same H H') {p:Addr}{o:HO} (h:H p=none):Same H (upd H' p o):=fun b u e=>by
 rw[AF (Ac e h)]
 exact s b u e
theorem CG {n:Nat} (h:n < 1000000):n < sizeLine:=CU h (by decide)
theorem BP {n:Nat} (h:n < 1000000):n<=sizeLine:=Ia (CG h)
theorem Fc {α β:Type}{F:α->β->Prop}:∀{l₁:List α}{l₂:List β}{a:α}{b:β},Paired F l₁ l₂->F a b->Paired F (l₁++[a]) (l₂++[b])
 | _,_,_,_,.nil,h=>.cons h .nil
 | _,_,_,_,.cons r t,h=>.cons r (Fc t h)
theorem Bp {α β:Type}{F:α->β->Prop}:∀{l₁:List α}{l₂:List β},Paired F l₁ l₂->l₁.length=l₂.length
 | _,_,.nil=>rfl
 | _,_,.cons _ t=>congrArg (·+1) (Bp t)
theorem OT {α β:Type}{F:α->β->Prop}:∀{l₁:List α}{l₂:List β}{a:α},Paired F l₁ l₂->a∈l₁->∃b,b∈l₂/\F a b
 | _,_,_,.nil,h=>by cases h
 | _,_,a,.cons r t,h=>by
  rcases AQ.mp h with e | h
  .subst e;exact⟨_,AV,r⟩
  .obtain⟨b,hb,q⟩:=OT t h
   exact⟨b,Av _ hb,q⟩
theorem JV {α β:Type}{F G:α->β->Prop}:∀{l₁:List α}{l₂:List β},Paired F l₁ l₂->(∀a b,a∈l₁->F a b->G a b)->Paired G l₁ l₂
 | _,_,.nil,_=>.nil
 | _,_,.cons r t,f=>.cons (f _ _ AV r) (JV t fun a b m=>f a b (Av _ m))
theorem EL {α:Type}:∀{l:List α}{i:Nat}{x:α},l[i]?=some x->l.take (i+1)=l.take i++[x]
 | [],i,x,h=>by simp at h
 | a::l,0,x,h=>by
  have e:a=x:=Af h
  subst e
  rfl
 | a::l,i+1,x,h=>by
  have ih:=EL (l:=l) (i:=i) (x:=x) h
  show a::l.take (i+1)=a::l.take i++[x]
  rw[ih]
  rfl
theorem FV {ns:List Int}{i:Nat}{y:V} (h:(ns.map V.int)[i]?=some y):∃z,ns[i]?=some z/\y=V.int z:=by
 rw[Ao] at h
 cases e:ns[i]? with
 | none=>rw[e] at h;cases h
 | some z=>rw[e] at h;exact⟨z,rfl,(Af h).symm⟩
abbrev Vc:Stmt:=Wl
def Fh (K:AD):Sp:=fun vs H Q _=>∃(a:Addr) (m:Int) (ns:List Int),vs=[.int m,.ref a]/\SqL K H a (ns.map V.int)/\ns.length < 100000/\
 ∀(H':Hp) (p:Addr) (as:List Addr),Same H H'->H p=none->(∀b∈as,H b=none)->H' p=some (.lst (as.map V.ref))->Paired (fun a ps=>H' a=some (.lst (ps.map V.int))) as (BF m ns)->Q (.ref p) H'
theorem scSplit:Ag ["mark","values","parts","part","value"] ["mark","values"] (AL Vc):=⟨rfl,rfl,rfl,by decide +kernel,rfl,by decide +kernel,by decide +kernel⟩
section
variable {P:Program}{w:World}{K:AD}{mg:Str->Option Value}{base:Heap}
theorem ok_split {f:Addr}{fd:FuncData} (F:Fun K "split_at" "split_at" Vc f fd):FnOk P w K mg base CX0 1 f fd ["mark","values"] (Fh K):=by
 refine F.ok scSplit (fun vs H Q E h=>?_) (fun cdv A outer s H vs Q E hr h=>?_)
 .obtain⟨a,m,ns,rfl,_⟩:=h
  rfl
 .obtain⟨a,m,ns,rfl,hS,hlen,k⟩:=h
  refine⟨_,AJ (BN (i:=2) scSplit.nd rfl (Ai rfl) (BD AE)) (AJ (BN (i:=3) scSplit.nd rfl (Ai rfl) (BD AE))
   (AJ (E6 FJ rfl (DS (pv 1)) (CT (i:=4) scSplit.nd rfl (Ai rfl))
    (AK (As (Aj Bt (pv 4) (pv 0) (AY _))
     (AJ (El (EE EU GX GY GH (pv 2) (AB (pv 3) AE))) (AK (BN (i:=3) scSplit.nd rfl (Ai rfl) (BD AE))))
     (AK (El (EE EU GX GY GH (pv 3) (AB (pv 4) AE)))))))
   (AJ (El (EE EU GX GY GH (pv 2) (AB (pv 3) AE)))
   (AK (AM (pv 2)))))),?_⟩
  refine⟨Ax _,fun ap nap=>⟨Ax _,fun q nq=>?_⟩⟩
  have s1:Same H (upd (upd H ap (.lst [])) q (.lst [])):=(Same.new (Same.refl H) nap).new nq
  have nq0:H q=none:=(Same.new (Same.refl H) nap).free nq
  have apq:ap≠q:=Ac AG nq
  refine⟨_,rfl,a,rfl,⟨_,s1.seq hS⟩,Ha (K:=K) (a:=a) (xs:=ns.map V.int)
   (fun i σ H'=>∃(v:Option V) (q:Addr) (as:List Addr) (done:List (List Int)) (p:List Int),σ=[some (.int m),some (.ref a),some (.ref ap),some (.ref q),v]/\BF m (ns.take i)=done++[p]/\H q=none/\ap≠q/\ap∉as/\q∉as/\(∀b∈as,H b=none)/\
    H' ap=some (.lst (as.map V.ref))/\H' q=some (.lst (p.map V.int))/\Paired (fun a ps=>H' a=some (.lst (ps.map V.int))) as done/\Same H H')
   ⟨none,q,[],[],[],rfl,rfl,nq0,apq,by simp,by simp,by simp,by rw[AF apq];exact AG,AG,.nil,s1⟩ (fun i σ H' _ ⟨_,_,_,_,_,_,_,_,_,_,_,_,_,_,_,s5⟩=>s5.seq hS) ?_ ?_⟩
  .rintro i y σ H' hi ⟨v,q,as,done,p,rfl,hc,nq,hpq,hpas,hqas,fas,hap,hq,hpa,s2⟩
   obtain⟨z,hz,rfl⟩:=FV hi
   have hlt:i < ns.length:=(CJ.mp hz).1
   have ht:(ns.take i).length=i:=by rw[DK];omega
   have hcl:=Gr m (ns.take i)
   rw[hc,ht] at hcl
   have hpl:=Ez m (ns.take i) p (by rw[hc];simp)
   rw[ht] at hpl
   have hal:=Bp hpa
   have hcs:=Kn m z _ _ _ hc
   rw[<- EL hz] at hcs
   refine⟨_,rfl,_,rfl,rfl,_,rfl,?_⟩
   refine GA (fun hz0=>?_) (fun hz0=>?_)
   .have ezm:z=m:=by simpa using hz0
    rw[JJz ezm] at hcs
    refine⟨_,rfl,.inl ⟨rfl,_,SqL.of hap⟩,_,rfl,ap,_,_,rfl,rfl,hap,CG (by simp at hcl ⊢;omega),?_⟩
    refine⟨Ax _,fun q' nq'=>?_⟩
    have hq1:upd H' ap (.lst (as.map V.ref++[V.ref q])) q=some (.lst (p.map V.int)):=by rw[AF (Ar hpq)];exact hq
    have apn:ap≠q':=Ac AG nq'
    have nqq:q≠q':=Ac hq1 nq'
    have s3:Same H (upd H' ap (.lst (as.map V.ref++[V.ref q]))):=s2.wr nap
    refine⟨some (.int z),q',as++[q],done++[p],[],rfl,hcs,s3.free nq',apn,?_,?_,?_,?_,AG,?_,s3.new nq'⟩
    .simp;exact⟨hpas,hpq⟩
    .intro hm
     rcases DL.mp hm with hm | hm
     .obtain⟨ps,_,e⟩:=OT hpa hm
      have:q'≠ap:=Ar apn
      rw[AF this,e] at nq'
      cases nq'
     .simp at hm;exact nqq hm.symm
    .intro b hb
     rcases DL.mp hb with hb | hb
     .exact fas b hb
     .simp at hb;subst hb;exact nq
    .rw[AF apn,AG,Bo];rfl
    .refine Fc (JV hpa fun b ps hb e=>?_) ?_
     .have b1:b≠ap:=fun z=>hpas (z▸hb)
      have b2:b≠q':=by
       intro z
       rw[<- z,AF b1,e] at nq'
       cases nq'
      rw[AF b2,AF b1];exact e
     .show upd _ _ _ q=_
      rw[AF nqq];exact hq1
   .have ezm:¬z=m:=by simpa using hz0
    rw[JJx ezm] at hcs
    refine⟨_,rfl,.inl ⟨rfl,_,SqL.of hq⟩,_,rfl,q,_,_,rfl,rfl,hq,CG (by rw[AH];omega),?_⟩
    refine⟨some (.int z),q,as,done,p++[z],rfl,hcs,nq,hpq,hpas,hqas,fas,?_,?_,?_,s2.wr nq⟩
    .rw[AF hpq];exact hap
    .rw[AG,Bo];rfl
    .refine JV hpa fun b ps hb e=>?_
     have b1:b≠q:=fun z=>hqas (z▸hb)
     rw[AF b1];exact e
  .rintro σ H' ⟨v,q,as,done,p,rfl,hc,nq,hpq,hpas,hqas,fas,hap,hq,hpa,s2⟩
   rw[AH,MS] at hc
   have hcl:=Gr m ns
   rw[hc] at hcl
   have hal:=Bp hpa
   refine⟨_,rfl,.inl ⟨rfl,_,SqL.of hap⟩,_,rfl,ap,_,_,rfl,rfl,hap,CG (by simp at hcl ⊢;omega),?_⟩
   refine⟨_,rfl,k _ ap (as++[q]) (s2.wr nap) nap ?_ ?_ ?_⟩
   .intro b hb
    rcases DL.mp hb with hb | hb
    .exact fas b hb
    .simp at hb;subst hb;exact nq
   .rw[AG,Bo];rfl
   .rw[hc]
    refine Fc (JV hpa fun b ps hb e=>?_) ?_
    .have b1:b≠ap:=fun z=>hpas (z▸hb)
     rw[AF b1];exact e
    .rw[AF (Ar hpq)];exact hq
end
end Fb
namespace Fb
open PySem PySem.Spec PyProof.Rows L2
open PySem.W (Codec)
theorem JN {J:It}{n:Nat}{g:TG}{tt:TT}{te:TE}{vs:List Nat}{σ:L2.St}{H1:Hp}{D:Addr}{Qd:Hp->Prop} (Pv:Nat->Hp->Prop) (h0:Pv 0 (upd H1 D (.lst [])))
  (hgo:∀i H,i < n->Pv i H->J.go i H) (hst:∀H,Pv n H->J.stop n H)
  (hs:∀i x H H',i < n->Pv i H->J.yld i H x H'->g x (Bs σ vs) H' fun σ2 H2=>Bs σ2 vs=Bs σ vs/\tt σ2 H2 fun b H3 =>
   if b=true then te σ2 H3 fun y H4=>∃acc,H4 D=some (.lst acc)/\acc.length < sizeLine/\Pv (i+1) (upd H4 D (.lst (acc++[y]))) else Pv (i+1) H3) (hd:∀H,Pv n H->Qd H):
  ∃W:Nat->Nat->Hp->Prop,(∃m,W 0 m (upd H1 D (.lst [])))/\∀i m H,W i m H->
   (J.stop i H/\Qd H)\/(J.go i H/\∃Nx:Hp->Prop,(∀H',Nx H'->∃m',m' < m/\W (i+1) m' H')/\∀x H',J.yld i H x H'->g x (Bs σ vs) H' fun σ2 H2=>Bs σ2 vs=Bs σ vs/\tt σ2 H2 fun b H3 =>
    if b=true then te σ2 H3 fun y H4=>∃acc,H4 D=some (.lst acc)/\acc.length < sizeLine/\Nx (upd H4 D (.lst (acc++[y]))) else Nx H3):=by
 refine⟨fun i m H=>i+m=n/\Pv i H,⟨n,by omega,h0⟩,fun i m H ⟨e,p⟩=>?_⟩
 by_cases hi:i < n
 .refine .inr ⟨hgo i H hi p,Pv (i+1),fun H' q=>⟨m - 1,by omega,by omega,q⟩,fun x H' y=>hs i x H H' hi p y⟩
 .have:i=n:=by omega
  subst this
  exact .inl ⟨hst H p,hd H p⟩
theorem Kx {J:It}{n:Nat}{g:TG}{tb:TS}{D:Gj}{σ:L2.St}{H:Hp} (Pv:Nat->L2.St->Hp->Prop) (h0:Pv 0 σ H)
  (hgo:∀i σ H,i < n->Pv i σ H->J.go i H) (hst:∀σ H,Pv n σ H->J.stop n H)
  (hs:∀i x σ H H',i < n->Pv i σ H->J.yld i H x H'->g x σ H' fun σ2 H2=>tb { D with nx:=Pv (i+1),ct:=Pv (i+1),bk:=D.nx } σ2 H2) (hd:∀σ H,Pv n σ H->D.nx σ H):
  ∃W:Nat->Nat->L2.St->Hp->Prop,(∃m,W 0 m σ H)/\∀i m σ H,W i m σ H->
   (J.stop i H/\D.nx σ H)\/(J.go i H/\∃N:L2.St->Hp->Prop,(∀σ' H',N σ' H'->∃m',m' < m/\W (i+1) m' σ' H')/\∀x H',J.yld i H x H'->g x σ H' fun σ2 H2=>tb { D with nx:=N,ct:=N,bk:=D.nx } σ2 H2):=by
 refine⟨fun i m σ H=>i+m=n/\Pv i σ H,⟨n,by omega,h0⟩,fun i m σ H ⟨e,p⟩=>?_⟩
 by_cases hi:i < n
 .refine .inr ⟨hgo i σ H hi p,Pv (i+1),fun σ' H' q=>⟨m - 1,by omega,by omega,q⟩,fun x H' y=>hs i x σ H H' hi p y⟩
 .have:i=n:=by omega
  subst this
  exact .inl ⟨hst σ H p,hd σ H p⟩
theorem GD {J:It}{n:Nat}{g:TG}{te:TE}{vs:List Nat}{σ:L2.St}{H1:Hp}{D:Addr}{Qd:Hp->Prop} (ys:List V) (hn:ys.length=n) (hsz:n < sizeLine) (hD:H1 D=none)
  (hgo:∀i H,i < n->Same H1 H->J.go i H) (hst:∀H,Same H1 H->J.stop n H)
  (hs:∀i x y H H',ys[i]?=some y->Same H1 H->J.yld i H x H'->∀R:VK,(∀H4,Same H H4->R y H4)->g x (Bs σ vs) H' fun σ2 H2=>Bs σ2 vs=Bs σ vs/\te σ2 H2 R) (hd:∀H,Same H1 H->H D=some (.lst ys)->Qd H):
  ∃W:Nat->Nat->Hp->Prop,(∃m,W 0 m (upd H1 D (.lst [])))/\∀i m H,W i m H->
   (J.stop i H/\Qd H)\/(J.go i H/\∃Nx:Hp->Prop,(∀H',Nx H'->∃m',m' < m/\W (i+1) m' H')/\∀x H',J.yld i H x H'->g x (Bs σ vs) H' fun σ2 H2=>Bs σ2 vs=Bs σ vs/\Fl σ2 H2 fun b H3 =>
    if b=true then te σ2 H3 fun y H4=>∃acc,H4 D=some (.lst acc)/\acc.length < sizeLine/\Nx (upd H4 D (.lst (acc++[y]))) else Nx H3):=by
 refine JN (n:=n) (tt:=Fl) (te:=te) (fun i H=>Same H1 H/\H D=some (.lst (ys.take i))) ⟨(Same.refl H1).new hD,AG⟩ (fun i H hi p=>hgo i H hi p.1) (fun H p=>hst H p.1) (fun i x H H' hi p y=>?_) (fun H p=>hd H p.1 ?_)
 .obtain⟨z,hz⟩:∃z,ys[i]?=some z:=⟨_,Ba (by omega)⟩
  have q:=hs i x z H H' hz p.1 y (fun y H4=>∃acc,H4 D=some (.lst acc)/\acc.length < sizeLine/\(Same H1 (upd H4 D (.lst (acc++[y])))/\upd H4 D (.lst (acc++[y])) D=some (.lst (ys.take (i+1))))) fun H4 s4=>?_
  .have e2:(fun σ2 H2=>Bs σ2 vs=Bs σ vs/\Fl σ2 H2 fun b H3=>if b=true then te σ2 H3 fun y H4=>∃acc,H4 D=some (.lst acc)/\acc.length < sizeLine/\(Same H1 (upd H4 D (.lst (acc++[y])))/\upd H4 D (.lst (acc++[y])) D=some (.lst (ys.take (i+1)))) else (Same H1 H3/\H3 D=some (.lst (ys.take (i+1)))))=
     fun σ2 H2=>Bs σ2 vs=Bs σ vs/\te σ2 H2 fun y H4=>∃acc,H4 D=some (.lst acc)/\acc.length < sizeLine/\(Same H1 (upd H4 D (.lst (acc++[y])))/\upd H4 D (.lst (acc++[y])) D=some (.lst (ys.take (i+1)))):=by
    funext σ2 H2
    simp only[Fl,if_true]
   rw[e2]
   exact q
  .refine⟨_,s4 _ _ p.2,by rw[DK];omega,(p.1.trans s4).wr hD,?_⟩
   rw[AG,EL hz]
 .have:=p.2
  rw[<- hn,MS] at this
  exact this
theorem FW {K:AD}{a:Addr}{xs:List V}{i:Nat}{H:Hp} (h:SqL K H a xs) (hi:i < xs.length):(Itl K a).go i H:=by
 first | exact⟨xs,_,h,Ba hi⟩ | exact⟨xs,h,hi⟩
theorem FX {K:AD}{a:Addr}{xs:List V}{H:Hp} (h:SqL K H a xs):(Itl K a).stop xs.length H:=⟨xs,h,Aa _⟩
end Fb
namespace Fb
open PySem PySem.Spec PyProof.Rows L2
open PySem.AutoSeq1 (wpAny_loadPart')
theorem Rz (k:Int):∀{ns:List Int}{us:List Value},Vals (ns.map V.int) us->us.countP (eqU (.int k))=ns.count k
 | [],_,r=>by rw[GW] at r;cases r;rfl
 | n::ns,_,r=>by
  rw[Aq] at r
  cases r with
  | cons h t =>
   rw[P6,List.count_cons,Rz k t,JG h rfl]
   rfl
theorem cw {X:Cx}:MtR X "list.count" (fun x xs H Q=>∃(a:Addr) (ns:List Int) (k:Int),x=.ref a/\xs=[.int k]/\SqL X.K H a (ns.map V.int)/\Q (.int (ns.count k:Nat)) H):=by
 intro pins s σ H x xs v us Q I rx rxs h
 obtain⟨a,ns,k,rfl,rfl,hs,q⟩:=h
 cases rx
 obtain⟨uy,rfl,ry⟩:=G6 rxs
 obtain⟨its,rv,⟨⟨cls,dd,data,sl⟩,n,ho,hc,hdn,hd⟩,hlen⟩:=I.list hs
 simp only at hc hd
 subst hc hd
 refine KN Y0 ⟨_,ho,rfl⟩ PySem.F.entry_list_count (PySem.F.args_list_count_2 _ _)
  (SeqAt.list_countAt a its.toArray n dd sl uy (eqU (.int k))) ⟨ho,fun u' hu'=>JS ry rfl rv (by simp[Cy]) u' (by simpa using hu'),?_⟩
 rw[show its.toArray.toList=its from rfl,Rz k rv]
 exact⟨.int (ns.count k:Nat),H,I.tok _,⟨_,rfl⟩,q⟩
theorem bR (l b:Addr) (U W:Array Value) (n n2:Nat) (e1 e2:Option Addr) (c1 c2:Array (Option Value)) (ns ms:List Int) (hi:IntsAre U.toList ns) (hj:IntsAre W.toList ms) (k:Nat):
  ∀i:Nat,U.size - i=k->i<=U.size->i<=W.size->Meets (Builtin.«list.__eq__.loop» ⟨[.ref l,.ref b,rawInt i,rawInt 4],[]⟩)
   (fun A R s=>s.heap.get? l=some { cls:=.type "list",dict:=e1,data:=.seq U n,slots:=c1 }/\s.heap.get? b=some { cls:=.type "list",dict:=e2,data:=.seq W n2,slots:=c2 }/\
    R (.ok (.ret (.bool (HT.lexLt (ms.drop i) (ns.drop i))))) s):=by
 have z1:U.size=ns.length:=by rw[<- hi.length];simp
 have z2:W.size=ms.length:=by rw[<- hj.length];simp
 induction k with
 | zero =>
  intro i hk hiU hiW prog w A R s h
  obtain⟨hp,g,d,tk,os⟩:=s
  obtain⟨hl,hb,h⟩:=h
  wp_walk using Cc hl,Cc hb
  have q1:U[((i:Nat):Int).toNat]?=none:=by simp;omega
  have q2:ns.drop i=[]:=by apply IS;omega
  rw[q2] at h
  rw[q1]
  have e:HT.lexLt (ms.drop i) []=false:=by cases ms.drop i <;> rfl
  rw[e] at h
  have q3:decide (U.size > W.size)=false:=JJj (by omega)
  split
  .rename_i heq;cases heq
  .wp_walk using Cc hl,Cc hb
   show R (.ok (.ret (.bool (decide (U.size > W.size))))) _
   rw[q3];exact h
 | succ k ih =>
  intro i hk hiU hiW prog w A R s h
  obtain⟨hp,g,d,tk,os⟩:=s
  obtain⟨hl,hb,h⟩:=h
  have l1:i < U.size:=by omega
  have q1:U[((i:Nat):Int).toNat]?=some U[i]:=by simp[l1]
  have d1:ns.drop i=ns[i]'(by omega)::ns.drop (i+1):=Jy (by omega)
  have hc:((i:Int)+1)=((i+1:Nat):Int):=by omega
  obtain⟨a,t,ua,ha⟩:=PyProof.Rows.IntsAre.at hi i U[i] (by simp[l1])
  have ha':ns[i]'(by omega)=a:=by
   have q:=ha
   rw[Ba (by omega)] at q
   exact Af q
  by_cases l2:i < W.size
  .have q2:W[((i:Nat):Int).toNat]?=some W[i]:=by simp[l2]
   obtain⟨c,u,uc,hcm⟩:=PyProof.Rows.IntsAre.at hj i W[i] (by simp[l2])
   have hc':ms[i]'(by omega)=c:=by
    have q:=hcm
    rw[Ba (by omega)] at q
    exact Af q
   have d2:ms.drop i=ms[i]'(by omega)::ms.drop (i+1):=Jy (by omega)
   rw[d1,d2,HT.lexLt_cons,ha',hc'] at h
   wp_walk using Cc hl,Cc hb
   rw[q1,q2,ua,uc]
   obtain⟨e,he,hiff⟩:=HT.eqAt_int A.in1 ⟨hp,g,d,tk,os⟩ a t c u
   refine AI (he prog w _ _ ?_)
   cases e with
   | true =>
    rw[JJz (hiff.mp rfl).symm] at h
    wp_walk
    rw[hc]
    exact⟨plainId_quiet Mm _,ZO Y7 (by
     rw[Yg Mm _]
     exact ih (i+1) (by omega) (by omega) (by omega) prog w A R _ ⟨hl,hb,h⟩)⟩
   | false =>
    rw[JJx (fun q=>absurd (hiff.mpr q.symm) A8)] at h
    have hri:∀(E:Value->Shared->Prop) (Q:Value->Shared->Prop),Q (.bool (decide (c < a))) ⟨hp,g,d,tk,os⟩->wpAny (model prog w) A.in1 (richCompare .Gt (.int a t) (.int c u)) Q E ⟨hp,g,d,tk,os⟩:=fun E Q z =>
     (Yd z:wpAny (model prog w) A.in1 (compareOp .Gt (.int a t) (.int c u)) Q E _)
    wp_walk using Cc hl,Cc hb
    rw[q1,q2,ua,uc]
    wp_walk using hri
    exact h
  .have q2:W[((i:Nat):Int).toNat]?=none:=by simp;omega
   have d2:ms.drop i=[]:=IS (by omega)
   rw[d1,d2,HT.lexLt_nil_cons] at h
   wp_walk using Cc hl,Cc hb
   rw[q1,q2]
   have q3:decide (U.size > W.size)=true:=JJk (by omega)
   wp_walk using Cc hl,Cc hb
   show R (.ok (.ret (.bool (decide (U.size > W.size))))) _
   rw[q3];exact h
theorem cV (l b:Addr) (U W:Array Value) (n n2:Nat) (e1 e2:Option Addr) (c1 c2:Array (Option Value)) (ns ms:List Int) (hi:IntsAre U.toList ns) (hj:IntsAre W.toList ms):
  Meets (Builtin.«list.__gt__» ⟨[.ref l,.ref b],[]⟩)
   (fun A R s=>s.heap.get? l=some { cls:=.type "list",dict:=e1,data:=.seq U n,slots:=c1 }/\s.heap.get? b=some { cls:=.type "list",dict:=e2,data:=.seq W n2,slots:=c2 }/\
    R (.ok (.ret (.bool (HT.lexLt ms ns)))) s):=by
 intro prog w A R s h
 obtain⟨hp,g,d,tk,os⟩:=s
 obtain⟨hl,hb,h⟩:=h
 have f3:=Yh
 wp_walk using Cc hl,Cc hb
 exact⟨plainId_quiet Mm _,ZO Y7 (by
  rw[Yg Mm _]
  exact bR l b U W n n2 e1 e2 c1 c2 ns ms hi hj _ 0 rfl (Ax _) (Ax _) prog w A R _ ⟨hl,hb,h⟩)⟩
theorem Rq {X:Cx}:EW X (.builtin "len") (fun xs H Q=>∃a kvs,xs=[V.ref a]/\H a=some (.dT kvs)/\Q (.int kvs.length) H):=by
 intro pins s σ H xs us Q I r h
 obtain⟨a,kvs,rfl,ha,q⟩:=h
 obtain⟨u,rfl,ru⟩:=G6 r
 cases ru
 obtain⟨z,hd,xs,rel,o,es,ep,ho,hc,hdat,hk,_⟩:=SI I.hok ha
 have hl:es.size=kvs.length:=by
  rw[<- G8,hk,AH]
  exact(Bp rel).symm
 have ty:s.TypeIs (.ref a) "dict":=⟨o,ho,hc.1⟩
 refine Calls.call_function_entry kind_len plain_len entry_len (args_len1 _) ?_
 unfold Builtin.«len»
 refine AI (m:=oneArg "len" _) (AZ ?_)
 refine AI (m:=callSpecial? (.ref a) (EV "__len__")) (Io (name:=EV "__len__") ty Yz
  (KP Yz ty F.entry_dict_len (F.args_dict_len_1 _) (S:=fun _ R s'=>s'=s/\R (.ok (.ret (.int kvs.length s.toks))) { s with toks:=s.toks+1 }) (.of_wp fun A R s' ⟨e,h⟩=>?_) ⟨rfl,?_⟩))
 .subst e
  show wpAny _ _ (dictSize a >>= _) _ _ s'
  unfold dictSize
  refine AI (AI (Mv ho hdat (AZ ?_)))
  show wpAny _ _ (Builtin.Dict.pendingCount a >>= _) _ _ s'
  refine AI (wpAny_pendingCount_other hd (wpAny_ret_mkInt ?_))
  rw[Nat.add_zero,hl];exact h
 .show wpAny _ _ _ _ _ { s with toks:=s.toks+1 }
  refine AI (KQ (AZ (AI (RE ?_))))
  have hz:(kvs.length:Int) < 2 ^ 63:=by rw[Ms] at z;omega
  show wpAny _ _ (if ((kvs.length:Nat):Int) < 0 then _ else _) _ _ _
  rw[JJx (by omega)]
  show wpAny _ _ (if ((kvs.length:Nat):Int) ≥ 2 ^ 63 then _ else _) _ _ _
  rw[JJx (by omega)]
  exact AI (wpAny_mkInt (AZ ⟨_,rfl,⟨.int kvs.length,H,(I.tok _).tok _,⟨_,rfl⟩,q⟩⟩))
end Fb
namespace Fb
open PySem PySem.Spec PyProof.Rows L2
open PySem.AutoSeq1 (wpAny_loadPart')
section
variable {prog:Program}{w:World}{A:Around}{E:Value->Shared->Prop}{s:Shared}
theorem dF {j t:Addr}{i:Nat}{us:Array Value}{x:Value}{Q:Value->Shared->Prop} (hj:s.heap.IsTupleIter j t i) (ht:s.heap.IsTuple t us) (hx:us[i]?=some x)
  (hQ:∀g,g.IsTupleIter j t (i+1)->Ig j s.heap g->Q x { s with heap:=g }):wpAny (model prog w) A (Mg (.ref j)) Q E s:=by
 obtain⟨o,p1,p2,p3⟩:=id hj
 obtain⟨ol,t1,_,nl,t2⟩:=ht
 unfold Mg
 refine AI (Io (name:=EV "__next__") hj.typeIs Ml (Gf Ml hj.typeIs Yw ?_ (Yt _)))
 show wpAny _ _ (field (.ref j) 0 >>= _) _ _ s
 refine AI (HQ p1 p3 (x:=.ref t) rfl ?_)
 show wpAny _ _ (if (Ab t==Ca)=true then _ else _) _ _ s
 rw[JJx (show ¬((Ab t==Ca)=true) by exact A8)]
 show wpAny _ _ (field (.ref j) 1 >>= _) _ _ s
 refine AI (HQ p1 p3 (x:=.int i 0) rfl ?_)
 show wpAny _ _ (seqItems? (.ref t) >>= _) _ _ s
 refine AI (Mx t1 t2 ?_)
 simp only[HE,hx]
 refine AI (Mz p1 p3 (by simp) (AZ ⟨x,rfl,AZ (hQ _ ?_ (Ih ..))⟩))
 exact⟨_,Y4 _ p1 (Y9 (Mn p3 _)),(Y8 ..).trans p2,by rw[Mn p3];simp[rawInt]⟩
theorem dG {j t:Addr}{i:Nat}{us:Array Value}{Q:Value->Shared->Prop} (hh:A.handled=none) (hj:s.heap.IsTupleIter j t i) (ht:s.heap.IsTuple t us) (hx:us[i]?=none)
  (hE:∀g e,Heap.ExtBut j s.heap g->(∃o,g.get? e=some o/\o.cls=.type "StopIteration")->E (.ref e) { s with heap:=g }):wpAny (model prog w) A (Mg (.ref j)) Q E s:=by
 obtain⟨o,p1,p2,p3⟩:=id hj
 obtain⟨ol,t1,_,nl,t2⟩:=ht
 unfold Mg
 refine AI (Io (name:=EV "__next__") hj.typeIs Ml (Gf Ml hj.typeIs Yw ?_ (Yt _)))
 show wpAny _ _ (field (.ref j) 0 >>= _) _ _ s
 refine AI (HQ p1 p3 (x:=.ref t) rfl ?_)
 show wpAny _ _ (if (Ab t==Ca)=true then _ else _) _ _ s
 rw[JJx (show ¬((Ab t==Ca)=true) by exact A8)]
 show wpAny _ _ (field (.ref j) 1 >>= _) _ _ s
 refine AI (HQ p1 p3 (x:=.int i 0) rfl ?_)
 show wpAny _ _ (seqItems? (.ref t) >>= _) _ _ s
 refine AI (Mx t1 t2 ?_)
 simp only[HE,hx]
 refine AI (RJ (AI (Mz p1 p3 (by simp) ?_)))
 show wpAny _ _ (newExc (.type "StopIteration") [] >>= _) _ _ _
 refine AI ?_
 simp only[newExc,newTuple]
 refine AI (Ip ?_ (by size_fits))
 refine AI (m:=firstArgMember _ _) (RG (a:=Ca) (by first | rfl | (simp only[firstArgMember] <;> rfl)) ?_)
 refine Ip ?_ (by size_fits)
 simp only[raiseNew]
 refine AI (wpAny_handled ?_)
 first | rw[show A.in1.handled=none by exact hh] | rw[hh]
 refine AI (AZ (wpAny_throw ?_))
 exact hE _ _ (((Ih ..).extBut.push _).push _) ⟨_,CD _ rfl,rfl⟩
theorem SH (hh:A.handled=none) (j t:Addr) (hne:t≠j) (us:Array Value):Draws prog w A j [j,t] us.size (fun i v=>us[i]?=some v) (fun i h=>h.IsTupleIter j t i/\h.IsTuple t us) where
 live:=fun i h ⟨⟨o,e,_⟩,_⟩=>⟨o,e⟩
 frame:=fun i h h' st k=>⟨st.1.at fun o e=>k j (by simp) o e,st.2.at fun o e=>k t (by simp) o e⟩
 item:=fun i s Q E hi st hQ=>dF st.1 st.2 (x:=us[i]) (by simp[hi]) fun g g1 g2=>hQ _ g s.toks (by simp[hi]) ⟨g1,st.2.extBut g2.extBut hne⟩ g2
 done:=fun s Q E st hE=>dG hh st.1 st.2 (by simp) fun g e g1 g2=>hE g e g1 g2
theorem a6 (l:Addr) (us:Array Value) (n:Nat) (dct:Option Addr) (sl:Array (Option Value)):
  Meets (Builtin.«enumerate.__new__» ⟨[.type "enumerate",.ref l],[]⟩) (fun _ R s=>s.heap.get? l=some { cls:=.type "tuple",dict:=dct,data:=.seq us n,slots:=sl }/\
   R (.ok (.ret (.ref (s.heap.push { cls:=.type "tuple_iterator",data:=.fields #[.ref l,.int 0 0] }).objs.size)))
    { s with heap:=(s.heap.push { cls:=.type "tuple_iterator",data:=.fields #[.ref l,.int 0 0] }).push { cls:=.type "enumerate",data:=.fields #[.none,.bool false,.ref s.heap.objs.size,rawInt 0,.none,.none] } }) :=
 .of_wp fun prog w A R s h=>by
  obtain⟨hp,g,d,tk,os⟩:=s;obtain⟨t1,h⟩:=h
  have hsub:=sub_enumerate
  have t2:Heap.IsTuple (Shared.heap ⟨hp,g,d,tk,os⟩) l us:=⟨_,t1,rfl,n,rfl⟩
  wp_walk using Cc t1
  refine wpAny_stack_any fun st=>AZ ?_
  split
  .rename_i c _ _ _ _ _
   cases (c==FK "enumerate")
   .wp_walk using Cc t1,RI t2
    exact⟨_,rfl,h⟩
   .wp_walk using Cc t1,RI t2
    exact⟨_,rfl,h⟩
  .wp_walk using Cc t1,RI t2
   exact⟨_,rfl,h⟩
theorem Z4 {l:Addr}{us:Array Value}{Q:Value->Shared->Prop} (hL:s.heap.IsTuple l us)
  (h:∀h',IsEnum h' (s.heap.objs.size+1) s.heap.objs.size 0 .none->h'.IsTupleIter s.heap.objs.size l 0->h'.objs.size=s.heap.objs.size+2->(∀b o,s.heap.get? b=some o->h'.get? b=some o)->Q (.ref (s.heap.objs.size+1)) { s with heap:=h' }):
  wpAny (model prog w) A (call (.type "enumerate") [.ref l]) Q E s:=by
 obtain⟨⟨c,dct,dt,sl⟩,t1,t3,n,t4⟩:=hL
 replace t3:c=.type "tuple":=t3
 replace t4:dt=.seq us n:=t4
 subst t3 t4
 refine callType_new F.called_enumerate (by decide) (F.typeCall_enumerate_1 _) (F.newCall_enumerate_1 _) (fun obj=>F.args_object_init_2 obj _) F.entry_enumerate_new (a6 l us n dct sl) ⟨t1,?_⟩
 have hz:(s.heap.push { cls:=.type "tuple_iterator",data:=.fields #[.ref l,.int 0 0] }).objs.size=s.heap.objs.size+1:=Dm ..
 show _/\_
 rw[hz]
 have he:IsEnum ((s.heap.push { cls:=.type "tuple_iterator",data:=.fields #[.ref l,.int 0 0] }).push
   { cls:=.type "enumerate",data:=.fields #[.none,.bool false,.ref s.heap.objs.size,rawInt 0,.none,.none] }) (s.heap.objs.size+1) s.heap.objs.size 0 .none:=by
  have:=CD (s.heap.push { cls:=.type "tuple_iterator",data:=.fields #[.ref l,.int 0 0] }) (o:={ cls:=.type "enumerate",data:=.fields #[.none,.bool false,.ref s.heap.objs.size,rawInt 0,.none,.none] }) rfl
  rw[hz] at this
  exact this
 exact⟨⟨_,he,rfl⟩,h _ he ⟨_,Bi _ (CD _ rfl),rfl,rfl⟩ (by rw[Dm,hz]) fun b o x=>Bi _ (Bi _ x)⟩
end
def RS (K:AD) (a:Addr):It :=
 ⟨fun i H=>∃(xs:List V) (x:V),SqT K H a xs/\xs[i]?=some x,fun i H v H'=>∃T x,v=.ref T/\H T=none/\H'=upd H T (.tup [.int (i:Nat),x])/\∀xs,SqT K H a xs->xs[i]?=some x,fun i H=>∃xs:List V,SqT K H a xs/\xs.length=i⟩
theorem iM {P:Program}{w:World}{K:AD}{elts:List Expr}{kk:Nat}{tpos:Pos} (a e it:Addr):
  Et P w K (.Tuple elts kk tpos) (RS K a) [e,it] e (fun i h=>(∃old,IsEnum h e it ((i:Nat):Int) old)/\h.IsTupleIter it a i/\e≠it/\a≠it/\e≠a) where
 mem:=by simp
 obj:=fun i h st b hb=>by
  obtain⟨⟨old,he⟩,⟨o,ho,hc,hd⟩,_⟩:=st
  have e':b=e\/b=it:=by simpa using hb
  rcases e' with z | z
  .rw[z];exact⟨_,he,fun v q=>nomatch q⟩
  .rw[z];exact⟨o,ho,fun v q=>by rw[hd] at q;cases q⟩
 keep:=fun i h h' st k=>let ⟨⟨old,he⟩,hi,hne⟩:=st;⟨⟨old,k e (by simp) _ he⟩,hi.at fun o q=>k it (by simp) o q,hne⟩
 item:=by
  intro X hP hw hK hc i pins s σ H E I hf st hg
  subst hP hw hK
  obtain⟨⟨old,he⟩,hit,hne,hai,hea⟩:=st
  obtain⟨xs,x,hq,hx⟩:=hg
  obtain⟨its,rv,p,hz⟩:=I.tuple hq
  obtain⟨u,hu,ru⟩:=rv.get hx
  have hel:e < s.heap.objs.size:=BJ he
  have hil:it < s.heap.objs.size:=by obtain⟨_,q,_⟩:=hit;exact BJ q
  have hlt:i < its.toArray.size:=by
   have:=(CJ.mp hu).1
   simpa using this
  refine wpAny_pyNext_enum_itemD (SH (prog:=X.prog) (w:=X.w) (A:=X.A.in1) (show X.A.in1.handled=none from I.ok.hd hc) it a hai its.toArray) he ⟨hit,p⟩ hlt hne (by simp[hne,hea]) fun y h' tk hy ho hit' hT hsz hk=>?_
  have ey:y=u:=by
   have:its.toArray[i]?=some u:=by simpa using hu
   exact Af (hy.symm.trans this)
  subst ey
  refine⟨_,rfl,ZY (s:={ s with heap:=h',toks:=tk+1 }) ho fun h'' he' sb=>?_⟩
  have hT2:h''.get? s.heap.objs.size=some { cls:=.type "tuple",data:=.seq #[.int i tk,y] }:=(sb.2 _ (KA hel)).trans hT
  have new:ObjOk X.prog X.w (upd H s.heap.objs.size (.tup [.int (i:Nat),x])) h'' s.heap.objs.size (.tup [.int (i:Nat),x]) :=
   ⟨by show 2<=sizeLine;decide,[.int i tk,y],.cons ⟨_,rfl⟩ (.cons ru .nil),⟨_,hT2,rfl,_,rfl⟩⟩
  have I1:Inv X pins σ (upd H s.heap.objs.size (.tup [.int (i:Nat),x])) { s with heap:=h'',toks:=tk+1 } :=
   I.turnedNew (ch:=[e,it]) (fun b ob hb q=>(sb.2 b (fun z=>hb (by simp[z]))).trans (hk b ob (fun z=>hb (by simp[z])) (fun z=>hb (by simp[z])) q)) hf (Aa _) new
  refine⟨.ref s.heap.objs.size,_,I1,rfl,⟨_,x,rfl,I.hok.fresh (Aa _),rfl,fun ys hy=>by rw[I.tuple_inj hy hq];exact hx⟩,⟨⟨y,?_⟩,hit'.1.at fun o q=>(sb.2 it (Ar hne)).trans q,hne,hai,hea⟩,fun b hb=>?_⟩
  .have e1:((i+1:Nat):Int)=(i:Int)+1:=by omega
   rw[e1];exact he'
  .have hb':b < s.heap.objs.size:=by
    have e':b=e\/b=it:=by simpa using hb
    rcases e' with z | z
    .rw[z];exact hel
    .rw[z];exact hil
   rw[AF (B1 hb')]
   exact(hf b hb).1
 done:=by
  intro X hP hw hK hc i pins s σ H E I hf st hg
  subst hP hw hK
  obtain⟨⟨old,he⟩,hit,hne,hai,hea⟩:=st
  obtain⟨xs,hq,hx⟩:=hg
  obtain⟨its,rv,p,hz⟩:=I.tuple hq
  obtain⟨f0,f1,f2,f3,f4,f5⟩:=hf it (by simp)
  have hl:=rv.length
  have ei:i=its.toArray.size:=by simp;omega
  exact wpAny_pyNext_enum_endD (SH (prog:=X.prog) (w:=X.w) (A:=X.A.in1) (show X.A.in1.handled=none from I.ok.hd hc) it a hai its.toArray) he ⟨by rw[<- ei];exact hit,p⟩ fun h' eb=>⟨rfl,I.turned (t':=s.toks) (fun b o hb q=>eb b o hb q) f0 f1 f3 f4 f5⟩
 self:=fun A i s Q E st h=>let ⟨⟨_,he⟩,_⟩:=st;Mw he h
def bX (K:AD) (ta:TA):TI:=fun σ H R=>ta σ H fun vs H1=>∃a xs,vs=[.ref a]/\SqT K H1 a xs/\R (RS K a) H1
theorem d9 {X:Cx}{e:Expr}{ta:TA}{p pos tpos:Pos}{elts:List Expr}{kk:Nat} (hg:Gl X "enumerate") (hm:X.mg "enumerate"=none) (ha:PA X [e] ta) (hs:starEach [e] X.env=[(false,eval e X.env)]:=by rfl):
  PI X (.Tuple elts kk tpos) (.Call (.Name "enumerate" p) [e] [] pos) (bX X.K ta):=by
 intro pins s σ H R I h
 refine Call_ (G0 I hg hm boot_enumerate (KG (thn (ha pos pins s σ H _ I h) fun us s1 ⟨vs,H1,I1,r1,q1⟩=>?_) hs rfl))
 obtain⟨a,xs,ex,hq,q⟩:=q1
 subst ex
 cases r1 with
 | cons r rr =>
  cases rr
  cases r
  obtain⟨its,rv,p',hz⟩:=I1.tuple hq
  have al:a < s1.heap.objs.size:=by obtain⟨_,z,_⟩:=p';exact BJ z
  refine Z4 p' fun h' he hit hsz hk=>Mw he ?_
  have I2:Inv X pins σ H1 { s1 with heap:=h' }:=I1.kept (t':=s1.toks) hk
  refine⟨s1.heap.objs.size+1,[s1.heap.objs.size+1,s1.heap.objs.size],_,_,H1,rfl,I2,iM a (s1.heap.objs.size+1) s1.heap.objs.size,⟨⟨.none,he⟩,hit,YZ _,B1 al,KA (MU al)⟩,fun b hb=>?_,q⟩
  have e':b=s1.heap.objs.size+1\/b=s1.heap.objs.size:=by simpa using hb
  have hle:s1.heap.objs.size<=b:=by
   rcases e' with z | z
   .rw[z];exact QT _ _
   .rw[z];exact Aa _
  exact I1.fpOk hle (I1.hok.fresh hle)
end Fb
namespace Fb
open PySem PySem.Spec PyProof.Rows L2
def Cst (mg:Str->Option Value) (x:Str) (v:V):Prop:=∃u,mg x=some u/\RelV v u
theorem AS {X:Cx}{x:Str}{v:V}{pos:Pos} (h:Cst X.mg x v) (hg:Gl X x) (hd:(x==("__debug__":Str))=false:=by decide):PE X (.Name x pos) (tC v):=by
 obtain⟨u,h1,h2⟩:=h
 exact dn hg h1 h2 hd
structure Blt (mg:Str->Option Value):Prop where
 ord:mg "ord"=none
 len:mg "len"=none
 all:mg "all"=none
 any:mg "any"=none
 enumerate:mg "enumerate"=none
 reversed:mg "reversed"=none
 tuple:mg "tuple"=none
 range:mg "range"=none
def EY (H:Hp) (Q:VK) (ns:List Int):Prop:=∀(H':Hp) (p:Addr),Same H H'->H p=none->H' p=some (.lst (ns.map V.int))->Q (.ref p) H'
abbrev Ou:Stmt:=WS
def BQ (x:Str):List Int:=x.cps.toList.map fun (c:Nat)=>(c:Int)
def Hy:Sp:=fun vs H Q _=>∃x:Str,vs=[.str x]/\x.cps.size < 1000/\EY H Q (BQ x)
theorem scLetters:Ag ["word","letter"] ["word"] (AL Ou):=⟨rfl,rfl,rfl,by decide +kernel,rfl,by decide +kernel,by decide +kernel⟩
section
variable {P:Program}{w:World}{K:AD}{mg:Str->Option Value}{base:Heap}
theorem ok_letters {f:Addr}{fd:FuncData} (F:Fun K "letters" "letters" Ou f fd) (B:Blt mg):FnOk P w K mg base CX0 1 f fd ["word"] Hy:=by
 refine F.ok scLetters (fun vs H Q E h=>?_) (fun cdv A outer s H vs Q E hr h=>?_)
 .obtain⟨x,rfl,_⟩:=h
  rfl
 .obtain⟨x,rfl,hx,k⟩:=h
  refine⟨_,AK (AM (Ej (own:=[("letter",1)]) rfl scLetters.nd (eF (pv 0)) (D8 (N:=["word","letter"]) (sc:=AL Ou) (by decide +kernel)) (fun s H C cl fp=>CT (i:=1) scLetters.nd rfl (Ai rfl)) (fun s H C cl fp=>E7)
   (fun s H C cl fp=>BV HX (by rfl) B.ord Ic (AB (pv 1) AE)))),?_⟩
  refine⟨_,rfl,x,rfl,fun D hD=>?_⟩
  refine GD (n:=x.cps.size) ((BQ x).map V.int) (by simp[BQ]) (CG (by omega)) hD (fun i H hi _=>hi) (fun H _=>Aa _) ?_ ?_
  .rintro i y z H1 H2 hz s1 ⟨rfl,c,hc,rfl⟩ R hR
   refine⟨rfl,_,rfl,_,rfl,rfl,?_⟩
   have:z=V.int ((c:Nat):Int):=by
    simp[BQ] at hz
    obtain⟨c',hc',rfl⟩:=hz
    rw[hc] at hc'
    cases hc'
    rfl
   subst this
   exact hR _ (Same.refl _)
  .intro H' s1 hd
   exact k H' D s1 hD hd
theorem nf {b:Bool} (h:¬b=true):b=false:=by
 cases b with
 | false=>rfl
 | true=>exact(h rfl).elim
def Pur (H:Hp) (Q:VK) (v:V):Prop:=∀H':Hp,Same H H'->Q v H'
abbrev VQ:Stmt:=WI
def XM:Sp:=fun vs H Q _=>∃b:Int,vs=[.int b]/\Pur H Q (.bl (GI b))
theorem ff:Ag ["byte"] ["byte"] (AL VQ):=⟨rfl,rfl,rfl,by decide +kernel,rfl,by decide +kernel,by decide +kernel⟩
theorem ok_nameByte {f:Addr}{fd:FuncData} (F:Fun K "is_name_byte" "is_name_byte" VQ f fd) (B:Blt mg):FnOk P w K mg base CX0 1 f fd ["byte"] XM:=by
 refine F.ok ff (fun vs H Q E h=>?_) (fun cdv A outer s H vs Q E hr h=>?_)
 .obtain⟨x,rfl,_⟩:=h
  rfl
 .obtain⟨b,rfl,k⟩:=h
  refine⟨_,AK (AM (dy (JW DR DR (BV HX (by rfl) B.ord Ic (AB Dh AE)) (pv 0) (BV HX (by rfl) B.ord Ic (AB Dh AE)))
   (E4 (JW DR DR (BV HX (by rfl) B.ord Ic (AB Dh AE)) (pv 0) (BV HX (by rfl) B.ord Ic (AB Dh AE)))))),?_⟩
  have kk:=k H (Same.refl H)
  unfold GI at kk
  have two:∀R:VK,R (.bl (decide (48<=b)&&decide (b<=57))) H->PU (rI0 fun i j=>V.bl (decide (i<=j))) (rI0 fun i j=>V.bl (decide (i<=j)))
    (tCB (fun xs H Q=>∃x,xs=[V.str x]/\x.length=1/\Q (V.int ((x.cps.getD 0 0:Nat):Int)) H) (GK (tC (V.str (EV "0"))) GL)) (En 0)
    (tCB (fun xs H Q=>∃x,xs=[V.str x]/\x.length=1/\Q (V.int ((x.cps.getD 0 0:Nat):Int)) H) (GK (tC (V.str (EV "9"))) GL)) (L2.start ["byte"] [V.int b]) H R:=fun R hR=>by
   refine⟨_,rfl,rfl,_,rfl,_,_,rfl,rfl,_,rfl,GA (fun h1=>?_) (fun h1=>?_)⟩
   .refine⟨_,rfl,rfl,_,_,rfl,rfl,?_⟩
    have e:decide (48<=b)=true:=h1
    rw[e] at hR
    exact hR
   .have e:decide (48<=b)=false:=nf h1
    rw[e] at hR
    exact hR
  refine⟨_,rfl,rfl,_,rfl,_,_,rfl,rfl,_,rfl,GA (fun h1=>?_) (fun h1=>?_)⟩
  .have e:decide (65<=b)=true:=h1
   rw[e] at kk
   refine⟨_,rfl,rfl,_,_,rfl,rfl,_,rfl,GA (fun h2=>?_) (fun h2=>?_)⟩
   .have e2:decide (b<=90)=true:=h2
    rw[e2] at kk
    exact kk
   .have e2:decide (b<=90)=false:=nf h2
    rw[e2] at kk
    exact two Q kk
  .have e:decide (65<=b)=false:=nf h1
   rw[e] at kk
   exact⟨_,rfl,K3 (two Q kk)⟩
end
end Fb
namespace Fb
open PySem PySem.Spec PyProof.Rows L2
theorem e0 {X:Cx}:Gm CX0 X E0:=Ho
theorem Cf {α β:Type}{F:α->β->Prop}:∀{l₁:List α}{l₂:List β}{i:Nat}{b:β},Paired F l₁ l₂->l₂[i]?=some b->∃a,l₁[i]?=some a/\F a b
 | _,_,_,_,.nil,h=>by simp at h
 | _,_,0,_,.cons r t,h=>by simp at h;subst h;exact⟨_,rfl,r⟩
 | _,_,i+1,b,.cons r t,h=>by
  obtain⟨a,h1,h2⟩:=Cf (i:=i) (b:=b) t (by simpa using h)
  exact⟨a,by simpa using h1,h2⟩
theorem G2 {X:Cx}{e:Expr}{f:Str}{pos:Pos}{ta:TE} (K:AD) (hK:X.K=K) (he:PE X e ta) (hb:attributeBase e f X.env (eval e X.env)=eval e X.env):PE X (.Attribute e f pos) (Ls K ta f):=by
 subst hK
 exact AW he hb
theorem du {X:Cx}{a b:Expr}{pos:Pos}{ta tb:TE} (K:AD) (hK:X.K=K) (ha:PE X a ta) (hb:PE X b tb) (hs:RX b):PE X (.Subscript a b pos) (tOp (Uc K) ta tb):=by
 subst hK
 exact CH CF ha hb hs
theorem Ay {K:AD}{H:Hp}{a:Addr}{ns:List Int} (h:SqL K H a (ns.map V.int)):Dp K H (.ref a) (.list (ns.map C4)):=by
 refine .lst h ?_
 clear h
 induction ns with
 | nil=>exact .nil
 | cons n r ih=>exact .cons (.int n) ih
theorem Rt:∀ns:List Int,Qp (ns.map C4)=true
 | []=>rfl
 | n::r=>by
  show(PyData.canLay0 (.int n)&&Qp (r.map C4))=true
  rw[Rt r]
  rfl
theorem SE:∀ns:List Int,Qq (ns.map C4)=0
 | []=>rfl
 | n::r=>by
  show max (PyData.depth (.int n)) (Qq (r.map C4))=0
  rw[SE r]
  rfl
theorem Au (ns:List Int):Ik (.list (ns.map C4))=true:=by
 show(Qp (ns.map C4)&&decide (Qq (ns.map C4)+1<=64))=true
 rw[Rt,SE]
 rfl
theorem Bx:∀a b:List Int,Fy (.list (a.map C4)) (.list (b.map C4))=decide (a=b):=by
 have key:∀a b:List Int,PyData.eqvAll (a.map C4) (b.map C4)=decide (a=b):=by
  intro a
  induction a with
  | nil =>
   intro b
   cases b with
   | nil=>rfl
   | cons y s=>rfl
  | cons x r ih =>
   intro b
   cases b with
   | nil=>rfl
   | cons y s =>
    show(Fy (.int x) (.int y)&&PyData.eqvAll (r.map C4) (s.map C4))=_
    rw[ih s]
    have:Fy (.int x) (.int y)=decide (x=y):=by
     first | rfl | (unfold Fy;simp) | (simp[Fy])
    rw[this,Dy]
    simp
 intro a b
 first | exact key a b | (unfold Fy;exact key a b)
abbrev Om:Stmt:=WH
def Ll (K:AD):Sp:=fun vs H Q _=>∃(a:Addr) (ns:List Int),vs=[.ref a]/\SqL K H a (ns.map V.int)/\ns.length < 100000/\Pur H Q (.bl (Ed ns))
theorem scIsName:Ag ["word","byte"] ["word"] (AL Om):=⟨rfl,rfl,rfl,by decide +kernel,rfl,by decide +kernel,by decide +kernel⟩
section
variable {P:Program}{w:World}{K:AD}{mg:Str->Option Value}{base:Heap}
theorem ok_isName {f:Addr}{fd:FuncData} (F:Fun K "is_name" "is_name" Om f fd) (B:Blt mg) (c1:Cst mg "LONGEST_NAME" (.int 8)) (g1:Has P w K mg "is_name_byte" 1 ["byte"] XM):FnOk P w K mg base CX0 2 f fd ["word"] (Ll K):=by
 refine F.ok scIsName (fun vs H Q E h=>?_) (fun cdv A outer s H vs Q E hr h=>?_)
 .obtain⟨a,x,rfl,_⟩:=h
  rfl
 .obtain⟨a,ns,rfl,hS,hlen,k⟩:=h
  refine⟨_,AK (AM (E3 (JW DR DR AU (BV CQ (by rfl) B.len CM (AB (pv 0) AE)) (AS c1 rfl))
   (E4 (BV (Kj rfl) (by rfl) B.all Md (AB (Ej (own:=[("byte",1)]) rfl scIsName.nd (DS (pv 0)) (D8 (N:=["word","byte"]) (sc:=AL Om) (by decide +kernel)) (fun s H C cl fp=>CT (i:=1) scIsName.nd rfl (Ai rfl)) (fun s H C cl fp=>E7)
    (fun s H C cl fp=>AO g1 hr (by rfl) (AB (pv 1) AE))) AE))))),?_⟩
  refine⟨_,rfl,a,_,rfl,.inl hS,_,_,rfl,rfl,_,rfl,GA (fun h1=>?_) (fun h1=>?_)⟩
  .have h1':1<=ns.length:=by
    have:(1:Int)<=((ns.map V.int).length:Nat):=JJq h1
    rw[AH] at this
    omega
   refine⟨_,_,rfl,rfl,_,rfl,GA (fun h2=>?_) (fun h2=>?_)⟩
   .have h2':ns.length<=8:=by
     have:(((ns.map V.int).length:Nat):Int)<=8:=JJq h2
     rw[AH] at this
     omega
    refine⟨_,rfl,a,rfl,⟨_,hS⟩,fun D hD=>?_⟩
    refine GD (n:=(ns.map V.int).length) ((ns.map GI).map V.bl) (by simp) (CG (by rw[AH];omega)) hD (fun i H hi s1=>FW (s1.seq hS) hi) (fun H s1=>FX (s1.seq hS)) ?_ ?_
    .rintro i y z H1 H2 hz s1 ⟨rfl,hy⟩ R hR
     obtain⟨n,hn,rfl⟩:=FV (hy _ (s1.seq hS))
     refine⟨rfl,_,rfl,n,rfl,?_⟩
     have:z=V.bl (GI n):=by
      rw[Ao,Ao,hn] at hz
      exact(Af hz).symm
     subst this
     exact hR
    .intro H' s1 hd
     refine⟨D,ns.map GI,rfl,SqL.of hd,?_⟩
     have:=k H' s1
     unfold Ed at this
     rw[JJk h1',JJk h2'] at this
     rw[GS]
     exact this
   .have h2':¬ns.length<=8:=fun q=>h2 (JJk (by rw[AH];show((ns.length:Nat):Int)<=8;omega))
    have:=k H (Same.refl H)
    unfold Ed at this
    rw[JJj h2',IG] at this
    exact this
  .have h1':¬1<=ns.length:=fun q=>h1 (JJk (by rw[AH];show(1:Int)<=((ns.length:Nat):Int);omega))
   have:=k H (Same.refl H)
   unfold Ed at this
   rw[JJj h1',DW] at this
   exact⟨_,rfl,K3 this⟩
abbrev VS:Stmt:=WJ
def Hm (x:Str) (ns:List Int):Bool:=match BF 32 ns with
 | [a,b]=>decide (a=BQ x)&&Ed b
 | _=>false
def Lo (K:AD):Sp:=fun vs H Q _=>∃(a:Addr) (ns:List Int) (x:Str),vs=[.ref a,.str x]/\SqL K H a (ns.map V.int)/\ns.length < 100000/\x.cps.size < 1000/\Pur H Q (.bl (Hm x ns))
theorem scNaming:Ag ["line","first","words"] ["line","first"] (AL VS):=⟨rfl,rfl,rfl,by decide +kernel,rfl,by decide +kernel,by decide +kernel⟩
theorem ok_naming {f:Addr}{fd:FuncData} (F:Fun K "is_naming_line" "is_naming_line" VS f fd) (B:Blt mg) (c1:Cst mg "BLANK" (.int 32)) (g1:Has P w K mg "split_at" 1 ["mark","values"] (Fh K))
  (g2:Has P w K mg "letters" 1 ["word"] Hy) (g3:Has P w K mg "is_name" 2 ["word"] (Ll K)):FnOk P w K mg base CX0 3 f fd ["line","first"] (Lo K):=by
 refine F.ok scNaming (fun vs H Q E h=>?_) (fun cdv A outer s H vs Q E hr h=>?_)
 .obtain⟨a,ns,x,rfl,_⟩:=h
  rfl
 .obtain⟨a,ns,x,rfl,hS,hlen,hx,k⟩:=h
  have hr1:Room 1 _:=hr.mono (by decide)
  refine⟨_,AJ (BN (i:=2) scNaming.nd rfl (Ai rfl) (AO g1 hr1 (by rfl) (AB (AS c1 rfl) (AB (pv 0) AE))))
   (AK (AM (E3 (Dg Bt (BV CQ (by rfl) B.len CM (AB (pv 2) AE)) AU (AY _))
    (E3 (Dg (Ei hr.units) (CH CF (pv 2) AU (fun _ _=>rfl)) (AO g2 hr1 (by rfl) (AB (pv 1) AE)) (AY _))
    (E4 (AO g3 hr (by rfl) (AB (CH CF (pv 2) AU (fun _ _=>rfl)) AE))))))),?_⟩
  refine⟨_,rfl,a,32,ns,rfl,hS,hlen,fun H1 p as s1 np nas hp hpa=>?_⟩
  refine⟨_,rfl,p,_,rfl,.inl (SqL.of hp),rfl,_,rfl,GA (fun h1=>?_) (fun h1=>?_)⟩
  .have h1':as.length=2:=by
    have:V.int ((as.map V.ref).length:Nat)=V.int 2:=JJq h1
    injection this with this
    rw[AH] at this
    omega
   have hl:=Bp hpa
   match as,h1',hc:BF 32 ns with
   | [a0,a1],_,cz =>
    rw[hc] at hpa
    match cz,hpa with
    | [w0,w1],.cons p0 (.cons p1 .nil) =>
     have ez:Hm x ns=(decide (w0=BQ x)&&Ed w1):=by unfold Hm;rw[hc]
     have hw0:=Ez 32 ns w0 (by rw[hc];simp)
     have hw1:=Ez 32 ns w1 (by rw[hc];simp)
     refine⟨_,rfl,p,_,_,_,rfl,rfl,SqL.of hp,CP (j:=0) rfl,_,rfl,x,rfl,hx,fun H2 q s2 nq hq=>?_⟩
     refine⟨_,_,Ay (SqL.of (s2 _ _ p0)),Ay (SqL.of hq),Au _,Au _,?_⟩
     rw[Bx]
     refine⟨_,rfl,GA (fun h2=>?_) (fun h2=>?_)⟩
     .refine⟨_,rfl,p,_,_,_,rfl,rfl,SqL.of (s2 _ _ hp),CP (j:=1) rfl,a1,w1,rfl,SqL.of (s2 _ _ p1),by omega,fun H3 s3=>?_⟩
      have:=k H3 ((s1.trans s2).trans s3)
      rw[ez,show decide (w0=BQ x)=true from h2,D1] at this
      exact this
     .have:=k H2 (s1.trans s2)
      rw[ez,nf h2,DW] at this
      exact this
  .have hl:=Bp hpa
   have ez:Hm x ns=false:=by
    unfold Hm
    split
    .rename_i b c hc
     rw[hc] at hl
     exact absurd (JJk (by rw[AH,hl];rfl)) h1
    .rfl
   have:=k H1 s1
   rw[ez] at this
   exact this
abbrev VR:Stmt:=WX
def Ln (K:AD):Sp:=fun vs H Q _=>∃(a:Addr) (ns n:List Int),vs=[.ref a]/\SqL K H a (ns.map V.int)/\ns.length < 100000/\(BF 32 ns)[1]?=some n/\EY H Q n
theorem fg:Ag ["line"] ["line"] (AL VR):=⟨rfl,rfl,rfl,by decide +kernel,rfl,by decide +kernel,by decide +kernel⟩
theorem ok_named {f:Addr}{fd:FuncData} (F:Fun K "named" "named" VR f fd) (c1:Cst mg "BLANK" (.int 32)) (g1:Has P w K mg "split_at" 1 ["mark","values"] (Fh K)):FnOk P w K mg base CX0 2 f fd ["line"] (Ln K):=by
 refine F.ok fg (fun vs H Q E h=>?_) (fun cdv A outer s H vs Q E hr h=>?_)
 .obtain⟨a,ns,n,rfl,_⟩:=h
  rfl
 .obtain⟨a,ns,n,rfl,hS,hlen,hn,k⟩:=h
  refine⟨_,AK (AM (CH CF (AO g1 hr (by rfl) (AB (AS c1 rfl) (AB (pv 0) AE))) AU (fun _ _=>rfl))),?_⟩
  refine⟨_,rfl,a,32,ns,rfl,hS,hlen,fun H1 p as s1 np nas hp hpa=>?_⟩
  obtain⟨b,hb,hbn⟩:=Cf hpa hn
  refine⟨p,_,_,_,rfl,rfl,SqL.of hp,CP (j:=1) (v:=V.ref b) (by rw[Ao,hb];rfl),?_⟩
  exact k H1 b s1 (nas b (Cw hb)) hbn
abbrev U8:Stmt:=V6
def Lj (K:AD):Sp:=fun vs H Q _=>∃(a:Addr) (ns:List Int),vs=[.ref a]/\SqL K H a (ns.map V.int)/\Pur H Q (.int (ns.count 10:Nat))
theorem fP:Ag ["text"] ["text"] (AL U8):=⟨rfl,rfl,rfl,by decide +kernel,rfl,by decide +kernel,by decide +kernel⟩
theorem ok_count {f:Addr}{fd:FuncData} (F:Fun K "count_lines" "count_lines" U8 f fd) (c1:Cst mg "LINE_END" (.int 10)):FnOk P w K mg base CX0 1 f fd ["text"] (Lj K):=by
 refine F.ok fP (fun vs H Q E h=>?_) (fun cdv A outer s H vs Q E hr h=>?_)
 .obtain⟨a,ns,rfl,_⟩:=h
  rfl
 .obtain⟨a,ns,rfl,hS,k⟩:=h
  refine⟨_,AK (AM (EE EU Y0 PySem.F.type_list_count cw (pv 0) (AB (AS c1 rfl) AE))),?_⟩
  exact⟨_,rfl,.inl ⟨rfl,_,hS⟩,a,ns,10,rfl,rfl,hS,k H (Same.refl H)⟩
end
end Fb
namespace Fb
open PySem PySem.Spec PyProof.Rows L2
def kf (r:Int) (l:V) (c s k:Int):List (Str×V):=[("rank",.int r),("label",l),("copies",.int c),("shape",.int s),("look",.int k)]
def NF (H:Hp) (lv:V):ZLab->Prop
 | .sign n=>∃t,lv=.ref t/\H t=some (.tup (n.map V.int))
 | .same k=>lv=.int k
 | .ans=>lv=.int 0
def KindAt (CK:Addr) (H:Hp) (a:Addr) (z:ZK):Prop:=∃(dx:Addr) (lv:V),H a=some (.ins CK dx (kf z.lab.rank lv z.copies z.shape z.look))/\NF H lv z.lab
theorem KindAt.same {CK:Addr}{H H':Hp}{a:Addr}{z:ZK} (s:∀b o,H b=some o->(∀xs,o≠.lst xs)->(∀xs,o≠.dK xs)->(∀xs,o≠.dT xs)->(∀C dx fs,o=.ins C dx fs->C=CK)->H' b=some o) (h:KindAt CK H a z):KindAt CK H' a z:=by
 obtain⟨dx,lv,h1,h2⟩:=h
 refine⟨dx,lv,s _ _ h1 (by intro xs q;cases q) (by intro xs q;cases q) (by intro xs q;cases q) (by intro C dx fs q;cases q;rfl),?_⟩
 revert h2
 cases z.lab with
 | sign n =>
  rintro⟨t,e,ht⟩
  exact⟨t,e,s _ _ ht (by intro xs q;cases q) (by intro xs q;cases q) (by intro xs q;cases q) (by intro C dx fs q;cases q)⟩
 | same k=>exact fun h=>h
 | ans=>exact fun h=>h
theorem KindAt.mono {CK:Addr}{H H':Hp}{a:Addr}{z:ZK} (s:Same H H') (h:KindAt CK H a z):KindAt CK H' a z:=h.same fun b o e _ _ _ _=>s b o e
structure KindC (K:AD) (CK:Addr):Prop where
 cl:Cls K CK
 rank:NoAttr K CK "rank"
 label:NoAttr K CK "label"
 copies:NoAttr K CK "copies"
 shape:NoAttr K CK "shape"
 look:NoAttr K CK "look"
def Ap (l:List Int):List Key:=l.map BR
theorem FY (l:List Int):(Ap l).map kV=l.map V.int:=by
 unfold Ap
 rw[HJ]
 rfl
def Ci:Nat->List ZK->List (List Key×V)
 | _,[]=>[]
 | i,z::r=>match z.lab with
  | .sign n=>(Ap n,.int (i:Nat))::Ci (i+1) r
  | _=>Ci (i+1) r
def Bu:Nat->List ZK->List (Key×V)
 | _,[]=>[]
 | i,z::r=>match z.lab with
  | .same k=>(BR k,.int (i:Nat))::Bu (i+1) r
  | _=>Bu (i+1) r
theorem Hw (i:Nat) (z:ZK) (r:List ZK):Ci i (z::r)=match z.lab with
 | .sign n=>(Ap n,.int (i:Nat))::Ci (i+1) r
 | _=>Ci (i+1) r:=rfl
theorem Hv (i:Nat) (z:ZK) (r:List ZK):Bu i (z::r)=match z.lab with
 | .same k=>(BR k,.int (i:Nat))::Bu (i+1) r
 | _=>Bu (i+1) r:=rfl
def lf (an ak sg sm af:Addr):List (Str×V):=[("name",.ref an),("kinds",.ref ak),("signs",.ref sg),("sames",.ref sm),("fault",.ref af)]
structure LA where
 an:Addr
 ak:Addr
 sg:Addr
 sm:Addr
 af:Addr
structure LockAt (CL CK:Addr) (H:Hp) (a:Addr) (p:LA) (name:List Int) (kinds:List ZK) (fault:List Int):Prop where
 ob:∃dx,H a=some (.ins CL dx (lf p.an p.ak p.sg p.sm p.af))
 nm:H p.an=some (.lst (name.map V.int))
 ks:∃as:List Addr,H p.ak=some (.lst (as.map V.ref))/\Paired (KindAt CK H) as kinds
 sg:H p.sg=some (.dT (Ci 0 kinds))
 sm:H p.sm=some (.dK (Bu 0 kinds))
 af:H p.af=some (.lst (fault.map V.int))
theorem LockAt.mono {CL CK:Addr}{H H':Hp}{a:Addr}{p:LA}{name:List Int}{kinds:List ZK}{fault:List Int} (s:Same H H') (h:LockAt CL CK H a p name kinds fault):LockAt CL CK H' a p name kinds fault:=by
 obtain⟨⟨dx,h1⟩,h2,⟨as,h3,h4⟩,h5,h6,h7⟩:=h
 exact⟨⟨dx,s _ _ h1⟩,s _ _ h2,⟨as,s _ _ h3,Paired.mapP h4 fun a z q=>q.mono s⟩,s _ _ h5,s _ _ h6,s _ _ h7⟩
structure LockC (K:AD) (CL:Addr):Prop where
 cl:Cls K CL
 name:NoAttr K CL "name"
 kinds:NoAttr K CL "kinds"
 signs:NoAttr K CL "signs"
 sames:NoAttr K CL "sames"
 fault:NoAttr K CL "fault"
theorem Xu (k:Int):∀(kinds:List ZK) (i:Nat),(BO (Bu i kinds) (BR k)=none/\kinds.find? (Gv k)=none)\/∃(j:Nat) (z:ZK),BO (Bu i kinds) (BR k)=some (.int ((i+j:Nat):Int))/\kinds[j]?=some z/\kinds.find? (Gv k)=some z
 | [],i=>.inl ⟨rfl,rfl⟩
 | z::r,i=>by
  have ih:=Xu k r (i+1)
  have other:Gv k z=false->BO (Bu i (z::r)) (BR k)=BO (Bu (i+1) r) (BR k):=fun h=>by
   rw[Hv]
   split
   .rename_i k' hk
    have ne:¬k'=k:=by
     intro q
     rw[Gv,hk,q] at h
     simp at h
    exact DF (p:=(BR k',V.int ((i:Nat):Int))) fun q=>ne (KS q)
   .rfl
  cases hz:Gv k z with
  | true =>
   have hk:z.lab=.same k:=JJq hz
   refine .inr ⟨0,z,?_,rfl,?_⟩
   .unfold Bu
    rw[hk]
    exact DG rfl
   .rw[DJ,hz]
  | false =>
   have hf:(z::r).find? (Gv k)=r.find? (Gv k):=by rw[DJ,hz]
   rw[other hz,hf]
   rcases ih with ih | ⟨j,z',h1,h2,h3⟩
   .exact .inl ih
   .exact .inr ⟨j+1,z',by rw[h1];congr 2;omega,h2,h3⟩
section
variable {CL CK:Addr}
theorem Tn {p:LA}:(lf p.an p.ak p.sg p.sm p.af).lookup ("name":Str)=some (.ref p.an):=rfl
theorem GF {p:LA}:(lf p.an p.ak p.sg p.sm p.af).lookup ("kinds":Str)=some (.ref p.ak):=rfl
theorem JO {p:LA}:(lf p.an p.ak p.sg p.sm p.af).lookup ("signs":Str)=some (.ref p.sg):=rfl
theorem K9 {p:LA}:(lf p.an p.ak p.sg p.sm p.af).lookup ("sames":Str)=some (.ref p.sm):=rfl
theorem Tj {p:LA}:(lf p.an p.ak p.sg p.sm p.af).lookup ("fault":Str)=some (.ref p.af):=rfl
theorem Ef {r c s k:Int}{l:V}:(kf r l c s k).lookup ("rank":Str)=some (.int r):=rfl
theorem K5 {r c s k:Int}{l:V}:(kf r l c s k).lookup ("label":Str)=some l:=rfl
theorem cG {r c s k:Int}{l:V}:(kf r l c s k).lookup ("copies":Str)=some (.int c):=rfl
theorem Td {r c s k:Int}{l:V}:(kf r l c s k).lookup ("shape":Str)=some (.int s):=rfl
theorem Tc {r c s k:Int}{l:V}:(kf r l c s k).lookup ("look":Str)=some (.int k):=rfl
end
end Fb
namespace L2
open PySem PySem.Spec PyProof.Rows
open PySem.W (CodeHd tabObj kla_obj kla_fn envX)
abbrev KO (a:Addr) (o:Obj):HO:=.ext fun h=>h.get? a=some o
section
variable {P:Program}{w:World}{H H':Hp}{h h':Heap}{a:Addr}{o:Obj}
theorem Hf (e:h.get? a=some o):ObjOk P w H h a (KO a o):=⟨e,⟨o,e⟩,fun _ _ p k=>k _ p⟩
theorem GC (hok:HOk P w H h) (e:H a=some (KO a o)):h.get? a=some o:=(hok a _ e).1
end
def Cp (H:Hp) (c:Addr) (v:V):Prop:=∃(o:Obj) (u:Value),H c=some (KO c o)/\o.data=.cell (some u)/\RelV v u
def CodeO (H:Hp) (c:Addr) (qual:Str):Prop:=∃(o:Obj) (vs:Array Value) (t:Tok),H c=some (KO c o)/\o.data=.fields vs/\vs[1]?=some (.str qual t)
theorem CodeO.rec_of {P:Program}{w:World}{H:Hp}{h:Heap}{c:Addr}{qual:Str} (x:CodeO H c qual) (hok:HOk P w H h):h.CodeRec (.ref c) qual:=by
 obtain⟨o,vs,t,e,d,q⟩:=x
 exact⟨c,o,vs,t,rfl,GC hok e,d,q⟩
def hid (cs:List Addr) (H:Hp):Hp:=fun b=>if b∈cs then none else H b
def DA (cs:List Addr) (H0 H:Hp):Hp:=fun b=>if b∈cs then H0 b else H b
theorem Dd {cs:List Addr}{H:Hp}{b:Addr} (h:b∈cs):hid cs H b=none:=JJz h
theorem A7 {cs:List Addr}{H:Hp}{b:Addr} (h:b∉cs):hid cs H b=H b:=JJx h
theorem G5 {cs:List Addr}{H0 H:Hp}{b:Addr} (h:b∈cs):DA cs H0 H b=H0 b:=JJz h
theorem Dk {cs:List Addr}{H0 H:Hp}{b:Addr} (h:b∉cs):DA cs H0 H b=H b:=JJx h
theorem Hd {cs:List Addr}{H:Hp}{b:Addr} (h:H b=none):hid cs H b=none:=by
 unfold hid
 split
 .rfl
 .exact h
def Plain (cs:List Addr) (H:Hp):Prop:=∀b∈cs,∀u,H b=some u->∃φ,u=.ext φ
theorem Plain.out {cs:List Addr}{H:Hp} (p:Plain cs H) {b:Addr}{u:HO} (h:H b=some u) (n:∀φ,u≠.ext φ):b∉cs:=fun m=>by
 obtain⟨φ,e⟩:=p b m u h
 exact n φ e
theorem HOk.hid {P:Program}{w:World}{cs:List Addr}{H:Hp}{h:Heap} (p:Plain cs H) (x:HOk P w H h):HOk P w (L2.hid cs H) h:=fun a o e=>by
 by_cases m:a∈cs
 .rw[Dd m] at e;cases e
 .rw[A7 m] at e
  exact(x a o e).stay (fun _ _ _ q=>q) (fun b q=>by rw[A7 (p.out q fun φ z=>nomatch z)];exact q) fun b xs q=>by rw[A7 (p.out q fun φ z=>nomatch z)];exact q
structure KW (N ps:List Str) (sc:Scope) (cl:List (Str×Addr)):Prop where
 kind:sc.kind=.function
 co:sc.isCoroutine=false
 gen:sc.isGenerator=false
 nd:N.Nodup
 pre:N.take ps.length=ps
 par:∀x∈ps,sc.names.lookup x=some .local
 nocell:∀y∈sc.names,y.2≠.cell
 fr:N.drop ps.length=cl.map (·.1)
 frk:∀x∈cl.map (·.1),sc.names.lookup x=some .free
 all:∀y,sc.names.lookup y=some .free->y∈cl.map (·.1)
 cnd:(cl.map (·.2)).Nodup
def Nd (P:Program) (w:World) (K:AD) (mg:Str->Option Value) (base:Heap) (N:List Str) (qual:Str) (scope:Scope) (f c':Addr) (cl:List (Str×Addr)) (A:Around) (outer:List Env) (s:Shared) (H:Hp):Cx where
 prog:=P
 w:=w
 K:=K
 mg:=mg
 base:=base
 A:=A.deeper (envX qual scope s.heap.objs.size f (.ref c') cl)
 N:=N
 s_0:=s
 H_0:=hid (cl.map (·.2)) H
 env:=envX qual scope s.heap.objs.size f (.ref c') cl
 outer:=outer
 stack:=envX qual scope s.heap.objs.size f (.ref c') cl::outer
 ex:=[]
 calm:=true
 fn:=fun _=>false
 pn:=[]
 xe:=fun _ _=>False
theorem JQ:∀{cl:List (Str×Addr)}{i:Nat}{x:Str}{c:Addr},(cl.map (·.1)).Nodup->cl[i]?=some (x,c)->cl.lookup x=some c
 | [],_,_,_,_,h=>by simp at h
 | (y,d)::cl,0,x,c,_,h=>by
  simp at h
  obtain⟨rfl,rfl⟩:=h
  simp
 | (y,d)::cl,i+1,x,c,nd,h=>by
  obtain⟨h1,h2⟩:=DN.mp (show(y::cl.map (·.1)).Nodup from nd)
  have h':cl[i]?=some (x,c):=by simpa using h
  have hm:x∈cl.map (·.1):=Bb.mpr ⟨(x,c),Cw h',rfl⟩
  have ne:(x==y)=false:=beq_eq_false_iff_ne.mpr fun q=>h1 (q▸hm)
  rw[Er,ne]
  exact JQ h2 h'
theorem iX:∀{ps:List Str}{us:List Value}{i:Nat}{x:Str}{u:Value},ps.Nodup->ps[i]?=some x->us[i]?=some u->(ps.zip us).reverse.lookup x=some u:=by
 have out:∀(l:List (Str×Value)) (x:Str),(∀v,(x,v)∉l)->l.lookup x=none:=fun l x h=>by
  cases q:l.lookup x with
  | none=>rfl
  | some v=>exact(h v (Cb q)).elim
 have app:∀(l m:List (Str×Value)) (x:Str),(l++m).lookup x=(l.lookup x).or (m.lookup x):=fun l m x=>by
  induction l with
  | nil=>simp
  | cons p l ih =>
   obtain⟨y,v⟩:=p
   rw[Ft,Er,Er,ih]
   cases x==y <;> rfl
 intro ps
 induction ps with
 | nil=>intro us i x u _ h;simp at h
 | cons p ps ih =>
  intro us i x u nd h1 h2
  cases us with
  | nil=>simp at h2
  | cons w us =>
   obtain⟨n1,n2⟩:=DN.mp nd
   rw[J8,List.reverse_cons,app]
   cases i with
   | zero =>
    simp at h1 h2
    subst h1 h2
    rw[out _ p fun v hv=>n1 (J5 (List.mem_reverse.mp hv)).1]
    simp
   | succ i =>
    rw[ih n2 (by simpa using h1) (by simpa using h2)]
    rfl
section
variable {P:Program}{w:World}{K:AD}{mg:Str->Option Value}{base:Heap}
def FreeAt (H:Hp) (cl:List (Str×Addr)) (fvs:List V):Prop:=Paired (fun (p:Str×Addr) v=>Cp H p.2 v) cl fvs
theorem FreeAt.at_:∀{H:Hp}{cl:List (Str×Addr)}{fvs:List V}{i:Nat}{p:Str×Addr},FreeAt H cl fvs->cl[i]?=some p->∃v,fvs[i]?=some v/\Cp H p.2 v
 | _,_,_,_,_,.nil,h=>by simp at h
 | _,_,_,0,p,.cons r _,h=>by
  simp at h
  subst h
  exact⟨_,rfl,r⟩
 | _,_,_,i+1,p,.cons _ t,h=>FreeAt.at_ (i:=i) t (by simpa using h)
theorem N4 {k:Nat}{f c':Addr}{qual:Str}{params:Arguments}{body:Expr}{scope:Scope}{cl:List (Str×Addr)}{pm ctv:Value}{N ps:List Str}{sp:Sp} (S:KW N ps scope cl)
  (len:∀vs H Q E,sp vs H Q E->vs.length=ps.length)
  (hsp:∀vs H Q E,sp vs H Q E->H f=some (KO f (kla_obj "<lambda>" qual params body scope cl pm c' ctv))/\CodeO H c' qual/\∃fvs,FreeAt H cl fvs/\
   ∀(A:Around) (outer:List Env) (s:Shared),Room k (A.deeper (envX qual scope s.heap.objs.size f (.ref c') cl))->
    ∃t,PE (Nd P w K mg base N qual scope f c' cl A outer s H) body t/\t ((vs++fvs).map some) (hid (cl.map (·.2)) H) fun v H'=>(∀c∈cl.map (·.2),H' c=none)->Q v (DA (cl.map (·.2)) H H')):
  FnOk P w K mg base CX0 (k+1) f (kla_fn "<lambda>" qual params body scope cl pm (.ref c') ctv) ps sp:=by
 refine⟨len,fun A outer s H args us vs Q E hr e0 hb r h=>?_⟩
 have hl:=len _ _ _ _ h
 obtain⟨hf,hc,fvs,hfv,hbody⟩:=hsp _ _ _ _ h
 have lim:s.heap.NoLimit:=e0.mod.nolimit.keeps fun b o e=>(e0.bs b o e).1
 have ndP:ps.Nodup:=by rw[<- S.pre];exact S.nd.sublist (QQ _ _)
 have ndC:(cl.map (·.1)).Nodup:=by rw[<- S.fr];exact S.nd.sublist (List.drop_sublist _ _)
 have hcs:∀c∈cl.map (·.2),∃v,Cp H c v:=fun c hc=>by
  obtain⟨p,hp,rfl⟩:=Bb.mp hc
  obtain⟨i,hi⟩:=IX.mp hp
  obtain⟨v,_,q⟩:=hfv.at_ hi
  exact⟨v,q⟩
 have hpl:Plain (cl.map (·.2)) H:=fun b hb u e=>by
  obtain⟨v,o,_,q,_⟩:=hcs b hb
  rw[q] at e;cases e
  exact⟨_,rfl⟩
 have luc:∀x c,cl.lookup x=some c->(x,c)∈cl:=fun x c e=>Cb e
 refine PySem.W.kla_callFunE hr.depth (GC e0.hok hf) rfl S.co S.gen rfl (hc.rec_of e0.hok) (hb _ _ _ _ ?_)
 refine wpAny_newFunctionEnv S.nocell (fun y hy=>S.par y.1 (J5 hy).1) (fun h₁ hns hsb=>⟨lim.fresh _ hsb,?_⟩) S.kind
 show codeAny _ _ (.expr body (envX qual scope s.heap.objs.size f (.ref c') cl)) _ _
 have hk:∀b o,s.heap.get? b=some o->h₁.get? b=some o:=fun b o e=>hsb.extBut b o (B1 (BJ e)) (Bi _ e)
 obtain⟨t,ht,hq⟩:=hbody A outer s (hr.deeper _)
 have noA:∀b:Addr,b∉(Nd P w K mg base N qual scope f c' cl A outer s H).ex:=fun b z=>absurd (show b∈([]:List Addr) from z) (by simp)
 have I:Inv (Nd P w K mg base N qual scope f c' cl A outer s H) [] ((vs++fvs).map some) (hid (cl.map (·.2)) H) { s with heap:=h₁,toks:=s.toks+(ps.zip us).length }:=by
  refine⟨⟨e0.mod,S.kind,rfl,rfl,Aa _,fun x y c h1 h2=>?_,fun x hx=>?_,fun x c z _=>absurd (show false=true from z) A8,fun _=>hr.hd,Ye e0.frames,.inr ⟨rfl,rfl⟩,fun b z=>absurd z (noA b),fun b o e=>⟨(e0.bs b o e).1,Hd (e0.bs b o e).2⟩,e0.bsz,fun b _ _=>noA b,fun b z=>absurd z (noA b),e0.funs,fun b hb=>Hd (e0.frf b hb)⟩,
   rfl,e0.bare,Un.kept hk,⟨_,hns,fun i x v h1 h2 h3=>?_⟩,fun x c e=>?_,Hd (e0.hok.fresh (Aa _)),fun x c e=>?_,fun p hp=>absurd (show p∈([]:List (Addr×Obj)) from hp) (by simp),(e0.hok.hid hpl).kept hk,?_⟩
  .have m1:=luc x c h1
   have m2:=luc y c h2
   obtain⟨i,hi⟩:=IX.mp m1
   obtain⟨j,hj⟩:=IX.mp m2
   have e:=dC (l:=cl.map (·.2)) S.cnd (i:=i) (j:=j) (x:=c) (by rw[Ao,hi];rfl) (by rw[Ao,hj];rfl)
   subst e
   rw[hi] at hj
   cases hj
   rfl
  .have hx:scope.names.lookup x=some .cell\/scope.names.lookup x=some .free:=hx
   rcases hx with hx | hx
   .exact absurd rfl (S.nocell _ (Cb hx))
   .obtain⟨p,hp,rfl⟩:=Bb.mp (S.all x hx)
    obtain⟨i,hi⟩:=IX.mp hp
    exact⟨p.2,JQ ndC hi⟩
  .have h1:N[i]?=some x:=h1
   have lps:ps.length<=N.length:=by have:=congrArg FE S.pre;rw[DK] at this;omega
   by_cases hi:i < ps.length
   .have hp:ps[i]?=some x:=by rw[<- S.pre,YQ hi];exact h1
    have hv:vs[i]?=some v:=by
     rw[Ao,MM (by omega)] at h2
     cases e:vs[i]? with
     | none=>rw[e] at h2;cases h2
     | some z=>rw[e] at h2;cases h2;rfl
    obtain⟨u,hu,rv⟩:=r.get hv
    exact⟨u,rv,.inl ⟨S.par x (Cw hp),iX ndP hp hu⟩⟩
   .have hd:(cl.map (·.1))[i - ps.length]?=some x:=by rw[<- S.fr,List.getElem?_drop,show ps.length+(i - ps.length)=i by omega];exact h1
    rw[Ao] at hd
    cases hp:cl[i - ps.length]? with
    | none=>rw[hp] at hd;cases hd
    | some p =>
     rw[hp] at hd
     have hd:p.1=x:=Af hd
     obtain⟨v',hv',o,u,q1,q2,q3⟩:=hfv.at_ hp
     have hv:v'=v:=by
      rw[Ao,HF (by omega),hl,hv'] at h2
      cases h2;rfl
     subst hv hd
     refine⟨u,q3,.inr ⟨.inr (S.frk _ (Bb.mpr ⟨p,Cw hp,rfl⟩)),p.2,JQ ndC hp,o,hk _ _ (GC e0.hok q1),q2⟩⟩
  .obtain⟨v,o,u,q1,q2,q3⟩:=hcs c (Bb.mpr ⟨(x,c),luc x c e,rfl⟩)
   exact⟨some u,o,hk _ _ (GC e0.hok q1),q2⟩
  .exact Dd (Bb.mpr ⟨(x,c),luc x c e,rfl⟩)
  .show((vs++fvs).map some).length=N.length
   have l1:=congrArg FE S.fr
   have l2:=GZ hfv
   have l3:=congrArg FE S.pre
   rw[MO,AH] at l1
   rw[DK] at l3
   rw[AH,BC]
   omega
 refine PySem.W.kla_codeExpr (DO (ht [] _ _ _ _ I hq) (fun u s' hs=>?_) fun _ _ z=>Bf z)
 obtain⟨v,H',J,rv,q⟩:=hs
 have free':∀c∈cl.map (·.2),H' c=none:=fun c hc=>by
  obtain⟨p,hp,rfl⟩:=Bb.mp hc
  obtain⟨i,hi⟩:=IX.mp hp
  exact J.freeC p.1 p.2 (JQ ndC hi)
 have nofr:∀c∈cl.map (·.2),c∉frs outer:=fun c hc z=>by
  obtain⟨v,o,_,q1,_⟩:=hcs c hc
  rw[e0.frf c z] at q1;cases q1
 have outH:∀{b:Addr} {u:HO},H b=some u->(∀φ,u≠.ext φ)->b∉cl.map (·.2):=fun e n=>hpl.out e n
 have base:=J.base
 show CE outer P w H s Q u s'
 refine⟨v,DA (cl.map (·.2)) H H',J.os,J.bare,⟨fun b o e n hb hx=>base.keep b o e (Hd n) hb hx,fun b o e n hb hx=>base.slot b o e (Hd n) hb hx,fun b o e n hx=>?_,fun b o e hx=>base.there b o e hx,fun b xs e=>?_,fun b o u e=>?_,fun b ps e=>?_⟩,fun a o e=>?_,rv,q free'⟩
 .have hb:b∉cl.map (·.2):=fun z=>by
   obtain⟨v,o,_,q1,_⟩:=hcs b z
   rw[n] at q1;cases q1
  rw[Dk hb]
  exact base.free b o e (Hd n) hx
 .have hb:=outH e fun φ z=>nomatch z
  rw[Dk hb]
  exact base.tups b xs (by show hid _ H b=_;rw[A7 hb];exact e)
 .have hb:=outH e fun φ z=>nomatch z
  rw[Dk hb]
  exact base.frzs b o u (by show hid _ H b=_;rw[A7 hb];exact e)
 .have hb:=outH e fun φ z=>nomatch z
  rw[Dk hb]
  exact base.tbls b ps (by show hid _ H b=_;rw[A7 hb];exact e)
 .by_cases m:a∈cl.map (·.2)
  .rw[G5 m] at e
   obtain⟨v,ob,_,q1,_⟩:=hcs a m
   rw[q1] at e;cases e
   exact Hf (base.keep a ob (GC e0.hok q1) (Dd m) (nofr a m) (noA a))
  .rw[Dk m] at e
   refine(J.hok a o e).stay (fun _ _ _ q=>q) (fun b q=>?_) fun b xs q=>?_
   .rw[Dk fun z=>by rw[free' b z] at q;cases q];exact q
   .rw[Dk fun z=>by rw[free' b z] at q;cases q];exact q
end
end L2
namespace L2
open PySem PySem.Spec PyProof.Rows
open PySem.W (CodeHd tabObj kla_obj kla_fn envX)
def Bd (H:Hp) (Pt:Addr) (pos:Pos) (qual:Str):Prop:=H Pt=some (.tbl #[])\/∃c',H Pt=some (.tbl #[rawInt pos.line,rawInt pos.col,.ref c'])/\CodeO H c' qual
def F1 (mg:Str->Option Value) (h:Heap):Prop:=∃bm ob,mg "__builtins__"=some (.ref bm)/\bm≠builtinsNs/\h.get? bm=some ob/\ob.cls=.type "module"/\ob.dict=some builtinsNs/\ob.data=.plain
def g8 (Pt:Addr) (pos:Pos) (qual:Str) (mk:Value->Addr->Value->Obj):TE:=fun _ H Q=>Bd H Pt pos qual/\
 ∀(H':Hp) (f c':Addr) (pm ctv:Value),(∀b o,H b=some o->b≠Pt->H' b=some o)->H f=none->H' f=some (KO f (mk pm c' ctv))->H' Pt=some (.tbl #[rawInt pos.line,rawInt pos.col,.ref c'])->CodeO H' c' qual->Q (.ref f) H'
section
variable {X:Cx}
theorem OX {params:Arguments}{body:Expr}{scope:Scope}{pos:Pos}{c Pt:Addr}{qual:Str}{clos:List (Str×Addr)} (hcode:X.env.code=.ref c) (C:CodeHd X.base c Pt) (hbm:F1 X.mg X.base) (hq:X.env.qual++"<lambda>"=qual)
  (hcl:closureFor scope X.env=pure clos) (hdef:defaultsOf params X.env=([],[])):PE X (.Lambda params body scope pos) (g8 Pt pos qual fun pm c' ctv=>kla_obj "<lambda>" qual params body scope clos pm c' ctv):=by
 intro pins s σ H Q I h
 obtain⟨hT,k⟩:=h
 refine PySem.W.kla_eval hdef ?_
 rw[hq]
 have hg:s.heap.Ns mainGlobals X.mg:=I.mod.glob.keeps I.bk
 obtain⟨bm,ob,b1,b2,b3,b4,b5,b6⟩:=hbm
 have hsP:∃ps,H Pt=some (.tbl ps):=by
  rcases hT with e | ⟨c',e,_⟩
  .exact⟨_,e⟩
  .exact⟨_,e⟩
 obtain⟨ps0,hH0⟩:=hsP
 have hP0:s.heap.get? Pt=some (tabObj ps0):=I.hok Pt _ hH0
 have hgP:mainGlobals≠Pt:=fun q=>by
  obtain⟨o,es,ep,e,hd,_⟩:=hg
  rw[q,hP0] at e;cases e;cases hd
 have hbP:bm≠Pt:=fun q=>by
  have e:=I.bk _ _ b3
  rw[q,hP0] at e;cases e;cases b4
 have hbG:bm≠mainGlobals:=fun q=>by
  obtain⟨o,es,ep,e,hd,_⟩:=hg
  rw[<- q,I.bk _ _ b3] at e;cases e;rw[hd] at b6;cases b6
 have hbm':s.heap.BuiltinsAt X.mg Pt:=⟨bm,ob,b1,b2,hbG,hbP,I.bk _ _ b3,b4,b5,b6⟩
 have hLP:X.env.locals≠Pt:=fun q=>by
  have:=I.free
  rw[q,hH0] at this;cases this
 rcases hT with hH | ⟨c',hH,hc'⟩
 .have hP:s.heap.get? Pt=some (tabObj #[]):=I.hok Pt _ hH
  refine PySem.W.kla_makeFunction (mg:=X.mg) hcl I.ok.glob hg hcode (C.keeps I.bk) hP trivial rfl hgP hbm' fun c' ctv h' tk hx hge hlt hrec htb=>?_
  obtain⟨c₂,oc,vs,t,e2,hoc,hd,hv⟩:=hrec
  cases e2
  have szP:Pt < s.heap.objs.size:=BJ hP
  have nPc:Pt≠c':=B1 (CU szP hge)
  have sz':s.heap.objs.size<=h'.objs.size:=CW hge (Ia hlt)
  have nPf:Pt≠h'.objs.size:=B1 (CU szP sz')
  have ncf:c'≠h'.objs.size:=B1 hlt
  generalize ho:kla_obj "<lambda>" qual params body scope clos ((X.mg "__name__").getD .none) c' ctv=fo
  have kp:∀b o,b≠Pt->s.heap.get? b=some o->(h'.push fo).get? b=some o:=fun b o hb e=>Bi _ (hx b o hb e)
  have fresh:∀b,s.heap.objs.size<=b->H b=none:=fun b hb=>I.hok.fresh hb
  have tb:(h'.push fo).get? Pt=some (tabObj #[rawInt pos.line,rawInt pos.col,.ref c']):=Bi _ (by rw[htb];simp)
  let H':Hp:=upd (upd (upd H Pt (.tbl #[rawInt pos.line,rawInt pos.col,.ref c'])) c' (KO c' oc)) h'.objs.size (KO h'.objs.size fo)
  have H'o:∀b o,H b=some o->b≠Pt->H' b=some o:=fun b o e hb=>by
   show upd _ _ _ b=_
   rw[AF (Ac e (fresh _ sz')),AF (Ac e (fresh _ hge)),AF hb]
   exact e
  have H'P:H' Pt=some (.tbl #[rawInt pos.line,rawInt pos.col,.ref c']):=by
   show upd _ _ _ Pt=_
   rw[AF nPf,AF nPc,AG]
  have H'c:H' c'=some (KO c' oc):=by
   show upd _ _ _ c'=_
   rw[AF ncf,AG]
  have H'f:H' h'.objs.size=some (KO h'.objs.size fo):=AG
  have I':Inv X pins σ H' { s with heap:=h'.push fo,toks:=tk }:=by
   refine I.step (ch:=[]) (fun _ z=>nomatch z) (fun b o _ _ _ e n=>kp b o (fun z=>by rw[z,hH] at n;cases n) e) (fun b o _ _ _ e n=>⟨o.slots,kp b o (fun z=>by rw[z,hH] at n;cases n) e⟩) (fun b o _ e n=>?_) (fun b o _ e=>?_)
    (fun b xs e=>H'o b _ e fun z=>by rw[z,hH] at e;cases e) (fun b o u e=>H'o b _ e fun z=>by rw[z,hH] at e;cases e) (fun b qs e=>?_) (fun m hm=>?_) (fun a o e=>?_) I.bare
   .have hb:b < s.heap.objs.size:=BJ e
    show upd _ _ _ b=_
    rw[AF (B1 (CU hb sz')),AF (B1 (CU hb hge)),AF (fun z=>by rw[z,hH] at n;cases n)]
    exact n
   .by_cases hb:b=Pt
    .subst hb;exact⟨_,tb⟩
    .exact⟨o,kp b o hb e⟩
   .by_cases hb:b=Pt
    .subst hb
     rw[hH] at e;cases e
     exact⟨#[rawInt pos.line,rawInt pos.col,.ref c'],by rw[H'P];simp⟩
    .exact⟨#[],by rw[H'o b _ e hb];simp⟩
   .exact(hm.extBut hx hLP).push _
   .by_cases h1:a=h'.objs.size
    .subst h1
     rw[H'f] at e;cases e
     exact Hf (CD _ (by rw[<- ho];rfl))
    .by_cases h2:a=c'
     .subst h2
      rw[H'c] at e;cases e
      exact Hf (Bi _ hoc)
     .by_cases h3:a=Pt
      .subst h3
       rw[H'P] at e;cases e
       exact tb
      .have e:upd _ _ _ a=some o:=e
       rw[AF h1,AF h2,AF h3] at e
       refine(I.hok a o e).stay (fun b u hb q=>kp b u ?_ q) (fun b q=>H'o b _ q fun z=>by rw[z,hH] at q;cases q) fun b xs q=>H'o b _ q fun z=>by rw[z,hH] at q;cases q
       rcases hb with z | z
       .rw[z];exact h3
       .exact fun y=>by rw[y,hH] at z;cases z
  refine⟨.ref h'.objs.size,H',I',rfl,k H' h'.objs.size c' ((X.mg "__name__").getD .none) ctv H'o (fresh _ sz') (H'f.trans (congrArg (fun z=>some (KO h'.objs.size z)) ho.symm)) H'P ⟨oc,vs,t,H'c,hd,hv⟩⟩
 .have hP:s.heap.get? Pt=some (tabObj #[rawInt pos.line,rawInt pos.col,.ref c']):=I.hok Pt _ hH
  refine PySem.W.kla_makeFunctionHit (cv:=.ref c') (mg:=X.mg) hcl I.ok.glob hg hcode (C.keeps I.bk) hP trivial (by simp[codeAmong,rawInt]) hbm' fun ctv h' tk hx hsz=>?_
  generalize ho:({ cls:=.type "function",data:=.func (kla_fn "<lambda>" qual params body scope clos ((X.mg "__name__").getD .none) (.ref c') ctv) }:Obj)=fo
  have fresh:H h'.objs.size=none:=I.hok.fresh hsz
  have I':Inv X pins σ (upd H h'.objs.size (KO h'.objs.size fo)) { s with heap:=h'.push fo,toks:=tk } :=
   I.laid (fun b u e=>Bi _ (hx b u e)) hsz (Hf (CD _ (by rw[<- ho];rfl)))
  have H'o:∀b o,H b=some o->upd H h'.objs.size (KO h'.objs.size fo) b=some o:=fun b o e=>by rw[AF (Ac e fresh)];exact e
  refine⟨.ref h'.objs.size,_,I',rfl,k _ h'.objs.size c' ((X.mg "__name__").getD .none) ctv (fun b o e _=>H'o b o e) fresh (by rw[AG];exact congrArg (fun z=>some (KO h'.objs.size z)) ho.symm) (H'o _ _ hH) ?_⟩
  obtain⟨oc,vs,t,q1,q2,q3⟩:=hc'
  exact⟨oc,vs,t,H'o _ _ q1,q2,q3⟩
def FnO (H:Hp) (f:Addr):Prop:=∃(o:Obj) (fd:FuncData),H f=some (KO f o)/\o.data=.func fd
theorem FnO.at_ {P:Program}{w:World}{H:Hp}{h:Heap}{f:Addr} (x:FnO H f) (hok:HOk P w H h):PySem.W.FnAt f h:=by
 obtain⟨⟨oc,od,dt,sl⟩,fd,e,d⟩:=x
 have d:dt=.func fd:=d
 subst d
 exact⟨oc,od,fd,sl,GC hok e⟩
def gp (X:Cx) (k i:Nat) (t:TA):TE:=fun σ H Q=>∃(f:Addr) (fd:FuncData) (ps:List Str) (sp:Sp),σ[i]?=some (some (.ref f))/\FnO H f/\FnOk X.prog X.w X.K X.mg X.base CX0 k f fd ps sp/\Binds X.K fd ps []/\t σ H fun vs H1=>FnO H1 f/\sp vs H1 Q E0
theorem dj {k i:Nat}{x:Str}{p pos:Pos}{e:Expr}{es:List Expr}{t:TA} (hr:Room k X.A) (ha:PA X (e::es) t) (hN:X.N[i]?=some x:=by rfl) (hv:Vis X.env.scope x:=by first | exact Ai rfl | exact ET (Ai rfl) | exact ET (ET rfl))
  (hdb:(x==("__debug__":Str))=false:=by decide) (hcd:(x==("__classdict__":Str))=false:=by decide) (he:starEach (e::es) X.env=(false,eval e X.env)::starEach es X.env:=by rfl) (hpl:(backTo pos (starEach es X.env)).any (·.1)=false:=by rfl):
  PE X (.Call (.Name x p) (e::es) [] pos) (gp X k i t):=by
 intro pins s σ H Q I h
 obtain⟨f,fd,ps,sp,hi,hf,F,hb,h⟩:=h
 refine Ge (thn (UP hN hv hdb hcd pins s σ H (fun v H1=>v=.ref f/\H1=H) I ⟨_,hi,rfl,rfl⟩) fun u s1 ⟨v,H1,I1,r,e1,e2⟩=>?_)
 subst e1 e2
 obtain rfl:u=.ref f:=r
 refine PySem.W.callWith_F (hf.at_ I1.hok) (thn (ha pos pins s1 σ H1 _ I1 h) fun us s2 ⟨vs,H2,I2,r2,hf2,q⟩=>⟨hf2.at_ I2.hok,?_⟩) he hpl
 refine Uw F hr hb .nil Ho I2 r2 ?_
 rw[DI]
 exact q
def CV (X:Cx):List Addr:=X.env.cells.map (·.2)
def gn (X:Cx) (sp:Sp) (t:TA):TE:=fun σ H Q=>t σ H fun vs H1=>∀H2:Hp,(∀b,b∉CV X->H2 b=H1 b)->(∀b∈CV X,H1 b=none)->
 (∀(i:Nat) (x:Str) (v:V) (c:Addr),X.N[i]?=some x->σ[i]?=some (some v)->X.env.kindOf x=some .cell->X.env.cells.lookup x=some c->Cp H2 c v)->
 sp vs H2 (fun v H'=>(∀c∈CV X,H' c=H2 c)/\Q v (hid (CV X) H')) E0
theorem OV {k:Nat}{f:Addr}{fd:FuncData}{ps:List Str}{sp:Sp}{x:Str}{p pos:Pos}{e:Expr}{es:List Expr}{t:TA} (F:FnOk X.prog X.w X.K X.mg X.base CX0 k f fd ps sp) (hr:Room k X.A) (hg:Gl X x) (hm:X.mg x=some (.ref f)) (hk:HN X.K (.ref f)=true)
  (hb:Binds X.K fd ps []) (hfn:∀y,X.fn y=true) (hnd:(X.env.cells.map (·.1)).Nodup) (ha:PA X (e::es) t) (hdb:(x==("__debug__":Str))=false:=by decide) (he:starEach (e::es) X.env=(false,eval e X.env)::starEach es X.env:=by rfl) (hpl:(backTo pos (starEach es X.env)).any (·.1)=false:=by rfl):
  PE X (.Call (.Name x p) (e::es) [] pos) (gn X sp t):=by
 intro pins s0 σ H0 Q I0 h0
 refine Ge (Hk I0 hg hm ?_ hdb)
 refine Qx (h₀:=X.base) I0.ok.mod.kin hk (thn (ha pos pins s0 σ H0 _ I0 h0) fun us s ⟨vs,H,I,r,h⟩=>⟨I.kIn,?_⟩) he hpl
 have look:∀c∈CV X,∃y,X.env.cells.lookup y=some c:=fun c hc=>by
  obtain⟨q,hq,rfl⟩:=Bb.mp hc
  obtain⟨i,hi⟩:=IX.mp hq
  exact⟨q.1,JQ hnd hi⟩
 have cin:∀{y:Str} {c:Addr},X.env.cells.lookup y=some c->c∈CV X:=fun {y c} e=>Bb.mpr ⟨(y,c),Cb e,rfl⟩
 have hobj:∀c∈CV X,∃o,s.heap.get? c=some o:=fun c hc=>by
  obtain⟨y,e⟩:=look c hc
  obtain⟨v,o,ho,_⟩:=I.cell y c e
  exact⟨o,ho⟩
 have hnone:∀c∈CV X,H c=none:=fun c hc=>by
  obtain⟨y,e⟩:=look c hc
  exact I.freeC y c e
 let H2:Hp:=fun b=>if b∈CV X then (s.heap.get? b).map (KO b) else H b
 have H2i:∀{c:Addr} {o:Obj},c∈CV X->s.heap.get? c=some o->H2 c=some (KO c o):=fun {c o} hc e=>by
  show(if c∈CV X then (s.heap.get? c).map (KO c) else H c)=_
  rw[JJz hc,e];rfl
 have H2o:∀{b:Addr},b∉CV X->H2 b=H b:=fun hb=>JJx hb
 have outc:∀{b:Addr} {u:HO},H b=some u->b∉CV X:=fun e z=>by rw[hnone _ z] at e;cases e
 have nofr:∀c∈CV X,c∉frs X.stack:=fun c hc z=>by
  obtain⟨y,e⟩:=look c hc
  rcases AQ.mp (I.stkSub c z) with q | q
  .exact I.cne y c e q
  .obtain⟨_,o,ho,_⟩:=I.ok.funs.mem q
   exact absurd (CU (BJ ho) (I.ok.cab y c (hfn y) e)) (C3 _)
 have e0:Env0 X.prog X.w X.K X.mg X.base X.A X.stack s H2:=by
  have z:=I.env0
  refine⟨z.frames,z.mod,fun b o e=>⟨(z.bs b o e).1,?_⟩,z.bsz,z.funs,fun b hb=>?_,fun a o e=>?_,z.bare⟩
  .rw[H2o fun hc=>?_]
   .exact(z.bs b o e).2
   .obtain⟨y,q⟩:=look b hc
    exact absurd (CU (BJ e) (CW I.ok.bsz (I.ok.cab y b (hfn y) q))) (C3 _)
  .rw[H2o fun hc=>nofr b hc hb]
   exact z.frf b hb
  .by_cases hc:a∈CV X
   .obtain⟨ob,ho⟩:=hobj a hc
    rw[H2i hc ho] at e;cases e
    exact Hf ho
   .rw[H2o hc] at e
    exact(I.hok a o e).stay (fun _ _ _ q=>q) (fun b q=>by rw[H2o (outc q)];exact q) fun b xs q=>by rw[H2o (outc q)];exact q
 have hsp:=h H2 (fun b hb=>H2o hb) hnone fun i y v c h1 h2 h3 h4=>by
  obtain⟨m,hn,hl⟩:=I.loc
  obtain⟨u,rv,lk⟩:=hl i y v h1 h2 (.inr (.inl h3))
  rcases lk with ⟨q,_⟩ | ⟨_,c₂,q1,o,ho,hd⟩
  .rw[h3] at q;cases q
  .rw[h4] at q1;cases q1
   exact⟨o,u,H2i (cin h4) ho,hd,rv⟩
 have hl:us.length=ps.length:=by rw[<- r.length];exact F.len _ _ _ _ hsp
 refine Mu (Gb (F.run X.A X.stack s H2 ⟨us,[]⟩ us vs _ E0 hr e0 (by have:=hb s us I.kIn (by rw[DI];exact hl);rw[DI] at this;exact this) r hsp) fun r' s' hq=>?_)
 cases r' with
 | error e=>exact Bf hq
 | ok fl =>
  cases fl with
  | next=>exact Bf hq
  | brk=>exact Bf hq
  | cont=>exact Bf hq
  | ret u =>
   obtain⟨v,H',os,bare,un,hok,rv,hc',q⟩:=hq
   have kept:∀c o,c∈CV X->s.heap.get? c=some o->s'.heap.get? c=some o/\H' c=some (KO c o):=fun c o hc e=>by
    have e2:=(hc' c hc).trans (H2i hc e)
    exact⟨GC hok e2,e2⟩
   refine I.after ⟨v,hid (CV X) H',os,bare,⟨fun b o e n hb hx=>?_,fun b o e n hb hx=>?_,fun b o e n hx=>?_,fun b o e hx=>un.there b o e hx,fun b xs e=>?_,fun b o u e=>?_,fun b qs e=>?_⟩,hok.hid fun b hb u e=>?_,rv,q⟩
   .by_cases hc:b∈CV X
    .exact(kept b o hc e).1
    .exact un.keep b o e (by rw[H2o hc];exact n) hb hx
   .have hc:b∉CV X:=fun z=>nofr b z hb
    exact un.slot b o e (by rw[H2o hc];exact n) hb hx
   .by_cases hc:b∈CV X
    .exact Dd hc
    .rw[A7 hc]
     exact un.free b o e (by rw[H2o hc];exact n) hx
   .rw[A7 (outc e)]
    exact un.tups b xs (by rw[H2o (outc e)];exact e)
   .rw[A7 (outc e)]
    exact un.frzs b o u (by rw[H2o (outc e)];exact e)
   .rw[A7 (outc e)]
    exact un.tbls b qs (by rw[H2o (outc e)];exact e)
   .obtain⟨o,ho⟩:=hobj b hb
    rw[(kept b o hb ho).2] at e
    cases e
    exact⟨_,rfl⟩
end
end L2
namespace Fb
open PySem PySem.Spec PyProof.Rows L2
abbrev VB:Stmt:=V8
def Ze (H H1 H2:Hp):Prop:=∀b o,H b=none->H1 b=some o->H2 b=some o
theorem aI (xs:List V) (v:V):Ce (xs++[v]) none (some (-1))=xs:=by
 unfold Ce
 have e1:HT.sIx (xs++[v]).length 0 none=0:=rfl
 have e2:HT.sIx (xs++[v]).length (xs++[v]).length (some (-1))=xs.length:=by
  show(if (-1:Int) < 0 then ((-1:Int)+((xs++[v]).length:Nat)).toNat else min (-1:Int).toNat (xs++[v]).length)=_
  rw[JJz (by decide),BC]
  simp only[Bz]
  omega
 rw[e1,e2]
 simp
structure KY (P:Program) (w:World) (K:AD) (mg:Str->Option Value) (kT:Nat) (H:Hp) (f:Addr) (full:List (List Int)) (J:Nat->Hp->Prop) (R:Nat->Int):Prop where
 st:J 0 H
 mono:∀i H1 H2,J i H1->Same H1 H2->J i H2
 fn:∀i H1,J i H1->FnO H1 f
 ok:∃(fd:FuncData) (sp':Sp),(∀base:Heap,FnOk P w K mg base CX0 kT f fd ["number","line"] sp')/\Binds K fd ["number","line"] []/\
  ∀(i:Nat) (la:Addr) (ln:List Int) (H1:Hp) (Q1:VK),full[i]?=some ln->J i H1->H la=none->H1 la=some (.lst (ln.map V.int))->
   (∀H2,Ze H H1 H2->(R i=0->J (i+1) H2)->(R i≠0->J i H2)->Q1 (.int (R i)) H2)->sp' [.int (i:Nat),.ref la] H1 Q1 E0
def NI (full:List (List Int)) (rest:List Int) (R:Nat->Int) (j:Nat) (res:List Int):Prop :=
 (j < full.length/\(∀i < j,R i=0)/\R j≠0/\res=[R j,(j:Int)])\/(j=full.length/\(∀i < j,R i=0)/\res=if rest=[] then [] else [1,(j:Int)])
def Lk (P:Program) (w:World) (K:AD) (mg:Str->Option Value) (kT:Nat):Sp:=fun vs H Q _=>∃(a f:Addr) (ns:List Int) (full:List (List Int)) (rest:List Int) (J:Nat->Hp->Prop) (R:Nat->Int),
 vs=[.ref a,.ref f]/\SqL K H a (ns.map V.int)/\ns.length < 100000/\BF 10 ns=full++[rest]/\KY P w K mg kT H f full J R/\
 ∀(H':Hp) (p:Addr) (j:Nat) (res:List Int),J j H'->H' p=none->NI full rest R j res->Q (.ref p) (upd H' p (.lst (res.map V.int)))
theorem scFirst:Ag ["text","take","lines","number","line","kind"] ["text","take"] (AL VB):=⟨rfl,rfl,rfl,by decide +kernel,rfl,by decide +kernel,by decide +kernel⟩
section
variable {P:Program}{w:World}{K:AD}{mg:Str->Option Value}{base:Heap}
theorem ok_first {f0:Addr}{fd0:FuncData}{kT:Nat} (F:Fun K "first_fault" "first_fault" VB f0 fd0) (B:Blt mg) (c1:Cst mg "LINE_END" (.int 10)) (c2:Cst mg "NO_SUCH_LINE" (.int 1)) (g1:Has P w K mg "split_at" 1 ["mark","values"] (Fh K)):
  FnOk P w K mg base CX0 (kT+2) f0 fd0 ["text","take"] (Lk P w K mg kT):=by
 refine F.ok (k:=kT+1) scFirst (fun vs H Q E h=>?_) (fun cdv A outer s H vs Q E hr h=>?_)
 .obtain⟨a,f,ns,full,rest,J,R,rfl,_⟩:=h
  rfl
 .obtain⟨a,f,ns,full,rest,J,R,rfl,hS,hlen,hcut,T,k⟩:=h
  have hr1:Room 1 _:=hr.mono (by omega)
  have hrT:Room kT _:=hr.mono (by omega)
  obtain⟨fd,sp',hF,hB,hstep⟩:=T.ok
  refine⟨_,AJ (BN (i:=2) scFirst.nd rfl (Ai rfl) (AO g1 hr1 (by rfl) (AB (AS c1 rfl) (AB (pv 0) AE))))
   (AJ (E6 FJ rfl (d8 (by rfl) B.enumerate (AB (E5 FA (pv 2) Fe (Ek (G3 G4 AU))) AE)) (UQ rfl (LQ (CT (i:=3) scFirst.nd rfl (Ai rfl)) (LQ (CT (i:=4) scFirst.nd rfl (Ai rfl)) UR)))
    (AJ (BN (i:=5) scFirst.nd rfl (Ai rfl) (dj (k:=kT) (i:=1) hrT (AB (pv 3) (AB (pv 4) AE))))
     (AK (As (Aj LN (pv 5) AU (AY _)) (AK (AM (BD (AB (pv 5) (AB (pv 3) AE))))) Aw))))
   (AJ (As (Aj FZ (BV CQ (by rfl) B.len CM (AB (CH CF (pv 2) (G3 G4 AU) (fun _ _=>rfl)) AE)) AU (AY _))
     (AK (AM (BD (AB (AS c2 rfl) (AB (C0 OR (BV CQ (by rfl) B.len CM (AB (pv 2) AE)) AU) AE))))) Aw)
   (AK (AM (BD AE))))),?_⟩
  refine⟨_,rfl,a,10,ns,rfl,hS,hlen,fun H1 p as s1 np nas hp hpa=>?_⟩
  rw[hcut] at hpa
  have hal:=Bp hpa
  rw[BC,Bz] at hal
  obtain⟨asF,aR,rfl⟩:∃asF aR,as=asF++[aR]:=by
   have ne:as≠[]:=by intro q;rw[q] at hal;simp at hal
   exact⟨as.dropLast,as.getLast ne,(IQ ne).symm⟩
  have hlF:asF.length=full.length:=by rw[BC,Bz] at hal;omega
  have hcl:=Gr 10 ns
  rw[hcut,BC,Bz] at hcl
  refine⟨_,rfl,_,rfl,_,rfl,p,_,rfl,SqL.of hp,fun q nq=>?_⟩
  have emap:(asF++[aR]).map V.ref=asF.map V.ref++[V.ref aR]:=Bo
  have ecut:Ce ((asF++[aR]).map V.ref) none (some (-1))=asF.map V.ref:=by rw[emap];exact aI _ _
  rw[ecut]
  have s2:Same H1 (upd H1 q (.lst (asF.map V.ref))):=(Same.refl H1).new nq
  have nq0:H q=none:=s1.free nq
  have hq1:upd H1 q (.lst (asF.map V.ref)) q=some (.lst (asF.map V.ref)):=AG
  have hp1:=s2 _ _ hp
  have hpa1:Paired (fun a ps=>upd H1 q (.lst (asF.map V.ref)) a=some (.lst (ps.map V.int))) (asF++[aR]) (full++[rest]):=Paired.mapP hpa fun a b e=>s2 _ _ e
  have J0:J 0 (upd H1 q (.lst (asF.map V.ref))):=T.mono 0 _ _ T.st (s1.trans s2)
  generalize upd H1 q (.lst (asF.map V.ref))=H2 at hq1 hp1 hpa1 J0 ⊢
  refine⟨q,_,rfl,SqL.of hq1,?_⟩
  refine Kx (n:=full.length) (fun i σ H'=>∃(v3 v4 v5:Option V),σ=[some (.ref a),some (.ref f),some (.ref p),v3,v4,v5]/\J i H'/\(∀i' < i,R i'=0)/\H' q=some (.lst (asF.map V.ref))/\
    H' p=some (.lst ((asF++[aR]).map V.ref))/\Paired (fun a ps=>H' a=some (.lst (ps.map V.int))) (asF++[aR]) (full++[rest]))
   ⟨none,none,none,rfl,J0,fun i' h=>absurd h (QZ _),hq1,hp1,hpa1⟩ ?_ ?_ ?_ ?_
  .rintro i σ H' hi ⟨_,_,_,_,_,_,h,_⟩
   exact⟨_,_,SqL.of h,Ba (by rw[AH,hlF];exact hi)⟩
  .rintro σ H' ⟨_,_,_,_,_,_,h,_⟩
   exact⟨_,SqL.of h,by rw[AH,hlF];exact Aa _⟩
  .rintro i y σ H' H3 hi ⟨v3,v4,v5,rfl,hJ,hR,hq,hp,hpa⟩ ⟨Tp,x,rfl,nT,rfl,hx⟩
   have hxi:=hx _ (SqL.of hq)
   rw[Ao] at hxi
   cases hla:asF[i]? with
   | none=>rw[hla] at hxi;cases hxi
   | some la =>
   rw[hla] at hxi
   have ex:V.ref la=x:=Af hxi
   subst ex
   have hlaA:(asF++[aR])[i]?=some la:=by rw[MM (by omega)];exact hla
   obtain⟨ln,hln⟩:∃ln,full[i]?=some ln:=⟨_,Ba hi⟩
   have hlnA:(full++[rest])[i]?=some ln:=by rw[MM hi];exact hln
   have nla:H la=none:=nas la (Cw hlaA)
   have hlaH:H' la=some (.lst (ln.map V.int)):=by
    obtain⟨la',e1,e2⟩:=Cf hpa hlnA
    rw[hlaA] at e1
    cases e1
    exact e2
   have s3:Same H' (upd H' Tp (.tup [.int (i:Nat),.ref la])):=(Same.refl H').new nT
   have hT:upd H' Tp (.tup [.int (i:Nat),.ref la]) Tp=some (.tup [.int (i:Nat),.ref la]):=AG
   generalize upd H' Tp (.tup [.int (i:Nat),.ref la])=H3 at s3 hT ⊢
   have hJ3:=T.mono i _ _ hJ s3
   refine⟨Tp,_,rfl,.inl (.inl hT),rfl,_,_,rfl,_,_,rfl,rfl,?_⟩
   refine⟨f,fd,["number","line"],sp',rfl,T.fn i _ hJ3,hF _,hB,_,rfl,_,rfl,T.fn i _ hJ3,?_⟩
   refine hstep i la ln H3 _ hln hJ3 nla (s3 _ _ hlaH) fun H4 nk z nz=>?_
   refine⟨_,rfl,rfl,_,rfl,?_⟩
   by_cases hz:R i=0
   .refine bo (congrArg V.int hz) ?_
    refine⟨_,_,_,rfl,z hz,fun i' h'=>?_,nk _ _ nq0 (s3 _ _ hq),nk _ _ np (s3 _ _ hp),?_⟩
    .rcases QU.mp h' with q | q
     .exact hR i' q
     .rw[q];exact hz
    .exact JV hpa fun b ps hb e=>nk _ _ (nas b hb) (s3 _ _ e)
   .have hne:¬V.int (R i)=V.int 0:=fun q=>hz (by injection q)
    rw[JJj hne]
    refine TJ ?_
    refine⟨_,rfl,_,rfl,(show 2<=sizeLine from BP (by decide)),fun l nl=>?_⟩
    exact k H4 l i [R i,(i:Int)] (nz hz) nl (.inl ⟨hi,hR,hz,rfl⟩)
  .rintro σ H' ⟨v3,v4,v5,rfl,hJ,hR,hq,hp,hpa⟩
   have hRest:H' aR=some (.lst (rest.map V.int)):=by
    obtain⟨la',e1,e2⟩:=Cf hpa (i:=full.length) (b:=rest) (by simp)
    rw[HF (by omega)] at e1
    rw[hlF,Ib] at e1
    cases e1
    exact e2
   refine⟨_,rfl,_,rfl,p,_,_,_,rfl,rfl,SqL.of hp,by rw[emap];exact Iw _ _,aR,_,rfl,.inl (SqL.of hRest),_,_,rfl,rfl,_,rfl,?_⟩
   by_cases hz:rest=[]
   .have:¬(0:Int) < (((rest.map V.int).length:Nat):Int):=by rw[hz];simp
    rw[JJj this]
    refine K3 ?_
    refine⟨BP (by decide),fun l nl=>?_⟩
    refine k H' l full.length [] hJ nl (.inr ⟨rfl,hR,?_⟩)
    rw[JJz hz]
   .have:(0:Int) < (((rest.map V.int).length:Nat):Int):=by
     rw[AH]
     cases rest with
     | nil=>exact absurd rfl hz
     | cons a b=>simp
    rw[JJk this]
    refine TJ ?_
    refine⟨_,rfl,p,_,rfl,.inl (SqL.of hp),_,_,rfl,rfl,(show 2<=sizeLine from BP (by decide)),fun l nl=>?_⟩
    have e9:(((asF++[aR]).map V.ref).length:Int) - 1=(full.length:Int):=by
     rw[AH,BC,Bz,hlF]
     omega
    show Q (.ref l) (upd H' l (.lst [V.int 1,V.int ((((asF++[aR]).map V.ref).length:Int) - 1)]))
    rw[e9]
    refine k H' l full.length [1,(full.length:Int)] hJ nl (.inr ⟨rfl,hR,?_⟩)
    rw[JJx hz]
end
end Fb
namespace Fb
open PySem PySem.Spec PyProof.Rows L2
theorem bT {b:Bool}{A C:Prop} (h:b=true) (k:A):if b=true then A else C:=by rw[JJz h];exact k
theorem bF {b:Bool}{A C:Prop} (h:b=false) (k:C):if b=true then A else C:=by rw[JJx (by rw[h];exact A8)];exact k
theorem Jn {a b:Int} (h:V.int a=V.int b):a=b:=by injection h
theorem Br {a b:Int} (h:a≠b):¬V.int a=V.int b:=fun q=>h (Jn q)
abbrev Vb:Stmt:=Wk
def PK (K:AD):Sp:=fun vs H Q _=>∃(a:Addr) (ns:List Int) (m:Int),vs=[.ref a,.int m]/\SqL K H a (ns.map V.int)/\Pur H Q (.int (EJ m ns))
theorem scSmall:Ag ["word","most","number"] ["word","most"] (AL Vb):=⟨rfl,rfl,rfl,by decide +kernel,rfl,by decide +kernel,by decide +kernel⟩
section
variable {P:Program}{w:World}{K:AD}{mg:Str->Option Value}{base:Heap}
theorem ok_small {f:Addr}{fd:FuncData} (F:Fun K "small_number" "small_number" Vb f fd) (B:Blt mg):FnOk P w K mg base CX0 1 f fd ["word","most"] (PK K):=by
 refine F.ok scSmall (fun vs H Q E h=>?_) (fun cdv A outer s H vs Q E hr h=>?_)
 .obtain⟨a,ns,m,rfl,_⟩:=h
  rfl
 .obtain⟨a,ns,m,rfl,hS,k⟩:=h
  have kk:=k H (Same.refl H)
  refine⟨_,AJ (As (Aj LN (BV CQ (by rfl) B.len CM (AB (pv 0) AE)) AU (AY _)) (AK (AM AU)) Aw)
   (AJ (BN (i:=2) scSmall.nd rfl (Ai rfl) (C0 OR (CH CF (pv 0) AU (fun _ _=>rfl)) (BV HX (by rfl) B.ord Ic (AB Dh AE))))
   (AK (AM (LP (eJ DR DR AU (pv 2) (pv 1)) (pv 2) AU)))),?_⟩
  refine⟨_,rfl,a,_,rfl,.inl hS,rfl,_,rfl,?_⟩
  match ns,hS,kk with
  | [],hS,kk=>exact bT rfl kk
  | c::d::r,hS,kk =>
   refine bT ?_ kk
   rw[JJj (Br (by simp;omega))];rfl
  | [c],hS,kk =>
   refine bF (by rw[JJk (show V.int ((([c]:List Int).map V.int).length:Nat)=V.int 1 from rfl)];rfl) ?_
   refine⟨_,rfl,a,_,_,_,rfl,rfl,hS,CP (j:=0) rfl,_,rfl,rfl,_,_,rfl,rfl,_,rfl,_,_,rfl,rfl,_,rfl,?_⟩
   have e48:((EV "0").cps.getD 0 0:Nat)=48:=rfl
   unfold EJ at kk
   have kk:Q (.int (if 1<=c - 48/\c - 48<=m then c - 48 else 0)) H:=kk
   by_cases h1:1<=c - 48
   .refine bT (JJk h1) ?_
    refine⟨_,rfl,_,_,rfl,rfl,_,rfl,?_⟩
    by_cases h2:c - 48<=m
    .rw[JJz ⟨h1,h2⟩] at kk
     exact bT (JJk h2) ⟨_,rfl,kk⟩
    .rw[JJx fun q=>h2 q.2] at kk
     exact bF (JJj h2) kk
   .rw[JJx fun q=>h1 q.1] at kk
    exact bF (JJj h1) ⟨_,rfl,bF rfl kk⟩
end
abbrev VZ:Stmt:=Wi
def Di (ns:List Int):Int:=if ns=BQ "square" then 0 else if ns=BQ "tails" then 1 else if ns=BQ "long" then 2 else -1
def shps:List Str:=["square","tails","long"]
def NC (K:AD) (mg:Str->Option Value) (x:Str) (xs:List V):Prop:=∃t:Addr,mg x=some (.ref t)/\∀H:Hp,SqT K H t xs
def XU (K:AD):Sp:=fun vs H Q _=>∃(a:Addr) (ns:List Int),vs=[.ref a]/\SqL K H a (ns.map V.int)/\Pur H Q (.int (Di ns))
theorem scShape:Ag ["word","number","shape"] ["word"] (AL VZ):=⟨rfl,rfl,rfl,by decide +kernel,rfl,by decide +kernel,by decide +kernel⟩
section
variable {P:Program}{w:World}{K:AD}{mg:Str->Option Value}{base:Heap}
theorem ok_shape {f:Addr}{fd:FuncData} (F:Fun K "shape_told" "shape_told" VZ f fd) (B:Blt mg) (c1:NC K mg "SHAPES" (shps.map V.str)) (g1:Has P w K mg "letters" 1 ["word"] Hy):FnOk P w K mg base CX0 2 f fd ["word"] (XU K):=by
 refine F.ok scShape (fun vs H Q E h=>?_) (fun cdv A outer s H vs Q E hr h=>?_)
 .obtain⟨a,ns,rfl,_⟩:=h
  rfl
 .obtain⟨a,ns,rfl,hS,k⟩:=h
  obtain⟨t,hmg,hSh⟩:=c1
  refine⟨_,AJ (E6 FJ rfl (d9 (by rfl) B.enumerate (AB (AS (v:=.ref t) ⟨_,hmg,rfl⟩ rfl) AE)) (UQ rfl (LQ (CT (i:=1) scShape.nd rfl (Ai rfl)) (LQ (CT (i:=2) scShape.nd rfl (Ai rfl)) UR)))
    (AK (As (Aj (Ei hr.units) (pv 0) (AO g1 hr (by rfl) (AB (pv 2) AE)) (AY _)) (AK (AM (pv 1))) Aw)))
   (AK (AM (G3 G4 AU))),?_⟩
  refine⟨t,_,rfl,hSh _,?_⟩
  refine Kx (n:=3) (fun i σ H'=>∃(v1 v2:Option V),σ=[some (.ref a),v1,v2]/\Same H H'/\∀j x,j < i->shps[j]?=some x->ns≠BQ x) ⟨none,none,rfl,Same.refl H,fun j x h=>absurd h (QZ _)⟩ ?_ ?_ ?_ ?_
  .rintro i σ H' hi _
   exact⟨_,_,hSh _,Ba (by rw[AH];exact hi)⟩
  .rintro σ H' _
   exact⟨_,hSh _,rfl⟩
  .rintro i y σ H' H2 hi ⟨v1,v2,rfl,s1,hno⟩ ⟨T,x,rfl,nT,rfl,hx⟩
   have hxi:=hx _ (hSh _)
   rw[Ao] at hxi
   cases hs:shps[i]? with
   | none=>rw[hs] at hxi;cases hxi
   | some z =>
   rw[hs] at hxi
   have ex:V.str z=x:=Af hxi
   subst ex
   have s2:Same H' (upd H' T (.tup [.int (i:Nat),.str z])):=(Same.refl H').new nT
   have hT:upd H' T (.tup [.int (i:Nat),.str z]) T=some (.tup [.int (i:Nat),.str z]):=AG
   generalize upd H' T (.tup [.int (i:Nat),.str z])=H2 at s2 hT ⊢
   refine⟨T,_,rfl,.inl (.inl hT),rfl,_,_,rfl,_,_,rfl,rfl,?_⟩
   have hzs:z.cps.size < 1000:=by
    have:i=0\/i=1\/i=2:=by omega
    rcases this with rfl | rfl | rfl <;> (cases hs;decide)
   refine⟨_,rfl,_,rfl,z,rfl,hzs,fun H3 q s3 nq hq=>?_⟩
   refine⟨_,_,Ay (s3.seq (s2.seq (s1.seq hS))),Ay (SqL.of hq),Au _,Au _,?_⟩
   rw[Bx]
   refine⟨_,rfl,?_⟩
   have s4:=(s1.trans s2).trans s3
   by_cases e:ns=BQ z
   .refine bT (JJk e) ⟨_,rfl,?_⟩
    have ev:Di ns=(i:Int):=by
     unfold Di
     have hi':i=0\/i=1\/i=2:=by omega
     rcases hi' with rfl | rfl | rfl
     .cases hs;rw[JJz e];rfl
     .cases hs;rw[JJx (hno 0 "square" (by decide) rfl),JJz e];rfl
     .cases hs;rw[JJx (hno 0 "square" (by decide) rfl),JJx (hno 1 "tails" (by decide) rfl),JJz e];rfl
    have:=k H3 s4
    rw[ev] at this
    exact this
   .refine bF (JJj e) ⟨_,_,rfl,s4,fun j x hj hx=>?_⟩
    rcases QU.mp hj with q | q
    .exact hno j x q hx
    .rw[q,hs] at hx;cases hx;exact e
  .rintro σ H' ⟨v1,v2,rfl,s1,hno⟩
   have ev:Di ns=-1:=by
    unfold Di
    rw[JJx (hno 0 "square" (by decide) rfl),JJx (hno 1 "tails" (by decide) rfl),JJx (hno 2 "long" (by decide) rfl)]
   have:=k H' s1
   rw[ev] at this
   exact⟨_,rfl,this⟩
end
end Fb
namespace Fb
open PySem PySem.Spec PyProof.Rows L2
def F9 (k:Option Ad):Bool:=match k.map X8 with
 | some (.same _)=>true
 | _=>false
def Jb (k:Option Ad):Nat:=match k.map X8 with
 | some (.same k)=>k
 | _=>0
theorem Vo:∀(ks:List Ad) (i:Nat),Bu i (ks.map zk)=((DB ks.length).filter fun f=>F9 ks[f]?).map fun f=>(BR ((Jb ks[f]?:Nat):Int),V.int ((i+f:Nat):Int))
 | [],i=>rfl
 | k::ks,i=>by
  rw[Aq,Hv,Bn,MR,Fu]
  have e:((DB ks.length).map MW).filter (fun f=>F9 (k::ks)[f]?)=((DB ks.length).filter fun f=>F9 ks[f]?).map MW:=by
   rw[YH]
   rfl
  have e2:(((DB ks.length).filter fun f=>F9 ks[f]?).map MW).map (fun f=>(((BR ((Jb (k::ks)[f]?:Nat):Int):Key),V.int ((i+f:Nat):Int))))=Bu (i+1) (ks.map zk):=by
   rw[Vo ks (i+1),HJ]
   apply ER
   intro f _
   show(BR ((Jb ks[f]?:Nat):Int),V.int ((i+(f+1):Nat):Int))=(BR ((Jb ks[f]?:Nat):Int),V.int ((i+1+f:Nat):Int))
   rw[show i+(f+1)=i+1+f by omega]
  rw[e]
  cases hr:k.role with
  | same j =>
   have h1:(zk k).lab=.same (j:Int):=by show zl k.role=_;rw[hr];rfl
   have h2:F9 (k::ks)[0]?=true:=by show(match some k.role with | some (.same _)=>true | _=>false)=true;rw[hr]
   have h3:Jb (k::ks)[0]?=j:=by show(match some k.role with | some (.same k)=>k | _=>0)=j;rw[hr]
   rw[h1,h2,JJz rfl,Aq,e2,h3]
   rfl
  | sign n =>
   have h1:(zk k).lab=.sign (zs n):=by show zl k.role=_;rw[hr];rfl
   have h2:F9 (k::ks)[0]?=false:=by show(match some k.role with | some (.same _)=>true | _=>false)=false;rw[hr]
   rw[h1,h2,JJx A8,e2]
  | answer =>
   have h1:(zk k).lab=.ans:=by show zl k.role=_;rw[hr];rfl
   have h2:F9 (k::ks)[0]?=false:=by show(match some k.role with | some (.same _)=>true | _=>false)=false;rw[hr]
   rw[h1,h2,JJx A8,e2]
theorem fI (L:AN):Bu 0 (L.kinds.map zk)=L.sameKinds.map fun f=>(BR ((L.points f:Nat):Int),V.int ((f:Nat):Int)):=by
 rw[Vo]
 show _=(((DB L.kinds.length).filter fun f=>F9 L.kinds[f]?)).map _
 apply ER
 intro f _
 rw[ES]
 rfl
theorem UY {L:AN} (w:Wf L.kinds):L.sameKinds.Pairwise fun f g=>L.points f < L.points g:=by
 have h0:(DB L.kinds.length).Pairwise (· < ·):=QO
 have h1:L.sameKinds.Pairwise (· < ·):=P5 _ h0
 refine List.Pairwise.imp_of_mem ?_ h1
 intro f g hf hg hlt
 obtain⟨k,j,e1,e2⟩:=Fm.same_at hf
 obtain⟨k',j',e3,e4⟩:=Fm.same_at hg
 have p1:L.points f=j:=by unfold P0;rw[e1];show(match some k.role with | some (.same k)=>k | _=>0)=j;rw[e2]
 have p2:L.points g=j':=by unfold P0;rw[e3];show(match some k'.role with | some (.same k)=>k | _=>0)=j';rw[e4]
 rw[p1,p2]
 obtain⟨l1,e1'⟩:=CJ.mp e1
 obtain⟨l2,e3'⟩:=CJ.mp e3
 have:=QN.mp w.sames f g l1 l2 hlt j j'
 rw[e1',e3'] at this
 exact this e2 e4
theorem Uj {F:Nat->Nat}:∀{l:List Nat}{a b:Nat},l.Pairwise (fun f g=>F f < F g)->(∀f∈l,a < F f/\F f<=b)->l.length<=b - a
 | [],_,_,_,_=>Ax _
 | f::l,a,b,h,hb=>by
  obtain⟨h1,h2⟩:=Dc.mp h
  have hf:=hb f AV
  have:=Uj (l:=l) (a:=F f) (b:=b) h2 fun g hg=>⟨h1 g hg,(hb g (Av _ hg)).2⟩
  rw[Bn]
  omega
theorem Tx {L:AN} (w:Wf L.kinds) (r:List Nat) (i:Nat) (fs:List Nat) (hs:fs.Sublist L.sameKinds):(fs.filter fun (f:Nat)=>decide (L.points f<=i)&&r.getD (L.points f - 1) 0==r.getD i 0).length<=i:=by
 have:=Uj (F:=L.points) (l:=fs.filter fun (f:Nat)=>decide (L.points f<=i)&&r.getD (L.points f - 1) 0==r.getD i 0) (a:=0) (b:=i) (P5 _ ((UY w).sublist hs)) fun f hf=>by
  obtain⟨h1,h2⟩:=Cv.mp hf
  rw[BL,decide_eq_true_eq] at h2
  exact⟨UW w f (hs.subset h1),h2.1⟩
 omega
theorem Xs {L:AN}:∀{fs:List Nat},fs.Pairwise (fun f g=>L.points f < L.points g)->∀{f:Nat},f∈fs->BO (fs.map fun f=>((BR ((L.points f:Nat):Int):Key),V.int ((f:Nat):Int))) (BR ((L.points f:Nat):Int))=some (.int (f:Nat))
 | g::fs,h,f,hf=>by
  obtain⟨h1,h2⟩:=Dc.mp h
  rw[Aq]
  rcases AQ.mp hf with e | e
  .subst e
   exact DG rfl
  .rw[DF]
   .exact Xs h2 e
   .intro q
    have q:((L.points g:Nat):Int)=((L.points f:Nat):Int):=KS q
    have:=h1 f e
    omega
theorem bD {p:Nat->Bool}{l:List Nat}{i x:Nat} (h:l[i]?=some x):(l.take (i+1)).filter p=(l.take i).filter p++if p x=true then [x] else []:=by
 rw[EL h,P9,Fu,YI]
theorem Sz {r:List Nat}{i:Nat} (h:i < r.length):((zn r).map V.int)[i]?=some (.int ((r.getD i 0:Nat):Int)):=by
 unfold zn
 rw[HJ,Ao,Ba h,GU,Ba h]
 rfl
theorem fz {K:AD}{H:Hp}{a d:Addr}{xs:List V}{kvs:List (Key×V)}{o:HO} (hd:H d=some (.dK kvs)) (h:SqL K H a xs):SqL K (upd H d o) a xs:=by
 rcases h with (h | ⟨u,h⟩) | h
 .exact .inl (.inl (by rw[AF (BX h hd (by intro q;cases q))];exact h))
 .exact .inl (.inr ⟨u,by rw[AF (BX h hd (by intro q;cases q))];exact h⟩)
 .exact .inr h
abbrev Oq:Stmt:=WR
def XA (K:AD) (CL CK:Addr):Sp:=fun vs H Q _=>∃(a b:Addr) (i:Nat) (p:LA) (L:AN) (fl:List Int) (r:List Nat),vs=[.ref a,.ref b,.int (i:Nat)]/\LockAt CL CK H a p (zs L.name) (L.kinds.map zk) fl/\Wf L.kinds/\SqL K H b ((zn r).map V.int)/\i < r.length/\r.length < 1000/\
 EY H Q (zn (r.getD i 0::Fm.mayAt L r i))
theorem scKTM:Ag ["locker","signs","place","sign","k"] ["locker","signs","place"] (AL Oq):=⟨rfl,rfl,rfl,by decide +kernel,rfl,by decide +kernel,by decide +kernel⟩
section
variable {P:Program}{w:World}{K:AD}{mg:Str->Option Value}{base:Heap}{CL CK:Addr}
theorem ok_ktm {f:Addr}{fd:FuncData} (F:Fun K "kinds_that_mean" "kinds_that_mean" Oq f fd) (TL:LockC K CL):FnOk P w K mg base CX0 1 f fd ["locker","signs","place"] (XA K CL CK):=by
 refine F.ok scKTM (fun vs H Q E h=>?_) (fun cdv A outer s H vs Q E hr h=>?_)
 .obtain⟨a,b,i,p,L,fl,r,rfl,_⟩:=h
  rfl
 .obtain⟨a,b,i,p,L,fl,r,rfl,hL,hW,hS,hi,hlen,k⟩:=h
  have hu:=Ew hr
  refine⟨_,AJ (BN (i:=3) scKTM.nd rfl (ET rfl) (CH CF (pv 1) (pv 2) (fun _ _=>rfl)))
   (AK (AM (C0 Eh (BD (AB (pv 3) AE)) (UN (Ej (own:=[("k",4)]) rfl scKTM.nd (US (AW (pv 0) rfl)) (D8 (N:=["locker","signs","place","sign","k"]) (sc:=AL Oq) (by decide +kernel))
    (fun s H C cl fp=>CT (i:=4) scKTM.nd rfl (Ai rfl)) (fun s H C cl fp=>UX (PW.pt (Dv (Aj DR (pv 4) (pv 2) (AY _)) (Em (Aj Bt (du K rfl (pv 1) (C0 OR (pv 4) AU) (fun _ _=>rfl)) (pv 3) (AY _))))))
    (fun s H C cl fp=>LO hu (G2 K rfl (pv 0) rfl) (pv 4) (fun _ _=>rfl))))))),?_⟩
  obtain⟨dx,ho⟩:=hL.ob
  have hsm:=hL.sm
  rw[fI] at hsm
  generalize hfs:L.sameKinds=fs at hsm
  have hri:fs.Pairwise (fun f g=>L.points f < L.points g):=hfs▸UY hW
  generalize hkv:(fs.map fun f=>((BR ((L.points f:Nat):Int):Key),V.int ((f:Nat):Int)))=kvs at hsm
  refine⟨_,rfl,_,rfl,b,_,(i:Nat),_,rfl,rfl,hS,CP (Sz hi),?_⟩
  refine⟨_,rfl,(show 1<=sizeLine from BP (by decide)),fun l1 n1=>?_⟩
  have s1:Same H (upd H l1 (.lst [.int ((r.getD i 0:Nat):Int)])):=(Same.refl H).new n1
  have hl1:upd H l1 (.lst [.int ((r.getD i 0:Nat):Int)]) l1=some (.lst [.int ((r.getD i 0:Nat):Int)]):=AG
  generalize upd H l1 (.lst [.int ((r.getD i 0:Nat):Int)])=H1 at s1 hl1
  have hsm1:=s1 _ _ hsm
  refine⟨p.sm,_,hsm1,trivial,fun od=>?_⟩
  have hfz:upd H1 p.sm (.frz od (.dK kvs)) p.sm=some (.frz od (.dK kvs)):=AG
  have s0:∀x o,H1 x=some o->x≠p.sm->upd H1 p.sm (.frz od (.dK kvs)) x=some o:=fun x o e n=>by rw[AF n];exact e
  have nap:a≠p.sm:=BX ho hsm (by intro q;cases q)
  have nb:∀xs,∀x,H1 x=some (.lst xs)->x≠p.sm:=fun xs x e=>BX e hsm1 (by intro q;cases q)
  have hS0:SqL K (upd H1 p.sm (.frz od (.dK kvs))) b ((zn r).map V.int):=fz hsm1 (s1.seq hS)
  generalize hH0:upd H1 p.sm (.frz od (.dK kvs))=H0 at hfz s0 hS0
  refine⟨_,rfl,a,CL,dx,_,_,rfl,s0 _ _ (s1 _ _ ho) nap,TL.cl,TL.sames,K9,p.sm,od,rfl,.inl ⟨_,hfz,fun D hD=>?_⟩⟩
  refine JN (n:=kvs.length) (fun j H'=>Same H0 H'/\H' D=some (.lst ((zn ((fs.take j).filter fun (f:Nat)=>decide (L.points f<=i)&&r.getD (L.points f - 1) 0==r.getD i 0)).map V.int))) ⟨(Same.refl _).new hD,AG⟩
   (fun j H' hj q=>⟨q.1 _ _ hfz,hj⟩) (fun H' q=>⟨q.1 _ _ hfz,Aa _⟩) ?_ ?_
  .rintro j y H2 H3 hj ⟨s2,hD2⟩ ⟨rfl,kk,vv,hkk,rfl⟩
   have hjl:j < fs.length:=by rw[<- hkv,AH] at hj;exact hj
   have hfj:fs[j]?=some fs[j]:=Ba hjl
   generalize fs[j]=f at hfj
   rw[<- hkv,Ao,hfj] at hkk
   have hkk:=Af hkk
   injection hkk with e1 e2
   subst e1
   have hfm:f∈fs:=Cw hfj
   have hge:1<=L.points f:=UW hW f (by rw[hfs];exact hfm)
   have efil:=bD (p:=fun (f:Nat)=>decide (L.points f<=i)&&r.getD (L.points f - 1) 0==r.getD i 0) hfj
   have hlen2:=Tx hW r i (fs.take j) (by rw[hfs];exact QQ _ _)
   refine⟨rfl,_,rfl,_,rfl,_,_,rfl,rfl,_,rfl,?_⟩
   by_cases h1:L.points f<=i
   .refine bT (JJk (Int.ofNat_le.mpr h1)) ?_
    refine⟨_,rfl,_,rfl,_,_,rfl,rfl,b,_,_,_,rfl,rfl,s2.seq hS0,Zv (j:=L.points f - 1) (by omega) (Sz (by omega)),_,rfl,rfl,_,rfl,?_⟩
    by_cases h2:r.getD (L.points f - 1) 0=r.getD i 0
    .refine bT (JJk (by rw[h2])) ?_
     rw[JJz (by rw[JJk h1,h2,beq_self_eq_true];rfl)] at efil
     refine⟨_,rfl,a,CL,dx,_,_,rfl,s2 _ _ (s0 _ _ (s1 _ _ ho) nap),TL.cl,TL.sames,K9,_,rfl,p.sm,_,rfl,(by
      have:=Xs hri hfm
      rw[hkv] at this
      rw[<- this]
      exact .inl ⟨kvs,_,.inr ⟨od,s2 _ _ hfz⟩,rfl,rfl⟩),_,hD2,?_,s2.wr hD,?_⟩
     .rw[AH,EN]
      exact CG (by omega)
     .rw[AG,efil]
      unfold zn
      rw[Bo,Bo]
      rfl
    .refine bF (JJj fun q=>h2 (MH (Jn q))) ?_
     rw[JJx (by rw[BL,beq_iff_eq];exact fun q=>h2 q.2),DI] at efil
     exact⟨s2,by rw[efil];exact hD2⟩
   .refine bF (JJj fun q=>h1 (Int.ofNat_le.mp q)) ?_
    refine bF rfl ?_
    rw[JJx (by rw[BL,decide_eq_true_eq];exact fun q=>h1 q.1),DI] at efil
    exact⟨s2,by rw[efil];exact hD2⟩
  .rintro H2 ⟨s2,hD2⟩
   have ekl:kvs.length=fs.length:=by rw[<- hkv,AH]
   rw[ekl,MS] at hD2
   have emay:(fs.filter fun (f:Nat)=>decide (L.points f<=i)&&r.getD (L.points f - 1) 0==r.getD i 0)=Fm.mayAt L r i:=by unfold Fm.mayAt;rw[hfs]
   have hml:=Tx hW r i fs (by rw[hfs];exact List.Sublist.refl _)
   rw[emay] at hD2 hml
   have nD:D≠p.sm:=Ar (Ac hfz hD)
   have key:Same H1 (upd H2 p.sm (.dK kvs)):=fun x o e=>by
    by_cases n:x=p.sm
    .subst n
     rw[AG,<- hsm1]
     exact e
    .rw[AF n]
     exact s2 _ _ (s0 _ _ e n)
   refine⟨s2 _ _ hfz,l1,D,_,_,rfl,rfl,key _ _ hl1,by rw[AF nD];exact hD2,?_,fun l3 n3=>?_⟩
   .rw[AH,EN]
    exact BP (by show 1+_ < _;omega)
   .refine k _ l3 ((s1.trans key).new n3) ((s1.trans key).free n3) ?_
    rw[AG]
    rfl
end
end Fb
namespace Fb
open PySem PySem.Spec PyProof.Rows L2
abbrev VC:Stmt:=V9
def de:Option Nat->V
 | none=>.non
 | some f=>.int (f:Nat)
theorem Ry {L:AN}{f:Nat}{k:Ad} (h:L.kinds[f]?=some k):L.copies f=k.copies:=by
 unfold AN.copies
 rw[h]
 rfl
def RP (kw:List (Key×V)) (n:Nat->Nat):Prop:=∀f:Nat,(BO kw (BR (f:Int))).getD (.int 0)=.int (n f:Nat)
def W5 (K:AD) (CL CK:Addr):Sp:=fun vs H Q _=>∃(a d b:Addr) (p:LA) (L:AN) (fl:List Int) (kw:List (Key×V)) (n:Nat->Nat) (fs:List Nat),vs=[.ref a,.ref d,.ref b]/\LockAt CL CK H a p (zs L.name) (L.kinds.map zk) fl/\H d=some (.dK kw)/\RP kw n/\SqL K H b ((zn fs).map V.int)/\(∀f∈fs,f < L.kinds.length)/\
 Pur H Q (de (fs.find? fun f=>decide (n f < L.copies f)))
theorem scFirstL:Ag ["locker","flown","kinds","number"] ["locker","flown","kinds"] (AL VC):=⟨rfl,rfl,rfl,by decide +kernel,rfl,by decide +kernel,by decide +kernel⟩
theorem Sg {p:Nat->Bool}:∀{l:List Nat}{i x:Nat},l[i]?=some x->p x=true->(∀j < i,∀y,l[j]?=some y->p y=false)->l.find? p=some x
 | y::l,0,x,h,hp,_=>by
  cases h
  rw[DJ,hp]
 | y::l,i+1,x,h,hp,hn=>by
  rw[DJ,hn 0 (by omega) y rfl]
  exact Sg (l:=l) (i:=i) h hp fun j hj z hz=>hn (j+1) (by omega) z hz
section
variable {P:Program}{w:World}{K:AD}{mg:Str->Option Value}{base:Heap}{CL CK:Addr}
theorem ok_firstL {f:Addr}{fd:FuncData} (F:Fun K "first_left" "first_left" VC f fd) (TL:LockC K CL) (TK:KindC K CK):FnOk P w K mg base CX0 1 f fd ["locker","flown","kinds"] (W5 K CL CK):=by
 refine F.ok scFirstL (fun vs H Q E h=>?_) (fun cdv A outer s H vs Q E hr h=>?_)
 .obtain⟨a,d,b,p,L,fl,kw,n,fs,rfl,_⟩:=h
  rfl
 .obtain⟨a,d,b,p,L,fl,kw,n,fs,rfl,hL,hd,hn,hS,hin,k⟩:=h
  have hu:=Ew hr
  refine⟨_,AJ (E6 FJ rfl (DS (pv 2)) (CT (i:=3) scFirstL.nd rfl (Ai rfl))
    (AK (As (Aj LM (UK hu (pv 1) (pv 3) AU ⟨rfl,rfl,rfl,rfl⟩) (AW (CH CF (AW (pv 0) rfl) (pv 3) (fun _ _=>rfl)) rfl) (AY _)) (AK (AM (pv 3))) Aw)))
   (AK (AM Du)),?_⟩
  obtain⟨dx,ho⟩:=hL.ob
  obtain⟨as,hak,hpk⟩:=hL.ks
  refine⟨_,rfl,b,rfl,⟨_,hS⟩,Ha (K:=K) (a:=b) (xs:=(zn fs).map V.int)
   (fun i σ H'=>∃v:Option V,σ=[some (.ref a),some (.ref d),some (.ref b),v]/\H'=H/\∀j < i,∀y,fs[j]?=some y->decide (n y < L.copies y)=false) ⟨none,rfl,rfl,fun j hj=>absurd hj (QZ _)⟩ (fun i σ H' _ ⟨_,_,e,_⟩=>by rw[e];exact hS) ?_ ?_⟩
  .rintro i y σ H' hi ⟨v,rfl,rfl,hno⟩
   obtain⟨z,hz,rfl⟩:=FV hi
   unfold zn at hz
   rw[Ao] at hz
   cases hfi:fs[i]? with
   | none=>rw[hfi] at hz;cases hz
   | some g =>
   rw[hfi] at hz
   have ez:((g:Nat):Int)=z:=Af hz
   subst ez
   have hg:=hin g (Cw hfi)
   have hkg:L.kinds[g]?=some L.kinds[g]:=Ba hg
   generalize L.kinds[g]=kd at hkg
   obtain⟨ka,hka,dz,lv,hko,_⟩:=Cf hpk (i:=g) (b:=zk kd) (by rw[Ao,hkg];rfl)
   refine⟨_,rfl,d,rfl,.inl ⟨kw,.inl hd⟩,_,rfl,_,DGet.k (k:=BR (g:Int)) hd,?_⟩
   refine⟨_,rfl,a,CL,dx,_,_,rfl,ho,TL.cl,TL.kinds,GF,_,rfl,p.ak,_,_,_,rfl,rfl,SqL.of hak,CP (j:=g) (v:=V.ref ka) (by rw[Ao,hka];rfl),ka,CK,dz,_,_,rfl,hko,TK.cl,TK.copies,cG,?_⟩
   refine⟨_,_,hn g,rfl,_,rfl,?_⟩
   by_cases hlt:n g < L.copies g
   .refine bT (JJk (by show((n g:Nat):Int) < (kd.copies:Nat);rw[<- Ry hkg];exact Int.ofNat_lt.mpr hlt)) ?_
    refine⟨_,rfl,?_⟩
    have:=k _ (Same.refl _)
    rw[Sg hfi (JJk hlt) hno] at this
    exact this
   .refine bF (JJj (by show ¬((n g:Nat):Int) < (kd.copies:Nat);rw[<- Ry hkg];exact fun q=>hlt (Int.ofNat_lt.mp q))) ?_
    refine⟨_,rfl,rfl,fun j hj y hy=>?_⟩
    rcases QU.mp hj with q | q
    .exact hno j q y hy
    .subst q
     rw[hfi] at hy
     cases hy
     exact JJj hlt
  .rintro σ H' ⟨v,rfl,rfl,hno⟩
   have:=k _ (Same.refl _)
   have e:fs.find? (fun f=>decide (n f < L.copies f))=none:=by
    rw[MK]
    intro x hx
    obtain⟨j,hj,e⟩:=List.getElem_of_mem hx
    have:=hno j (by rw[AH,EN];exact hj) x (by rw[Ba hj,e])
    rw[this]
    exact A8
   rw[e] at this
   exact this
end
abbrev VD:Stmt:=WA
def JK (L:AN) (r:List Nat):List Nat:=(Fm.greedy L.copies (L.spots [r])).getD []
def W6 (K:AD) (CL CK:Addr):Sp:=fun vs H Q _=>∃(a b:Addr) (p:LA) (L:AN) (fl:List Int) (r:List Nat),vs=[.ref a,.ref b]/\LockAt CL CK H a p (zs L.name) (L.kinds.map zk) fl/\Wf L.kinds/\SqL K H b ((zn r).map V.int)/\r.length < 1000/\(∀s∈r,L.isSignAt s=true)/\
 EY H Q (zn (JK L r))
theorem scHoist:Ag ["locker","signs","hoist","flown","place","number"] ["locker","signs"] (AL VD):=⟨rfl,rfl,rfl,by decide +kernel,rfl,by decide +kernel,by decide +kernel⟩
theorem bQ {L:AN}{r:List Nat}{i:Nat} (hi:i < r.length) (h:List Nat):Fm.greedy (Fm.less L.copies h) ((L.spots [r]).drop i)=match (r.getD i 0::Fm.mayAt L r i).find? (fun f=>decide (h.count f < L.copies f)) with
  | none=>none
  | some f=>(Fm.greedy (Fm.less L.copies (h++[f])) ((L.spots [r]).drop (i+1))).map (f::·):=by
 have hl:i < (L.spots [r]).length:=by rw[Fm.spots_one,AH,QJ];exact hi
 have e:(L.spots [r]).drop i=⟨r.getD i 0,Fm.mayAt L r i⟩::(L.spots [r]).drop (i+1):=by
  rw[Jy hl]
  congr 1
  simp only[Fm.spots_one,J2,List.getElem_range]
 rw[e,Fm.greedy]
 have ep:(fun f=>decide (0 < Fm.less L.copies h f))=fun f=>decide (h.count f < L.copies f):=funext fun f=>by
  unfold Fm.less
  rw[Dy,decide_eq_true_iff,decide_eq_true_iff]
  omega
 simp only[ep]
 cases (r.getD i 0::Fm.mayAt L r i).find? (fun f=>decide (h.count f < L.copies f)) with
 | none=>rfl
 | some f=>simp only[Fm.less_snoc]
theorem cI {L:AN}{r:List Nat} (hr:∀s∈r,L.isSignAt s=true) {i:Nat} (hi:i < r.length):∀f∈r.getD i 0::Fm.mayAt L r i,f < L.kinds.length:=fun f hf=>by
 rcases AQ.mp hf with e | e
 .have hm:r.getD i 0∈r:=by
   rw[GU,Ba hi]
   exact HG hi
  obtain⟨k,h1,_⟩:=Fm.role_at (e▸hr _ hm)
  exact(CJ.mp h1).1
 .obtain⟨k,j,h1,_⟩:=Fm.same_at (Cv.mp e).1
  exact(CJ.mp h1).1
section
variable {P:Program}{w:World}{K:AD}{mg:Str->Option Value}{base:Heap}{CL CK:Addr}
theorem ok_hoist {f:Addr}{fd:FuncData} (F:Fun K "hoist_told" "hoist_told" VD f fd) (B:Blt mg) (g1:Has P w K mg "kinds_that_mean" 1 ["locker","signs","place"] (XA K CL CK)) (g2:Has P w K mg "first_left" 1 ["locker","flown","kinds"] (W5 K CL CK)):FnOk P w K mg base CX0 2 f fd ["locker","signs"] (W6 K CL CK):=by
 refine F.ok scHoist (fun vs H Q E h=>?_) (fun cdv A outer s H vs Q E hr h=>?_)
 .obtain⟨a,b,p,L,fl,r,rfl,_⟩:=h
  rfl
 .obtain⟨a,b,p,L,fl,r,rfl,hL,hW,hS,hlen,hin,k⟩:=h
  have hu:=Ew hr
  refine⟨_,AJ (BN (i:=2) scHoist.nd rfl (Ai rfl) (BD AE)) (AJ (BN (i:=3) scHoist.nd rfl (Ai rfl) UL)
   (AJ (E6 FJ rfl (eD (by rfl) B.range (AB (BV CQ (by rfl) B.len CM (AB (pv 1) AE)) AE)) (CT (i:=4) scHoist.nd rfl (Ai rfl))
    (AJ (BN (i:=5) scHoist.nd rfl (Ai rfl) (AO g2 hr (by rfl) (AB (pv 0) (AB (pv 3) (AB (AO g1 hr (by rfl) (AB (pv 0) (AB (pv 1) (AB (pv 4) AE)))) AE)))))
    (AJ (As (Aj UE (pv 5) Du (AY _)) (AK (AM (BD AE))) Aw)
    (AJ (Ja hu (pv 3) (pv 5) (C0 OQ (UK hu (pv 3) (pv 5) AU ⟨rfl,rfl,rfl,rfl⟩) AU) rfl)
    (AK (El (EE EU GX GY GH (pv 2) (AB (pv 5) AE))))))))
   (AK (AM (pv 2))))),?_⟩
  refine⟨Ax _,fun l nl=>?_⟩
  intro df ndf
  have s1:Same H (upd (upd H l (.lst [])) df (.dK [])):=((Same.refl H).new nl).new ndf
  have ndf0:H df=none:=((Same.refl H).new nl).free ndf
  have dlf:l≠df:=Ac AG ndf
  refine⟨_,rfl,b,_,rfl,.inl (s1.seq hS),(((zn r).map V.int).length:Nat),rfl,by omega,by rw[AH,EN];omega,?_⟩
  refine Kx (n:=r.length) (fun i σ H'=>∃(v4 v5:Option V) (kw:List (Key×V)) (h:List Nat),σ=[some (.ref a),some (.ref b),some (.ref l),some (.ref df),v4,v5]/\Same H H'/\H' l=some (.lst ((zn h).map V.int))/\H' df=some (.dK kw)/\RP kw (fun f=>h.count f)/\kw.length<=i/\h.length=i/\
    Fm.greedy L.copies (L.spots [r])=(Fm.greedy (Fm.less L.copies h) ((L.spots [r]).drop i)).map (h++·))
   ⟨none,none,[],[],rfl,s1,by rw[AF dlf];exact AG,AG,fun f=>rfl,Ax _,rfl,by
    rw[Fm.less_nil,List.drop_zero]
    cases Fm.greedy L.copies (L.spots [r]) <;> rfl⟩ ?_ ?_ ?_ ?_
  .rintro i σ H' hi _
   show i < _
   rw[AH,EN]
   omega
  .rintro σ H' _
   show _<=r.length
   rw[AH,EN]
   omega
  .rintro i y σ H' H2 hi ⟨v4,v5,kw,h,rfl,s2,hl,hdf,hct,hkw,hhl,hg⟩ ⟨rfl,rfl⟩
   rw[Int.zero_add]
   refine⟨_,rfl,_,rfl,_,rfl,_,rfl,_,rfl,a,b,i,p,L,fl,r,rfl,hL.mono s2,hW,s2.seq hS,hi,hlen,fun H3 kl s3 nkl hkl=>?_⟩
   refine⟨a,df,kl,p,L,fl,kw,_,_,rfl,(hL.mono s2).mono s3,s3 _ _ hdf,hct,SqL.of hkl,cI hin hi,fun H4 s4=>?_⟩
   have s34:=s3.trans s4
   have s24:=s2.trans s34
   rw[bQ hi] at hg
   cases hfd:(r.getD i 0::Fm.mayAt L r i).find? (fun f=>decide (h.count f < L.copies f)) with
   | none =>
    rw[hfd] at hg
    refine⟨_,rfl,rfl,_,rfl,bT rfl ⟨Ax _,fun l2 nl2=>?_⟩⟩
    refine k _ l2 (s24.new nl2) (s24.free nl2) ?_
    unfold JK
    rw[hg]
    exact AG
   | some g =>
    rw[hfd] at hg
    have hdf4:=s34 _ _ hdf
    have hl4:=s34 _ _ hl
    refine⟨_,rfl,rfl,_,rfl,bF (JJj fun q=>nomatch q) ?_⟩
    refine⟨_,rfl,df,rfl,.inl ⟨kw,.inl hdf4⟩,_,rfl,_,DGet.k (k:=BR (g:Int)) hdf4,_,_,hct g,rfl,_,rfl,_,rfl,df,_,rfl,DPut.k (k:=BR (g:Int)) hdf4 (CG (by omega)),?_⟩
    refine⟨_,rfl,.inl ⟨rfl,_,SqL.of (by rw[AF dlf];exact hl4)⟩,_,rfl,l,_,_,rfl,rfl,by rw[AF dlf];exact hl4,by rw[AH,EN];exact CG (by omega),?_⟩
    refine⟨_,_,_,h++[g],rfl,(s24.wr ndf0).wr nl,?_,by rw[AF (Ar dlf)];exact AG,fun x=>?_,CW (N5 _ _ _) (by omega),by rw[BC,hhl];rfl,?_⟩
    .rw[AG]
     unfold zn
     rw[Bo,Bo]
     rfl
    .have ec:(h++[g]).count x=h.count x+[g].count x:=YD
     show _=V.int (((h++[g]).count x:Nat):Int)
     rw[iT,ec]
     by_cases e:x=g
     .subst e
      rw[JJz rfl,List.count_singleton_self]
      rfl
     .rw[JJx (show ¬(BR (x:Int):Key)=BR (g:Int) from fun q=>e (MH (KS q))),P7 (fun q=>e q.symm)]
      exact hct x
    .rw[hg,Option.map_map]
     congr 1
     funext t
     simp
  .rintro σ H' ⟨v4,v5,kw,h,rfl,s2,hl,hdf,hct,hkw,hhl,hg⟩
   have ed:(L.spots [r]).drop r.length=[]:=IS (by rw[Fm.spots_one,AH,QJ];exact Aa _)
   rw[ed] at hg
   refine⟨_,rfl,k H' l s2 nl ?_⟩
   unfold JK
   rw[hg]
   show H' l=some (.lst ((zn (h++[])).map V.int))
   rw[DI]
   exact hl
end
abbrev Va:Stmt:=V1
def PH (K:AD) (CL CK:Addr):Sp:=fun vs H Q _=>∃(a b:Addr) (p:LA) (L:AN) (fl:List Int) (r:List Nat),vs=[.ref a,.ref b]/\LockAt CL CK H a p (zs L.name) (L.kinds.map zk) fl/\Wf L.kinds/\SqL K H b ((zn r).map V.int)/\r.length < 1000/\(∀s∈r,L.isSignAt s=true)/\r≠[]/\
 Pur H Q (.bl (L.canShow r))
theorem fq:Ag ["locker","signs"] ["locker","signs"] (AL Va):=⟨rfl,rfl,rfl,by decide +kernel,rfl,by decide +kernel,by decide +kernel⟩
theorem bV {L:AN}{r:List Nat} (hW:Wf L.kinds) (hr:∀s∈r,L.isSignAt s=true) (hne:r≠[]):(!decide (zn (JK L r)=[]))=L.canShow r:=by
 rw[Fm.canShow_greedy hW hr]
 unfold JK
 cases hd:Fm.greedy L.copies (L.spots [r]) with
 | none=>rfl
 | some h =>
  have hl:=Fm.greedy_len hd
  rw[Fm.spots_one,AH,QJ] at hl
  have:¬zn h=[]:=fun q=>by
   have:=congrArg FE q
   rw[EN,hl] at this
   exact hne (HH.mp this)
  show(!decide (zn h=[]))=true
  rw[JJj this]
  rfl
section
variable {P:Program}{w:World}{K:AD}{mg:Str->Option Value}{base:Heap}{CL CK:Addr}
theorem ok_show {f:Addr}{fd:FuncData} (F:Fun K "can_show" "can_show" Va f fd) (g1:Has P w K mg "hoist_told" 2 ["locker","signs"] (W6 K CL CK)):FnOk P w K mg base CX0 3 f fd ["locker","signs"] (PH K CL CK):=by
 refine F.ok fq (fun vs H Q E h=>?_) (fun cdv A outer s H vs Q E hr h=>?_)
 .obtain⟨a,b,p,L,fl,r,rfl,_⟩:=h
  rfl
 .obtain⟨a,b,p,L,fl,r,rfl,hL,hW,hS,hlen,hin,hne,k⟩:=h
  refine⟨_,AK (AM (Dg (Ey hr.units) (AO g1 hr (by rfl) (AB (pv 0) (AB (pv 1) AE))) (BD AE) (AY _))),?_⟩
  refine⟨_,rfl,_,rfl,a,b,p,L,fl,r,rfl,hL,hW,hS,hlen,hin,fun H1 l1 s1 n1 h1=>⟨Ax _,fun l2 n2=>?_⟩⟩
  have s2:Same H1 (upd H1 l2 (.lst [])):=(Same.refl _).new n2
  have h2:upd H1 l2 (.lst []) l2=some (.lst (([]:List Int).map V.int)):=AG
  refine⟨_,_,Ay (SqL.of (s2 _ _ h1)),Ay (SqL.of h2),Au _,Au _,?_⟩
  rw[Bx,bV hW hin hne]
  exact k _ (s1.trans s2)
end
end Fb
namespace Fb
open PySem PySem.Spec PyProof.Rows L2
theorem dW {X:Cx} (K:AD) (hK:X.K=K):OpR X (compareOp .In) (rIn K false):=by
 subst hK
 exact LL
theorem Nt:∀ns:List Int,(ns.map V.int).all Cy=true
 | []=>rfl
 | n::r=>by rw[Aq,IL,Nt r];rfl
theorem Np (a b:Int):eqV (.int a) (.int b)=decide (a=b):=by
 first | rfl | (unfold eqV;rw[Dy];simp) | (simp[eqV])
theorem S9 (b:Int):∀ns:List Int,inV (.int b) (ns.map V.int)=decide (b∈ns)
 | []=>rfl
 | n::r=>by
  have ih:=S9 b r
  unfold inV at ih ⊢
  rw[Aq,DH,ih,Np]
  rw[Dy,Jt,decide_eq_true_iff,decide_eq_true_iff,decide_eq_true_iff,AQ]
  exact⟨fun h=>h.elim (fun q=>.inl q.symm) .inr,fun h=>h.elim (fun q=>.inl q.symm) .inr⟩
abbrev VT:Stmt:=WZ
def JL:List Int->Int
 | []=>0
 | d::r=>JL r * 16+d
theorem ae {α:Type}{l:List α}{i:Nat}{x:α} (h:l[i]?=some x):l.drop i=x::l.drop (i+1):=by
 obtain⟨hi,e⟩:=CJ.mp h
 rw[Jy hi,e]
theorem S8:∀ns:List Int,JL (ns.map fun b=>((digs.idxOf b:Nat):Int))=GG ns
 | []=>rfl
 | b::r=>by
  rw[Aq,JL,S8 r,GG]
def XN (K:AD):Sp:=fun vs H Q _=>∃(a:Addr) (ns:List Int),vs=[.ref a]/\SqL K H a (ns.map V.int)/\Pur H Q (.int (JL ns))
theorem scNumOf:Ag ["told","number","digit"] ["told"] (AL VT):=⟨rfl,rfl,rfl,by decide +kernel,rfl,by decide +kernel,by decide +kernel⟩
section
variable {P:Program}{w:World}{K:AD}{mg:Str->Option Value}{base:Heap}
theorem ok_numOf {f:Addr}{fd:FuncData} (F:Fun K "number_of" "number_of" VT f fd) (B:Blt mg):FnOk P w K mg base CX0 1 f fd ["told"] (XN K):=by
 refine F.ok scNumOf (fun vs H Q E h=>?_) (fun cdv A outer s H vs Q E hr h=>?_)
 .obtain⟨a,ns,rfl,_⟩:=h
  rfl
 .obtain⟨a,ns,rfl,hS,k⟩:=h
  refine⟨_,AJ (BN (i:=1) scNumOf.nd rfl (Ai rfl) AU)
   (AJ (E6 FJ rfl (eE (by rfl) B.reversed (AB (pv 0) AE)) (CT (i:=2) scNumOf.nd rfl (Ai rfl))
    (AK (BN (i:=1) scNumOf.nd rfl (Ai rfl) (C0 OQ (C0 dX (pv 1) AU) (pv 2)))))
   (AK (AM (pv 1)))),?_⟩
  refine⟨_,rfl,a,_,rfl,hS,?_⟩
  refine Kx (n:=(ns.map V.int).length) (fun i σ H'=>∃v3:Option V,σ=[some (.ref a),some (.int (JL (ns.drop (ns.length - i)))),v3]/\Same H H') ⟨none,by rw[Nat.sub_zero,YE];rfl,Same.refl H⟩ ?_ ?_ ?_ ?_
  .rintro i σ H' hi ⟨_,_,s3⟩
   refine⟨hi,_,_,s3.seq hS,Ba (by omega)⟩
  .rintro σ H' _
   exact Aa _
  .rintro i y σ H' H3 hi ⟨v3,rfl,s3⟩ ⟨rfl,hy⟩
   rw[AH] at hi
   obtain⟨n,hn,rfl⟩:=FV (hy _ (s3.seq hS))
   rw[AH] at hn
   refine⟨_,rfl,_,_,rfl,rfl,.inr ⟨by decide,by decide⟩,_,rfl,_,_,rfl,rfl,?_⟩
   refine⟨some (.int n),?_,s3⟩
   have e:ns.drop (ns.length - (i+1))=n::ns.drop (ns.length - i):=by
    have:=ae hn
    rw[show ns.length - 1 - i=ns.length - (i+1) by omega] at this
    rw[this,show ns.length - (i+1)+1=ns.length - i by omega]
   rw[e]
   rfl
  .rintro σ H' ⟨v3,rfl,s3⟩
   refine⟨_,rfl,?_⟩
   rw[AH,Ib,List.drop_zero]
   exact k H' s3
end
abbrev LZ:Stmt:=WT
def XH (K:AD):Sp:=fun vs H Q _=>∃(a:Addr) (ns:List Int),vs=[.ref a]/\SqL K H a (ns.map V.int)/\ns.length < 100000/\Pur H Q (.int (Dt ns))
theorem scLook:Ag ["word","colours","byte"] ["word"] (AL LZ):=⟨rfl,rfl,rfl,by decide +kernel,rfl,by decide +kernel,by decide +kernel⟩
theorem aX:BQ "0123456789abcdef"=digs:=by decide +kernel
theorem dr {X:Cx}{o e:Expr}{apos cpos:Pos}{to:TE}{t:TA} (K:AD) (hK:X.K=K) (ho:PE X o to) (ha:PA X [e] t) (hbase:attributeBase o "index" X.env (eval o X.env)=eval o X.env:=by rfl)
  (hfew:((backTo cpos (starEach [e] X.env)).all (fun x=>!x.1)&&(backToKw cpos (keywordEach [] X.env)).all (fun x=>x.1.isSome)&&decide ([e].length+([]:List Keyword).length+(if ([]:List Keyword).isEmpty then 0 else 1) < 30))=true:=by rfl)
  (hline:(apos.endLine==cpos.line)=true:=by rfl) (hs:starEach [e] X.env=(false,eval e X.env)::starEach [] X.env:=by rfl) (hplain:(backTo cpos (starEach [] X.env)).any (·.1)=false:=by rfl):PE X (.Call (.Attribute o "index" apos) [e] [] cpos) (tBM K "list" (Ub K) to t):=by
 subst hK
 exact EE EU Y1 PySem.F.type_list_index c7 ho ha hbase hfew hline hs hplain
section
variable {P:Program}{w:World}{K:AD}{mg:Str->Option Value}{base:Heap}
theorem ok_look {f:Addr}{fd:FuncData} (F:Fun K "look_told" "look_told" LZ f fd) (B:Blt mg) (c1:Cst mg "COLOURS" (.str "0123456789abcdef")) (c2:Cst mg "DIGITS" (.int 16)) (g1:Has P w K mg "letters" 1 ["word"] Hy) (g2:Has P w K mg "number_of" 1 ["told"] (XN K)):FnOk P w K mg base CX0 2 f fd ["word"] (XH K):=by
 refine F.ok scLook (fun vs H Q E h=>?_) (fun cdv A outer s H vs Q E hr h=>?_)
 .obtain⟨a,ns,rfl,_⟩:=h
  rfl
 .obtain⟨a,ns,rfl,hS,hlen,k⟩:=h
  refine⟨_,AJ (BN (i:=1) scLook.nd rfl (ET rfl) (AO g1 hr (by rfl) (AB (AS c1 rfl) AE)))
   (AJ (As (PW.pt (Hr (Aj LN (BV CQ (by rfl) B.len CM (AB (pv 0) AE)) (AS c2 rfl) (AY _))
     (Jd (EG (DE (BV (Kj rfl) (by rfl) B.all Md (AB (Ej (own:=[("byte",2)]) rfl scLook.nd (DS (pv 0)) (D8 (N:=["word","colours","byte"]) (sc:=AL LZ) (by decide +kernel)) (fun s H C cl fp=>CT (i:=2) scLook.nd rfl (Ai rfl)) (fun s H C cl fp=>E7)
      (fun s H C cl fp=>Dg (dW K rfl) (pv 2) (pv 1) (by rfl))) AE)))))))
    (AK (AM (G3 G4 AU))) Aw)
   (AK (AM (AO g2 hr (by rfl) (AB (Ej (own:=[("byte",2)]) rfl scLook.nd (DS (pv 0)) (D8 (N:=["word","colours","byte"]) (sc:=AL LZ) (by decide +kernel)) (fun s H C cl fp=>CT (i:=2) scLook.nd rfl (Ai rfl)) (fun s H C cl fp=>E7)
      (fun s H C cl fp=>dr K rfl (pv 1) (AB (pv 2) AE))) AE))))),?_⟩
  refine⟨_,rfl,by decide,fun H1 dg s1 nd hd=>?_⟩
  rw[aX] at hd
  have hS1:=s1.seq hS
  refine⟨_,rfl,a,_,rfl,.inl hS1,rfl,_,rfl,?_⟩
  by_cases hl:ns.length=16
  .refine bF (by rw[JJk (show V.int ((ns.map V.int).length:Nat)=V.int 16 by rw[AH,hl];rfl)];rfl) ?_
   refine⟨_,rfl,a,rfl,⟨_,hS1⟩,fun D hD=>?_⟩
   refine GD (n:=(ns.map V.int).length) ((ns.map fun b=>decide (b∈digs)).map V.bl) (by simp) (CG (by rw[AH];omega)) hD (fun i H hi s2=>FW (s2.seq hS1) hi) (fun H s2=>FX (s2.seq hS1)) ?_ ?_
   .rintro i y z H2 H3 hz s2 ⟨rfl,hy⟩ R hR
    obtain⟨n,hn,rfl⟩:=FV (hy _ (s2.seq hS1))
    refine⟨rfl,_,rfl,_,rfl,dg,_,rfl,.inl (SqL.of (s2 _ _ hd)),rfl,Nt _,?_⟩
    have:z=V.bl (decide (n∈digs)):=by
     rw[Ao,Ao,hn] at hz
     exact(Af hz).symm
    subst this
    rw[JJx A8,S9]
    exact hR _ (Same.refl _)
   .intro H2 s2 hd2
    refine⟨D,ns.map fun b=>decide (b∈digs),rfl,SqL.of hd2,_,rfl,?_⟩
    rw[GS]
    have s12:=s1.trans s2
    by_cases ha:(ns.all fun b=>decide (b∈digs))=true
    .refine bF (by show(!(ns.all fun b=>decide (b∈digs)))=false;rw[ha];rfl) ?_
     have hk:Dt ns=GG ns:=JJx (fun q=>q.elim (fun z=>z hl) (fun z=>z ha))
     have hS2:=s2.seq hS1
     refine⟨_,rfl,a,rfl,⟨_,hS2⟩,fun D2 hD2=>?_⟩
     refine GD (n:=(ns.map V.int).length) ((ns.map fun b=>((digs.idxOf b:Nat):Int)).map V.int) (by simp) (CG (by rw[AH];omega)) hD2 (fun i H hi s3=>FW (s3.seq hS2) hi) (fun H s3=>FX (s3.seq hS2)) ?_ ?_
     .rintro i y z H3 H4 hz s3 ⟨rfl,hy⟩ R hR
      obtain⟨n,hn,rfl⟩:=FV (hy _ (s3.seq hS2))
      have hm:n∈digs:=JJq (Cu.mp ha n (Cw hn))
      have hix:digs.idxOf n < digs.length:=YT.mpr hm
      have:z=V.int ((digs.idxOf n:Nat):Int):=by
       rw[Ao,Ao,hn] at hz
       exact(Af hz).symm
      subst this
      refine⟨rfl,_,rfl,.inl ⟨rfl,_,SqL.of (s3 _ _ (s2 _ _ hd))⟩,_,rfl,dg,_,_,digs.idxOf n,V.int n,rfl,rfl,SqL.of (s3 _ _ (s2 _ _ hd)),rfl,Nt _,?_,?_,?_,hR _ (Same.refl _)⟩
      .rw[Ao,Ba hix,List.getElem_idxOf];rfl
      .rw[Np];exact JJk rfl
      .intro m z' hm' hz'
       obtain⟨q,hq,rfl⟩:=FV hz'
       rw[Np]
       apply JJj
       intro e
       have h5:=List.not_of_lt_findIdx (xs:=digs) (p:=(·==n)) (i:=m) hm'
       rw[Ba (MV hm' hix)] at hq
       have hq:=Af hq
       rw[hq,e] at h5
       simp at h5
     .intro H3 s3 hd3
      refine⟨D2,_,rfl,SqL.of hd3,fun H4 s4=>?_⟩
      rw[S8,<- hk]
      exact k H4 ((s12.trans s3).trans s4)
    .refine bT (by show(!(ns.all fun b=>decide (b∈digs)))=true;rw[G9.mpr ha];rfl) ?_
     have hk:Dt ns=-1:=JJz (.inr ha)
     have:=k H2 s12
     rw[hk] at this
     exact⟨_,rfl,this⟩
  .refine bT (by rw[JJj (Br (by rw[AH];omega))];rfl) ?_
   refine bT rfl ?_
   have hk:Dt ns=-1:=JJz (.inl hl)
   have:=k H1 s1
   rw[hk] at this
   exact⟨_,rfl,this⟩
end
end Fb
namespace Fb
open PySem PySem.Spec PyProof.Rows L2
def D7 (P:Program) (w:World) (K:AD) (mg:Str->Option Value) (x:Str) (C:Addr) (k:Nat) (ps:List Str) (sp:Sp):Prop :=
 mg x=some (.ref C)/\∃(f:Addr) (fd:FuncData),Mk K C f/\Binds K fd ps []/\∀base:Heap,FnOk P w K mg base CX0 k f fd ps sp
theorem Fd {X:Cx}{k:Nat}{ps:List Str}{sp:Sp}{x:Str}{C:Addr}{p pos:Pos}{e:Expr}{es:List Expr}{t:TA} (h:D7 X.prog X.w X.K X.mg x C k ps sp) (hr:Room (k+1) X.A) (hg:Gl X x) (ha:PA X (e::es) t)
  (hdb:(x==("__debug__":Str))=false:=by decide) (he:starEach (e::es) X.env=(false,eval e X.env)::starEach es X.env:=by rfl) (hpl:(backTo pos (starEach es X.env)).any (·.1)=false:=by rfl):
  PE X (.Call (.Name x p) (e::es) [] pos) (Lu C sp [] E0 t):=by
 obtain⟨h1,f,fd,M,hb,F⟩:=h
 exact dv M (F X.base) hr hg h1 hb .nil Ho ha hdb he hpl
theorem OY {X:Cx}{k:Nat}{ps:List Str}{sp:Sp}{x:Str}{C:Addr}{p pos:Pos} (h:D7 X.prog X.w X.K X.mg x C k ps sp) (hr:Room (k+1) X.A) (hg:Gl X x) (hdb:(x==("__debug__":Str))=false:=by decide):
  PE X (.Call (.Name x p) [] [] pos) (Lu C sp [] E0 GL):=by
 obtain⟨h1,f,fd,M,hb,F⟩:=h
 exact dw M (F X.base) hr hg h1 hb .nil Ho hdb
def RV (C:Addr) (fs:List (Str×V)) (H:Hp) (Q:VK):Prop:=∀(H':Hp) (x dx:Addr),Same H H'->H x=none->H' x=some (.ins C dx fs)->Q (.ref x) H'
def EK (C:Addr) (fs:List V->Option (List (Str×V))):Sp:=fun vs H Q _=>∃(p dx:Addr) (us:List V) (l:List (Str×V)),vs=.ref p::us/\fs us=some l/\H p=some (.ins C dx [])/\
 ∀H',H' p=some (.ins C dx l)->(∀b o,H b=some o->b≠p->H' b=some o)->Q .non H'
theorem cg {C:Addr}{fs:List V->Option (List (Str×V))}{us:List V}{l:List (Str×V)}{H:Hp}{Q:VK} (hf:fs us=some l) (h:RV C l H Q):∀x dx,H x=none->H dx=none->dx≠x->
  EK C fs (.ref x::(us++[])) (upd (upd H dx (.own x)) x (.ins C dx [])) (fun v H2=>v=.non/\Q (.ref x) H2) E0:=fun x dx nx nd ne=>by
 rw[DI]
 exact⟨x,dx,us,l,rfl,hf,AG,fun H' hx kp=>⟨rfl,h H' x dx (Same.made nx nd kp) nx hx⟩⟩
abbrev VJ:Stmt:=De Vt 0
def K6:List V->Option (List (Str×V))
 | [.int r,lv,.int c,.int s,.int k]=>some (kf r lv c s k)
 | _=>none
theorem fV:Ag ["self","rank","label","copies","shape","look"] ["self","rank","label","copies","shape","look"] (AL VJ):=⟨rfl,rfl,rfl,by decide +kernel,rfl,by decide +kernel,by decide +kernel⟩
section
variable {P:Program}{w:World}{K:AD}{mg:Str->Option Value}{base:Heap}{CK:Addr}
theorem ok_kindI {f:Addr}{fd:FuncData} (F:Fun K "__init__" "Kind.__init__" VJ f fd) (T:KindC K CK):FnOk P w K mg base CX0 1 f fd ["self","rank","label","copies","shape","look"] (EK CK K6):=by
 have inv:∀us l,K6 us=some l->∃r lv c s k,us=[.int r,lv,.int c,.int s,.int k]/\l=kf r lv c s k:=by
  intro us l h
  unfold K6 at h
  split at h
  .cases h;exact⟨_,_,_,_,_,rfl,rfl⟩
  .cases h
 refine F.ok fV (fun vs H Q E h=>?_) (fun cdv A outer s H vs Q E hr h=>?_)
 .obtain⟨p,dx,us,l,rfl,hf,_⟩:=h
  obtain⟨_,_,_,_,_,rfl,_⟩:=inv _ _ hf
  rfl
 .obtain⟨p,dx,us,l,rfl,hf,hp,k⟩:=h
  obtain⟨r,lv,c,s,lk,rfl,rfl⟩:=inv _ _ hf
  refine⟨_,AJ (BY (pv 0) (pv 1) rfl) (AJ (BY (pv 0) (pv 2) rfl) (AJ (BY (pv 0) (pv 3) rfl) (AJ (BY (pv 0) (pv 4) rfl) (AK (BY (pv 0) (pv 5) rfl))))),?_⟩
  refine⟨_,rfl,_,rfl,p,CK,dx,[],rfl,hp,T.cl,T.rank,(by show 0 < 1000;decide),?_⟩
  refine⟨_,rfl,_,rfl,p,CK,dx,_,rfl,AG,T.cl,T.label,(by show 1 < 1000;decide),?_⟩
  refine⟨_,rfl,_,rfl,p,CK,dx,_,rfl,AG,T.cl,T.copies,(by show 2 < 1000;decide),?_⟩
  refine⟨_,rfl,_,rfl,p,CK,dx,_,rfl,AG,T.cl,T.shape,(by show 3 < 1000;decide),?_⟩
  refine⟨_,rfl,_,rfl,p,CK,dx,_,rfl,AG,T.cl,T.look,(by show 4 < 1000;decide),?_⟩
  rw[FC,FC,FC,FC]
  exact k _ AG fun b o e hb=>by rw[AF hb];exact e
end
end Fb
namespace Fb
open PySem PySem.Spec PyProof.Rows L2
abbrev VI:Stmt:=WQ
def K7 (c s l:List Int):Prop:=EJ 8 c=0\/Di s < 0\/Dt l < 0
def O9 (K:AD) (CK:Addr):Sp:=fun vs H Q _=>∃(r:Int) (lv:V) (ws ac as al:Addr) (c s l:List Int),vs=[.int r,lv,.ref ws]/\SqL K H ws [.ref ac,.ref as,.ref al]/\SqL K H ac (c.map V.int)/\SqL K H as (s.map V.int)/\SqL K H al (l.map V.int)/\l.length < 100000/\
 (K7 c s l->Pur H Q .non)/\(¬K7 c s l->RV CK (kf r lv (EJ 8 c) (Di s) (Dt l)) H Q)
theorem scKWith:Ag ["rank","label","words","copies","shape","look"] ["rank","label","words"] (AL VI):=⟨rfl,rfl,rfl,by decide +kernel,rfl,by decide +kernel,by decide +kernel⟩
section
variable {P:Program}{w:World}{K:AD}{mg:Str->Option Value}{base:Heap}{CK:Addr}
theorem ok_kwith {f:Addr}{fd:FuncData} (F:Fun K "kind_with" "kind_with" VI f fd) (c1:Cst mg "MOST_COPIES" (.int 8)) (g1:Has P w K mg "small_number" 1 ["word","most"] (PK K)) (g2:Has P w K mg "shape_told" 2 ["word"] (XU K)) (g3:Has P w K mg "look_told" 2 ["word"] (XH K))
  (g4:D7 P w K mg "Kind" CK 1 ["self","rank","label","copies","shape","look"] (EK CK K6)):FnOk P w K mg base CX0 3 f fd ["rank","label","words"] (O9 K CK):=by
 refine F.ok scKWith (fun vs H Q E h=>?_) (fun cdv A outer s H vs Q E hr h=>?_)
 .obtain⟨r,lv,ws,ac,as,al,c,s,l,rfl,_⟩:=h
  rfl
 .obtain⟨r,lv,ws,ac,as,al,c,s,l,rfl,hw,hc,hs,hl,hlen,kb,kg⟩:=h
  have hr1:Room 1 _:=hr.mono (by decide)
  refine⟨_,AJ (BN (i:=3) scKWith.nd rfl (Ai rfl) (AO g1 hr1 (by rfl) (AB (CH CF (pv 2) AU (fun _ _=>rfl)) (AB (AS c1 rfl) AE))))
   (AJ (BN (i:=4) scKWith.nd rfl (Ai rfl) (AO g2 hr (by rfl) (AB (CH CF (pv 2) AU (fun _ _=>rfl)) AE)))
   (AJ (BN (i:=5) scKWith.nd rfl (Ai rfl) (AO g3 hr (by rfl) (AB (CH CF (pv 2) AU (fun _ _=>rfl)) AE)))
   (AJ (As (PW.pt (Hr (Aj Bt (pv 3) AU (AY _)) (Hr (Aj LM (pv 4) AU (AY _)) (Jd (Aj LM (pv 5) AU (AY _)))))) (AK (AM Du)) Aw)
   (AK (AM (Fd g4 hr (by rfl) (AB (pv 0) (AB (pv 1) (AB (pv 3) (AB (pv 4) (AB (pv 5) AE))))))))))),?_⟩
  refine⟨_,rfl,ws,_,_,_,rfl,rfl,hw,CP (j:=0) rfl,ac,c,8,rfl,hc,fun H1 s1=>?_⟩
  refine⟨_,rfl,ws,_,_,_,rfl,rfl,s1.seq hw,CP (j:=1) rfl,as,s,rfl,s1.seq hs,fun H2 s2=>?_⟩
  refine⟨_,rfl,ws,_,_,_,rfl,rfl,s2.seq (s1.seq hw),CP (j:=2) rfl,al,l,rfl,s2.seq (s1.seq hl),hlen,fun H3 s3=>?_⟩
  have sA:=(s1.trans s2).trans s3
  refine⟨_,rfl,rfl,_,rfl,?_⟩
  by_cases h1:EJ 8 c=0
  .exact bT (JJk (congrArg V.int h1)) (bT rfl (kb (.inl h1) H3 sA))
  .refine bF (JJj (Br h1)) ⟨_,rfl,_,_,rfl,rfl,_,rfl,?_⟩
   by_cases h2:Di s < 0
   .exact bT (JJk h2) (bT rfl (kb (.inr (.inl h2)) H3 sA))
   .refine bF (JJj h2) ⟨_,rfl,_,_,rfl,rfl,_,rfl,?_⟩
    by_cases h3:Dt l < 0
    .exact bT (JJk h3) (kb (.inr (.inr h3)) H3 sA)
    .refine bF (JJj h3) ?_
     refine⟨_,rfl,_,rfl,_,rfl,_,rfl,_,rfl,?_⟩
     exact cg (us:=[.int r,lv,.int (EJ 8 c),.int (Di s),.int (Dt l)]) rfl fun H' x dx s4 nx hx=>kg (fun q=>q.elim h1 fun q=>q.elim h2 h3) H' x dx (sA.trans s4) (sA.free nx) hx
end
theorem gB {w:AX}{n:Nat} (h:IK w=some n):Di (zs w)=(n:Int):=by
 have e0:BQ "square"=zs (BM "square"):=by decide +kernel
 have e1:BQ "tails"=zs (BM "tails"):=by decide +kernel
 have e2:BQ "long"=zs (BM "long"):=by decide +kernel
 unfold IK at h
 unfold Di
 rw[e0,e1,e2]
 simp only[X3]
 split at h
 .rename_i q;cases h;rw[JJz q];rfl
 .rename_i q
  rw[JJx q]
  split at h
  .rename_i q2;cases h;rw[JJz q2];rfl
  .rename_i q2
   rw[JJx q2]
   split at h
   .rename_i q3;cases h;rw[JJz q3];rfl
   .cases h
theorem gA {w:AX} (h:IK w=none):Di (zs w)=-1:=by
 have e0:BQ "square"=zs (BM "square"):=by decide +kernel
 have e1:BQ "tails"=zs (BM "tails"):=by decide +kernel
 have e2:BQ "long"=zs (BM "long"):=by decide +kernel
 unfold IK at h
 unfold Di
 rw[e0,e1,e2]
 simp only[X3]
 split at h
 .cases h
 .rename_i q
  rw[JJx q]
  split at h
  .cases h
  .rename_i q2
   rw[JJx q2]
   split at h
   .cases h
   .rename_i q3;rw[JJx q3]
theorem Te {r:HC}{c s l:AX} (h:D4 r c s l=none):K7 (zs c) (zs s) (zs l):=by
 unfold D4 at h
 cases h1:GO 8 c with
 | none=>exact .inl (Ww h1)
 | some n =>
  cases h2:IK s with
  | none=>exact .inr (.inl (by rw[gA h2];decide))
  | some m =>
   cases h3:IJ l with
   | none=>exact .inr (.inr (by rw[cZ h3];decide))
   | some k=>rw[h1,h2,h3] at h;cases h
theorem Gz {r:HC}{c s l:AX}{x:Ad} (h:D4 r c s l=some x):¬K7 (zs c) (zs s) (zs l)/\zk x=⟨zl r,EJ 8 (zs c),Di (zs s),Dt (zs l)⟩/\x.role=r:=by
 unfold D4 at h
 cases h1:GO 8 c with
 | none=>rw[h1] at h;cases h
 | some n =>
  cases h2:IK s with
  | none=>rw[h1,h2] at h;cases h
  | some m =>
   cases h3:IJ l with
   | none=>rw[h1,h2,h3] at h;cases h
   | some k =>
    rw[h1,h2,h3] at h
    have h:some (⟨r,n,m,k⟩:Ad)=some x:=h
    have h:=Af h
    subst h
    obtain⟨q1,q2⟩:=O3 h1
    have q3:=gB h2
    have q4:=cb h3
    have q1':EJ 8 (zs c)=(n:Int):=q1
    refine⟨?_,?_,rfl⟩
    .rintro(q | q | q)
     .rw[q1'] at q;omega
     .rw[q3] at q;omega
     .rw[q4] at q;omega
    .rw[q1',q3,q4];rfl
end Fb
namespace Fb
open PySem PySem.Spec PyProof.Rows L2
abbrev VH:Stmt:=WO
def XB (K:AD) (CK:Addr):Sp:=fun vs H Q _=>∃(a:Addr) (b:AX),vs=[.ref a]/\SqL K H a ((zs b).map V.int)/\b.length < 100000/\
 (DY b=none->Pur H Q .non)/\∀x,DY b=some x->∀(H':Hp) (p:Addr),Same H H'->H p=none->KindAt CK H' p (zk x)->Q (.ref p) H'
theorem scKTold:Ag ["line","words"] ["line"] (AL VH):=⟨rfl,rfl,rfl,by decide +kernel,rfl,by decide +kernel,by decide +kernel⟩
theorem aJ (k:Nat) (xs:List V) (h:k<=xs.length):Ce xs (some (k:Int)) none=xs.drop k:=by
 unfold Ce
 have e1:HT.sIx xs.length 0 (some (k:Int))=k:=by
  show(if (k:Int) < 0 then ((k:Int)+(xs.length:Int)).toNat else min (k:Int).toNat xs.length)=k
  rw[JJx (by omega),HE,QX h]
 have e2:HT.sIx xs.length xs.length none=xs.length:=rfl
 rw[e1,e2]
 exact FG (by rw[MO];exact Aa _)
theorem au:BQ "sign"=zs (BM "sign"):=by decide +kernel
theorem SM:BQ "same"=zs (BM "same"):=by decide +kernel
theorem ao:BQ "answer"=zs (BM "answer"):=by decide +kernel
section
variable {P:Program}{w:World}{K:AD}{mg:Str->Option Value}{base:Heap}{CK:Addr}
theorem ok_ktold {f:Addr}{fd:FuncData} (F:Fun K "kind_told" "kind_told" VH f fd) (B:Blt mg) (c1:Cst mg "BLANK" (.int 32)) (c2:Cst mg "SIGN" (.int 1)) (c3:Cst mg "SAME" (.int 2)) (c4:Cst mg "ANSWER" (.int 3)) (c5:Cst mg "HIGHEST_SAME" (.int 4))
  (g1:Has P w K mg "split_at" 1 ["mark","values"] (Fh K)) (g2:Has P w K mg "letters" 1 ["word"] Hy) (g3:Has P w K mg "is_name" 2 ["word"] (Ll K)) (g4:Has P w K mg "small_number" 1 ["word","most"] (PK K))
  (g5:Has P w K mg "kind_with" 3 ["rank","label","words"] (O9 K CK)):FnOk P w K mg base CX0 4 f fd ["line"] (XB K CK):=by
 refine F.ok scKTold (fun vs H Q E h=>?_) (fun cdv A outer s H vs Q E hr h=>?_)
 .obtain⟨a,b,rfl,_⟩:=h
  rfl
 .obtain⟨a,b,rfl,hS,hlen,kn,ks⟩:=h
  have hr1:Room 1 _:=hr.mono (by decide)
  have hr2:Room 2 _:=hr.mono (by decide)
  have hu:=hr.units
  refine⟨_,AJ (BN (i:=1) scKTold.nd rfl (Ai rfl) (AO g1 hr1 (by rfl) (AB (AS c1 rfl) (AB (pv 0) AE))))
   (AJ (As (PW.pt (Dv (Aj Bt (BV CQ (by rfl) B.len CM (AB (pv 1) AE)) AU (AY _))
     (Dv (Aj (Ei hu) (CH CF (pv 1) AU (fun _ _=>rfl)) (AO g2 hr1 (by rfl) (AB Dh AE)) (AY _))
     (Em (DE (AO g3 hr2 (by rfl) (AB (CH CF (pv 1) AU (fun _ _=>rfl)) AE)))))))
    (AK (AM (AO g5 hr (by rfl) (AB (AS c2 rfl) (AB (Hq Rr (by rfl) B.tuple (by decide +kernel) (AB (CH CF (pv 1) AU (fun _ _=>rfl)) AE)) (AB (E5 FA (pv 1) (Ek AU) Fe) AE)))))) Aw)
   (AJ (As (PW.pt (Dv (Aj Bt (BV CQ (by rfl) B.len CM (AB (pv 1) AE)) AU (AY _))
     (Dv (Aj (Ei hu) (CH CF (pv 1) AU (fun _ _=>rfl)) (AO g2 hr1 (by rfl) (AB Dh AE)) (AY _))
     (Em (Aj FZ (AO g4 hr1 (by rfl) (AB (CH CF (pv 1) AU (fun _ _=>rfl)) (AB (AS c5 rfl) AE))) AU (AY _))))))
    (AK (AM (AO g5 hr (by rfl) (AB (AS c3 rfl) (AB (AO g4 hr1 (by rfl) (AB (CH CF (pv 1) AU (fun _ _=>rfl)) (AB (AS c5 rfl) AE))) (AB (E5 FA (pv 1) (Ek AU) Fe) AE)))))) Aw)
   (AJ (As (PW.pt (Dv (Aj Bt (BV CQ (by rfl) B.len CM (AB (pv 1) AE)) AU (AY _))
     (Em (Aj (Ei hu) (CH CF (pv 1) AU (fun _ _=>rfl)) (AO g2 hr1 (by rfl) (AB Dh AE)) (AY _)))))
    (AK (AM (AO g5 hr (by rfl) (AB (AS c4 rfl) (AB AU (AB (E5 FA (pv 1) (Ek AU) Fe) AE)))))) Aw)
   (AK (AM Du))))),?_⟩
  refine⟨_,rfl,a,32,zs b,rfl,hS,by rw[Al];exact hlen,fun H1 p as s1 np nas hp hpa=>?_⟩
  rw[HY] at hpa
  have hl:=Bp hpa
  rw[AH] at hl
  have hlen':((as.map V.ref).length:Int)=((BI 32 b).length:Int):=by rw[AH,hl]
  have part:∀x∈BI 32 b,x.length < 100000:=fun x hx=>by
   have:=Ez 32 (zs b) (zs x) (by rw[HY];exact Bb.mpr ⟨x,hx,rfl⟩)
   rw[Al,Al] at this
   omega
  have len5:∀{n:Int} {A C:Prop},((BI 32 b).length:Int)≠n->C->if decide (V.int ((as.map V.ref).length:Nat)=V.int n)=true then A else C:=fun h c=>bF (JJj (Br (by rw[hlen'];exact h))) c
  have lenT:∀{n:Int} {A C:Prop},((BI 32 b).length:Int)=n->A->if decide (V.int ((as.map V.ref).length:Nat)=V.int n)=true then A else C:=fun h c=>bT (JJk (congrArg V.int (by rw[hlen'];exact h))) c
  by_cases h5:(BI 32 b).length=5
  .match hc:BI 32 b,as,hpa,h5 with
   | [w,n,c,s,l],[aw,an,ac,as,al],.cons pw (.cons pn (.cons pc (.cons ps (.cons pl .nil)))),_ =>
    have hp:H1 p=some (.lst [.ref aw,.ref an,.ref ac,.ref as,.ref al]):=hp
    have len5:∀{n:Int} {A C:Prop},(5:Int)≠n->C->if decide (V.int (([V.ref aw,V.ref an,V.ref ac,V.ref as,V.ref al]:List V).length:Nat)=V.int n)=true then A else C:=fun h c=>bF (JJj (Br h)) c
    have lw:=part w (by rw[hc];simp)
    have ln:=part n (by rw[hc];simp)
    have ll:=part l (by rw[hc];simp)
    have hk:DY b=if w=BM "sign"/\Ck n=true then D4 (.sign n) c s l else if w=BM "same" then (GO 4 n).bind (fun (j:Nat)=>D4 (.same j) c s l) else none:=by
     unfold DY
     rw[hc]
    have fin:∀(r:HC) (lv:V) (H2:Hp) (q2:Addr),Same H1 H2->NF H2 lv (zl r)->H2 q2=some (.lst [.ref ac,.ref as,.ref al])->DY b=D4 r c s l->O9 K CK [.int (zl r).rank,lv,.ref q2] H2 Q E0:=fun r lv H2 q2 s2 hlab hq2 e=>by
     refine⟨_,lv,q2,ac,as,al,zs c,zs s,zs l,rfl,SqL.of hq2,SqL.of (s2 _ _ pc),SqL.of (s2 _ _ ps),SqL.of (s2 _ _ pl),by rw[Al];exact ll,fun bad H3 s3=>?_,fun good H3 x dx s3 nx hx=>?_⟩
     .refine kn ?_ H3 ((s1.trans s2).trans s3)
      rw[e]
      cases q:D4 r c s l with
      | none=>rfl
      | some y=>exact absurd bad (Gz q).1
     .cases q:D4 r c s l with
      | none=>exact absurd (Te q) good
      | some y =>
       obtain⟨_,ez,_⟩:=Gz q
       refine ks y (by rw[e,q]) H3 x ((s1.trans s2).trans s3) (s1.free (s2.free nx)) ?_
       rw[ez]
       refine⟨dx,lv,hx,?_⟩
       cases r with
       | sign m =>
        obtain⟨tp,e1,e2⟩:=hlab
        exact⟨tp,e1,s3 _ _ e2⟩
       | same m=>exact hlab
       | answer=>exact hlab
    refine⟨_,rfl,p,_,rfl,.inl (SqL.of hp),rfl,_,rfl,bT rfl ?_⟩
    refine⟨_,rfl,p,_,_,_,rfl,rfl,SqL.of hp,CP (j:=0) rfl,_,rfl,by decide,fun H2 q s2 nq hq=>?_⟩
    refine⟨_,_,Ay (SqL.of (s2 _ _ pw)),Ay (SqL.of hq),Au _,Au _,?_⟩
    rw[Bx,au]
    refine⟨_,rfl,?_⟩
    by_cases hw:w=BM "sign"
    .refine bT (JJk (by rw[hw])) ?_
     refine⟨_,rfl,p,_,_,_,rfl,rfl,SqL.of (s2 _ _ hp),CP (j:=1) rfl,an,zs n,rfl,SqL.of (s2 _ _ pn),by rw[Al];exact ln,fun H3 s3=>⟨_,rfl,?_⟩⟩
     have s13:=s2.trans s3
     rw[K2]
     by_cases hn:Ck n=true
     .rw[JJz ⟨hw,hn⟩] at hk
      refine bT hn ?_
      refine⟨_,rfl,p,_,_,_,rfl,rfl,SqL.of (s13 _ _ hp),CP (j:=1) rfl,an,_,rfl,.inl ⟨SqL.of (s13 _ _ pn),fun tp ntp=>?_⟩⟩
      have s4:Same H3 (upd H3 tp (.tup ((zs n).map V.int))):=(Same.refl H3).new ntp
      have htp:upd H3 tp (.tup ((zs n).map V.int)) tp=some (.tup ((zs n).map V.int)):=AG
      generalize upd H3 tp (.tup ((zs n).map V.int))=H4 at s4 htp ⊢
      refine⟨_,rfl,_,rfl,p,_,rfl,SqL.of (s4 _ _ (s13 _ _ hp)),fun q2 nq2=>?_⟩
      have s5:=(Same.refl H4).new (o:=.lst (Ce [V.ref aw,V.ref an,V.ref ac,V.ref as,V.ref al] (some 2) none)) nq2
      exact fin (.sign n) (.ref tp) _ q2 ((s13.trans s4).trans s5) ⟨tp,rfl,s5 _ _ htp⟩ AG hk
     .have hw2:¬w=BM "same":=fun z=>by rw[z] at hw;exact absurd hw (by decide +kernel)
      rw[JJx fun z=>hn z.2,JJx hw2] at hk
      refine bF (G9.mpr hn) ?_
      refine⟨_,rfl,p,_,rfl,.inl (SqL.of (s13 _ _ hp)),rfl,_,rfl,bT rfl ?_⟩
      refine⟨_,rfl,p,_,_,_,rfl,rfl,SqL.of (s13 _ _ hp),CP (j:=0) rfl,_,rfl,by decide,fun H4 q4 s4 nq4 hq4=>?_⟩
      refine⟨_,_,Ay (SqL.of (s4 _ _ (s13 _ _ pw))),Ay (SqL.of hq4),Au _,Au _,?_⟩
      rw[Bx,SM]
      refine⟨_,rfl,bF (JJj fun z=>hw2 (EO z)) (bF rfl ?_)⟩
      refine⟨_,rfl,p,_,rfl,.inl (SqL.of (s4 _ _ (s13 _ _ hp))),rfl,_,rfl,len5 (by decide) (bF rfl ?_)⟩
      exact kn hk H4 ((s1.trans s13).trans s4)
    .rw[JJx fun z=>hw z.1] at hk
     refine bF (JJj fun z=>hw (EO z)) (bF rfl ?_)
     refine⟨_,rfl,p,_,rfl,.inl (SqL.of (s2 _ _ hp)),rfl,_,rfl,bT rfl ?_⟩
     refine⟨_,rfl,p,_,_,_,rfl,rfl,SqL.of (s2 _ _ hp),CP (j:=0) rfl,_,rfl,by decide,fun H3 q3 s3 nq3 hq3=>?_⟩
     refine⟨_,_,Ay (SqL.of (s3 _ _ (s2 _ _ pw))),Ay (SqL.of hq3),Au _,Au _,?_⟩
     rw[Bx,SM]
     refine⟨_,rfl,?_⟩
     have s13:=s2.trans s3
     by_cases hw2:w=BM "same"
     .rw[JJz hw2] at hk
      refine bT (JJk (by rw[hw2])) ?_
      refine⟨_,rfl,p,_,_,_,rfl,rfl,SqL.of (s13 _ _ hp),CP (j:=1) rfl,an,zs n,4,rfl,SqL.of (s13 _ _ pn),fun H4 s4=>⟨_,_,rfl,rfl,_,rfl,?_⟩⟩
      have s14:=s13.trans s4
      cases hd:GO 4 n with
      | none =>
       rw[hd] at hk
       have e0:EJ 4 (zs n)=0:=Ww hd
       refine bF (JJj (by rw[e0];decide)) ?_
       refine⟨_,rfl,p,_,rfl,.inl (SqL.of (s14 _ _ hp)),rfl,_,rfl,len5 (by decide) (bF rfl ?_)⟩
       exact kn hk H4 (s1.trans s14)
      | some j =>
       rw[hd] at hk
       obtain⟨e0,e1⟩:=O3 hd
       have e0:EJ 4 (zs n)=(j:Int):=e0
       refine bT (JJk (by rw[e0];omega)) ?_
       refine⟨_,rfl,p,_,_,_,rfl,rfl,SqL.of (s14 _ _ hp),CP (j:=1) rfl,an,zs n,4,rfl,SqL.of (s14 _ _ pn),fun H5 s5=>?_⟩
       have s15:=s14.trans s5
       refine⟨_,rfl,_,rfl,p,_,rfl,SqL.of (s15 _ _ hp),fun q2 nq2=>?_⟩
       have s6:=(Same.refl H5).new (o:=.lst (Ce [V.ref aw,V.ref an,V.ref ac,V.ref as,V.ref al] (some 2) none)) nq2
       rw[e0]
       exact fin (.same j) (.int j) _ q2 (s15.trans s6) rfl AG hk
     .rw[JJx hw2] at hk
      refine bF (JJj fun z=>hw2 (EO z)) (bF rfl ?_)
      refine⟨_,rfl,p,_,rfl,.inl (SqL.of (s13 _ _ hp)),rfl,_,rfl,len5 (by decide) (bF rfl ?_)⟩
      exact kn hk H3 (s1.trans s13)
  .by_cases h4:(BI 32 b).length=4
   .match hc:BI 32 b,as,hpa,h4 with
    | [w,c,s,l],[aw,ac,as,al],.cons pw (.cons pc (.cons ps (.cons pl .nil))),_ =>
     have hp:H1 p=some (.lst [.ref aw,.ref ac,.ref as,.ref al]):=hp
     have ll:=part l (by rw[hc];simp)
     have hk:DY b=if w=BM "answer" then D4 .answer c s l else none:=by
      unfold DY
      rw[hc]
     have len4:∀{A C:Prop},C->if decide (V.int (([V.ref aw,V.ref ac,V.ref as,V.ref al]:List V).length:Nat)=V.int 5)=true then A else C:=fun c=>bF (JJj (Br (show(4:Int)≠5 by decide))) c
     refine⟨_,rfl,p,_,rfl,.inl (SqL.of hp),rfl,_,rfl,len4 (bF rfl ?_)⟩
     refine⟨_,rfl,p,_,rfl,.inl (SqL.of hp),rfl,_,rfl,len4 (bF rfl ?_)⟩
     refine⟨_,rfl,p,_,rfl,.inl (SqL.of hp),rfl,_,rfl,bT rfl ?_⟩
     refine⟨_,rfl,p,_,_,_,rfl,rfl,SqL.of hp,CP (j:=0) rfl,_,rfl,by decide,fun H2 q s2 nq hq=>?_⟩
     refine⟨_,_,Ay (SqL.of (s2 _ _ pw)),Ay (SqL.of hq),Au _,Au _,?_⟩
     rw[Bx,ao]
     refine⟨_,rfl,?_⟩
     by_cases hw:w=BM "answer"
     .rw[JJz hw] at hk
      refine bT (JJk (by rw[hw])) ?_
      refine⟨_,rfl,_,rfl,p,_,rfl,SqL.of (s2 _ _ hp),fun q2 nq2=>?_⟩
      have s3:=(Same.refl H2).new (o:=.lst (Ce [V.ref aw,V.ref ac,V.ref as,V.ref al] (some 1) none)) nq2
      have s13:=s2.trans s3
      refine⟨_,.int 0,q2,ac,as,al,zs c,zs s,zs l,rfl,SqL.of AG,SqL.of (s13 _ _ pc),SqL.of (s13 _ _ ps),SqL.of (s13 _ _ pl),by rw[Al];exact ll,fun bad H3 s4=>?_,fun good H3 x dx s4 nx hx=>?_⟩
      .refine kn ?_ H3 ((s1.trans s13).trans s4)
       rw[hk]
       cases q:D4 .answer c s l with
       | none=>rfl
       | some y=>exact absurd bad (Gz q).1
      .cases q:D4 .answer c s l with
       | none=>exact absurd (Te q) good
       | some y =>
        obtain⟨_,ez,_⟩:=Gz q
        refine ks y (by rw[hk,q]) H3 x ((s1.trans s13).trans s4) (s1.free (s13.free nx)) ?_
        rw[ez]
        exact⟨dx,.int 0,hx,rfl⟩
     .rw[JJx hw] at hk
      refine bF (JJj fun z=>hw (EO z)) ?_
      exact kn hk H2 (s1.trans s2)
   .have hk:DY b=none:=by
     unfold DY
     split
     .rename_i q;rw[q] at h5;exact absurd rfl h5
     .rename_i q;rw[q] at h4;exact absurd rfl h4
     .rfl
    refine⟨_,rfl,p,_,rfl,.inl (SqL.of hp),rfl,_,rfl,?_⟩
    refine len5 (by omega) (bF rfl ?_)
    refine⟨_,rfl,p,_,rfl,.inl (SqL.of hp),rfl,_,rfl,?_⟩
    refine len5 (by omega) (bF rfl ?_)
    refine⟨_,rfl,p,_,rfl,.inl (SqL.of hp),rfl,_,rfl,?_⟩
    refine len5 (by omega) (bF rfl ?_)
    exact kn hk H1 s1
end
end Fb
namespace Fb
open PySem PySem.Spec PyProof.Rows L2
abbrev Vd:Stmt:=V2
def XW (CL CK:Addr):Sp:=fun vs H Q _=>∃(a b:Addr) (p:LA) (name:List Int) (kinds:List ZK) (fault:List Int) (z:ZK),vs=[.ref a,.ref b]/\LockAt CL CK H a p name kinds fault/\KindAt CK H b z/\Pur H Q (.bl (IA kinds z))
theorem scStand:Ag ["locker","kind","before"] ["locker","kind"] (AL Vd):=⟨rfl,rfl,rfl,by decide +kernel,rfl,by decide +kernel,by decide +kernel⟩
section
variable {P:Program}{w:World}{K:AD}{mg:Str->Option Value}{base:Heap}{CL CK:Addr}
theorem ok_stand {f:Addr}{fd:FuncData} (F:Fun K "can_stand" "can_stand" Vd f fd) (B:Blt mg) (TL:LockC K CL) (TK:KindC K CK) (c1:Cst mg "ANSWER" (.int 3)):FnOk P w K mg base CX0 1 f fd ["locker","kind"] (XW CL CK):=by
 refine F.ok scStand (fun vs H Q E h=>?_) (fun cdv A outer s H vs Q E hr h=>?_)
 .obtain⟨a,b,p,nm,ks,fl,z,rfl,_⟩:=h
  rfl
 .obtain⟨a,b,p,nm,ks,fl,z,rfl,L,⟨dz,lz,hz,_⟩,k⟩:=h
  have kk:=k H (Same.refl H)
  obtain⟨dx,ho⟩:=L.ob
  obtain⟨as,hk,hp⟩:=L.ks
  have hl:=Bp hp
  refine⟨_,AJ (As (Aj Bt (BV CQ (by rfl) B.len CM (AB (AW (pv 0) rfl) AE)) AU (AY _)) (AK (AM OU)) Aw)
   (AJ (BN (i:=2) scStand.nd rfl (Ai rfl) (CH CF (AW (pv 0) rfl) (G3 G4 AU) (fun _ _=>rfl)))
   (AK (AM (E3 (Dg LN (AW (pv 2) rfl) (AS c1 rfl) (AY _)) (E4 (Dg DR (AW (pv 2) rfl) (AW (pv 1) rfl) (AY _))))))),?_⟩
  refine⟨_,rfl,a,CL,dx,_,_,rfl,ho,TL.cl,TL.kinds,GF,p.ak,_,rfl,.inl (SqL.of hk),rfl,_,rfl,?_⟩
  cases hlast:ks.getLast? with
  | none =>
   have:ks=[]:=IT.mp hlast
   subst this
   have:as=[]:=by cases as with | nil=>rfl | cons _ _=>simp at hl
   subst this
   exact bT rfl kk
  | some q =>
   obtain⟨r,e⟩:=JM hlast
   subst e
   rw[BC,Bz] at hl
   obtain⟨asR,aQ,rfl⟩:∃asR aQ,as=asR++[aQ]:=by
    have ne:as≠[]:=by intro q;rw[q] at hl;simp at hl
    exact⟨as.dropLast,as.getLast ne,(IQ ne).symm⟩
   have hlR:asR.length=r.length:=by rw[BC,Bz] at hl;omega
   obtain⟨aq',e1,dq,lq,hq,_⟩:=Cf hp (i:=r.length) (b:=q) (by simp)
   rw[HF (by omega),hlR,Ib] at e1
   cases e1
   refine bF (JJj (Br (by rw[AH,BC,Bz];omega))) ?_
   refine⟨_,rfl,a,CL,dx,_,_,rfl,ho,TL.cl,TL.kinds,GF,_,rfl,p.ak,_,_,_,rfl,rfl,SqL.of hk,by rw[Bo];exact Iw _ _,?_⟩
   refine⟨_,rfl,_,CK,dq,_,_,rfl,hq,TK.cl,TK.rank,Ef,rfl,_,rfl,?_⟩
   unfold IA at kk
   rw[hlast] at kk
   have kk:Q (.bl (!(decide (q.lab.rank=3))&&decide (q.lab.rank<=z.lab.rank))) H:=kk
   by_cases h3:q.lab.rank=3
   .rw[JJk h3] at kk
    exact bF (by rw[JJk (congrArg V.int h3)];rfl) kk
   .rw[JJj h3] at kk
    refine bT (by rw[JJj (Br h3)];rfl) ?_
    exact⟨_,rfl,_,CK,dq,_,_,rfl,hq,TK.cl,TK.rank,Ef,_,rfl,b,CK,dz,_,_,rfl,hz,TK.cl,TK.rank,Ef,_,_,rfl,rfl,kk⟩
end
abbrev Ot:Stmt:=WD
def XC (CL CK:Addr):Sp:=fun vs H Q _=>∃(a b:Addr) (p:LA) (name:List Int) (kinds:List ZK) (fault:List Int) (z:ZK),vs=[.ref a,.ref b]/\LockAt CL CK H a p name kinds fault/\KindAt CK H b z/\kinds.length < 100000/\Pur H Q (.bl (Eg kinds z))
theorem scLabel:Ag ["locker","kind","before"] ["locker","kind"] (AL Ot):=⟨rfl,rfl,rfl,by decide +kernel,rfl,by decide +kernel,by decide +kernel⟩
theorem K4:∀{a b:List Int},Ap a=Ap b->a=b
 | [],[],_=>rfl
 | [],_::_,h=>by simp[Ap] at h
 | _::_,[],h=>by simp[Ap] at h
 | x::a,y::b,h=>by
  have h:(BR x:Key)::Ap a=BR y::Ap b:=h
  obtain⟨h1,h2⟩:=Dl h
  rw[KS h1,K4 h2]
theorem Pf (n:List Int):∀(kinds:List ZK) (i:Nat),(BO (Ci i kinds) (Ap n)).isSome=kinds.any fun b=>decide (b.lab=.sign n)
 | [],i=>rfl
 | z::r,i=>by
  have ih:=Pf n r (i+1)
  rw[Hw,DH]
  cases hz:z.lab with
  | sign m =>
   by_cases e:m=n
   .subst e
    rw[JJk rfl,Pu]
    show(BO ((Ap m,V.int (i:Nat))::Ci (i+1) r) (Ap m)).isSome=true
    rw[DG rfl]
    rfl
   .rw[JJj (fun q=>e (by injection q)),HA,<- ih]
    show(BO ((Ap m,V.int (i:Nat))::Ci (i+1) r) (Ap n)).isSome=_
    rw[DF (p:=(Ap m,V.int ((i:Nat):Int))) fun q=>e (K4 q)]
  | same k=>rw[JJj (fun q=>nomatch q),HA,<- ih]
  | ans=>rw[JJj (fun q=>nomatch q),HA,<- ih]
def EI:List ZK->List Int
 | []=>[]
 | z::r=>match z.lab with
  | .same k=>k::EI r
  | _=>EI r
theorem Oy:∀(kinds:List ZK) (i:Nat),(Bu i kinds).map (·.1)=(EI kinds).map BR
 | [],_=>rfl
 | z::r,i=>by
  have ih:=Oy r (i+1)
  rw[Hv]
  unfold EI
  cases z.lab with
  | sign n=>exact ih
  | same k=>show BR k::_=BR k::_;rw[ih]
  | ans=>exact ih
theorem Vn (kinds:List ZK) (i:Nat):(Bu i kinds).length=(EI kinds).length:=by
 have:=congrArg FE (Oy kinds i)
 rwa [AH,AH] at this
theorem Ox:∀kinds:List ZK,(EI kinds).length<=kinds.length
 | []=>Aa _
 | z::r=>by
  have ih:=Ox r
  unfold EI
  split
  .simp;omega
  .simp;omega
theorem NM (k:Int):∀kinds:List ZK,((EI kinds).any fun j=>decide (k<=j))=kinds.any fun b=>match b.lab with
  | .same j=>decide (k<=j)
  | _=>false
 | []=>rfl
 | z::r=>by
  have ih:=NM k r
  unfold EI
  rw[DH]
  cases z.lab with
  | sign n=>rw[<- ih];simp
  | same j=>rw[<- ih];simp
  | ans=>rw[<- ih];simp
section
variable {P:Program}{w:World}{K:AD}{mg:Str->Option Value}{base:Heap}{CL CK:Addr}
theorem ok_label {f:Addr}{fd:FuncData} (F:Fun K "is_label_taken" "is_label_taken" Ot f fd) (B:Blt mg) (TL:LockC K CL) (TK:KindC K CK) (c1:Cst mg "SIGN" (.int 1)) (c2:Cst mg "SAME" (.int 2)):FnOk P w K mg base CX0 1 f fd ["locker","kind"] (XC CL CK):=by
 refine F.ok scLabel (fun vs H Q E h=>?_) (fun cdv A outer s H vs Q E hr h=>?_)
 .obtain⟨a,b,p,nm,ks,fl,z,rfl,_⟩:=h
  rfl
 .obtain⟨a,b,p,nm,ks,fl,z,rfl,L,⟨dz,lz,hz,hlab⟩,hlen,k⟩:=h
  have kk:=k H (Same.refl H)
  have hu:=Ew hr
  obtain⟨dx,ho⟩:=L.ob
  refine⟨_,AJ (As (Aj Bt (AW (pv 1) rfl) (AS c1 rfl) (AY _)) (AK (AM (OW (UI hu (AW (pv 1) rfl) (AW (pv 0) rfl))))) Aw)
   (AK (AM (E3 (Dg Bt (AW (pv 1) rfl) (AS c2 rfl) (AY _)) (E4 (BV (R3 rfl) (by rfl) B.any boot_any (AB (UN (Ej (own:=[("before",2)]) rfl scLabel.nd (US (AW (pv 0) rfl)) (D8 (N:=["locker","kind","before"]) (sc:=AL Ot) (by decide +kernel))
    (fun s H C cl fp=>CT (i:=2) scLabel.nd rfl (Ai rfl)) (fun s H C cl fp=>E7) (fun s H C cl fp=>Dg DR (G2 K rfl (pv 1) rfl) (pv 2) (AY _)))) AE)))))),?_⟩
  refine⟨_,rfl,b,CK,dz,_,_,rfl,hz,TK.cl,TK.rank,Ef,rfl,_,rfl,?_⟩
  unfold Eg at kk
  cases hl:z.lab with
  | sign n =>
   rw[hl] at kk hlab
   obtain⟨tp,e1,htp⟩:=hlab
   subst e1
   refine bT (JJk rfl) ?_
   have htp':H tp=some (.tup ((Ap n).map kV)):=by rw[FY];exact htp
   refine⟨_,rfl,b,CK,dz,_,_,rfl,hz,TK.cl,TK.label,K5,_,rfl,a,CL,dx,_,_,rfl,ho,TL.cl,TL.signs,JO,p.sg,_,rfl,DGet.t (k:=Ap n) L.sg htp',?_⟩
   rw[Pf]
   exact kk
  | ans =>
   rw[hl] at kk
   refine bF (JJj (Br (by decide))) ?_
   refine⟨_,rfl,b,CK,dz,_,_,rfl,hz,TK.cl,TK.rank,Ef,rfl,_,rfl,?_⟩
   rw[hl]
   exact bF (JJj (Br (by decide))) kk
  | same j =>
   rw[hl] at kk hlab
   have hlab:lz=.int j:=hlab
   subst hlab
   refine bF (JJj (Br (show(2:Int)≠1 by decide))) ?_
   refine⟨_,rfl,b,CK,dz,_,_,rfl,hz,TK.cl,TK.rank,Ef,rfl,_,rfl,?_⟩
   rw[hl]
   refine bT (JJk rfl) ?_
   have kk:Q (.bl (ks.any fun b=>match b.lab with
    | .same i=>decide (j<=i)
    | _=>false)) H:=kk
   rw[<- NM] at kk
   have hkl:=Vn ks 0
   have hle:=Ox ks
   refine⟨p.sm,_,L.sm,trivial,fun od=>?_⟩
   have hfz:upd H p.sm (.frz od (.dK (Bu 0 ks))) p.sm=some (.frz od (.dK (Bu 0 ks))):=AG
   have nap:a≠p.sm:=BX ho L.sm (by intro q;cases q)
   have nbp:b≠p.sm:=BX hz L.sm (by intro q;cases q)
   have s0:∀x o,H x=some o->x≠p.sm->upd H p.sm (.frz od (.dK (Bu 0 ks))) x=some o:=fun x o e n=>by rw[AF n];exact e
   refine⟨_,rfl,a,CL,dx,_,_,rfl,s0 _ _ ho nap,TL.cl,TL.sames,K9,p.sm,od,rfl,.inl ⟨_,hfz,fun D hD=>?_⟩⟩
   refine GD (n:=(Bu 0 ks).length) (((EI ks).map fun i=>decide (j<=i)).map V.bl) (by simp[hkl]) (CG (by omega)) hD (fun i H hi s1=>⟨s1 _ _ hfz,hi⟩) (fun H s1=>⟨s1 _ _ hfz,Aa _⟩) ?_ ?_
   .rintro i y v H1 H2 hv s1 ⟨rfl,kk',vv,hkk,rfl⟩ R hR
    have hks':((Bu 0 ks).map (·.1))[i]?=some kk':=by rw[Ao,hkk];rfl
    rw[Oy,Ao] at hks'
    cases hq:(EI ks)[i]? with
    | none=>rw[hq] at hks';cases hks'
    | some q =>
     rw[hq] at hks'
     have ez:BR q=kk':=Af hks'
     subst ez
     have ev:v=V.bl (decide (j<=q)):=by
      rw[Ao,Ao,hq] at hv
      exact(Af hv).symm
     subst ev
     exact⟨rfl,_,rfl,b,CK,dz,_,_,rfl,s1 _ _ (s0 _ _ hz nbp),TK.cl,TK.label,K5,_,rfl,_,_,rfl,rfl,hR _ (Same.refl _)⟩
   .intro H2 s5 hD2
    refine⟨s5 _ _ hfz,D,(EI ks).map fun i=>decide (j<=i),rfl,SqL.of ?_,?_⟩
    .rw[AF (Ar (Ac hfz hD))]
     exact hD2
    .rw[IP]
     have key:Same H (upd H2 p.sm (.dK (Bu 0 ks))):=fun x o e=>by
      by_cases n:x=p.sm
      .subst n
       rw[AG,<- L.sm]
       exact e
      .rw[AF n]
       exact s5 _ _ (s0 _ _ e n)
     have:=k _ key
     unfold Eg at this
     rw[hl] at this
     have this:Q (.bl (ks.any fun b=>match b.lab with
      | .same i=>decide (j<=i)
      | _=>false)) _:=this
     rw[<- NM] at this
     exact this
end
abbrev Ov:Stmt:=WE
def PD (CL CK:Addr):Sp:=fun vs H Q _=>∃(a b:Addr) (p:LA) (name:List Int) (kinds:List ZK) (fault:List Int) (z:ZK),vs=[.ref a,.ref b]/\LockAt CL CK H a p name kinds fault/\KindAt CK H b z/\kinds.length < 100000/\Pur H Q (.bl (JP kinds z))
theorem scLookT:Ag ["locker","kind","before"] ["locker","kind"] (AL Ov):=⟨rfl,rfl,rfl,by decide +kernel,rfl,by decide +kernel,by decide +kernel⟩
section
variable {P:Program}{w:World}{K:AD}{mg:Str->Option Value}{base:Heap}{CL CK:Addr}
theorem ok_lookT {f:Addr}{fd:FuncData} (F:Fun K "is_look_taken" "is_look_taken" Ov f fd) (B:Blt mg) (TL:LockC K CL) (TK:KindC K CK):FnOk P w K mg base CX0 1 f fd ["locker","kind"] (PD CL CK):=by
 refine F.ok scLookT (fun vs H Q E h=>?_) (fun cdv A outer s H vs Q E hr h=>?_)
 .obtain⟨a,b,p,nm,ks,fl,z,rfl,_⟩:=h
  rfl
 .obtain⟨a,b,p,nm,ks,fl,z,rfl,L,⟨dz,lz,hz,hlab⟩,hlen,k⟩:=h
  obtain⟨dx,ho⟩:=L.ob
  obtain⟨as,hk,hp⟩:=L.ks
  have hl:=Bp hp
  refine⟨_,AK (AM (BV (R3 rfl) (by rfl) B.any boot_any (AB (Ej (own:=[("before",2)]) rfl scLookT.nd (DS (AW (pv 0) rfl)) (D8 (N:=["locker","kind","before"]) (sc:=AL Ov) (by decide +kernel))
    (fun s H C cl fp=>CT (i:=2) scLookT.nd rfl (Ai rfl)) (fun s H C cl fp=>E7) (fun s H C cl fp=>E3 (Dg Bt (G2 K rfl (pv 2) rfl) (G2 K rfl (pv 1) rfl) (AY _)) (E4 (Dg Bt (G2 K rfl (pv 2) rfl) (G2 K rfl (pv 1) rfl) (AY _))))) AE))),?_⟩
  refine⟨_,rfl,a,CL,dx,_,_,rfl,ho,TL.cl,TL.kinds,GF,p.ak,rfl,⟨_,SqL.of hk⟩,fun D hD=>?_⟩
  refine GD (n:=(as.map V.ref).length) ((ks.map fun q=>decide (q.shape=z.shape)&&decide (q.look=z.look)).map V.bl) (by simp[hl]) (CG (by rw[AH,hl];omega)) hD (fun i H hi s1=>FW (SqL.of (s1 _ _ hk)) hi) (fun H s1=>FX (SqL.of (s1 _ _ hk))) ?_ ?_
  .rintro i y v H1 H2 hv s1 ⟨rfl,hy⟩ R hR
   have hy:=hy _ (SqL.of (s1 _ _ hk))
   rw[Ao,Ao] at hv
   cases hq:ks[i]? with
   | none=>rw[hq] at hv;cases hv
   | some q =>
    rw[hq] at hv
    have ev:V.bl (decide (q.shape=z.shape)&&decide (q.look=z.look))=v:=Af hv
    subst ev
    obtain⟨c,hc,dq,lq,hqq,_⟩:=Cf hp hq
    rw[Ao,hc] at hy
    have ey:V.ref c=y:=Af hy
    subst ey
    have r0:=hR _ (Same.refl _)
    refine⟨rfl,_,rfl,c,CK,dq,_,_,rfl,s1 _ _ hqq,TK.cl,TK.shape,Td,_,rfl,b,CK,dz,_,_,rfl,s1 _ _ hz,TK.cl,TK.shape,Td,rfl,_,rfl,?_⟩
    by_cases h1:q.shape=z.shape
    .rw[JJk h1,D1] at r0
     refine bT (JJk (congrArg V.int h1)) ?_
     refine⟨_,rfl,c,CK,dq,_,_,rfl,s1 _ _ hqq,TK.cl,TK.look,Tc,_,rfl,b,CK,dz,_,_,rfl,s1 _ _ hz,TK.cl,TK.look,Tc,rfl,?_⟩
     rw[show decide (V.int q.look=V.int z.look)=decide (q.look=z.look) from CY ⟨Jn,fun h=>congrArg V.int h⟩]
     exact r0
    .rw[JJj h1,DW] at r0
     exact bF (JJj (Br h1)) r0
  .intro H2 s5 hD2
   refine⟨D,ks.map fun q=>decide (q.shape=z.shape)&&decide (q.look=z.look),rfl,SqL.of hD2,?_⟩
   rw[IP]
   exact k H2 s5
end
end Fb
namespace Fb
open PySem PySem.Spec PyProof.Rows L2
abbrev VG:Stmt:=WN
def W9 (CL CK:Addr):Sp:=fun vs H Q _=>∃(a:Addr) (kv:V) (p:LA) (name:List Int) (kinds:List ZK) (fault:List Int) (R:Int),vs=[.ref a,kv]/\LockAt CL CK H a p name kinds fault/\kinds.length < 100000/\
 ((kv=.non/\R=1)\/∃b z,kv=.ref b/\KindAt CK H b z/\R=Kv kinds z)/\Pur H Q (.int R)
theorem fU:Ag ["locker","kind"] ["locker","kind"] (AL VG):=⟨rfl,rfl,rfl,by decide +kernel,rfl,by decide +kernel,by decide +kernel⟩
theorem Lg:∀(kinds:List ZK) (i:Nat),(Ci i kinds).length=Fg kinds
 | [],_=>rfl
 | z::r,i=>by
  have ih:=Lg r (i+1)
  rw[Hw]
  unfold Fg at ih ⊢
  rw[Fu]
  cases hz:z.lab with
  | sign n=>simp[ZLab.rank,ih]
  | same k=>simp[ZLab.rank,ih]
  | ans=>simp[ZLab.rank,ih]
section
variable {P:Program}{w:World}{K:AD}{mg:Str->Option Value}{base:Heap}{CL CK:Addr}
theorem ok_kfault {f:Addr}{fd:FuncData} (F:Fun K "kind_fault" "kind_fault" VG f fd) (B:Blt mg) (TL:LockC K CL) (TK:KindC K CK) (c1:Cst mg "NO_SUCH_LINE" (.int 1)) (c2:Cst mg "TOLD_BEFORE" (.int 2)) (c3:Cst mg "TOO_MANY_SIGNS" (.int 3)) (c4:Cst mg "LOOK_TOLD_BEFORE" (.int 4)) (c5:Cst mg "SIGN" (.int 1)) (c6:Cst mg "MOST_SIGNS" (.int 48))
  (g1:Has P w K mg "can_stand" 1 ["locker","kind"] (XW CL CK)) (g2:Has P w K mg "is_label_taken" 1 ["locker","kind"] (XC CL CK)) (g3:Has P w K mg "is_look_taken" 1 ["locker","kind"] (PD CL CK)):FnOk P w K mg base CX0 2 f fd ["locker","kind"] (W9 CL CK):=by
 refine F.ok fU (fun vs H Q E h=>?_) (fun cdv A outer s H vs Q E hr h=>?_)
 .obtain⟨a,kv,p,nm,ks,fl,R,rfl,_⟩:=h
  rfl
 .obtain⟨a,kv,p,nm,ks,fl,R,rfl,L,hlen,hkv,k⟩:=h
  refine⟨_,AJ (As (PW.pt (Hr (Aj UE (pv 1) Du (AY _)) (Jd (EG (DE (AO g1 hr (by rfl) (AB (pv 0) (AB (pv 1) AE)))))))) (AK (AM (AS c1 rfl))) Aw)
   (AJ (As (DE (AO g2 hr (by rfl) (AB (pv 0) (AB (pv 1) AE)))) (AK (AM (AS c2 rfl))) Aw)
   (AJ (As (PW.pt (Dv (Aj Bt (AW (pv 1) rfl) (AS c5 rfl) (AY _)) (Em (Aj Bt (BV Rq (by rfl) B.len CM (AB (AW (pv 0) rfl) AE)) (AS c6 rfl) (AY _))))) (AK (AM (AS c3 rfl))) Aw)
   (AJ (As (DE (AO g3 hr (by rfl) (AB (pv 0) (AB (pv 1) AE)))) (AK (AM (AS c4 rfl))) Aw)
   (AK (AM AU))))),?_⟩
  rcases hkv with ⟨rfl,rfl⟩ | ⟨b,z,rfl,hz,rfl⟩
  .exact⟨_,rfl,rfl,_,rfl,bT rfl (bT rfl (k H (Same.refl H)))⟩
  .unfold Kv at k
   refine⟨_,rfl,rfl,_,rfl,bF (JJj fun q=>nomatch q) ?_⟩
   refine⟨_,rfl,_,rfl,a,b,p,nm,ks,fl,z,rfl,L,hz,fun H1 s1=>⟨_,rfl,?_⟩⟩
   cases h1:IA ks z with
   | false =>
    rw[JJz h1] at k
    exact bT rfl (k H1 s1)
   | true =>
    rw[JJx (by rw[h1];decide)] at k
    refine bF rfl ?_
    refine⟨_,rfl,_,rfl,a,b,p,nm,ks,fl,z,rfl,L.mono s1,hz.mono s1,hlen,fun H2 s2=>⟨_,rfl,?_⟩⟩
    have s12:=s1.trans s2
    cases h2:Eg ks z with
    | true =>
     rw[JJz h2] at k
     exact bT rfl (k H2 s12)
    | false =>
     rw[JJx (by rw[h2];decide)] at k
     refine bF rfl ?_
     obtain⟨dz,lz,hz2,hlab2⟩:=hz.mono s12
     have L2:=L.mono s12
     obtain⟨dx,ho⟩:=L2.ob
     refine⟨_,rfl,b,CK,dz,_,_,rfl,hz2,TK.cl,TK.rank,Ef,rfl,_,rfl,?_⟩
     have last:(¬(z.lab.rank=1/\Fg ks=48))->Lv (PV (tB (Jj (PD CL CK) [] E0 (GK (En 0) (GK (En 1) GL)))) (IC (tC (V.int 4))) PY) (IC (tC (V.int 0))) { nx:=fun x H'=>Q V.non H',rt:=Q } (_root_.L2.start ["locker","kind"] [V.ref a,V.ref b]) H2:=fun hn=>by
      rw[JJx hn] at k
      refine⟨_,rfl,_,rfl,a,b,p,nm,ks,fl,z,rfl,L2,hz.mono s12,hlen,fun H3 s3=>⟨_,rfl,?_⟩⟩
      have s13:=s12.trans s3
      cases h3:JP ks z with
      | true =>
       rw[JJz h3] at k
       exact bT rfl (k H3 s13)
      | false =>
       rw[JJx (by rw[h3];decide)] at k
       exact bF rfl (k H3 s13)
     by_cases h3:z.lab.rank=1
     .refine bT (JJk (congrArg V.int h3)) ?_
      refine⟨_,rfl,a,CL,dx,_,_,rfl,ho,TL.cl,TL.signs,JO,p.sg,_,rfl,L2.sg,rfl,_,rfl,?_⟩
      rw[Lg]
      by_cases h4:Fg ks=48
      .rw[JJz ⟨h3,h4⟩] at k
       exact bT (JJk (by rw[h4];rfl)) (k H2 s12)
      .exact bF (JJj (Br (by omega))) (last fun q=>h4 q.2)
     .exact bF (JJj (Br h3)) (bF rfl (last fun q=>h3 q.1))
end
end Fb
namespace Fb
open PySem PySem.Spec PyProof.Rows L2
abbrev Uy:Stmt:=Vx
def NA (p:LA):Prop:=p.an≠p.ak/\p.af≠p.ak
def KeepBut (xs:List Addr) (H H':Hp):Prop:=∀x o,H x=some o->x∉xs->H' x=some o
theorem KeepBut.trans {xs:List Addr}{H H1 H2:Hp} (a:KeepBut xs H H1) (b:KeepBut xs H1 H2):KeepBut xs H H2:=fun x o e n=>b x o (a x o e n) n
theorem KeepBut.of {xs:List Addr}{H H':Hp} (s:Same H H'):KeepBut xs H H':=fun x o e _=>s x o e
theorem KeepBut.mono {xs ys:List Addr}{H H':Hp} (a:KeepBut xs H H') (h:∀x∈xs,x∈ys):KeepBut ys H H':=fun x o e n=>a x o e fun z=>n (h x z)
def Wx (CL CK:Addr):Sp:=fun vs H Q _=>∃(a b:Addr) (p:LA) (name:List Int) (kinds:List ZK) (fault:List Int) (z:ZK),vs=[.ref a,.ref b]/\LockAt CL CK H a p name kinds fault/\KindAt CK H b z/\NA p/\kinds.length < 100000/\Eg kinds z=false/\
 ∀H',LockAt CL CK H' a p name (kinds++[z]) fault->KeepBut [p.ak,p.sg,p.sm] H H'->Q .non H'
theorem scAddK:Ag ["locker","kind","number"] ["locker","kind"] (AL Uy):=⟨rfl,rfl,rfl,by decide +kernel,rfl,by decide +kernel,by decide +kernel⟩
theorem Lf (z:ZK):∀(ks:List ZK) (i:Nat),Ci i (ks++[z])=Ci i ks++(match z.lab with
  | .sign n=>[(Ap n,V.int ((i+ks.length:Nat):Int))]
  | _=>[])
 | [],i=>by
  rw[YV,Hw]
  cases z.lab <;> rfl
 | y::ks,i=>by
  rw[Ft,Hw,Hw,Lf z ks (i+1),Bn,show i+1+ks.length=i+(ks.length+1) by omega]
  cases y.lab <;> rfl
theorem Ld (z:ZK):∀(ks:List ZK) (i:Nat),Bu i (ks++[z])=Bu i ks++(match z.lab with
  | .same n=>[(BR n,V.int ((i+ks.length:Nat):Int))]
  | _=>[])
 | [],i=>by
  rw[YV,Hv]
  cases z.lab <;> rfl
 | y::ks,i=>by
  rw[Ft,Hv,Hv,Ld z ks (i+1),Bn,show i+1+ks.length=i+(ks.length+1) by omega]
  cases y.lab <;> rfl
theorem gE (ks:List ZK) (i:Nat):(Ci i ks).length<=ks.length:=by
 rw[Lg]
 exact IU _ _
theorem fH (ks:List ZK) (i:Nat):(Bu i ks).length<=ks.length:=by
 rw[Vn]
 exact Ox ks
theorem iV {ks:List ZK}{j:Int} (i:Nat) (h:(ks.any fun b=>match b.lab with
  | .same i=>decide (j<=i)
  | _=>false)=false):BO (Bu i ks) (BR j)=none:=by
 rcases Xu j ks i with ⟨h1,_⟩ | ⟨m,z,_,h2,h3⟩
 .exact h1
 .have hz:=Jz h3
  have hm:=J4 h3
  have:=(Ep.mp h) z hm
  have e:z.lab=.same j:=JJq hz
  rw[e] at this
  exact absurd (JJk (Int.le_refl j)) this
section
variable {P:Program}{w:World}{K:AD}{mg:Str->Option Value}{base:Heap}{CL CK:Addr}
theorem ok_addK {f:Addr}{fd:FuncData} (F:Fun K "add_kind" "add_kind" Uy f fd) (B:Blt mg) (TL:LockC K CL) (TK:KindC K CK) (c1:Cst mg "SIGN" (.int 1)) (c2:Cst mg "SAME" (.int 2)):FnOk P w K mg base CX0 1 f fd ["locker","kind"] (Wx CL CK):=by
 refine F.ok scAddK (fun vs H Q E h=>?_) (fun cdv A outer s H vs Q E hr h=>?_)
 .obtain⟨a,b,p,nm,ks,fl,z,rfl,_⟩:=h
  rfl
 .obtain⟨a,b,p,nm,ks,fl,z,rfl,L,hK,⟨ap1,ap2⟩,hlen,hlz,k⟩:=h
  have hu:=Ew hr
  obtain⟨dx,ho⟩:=L.ob
  obtain⟨as,hk,hp⟩:=L.ks
  obtain⟨dz,lz,hz,hlab⟩:=id hK
  have hl:=Bp hp
  refine⟨_,AJ (BN (i:=2) scAddK.nd rfl (Ai rfl) (BV CQ (by rfl) B.len CM (AB (AW (pv 0) rfl) AE)))
   (AJ (El (EE EU GX GY GH (AW (pv 0) rfl) (AB (pv 1) AE)))
   (AJ (As (Aj Bt (AW (pv 1) rfl) (AS c1 rfl) (AY _)) (AK (Ja hu (AW (pv 0) rfl) (AW (pv 1) rfl) (pv 2) rfl)) Aw)
   (AK (As (Aj Bt (AW (pv 1) rfl) (AS c2 rfl) (AY _)) (AK (Ja hu (AW (pv 0) rfl) (AW (pv 1) rfl) (pv 2) rfl)) Aw)))),?_⟩
  refine⟨_,rfl,a,CL,dx,_,_,rfl,ho,TL.cl,TL.kinds,GF,p.ak,_,rfl,.inl (SqL.of hk),?_⟩
  refine⟨_,rfl,a,CL,dx,_,_,rfl,ho,TL.cl,TL.kinds,GF,.inl ⟨rfl,_,SqL.of hk⟩,_,rfl,p.ak,_,_,rfl,rfl,hk,CG (by rw[AH,hl];omega),?_⟩
  have nak:∀{x:Addr} {o:HO},H x=some o->(∀xs,o≠.lst xs)->x≠p.ak:=fun e n=>BX e hk (n _)
  have k1:∀x o,H x=some o->x≠p.ak->upd H p.ak (.lst (as.map V.ref++[V.ref b])) x=some o:=fun x o e n=>by rw[AF n];exact e
  have ho1:=k1 _ _ ho (nak ho fun _ q=>nomatch q)
  have hz1:=k1 _ _ hz (nak hz fun _ q=>nomatch q)
  have hsg1:=k1 _ _ L.sg (nak L.sg fun _ q=>nomatch q)
  have hsm1:=k1 _ _ L.sm (nak L.sm fun _ q=>nomatch q)
  have hnm1:=k1 _ _ L.nm ap1
  have haf1:=k1 _ _ L.af ap2
  have hak1:upd H p.ak (.lst (as.map V.ref++[V.ref b])) p.ak=some (.lst ((as++[b]).map V.ref)):=by rw[AG,Bo];rfl
  have hlab1:NF (upd H p.ak (.lst (as.map V.ref++[V.ref b]))) lz z.lab:=by
   cases hh:z.lab with
   | sign n =>
    rw[hh] at hlab
    obtain⟨tp,e1,e2⟩:=hlab
    exact⟨tp,e1,k1 _ _ e2 (nak e2 fun _ q=>nomatch q)⟩
   | same n=>rw[hh] at hlab;exact hlab
   | ans=>rw[hh] at hlab;exact hlab
  have hp1:Paired (KindAt CK (upd H p.ak (.lst (as.map V.ref++[V.ref b])))) (as++[b]) (ks++[z]):=by
   have key:∀x y,KindAt CK H x y->KindAt CK (upd H p.ak (.lst (as.map V.ref++[V.ref b]))) x y:=fun x y q=>q.same fun x o e n1 _ _ _=>k1 x o e (nak e n1)
   exact Fc (Paired.mapP hp key) (key _ _ hK)
  have kb1:KeepBut [p.ak,p.sg,p.sm] H (upd H p.ak (.lst (as.map V.ref++[V.ref b]))):=fun x o e n=>k1 x o e fun q=>n (by simp[q])
  generalize upd H p.ak (.lst (as.map V.ref++[V.ref b]))=H1 at ho1 hz1 hsg1 hsm1 hnm1 haf1 hak1 hlab1 hp1 kb1 ⊢
  refine⟨_,rfl,b,CK,dz,_,_,rfl,hz1,TK.cl,TK.rank,Ef,rfl,_,rfl,?_⟩
  cases hh:z.lab with
  | ans =>
   refine bF (JJj (Br (by decide))) ?_
   refine⟨_,rfl,b,CK,dz,_,_,rfl,hz1,TK.cl,TK.rank,Ef,rfl,_,rfl,?_⟩
   rw[hh]
   refine bF (JJj (Br (by decide))) ?_
   refine k H1 ⟨⟨dx,ho1⟩,hnm1,⟨_,hak1,hp1⟩,?_,?_,haf1⟩ kb1
   .rw[Lf,hh,DI];exact hsg1
   .rw[Ld,hh,DI];exact hsm1
  | sign n =>
   rw[hh] at hlab1
   obtain⟨tp,e1,htp⟩:=hlab1
   subst e1
   refine bT (JJk rfl) ?_
   have htp':H1 tp=some (.tup ((Ap n).map kV)):=by rw[FY];exact htp
   have hv:BO (Ci 0 ks) (Ap n)=none:=by
    have h1:=Pf n ks 0
    unfold Eg at hlz
    rw[hh] at hlz
    have hlz:(ks.any fun b=>decide (b.lab=.sign n))=false:=hlz
    rw[hlz] at h1
    cases q:BO (Ci 0 ks) (Ap n) with
    | none=>rfl
    | some v=>rw[q] at h1;cases h1
   refine⟨_,rfl,_,rfl,a,CL,dx,_,_,rfl,ho1,TL.cl,TL.signs,JO,_,rfl,b,CK,dz,_,_,rfl,hz1,TK.cl,TK.label,K5,p.sg,_,rfl,DPut.t (k:=Ap n) hsg1 htp' (CG (by have:=gE ks 0;omega)),?_⟩
   have nsg:∀{x:Addr} {o:HO},H1 x=some o->(∀xs,o≠.dT xs)->x≠p.sg:=fun e n=>BX e hsg1 (n _)
   have k2:∀x o,H1 x=some o->x≠p.sg->upd H1 p.sg (.dT (Cg (Ci 0 ks) (Ap n) (V.int ((as.map V.ref).length:Nat)))) x=some o:=fun x o e n=>by rw[AF n];exact e
   have hz2:=k2 _ _ hz1 (nsg hz1 fun _ q=>nomatch q)
   refine⟨_,rfl,b,CK,dz,_,_,rfl,hz2,TK.cl,TK.rank,Ef,rfl,_,rfl,?_⟩
   rw[hh]
   refine bF (JJj (Br (show(1:Int)≠2 by decide))) ?_
   refine k _ ⟨⟨dx,k2 _ _ ho1 (nsg ho1 fun _ q=>nomatch q)⟩,k2 _ _ hnm1 (nsg hnm1 fun _ q=>nomatch q),⟨_,k2 _ _ hak1 (nsg hak1 fun _ q=>nomatch q),Paired.mapP hp1 fun x y q=>q.same fun x o e _ _ n3 _=>k2 x o e (nsg e n3)⟩,?_,?_,k2 _ _ haf1 (nsg haf1 fun _ q=>nomatch q)⟩ ?_
   .rw[AG,Lf,hh,UZ _ hv,AH,hl,ES]
   .rw[Ld,hh,DI]
    exact k2 _ _ hsm1 (nsg hsm1 fun _ q=>nomatch q)
   .exact kb1.trans fun x o e n=>k2 x o e fun q=>n (by simp[q])
  | same j =>
   rw[hh] at hlab1
   have hlab1:lz=.int j:=hlab1
   subst hlab1
   refine bF (JJj (Br (show(2:Int)≠1 by decide))) ?_
   refine⟨_,rfl,b,CK,dz,_,_,rfl,hz1,TK.cl,TK.rank,Ef,rfl,_,rfl,?_⟩
   rw[hh]
   refine bT (JJk rfl) ?_
   have hv:BO (Bu 0 ks) (BR j)=none:=by
    unfold Eg at hlz
    rw[hh] at hlz
    exact iV 0 hlz
   refine⟨_,rfl,_,rfl,a,CL,dx,_,_,rfl,ho1,TL.cl,TL.sames,K9,_,rfl,b,CK,dz,_,_,rfl,hz1,TK.cl,TK.label,K5,p.sm,_,rfl,DPut.k (k:=BR j) hsm1 (CG (by have:=fH ks 0;omega)),?_⟩
   have nsm:∀{x:Addr} {o:HO},H1 x=some o->(∀xs,o≠.dK xs)->x≠p.sm:=fun e n=>BX e hsm1 (n _)
   have k2:∀x o,H1 x=some o->x≠p.sm->upd H1 p.sm (.dK (Cg (Bu 0 ks) (BR j) (V.int ((as.map V.ref).length:Nat)))) x=some o:=fun x o e n=>by rw[AF n];exact e
   refine k _ ⟨⟨dx,k2 _ _ ho1 (nsm ho1 fun _ q=>nomatch q)⟩,k2 _ _ hnm1 (nsm hnm1 fun _ q=>nomatch q),⟨_,k2 _ _ hak1 (nsm hak1 fun _ q=>nomatch q),Paired.mapP hp1 fun x y q=>q.same fun x o e _ n2 _ _=>k2 x o e (nsm e n2)⟩,?_,?_,k2 _ _ haf1 (nsm haf1 fun _ q=>nomatch q)⟩ ?_
   .rw[Lf,hh,DI]
    exact k2 _ _ hsg1 (nsm hsg1 fun _ q=>nomatch q)
   .rw[AG,Ld,hh,UZ _ hv,AH,hl,ES]
   .exact kb1.trans fun x o e n=>k2 x o e fun q=>n (by simp[q])
end
end Fb
namespace Fb
open PySem PySem.Spec PyProof.Rows L2
theorem cH {b:AX}{x:Ad} (h:DY b=some x):∀j,x.role=.same j->1<=j:=by
 intro j hj
 unfold DY at h
 split at h
 .rename_i w n c s l _
  split at h
  .have:=(Gz h).2.2
   rw[this] at hj;cases hj
  .split at h
   .cases hd:GO 4 n with
    | none=>rw[hd] at h;cases h
    | some m =>
     rw[hd] at h
     have h:D4 (.same m) c s l=some x:=h
     have:=(Gz h).2.2
     rw[this] at hj
     cases hj
     exact(O3 hd).2
   .cases h
 .split at h
  .have:=(Gz h).2.2
   rw[this] at hj;cases hj
  .cases h
 .cases h
theorem LF (x:Str) (ns:List Int):Hm x ns=JT (BQ x) ns:=rfl
theorem aq:BQ "locker"=zs (BM "locker"):=by decide +kernel
abbrev Vi:Stmt:=Wq
structure LockS (CL CK:Addr) (H:Hp) (a:Addr) (p:LA) (s:LS) (fl:List Int) (i:Nat):Prop where
 at_:LockAt CL CK H a p (zs s.name) (s.kinds.map zk) fl
 wf:Wf s.kinds
 ap:NA p
 le:s.kinds.length<=i
theorem LockS.mono {CL CK:Addr}{H H':Hp}{a:Addr}{p:LA}{s:LS}{fl:List Int}{i:Nat} (x:LockS CL CK H a p s fl i) (h:Same H H'):LockS CL CK H' a p s fl i:=⟨x.at_.mono h,x.wf,x.ap,x.le⟩
def RZ (p p':LA):Prop:=p'.ak=p.ak/\p'.sg=p.sg/\p'.sm=p.sm/\p'.af=p.af
def Lr (K:AD) (CL CK:Addr):Sp:=fun vs H Q _=>∃(a la:Addr) (p:LA) (s:LS) (fl:List Int) (i:Nat) (b:AX),vs=[.ref a,.int (i:Nat),.ref la]/\LockS CL CK H a p s fl i/\i < 90000/\SqL K H la ((zs b).map V.int)/\b.length < 100000/\
 (∀k,CN s i b=.error k->∀H',Same H H'->Q (.int k) H')/\
 (∀s',CN s i b=.ok s'->∀H' p',LockS CL CK H' a p' s' fl (i+1)->RZ p p'->KeepBut [a,p.ak,p.sg,p.sm] H H'->Q (.int 0) H')
theorem scTakeL:Ag ["locker","number","line","kind","fault"] ["locker","number","line"] (AL Vi):=⟨rfl,rfl,rfl,by decide +kernel,rfl,by decide +kernel,by decide +kernel⟩
section
variable {P:Program}{w:World}{K:AD}{mg:Str->Option Value}{base:Heap}{CL CK:Addr}
theorem ok_takeL {f:Addr}{fd:FuncData} (F:Fun K "take_line" "take_line" Vi f fd) (hne:CL≠CK) (TL:LockC K CL) (c1:Cst mg "NO_SUCH_LINE" (.int 1)) (g1:Has P w K mg "is_naming_line" 3 ["line","first"] (Lo K)) (g2:Has P w K mg "named" 2 ["line"] (Ln K))
  (g3:Has P w K mg "kind_told" 4 ["line"] (XB K CK)) (g4:Has P w K mg "kind_fault" 2 ["locker","kind"] (W9 CL CK)) (g5:Has P w K mg "add_kind" 1 ["locker","kind"] (Wx CL CK)):FnOk P w K mg base CX0 5 f fd ["locker","number","line"] (Lr K CL CK):=by
 refine F.ok scTakeL (fun vs H Q E h=>?_) (fun cdv A outer s H vs Q E hr h=>?_)
 .obtain⟨a,la,p,s,fl,i,b,rfl,_⟩:=h
  rfl
 .obtain⟨a,la,p,st,fl,i,b,rfl,L,hi,hS,hlen,ke,ko⟩:=h
  have hr1:Room 1 _:=hr.mono (by decide)
  have hr2:Room 2 _:=hr.mono (by decide)
  have hr3:Room 3 _:=hr.mono (by decide)
  have zl:(zs b).length < 100000:=by rw[Al];exact hlen
  refine⟨_,AJ (As (Aj Bt (pv 1) AU (AY _))
    (AJ (As (EG (DE (AO g1 hr3 (by rfl) (AB (pv 2) (AB Dh AE))))) (AK (AM (AS c1 rfl))) Aw)
    (AJ (BY (pv 0) (AO g2 hr2 (by rfl) (AB (pv 2) AE)) rfl) (AK (AM AU)))) Aw)
   (AJ (BN (i:=3) scTakeL.nd rfl (Ai rfl) (AO g3 hr (by rfl) (AB (pv 2) AE)))
   (AJ (BN (i:=4) scTakeL.nd rfl (Ai rfl) (AO g4 hr2 (by rfl) (AB (pv 0) (AB (pv 3) AE))))
   (AJ (As (Aj Bt (pv 4) AU (AY _)) (AK (El (AO g5 hr1 (by rfl) (AB (pv 0) (AB (pv 3) AE))))) Aw)
   (AK (AM (pv 4)))))),?_⟩
  refine⟨_,rfl,rfl,_,rfl,?_⟩
  by_cases h0:i=0
  .subst h0
   refine bT (JJk rfl) ?_
   have hstep:CN st 0 b=match By (BM "locker") b with
     | none=>.error 1
     | some n=>.ok ⟨n,st.kinds⟩:=by
    unfold CN
    rw[JJz rfl]
    rfl
   refine⟨_,rfl,la,zs b,"locker",rfl,hS,zl,by decide,fun H1 s1=>⟨_,rfl,?_⟩⟩
   rw[LF,aq]
   cases hn:By (BM "locker") b with
   | none =>
    rw[hn] at hstep
    rw[LG hn]
    exact bT rfl (ke 1 hstep H1 s1)
   | some n =>
    rw[hn] at hstep
    obtain⟨q1,q2⟩:=LH hn
    rw[q1]
    refine bF rfl ?_
    refine⟨_,rfl,la,zs b,zs n,rfl,s1.seq hS,zl,q2,fun H2 q s2 nq hq=>?_⟩
    have s12:=s1.trans s2
    have L2:=L.at_.mono s12
    obtain⟨dx,ho⟩:=L2.ob
    refine⟨_,rfl,a,CL,dx,_,rfl,ho,TL.cl,TL.name,(by show 5 < 1000;decide),?_⟩
    have na:∀{x:Addr} {o:HO},H2 x=some o->(∀C dx fs,o≠.ins C dx fs)->x≠a:=fun e n=>BX e ho (n _ _ _)
    have k1:∀x o,H2 x=some o->x≠a->upd H2 a (.ins CL dx (BE "name" (V.ref q) (lf p.an p.ak p.sg p.sm p.af))) x=some o:=fun x o e n=>by rw[AF n];exact e
    have nq0:H q=none:=s1.free nq
    refine ko ⟨n,st.kinds⟩ hstep _ ⟨q,p.ak,p.sg,p.sm,p.af⟩ ⟨⟨⟨dx,AG⟩,k1 _ _ hq (na hq fun _ _ _ z=>nomatch z),?_,k1 _ _ L2.sg (na L2.sg fun _ _ _ z=>nomatch z),k1 _ _ L2.sm (na L2.sm fun _ _ _ z=>nomatch z),k1 _ _ L2.af (na L2.af fun _ _ _ z=>nomatch z)⟩,L.wf,⟨?_,L.ap.2⟩,Nat.le_succ_of_le L.le⟩ ⟨rfl,rfl,rfl,rfl⟩ ?_
    .obtain⟨as,hk,hp⟩:=L2.ks
     refine⟨as,k1 _ _ hk (na hk fun _ _ _ z=>nomatch z),Paired.mapP hp fun x y qq=>qq.same fun x o e _ _ _ n4=>k1 x o e fun z=>?_⟩
     rw[z,ho] at e
     cases e
     exact hne (n4 _ _ _ rfl)
    .obtain⟨as,hk,_⟩:=L.at_.ks
     exact fun z=>by rw[show q=p.ak from z,hk] at nq0;cases nq0
    .intro x o e n
     exact k1 x o (s12 x o e) fun z=>n (by simp[z])
  .refine bF (JJj (Br (by omega))) ?_
   have hstep:CN st i b=(Dj st.kinds b).map fun k=>⟨st.name,k⟩:=by
    unfold CN
    rw[JJx h0]
   have hle:=L.le
   refine⟨_,rfl,la,b,rfl,hS,hlen,fun hk H1 s1=>?_,fun x hk H1 kp s1 nkp hKp=>?_⟩
   .have hst:CN st i b=.error 1:=by rw[hstep];unfold Dj;rw[hk];rfl
    refine⟨_,rfl,_,rfl,a,.non,p,_,_,fl,1,rfl,L.at_.mono s1,by rw[AH];omega,.inl ⟨rfl,rfl⟩,fun H2 s2=>?_⟩
    refine⟨_,rfl,rfl,_,rfl,bF (JJj (Br (by decide))) ?_⟩
    exact⟨_,rfl,ke 1 hst H2 (s1.trans s2)⟩
   .refine⟨_,rfl,_,rfl,a,.ref kp,p,_,_,fl,_,rfl,L.at_.mono s1,by rw[AH];omega,.inr ⟨kp,zk x,rfl,hKp,rfl⟩,fun H2 s2=>?_⟩
    have s12:=s1.trans s2
    rw[bB L.wf x]
    cases hw:GR st.kinds x with
    | some e =>
     have hst:CN st i b=.error e:=by rw[hstep];unfold Dj;rw[hk];dsimp only;rw[hw];rfl
     have epos:e≠0:=by
      rw[Jo] at hw
      intro q
      subst q
      split at hw
      .cases hw
      .split at hw
       .cases hw
       .split at hw
        .cases hw
        .split at hw <;> cases hw
     refine⟨_,rfl,rfl,_,rfl,bF (JJj (Br (by show(e:Int)≠0;omega))) ?_⟩
     exact⟨_,rfl,ke e hst H2 s12⟩
    | none =>
     have hst:CN st i b=.ok ⟨st.name,st.kinds++[x]⟩:=by rw[hstep];unfold Dj;rw[hk];dsimp only;rw[hw];rfl
     have hlz:Eg (st.kinds.map zk) (zk x)=false:=by
      rw[Tf]
      rw[Jo] at hw
      cases hd:dup st.kinds x with
      | false=>rfl
      | true =>
       rw[hd] at hw
       split at hw
       .cases hw
       .rw[JJz rfl] at hw;cases hw
     refine⟨_,rfl,rfl,_,rfl,bT (JJk rfl) ?_⟩
     refine⟨_,rfl,_,rfl,a,kp,p,_,_,fl,zk x,rfl,L.at_.mono s12,hKp.mono s2,L.ap,by rw[AH];omega,hlz,fun H3 L3 kb=>?_⟩
     refine⟨_,rfl,?_⟩
     have e1:(st.kinds++[x]).map zk=st.kinds.map zk++[zk x]:=Bo
     refine ko _ hst H3 p ⟨by rw[e1];exact L3,L.wf.snoc (cH hk) hw,L.ap,by rw[BC];simp;omega⟩ ⟨rfl,rfl,rfl,rfl⟩ ?_
     intro y o e n
     exact kb y o (s12 y o e) fun z=>n (by simp at z ⊢;exact .inr z)
end
end Fb
namespace L2
open PySem PySem.Spec PyProof.Rows
open PySem.W (CodeHd tabObj kla_obj kla_fn envX)
theorem Fun.okC {P:Program}{w:World}{K:AD}{mg:Str->Option Value}{base:Heap}{x qual:Str}{st:Stmt}{f c:Addr}{fd:FuncData}{N ps:List Str}{k:Nat}{sp:Sp} (F:Fun K x qual st f fd) (hc:fd.code=.ref c) (S:Ag N ps (AL st)) (len:∀vs H Q E,sp vs H Q E->vs.length=ps.length)
  (hbody:∀(A:Around) (outer:List Env) (s:Shared) (H:Hp) (vs:List V) (Q:VK) (E:XK),Room k (A.deeper (envOfC qual (AL st) s.heap.objs.size f (.ref c)))->sp vs H Q E->
   ∃t,PSs (Eu CX0 P w K mg base N qual (AL st) f (.ref c) A outer s H E).nox (Cq st) t/\t { nx:=fun _ H'=>Q .non H',rt:=Q } (start N vs) H):FnOk P w K mg base CX0 (k+1) f fd ps sp:=by
 obtain⟨oc,od,kV,doc,pm,an,cdv,ct,osl,rfl,lk,hcd⟩:=F.ex
 have e:cdv=.ref c:=hc
 subst e
 refine Sj lk hcd S len fun A outer s H vs Q E hr hsp=>?_
 obtain⟨t,h,q⟩:=hbody A outer s H vs Q E hr hsp
 exact⟨t,h.nox,q⟩
def N3 (st:Stmt):Expr:=match (Cq st).getD 1 (.Pass ⟨0,0,0,0⟩) with
 | .Assign _ (.Call _ [_,l] _ _) _=>l
 | _=>.Constant .none 0 ⟨0,0,0,0⟩
def Hg (e:Expr):Arguments:=match e with
 | .Lambda a _ _ _=>a
 | _=>{ posonlyargs:=[],args:=[],vararg:=none,kwonlyargs:=[],kw_defaults:=[],kwarg:=none,defaults:=[] }
def Hj (e:Expr):Expr:=match e with
 | .Lambda _ b _ _=>b
 | _=>e
def EC (e:Expr):Scope:=match e with
 | .Lambda _ _ sc _=>sc
 | _=>{ kind:=.function,names:=[],isGenerator:=false,isCoroutine:=false }
def Bl (e:Expr):Pos:=match e with
 | .Lambda _ _ _ p=>p
 | _=>⟨0,0,0,0⟩
theorem Pd {cs:List Addr}{H0 H:Hp} (h:∀c∈cs,H c=none):Same H (DA cs H0 H):=fun b o e=>by
 rw[Dk fun m=>by rw[h b m] at e;cases e]
 exact e
def Es (H H':Hp):Prop:=∀b o,H b=some o->(∀φ,o≠.ext φ)->H' b=some o
theorem He {cs:List Addr}{H:Hp} (p:Plain cs H):Es H (hid cs H):=fun b o e n=>by
 rw[A7 (p.out e n)]
 exact e
end L2
namespace Fb
open PySem PySem.Spec PyProof.Rows L2
theorem KindAt.monoN {CK:Addr}{H H':Hp}{a:Addr}{z:ZK} (s:Es H H') (h:KindAt CK H a z):KindAt CK H' a z:=by
 obtain⟨dx,lv,h1,h2⟩:=h
 refine⟨dx,lv,s _ _ h1 (fun _ q=>nomatch q),?_⟩
 cases hz:z.lab with
 | sign n =>
  rw[hz] at h2
  obtain⟨t,e,ht⟩:=h2
  exact⟨t,e,s _ _ ht (fun _ q=>nomatch q)⟩
 | same k=>rw[hz] at h2;exact h2
 | ans=>rw[hz] at h2;exact h2
theorem LockAt.monoN {CL CK:Addr}{H H':Hp}{a:Addr}{p:LA}{name:List Int}{kinds:List ZK}{fault:List Int} (s:Es H H') (h:LockAt CL CK H a p name kinds fault):LockAt CL CK H' a p name kinds fault:=by
 obtain⟨⟨dx,h1⟩,h2,⟨as,h3,h4⟩,h5,h6,h7⟩:=h
 exact⟨⟨dx,s _ _ h1 (fun _ q=>nomatch q)⟩,s _ _ h2 (fun _ q=>nomatch q),⟨as,s _ _ h3 (fun _ q=>nomatch q),Paired.mapP h4 fun a z q=>q.monoN s⟩,s _ _ h5 (fun _ q=>nomatch q),s _ _ h6 (fun _ q=>nomatch q),s _ _ h7 (fun _ q=>nomatch q)⟩
abbrev VL:Stmt:=De Vu 0
def XG (CL:Addr):Sp:=fun vs H Q _=>∃(a dx:Addr),vs=[.ref a]/\H a=some (.ins CL dx [])/\
 ∀(H':Hp) (p:LA),H' a=some (.ins CL dx (lf p.an p.ak p.sg p.sm p.af))->H' p.an=some (.lst [])->H' p.ak=some (.lst [])->H' p.sg=some (.dT [])->H' p.sm=some (.dK [])->H' p.af=some (.lst [])->NA p->(∀b o,H b=some o->b≠a->H' b=some o)->(∀x∈[p.an,p.ak,p.sg,p.sm,p.af],H x=none)->Q .non H'
theorem fZ:Ag ["self"] ["self"] (AL VL):=⟨rfl,rfl,rfl,by decide +kernel,rfl,by decide +kernel,by decide +kernel⟩
section
variable {P:Program}{w:World}{K:AD}{mg:Str->Option Value}{base:Heap}{CL CK:Addr}
theorem ok_lockI {f:Addr}{fd:FuncData} (F:Fun K "__init__" "Locker.__init__" VL f fd) (T:LockC K CL):FnOk P w K mg base CX0 1 f fd ["self"] (XG CL):=by
 refine F.ok fZ (fun vs H Q E h=>?_) (fun cdv A outer s H vs Q E hr h=>?_)
 .obtain⟨a,dx,rfl,_⟩:=h
  rfl
 .obtain⟨a,dx,rfl,ha,k⟩:=h
  refine⟨_,AJ (BY (pv 0) (BD AE) rfl) (AJ (BY (pv 0) (BD AE) rfl) (AJ (BY (pv 0) UM rfl) (AJ (BY (pv 0) UL rfl) (AK (BY (pv 0) (BD AE) rfl))))),?_⟩
  have step:∀{H1:Hp} {fs:List (Str×V)} {q:Addr} {o:HO} {fs':List (Str×V)},H1 a=some (.ins CL dx fs)->H1 q=none->a≠q/\(upd (upd H1 q o) a (.ins CL dx fs')) a=some (.ins CL dx fs')/\(upd (upd H1 q o) a (.ins CL dx fs')) q=some o/\
    (upd H1 q o) a=some (.ins CL dx fs)/\(∀b u,H1 b=some u->b≠a->(upd (upd H1 q o) a (.ins CL dx fs')) b=some u):=fun {H1 fs q o fs'} h1 h2=>by
   have ne:a≠q:=Ac h1 h2
   refine⟨ne,AG,by rw[AF (Ar ne),AG],by rw[AF ne];exact h1,fun b u e n=>?_⟩
   rw[AF n,AF (Ac e h2)]
   exact e
  refine⟨Ax _,fun q1 n1=>?_⟩
  obtain⟨ne1,a1,b1,i1,k1⟩:=step (fs':=[("name",.ref q1)]) (o:=.lst []) ha n1
  refine⟨_,rfl,a,CL,dx,_,rfl,i1,T.cl,T.name,(by show 0 < 1000;decide),?_⟩
  refine⟨Ax _,fun q2 n2=>?_⟩
  obtain⟨ne2,a2,b2,i2,k2⟩:=step (fs':=[("name",.ref q1),("kinds",.ref q2)]) (o:=.lst []) a1 n2
  refine⟨_,rfl,a,CL,dx,_,rfl,i2,T.cl,T.kinds,(by show 1 < 1000;decide),?_⟩
  intro q3 n3
  obtain⟨ne3,a3,b3,i3,k3⟩:=step (fs':=[("name",.ref q1),("kinds",.ref q2),("signs",.ref q3)]) (o:=.dT []) a2 n3
  refine⟨_,rfl,a,CL,dx,_,rfl,i3,T.cl,T.signs,(by show 2 < 1000;decide),?_⟩
  intro q4 n4
  obtain⟨ne4,a4,b4,i4,k4⟩:=step (fs':=[("name",.ref q1),("kinds",.ref q2),("signs",.ref q3),("sames",.ref q4)]) (o:=.dK []) a3 n4
  refine⟨_,rfl,a,CL,dx,_,rfl,i4,T.cl,T.sames,(by show 3 < 1000;decide),?_⟩
  refine⟨Ax _,fun q5 n5=>?_⟩
  obtain⟨ne5,a5,b5,i5,k5⟩:=step (fs':=lf q1 q2 q3 q4 q5) (o:=.lst []) a4 n5
  refine⟨_,rfl,a,CL,dx,_,rfl,i5,T.cl,T.fault,(by show 4 < 1000;decide),?_⟩
  have c2:=k2 _ _ b1 (Ar ne1)
  have c3:=k3 _ _ c2 (Ar ne1)
  have c4:=k4 _ _ c3 (Ar ne1)
  have c5:=k5 _ _ c4 (Ar ne1)
  have d3:=k3 _ _ b2 (Ar ne2)
  have d4:=k4 _ _ d3 (Ar ne2)
  have d5:=k5 _ _ d4 (Ar ne2)
  have e4:=k4 _ _ b3 (Ar ne3)
  have e5:=k5 _ _ e4 (Ar ne3)
  have f5:=k5 _ _ b4 (Ar ne4)
  have kA:∀b u,H b=some u->b≠a->(upd (upd (upd (upd (upd (upd (upd (upd (upd (upd H q1 (.lst [])) a (.ins CL dx [("name",.ref q1)])) q2 (.lst [])) a (.ins CL dx [("name",.ref q1),("kinds",.ref q2)])) q3 (.dT [])) a (.ins CL dx [("name",.ref q1),("kinds",.ref q2),("signs",.ref q3)])) q4 (.dK [])) a
    (.ins CL dx [("name",.ref q1),("kinds",.ref q2),("signs",.ref q3),("sames",.ref q4)])) q5 (.lst [])) a (.ins CL dx (lf q1 q2 q3 q4 q5))) b=some u:=fun b u e n=>k5 _ _ (k4 _ _ (k3 _ _ (k2 _ _ (k1 _ _ e n) n) n) n) n
  have fr:∀{H1:Hp} {q:Addr},H1 q=none->(∀b u,H b=some u->b≠a->H1 b=some u)->a≠q->H q=none:=fun {H1 q} n k ne=>by
   cases z:H q with
   | none=>rfl
   | some u=>rw[k q u z (Ar ne)] at n;cases n
  refine k _ ⟨q1,q2,q3,q4,q5⟩ a5 c5 d5 e5 f5 b5 ⟨Ac b1 n2,Ar (Ac d4 n5)⟩ kA ?_
  intro x hx
  simp only[AQ,DZ,or_false] at hx
  rcases hx with rfl | rfl | rfl | rfl | rfl
  .exact n1
  .exact fr n2 (fun b u e n=>k1 _ _ e n) ne2
  .exact fr n3 (fun b u e n=>k2 _ _ (k1 _ _ e n) n) ne3
  .exact fr n4 (fun b u e n=>k3 _ _ (k2 _ _ (k1 _ _ e n) n) n) ne4
  .exact fr n5 (fun b u e n=>k4 _ _ (k3 _ _ (k2 _ _ (k1 _ _ e n) n) n) n) ne5
end
end Fb
namespace Fb
open PySem PySem.Spec PyProof.Rows L2
open PySem.W (CodeHd tabObj kla_obj kla_fn envX)
abbrev Lc:Stmt:=Wd
abbrev Cs:Expr:=N3 Lc
abbrev DU:Str:="read_locker.<locals>.<lambda>"
def T7 (cell:Addr) (pm:Value) (c':Addr) (ctv:Value):Obj:=kla_obj "<lambda>" DU (Hg Cs) (Hj Cs) (EC Cs) [("locker",cell)] pm c' ctv
theorem frL:∀y∈(EC Cs).names,y.2=Fx->y.1∈(["locker"]:List Str):=by decide +kernel
theorem fY (cell:Addr):KW ["number","line","locker"] ["number","line"] (EC Cs) [("locker",cell)] :=
 ⟨rfl,rfl,rfl,by decide +kernel,rfl,by decide +kernel,by decide +kernel,rfl,fun x hx=>by
  have:x="locker":=BB.mp hx
  subst this
  decide +kernel,fun y hy=>frL _ (Cb hy) rfl,DN.mpr ⟨DZ,IY⟩⟩
def XF (K:AD) (CL CK f c' cell:Addr) (pm ctv:Value):Sp:=fun vs H Q _=>∃(i:Nat) (la a:Addr),vs=[.int (i:Nat),.ref la]/\H f=some (KO f (T7 cell pm c' ctv))/\CodeO H c' DU/\Cp H cell (.ref a)/\
 Lr K CL CK [.ref a,.int (i:Nat),.ref la] (hid [cell] H) (fun v H'=>H' cell=none->Q v (DA [cell] H H')) E0
section
variable {P:Program}{w:World}{K:AD}{mg:Str->Option Value}{base:Heap}{CL CK:Addr}
theorem dQ {f c' cell:Addr}{pm ctv:Value} (g:Has P w K mg "take_line_lockers" 6 ["locker","number","line"] (Lr K CL CK)):
  FnOk P w K mg base CX0 7 f (kla_fn "<lambda>" DU (Hg Cs) (Hj Cs) (EC Cs) [("locker",cell)] pm (.ref c') ctv) ["number","line"] (XF K CL CK f c' cell pm ctv):=by
 refine N4 (fY cell) (fun vs H Q E h=>?_) (fun vs H Q E h=>?_)
 .obtain⟨i,la,a,rfl,_⟩:=h
  rfl
 .obtain⟨i,la,a,rfl,hf,hc,hv,hsp⟩:=h
  refine⟨hf,hc,[.ref a],.cons hv .nil,fun A outer s hr=>?_⟩
  refine⟨_,AO g hr (by rfl) (AB (pv 2) (AB (pv 0) (AB (pv 1) AE))),?_⟩
  refine⟨_,rfl,_,rfl,_,rfl,?_⟩
  obtain⟨a',la',p,st,fl,i',b,e,r1,r2,r3,r4,k1,k2⟩:=hsp
  refine⟨a',la',p,st,fl,i',b,e,r1,r2,r3,r4,fun k hk H' s' hn=>k1 k hk H' s' (hn _ (by simp)),fun s' hs H' p' q1 q2 q3 hn=>k2 s' hs H' p' q1 q2 q3 (hn _ (by simp))⟩
end
end Fb
namespace Fb
open PySem PySem.Spec PyProof.Rows L2
open PySem.W (CodeHd tabObj kla_obj kla_fn envX)
def SameT (H H':Hp):Prop:=∀b o,H b=some o->(∀ps,o≠.tbl ps)->H' b=some o
theorem Same.t {H H':Hp} (s:Same H H'):SameT H H':=fun b o e _=>s b o e
theorem SameT.trans {H H1 H2:Hp} (a:SameT H H1) (b:SameT H1 H2):SameT H H2:=fun c o e n=>b c o (a c o e n) n
theorem SameT.seq {K:AD}{H H':Hp}{a:Addr}{xs:List V} (e:SameT H H') (h:SqL K H a xs):SqL K H' a xs:=by
 rcases h with (h | ⟨o,h⟩) | h
 .exact .inl (.inl (e _ _ h fun _ q=>nomatch q))
 .exact .inl (.inr ⟨o,e _ _ h fun _ q=>nomatch q⟩)
 .exact .inr h
theorem KU {H H':Hp}{c:Addr}{q:Str} (s:SameT H H') (h:CodeO H c q):CodeO H' c q:=by
 obtain⟨o,vs,t,e,d,r⟩:=h
 exact⟨o,vs,t,s _ _ e (fun _ z=>nomatch z),d,r⟩
theorem Bw {H H':Hp}{Pt:Addr}{pos:Pos}{q:Str} (s:Same H H') (h:Bd H Pt pos q):Bd H' Pt pos q:=by
 rcases h with h | ⟨c',h,hc⟩
 .exact .inl (s _ _ h)
 .exact .inr ⟨c',s _ _ h,KU (Same.t s) hc⟩
theorem LockAt.monoT {CL CK:Addr}{H H':Hp}{a:Addr}{p:LA}{name:List Int}{kinds:List ZK}{fault:List Int} (s:SameT H H') (h:LockAt CL CK H a p name kinds fault):LockAt CL CK H' a p name kinds fault:=by
 obtain⟨⟨dx,h1⟩,h2,⟨as,h3,h4⟩,h5,h6,h7⟩:=h
 refine⟨⟨dx,s _ _ h1 (fun _ q=>nomatch q)⟩,s _ _ h2 (fun _ q=>nomatch q),⟨as,s _ _ h3 (fun _ q=>nomatch q),Paired.mapP h4 fun a z q=>?_⟩,s _ _ h5 (fun _ q=>nomatch q),s _ _ h6 (fun _ q=>nomatch q),s _ _ h7 (fun _ q=>nomatch q)⟩
 obtain⟨dz,lv,q1,q2⟩:=q
 refine⟨dz,lv,s _ _ q1 (fun _ q=>nomatch q),?_⟩
 cases hz:z.lab with
 | sign n =>
  rw[hz] at q2
  obtain⟨t,e,ht⟩:=q2
  exact⟨t,e,s _ _ ht (fun _ q=>nomatch q)⟩
 | same k=>rw[hz] at q2;exact q2
 | ans=>rw[hz] at q2;exact q2
theorem gY {s:LS}{i k:Nat}{b:AX} (h:CN s i b=.error k):k≠0:=by
 unfold CN at h
 split at h
 .split at h
  .cases h;decide
  .cases h
 .unfold Dj at h
  cases hk:DY b with
  | none=>rw[hk] at h;cases h;decide
  | some x =>
   rw[hk] at h
   dsimp only at h
   cases hw:GR s.kinds x with
   | none=>rw[hw] at h;cases h
   | some e =>
    rw[hw] at h
    have h:(Cj e:Except Nat LS)=.error k:=h
    cases h
    rw[Jo] at hw
    intro q
    subst q
    split at hw
    .cases hw
    .split at hw
     .cases hw
     .split at hw
      .cases hw
      .split at hw <;> cases hw
theorem LockAt.fault {CL CK:Addr}{H H':Hp}{a q dx:Addr}{p:LA}{name:List Int}{kinds:List ZK}{fault fl:List Int} (hne:CL≠CK) (h:LockAt CL CK H a p name kinds fault) (hd:H a=some (.ins CL dx (lf p.an p.ak p.sg p.sm p.af))) (hq:H q=some (.lst (fl.map V.int)))
  (e:H'=upd H a (.ins CL dx (BE "fault" (.ref q) (lf p.an p.ak p.sg p.sm p.af)))):LockAt CL CK H' a ⟨p.an,p.ak,p.sg,p.sm,q⟩ name kinds fl:=by
 subst e
 have na:∀{x:Addr} {o:HO},H x=some o->(∀C dx fs,o≠.ins C dx fs)->upd H a (.ins CL dx (BE "fault" (.ref q) (lf p.an p.ak p.sg p.sm p.af))) x=some o:=fun {x o} e n=>by
  rw[AF (BX e hd (n _ _ _))]
  exact e
 refine⟨⟨dx,AG⟩,na h.nm (fun _ _ _ z=>nomatch z),?_,na h.sg (fun _ _ _ z=>nomatch z),na h.sm (fun _ _ _ z=>nomatch z),na hq (fun _ _ _ z=>nomatch z)⟩
 obtain⟨as,hk,hp⟩:=h.ks
 refine⟨as,na hk (fun _ _ _ z=>nomatch z),Paired.mapP hp fun x y qq=>qq.same fun x o e _ _ _ n4=>?_⟩
 rw[AF]
 .exact e
 .intro z
  rw[z,hd] at e
  cases e
  exact hne (n4 _ _ _ rfl)
def Iv (t:AX) (nm:List Int) (ks:List ZK) (fl:List Int):Prop:=match Eo t with
 | .error _=>fl≠[]
 | .ok L=>fl=[]/\nm=zs L.name/\ks=L.kinds.map zk/\Wf L.kinds
def XR (K:AD) (CL CK Pt:Addr):Sp:=fun vs H Q _=>∃(a:Addr) (t:AX),vs=[.ref a]/\SqL K H a ((zs t).map V.int)/\t.length < 80000/\Bd H Pt (Bl Cs) DU/\
 ∀(H':Hp) (x:Addr) (p:LA) (nm:List Int) (ks:List ZK) (fl:List Int),KeepBut [Pt] H H'->Bd H' Pt (Bl Cs) DU->LockAt CL CK H' x p nm ks fl->Iv t nm ks fl->Q (.ref x) H'
theorem scReadL:Ag ["text","locker"] ["text"] (AL Lc):=⟨rfl,rfl,rfl,by decide +kernel,rfl,by decide +kernel,by decide +kernel⟩
section
variable {P:Program}{w:World}{K:AD}{mg:Str->Option Value}{base:Heap}{CL CK Pt:Addr}
theorem ok_readL {f c:Addr}{fd:FuncData} (F:Fun K "read_locker" "read_locker" Lc f fd) (hc:fd.code=.ref c) (C:CodeHd base c Pt) (hbm:F1 mg base) (B:Blt mg) (hne:CL≠CK) (TL:LockC K CL) (c1:Cst mg "NO_SUCH_LINE" (.int 1)) (g0:D7 P w K mg "Locker" CL 1 ["self"] (XG CL))
  (g1:Has P w K mg "first_fault" 9 ["text","take"] (Lk P w K mg 7)) (g2:Has P w K mg "take_line_lockers" 6 ["locker","number","line"] (Lr K CL CK)) (g3:Has P w K mg "count_lines" 1 ["text"] (Lj K)):
  FnOk P w K mg base CX0 10 f fd ["text"] (XR K CL CK Pt):=by
 refine F.okC hc scReadL (fun vs H Q E h=>?_) (fun A outer s H vs Q E hr h=>?_)
 .obtain⟨a,t,rfl,_⟩:=h
  rfl
 .obtain⟨a,t,rfl,hS,hlen,hT,k⟩:=h
  have hr2:Room 2 _:=hr.mono (by decide)
  have hr1:Room 1 _:=hr.mono (by decide)
  obtain⟨f1,fd1,h1,h2,h3,h4⟩:=g1
  refine⟨_,AJ (BN (i:=1) scReadL.nd rfl (ET rfl) (OY g0 hr2 (by rfl)))
   (AJ (BY (pv 1) (OV (h4 base) hr (by rfl) h1 h2 h3 (fun _=>rfl) (by show(["locker"]:List Str).Nodup;decide) (AB (pv 0) (AB (OX (clos:=[("locker",s.heap.objs.size+1)]) (qual:=DU) rfl C hbm (by rfl) (by rfl) (by rfl)) AE))) rfl)
   (AJ (As (PW.pt (Dv (Aj (Ei hr.units) (AW (pv 1) rfl) (BD AE) (AY _)) (Em (Aj Bt (BV Rq (by rfl) B.len CM (AB (AW (pv 1) rfl) AE)) AU (AY _)))))
    (AK (BY (pv 1) (BD (AB (AS c1 rfl) (AB (AO g3 hr1 (by rfl) (AB (pv 0) AE)) AE))) rfl)) Aw)
   (AK (AM (pv 1))))),?_⟩
  intro x dx nx ndx nex
  refine⟨x,dx,rfl,AG,fun H1 p hx1 han hak hsg hsm haf hap kp hfr=>⟨rfl,?_⟩⟩
  have s1:Same H H1:=Same.made nx ndx kp
  have fr:∀q∈[p.an,p.ak,p.sg,p.sm,p.af],H q=none:=fun q hq=>by
   have:=hfr q hq
   cases z:H q with
   | none=>rfl
   | some u =>
    have e1:q≠x:=Ac z nx
    have e2:q≠dx:=Ac z ndx
    rw[AF e1,AF e2,z] at this
    cases this
  have hx1':LockAt CL CK H1 x p [] [] []:=⟨⟨dx,hx1⟩,han,⟨[],hak,.nil⟩,hsg,hsm,haf⟩
  refine⟨_,rfl,Bw s1 hT,fun H2 fL c' pm ctv kp2 nf hf hPt hco=>?_⟩
  intro H3 ho3 hn3 hcell
  have ho3:∀b,b∉[s.heap.objs.size+1]->H3 b=H2 b:=ho3
  have hn3:∀b∈[s.heap.objs.size+1],H2 b=none:=hn3
  have hcv:Cp H3 (s.heap.objs.size+1) (.ref x):=hcell 1 "locker" (.ref x) (s.heap.objs.size+1) rfl rfl rfl rfl
  clear hcell
  generalize hcl:s.heap.objs.size+1=cell at hf ho3 hn3 hcv
  have nc2:H2 cell=none:=hn3 cell (AV ..)
  have s23:Same H2 H3:=fun b o e=>by
   rw[ho3 b fun m=>by rw[BB.mp m,nc2] at e;cases e]
   exact e
  have hTb:∃ps,H1 Pt=some (.tbl ps):=by
   rcases Bw s1 hT with e | ⟨c2,e,_⟩
   .exact⟨_,e⟩
   .exact⟨_,e⟩
  obtain⟨ps1,hPt1⟩:=hTb
  have s12:SameT H1 H2:=fun b o e n=>kp2 b o e fun z=>by rw[z,hPt1] at e;cases e;exact n _ rfl
  have s13:SameT H1 H3:=s12.trans (Same.t s23)
  have L3:LockAt CL CK H3 x p [] [] []:=hx1'.monoT s13
  have hS3:SqL K H3 a ((zs t).map V.int):=s13.seq (s1.seq hS)
  have hf3:=s23 _ _ hf
  have hPt3:=s23 _ _ hPt
  have hco3:CodeO H3 c' DU:=KU (Same.t s23) hco
  obtain⟨dx3,hx3⟩:=L3.ob
  obtain⟨as3,hak3,_⟩:=L3.ks
  have out:∀{b:Addr} {o:HO},H3 b=some o->(∀C d fs,o≠.ins C d fs)->(∀xs,o≠.lst xs)->(∀xs,o≠.dT xs)->(∀xs,o≠.dK xs)->b∉[x,p.ak,p.sg,p.sm]:=fun {b o} e n1 n2 n3 n4 m=>by
   simp only[AQ,DZ,or_false] at m
   rcases m with rfl | rfl | rfl | rfl
   .rw[hx3] at e;cases e;exact n1 _ _ _ rfl
   .rw[hak3] at e;cases e;exact n2 _ rfl
   .rw[L3.sg] at e;cases e;exact n3 _ rfl
   .rw[L3.sm] at e;cases e;exact n4 _ rfl
  have ourN:∀b∈[x,p.ak,p.sg,p.sm],H b=none/\H3 b≠none:=fun b m=>by
   simp only[AQ,DZ,or_false] at m
   rcases m with rfl | rfl | rfl | rfl
   .exact⟨nx,by rw[hx3];simp⟩
   .exact⟨fr _ (by simp),by rw[hak3];simp⟩
   .exact⟨fr _ (by simp),by rw[L3.sg];simp⟩
   .exact⟨fr _ (by simp),by rw[L3.sm];simp⟩
  have hcut:BF 10 (zs t)=(AR t).map zs++[zs (Be t)]:=by rw[Kk,F3,Bo];rfl
  have hfl:(AR t).length<=t.length:=by
   have:=Gr 10 (zs t)
   rw[hcut,BC,AH,Al] at this
   simp at this
   omega
  have part:∀y∈AR t,y.length < 100000:=fun y hy=>by
   have:=Ez 10 (zs t) (zs y) (by rw[hcut];exact IW _ (Bb.mpr ⟨y,hy,rfl⟩))
   rw[Al,Al] at this
   omega
  let J:Nat->Hp->Prop:=fun i H'=>∃(p':LA) (st:LS),Fi CN ⟨[],[]⟩ (AR t) i st/\LockS CL CK H' x p' st [] i/\RZ p p'/\KeepBut [x,p.ak,p.sg,p.sm] H3 H'
  have Jf:∀{i H'},J i H'->H' fL=some (KO fL (T7 cell pm c' ctv)):=fun ⟨_,_,_,_,_,kb⟩=>kb _ _ hf3 (out hf3 (fun _ _ _ q=>nomatch q) (fun _ q=>nomatch q) (fun _ q=>nomatch q) (fun _ q=>nomatch q))
  have Jc:∀{i H'},J i H'->CodeO H' c' DU:=fun ⟨_,_,_,_,_,kb⟩=>by
   obtain⟨o,vs,tt,e,d,r⟩:=hco3
   exact⟨o,vs,tt,kb _ _ e (out e (fun _ _ _ q=>nomatch q) (fun _ q=>nomatch q) (fun _ q=>nomatch q) (fun _ q=>nomatch q)),d,r⟩
  have Jl:∀{i H'},J i H'->H' cell=H3 cell:=fun ⟨_,_,_,_,_,kb⟩=>by
   obtain⟨o,u,e,_⟩:=hcv
   rw[kb _ _ e (out e (fun _ _ _ q=>nomatch q) (fun _ q=>nomatch q) (fun _ q=>nomatch q) (fun _ q=>nomatch q)),e]
  have Jp:∀{i H'},J i H'->H' Pt=some (.tbl #[rawInt (Bl Cs).line,rawInt (Bl Cs).col,.ref c']):=fun ⟨_,_,_,_,_,kb⟩=>kb _ _ hPt3 (out hPt3 (fun _ _ _ q=>nomatch q) (fun _ q=>nomatch q) (fun _ q=>nomatch q) (fun _ q=>nomatch q))
  have Jm:∀i H1 H2,J i H1->Same H1 H2->J i H2:=fun i H1 H2 ⟨p',st,h1,h2,h3,h4⟩ ss=>⟨p',st,h1,h2.mono ss,h3,h4.trans (KeepBut.of ss)⟩
  have TC:KY P w K mg 7 H3 fL ((AR t).map zs) J (rAt CN ⟨[],[]⟩ (AR t)):=by
   refine⟨⟨p,⟨[],[]⟩,PN,⟨L3,Wf.nil,hap,Aa _⟩,⟨rfl,rfl,rfl,rfl⟩,fun b o e _=>e⟩,Jm,fun i H' j=>⟨_,_,Jf j,rfl⟩,_,XF K CL CK fL c' cell pm ctv,fun base=>dQ g2,.all (fun us hl=>match us,hl with | [_,_],_=>rfl),?_⟩
   intro i la ln H4 Q1 hln hJ nla hla hq
   have hf4:=Jf hJ
   have hc4:=Jc hJ
   have hl4:=Jl hJ
   obtain⟨p',st,hst,LS4,hsl,kb⟩:=id hJ
   rw[Ao] at hln
   cases hb:(AR t)[i]? with
   | none=>rw[hb] at hln;cases hln
   | some b =>
   rw[hb] at hln
   have eb:zs b=ln:=Af hln
   subst eb
   have hi:i < (AR t).length:=(CJ.mp hb).1
   have hR:=Hs (step:=CN) hst hb
   have hcv4:Cp H4 cell (.ref x):=by
    obtain⟨o,u,e,r,r2⟩:=hcv
    exact⟨o,u,by rw[hl4];exact e,r,r2⟩
   have plain:Plain [cell] H4:=fun y hy u e=>by
    obtain⟨o,_,q,_⟩:=hcv4
    rw[BB.mp hy,q] at e
    cases e
    exact⟨_,rfl⟩
   have sN:=He plain
   refine⟨i,la,x,rfl,hf4,hc4,hcv4,x,la,p',st,[],i,b,rfl,⟨LS4.at_.monoN sN,LS4.wf,LS4.ap,LS4.le⟩,by omega,SqL.of (sN _ _ hla fun _ q=>nomatch q),part b (Cw hb),fun kk hk H' s' hn=>?_,fun st' hs H' p'' q1 q2 q3 hn=>?_⟩
   .rw[hk] at hR
    have hR:rAt CN ⟨[],[]⟩ (AR t) i=(kk:Int):=hR
    have su:Same H4 (DA [cell] H4 H'):=fun y o e=>by
     by_cases m:y∈[cell]
     .rw[G5 m];exact e
     .rw[Dk m];exact s' y o (by rw[A7 m];exact e)
    have kpos:=gY hk
    rw[<- hR]
    refine hq _ (fun y o _ e=>su y o e) (fun z=>?_) fun _=>Jm i _ _ hJ su
    rw[hR] at z
    exact absurd (show kk=0 by omega) kpos
   .rw[hs] at hR
    have hR:rAt CN ⟨[],[]⟩ (AR t) i=0:=hR
    have su:Same H' (DA [cell] H4 H'):=Pd fun y hy=>by rw[BB.mp hy];exact hn
    have ku:KeepBut [x,p.ak,p.sg,p.sm] H4 (DA [cell] H4 H'):=fun y o e n=>by
     by_cases m:y∈[cell]
     .rw[G5 m];exact e
     .rw[Dk m]
      refine q3 y o (by rw[A7 m];exact e) ?_
      rw[hsl.1,hsl.2.1,hsl.2.2.1]
      exact n
    rw[<- hR]
    refine hq _ (fun y o n e=>ku y o e fun m=>(ourN y m).2 n) (fun _=>⟨p'',st',PM hst hb hs,q1.mono su,?_,kb.trans ku⟩) fun z=>absurd hR z
    obtain⟨w1,w2,w3,w4⟩:=q2
    obtain⟨v1,v2,v3,v4⟩:=hsl
    exact⟨w1.trans v1,w2.trans v2,w3.trans v3,w4.trans v4⟩
  refine⟨a,fL,zs t,(AR t).map zs,zs (Be t),J,rAt CN ⟨[],[]⟩ (AR t),rfl,hS3,by rw[Al];omega,hcut,TC,fun H0 pR j res hJ0 np0 hTold=>?_⟩
  have hJ:=Jm j _ _ hJ0 ((Same.refl H0).new (o:=.lst (res.map V.int)) np0)
  have hpR:upd H0 pR (.lst (res.map V.int)) pR=some (.lst (res.map V.int)):=AG
  generalize upd H0 pR (.lst (res.map V.int))=H' at hJ hpR ⊢
  have hl':=Jl hJ
  have hP':=Jp hJ
  have hc':=Jc hJ
  obtain⟨p',st,hst,LS',hsl,kb⟩:=id hJ
  refine⟨fun c2 hc2=>by
   have:c2=s.heap.objs.size+1:=BB.mp hc2
   rw[this,hcl];exact hl',?_⟩
  show En 1 _ _ _
  have ecs:CV ((Eu CX0 P w K mg base ["text","locker"] "read_locker" (AL Lc) f (Ab c) A outer s H E).nox)=[cell]:=by rw[<- hcl];rfl
  rw[ecs]
  have plain:Plain [cell] H':=fun y hy u e=>by
   obtain⟨o,_,q,_⟩:=hcv
   rw[BB.mp hy,hl',q] at e
   cases e
   exact⟨_,rfl⟩
  have sN:=He plain
  have Lh:=LS'.at_.monoN sN
  obtain⟨dx4,hx4⟩:=Lh.ob
  have hpR4:=sN _ _ hpR fun _ q=>nomatch q
  have kpH:KeepBut [Pt] H (hid [cell] H'):=fun b o e n=>by
   have n:b≠Pt:=fun z=>n (by simp[z])
   have e2:=kp2 b o (s1 b o e) n
   have nb:b∉[cell]:=fun m=>by rw[BB.mp m,nc2] at e2;cases e2
   rw[A7 nb]
   exact kb b o (s23 b o e2) fun m=>by rw[(ourN b m).1] at e;cases e
  have tabH:Bd (hid [cell] H') Pt (Bl Cs) DU:=by
   refine .inr ⟨c',sN _ _ hP' (fun _ q=>nomatch q),?_⟩
   obtain⟨o,vs,tt,e,d,r⟩:=hc'
   have:c'∉[cell]:=fun m=>by
    obtain⟨o2,_,_,e2,_⟩:=hco
    rw[BB.mp m,nc2] at e2
    cases e2
   exact⟨o,vs,tt,by rw[A7 this];exact e,d,r⟩
  have hSh:SqL K (hid [cell] H') a ((zs t).map V.int):=by
   rcases hS with (h | ⟨o,h⟩) | h
   .exact .inl (.inl (kpH _ _ h fun m=>by
     have hT':=hT
     rw[BB.mp m] at h
     rcases hT' with q | ⟨_,q,_⟩ <;> (rw[h] at q;cases q)))
   .exact .inl (.inr ⟨o,kpH _ _ h fun m=>by
     have hT':=hT
     rw[BB.mp m] at h
     rcases hT' with q | ⟨_,q,_⟩ <;> (rw[h] at q;cases q)⟩)
   .exact .inr h
  generalize hid [cell] H'=Hh at Lh hx4 hpR4 kpH tabH hSh ⊢
  refine⟨_,rfl,x,CL,dx4,_,rfl,hx4,TL.cl,TL.fault,(by show 5 < 1000;decide),?_⟩
  have L5:=Lh.fault (fl:=res) hne hx4 hpR4 rfl
  have nxP:x≠Pt:=fun z=>by
   rcases tabH with q | ⟨_,q,_⟩ <;> (rw[<- z,hx4] at q;cases q)
  have kp5:KeepBut [Pt] H (upd Hh x (.ins CL dx4 (BE "fault" (V.ref pR) (lf p'.an p'.ak p'.sg p'.sm p'.af)))):=fun b o e n=>by
   rw[AF (Ac e nx)]
   exact kpH b o e n
  have tab_upd:∀{G:Hp} {o:HO},Bd G Pt (Bl Cs) DU->(∃d fs,G x=some (.ins CL d fs))->Bd (upd G x o) Pt (Bl Cs) DU:=fun {G o} h hx=>by
   obtain⟨d,fs,hx⟩:=hx
   rcases h with q | ⟨c2,q,o2,vs,tt,e,r⟩
   .exact .inl (by rw[AF (Ar nxP)];exact q)
   .exact .inr ⟨c2,by rw[AF (Ar nxP)];exact q,o2,vs,tt,by rw[AF (BX e hx (by intro z;cases z))];exact e,r⟩
  have tab5:=tab_upd (o:=.ins CL dx4 (BE "fault" (V.ref pR) (lf p'.an p'.ak p'.sg p'.sm p'.af))) tabH ⟨_,_,hx4⟩
  have hS5:SqL K (upd Hh x (.ins CL dx4 (BE "fault" (V.ref pR) (lf p'.an p'.ak p'.sg p'.sm p'.af)))) a ((zs t).map V.int):=by
   rcases hSh with (h | ⟨o,h⟩) | h
   .exact .inl (.inl (by rw[AF (BX h hx4 (by intro z;cases z))];exact h))
   .exact .inl (.inr ⟨o,by rw[AF (BX h hx4 (by intro z;cases z))];exact h⟩)
   .exact .inr h
  generalize upd Hh x (.ins CL dx4 (BE "fault" (V.ref pR) (lf p'.an p'.ak p'.sg p'.sm p'.af)))=H5 at L5 kp5 tab5 hS5 ⊢
  obtain⟨dx5,hx5⟩:=L5.ob
  refine⟨_,rfl,x,CL,dx5,_,_,rfl,hx5,TL.cl,TL.fault,Tj (p:=⟨p'.an,p'.ak,p'.sg,p'.sm,pR⟩),Ax _,fun l nl=>?_⟩
  have s56:Same H5 (upd H5 l (.lst [])):=(Same.refl H5).new nl
  have L6:=L5.mono s56
  have kp6:KeepBut [Pt] H (upd H5 l (.lst [])):=kp5.trans (KeepBut.of s56)
  have tab6:=Bw s56 tab5
  have hS6:=s56.seq hS5
  refine⟨_,_,Ay (SqL.of L6.af),Ay (ns:=[]) (SqL.of AG),Au _,Au _,?_⟩
  rw[Bx]
  generalize upd H5 l (.lst [])=H6 at L6 kp6 tab6 hS6 ⊢
  obtain⟨dx6,hx6⟩:=L6.ob
  refine⟨_,rfl,?_⟩
  have jud:=bt t
  by_cases hres:res=[]
  .refine bT (JJk hres) ?_
   subst hres
   have hj:j=((AR t).map zs).length/\zs (Be t)=[]:=by
    rcases hTold with ⟨_,_,_,q⟩ | ⟨q1,_,q2⟩
    .cases q
    .refine⟨q1,?_⟩
     by_cases z:zs (Be t)=[]
     .exact z
     .rw[JJx z] at q2;cases q2
   have hr0:Be t=[]:=zs_nil.mp hj.2
   have hjn:j=(AR t).length:=by rw[hj.1,AH]
   subst hjn
   rw[Jg hst] at jud
   refine⟨_,rfl,x,CL,dx6,_,_,rfl,hx6,TL.cl,TL.signs,JO (p:=⟨p'.an,p'.ak,p'.sg,p'.sm,pR⟩),p'.sg,_,rfl,L6.sg,rfl,_,rfl,?_⟩
   rw[Lg]
   have hz:Fg (st.kinds.map zk)=0↔st.kinds.all (fun k=>!k.isSign)=true:=by
    rw[Wv,HH,YF,Cu]
    exact⟨fun h y hy=>by have:=h y hy;cases q:y.isSign with | false=>rfl | true=>exact absurd q this,fun h y hy q=>by have:=h y hy;rw[q] at this;cases this⟩
   by_cases h0:Fg (st.kinds.map zk)=0
   .refine bT (JJk (by rw[h0];rfl)) ?_
    refine⟨_,rfl,a,zs t,rfl,hS6,fun H7 s7=>⟨(show 2<=sizeLine from BP (by decide)),fun l2 nl2=>?_⟩⟩
    have s78:Same H7 (upd H7 l2 (.lst [.int 1,.int ((zs t).count 10:Nat)])):=(Same.refl H7).new nl2
    have s68:=s7.trans s78
    have L8:=L6.mono s68
    have hl8:upd H7 l2 (.lst [.int 1,.int ((zs t).count 10:Nat)]) l2=some (.lst (([1,(((zs t).count 10:Nat):Int)]:List Int).map V.int)):=AG
    have hx8:=s68 _ _ hx6
    have kp8:=kp6.trans (KeepBut.of (xs:=[Pt]) s68)
    have tab8:=Bw s68 tab6
    generalize upd H7 l2 (.lst [.int 1,.int ((zs t).count 10:Nat)])=H8 at L8 hl8 hx8 kp8 tab8 ⊢
    refine⟨_,rfl,x,CL,dx6,_,rfl,hx8,TL.cl,TL.fault,(by show 5 < 1000;decide),?_⟩
    have L9:=L8.fault (p:=⟨p'.an,p'.ak,p'.sg,p'.sm,pR⟩) hne hx8 hl8 rfl
    refine⟨_,rfl,k _ x _ _ _ _ (fun b o e n=>?_) (tab_upd tab8 ⟨_,_,hx8⟩) L9 ?_⟩
    .rw[AF (Ac e nx)]
     exact kp8 b o e n
    .unfold Iv
     rw[jud]
     show match FQ (Be t) (AR t).length st with
      | .error _=>_
      | .ok L=>_
     unfold FQ
     rw[JJz (.inr (hz.mp h0))]
     simp
   .refine bF (JJj (Br (by omega))) ?_
    refine⟨_,rfl,k _ x _ _ _ _ kp6 tab6 L6 ?_⟩
    unfold Iv
    rw[jud]
    show match FQ (Be t) (AR t).length st with
     | .error _=>_
     | .ok L=>_
    unfold FQ
    rw[JJx (by rintro(q | q);exact q hr0;exact h0 (hz.mpr q))]
    exact⟨rfl,rfl,rfl,LS'.wf⟩
  .refine bF (JJj hres) ?_
   refine bF rfl ?_
   refine⟨_,rfl,k _ x _ _ _ _ kp6 tab6 L6 ?_⟩
   unfold Iv
   rw[jud]
   rcases hTold with ⟨q1,_,q3,_⟩ | ⟨q1,_,q2⟩
   .rw[AH] at q1
    obtain⟨b,hb⟩:∃b,(AR t)[j]?=some b:=⟨_,Ba q1⟩
    have hR:=Hs (step:=CN) hst hb
    cases hs:CN st j b with
    | ok s2=>rw[hs] at hR;exact absurd hR q3
    | error kk =>
     rw[Oj hst hb hs]
     exact hres
   .rw[AH] at q1
    subst q1
    rw[Jg hst]
    show match FQ (Be t) (AR t).length st with
     | .error _=>_
     | .ok L=>_
    unfold FQ
    rw[JJz (.inl fun z=>hres (by rw[q2,JJz (zs_nil.mpr z)]))]
    exact hres
end
end Fb
namespace Fb
open PySem PySem.Spec PyProof.Rows L2
open PySem.AutoSeq1 (wpAny_loadPart')
def eqL (H:Hp) (lx:List Int) (u:Value):Bool:=match u with
 | .ref a=>(match H a with
  | some (.lst xs)=>decide (xs=lx.map V.int)
  | _=>false)
 | _=>false
theorem Xw:∀{a b:List Int},a.map V.int=b.map V.int->a=b
 | [],[],_=>rfl
 | [],_::_,h=>by simp at h
 | _::_,[],h=>by simp at h
 | x::a,y::b,h=>by
  rw[Aq,Aq] at h
  obtain⟨h1,h2⟩:=Dl h
  rw[Jn h1,Xw h2]
theorem SS {H:Hp}{lx ps:List Int}{a:Addr} (h:H a=some (.lst (ps.map V.int))):eqL H lx (.ref a)=decide (ps=lx):=by
 unfold eqL
 dsimp only
 rw[h]
 exact CY ⟨Xw,fun e=>by rw[e]⟩
theorem Rc {H:Hp}{lx:List Int}:∀{as:List Addr}{pss:List (List Int)}{us:List Value},Paired (fun a ps=>H a=some (.lst (ps.map V.int))) as pss->Vals (as.map V.ref) us->us.any (eqL H lx)=pss.any fun ps=>decide (ps=lx)
 | _,_,us,.nil,r=>by
  rw[GW] at r
  cases r
  rfl
 | _,_,us,.cons h t,r=>by
  rw[Aq] at r
  cases r with
  | cons r1 r2 =>
   cases r1
   rw[DH,DH,SS h,Rc t r2]
theorem Tz:∀{as:List Addr}{us:List Value},Vals (as.map V.ref) us->∀u∈us,∃a∈as,u=.ref a
 | [],_,r=>fun u hu=>by
  rw[GW] at r
  cases r
  cases hu
 | a::as,_,r=>fun u hu=>by
  rw[Aq] at r
  cases r with
  | cons r1 r2 =>
   cases r1
   rcases AQ.mp hu with e | hu
   .exact⟨a,AV,e⟩
   .obtain⟨b,hb,e⟩:=Tz r2 u hu
    exact⟨b,Av _ hb,e⟩
def eS:R2:=fun x y H Q=>∃(b p:Addr) (as:List Addr) (pss:List (List Int)) (lx:List Int),x=.ref b/\H b=some (.lst (lx.map V.int))/\y=.ref p/\H p=some (.lst (as.map V.ref))/\Paired (fun a ps=>H a=some (.lst (ps.map V.int))) as pss/\Q (.bl (!(pss.any fun ps=>decide (ps=lx)))) H
theorem dZ {X:Cx} (hu:X.A.units+70 < cLine):OpR X (compareOp .NotIn) eS:=by
 intro pins s σ H x y v u Q I rx ry h
 obtain⟨b,p,as,pss,lx,rfl,hb,rfl,hp,hpa,q⟩:=h
 cases rx
 cases ry
 obtain⟨its,r,pl,hz⟩:=I.list (SqL.of hp)
 obtain⟨bs,rb⟩:=Dp.reads I _ (.ref b) (.ref b) (Ay (SqL.of hb)) rfl
 refine SeqAt.notIn_listAt (eqL H lx) pl.isList (fun w hw=>?_) ⟨.bl _,H,I,rfl,?_⟩
 .obtain⟨a,ha,rfl⟩:=Tz r w (by simpa using hw)
  obtain⟨ps,_,hps⟩:=OT hpa ha
  obtain⟨cs,ra⟩:=Dp.reads I _ (.ref a) (.ref a) (Ay (SqL.of hps)) rfl
  rw[SS hps,<- Bx]
  exact Qt _ _ _ _ _ _ _ _ ra rb (Ij (Au _)) (Ij (Au _)) (Qu (Au _) (by show X.A.units+1+64 < cLine;omega))
 .rw[show its.toArray.any (eqL H lx)=its.any (eqL H lx) by simp,Rc hpa r]
  exact q
def RR (A:Around) (s:Shared) (x y:Value) (r:Bool):Prop:=∀(prog:Program) (w:World) (E:Value->Shared->Prop) (Q:Value->Shared->Prop),Q (.bool r) s->wpAny (model prog w) A (richCompare .Gt x y) Q E s
theorem iJ (l b:Addr) (u0 u1 w0 w1:Value) (n n2:Nat) (d1 d2:Option Addr) (c1 c2:Array (Option Value)) (e0 e1 r0 r1:Bool):Meets (Builtin.«tuple.__gt__» ⟨[.ref l,.ref b],[]⟩)
  (fun A R s=>s.heap.get? l=some { cls:=.type "tuple",dict:=d1,data:=.seq #[u0,u1] n,slots:=c1 }/\s.heap.get? b=some { cls:=.type "tuple",dict:=d2,data:=.seq #[w0,w1] n2,slots:=c2 }/\
   Co A.in1 s u0 w0 e0/\Co A.in1 s u1 w1 e1/\(e0=false->RR A.in1 s u0 w0 r0)/\(e1=false->RR A.in1 s u1 w1 r1)/\R (.ok (.ret (.bool (if e0=true then (if e1=true then false else r1) else r0)))) s) :=
 .of_wp fun prog w A R s h=>by
  obtain⟨hp,g,d,tk,os⟩:=s
  obtain⟨hl,hb,q0,q1,k0,k1,h⟩:=h
  have f2:=Qh
  wp_walk using Cc hl,Cc hb,ZV _ (fun rest b s'=>b.1=none/\s'=⟨hp,g,d,tk,os⟩/\(rest=[(u0,w0),(u1,w1)]\/(e0=true/\rest=[(u1,w1)])\/(e0=true/\e1=true/\rest=[]))) _
  case turn =>
   rintro⟨y,x⟩ rest b s' ⟨hb',rfl,hz⟩
   rcases hz with hz | ⟨z,hz⟩ | ⟨_,_,hz⟩
   .injection hz with hy hrest
    injection hy with hy hx
    subst hy hx hrest
    refine AI (q0 prog w _ _ ?_)
    cases e0 with
    | true =>
     wp_walk
     exact⟨rfl,rfl,.inr (.inl ⟨rfl,rfl⟩)⟩
    | false =>
     have k0:=k0 rfl prog w
     wp_walk using k0
     exact⟨_,rfl,h⟩
   .injection hz with hy hrest
    injection hy with hy hx
    subst hy hx hrest
    refine AI (q1 prog w _ _ ?_)
    cases e1 with
    | true =>
     wp_walk
     exact⟨rfl,rfl,.inr (.inr ⟨z,rfl,rfl⟩)⟩
    | false =>
     have k1:=k1 rfl prog w
     rw[z] at h
     wp_walk using k1
     exact⟨_,rfl,h⟩
   .cases hz
  case fin =>
   rintro⟨b1,b2⟩ s' ⟨hb',rfl,hz⟩
   simp only at hb'
   subst hb'
   rcases hz with hz | ⟨z,hz⟩ | ⟨z,z2,hz⟩
   .cases hz
   .cases hz
   .rw[z,z2] at h
    wp_walk
    exact⟨_,rfl,h⟩
  case h =>
   exact⟨rfl,rfl,.inl rfl⟩
def eR (K:AD):R2:=fun x y H Q=>∃(a b:Addr) (n m:Int) (c d:Addr) (ns ms:List Int),x=.ref a/\y=.ref b/\H a=some (.tup [.int n,.ref c])/\H b=some (.tup [.int m,.ref d])/\SqL K H c (ns.map V.int)/\SqL K H d (ms.map V.int)/\Q (.bl (if n≠m then decide (m < n) else HT.lexLt ms ns)) H
theorem N8:∀(l:List Int),HT.lexLt l l=false
 | []=>rfl
 | a::l=>by rw[HT.lexLt_cons,JJz rfl];exact N8 l
theorem S1 (n m:Int) (ns ms:List Int):(if decide (n=m)=true then (if decide (ns=ms)=true then false else HT.lexLt ms ns) else decide (m < n))=(if n≠m then decide (m < n) else HT.lexLt ms ns):=by
 by_cases h1:n=m
 .rw[JJz (JJk h1),JJx (show ¬n≠m from fun z=>z h1)]
  by_cases h2:ns=ms
  .rw[JJz (JJk h2),h2,N8]
  .rw[JJx (show ¬decide (ns=ms)=true by rw[JJj h2];decide)]
 .rw[JJx (show ¬decide (n=m)=true by rw[JJj h1];decide),JJz h1]
theorem dU {X:Cx} (hu:X.A.units+70 < cLine):OpR X (compareOp .Gt) (eR X.K):=by
 intro pins s σ H x y v u Q I rx ry h
 obtain⟨a,b,n,m,c,d,ns,ms,rfl,rfl,ha,hb,hc,hd,q⟩:=h
 cases rx
 cases ry
 obtain⟨its,r1,⟨⟨k1,f1,t1,l1⟩,o1,g1,n1,z1⟩,_⟩:=I.tuple (SqT.of ha)
 obtain⟨its2,r2,⟨⟨k2,f2,t2,l2⟩,o2,g2,n2,z2⟩,_⟩:=I.tuple (SqT.of hb)
 simp only at g1 g2 z1 z2
 subst g1 g2 z1 z2
 cases r1 with
 | cons p1 r1 =>
 cases r1 with
 | cons p2 r1 =>
 cases r1
 cases r2 with
 | cons p3 r2 =>
 cases r2 with
 | cons p4 r2 =>
 cases r2
 obtain⟨tn,rfl⟩:=p1
 obtain⟨tm,rfl⟩:=p3
 cases p2
 cases p4
 obtain⟨cs,rc⟩:=Dp.reads I _ (.ref c) (.ref c) (Ay hc) rfl
 obtain⟨ds,rd⟩:=Dp.reads I _ (.ref d) (.ref d) (Ay hd) rfl
 obtain⟨itc,rcv,⟨⟨k3,f3,t3,l3⟩,n3,o3,g3,_,z3⟩,_⟩:=I.list hc
 obtain⟨itd,rdv,⟨⟨k4,f4,t4,l4⟩,n4,o4,g4,_,z4⟩,_⟩:=I.list hd
 simp only at g3 g4 z3 z4
 subst g3 g4 z3 z4
 have q0:Co X.A.in1 s (.int n tn) (.int m tm) (decide (n=m)):=by
  obtain⟨e,he,hiff⟩:=HT.eqAt_int X.A.in1 s n tn m tm
  have:e=decide (n=m):=by
   cases e with
   | true=>exact(JJk (hiff.mp rfl)).symm
   | false=>exact(JJj fun z=>absurd (hiff.mpr z) A8).symm
  rw[<- this]
  exact he
 have q1:Co X.A.in1 s (.ref c) (.ref d) (decide (ns=ms)):=by
  rw[<- Bx]
  exact Qt _ _ _ _ _ _ _ _ rc rd (Ij (Au _)) (Ij (Au _)) (Qu (Au _) (by show X.A.units+1+64 < cLine;omega))
 refine RA (op:=.Gt) ⟨_,o1,rfl⟩ ⟨_,o2,rfl⟩ PySem.F.slot_tuple_gt PySem.F.entry_tuple_gt (PySem.F.args_tuple_gt_2 _ _) (iJ a b (.int n tn) (.ref c) (.int m tm) (.ref d) n1 n2 f1 f2 l1 l2 (decide (n=m)) (decide (ns=ms)) (decide (m < n)) (HT.lexLt ms ns))
  ⟨o1,o2,q0,q1,fun _ prog w E Q z=>(Yd z:wpAny (model prog w) X.A.in1 (compareOp .Gt (.int n tn) (.int m tm)) Q E _),fun _ prog w E Q z=>?_,⟨(fun x=>nomatch x),⟨.bl (if n≠m then decide (m < n) else HT.lexLt ms ns),H,I,?_,q⟩⟩⟩ (by omega)
 .exact RA (op:=.Gt) ⟨_,o3,rfl⟩ ⟨_,o4,rfl⟩ PySem.F.slot_list_gt PySem.F.entry_list_gt (PySem.F.args_list_gt_2 _ _) (cV c d itc.toArray itd.toArray n3 n4 f3 f4 l3 l4 ns ms (K0 rcv) (K0 rdv))
   ⟨o3,o4,show D6 (HT.lexLt ms ns)≠ZF/\_ from⟨(fun x=>nomatch x),z⟩⟩ (by show X.A.units+1 < cLine;omega)
 .first | exact congrArg D6 (S1 n m ns ms) | exact congrArg D6 (S1 n m ns ms).symm
theorem N0 {A:Around}{k:Nat} (hr:Room k A):A.units+70 < cLine:=by have:=hr.un;omega
end Fb
namespace Fb
open PySem PySem.Spec PyProof.Rows L2
abbrev Ol:Stmt:=WG
def W8 (K:AD):Sp:=fun vs H Q _=>∃(a:Addr) (ns:List Int),vs=[.ref a]/\SqL K H a (ns.map V.int)/\ns.length < 100000/\Pur H Q (.bl (K1 ns))
theorem scIsMean:Ag ["told","byte"] ["told"] (AL Ol):=⟨rfl,rfl,rfl,by decide +kernel,rfl,by decide +kernel,by decide +kernel⟩
theorem Zo (pss:List (List Int)):(pss.any fun ps=>decide (ps=[]))=decide ([]∈pss):=by
 rw[Dy,IM,decide_eq_true_iff]
 exact⟨fun ⟨x,hx,e⟩=>by rw[<- JJq e];exact hx,fun h=>⟨[],h,JJk rfl⟩⟩
theorem Nc (k:Nat) (xs:List V):Ce xs (some (k:Int)) none=xs.drop k:=by
 by_cases h:k<=xs.length
 .exact aJ k xs h
 .unfold Ce
  have e1:HT.sIx xs.length 0 (some (k:Int))=xs.length:=by
   show(if (k:Int) < 0 then ((k:Int)+(xs.length:Int)).toNat else min (k:Int).toNat xs.length)=_
   rw[JJx (by omega),HE,Nat.min_eq_right (by omega)]
  rw[e1,YE,IS (by omega)]
  simp
section
variable {P:Program}{w:World}{K:AD}{mg:Str->Option Value}{base:Heap}
theorem ok_isMean {f:Addr}{fd:FuncData} (F:Fun K "is_meaning" "is_meaning" Ol f fd) (B:Blt mg) (c1:Cst mg "BLANK" (.int 32)) (c2:Cst mg "LAST_PRINTED" (.int 126)) (c3:Cst mg "LONGEST_MEANING" (.int 64)) (g1:Has P w K mg "split_at" 1 ["mark","values"] (Fh K)):FnOk P w K mg base CX0 2 f fd ["told"] (W8 K):=by
 refine F.ok scIsMean (fun vs H Q E h=>?_) (fun cdv A outer s H vs Q E hr h=>?_)
 .obtain⟨a,ns,rfl,_⟩:=h
  rfl
 .obtain⟨a,ns,rfl,hS,hlen,k⟩:=h
  unfold K1 at k
  refine⟨_,AJ (As (PW.pt (Hr (Aj FZ (BV CQ (by rfl) B.len CM (AB (pv 0) AE)) (AS c3 rfl) (AY _))
     (Jd (EG (DE (BV (Kj rfl) (by rfl) B.all Md (AB (Ej (own:=[("byte",1)]) rfl scIsMean.nd (DS (pv 0)) (D8 (N:=["told","byte"]) (sc:=AL Ol) (by decide +kernel)) (fun s H C cl fp=>CT (i:=1) scIsMean.nd rfl (Ai rfl)) (fun s H C cl fp=>E7)
      (fun s H C cl fp=>JW DR DR (AS c1 rfl) (pv 1) (AS c2 rfl))) AE)))))))
    (AK (AM OU)) Aw)
   (AK (AM (Dg (dZ (N0 hr)) (BD AE) (AO g1 hr (by rfl) (AB (AS c1 rfl) (AB (pv 0) AE))) (by rfl)))),?_⟩
  refine⟨_,rfl,a,_,rfl,.inl hS,_,_,rfl,rfl,_,rfl,?_⟩
  by_cases hl:ns.length<=64
  .refine bF (JJj (by rw[AH];omega)) ?_
   rw[JJk hl,D1] at k
   refine⟨_,rfl,a,rfl,⟨_,hS⟩,fun D hD=>?_⟩
   refine GD (n:=(ns.map V.int).length) ((ns.map fun b=>decide (32<=b)&&decide (b<=126)).map V.bl) (by simp) (CG (by rw[AH];omega)) hD (fun i H hi s2=>FW (s2.seq hS) hi) (fun H s2=>FX (s2.seq hS)) ?_ ?_
   .rintro i y z H2 H3 hz s2 ⟨rfl,hy⟩ R hR
    obtain⟨n,hn,rfl⟩:=FV (hy _ (s2.seq hS))
    have:z=V.bl (decide (32<=n)&&decide (n<=126)):=by
     rw[Ao,Ao,hn] at hz
     exact(Af hz).symm
    subst this
    have r0:=hR _ (Same.refl _)
    refine⟨rfl,_,rfl,_,_,rfl,rfl,_,rfl,?_⟩
    by_cases h1:(32:Int)<=n
    .rw[JJk h1,D1] at r0
     exact bT (JJk h1) ⟨_,_,rfl,rfl,r0⟩
    .rw[JJj h1,DW] at r0
     exact bF (JJj h1) r0
   .intro H2 s2 hd2
    refine⟨D,ns.map fun b=>decide (32<=b)&&decide (b<=126),rfl,SqL.of hd2,_,rfl,?_⟩
    rw[GS]
    cases ha:ns.all fun b=>decide (32<=b)&&decide (b<=126) with
    | false =>
     rw[ha,DW] at k
     exact bT (by show(!(ns.all fun b=>decide (32<=b)&&decide (b<=126)))=true;rw[ha];rfl) (k H2 s2)
    | true =>
     rw[ha,D1] at k
     refine bF (by show(!(ns.all fun b=>decide (32<=b)&&decide (b<=126)))=false;rw[ha];rfl) ?_
     refine⟨Ax _,fun l nl=>?_⟩
     have s3:Same H2 (upd H2 l (.lst [])):=(Same.refl H2).new nl
     refine⟨_,rfl,a,32,ns,rfl,s3.seq (s2.seq hS),hlen,fun H4 p as s4 np nas hp hpa=>?_⟩
     refine⟨l,p,as,_,[],rfl,s4 _ _ AG,rfl,hp,hpa,?_⟩
     rw[Zo]
     exact k H4 ((s2.trans s3).trans s4)
  .rw[JJj hl,DW,DW] at k
   exact bT (JJk (by rw[AH];omega)) (bT rfl (k H (Same.refl H)))
end
abbrev VY:Stmt:=Wh
abbrev VN:Stmt:=WU
def Eb (ns:List Int):List Int:=(BF 32 ns).headD []
def Jh (K:AD):Sp:=fun vs H Q _=>∃(a:Addr) (ns:List Int),vs=[.ref a]/\SqL K H a (ns.map V.int)/\ns.length < 100000/\EY H Q (Eb ns)
def Lm (K:AD):Sp:=fun vs H Q _=>∃(a:Addr) (ns:List Int),vs=[.ref a]/\SqL K H a (ns.map V.int)/\ns.length < 100000/\EY H Q (ns.drop ((Eb ns).length+1))
theorem fm:Ag ["line"] ["line"] (AL VY):=⟨rfl,rfl,rfl,by decide +kernel,rfl,by decide +kernel,by decide +kernel⟩
theorem fb:Ag ["line"] ["line"] (AL VN):=⟨rfl,rfl,rfl,by decide +kernel,rfl,by decide +kernel,by decide +kernel⟩
theorem Sn (ns:List Int):(BF 32 ns)[0]?=some (Eb ns):=by
 unfold Eb
 cases h:BF 32 ns with
 | nil=>exact absurd h (Km 32 ns)
 | cons w l=>rfl
theorem bJ (ns:List Int):(Eb ns).length<=ns.length:=Ez 32 ns _ (Cw (Sn ns))
theorem JJ (b:AX):Eb (zs b)=zs (Az b):=by
 unfold Eb Az
 rw[HY]
 cases h:BI 32 b with
 | nil=>exact absurd h (Ea 32 b)
 | cons w l=>rfl
section
variable {P:Program}{w:World}{K:AD}{mg:Str->Option Value}{base:Heap}
theorem ok_rowW {f:Addr}{fd:FuncData} (F:Fun K "row_word" "row_word" VY f fd) (c1:Cst mg "BLANK" (.int 32)) (g1:Has P w K mg "split_at" 1 ["mark","values"] (Fh K)):FnOk P w K mg base CX0 2 f fd ["line"] (Jh K):=by
 refine F.ok fm (fun vs H Q E h=>?_) (fun cdv A outer s H vs Q E hr h=>?_)
 .obtain⟨a,ns,rfl,_⟩:=h
  rfl
 .obtain⟨a,ns,rfl,hS,hlen,k⟩:=h
  refine⟨_,AK (AM (CH CF (AO g1 hr (by rfl) (AB (AS c1 rfl) (AB (pv 0) AE))) AU (fun _ _=>rfl))),?_⟩
  refine⟨_,rfl,a,32,ns,rfl,hS,hlen,fun H1 p as s1 np nas hp hpa=>?_⟩
  obtain⟨b,hb,hbn⟩:=Cf hpa (Sn ns)
  exact⟨p,_,_,_,rfl,rfl,SqL.of hp,CP (j:=0) (v:=V.ref b) (by rw[Ao,hb];rfl),k H1 b s1 (nas b (Cw hb)) hbn⟩
theorem ok_meanT {f:Addr}{fd:FuncData} (F:Fun K "meaning_told" "meaning_told" VN f fd) (B:Blt mg) (g1:Has P w K mg "row_word" 2 ["line"] (Jh K)):FnOk P w K mg base CX0 3 f fd ["line"] (Lm K):=by
 refine F.ok fb (fun vs H Q E h=>?_) (fun cdv A outer s H vs Q E hr h=>?_)
 .obtain⟨a,ns,rfl,_⟩:=h
  rfl
 .obtain⟨a,ns,rfl,hS,hlen,k⟩:=h
  refine⟨_,AK (AM (E5 FA (pv 0) (Ek (C0 OQ (BV CQ (by rfl) B.len CM (AB (AO g1 hr (by rfl) (AB (pv 0) AE)) AE)) AU)) Fe)),?_⟩
  refine⟨_,rfl,_,rfl,a,ns,rfl,hS,hlen,fun H1 b s1 nb hbn=>?_⟩
  refine⟨b,_,rfl,.inl (SqL.of hbn),_,_,rfl,rfl,_,rfl,a,_,rfl,s1.seq hS,fun q nq=>?_⟩
  have e:Ce (ns.map V.int) (some ((((Eb ns).map V.int).length:Int)+1)) none=(ns.drop ((Eb ns).length+1)).map V.int:=by
   have:=Nc ((Eb ns).length+1) (ns.map V.int)
   rw[<- QK] at this
   rw[AH]
   exact this
  refine k _ q (s1.trans ((Same.refl H1).new nq)) (s1.free nq) ?_
  rw[AG]
  exact congrArg (fun z=>some (HO.lst z)) e
end
end Fb
namespace Fb
open PySem PySem.Spec PyProof.Rows L2
abbrev VX:Stmt:=WL
def XT:Sp:=fun vs H Q _=>∃n:Int,vs=[.int n]/\Pur H Q (.bl (decide (1<=n)&&decide (n<=8)))
theorem fk:Ag ["length"] ["length"] (AL VX):=⟨rfl,rfl,rfl,by decide +kernel,rfl,by decide +kernel,by decide +kernel⟩
section
variable {P:Program}{w:World}{K:AD}{mg:Str->Option Value}{base:Heap}
theorem ok_rowLen {f:Addr}{fd:FuncData} (F:Fun K "is_row_length" "is_row_length" VX f fd) (c1:Cst mg "LONGEST_ROW" (.int 8)):FnOk P w K mg base CX0 1 f fd ["length"] XT:=by
 refine F.ok fk (fun vs H Q E h=>?_) (fun cdv A outer s H vs Q E hr h=>?_)
 .obtain⟨x,rfl,_⟩:=h
  rfl
 .obtain⟨n,rfl,k⟩:=h
  have kk:=k H (Same.refl H)
  refine⟨_,AK (AM (JW DR DR AU (pv 0) (AS c1 rfl))),?_⟩
  refine⟨_,rfl,_,_,rfl,rfl,_,rfl,?_⟩
  by_cases h1:(1:Int)<=n
  .rw[JJk h1,D1] at kk
   exact bT (JJk h1) ⟨_,_,rfl,rfl,kk⟩
  .rw[JJj h1,DW] at kk
   exact bF (JJj h1) kk
end
abbrev Oo:Stmt:=WM
abbrev VF:Stmt:=WC
def LV (b:AX):Bool:=decide ((BI 46 b).length<=8)&&(BI 46 b).all Ck
def O8 (K:AD):Sp:=fun vs H Q _=>∃(a:Addr) (b:AX),vs=[.ref a]/\SqL K H a ((zs b).map V.int)/\b.length < 100000/\Pur H Q (.bl (LV b))
def O7 (K:AD):Sp:=fun vs H Q _=>∃(a:Addr) (b:AX),vs=[.ref a]/\SqL K H a ((zs b).map V.int)/\b.length < 100000/\Pur H Q (.bl (Cn b))
theorem scIsRowW:Ag ["word","names","name"] ["word"] (AL Oo):=⟨rfl,rfl,rfl,by decide +kernel,rfl,by decide +kernel,by decide +kernel⟩
theorem fT:Ag ["line"] ["line"] (AL VF):=⟨rfl,rfl,rfl,by decide +kernel,rfl,by decide +kernel,by decide +kernel⟩
theorem Nw (b:AX):(Az b).length<=b.length:=by
 have:=bJ (zs b)
 rw[JJ,Al,Al] at this
 exact this
theorem OE (b:AX):(zs b).drop ((Eb (zs b)).length+1)=zs (BK b):=by
 rw[JJ,Al]
 unfold BK zs
 rw[QK]
theorem gI (b:AX):(BK b).length<=b.length:=by
 unfold BK
 rw[MO]
 omega
theorem T1 (b:AX):(BI 46 b).length<=b.length+1/\1<=(BI 46 b).length:=by
 have h1:=Gr 46 (zs b)
 have h2:=JC 46 (zs b)
 rw[Kl,AH] at h1 h2
 rw[Al] at h1
 omega
section
variable {P:Program}{w:World}{K:AD}{mg:Str->Option Value}{base:Heap}
theorem ok_isRowW {f:Addr}{fd:FuncData} (F:Fun K "is_row_word" "is_row_word" Oo f fd) (B:Blt mg) (c1:Cst mg "FULL_STOP" (.int 46)) (g0:Has P w K mg "is_row_length" 1 ["length"] XT) (g1:Has P w K mg "split_at" 1 ["mark","values"] (Fh K)) (g2:Has P w K mg "is_name" 2 ["word"] (Ll K)):
  FnOk P w K mg base CX0 3 f fd ["word"] (O8 K):=by
 refine F.ok scIsRowW (fun vs H Q E h=>?_) (fun cdv A outer s H vs Q E hr h=>?_)
 .obtain⟨a,b,rfl,_⟩:=h
  rfl
 .obtain⟨a,b,rfl,hS,hlen,k⟩:=h
  have zl:(zs b).length < 100000:=by rw[Al];exact hlen
  unfold LV at k
  have hr1:Room 1 _:=hr.mono (by decide)
  refine⟨_,AJ (BN (i:=1) scIsRowW.nd rfl (Ai rfl) (AO g1 hr1 (by rfl) (AB (AS c1 rfl) (AB (pv 0) AE))))
   (AK (AM (E3 (AO g0 hr1 (by rfl) (AB (BV CQ (by rfl) B.len CM (AB (pv 1) AE)) AE))
    (E4 (BV (Kj rfl) (by rfl) B.all Md (AB (Ej (own:=[("name",2)]) rfl scIsRowW.nd (DS (pv 1)) (D8 (N:=["word","names","name"]) (sc:=AL Oo) (by decide +kernel)) (fun s H C cl fp=>CT (i:=2) scIsRowW.nd rfl (Ai rfl)) (fun s H C cl fp=>E7)
      (fun s H C cl fp=>AO g2 hr (by rfl) (AB (pv 2) AE))) AE)))))),?_⟩
  refine⟨_,rfl,a,46,zs b,rfl,hS,zl,fun H1 p as s1 np nas hp hpa=>?_⟩
  rw[Kl] at hpa
  have hl:=Bp hpa
  rw[AH] at hl
  obtain⟨hb46,hpos⟩:=T1 b
  refine⟨_,rfl,p,_,rfl,.inl (SqL.of hp),_,rfl,fun H1' s1'=>?_⟩
  have s1:=s1.trans s1'
  have hp:=s1' _ _ hp
  have hpa:=Paired.mapP hpa fun _ _ e=>s1' _ _ e
  clear s1'
  generalize H1'=H1 at s1 hp hpa ⊢
  rw[show decide ((1:Int)<=(((as.map V.ref).length:Nat):Int))=true from JJk (by rw[AH,hl];omega),D1]
  by_cases h1:(BI 46 b).length<=8
  .rw[JJk h1,D1] at k
   refine⟨_,rfl,bT (JJk (by rw[AH,hl];omega)) ?_⟩
   refine⟨_,rfl,p,rfl,⟨_,SqL.of hp⟩,fun D hD=>?_⟩
   refine GD (n:=(as.map V.ref).length) (((BI 46 b).map Ck).map V.bl) (by rw[AH,AH,AH,hl]) (CG (by rw[AH,hl];omega)) hD (fun i H hi s2=>FW (SqL.of (s2 _ _ hp)) hi) (fun H s2=>FX (SqL.of (s2 _ _ hp))) ?_ ?_
   .rintro i y z H2 H3 hz s2 ⟨rfl,hy⟩ R hR
    have hy:=hy _ (SqL.of (s2 _ _ hp))
    rw[Ao,Ao] at hz
    cases hn:(BI 46 b)[i]? with
    | none=>rw[hn] at hz;cases hz
    | some nm =>
     rw[hn] at hz
     have ez:V.bl (Ck nm)=z:=Af hz
     subst ez
     obtain⟨c,hc,hcc⟩:=Cf hpa (i:=i) (b:=zs nm) (by rw[Ao,hn];rfl)
     rw[Ao,hc] at hy
     have ey:V.ref c=y:=Af hy
     subst ey
     have h2:=Ez 46 (zs b) (zs nm) (by rw[Kl];exact Bb.mpr ⟨nm,Cw hn,rfl⟩)
     rw[Al,Al] at h2
     refine⟨rfl,_,rfl,c,zs nm,rfl,SqL.of (s2 _ _ hcc),by rw[Al];omega,?_⟩
     rw[K2]
     exact hR
   .intro H2 s2 hd2
    refine⟨D,(BI 46 b).map Ck,rfl,SqL.of hd2,?_⟩
    rw[GS]
    exact k H2 (s1.trans s2)
  .rw[JJj h1,DW] at k
   exact⟨_,rfl,bF (JJj (by rw[AH,hl];omega)) (k H1 s1)⟩
theorem ok_isEnt {f:Addr}{fd:FuncData} (F:Fun K "is_entry_line" "is_entry_line" VF f fd) (g1:Has P w K mg "row_word" 2 ["line"] (Jh K)) (g2:Has P w K mg "is_row_word" 3 ["word"] (O8 K)) (g3:Has P w K mg "is_meaning" 2 ["told"] (W8 K)) (g4:Has P w K mg "meaning_told" 3 ["line"] (Lm K)):
  FnOk P w K mg base CX0 4 f fd ["line"] (O7 K):=by
 refine F.ok fT (fun vs H Q E h=>?_) (fun cdv A outer s H vs Q E hr h=>?_)
 .obtain⟨a,b,rfl,_⟩:=h
  rfl
 .obtain⟨a,b,rfl,hS,hlen,k⟩:=h
  have zl:(zs b).length < 100000:=by rw[Al];exact hlen
  have hr2:Room 2 _:=hr.mono (by decide)
  have e:Cn b=(LV (Az b)&&Fq (BK b)):=rfl
  rw[e] at k
  refine⟨_,AK (AM (E3 (AO g2 hr (by rfl) (AB (AO g1 hr2 (by rfl) (AB (pv 0) AE)) AE))
    (E4 (AO g3 hr2 (by rfl) (AB (AO g4 hr (by rfl) (AB (pv 0) AE)) AE))))),?_⟩
  refine⟨_,rfl,a,zs b,rfl,hS,zl,fun H1 p s1 np hp=>?_⟩
  rw[JJ] at hp
  have:=Nw b
  refine⟨p,Az b,rfl,SqL.of hp,by omega,fun H2 s2=>⟨_,rfl,?_⟩⟩
  have s12:=s1.trans s2
  cases hw:LV (Az b) with
  | false =>
   rw[hw,DW] at k
   exact bF rfl (k H2 s12)
  | true =>
   rw[hw,D1] at k
   refine bT rfl ?_
   refine⟨_,rfl,a,zs b,rfl,s12.seq hS,zl,fun H3 q s3 nq hq=>?_⟩
   rw[OE] at hq
   have:=gI b
   refine⟨q,zs (BK b),rfl,SqL.of hq,by rw[Al];omega,fun H4 s4=>?_⟩
   rw[bj]
   exact k H4 ((s12.trans s3).trans s4)
end
abbrev U2:Stmt:=WK
def Kc (ns ms:List Int):Bool:=if ns.length≠ms.length then decide (ms.length < ns.length) else HT.lexLt ms ns
def O4 (K:AD):Sp:=fun vs H Q _=>∃(a b:Addr) (ns ms:List Int),vs=[.ref a,.ref b]/\SqL K H a (ns.map V.int)/\SqL K H b (ms.map V.int)/\Pur H Q (.bl (Kc ns ms))
theorem fK:Ag ["row","before"] ["row","before"] (AL U2):=⟨rfl,rfl,rfl,by decide +kernel,rfl,by decide +kernel,by decide +kernel⟩
theorem N7:∀(a b:List Nat),a.length=b.length->HT.lexLt (zn a) (zn b)=P2 a b
 | [],[],_=>rfl
 | [],_::_,h=>by simp at h
 | _::_,[],h=>by simp at h
 | x::a,y::b,h=>by
  have ih:=N7 a b (by simpa using h)
  show HT.lexLt ((x:Int)::zn a) ((y:Int)::zn b)=(decide (x < y) || (x==y&&P2 a b))
  rw[HT.lexLt_cons]
  by_cases e:x=y
  .subst e
   rw[JJz rfl,ih]
   simp
  .rw[JJx (by omega),CY (show(x:Int) < y↔x < y by omega)]
   simp[e]
theorem NR (r e:List Nat):Kc (zn r) (zn e)=BZ e r:=by
 unfold Kc BZ
 rw[EN,EN]
 by_cases h:r.length=e.length
 .rw[JJx (fun q=>q h),N7 e r h.symm,JJj (by omega),HA]
  simp[h]
 .rw[JJz h]
  have:(e.length==r.length)=false:=beq_eq_false_iff_ne.mpr fun q=>h q.symm
  rw[this,DW,L4]
abbrev VU:Stmt:=Wa
def Hz (K:AD):Sp:=fun vs H Q _=>∃(a:Addr) (xs:List V),vs=[.ref a]/\(SqL K H a xs\/SqT K H a xs)/\∀t,H t=none->Q (.ref t) (upd H t (.tup [.int (xs.length:Nat),.ref a]))
theorem fh:Ag ["row"] ["row"] (AL VU):=⟨rfl,rfl,rfl,by decide +kernel,rfl,by decide +kernel,by decide +kernel⟩
section
variable {P:Program}{w:World}{K:AD}{mg:Str->Option Value}{base:Heap}
theorem ok_place {f:Addr}{fd:FuncData} (F:Fun K "place_in_order" "place_in_order" VU f fd) (B:Blt mg):FnOk P w K mg base CX0 1 f fd ["row"] (Hz K):=by
 refine F.ok fh (fun vs H Q E h=>?_) (fun cdv A outer s H vs Q E hr h=>?_)
 .obtain⟨a,xs,rfl,_⟩:=h
  rfl
 .obtain⟨a,xs,rfl,hA,k⟩:=h
  refine⟨_,AK (AM (UO (AB (BV CQ (by rfl) B.len CM (AB (pv 0) AE)) (AB (pv 0) AE)))),?_⟩
  exact⟨_,rfl,a,xs,rfl,hA,_,rfl,(show 2<=sizeLine from BP (by decide)),fun t nt=>k t nt⟩
theorem ok_behind {f:Addr}{fd:FuncData} (F:Fun K "is_row_behind" "is_row_behind" U2 f fd) (g1:Has P w K mg "place_in_order" 1 ["row"] (Hz K)):FnOk P w K mg base CX0 2 f fd ["row","before"] (O4 K):=by
 refine F.ok fK (fun vs H Q E h=>?_) (fun cdv A outer s H vs Q E hr h=>?_)
 .obtain⟨a,b,ns,ms,rfl,_⟩:=h
  rfl
 .obtain⟨a,b,ns,ms,rfl,hA,hB,k⟩:=h
  refine⟨_,AK (AM (Dg (dU (N0 hr)) (AO g1 hr (by rfl) (AB (pv 0) AE)) (AO g1 hr (by rfl) (AB (pv 1) AE)) (AY _))),?_⟩
  refine⟨_,rfl,a,_,rfl,.inl hA,fun t nt=>?_⟩
  have s1:Same H (upd H t (.tup [.int ((ns.map V.int).length:Nat),.ref a])):=(Same.refl H).new nt
  have h1:upd H t (.tup [.int ((ns.map V.int).length:Nat),.ref a]) t=some (.tup [.int ((ns.map V.int).length:Nat),.ref a]):=AG
  generalize upd H t (.tup [.int ((ns.map V.int).length:Nat),.ref a])=H1 at s1 h1 ⊢
  refine⟨_,rfl,b,_,rfl,.inl (s1.seq hB),fun t2 nt2=>?_⟩
  have s2:Same H1 (upd H1 t2 (.tup [.int ((ms.map V.int).length:Nat),.ref b])):=(Same.refl H1).new nt2
  have h2:upd H1 t2 (.tup [.int ((ms.map V.int).length:Nat),.ref b]) t2=some (.tup [.int ((ms.map V.int).length:Nat),.ref b]):=AG
  generalize upd H1 t2 (.tup [.int ((ms.map V.int).length:Nat),.ref b])=H2 at s2 h2 ⊢
  refine⟨t,t2,_,_,a,b,ns,ms,rfl,rfl,s2 _ _ h1,h2,(s1.trans s2).seq hA,(s1.trans s2).seq hB,?_⟩
  have kk:=k H2 (s1.trans s2)
  unfold Kc at kk
  have e:(if ((((ns.map V.int).length:Nat):Int)≠(((ms.map V.int).length:Nat):Int)) then decide ((((ms.map V.int).length:Nat):Int) < (((ns.map V.int).length:Nat):Int)) else HT.lexLt ms ns)=(if ns.length≠ms.length then decide (ms.length < ns.length) else HT.lexLt ms ns):=by
   rw[AH,AH]
   by_cases q:ns.length=ms.length
   .rw[JJx (fun z=>z (by omega)),JJx (fun z=>z q)]
   .rw[JJz (by omega),JJz q]
    exact CY (by omega)
  rw[e]
  exact kk
end
end Fb
namespace Fb
open PySem PySem.Spec PyProof.Rows L2
def ef (ar am:Addr):List (Str×V):=[("row",.ref ar),("meaning",.ref am)]
def bfB (bn be bf:Addr):List (Str×V):=[("name",.ref bn),("entries",.ref be),("fault",.ref bf)]
theorem Nh {ar am:Addr}:(ef ar am).lookup ("row":Str)=some (.ref ar):=rfl
theorem SN {ar am:Addr}:(ef ar am).lookup ("meaning":Str)=some (.ref am):=rfl
structure BA where
 bn:Addr
 be:Addr
 bf:Addr
theorem NS {q:BA}:(bfB q.bn q.be q.bf).lookup ("name":Str)=some (.ref q.bn):=rfl
theorem Gq {q:BA}:(bfB q.bn q.be q.bf).lookup ("entries":Str)=some (.ref q.be):=rfl
theorem HW {q:BA}:(bfB q.bn q.be q.bf).lookup ("fault":Str)=some (.ref q.bf):=rfl
def EntAt (CE:Addr) (H:Hp) (a:Addr) (e:BH):Prop:=∃(dx ar am:Addr),H a=some (.ins CE dx (ef ar am))/\H ar=some (.lst ((zn e.row).map V.int))/\H am=some (.lst ((zs e.says).map V.int))
structure BookAt (CB CE:Addr) (H:Hp) (b:Addr) (q:BA) (name:List Int) (entries:List BH) (fault:List Int):Prop where
 ob:∃dx,H b=some (.ins CB dx (bfB q.bn q.be q.bf))
 nm:hid [q.be] H q.bn=some (.lst (name.map V.int))
 es:∃as:List Addr,H q.be=some (.lst (as.map V.ref))/\Paired (EntAt CE (hid [q.be] H)) as entries
 bf:hid [q.be] H q.bf=some (.lst (fault.map V.int))
theorem F7 {cs:List Addr}{H:Hp}:Same (hid cs H) H:=fun b o e=>by
 by_cases m:b∈cs
 .rw[Dd m] at e;cases e
 .rw[A7 m] at e;exact e
theorem FT {cs:List Addr}{H H':Hp} (s:Same H H'):Same (hid cs H) (hid cs H'):=fun b o e=>by
 by_cases m:b∈cs
 .rw[Dd m] at e;cases e
 .rw[A7 m] at e ⊢;exact s b o e
theorem Gu {cs:List Addr}{H H':Hp} (s:Es H H'):Es (hid cs H) (hid cs H'):=fun b o e n=>by
 by_cases m:b∈cs
 .rw[Dd m] at e;cases e
 .rw[A7 m] at e ⊢;exact s b o e n
theorem FU {cs:List Addr}{H H':Hp} (s:SameT H H'):SameT (hid cs H) (hid cs H'):=fun b o e n=>by
 by_cases m:b∈cs
 .rw[Dd m] at e;cases e
 .rw[A7 m] at e ⊢;exact s b o e n
theorem EntAt.mono {CE:Addr}{H H':Hp}{a:Addr}{e:BH} (s:Same H H') (h:EntAt CE H a e):EntAt CE H' a e:=by
 obtain⟨dx,ar,am,h1,h2,h3⟩:=h
 exact⟨dx,ar,am,s _ _ h1,s _ _ h2,s _ _ h3⟩
theorem BookAt.mono {CB CE:Addr}{H H':Hp}{b:Addr}{q:BA}{name:List Int}{entries:List BH}{fault:List Int} (s:Same H H') (h:BookAt CB CE H b q name entries fault):BookAt CB CE H' b q name entries fault:=by
 obtain⟨⟨dx,h1⟩,h2,⟨as,h3,h4⟩,h5⟩:=h
 exact⟨⟨dx,s _ _ h1⟩,FT s _ _ h2,⟨as,s _ _ h3,Paired.mapP h4 fun a z q=>q.mono (FT s)⟩,FT s _ _ h5⟩
theorem BookAt.ents {CB CE:Addr}{H:Hp}{b:Addr}{q:BA}{name:List Int}{entries:List BH}{fault:List Int} (h:BookAt CB CE H b q name entries fault):∃as:List Addr,H q.be=some (.lst (as.map V.ref))/\Paired (EntAt CE H) as entries:=by
 obtain⟨as,h3,h4⟩:=h.es
 exact⟨as,h3,Paired.mapP h4 fun a z q=>q.mono F7⟩
theorem BookAt.nm' {CB CE:Addr}{H:Hp}{b:Addr}{q:BA}{name:List Int}{entries:List BH}{fault:List Int} (h:BookAt CB CE H b q name entries fault):H q.bn=some (.lst (name.map V.int)):=F7 _ _ h.nm
theorem BookAt.bf' {CB CE:Addr}{H:Hp}{b:Addr}{q:BA}{name:List Int}{entries:List BH}{fault:List Int} (h:BookAt CB CE H b q name entries fault):H q.bf=some (.lst (fault.map V.int)):=F7 _ _ h.bf
theorem EntAt.monoN {CE:Addr}{H H':Hp}{a:Addr}{e:BH} (s:Es H H') (h:EntAt CE H a e):EntAt CE H' a e:=by
 obtain⟨dx,ar,am,h1,h2,h3⟩:=h
 exact⟨dx,ar,am,s _ _ h1 (fun _ q=>nomatch q),s _ _ h2 (fun _ q=>nomatch q),s _ _ h3 (fun _ q=>nomatch q)⟩
theorem BookAt.monoN {CB CE:Addr}{H H':Hp}{b:Addr}{q:BA}{name:List Int}{entries:List BH}{fault:List Int} (s:Es H H') (h:BookAt CB CE H b q name entries fault):BookAt CB CE H' b q name entries fault:=by
 obtain⟨⟨dx,h1⟩,h2,⟨as,h3,h4⟩,h5⟩:=h
 exact⟨⟨dx,s _ _ h1 (fun _ q=>nomatch q)⟩,Gu s _ _ h2 (fun _ q=>nomatch q),⟨as,s _ _ h3 (fun _ q=>nomatch q),Paired.mapP h4 fun a z q=>q.monoN (Gu s)⟩,Gu s _ _ h5 (fun _ q=>nomatch q)⟩
theorem BookAt.monoT {CB CE:Addr}{H H':Hp}{b:Addr}{q:BA}{name:List Int}{entries:List BH}{fault:List Int} (s:SameT H H') (h:BookAt CB CE H b q name entries fault):BookAt CB CE H' b q name entries fault:=by
 obtain⟨⟨dx,h1⟩,h2,⟨as,h3,h4⟩,h5⟩:=h
 refine⟨⟨dx,s _ _ h1 (fun _ q=>nomatch q)⟩,FU s _ _ h2 (fun _ q=>nomatch q),⟨as,s _ _ h3 (fun _ q=>nomatch q),Paired.mapP h4 fun a z q=>?_⟩,FU s _ _ h5 (fun _ q=>nomatch q)⟩
 obtain⟨dx,ar,am,h1,h2,h3⟩:=q
 exact⟨dx,ar,am,FU s _ _ h1 (fun _ q=>nomatch q),FU s _ _ h2 (fun _ q=>nomatch q),FU s _ _ h3 (fun _ q=>nomatch q)⟩
structure EntC (K:AD) (CE:Addr):Prop where
 cl:Cls K CE
 row:NoAttr K CE "row"
 meaning:NoAttr K CE "meaning"
structure BookC (K:AD) (CB:Addr):Prop where
 cl:Cls K CB
 name:NoAttr K CB "name"
 entries:NoAttr K CB "entries"
 fault:NoAttr K CB "fault"
abbrev U9:Stmt:=De Vs 0
def JF:List V->Option (List (Str×V))
 | [.ref r,.ref m]=>some (ef r m)
 | _=>none
theorem fQ:Ag ["self","row","meaning"] ["self","row","meaning"] (AL U9):=⟨rfl,rfl,rfl,by decide +kernel,rfl,by decide +kernel,by decide +kernel⟩
section
variable {P:Program}{w:World}{K:AD}{mg:Str->Option Value}{base:Heap}{CB CE CL CK:Addr}
theorem ok_entI {f:Addr}{fd:FuncData} (F:Fun K "__init__" "Entry.__init__" U9 f fd) (T:EntC K CE):FnOk P w K mg base CX0 1 f fd ["self","row","meaning"] (EK CE JF):=by
 have inv:∀us l,JF us=some l->∃r m,us=[.ref r,.ref m]/\l=ef r m:=by
  intro us l h
  unfold JF at h
  split at h
  .cases h;exact⟨_,_,rfl,rfl⟩
  .cases h
 refine F.ok fQ (fun vs H Q E h=>?_) (fun cdv A outer s H vs Q E hr h=>?_)
 .obtain⟨p,dx,us,l,rfl,hf,_⟩:=h
  obtain⟨_,_,rfl,_⟩:=inv _ _ hf
  rfl
 .obtain⟨p,dx,us,l,rfl,hf,hp,k⟩:=h
  obtain⟨r,m,rfl,rfl⟩:=inv _ _ hf
  refine⟨_,AJ (BY (pv 0) (pv 1) rfl) (AK (BY (pv 0) (pv 2) rfl)),?_⟩
  refine⟨_,rfl,_,rfl,p,CE,dx,[],rfl,hp,T.cl,T.row,(by show 0 < 1000;decide),?_⟩
  refine⟨_,rfl,_,rfl,p,CE,dx,_,rfl,AG,T.cl,T.meaning,(by show 1 < 1000;decide),?_⟩
  rw[FC]
  exact k _ AG fun b o e hb=>by rw[AF hb];exact e
end
abbrev U3:Stmt:=De Vq 0
def O5 (CB:Addr):Sp:=fun vs H Q _=>∃(a dx:Addr),vs=[.ref a]/\H a=some (.ins CB dx [])/\
 ∀(H':Hp) (q:BA),H' a=some (.ins CB dx (bfB q.bn q.be q.bf))->H' q.bn=some (.lst [])->H' q.be=some (.lst [])->H' q.bf=some (.lst [])->q.bn≠q.be->q.bf≠q.be->(∀b o,H b=some o->b≠a->H' b=some o)->(∀x∈[q.bn,q.be,q.bf],H x=none)->Q .non H'
theorem fM:Ag ["self"] ["self"] (AL U3):=⟨rfl,rfl,rfl,by decide +kernel,rfl,by decide +kernel,by decide +kernel⟩
section
variable {P:Program}{w:World}{K:AD}{mg:Str->Option Value}{base:Heap}{CB CE CL CK:Addr}
theorem ok_bookI {f:Addr}{fd:FuncData} (F:Fun K "__init__" "Book.__init__" U3 f fd) (T:BookC K CB):FnOk P w K mg base CX0 1 f fd ["self"] (O5 CB):=by
 refine F.ok fM (fun vs H Q E h=>?_) (fun cdv A outer s H vs Q E hr h=>?_)
 .obtain⟨a,dx,rfl,_⟩:=h
  rfl
 .obtain⟨a,dx,rfl,ha,k⟩:=h
  refine⟨_,AJ (BY (pv 0) (BD AE) rfl) (AJ (BY (pv 0) (BD AE) rfl) (AK (BY (pv 0) (BD AE) rfl))),?_⟩
  have step:∀{H1:Hp} {fs:List (Str×V)} {q:Addr} {o:HO} {fs':List (Str×V)},H1 a=some (.ins CB dx fs)->H1 q=none->a≠q/\(upd (upd H1 q o) a (.ins CB dx fs')) a=some (.ins CB dx fs')/\(upd (upd H1 q o) a (.ins CB dx fs')) q=some o/\
    (upd H1 q o) a=some (.ins CB dx fs)/\(∀b u,H1 b=some u->b≠a->(upd (upd H1 q o) a (.ins CB dx fs')) b=some u):=fun {H1 fs q o fs'} h1 h2=>by
   have ne:a≠q:=Ac h1 h2
   refine⟨ne,AG,by rw[AF (Ar ne),AG],by rw[AF ne];exact h1,fun b u e n=>?_⟩
   rw[AF n,AF (Ac e h2)]
   exact e
  refine⟨Ax _,fun q1 n1=>?_⟩
  obtain⟨ne1,a1,b1,i1,k1⟩:=step (fs':=[("name",.ref q1)]) (o:=.lst []) ha n1
  refine⟨_,rfl,a,CB,dx,_,rfl,i1,T.cl,T.name,(by show 0 < 1000;decide),?_⟩
  refine⟨Ax _,fun q2 n2=>?_⟩
  obtain⟨ne2,a2,b2,i2,k2⟩:=step (fs':=[("name",.ref q1),("entries",.ref q2)]) (o:=.lst []) a1 n2
  refine⟨_,rfl,a,CB,dx,_,rfl,i2,T.cl,T.entries,(by show 1 < 1000;decide),?_⟩
  refine⟨Ax _,fun q3 n3=>?_⟩
  obtain⟨ne3,a3,b3,i3,k3⟩:=step (fs':=bfB q1 q2 q3) (o:=.lst []) a2 n3
  refine⟨_,rfl,a,CB,dx,_,rfl,i3,T.cl,T.fault,(by show 2 < 1000;decide),?_⟩
  have c2:=k2 _ _ b1 (Ar ne1)
  have c3:=k3 _ _ c2 (Ar ne1)
  have d3:=k3 _ _ b2 (Ar ne2)
  have fr:∀{H1:Hp} {q:Addr},H1 q=none->(∀b u,H b=some u->b≠a->H1 b=some u)->a≠q->H q=none:=fun {H1 q} n k ne=>by
   cases z:H q with
   | none=>rfl
   | some u=>rw[k q u z (Ar ne)] at n;cases n
  refine k _ ⟨q1,q2,q3⟩ a3 c3 d3 b3 (Ac b1 n2) (Ar (Ac b2 n3)) (fun b u e n=>k3 _ _ (k2 _ _ (k1 _ _ e n) n) n) ?_
  intro x hx
  simp only[AQ,DZ,or_false] at hx
  rcases hx with rfl | rfl | rfl
  .exact n1
  .exact fr n2 (fun b u e n=>k1 _ _ e n) ne2
  .exact fr n3 (fun b u e n=>k2 _ _ (k1 _ _ e n) n) ne3
end
abbrev VW:Stmt:=Wg
def EH (L:AN) (past:List BH) (r:List Nat):Nat:=if L.canShow r=false then 4 else if (past.getLast?.any fun (e:BH)=>!BZ e.row r)=true then 5 else if IH<=past.length then 6 else 0
def XS (K:AD) (CL CK CB CE:Addr):Sp:=fun vs H Q _=>∃(a b c:Addr) (p:LA) (q:BA) (L:AN) (fl nm bfl:List Int) (past:List BH) (r:List Nat),vs=[.ref a,.ref b,.ref c]/\LockAt CL CK H a p (zs L.name) (L.kinds.map zk) fl/\Wf L.kinds/\BookAt CB CE H b q nm past bfl/\
 SqL K H c ((zn r).map V.int)/\r.length < 1000/\(∀s∈r,L.isSignAt s=true)/\r≠[]/\past.length<=2048/\Pur H Q (.int (EH L past r:Nat))
theorem fj:Ag ["locker","book","row"] ["locker","book","row"] (AL VW):=⟨rfl,rfl,rfl,by decide +kernel,rfl,by decide +kernel,by decide +kernel⟩
section
variable {P:Program}{w:World}{K:AD}{mg:Str->Option Value}{base:Heap}{CB CE CL CK:Addr}
theorem ok_rowF {f:Addr}{fd:FuncData} (F:Fun K "row_fault" "row_fault" VW f fd) (B:Blt mg) (TB:BookC K CB) (TE:EntC K CE) (c1:Cst mg "NOT_SHOWN" (.int 4)) (c2:Cst mg "NOT_BEHIND" (.int 5)) (c3:Cst mg "TOO_MANY_ENTRIES" (.int 6)) (c4:Cst mg "MOST_ENTRIES" (.int 2048))
  (g1:Has P w K mg "can_show" 3 ["locker","signs"] (PH K CL CK)) (g2:Has P w K mg "is_row_behind" 2 ["row","before"] (O4 K)):FnOk P w K mg base CX0 4 f fd ["locker","book","row"] (XS K CL CK CB CE):=by
 refine F.ok fj (fun vs H Q E h=>?_) (fun cdv A outer s H vs Q E hr h=>?_)
 .obtain⟨a,b,c,p,q,L,fl,nm,bfl,past,r,rfl,_⟩:=h
  rfl
 .obtain⟨a,b,c,p,q,L,fl,nm,bfl,past,r,rfl,hL,hW,hB,hc,hlr,hin,hne,hpl,k⟩:=h
  have hr1:Room 1 _:=hr.mono (by decide)
  have hr2:Room 2 _:=hr.mono (by decide)
  unfold EH at k
  refine⟨_,AJ (As (EG (DE (AO g1 hr (by rfl) (AB (pv 0) (AB (pv 2) AE))))) (AK (AM (AS c1 rfl))) Aw)
   (AJ (As (PW.pt (Dv (Aj FZ (BV CQ (by rfl) B.len CM (AB (AW (pv 1) rfl) AE)) AU (AY _))
     (Em (EG (DE (AO g2 hr2 (by rfl) (AB (pv 2) (AB (AW (CH CF (AW (pv 1) rfl) (G3 G4 AU) (fun _ _=>rfl)) rfl) AE)))))))) (AK (AM (AS c2 rfl))) Aw)
   (AJ (As (Aj Bt (BV CQ (by rfl) B.len CM (AB (AW (pv 1) rfl) AE)) (AS c4 rfl) (AY _)) (AK (AM (AS c3 rfl))) Aw)
   (AK (AM AU)))),?_⟩
  refine⟨_,rfl,_,rfl,a,c,p,L,fl,r,rfl,hL,hW,hc,hlr,hin,hne,fun H1 s1=>⟨_,rfl,?_⟩⟩
  cases h1:L.canShow r with
  | false =>
   rw[JJz h1] at k
   exact bT rfl (k H1 s1)
  | true =>
   rw[JJx (by rw[h1];decide)] at k
   refine bF rfl ?_
   have hB1:=hB.mono s1
   obtain⟨dx,ho⟩:=hB1.ob
   obtain⟨as,he,hp⟩:=hB1.ents
   have hl:=Bp hp
   refine⟨_,rfl,b,CB,dx,_,_,rfl,ho,TB.cl,TB.entries,Gq,q.be,_,rfl,.inl (SqL.of he),_,_,rfl,rfl,_,rfl,?_⟩
   have last:∀(H2:Hp),Same H1 H2->(past.getLast?.any fun (e:BH)=>!BZ e.row r)=false->Lv (PV (Lw (tOp rEq (tCB (fun xs H_1 Q=>∃p ys,xs=[V.ref p]/\(SqL K H_1 p ys\/SqT K H_1 p ys)/\Q (V.int ys.length) H_1) (GK (Ls K (En 1) "entries") GL)) (tC (V.int 2048)))) (IC (tC (V.int 6))) PY) (IC (tC (V.int 0)))
     { nx:=fun x H'=>Q V.non H',rt:=Q } (L2.start ["locker","book","row"] [V.ref a,V.ref b,V.ref c]) H2:=fun H2 s2 hn=>by
    rw[hn,JJx A8] at k
    refine⟨_,rfl,b,CB,dx,_,_,rfl,s2 _ _ ho,TB.cl,TB.entries,Gq,q.be,_,rfl,.inl (SqL.of (s2 _ _ he)),rfl,_,rfl,?_⟩
    by_cases h6:IH<=past.length
    .rw[JJz h6] at k
     have h6:2048<=past.length:=h6
     exact bT (JJk (congrArg V.int (by rw[AH,hl];omega))) (k H2 (s1.trans s2))
    .rw[JJx h6] at k
     have h6:¬2048<=past.length:=h6
     exact bF (JJj (Br (by rw[AH,hl];omega))) (k H2 (s1.trans s2))
   cases hlast:past.getLast? with
   | none =>
    have:past=[]:=IT.mp hlast
    subst this
    have:as=[]:=by cases as with | nil=>rfl | cons _ _=>simp at hl
    subst this
    exact bF rfl (bF rfl (last H1 (Same.refl H1) rfl))
   | some e =>
    obtain⟨r',e'⟩:=JM hlast
    subst e'
    rw[BC,Bz] at hl
    obtain⟨asR,aQ,rfl⟩:∃asR aQ,as=asR++[aQ]:=by
     have ne:as≠[]:=by intro q;rw[q] at hl;simp at hl
     exact⟨as.dropLast,as.getLast ne,(IQ ne).symm⟩
    have hlR:asR.length=r'.length:=by rw[BC,Bz] at hl;omega
    obtain⟨aq',e1,dq,ar,am,hq,har,ham⟩:=Cf hp (i:=r'.length) (b:=e) (by simp)
    rw[HF (by omega),hlR,Ib] at e1
    cases e1
    refine bT (JJk (by rw[AH,BC,Bz];omega)) ?_
    refine⟨_,rfl,_,rfl,b,CB,dx,_,_,rfl,ho,TB.cl,TB.entries,Gq,_,rfl,q.be,_,_,_,rfl,rfl,SqL.of he,by rw[Bo];exact Iw _ _,_,CE,dq,_,_,rfl,hq,TE.cl,TE.row,Nh,c,ar,zn r,zn e.row,rfl,s1.seq hc,SqL.of har,fun H2 s2=>⟨_,rfl,?_⟩⟩
    rw[NR]
    have elast:((r'++[e]).getLast?.any fun (e:BH)=>!BZ e.row r)=!BZ e.row r:=by rw[hlast];rfl
    cases hbf:BZ e.row r with
    | false =>
     rw[elast,hbf,JJz (show(!false)=true from rfl)] at k
     exact bT rfl (k H2 (s1.trans s2))
    | true=>exact bF rfl (last H2 s2 (by rw[elast,hbf];rfl))
end
end Fb
namespace Fb
open PySem PySem.Spec PyProof.Rows L2
theorem Xr (n:AX):∀(ks:List Ad) (i:Nat),BO (Ci i (ks.map zk)) (Ap (zs n))=(ks.findIdx? fun k=>k.role==.sign n).map fun j=>V.int ((i+j:Nat):Int)
 | [],i=>rfl
 | k::ks,i=>by
  have ih:=Xr n ks (i+1)
  rw[Aq,Hw,List.findIdx?_cons]
  have el:(zk k).lab=zl k.role:=rfl
  rw[el]
  have step:∀r:Option Nat,((r.map fun j=>j+1).map fun j=>V.int ((i+j:Nat):Int))=r.map fun j=>V.int ((i+1+j:Nat):Int):=fun r=>by
   cases r with
   | none=>rfl
   | some j=>show some (V.int ((i+(j+1):Nat):Int))=some (V.int ((i+1+j:Nat):Int));rw[show i+(j+1)=i+1+j by omega]
  cases hr:k.role with
  | sign m =>
   by_cases e:m=n
   .subst e
    rw[show((HD m==HD m)=true) from beq_self_eq_true _,JJz rfl]
    show BO ((Ap (zs m),V.int ((i:Nat):Int))::Ci (i+1) (ks.map zk)) (Ap (zs m))=_
    rw[DG rfl]
    rfl
   .have ne:(HD m==HD n)=false:=beq_eq_false_iff_ne.mpr fun q=>e (by injection q)
    rw[ne,JJx A8,step,<- ih]
    show BO ((Ap (zs m),V.int ((i:Nat):Int))::Ci (i+1) (ks.map zk)) (Ap (zs n))=_
    exact DF (p:=(Ap (zs m),V.int ((i:Nat):Int))) fun q=>e (EO (K4 q))
  | same m =>
   have ne:(HC.same m==HD n)=false:=beq_eq_false_iff_ne.mpr fun q=>nomatch q
   rw[ne,JJx A8,step,<- ih]
   rfl
  | answer =>
   have ne:(HC.answer==HD n)=false:=beq_eq_false_iff_ne.mpr fun q=>nomatch q
   rw[ne,JJx A8,step,<- ih]
   rfl
theorem iU (L:AN) (n:AX):BO (Ci 0 (L.kinds.map zk)) (Ap (zs n))=(L.find n).map fun (j:Nat)=>V.int (j:Int):=by
 rw[Xr]
 unfold MC
 cases L.kinds.findIdx? fun k=>k.role==.sign n with
 | none=>rfl
 | some j=>show some (V.int ((0+j:Nat):Int))=some (V.int (j:Int));rw[ES]
theorem Ke:bootBuiltins "tuple"=some (.type "tuple"):=by decide +kernel
theorem Kf {X:Cx} (K:AD) (hK:X.K=K):EW X (.type "tuple") (fun xs H Q=>∃p ys,xs=[V.ref p]/\SqL K H p ys/\∀l,H l=none->Q (.ref l) (upd H l (.tup ys))):=by
 subst hK
 intro pins s σ H xs us Q I r h
 obtain⟨p,ys,e,h1,h2⟩:=h
 exact Rr pins s σ H xs us Q I r ⟨p,ys,e,.inl ⟨h1,h2⟩⟩
theorem Of {L:AN}:∀{ns:List AX}{r:List Nat},L.rowIn ns=some r->(ns.all fun n=>(L.find n).isSome)=true/\r=ns.map (fun n=>(L.find n).getD 0)/\∀s∈r,s < L.kinds.length
 | [],r,h=>by
  simp[Fo] at h
  subst h
  exact⟨rfl,rfl,fun s hs=>by cases hs⟩
 | n::ns,r,h=>by
  unfold Fo at h
  rw[HI] at h
  rw[IL,Aq]
  cases hf:L.find n with
  | none=>rw[hf] at h;cases h
  | some i =>
   rw[hf] at h
   cases hr:IV L.find ns with
   | none=>rw[hr] at h;cases h
   | some r' =>
    rw[hr] at h
    have h:some (i::r')=some r:=h
    cases h
    obtain⟨h1,h2,h3⟩:=Of (L:=L) (ns:=ns) (r:=r') hr
    refine⟨by rw[h1];rfl,by rw[<- h2];rfl,fun s hs=>?_⟩
    rcases AQ.mp hs with e | hs
    .subst e
     unfold MC at hf
     exact(QC.mp hf).1
    .exact h3 s hs
theorem Oe {L:AN}:∀{ns:List AX}{r:List Nat},L.rowIn ns=some r->∀s∈r,L.isSignAt s=true
 | [],r,h,s,hs=>by
  simp[Fo] at h
  subst h
  cases hs
 | n::ns,r,h,s,hs=>by
  unfold Fo at h
  rw[HI] at h
  cases hf:L.find n with
  | none=>rw[hf] at h;cases h
  | some i =>
   rw[hf] at h
   cases hr:IV L.find ns with
   | none=>rw[hr] at h;cases h
   | some r' =>
    rw[hr] at h
    have h:some (i::r')=some r:=h
    cases h
    rcases AQ.mp hs with e | hs
    .subst e
     unfold MC at hf
     obtain⟨h1,h2,_⟩:=QC.mp hf
     unfold AN.isSignAt
     rw[Ba h1]
     show FD _=true
     unfold FD
     rw[eq_of_beq h2]
    .exact Oe (L:=L) (ns:=ns) (r:=r') hr s hs
theorem ay (L:AN) (past:List BH) (names:List AX) {r:List Nat} (h:L.rowIn names=some r):L.entryRow past names=if EH L past r=0 then .ok r else .error (EH L past r):=by
 unfold MB EH
 rw[h]
 dsimp only
 split
 .rfl
 .split
  .rfl
  .split
   .rfl
   .rfl
theorem F8 {z:Addr}{H:Hp}{o:HO}:hid [z] (upd H z o)=hid [z] H:=by
 funext b
 by_cases m:b∈[z]
 .rw[Dd m,Dd m]
 .rw[A7 m,A7 m,AF fun q=>m (by simp[q])]
theorem fA {L:AN}{past:List BH}{r:List Nat} (h:EH L past r=0):past.length < 2048:=by
 unfold EH at h
 split at h
 .cases h
 .split at h
  .cases h
  .split at h
   .cases h
   .rename_i q
    have q:¬2048<=past.length:=q
    omega
abbrev Ow:Stmt:=Wj
def C2 (L:AN) (n:AX):V:=match L.find n with
 | some j=>.int (j:Nat)
 | none=>.non
def Hx (L:AN) (b:AX):List V:=(BI 46 b).map (C2 L)
theorem gC (L:AN) (n:AX):(BO (Ci 0 (L.kinds.map zk)) (Ap (zs n))).getD .non=C2 L n:=by
 rw[iU]
 unfold C2
 cases L.find n <;> rfl
theorem gD (L:AN) (b:AX):(Hx L b).all Cy=true:=by
 unfold Hx
 rw[GS,Cu]
 intro n _
 show Cy (C2 L n)=true
 unfold C2
 cases L.find n <;> rfl
theorem O2 {L:AN}:∀{ns:List AX},inV .non (ns.map (C2 L))=(L.rowIn ns).isNone
 | []=>rfl
 | n::ns=>by
  have ih:=O2 (L:=L) (ns:=ns)
  show(eqV (C2 L n) .non || inV .non (ns.map (C2 L)))=_
  rw[ih]
  unfold Fo C2
  rw[HI]
  cases hf:L.find n with
  | none=>rfl
  | some i =>
   show(false || (IV L.find ns).isNone)=_
   rw[HA]
   cases hr:IV L.find ns with
   | none=>rfl
   | some r=>rfl
theorem Li {L:AN}:∀{ns:List AX}{r:List Nat},L.rowIn ns=some r->ns.map (C2 L)=(zn r).map V.int
 | [],r,h=>by
  simp[Fo] at h
  subst h
  rfl
 | n::ns,r,h=>by
  unfold Fo at h
  rw[HI] at h
  cases hf:L.find n with
  | none=>rw[hf] at h;cases h
  | some i =>
   rw[hf] at h
   cases hr:IV L.find ns with
   | none=>rw[hr] at h;cases h
   | some r' =>
    rw[hr] at h
    have h:some (i::r')=some r:=h
    cases h
    have e:C2 L n=V.int (i:Nat):=by unfold C2;rw[hf]
    rw[Aq,Li (L:=L) (ns:=ns) (r:=r') hr,e]
    rfl
def PJ (K:AD) (CL CK:Addr):Sp:=fun vs H Q _=>∃(a c:Addr) (p:LA) (L:AN) (fl:List Int) (b:AX),vs=[.ref a,.ref c]/\LockAt CL CK H a p (zs L.name) (L.kinds.map zk) fl/\SqL K H c ((zs b).map V.int)/\b.length < 100000/\
 ∀(H':Hp) (x:Addr),Same H H'->H x=none->H' x=some (.lst (Hx L b))->Q (.ref x) H'
theorem scSigns:Ag ["locker","word","name"] ["locker","word"] (AL Ow):=⟨rfl,rfl,rfl,by decide +kernel,rfl,by decide +kernel,by decide +kernel⟩
section
variable {P:Program}{w:World}{K:AD}{mg:Str->Option Value}{base:Heap}{CB CE CL CK:Addr}
theorem ok_signs {f:Addr}{fd:FuncData} (F:Fun K "signs_told" "signs_told" Ow f fd) (B:Blt mg) (TL:LockC K CL) (c1:Cst mg "FULL_STOP" (.int 46)) (g1:Has P w K mg "split_at" 1 ["mark","values"] (Fh K)):FnOk P w K mg base CX0 2 f fd ["locker","word"] (PJ K CL CK):=by
 refine F.ok scSigns (fun vs H Q E h=>?_) (fun cdv A outer s H vs Q E hr h=>?_)
 .obtain⟨a,c,p,L,fl,b,rfl,_⟩:=h
  rfl
 .obtain⟨a,c,p,L,fl,b,rfl,hL,hS,hlen,k⟩:=h
  have hu:=Ew hr
  have zl:(zs b).length < 100000:=by rw[Al];exact hlen
  refine⟨_,AK (AM (Ej (own:=[("name",2)]) rfl scSigns.nd (DS (AO g1 hr (by rfl) (AB (AS c1 rfl) (AB (pv 1) AE)))) (D8 (N:=["locker","word","name"]) (sc:=AL Ow) (by decide +kernel))
    (fun s H C cl fp=>CT (i:=2) scSigns.nd rfl (Ai rfl)) (fun s H C cl fp=>E7) (fun s H C cl fp=>dk hu (G2 K rfl (pv 0) rfl) (Hq (Kf K rfl) (by rfl) B.tuple Ke (AB (pv 2) AE)) ⟨rfl,rfl,rfl,rfl⟩))),?_⟩
  refine⟨_,rfl,c,46,zs b,rfl,hS,zl,fun H2 pn an s2 npn nan hpn hpan=>?_⟩
  rw[Kl] at hpan
  have hal:=Bp hpan
  rw[AH] at hal
  obtain⟨hb46,_⟩:=T1 b
  refine⟨pn,rfl,⟨_,SqL.of hpn⟩,fun D hD=>?_⟩
  have L2:=hL.mono s2
  obtain⟨dxL,hoL⟩:=L2.ob
  unfold Hx at k
  generalize BI 46 b=names at hpan hal hb46 k
  refine JN (n:=(an.map V.ref).length) (tt:=Fl) (fun i H'=>Same H2 H'/\H' D=some (.lst ((names.take i).map (C2 L)))) ⟨(Same.refl H2).new hD,AG⟩
   (fun i H' hi p=>FW (SqL.of (p.1 _ _ hpn)) hi) (fun H' p=>FX (SqL.of (p.1 _ _ hpn))) ?_ ?_
  .rintro i y H3 H3' hi ⟨sH,hDH⟩ ⟨rfl,hy⟩
   have hy:=hy _ (SqL.of (sH _ _ hpn))
   rw[AH] at hi
   obtain⟨nm',hnm⟩:∃nm',names[i]?=some nm':=⟨_,Ba (by omega)⟩
   obtain⟨cc,hc,hcc⟩:=Cf hpan (i:=i) (b:=zs nm') (by rw[Ao,hnm];rfl)
   rw[Ao,hc] at hy
   have ey:V.ref cc=y:=Af hy
   subst ey
   refine⟨rfl,?_⟩
   simp only[Fl,if_true]
   refine⟨_,rfl,a,CL,dxL,_,_,rfl,sH _ _ hoL,TL.cl,TL.signs,JO,p.sg,rfl,.inr ⟨_,Rd.of (sH _ _ L2.sg)⟩,_,rfl,cc,_,rfl,SqL.of (sH _ _ hcc),fun tp ntp=>?_⟩
   have nDtp:D≠tp:=Ac hDH ntp
   have s3:Same H3' (upd H3' tp (.tup ((zs nm').map V.int))):=(Same.refl _).new ntp
   have ht:upd H3' tp (.tup ((zs nm').map V.int)) tp=some (.tup ((Ap (zs nm')).map kV)):=by rw[FY];exact AG
   refine⟨_,DGet.t (k:=Ap (zs nm')) (s3 _ _ (sH _ _ L2.sg)) ht,?_⟩
   rw[gC]
   refine⟨_,s3 _ _ hDH,CG (by rw[AH,DK];omega),(sH.trans s3).wr hD,?_⟩
   rw[AG,PZ hnm,Bo]
   rfl
  .rintro H3 ⟨s3,hD3⟩
   rw[AH,FG (show names.length<=an.length by omega)] at hD3
   exact k H3 D (s2.trans s3) (s2.free hD) hD3
end
abbrev Vh:Stmt:=Wm
def XY (K:AD) (CL CK CB CE:Addr):Sp:=fun vs H Q _=>∃(a b la:Addr) (p:LA) (q:BA) (L:AN) (fl nm bfl:List Int) (past:List BH) (ln:AX),vs=[.ref a,.ref b,.ref la]/\LockAt CL CK H a p (zs L.name) (L.kinds.map zk) fl/\Wf L.kinds/\BookAt CB CE H b q nm past bfl/\
 past.length<=2048/\SqL K H la ((zs ln).map V.int)/\ln.length < 100000/\
 (∀k,C8 L past ln=.error k->∀H',Same H H'->Q (.int k) H')/\
 (∀past',C8 L past ln=.ok past'->∀H',BookAt CB CE H' b q nm past' bfl->past'.length<=2048->KeepBut [q.be] H H'->Q (.int 0) H')
theorem scTakeE:Ag ["locker","book","line","row","fault"] ["locker","book","line"] (AL Vh):=⟨rfl,rfl,rfl,by decide +kernel,rfl,by decide +kernel,by decide +kernel⟩
section
variable {P:Program}{w:World}{K:AD}{mg:Str->Option Value}{base:Heap}{CB CE CL CK:Addr}
theorem ok_takeE {f:Addr}{fd:FuncData} (F:Fun K "take_entry" "take_entry" Vh f fd) (TB:BookC K CB) (c1:Cst mg "NO_SUCH_LINE" (.int 1)) (c2:Cst mg "NO_SIGN" (.int 3)) (g1:Has P w K mg "is_entry_line" 4 ["line"] (O7 K)) (g2:Has P w K mg "row_word" 2 ["line"] (Jh K)) (g6:Has P w K mg "signs_told" 2 ["locker","word"] (PJ K CL CK))
  (g3:Has P w K mg "row_fault" 4 ["locker","book","row"] (XS K CL CK CB CE)) (g4:D7 P w K mg "Entry" CE 1 ["self","row","meaning"] (EK CE JF)) (g5:Has P w K mg "meaning_told" 3 ["line"] (Lm K)):FnOk P w K mg base CX0 5 f fd ["locker","book","line"] (XY K CL CK CB CE):=by
 refine F.ok scTakeE (fun vs H Q E h=>?_) (fun cdv A outer s H vs Q E hr h=>?_)
 .obtain⟨a,b,la,p,q,L,fl,nm,bfl,past,ln,rfl,_⟩:=h
  rfl
 .obtain⟨a,b,la,p,q,L,fl,nm,bfl,past,ln,rfl,hL,hW,hB,hpl,hS,hlen,ke,ko⟩:=h
  have hr2:Room 2 _:=hr.mono (by decide)
  have hr3:Room 3 _:=hr.mono (by decide)
  have hu:=Ew hr
  have zl:(zs ln).length < 100000:=by rw[Al];exact hlen
  refine⟨_,AJ (As (EG (DE (AO g1 hr (by rfl) (AB (pv 2) AE)))) (AK (AM (AS c1 rfl))) Aw)
   (AJ (BN (i:=3) scTakeE.nd rfl (Ai rfl) (AO g6 hr2 (by rfl) (AB (pv 0) (AB (AO g2 hr2 (by rfl) (AB (pv 2) AE)) AE))))
   (AJ (As (Aj LL Du (pv 3) (by rfl)) (AK (AM (AS c2 rfl))) Aw)
   (AJ (BN (i:=4) scTakeE.nd rfl (Ai rfl) (AO g3 hr (by rfl) (AB (pv 0) (AB (pv 1) (AB (pv 3) AE)))))
   (AJ (As (Aj Bt (pv 4) AU (AY _)) (AK (El (EE EU GX GY GH (AW (pv 1) rfl) (AB (Fd g4 hr2 (by rfl) (AB (pv 3) (AB (AO g5 hr3 (by rfl) (AB (pv 2) AE)) AE))) AE)))) Aw)
   (AK (AM (pv 4))))))),?_⟩
  refine⟨_,rfl,la,ln,rfl,hS,hlen,fun H1 s1=>⟨_,rfl,?_⟩⟩
  have hent:=Nm ln
  cases hok:Cn ln with
  | false =>
   rw[hok,JJx A8] at hent
   exact bT rfl (ke 1 (by unfold C8;rw[hent]) H1 s1)
  | true =>
  rw[hok,JJz rfl] at hent
  refine bF rfl ?_
  have hn8:(BI 46 (Az ln)).length<=8:=by
   unfold Cn at hok
   rw[BL,BL] at hok
   exact JJq hok.1.1
  refine⟨_,rfl,_,rfl,la,zs ln,rfl,s1.seq hS,zl,fun H2 pw s2 npw hpw=>?_⟩
  rw[JJ] at hpw
  have:=Nw ln
  have s12:=s1.trans s2
  refine⟨a,pw,p,L,fl,Az ln,rfl,hL.mono s12,SqL.of hpw,by omega,fun H4 D3 s4 hD3 hd4=>?_⟩
  have s14:=s12.trans s4
  have hsf:=gD L (Az ln)
  unfold Hx at hd4 hsf
  generalize hnames:BI 46 (Az ln)=names at hent hn8 hd4 hsf
  refine⟨_,rfl,D3,_,rfl,.inl (SqL.of hd4),rfl,hsf,_,rfl,?_⟩
  rw[JJx A8,O2]
  cases hrow:L.rowIn names with
  | none =>
   refine bT rfl ?_
   refine ke 3 ?_ H4 s14
   unfold C8
   rw[hent]
   dsimp only
   unfold MB
   rw[hrow]
  | some r =>
   obtain⟨ra,rm,rlt⟩:=Of hrow
   have hrl:r.length=names.length:=by rw[rm,AH]
   refine bF rfl ?_
   rw[Li hrow] at hd4
   refine⟨_,rfl,_,rfl,_,rfl,a,b,D3,p,q,L,fl,nm,bfl,past,r,rfl,hL.mono s14,hW,hB.mono s14,SqL.of hd4,by omega,Oe hrow,(fun z=>Ea 46 (Az ln) (by rw[hnames];rw[z] at hrl;exact HH.mp hrl.symm)),hpl,fun H6 s6=>?_⟩
   have s16:=s14.trans s6
   have hrow2:=ay L past names hrow
   have hstep:C8 L past ln=if EH L past r=0 then .ok (past++[⟨r,BK ln⟩]) else .error (EH L past r):=by
    unfold C8
    rw[hent]
    dsimp only
    rw[hrow2]
    by_cases z:EH L past r=0
    .rw[JJz z,JJz z]
    .rw[JJx z,JJx z]
   refine⟨_,rfl,rfl,_,rfl,?_⟩
   by_cases h0:EH L past r=0
   .rw[JJz h0] at hstep
    refine bT (JJk (by rw[h0];rfl)) ?_
    have B6:=hB.mono s16
    obtain⟨dxB,hoB⟩:=B6.ob
    obtain⟨as,hbe,hpe⟩:=B6.es
    have hael:=Bp hpe
    have nD3:D3≠q.be:=fun z=>by
     obtain⟨as4,h4,_⟩:=(hB.mono s12).es
     rw[z,h4] at hD3;cases hD3
    refine⟨_,rfl,b,CB,dxB,_,_,rfl,hoB,TB.cl,TB.entries,Gq,.inl ⟨rfl,_,SqL.of hbe⟩,?_⟩
    refine⟨_,rfl,_,rfl,la,zs ln,rfl,s16.seq hS,zl,fun H7 pm s7 npm hpm=>?_⟩
    rw[OE] at hpm
    have npmq:pm≠q.be:=fun z=>by rw[z,hbe] at npm;cases npm
    intro x dx nx nd0 ne0
    refine⟨x,dx,[.ref D3,.ref pm],ef D3 pm,rfl,rfl,AG,fun H8 hx kp8=>⟨rfl,?_⟩⟩
    have s8:Same H7 H8:=Same.made nx nd0 kp8
    have s68:=s7.trans s8
    have nxq:x≠q.be:=fun z=>by rw[z,s7 _ _ hbe] at nx;cases nx
    have hbe8:=s68 _ _ hbe
    refine⟨q.be,_,_,rfl,rfl,hbe8,CG (by rw[AH];omega),?_⟩
    have h0':(0:Int)=((EH L past r:Nat):Int):=by rw[h0];rfl
    refine⟨_,rfl,?_⟩
    rw[<- h0']
    have nbq:b≠q.be:=BX hoB hbe (by intro z;cases z)
    have B8:=B6.mono s68
    refine ko _ hstep _ ⟨⟨dxB,by rw[AF nbq];exact s68 _ _ hoB⟩,by rw[F8];exact B8.nm,⟨as++[x],by rw[AG,Bo];rfl,?_⟩,by rw[F8];exact B8.bf⟩ (by rw[BC];have:=fA h0;simp;omega) ?_
    .rw[F8]
     refine Fc (Paired.mapP hpe fun y e qq=>qq.mono (FT s68)) ⟨dx,D3,pm,?_,?_,?_⟩
     .rw[A7 (by simpa using nxq)];exact hx
     .rw[A7 (by simpa using nD3)];exact s68 _ _ (s6 _ _ hd4)
     .rw[A7 (by simpa using npmq)];exact s8 _ _ hpm
    .intro y o e n
     rw[AF fun z=>n (by simp[z])]
     exact s68 _ _ (s16 _ _ e)
   .rw[JJx h0] at hstep
    refine bF (JJj (Br (by omega))) ?_
    exact⟨_,rfl,ke _ hstep H6 s16⟩
end
end Fb
namespace Fb
open PySem PySem.Spec PyProof.Rows L2
theorem SJ:BQ "book"=zs (BM "book"):=by decide +kernel
theorem SK:BQ "for"=zs (BM "for"):=by decide +kernel
abbrev Vg:Stmt:=Wo
def RY (q q':BA):Prop:=q'.be=q.be/\q'.bf=q.bf
def Lq (K:AD) (CL CK CB CE:Addr):Sp:=fun vs H Q _=>∃(a b la:Addr) (p:LA) (q:BA) (L:AN) (fl bfl:List Int) (st:BS) (i:Nat) (ln:AX),vs=[.ref a,.ref b,.int (i:Nat),.ref la]/\LockAt CL CK H a p (zs L.name) (L.kinds.map zk) fl/\Wf L.kinds/\
 BookAt CB CE H b q (zs st.name) st.entries bfl/\st.entries.length<=2048/\SqL K H la ((zs ln).map V.int)/\ln.length < 100000/\
 (∀k,Bv L st i ln=.error k->∀H',Same H H'->Q (.int k) H')/\
 (∀st',Bv L st i ln=.ok st'->∀H' q',BookAt CB CE H' b q' (zs st'.name) st'.entries bfl->RY q q'->st'.entries.length<=2048->KeepBut [b,q.be] H H'->Q (.int 0) H')
theorem fu:Ag ["locker","book","number","line"] ["locker","book","number","line"] (AL Vg):=⟨rfl,rfl,rfl,by decide +kernel,rfl,by decide +kernel,by decide +kernel⟩
section
variable {P:Program}{w:World}{K:AD}{mg:Str->Option Value}{base:Heap}{CB CE CL CK:Addr}
theorem ok_takeB {f:Addr}{fd:FuncData} (F:Fun K "take_line" "take_line" Vg f fd) (hne:CB≠CE) (TL:LockC K CL) (TB:BookC K CB) (c1:Cst mg "NO_SUCH_LINE" (.int 1)) (c2:Cst mg "OTHER_LOCKER" (.int 2)) (c3:Cst mg "HEAD_LINES" (.int 2)) (g1:Has P w K mg "is_naming_line" 3 ["line","first"] (Lo K)) (g2:Has P w K mg "named" 2 ["line"] (Ln K))
  (g3:Has P w K mg "take_entry" 5 ["locker","book","line"] (XY K CL CK CB CE)):FnOk P w K mg base CX0 6 f fd ["locker","book","number","line"] (Lq K CL CK CB CE):=by
 refine F.ok fu (fun vs H Q E h=>?_) (fun cdv A outer s H vs Q E hr h=>?_)
 .obtain⟨a,b,la,p,q,L,fl,bfl,st,i,ln,rfl,_⟩:=h
  rfl
 .obtain⟨a,b,la,p,q,L,fl,bfl,st,i,ln,rfl,hL,hW,hB,hpl,hS,hlen,ke,ko⟩:=h
  have hr2:Room 2 _:=hr.mono (by decide)
  have hr3:Room 3 _:=hr.mono (by decide)
  have zl:(zs ln).length < 100000:=by rw[Al];exact hlen
  refine⟨_,AJ (As (Aj dS (pv 2) (AS c3 rfl) (AY _)) (AK (AM (AO g3 hr (by rfl) (AB (pv 0) (AB (pv 1) (AB (pv 3) AE)))))) Aw)
   (AJ (As (EG (DE (AO g1 hr3 (by rfl) (AB (pv 3) (AB (LP (Aj Bt (pv 2) AU (AY _)) Dh Dh) AE))))) (AK (AM (AS c1 rfl))) Aw)
   (AJ (As (Aj Bt (pv 2) AU (AY _)) (AK (BY (pv 1) (AO g2 hr2 (by rfl) (AB (pv 3) AE)) rfl))
    (AK (As (Aj (Ey hr.units) (AO g2 hr2 (by rfl) (AB (pv 3) AE)) (AW (pv 0) rfl) (AY _)) (AK (AM (AS c2 rfl))) Aw)))
   (AK (AM AU)))),?_⟩
  refine⟨_,rfl,_,_,rfl,rfl,_,rfl,?_⟩
  by_cases h2:2<=i
  .have hstep:Bv L st i ln=(C8 L st.entries ln).map fun l=>⟨st.name,l⟩:=by
    unfold Bv
    rw[JJz h2]
   refine bT (JJk (by omega)) ?_
   refine⟨_,rfl,_,rfl,_,rfl,a,b,la,p,q,L,fl,_,bfl,st.entries,ln,rfl,hL,hW,hB,hpl,hS,hlen,fun k hk H' s'=>?_,fun past' hp H' hB' hl' kb=>?_⟩
   .exact ke k (by rw[hstep,hk];rfl) H' s'
   .exact ko ⟨st.name,past'⟩ (by rw[hstep,hp];rfl) H' q hB' ⟨rfl,rfl⟩ hl' (kb.mono fun y hy=>Av _ hy)
  .refine bF (JJj (by omega)) ?_
   by_cases h0:i=0
   .subst h0
    have hstep:Bv L st 0 ln=match By (BM "book") ln with
      | none=>.error 1
      | some n=>.ok ⟨n,st.entries⟩:=by
     unfold Bv
     rw[JJx (by omega),JJz rfl]
     try rfl
    refine⟨_,rfl,_,rfl,rfl,_,rfl,bT (JJk rfl) ?_⟩
    refine⟨la,zs ln,"book",rfl,hS,zl,by decide,fun H1 s1=>⟨_,rfl,?_⟩⟩
    rw[LF,SJ]
    cases hn:By (BM "book") ln with
    | none =>
     rw[hn] at hstep
     rw[LG hn]
     exact bT rfl (ke 1 hstep H1 s1)
    | some n =>
     rw[hn] at hstep
     obtain⟨q1,q2⟩:=LH hn
     rw[q1]
     refine bF rfl ?_
     refine⟨_,rfl,rfl,_,rfl,bT (JJk rfl) ?_⟩
     refine⟨_,rfl,la,zs ln,zs n,rfl,s1.seq hS,zl,q2,fun H2 z s2 nz hz=>?_⟩
     have s12:=s1.trans s2
     have B2:=hB.mono s12
     obtain⟨dx,ho⟩:=B2.ob
     obtain⟨as,hbe,hpe⟩:=B2.es
     refine⟨_,rfl,b,CB,dx,_,rfl,ho,TB.cl,TB.name,(by show 3 < 1000;decide),?_⟩
     have nzq:z≠q.be:=fun e=>by
      obtain⟨as1,h1,_⟩:=(hB.mono s1).es
      rw[e,h1] at nz;cases nz
     have nb:∀{x:Addr} {o:HO},H2 x=some o->(∀dx fs,o≠.ins CB dx fs)->x≠b:=fun e n=>BX e ho (n _ _)
     have k1:∀x o,H2 x=some o->x≠b->upd H2 b (.ins CB dx (BE "name" (V.ref z) (bfB q.bn q.be q.bf))) x=some o:=fun x o e n=>by rw[AF n];exact e
     have kh:∀x o,hid [q.be] H2 x=some o->(∀dx fs,o≠.ins CB dx fs)->hid [q.be] (upd H2 b (.ins CB dx (BE "name" (V.ref z) (bfB q.bn q.be q.bf)))) x=some o:=fun x o e n=>by
      have nx:x∉[q.be]:=fun m=>by rw[Dd m] at e;cases e
      rw[A7 nx] at e ⊢
      exact k1 x o e (nb e n)
     refine ko ⟨n,st.entries⟩ hstep _ ⟨z,q.be,q.bf⟩ ⟨⟨dx,AG⟩,kh _ _ (by rw[A7 (by simpa using nzq)];exact hz) (fun _ _ e=>nomatch e),⟨as,k1 _ _ hbe (nb hbe fun _ _ e=>nomatch e),Paired.mapP hpe fun y e qq=>?_⟩,kh _ _ B2.bf (fun _ _ e=>nomatch e)⟩ ⟨rfl,rfl⟩ hpl ?_
     .obtain⟨d2,ar,am,w1,w2,w3⟩:=qq
      exact⟨d2,ar,am,kh _ _ w1 (fun _ _ e=>by cases e;exact hne rfl),kh _ _ w2 (fun _ _ e=>nomatch e),kh _ _ w3 (fun _ _ e=>nomatch e)⟩
     .intro y o e n
      exact k1 y o (s12 y o e) fun w=>n (by simp[w])
   .have h1:i=1:=by omega
    subst h1
    have hstep:Bv L st 1 ln=match By (BM "for") ln with
      | none=>.error 1
      | some o=>if o≠L.name then .error 2 else .ok st:=by
     unfold Bv
     rw[JJx (by omega),JJx (by omega)]
     try rfl
    refine⟨_,rfl,_,rfl,rfl,_,rfl,bF (JJj (Br (by decide))) ?_⟩
    refine⟨la,zs ln,"for",rfl,hS,zl,by decide,fun H1 s1=>⟨_,rfl,?_⟩⟩
    rw[LF,SK]
    cases hn:By (BM "for") ln with
    | none =>
     rw[hn] at hstep
     rw[LG hn]
     exact bT rfl (ke 1 hstep H1 s1)
    | some n =>
     rw[hn] at hstep
     obtain⟨q1,q2⟩:=LH hn
     rw[q1]
     refine bF rfl ?_
     refine⟨_,rfl,rfl,_,rfl,bF (JJj (Br (by decide))) ?_⟩
     refine⟨_,rfl,la,zs ln,zs n,rfl,s1.seq hS,zl,q2,fun H2 z s2 nz hz=>?_⟩
     have s12:=s1.trans s2
     have L2:=hL.mono s12
     obtain⟨dx,ho⟩:=L2.ob
     refine⟨_,rfl,a,CL,dx,_,_,rfl,ho,TL.cl,TL.name,Tn,?_⟩
     refine⟨_,_,Ay (SqL.of hz),Ay (SqL.of L2.nm),Au _,Au _,?_⟩
     rw[Bx]
     refine⟨_,rfl,?_⟩
     have hstep:Bv L st 1 ln=if n≠L.name then .error 2 else .ok st:=hstep
     by_cases hq:n=L.name
     .rw[JJx fun w=>w hq] at hstep
      refine bF (by rw[JJk (by rw[hq])];rfl) ?_
      exact ko st hstep H2 q (hB.mono s12) ⟨rfl,rfl⟩ hpl (KeepBut.of s12)
     .rw[JJz hq] at hstep
      refine bT (by rw[JJj fun w=>hq (EO w)];rfl) ?_
      exact ke 2 hstep H2 s12
end
end Fb
namespace Fb
open PySem PySem.Spec PyProof.Rows L2
open PySem.W (CodeHd tabObj kla_obj kla_fn envX)
abbrev Lb:Stmt:=Wc
abbrev Cr:Expr:=N3 Lb
abbrev DT:Str:="read_book.<locals>.<lambda>"
def T6 (cL cB:Addr) (pm:Value) (c':Addr) (ctv:Value):Obj:=kla_obj "<lambda>" DT (Hg Cr) (Hj Cr) (EC Cr) [("locker",cL),("book",cB)] pm c' ctv
theorem frB:∀y∈(EC Cr).names,y.2=Fx->y.1∈(["locker","book"]:List Str):=by decide +kernel
theorem fX {cL cB:Addr} (h:cL≠cB):KW ["number","line","locker","book"] ["number","line"] (EC Cr) [("locker",cL),("book",cB)] :=
 ⟨rfl,rfl,rfl,by decide +kernel,rfl,by decide +kernel,by decide +kernel,rfl,fun x hx=>by
  have:x="locker"\/x="book":=by
   rcases AQ.mp hx with q | q
   .exact .inl q
   .exact .inr (BB.mp q)
  rcases this with rfl | rfl
  .decide +kernel
  .decide +kernel,fun y hy=>frB _ (Cb hy) rfl,DN.mpr ⟨fun m=>h (BB.mp m),DN.mpr ⟨DZ,IY⟩⟩⟩
def XE (K:AD) (CL CK CB CE f c' cL cB:Addr) (pm ctv:Value):Sp:=fun vs H Q _=>∃(i:Nat) (la a b:Addr),vs=[.int (i:Nat),.ref la]/\H f=some (KO f (T6 cL cB pm c' ctv))/\CodeO H c' DT/\Cp H cL (.ref a)/\Cp H cB (.ref b)/\
 Lq K CL CK CB CE [.ref a,.ref b,.int (i:Nat),.ref la] (hid [cL,cB] H) (fun v H'=>(H' cL=none/\H' cB=none)->Q v (DA [cL,cB] H H')) E0
section
variable {P:Program}{w:World}{K:AD}{mg:Str->Option Value}{base:Heap}{CL CK CB CE:Addr}
theorem dP {f c' cL cB:Addr}{pm ctv:Value} (hcc:cL≠cB) (g:Has P w K mg "take_line_books" 6 ["locker","book","number","line"] (Lq K CL CK CB CE)):
  FnOk P w K mg base CX0 7 f (kla_fn "<lambda>" DT (Hg Cr) (Hj Cr) (EC Cr) [("locker",cL),("book",cB)] pm (.ref c') ctv) ["number","line"] (XE K CL CK CB CE f c' cL cB pm ctv):=by
 refine N4 (fX hcc) (fun vs H Q E h=>?_) (fun vs H Q E h=>?_)
 .obtain⟨i,la,a,b,rfl,_⟩:=h
  rfl
 .obtain⟨i,la,a,b,rfl,hf,hc,hv,hv2,hsp⟩:=h
  refine⟨hf,hc,[.ref a,.ref b],.cons hv (.cons hv2 .nil),fun A outer s hr=>?_⟩
  refine⟨_,AO g hr (by rfl) (AB (pv 2) (AB (pv 3) (AB (pv 0) (AB (pv 1) AE)))),?_⟩
  refine⟨_,rfl,_,rfl,_,rfl,_,rfl,?_⟩
  obtain⟨a',b',la',p,q,L,fl,bfl,st,i',ln,e,r1,r2,r3,r4,r5,r6,k1,k2⟩:=hsp
  have two:∀{H':Hp},(∀c∈([("locker",cL),("book",cB)]:List (Str×Addr)).map (·.2),H' c=none)->H' cL=none/\H' cB=none:=fun hn=>⟨hn _ (by simp),hn _ (by simp)⟩
  exact⟨a',b',la',p,q,L,fl,bfl,st,i',ln,e,r1,r2,r3,r4,r5,r6,fun k hk H' s' hn=>k1 k hk H' s' (two hn),fun s' hs H' p' q1 q2 q3 q4 hn=>k2 s' hs H' p' q1 q2 q3 q4 (two hn)⟩
end
theorem gU {L:AN}{s:BS}{i k:Nat}{b:AX} (h:Bv L s i b=.error k):k≠0:=by
 unfold Bv at h
 split at h
 .unfold C8 at h
  cases hk:Fp b with
  | none =>
   rw[hk] at h
   have h:(Cj 1:Except Nat BS)=.error k:=h
   cases h;decide
  | some x =>
   obtain⟨n,m⟩:=x
   rw[hk] at h
   dsimp only at h
   cases hr:L.entryRow s.entries n with
   | ok r=>rw[hr] at h;cases h
   | error e =>
    rw[hr] at h
    have h:(Cj e:Except Nat BS)=.error k:=h
    cases h
    unfold MB at hr
    intro q
    subst q
    split at hr
    .cases hr
    .split at hr
     .cases hr
     .split at hr
      .cases hr
      .split at hr <;> cases hr
 .split at h
  .split at h
   .cases h;decide
   .cases h
  .split at h
   .cases h;decide
   .split at h
    .cases h;decide
    .cases h
theorem BookAt.faultB {CB CE:Addr}{H H':Hp}{b z dx:Addr}{q:BA}{name:List Int}{es:List BH}{fault fl:List Int} (hne:CB≠CE) (h:BookAt CB CE H b q name es fault) (hd:H b=some (.ins CB dx (bfB q.bn q.be q.bf))) (hz:H z=some (.lst (fl.map V.int))) (nz:z≠q.be)
  (e:H'=upd H b (.ins CB dx (BE "fault" (.ref z) (bfB q.bn q.be q.bf)))):BookAt CB CE H' b ⟨q.bn,q.be,z⟩ name es fl:=by
 subst e
 have kh:∀x o,hid [q.be] H x=some o->(∀dx fs,o≠.ins CB dx fs)->hid [q.be] (upd H b (.ins CB dx (BE "fault" (V.ref z) (bfB q.bn q.be q.bf)))) x=some o:=fun x o e n=>by
  have nx:x∉[q.be]:=fun m=>by rw[Dd m] at e;cases e
  rw[A7 nx] at e ⊢
  rw[AF (BX e hd (n _ _))]
  exact e
 obtain⟨as,hbe,hpe⟩:=h.es
 refine⟨⟨dx,AG⟩,kh _ _ h.nm (fun _ _ e=>nomatch e),⟨as,?_,Paired.mapP hpe fun y e qq=>?_⟩,kh _ _ (by rw[A7 (by simpa using nz)];exact hz) (fun _ _ e=>nomatch e)⟩
 .rw[AF (BX hbe hd (by intro z;cases z))];exact hbe
 .obtain⟨d2,ar,am,w1,w2,w3⟩:=qq
  exact⟨d2,ar,am,kh _ _ w1 (fun _ _ e=>by cases e;exact hne rfl),kh _ _ w2 (fun _ _ e=>nomatch e),kh _ _ w3 (fun _ _ e=>nomatch e)⟩
theorem R1 (t:AX):(zs t).count 10=(AR t).length:=by
 have h1:=JC 10 (zs t)
 rw[Kk,F3,AH,BC,Bz] at h1
 omega
def Iu (L:AN) (t:AX) (nm:List Int) (es:List BH) (fl:List Int):Prop:=match L.judgeBook t with
 | .error e=>fl=[(e.1:Int),(e.2:Int)]
 | .ok B=>fl=[]/\nm=zs B.name/\es=B.entries/\es.length<=2048
def XQ (K:AD) (CL CK CB CE Pt:Addr):Sp:=fun vs H Q _=>∃(l a:Addr) (p:LA) (L:AN) (lfl:List Int) (t:AX),vs=[.ref l,.ref a]/\LockAt CL CK H l p (zs L.name) (L.kinds.map zk) lfl/\Wf L.kinds/\SqL K H a ((zs t).map V.int)/\t.length < 80000/\Bd H Pt (Bl Cr) DT/\
 ∀(H':Hp) (x:Addr) (q:BA) (nm:List Int) (es:List BH) (fl:List Int),KeepBut [Pt] H H'->Bd H' Pt (Bl Cr) DT->BookAt CB CE H' x q nm es fl->Iu L t nm es fl->Q (.ref x) H'
theorem scReadB:Ag ["locker","text","book"] ["locker","text"] (AL Lb):=⟨rfl,rfl,rfl,by decide +kernel,rfl,by decide +kernel,by decide +kernel⟩
section
variable {P:Program}{w:World}{K:AD}{mg:Str->Option Value}{base:Heap}{CL CK CB CE Pt:Addr}
theorem ok_readB {f c:Addr}{fd:FuncData} (F:Fun K "read_book" "read_book" Lb f fd) (hc:fd.code=.ref c) (C:CodeHd base c Pt) (hbm:F1 mg base) (hne:CB≠CE) (TB:BookC K CB) (c1:Cst mg "NO_SUCH_LINE" (.int 1)) (c2:Cst mg "HEAD_LINES" (.int 2)) (g0:D7 P w K mg "Book" CB 1 ["self"] (O5 CB))
  (g1:Has P w K mg "first_fault" 9 ["text","take"] (Lk P w K mg 7)) (g2:Has P w K mg "take_line_books" 6 ["locker","book","number","line"] (Lq K CL CK CB CE)) (g3:Has P w K mg "count_lines" 1 ["text"] (Lj K)):
  FnOk P w K mg base CX0 10 f fd ["locker","text"] (XQ K CL CK CB CE Pt):=by
 refine F.okC hc scReadB (fun vs H Q E h=>?_) (fun A outer s H vs Q E hr h=>?_)
 .obtain⟨l,a,p,L,lfl,t,rfl,_⟩:=h
  rfl
 .obtain⟨l,a,p,L,lfl,t,rfl,hL,hW,hS,hlen,hT,k⟩:=h
  have hr2:Room 2 _:=hr.mono (by decide)
  have hr1:Room 1 _:=hr.mono (by decide)
  obtain⟨f1,fd1,h1,h2,h3,h4⟩:=g1
  refine⟨_,AJ (BN (i:=2) scReadB.nd rfl (ET rfl) (OY g0 hr2 (by rfl)))
   (AJ (BY (pv 2) (OV (h4 base) hr (by rfl) h1 h2 h3 (fun _=>rfl) (by show(["book","locker"]:List Str).Nodup;decide) (AB (pv 1) (AB (OX (clos:=[("locker",s.heap.objs.size+1),("book",s.heap.objs.size+1+1)]) (qual:=DT) rfl C hbm (by rfl) (by rfl) (by rfl)) AE))) rfl)
   (AJ (As (PW.pt (Dv (Aj (Ei hr.units) (AW (pv 2) rfl) (BD AE) (AY _)) (Em (Aj LM (AO g3 hr1 (by rfl) (AB (pv 1) AE)) (AS c2 rfl) (AY _)))))
    (AK (BY (pv 2) (BD (AB (AS c1 rfl) (AB (AO g3 hr1 (by rfl) (AB (pv 1) AE)) AE))) rfl)) Aw)
   (AK (AM (pv 2))))),?_⟩
  intro x dx nx ndx nex
  refine⟨x,dx,rfl,AG,fun H1 q hx1 hbn hbe hbf nq1 nq2 kp hfr=>⟨rfl,?_⟩⟩
  have s1:Same H H1:=Same.made nx ndx kp
  have fr:∀y∈[q.bn,q.be,q.bf],H y=none:=fun y hy=>by
   have:=hfr y hy
   cases z:H y with
   | none=>rfl
   | some u =>
    have e1:y≠x:=Ac z nx
    have e2:y≠dx:=Ac z ndx
    rw[AF e1,AF e2,z] at this
    cases this
  have hB1:BookAt CB CE H1 x q [] [] []:=⟨⟨dx,hx1⟩,by rw[A7 (by simpa using nq1)];exact hbn,⟨[],hbe,.nil⟩,by rw[A7 (by simpa using nq2)];exact hbf⟩
  refine⟨_,rfl,Bw s1 hT,fun H2 fL c' pm ctv kp2 nf hf hPt hco=>?_⟩
  intro H3 ho3 hn3 hcell
  have ho3:∀b,b∉[s.heap.objs.size+1+1,s.heap.objs.size+1]->H3 b=H2 b:=ho3
  have hn3:∀b∈[s.heap.objs.size+1+1,s.heap.objs.size+1],H2 b=none:=hn3
  have hcvL:Cp H3 (s.heap.objs.size+1) (.ref l):=hcell 0 "locker" (.ref l) (s.heap.objs.size+1) rfl rfl rfl rfl
  have hcvB:Cp H3 (s.heap.objs.size+1+1) (.ref x):=hcell 2 "book" (.ref x) (s.heap.objs.size+1+1) rfl rfl rfl rfl
  clear hcell
  have hcc:s.heap.objs.size+1≠s.heap.objs.size+1+1:=by omega
  generalize hclB:s.heap.objs.size+1+1=cB at hf ho3 hn3 hcvB hcc
  generalize hclL:s.heap.objs.size+1=cL at hf ho3 hn3 hcvL hcc
  have ncB:H2 cB=none:=hn3 cB (AV ..)
  have ncL:H2 cL=none:=hn3 cL (Av _ (AV ..))
  have s23:Same H2 H3:=fun b o e=>by
   rw[ho3 b fun m=>by
    rcases AQ.mp m with m | m
    .rw[m,ncB] at e;cases e
    .rw[BB.mp m,ncL] at e;cases e]
   exact e
  have hTb:∃ps,H1 Pt=some (.tbl ps):=by
   rcases Bw s1 hT with e | ⟨c2,e,_⟩
   .exact⟨_,e⟩
   .exact⟨_,e⟩
  obtain⟨ps1,hPt1⟩:=hTb
  have s12:SameT H1 H2:=fun b o e n=>kp2 b o e fun z=>by rw[z,hPt1] at e;cases e;exact n _ rfl
  have s13:SameT H1 H3:=s12.trans (Same.t s23)
  have s03:SameT H H3:=(Same.t s1).trans s13
  have B3:BookAt CB CE H3 x q [] [] []:=hB1.monoT s13
  have hS3:SqL K H3 a ((zs t).map V.int):=s03.seq hS
  have hf3:=s23 _ _ hf
  have hPt3:=s23 _ _ hPt
  have hco3:CodeO H3 c' DT:=KU (Same.t s23) hco
  obtain⟨dx3,hx3⟩:=B3.ob
  obtain⟨as3,hbe3,_⟩:=B3.es
  have out:∀{b:Addr} {o:HO},H3 b=some o->(∀C d fs,o≠.ins C d fs)->(∀xs,o≠.lst xs)->b∉[x,q.be]:=fun {b o} e n1 n2 m=>by
   simp only[AQ,DZ,or_false] at m
   rcases m with rfl | rfl
   .rw[hx3] at e;cases e;exact n1 _ _ _ rfl
   .rw[hbe3] at e;cases e;exact n2 _ rfl
  have ourN:∀b∈[x,q.be],H b=none/\H3 b≠none:=fun b m=>by
   simp only[AQ,DZ,or_false] at m
   rcases m with rfl | rfl
   .exact⟨nx,by rw[hx3];simp⟩
   .exact⟨fr _ (by simp),by rw[hbe3];simp⟩
  have hcut:BF 10 (zs t)=(AR t).map zs++[zs (Be t)]:=by rw[Kk,F3,Bo];rfl
  have hfl:(AR t).length<=t.length:=by
   have:=Gr 10 (zs t)
   rw[hcut,BC,AH,Al] at this
   simp at this
   omega
  have part:∀y∈AR t,y.length < 100000:=fun y hy=>by
   have:=Ez 10 (zs t) (zs y) (by rw[hcut];exact IW _ (Bb.mpr ⟨y,hy,rfl⟩))
   rw[Al,Al] at this
   omega
  let J:Nat->Hp->Prop:=fun i H'=>∃(q':BA) (st:BS),Fi (Bv L) ⟨[],[]⟩ (AR t) i st/\BookAt CB CE H' x q' (zs st.name) st.entries []/\st.entries.length<=2048/\RY q q'/\KeepBut [x,q.be] H3 H'
  have Jf:∀{i H'},J i H'->H' fL=some (KO fL (T6 cL cB pm c' ctv)):=fun ⟨_,_,_,_,_,_,kb⟩=>kb _ _ hf3 (out hf3 (fun _ _ _ q=>nomatch q) (fun _ q=>nomatch q))
  have Jc:∀{i H'},J i H'->CodeO H' c' DT:=fun ⟨_,_,_,_,_,_,kb⟩=>by
   obtain⟨o,vs,tt,e,d,r⟩:=hco3
   exact⟨o,vs,tt,kb _ _ e (out e (fun _ _ _ q=>nomatch q) (fun _ q=>nomatch q)),d,r⟩
  have JlL:∀{i H'},J i H'->H' cL=H3 cL:=fun ⟨_,_,_,_,_,_,kb⟩=>by
   obtain⟨o,u,e,_⟩:=hcvL
   rw[kb _ _ e (out e (fun _ _ _ q=>nomatch q) (fun _ q=>nomatch q)),e]
  have JlB:∀{i H'},J i H'->H' cB=H3 cB:=fun ⟨_,_,_,_,_,_,kb⟩=>by
   obtain⟨o,u,e,_⟩:=hcvB
   rw[kb _ _ e (out e (fun _ _ _ q=>nomatch q) (fun _ q=>nomatch q)),e]
  have Jp:∀{i H'},J i H'->H' Pt=some (.tbl #[rawInt (Bl Cr).line,rawInt (Bl Cr).col,.ref c']):=fun ⟨_,_,_,_,_,_,kb⟩=>kb _ _ hPt3 (out hPt3 (fun _ _ _ q=>nomatch q) (fun _ q=>nomatch q))
  have Jm:∀i H1 H2,J i H1->Same H1 H2->J i H2:=fun i H1 H2 ⟨q',st,h1,h2,h3,h4,h5⟩ ss=>⟨q',st,h1,h2.mono ss,h3,h4,h5.trans (KeepBut.of ss)⟩
  have Js:∀{i H'},J i H'->SameT H H':=fun ⟨_,_,_,_,_,_,kb⟩ b o e n=>kb b o (s03 b o e n) fun m=>by rw[(ourN b m).1] at e;cases e
  have TC:KY P w K mg 7 H3 fL ((AR t).map zs) J (rAt (Bv L) ⟨[],[]⟩ (AR t)):=by
   refine⟨⟨q,⟨[],[]⟩,PN,B3,Ax _,⟨rfl,rfl⟩,fun b o e _=>e⟩,Jm,fun i H' j=>⟨_,_,Jf j,rfl⟩,_,XE K CL CK CB CE fL c' cL cB pm ctv,fun base=>dP hcc g2,.all (fun us hl=>match us,hl with | [_,_],_=>rfl),?_⟩
   intro i la ln H4 Q1 hln hJ nla hla hq
   have hf4:=Jf hJ
   have hc4:=Jc hJ
   have hlL4:=JlL hJ
   have hlB4:=JlB hJ
   have hs4:=Js hJ
   obtain⟨q',st,hst,B4,hel,hsb,kb⟩:=id hJ
   rw[Ao] at hln
   cases hb:(AR t)[i]? with
   | none=>rw[hb] at hln;cases hln
   | some b =>
   rw[hb] at hln
   have eb:zs b=ln:=Af hln
   subst eb
   have hi:i < (AR t).length:=(CJ.mp hb).1
   have hR:=Hs (step:=Bv L) hst hb
   have hcvL4:Cp H4 cL (.ref l):=by
    obtain⟨o,u,e,r⟩:=hcvL
    exact⟨o,u,by rw[hlL4];exact e,r⟩
   have hcvB4:Cp H4 cB (.ref x):=by
    obtain⟨o,u,e,r⟩:=hcvB
    exact⟨o,u,by rw[hlB4];exact e,r⟩
   have plain:Plain [cL,cB] H4:=fun y hy u e=>by
    rcases AQ.mp hy with m | m
    .obtain⟨o,_,z,_⟩:=hcvL4
     rw[m,z] at e
     cases e
     exact⟨_,rfl⟩
    .obtain⟨o,_,z,_⟩:=hcvB4
     rw[BB.mp m,z] at e
     cases e
     exact⟨_,rfl⟩
   have sN:=He plain
   refine⟨i,la,l,x,rfl,hf4,hc4,hcvL4,hcvB4,l,x,la,p,q',L,lfl,[],st,i,b,rfl,(hL.monoT hs4).monoN sN,hW,B4.monoN sN,hel,SqL.of (sN _ _ hla fun _ z=>nomatch z),part b (Cw hb),fun kk hk H' s' hn=>?_,fun st' hs H' q'' q1 q2 q3 q4 hn=>?_⟩
   .rw[hk] at hR
    have hR:rAt (Bv L) ⟨[],[]⟩ (AR t) i=(kk:Int):=hR
    have su:Same H4 (DA [cL,cB] H4 H'):=fun y o e=>by
     by_cases m:y∈[cL,cB]
     .rw[G5 m];exact e
     .rw[Dk m];exact s' y o (by rw[A7 m];exact e)
    have kpos:=gU hk
    rw[<- hR]
    refine hq _ (fun y o _ e=>su y o e) (fun z=>?_) fun _=>Jm i _ _ hJ su
    rw[hR] at z
    exact absurd (show kk=0 by omega) kpos
   .rw[hs] at hR
    have hR:rAt (Bv L) ⟨[],[]⟩ (AR t) i=0:=hR
    have su:Same H' (DA [cL,cB] H4 H'):=Pd fun y hy=>by
     rcases AQ.mp hy with m | m
     .rw[m];exact hn.1
     .rw[BB.mp m];exact hn.2
    have ku:KeepBut [x,q.be] H4 (DA [cL,cB] H4 H'):=fun y o e n=>by
     by_cases m:y∈[cL,cB]
     .rw[G5 m];exact e
     .rw[Dk m]
      refine q4 y o (by rw[A7 m];exact e) ?_
      rw[hsb.1]
      exact n
    rw[<- hR]
    refine hq _ (fun y o n e=>ku y o e fun m=>(ourN y m).2 n) (fun _=>⟨q'',st',PM hst hb hs,q1.mono su,q3,⟨q2.1.trans hsb.1,q2.2.trans hsb.2⟩,kb.trans ku⟩) fun z=>absurd hR z
  refine⟨a,fL,zs t,(AR t).map zs,zs (Be t),J,rAt (Bv L) ⟨[],[]⟩ (AR t),rfl,hS3,by rw[Al];omega,hcut,TC,fun H0 pR j res hJ0 np0 hTold=>?_⟩
  have hJ:=Jm j _ _ hJ0 ((Same.refl H0).new (o:=.lst (res.map V.int)) np0)
  have hpR:upd H0 pR (.lst (res.map V.int)) pR=some (.lst (res.map V.int)):=AG
  have npq:pR≠q.be:=fun z=>by
   obtain⟨q0,_,_,B0,_,hsb0,_⟩:=hJ0
   obtain⟨as0,h0,_⟩:=B0.es
   rw[hsb0.1,<- z,np0] at h0
   cases h0
  generalize upd H0 pR (.lst (res.map V.int))=H' at hJ hpR ⊢
  have hlL':=JlL hJ
  have hlB':=JlB hJ
  have hP':=Jp hJ
  have hc':=Jc hJ
  obtain⟨q',st,hst,B',hel,hsb,kb⟩:=id hJ
  have ecs:CV ((Eu CX0 P w K mg base ["locker","text","book"] "read_book" (AL Lb) f (Ab c) A outer s H E).nox)=[cB,cL]:=by rw[<- hclB,<- hclL];rfl
  refine⟨fun c2 hc2=>by
   rw[ecs] at hc2
   rcases AQ.mp hc2 with m | m
   .rw[m];exact hlB'
   .rw[BB.mp m];exact hlL',?_⟩
  show En 2 _ _ _
  rw[ecs]
  have plain:Plain [cB,cL] H':=fun y hy u e=>by
   rcases AQ.mp hy with m | m
   .obtain⟨o,_,z,_⟩:=hcvB
    rw[m,hlB',z] at e
    cases e
    exact⟨_,rfl⟩
   .obtain⟨o,_,z,_⟩:=hcvL
    rw[BB.mp m,hlL',z] at e
    cases e
    exact⟨_,rfl⟩
  have sN:=He plain
  have Bh:=B'.monoN sN
  obtain⟨dx4,hx4⟩:=Bh.ob
  have hpR4:=sN _ _ hpR fun _ z=>nomatch z
  have notc:∀{b:Addr} {o:HO},H2 b=some o->b∉[cB,cL]:=fun e m=>by
   rcases AQ.mp m with m | m
   .rw[m,ncB] at e;cases e
   .rw[BB.mp m,ncL] at e;cases e
  have kpH:KeepBut [Pt] H (hid [cB,cL] H'):=fun b o e n=>by
   have n:b≠Pt:=fun z=>n (by simp[z])
   have e2:=kp2 b o (s1 b o e) n
   rw[A7 (notc e2)]
   exact kb b o (s23 b o e2) fun m=>by rw[(ourN b m).1] at e;cases e
  have tabH:Bd (hid [cB,cL] H') Pt (Bl Cr) DT:=by
   refine .inr ⟨c',sN _ _ hP' (fun _ z=>nomatch z),?_⟩
   obtain⟨o,vs,tt,e,d,r⟩:=hc'
   obtain⟨o2,_,_,e2,_⟩:=hco
   exact⟨o,vs,tt,by rw[A7 (notc e2)];exact e,d,r⟩
  have hSh:SqL K (hid [cB,cL] H') a ((zs t).map V.int):=by
   rcases hS with (h | ⟨o,h⟩) | h
   .exact .inl (.inl (kpH _ _ h fun m=>by
     have hT':=hT
     rw[BB.mp m] at h
     rcases hT' with z | ⟨_,z,_⟩ <;> (rw[h] at z;cases z)))
   .exact .inl (.inr ⟨o,kpH _ _ h fun m=>by
     have hT':=hT
     rw[BB.mp m] at h
     rcases hT' with z | ⟨_,z,_⟩ <;> (rw[h] at z;cases z)⟩)
   .exact .inr h
  have npR:pR≠q'.be:=by rw[hsb.1];exact npq
  generalize hid [cB,cL] H'=Hh at Bh hx4 hpR4 kpH tabH hSh ⊢
  refine⟨_,rfl,x,CB,dx4,_,rfl,hx4,TB.cl,TB.fault,(by show 3 < 1000;decide),?_⟩
  have B5:=Bh.faultB (fl:=res) hne hx4 hpR4 npR rfl
  have nxP:x≠Pt:=fun z=>by
   rcases tabH with w | ⟨_,w,_⟩ <;> (rw[<- z,hx4] at w;cases w)
  have kp5:KeepBut [Pt] H (upd Hh x (.ins CB dx4 (BE "fault" (V.ref pR) (bfB q'.bn q'.be q'.bf)))):=fun b o e n=>by
   rw[AF (Ac e nx)]
   exact kpH b o e n
  have tab_upd:∀{G:Hp} {o:HO},Bd G Pt (Bl Cr) DT->(∃d fs,G x=some (.ins CB d fs))->Bd (upd G x o) Pt (Bl Cr) DT:=fun {G o} h hx=>by
   obtain⟨d,fs,hx⟩:=hx
   rcases h with z | ⟨c2,z,o2,vs,tt,e,r⟩
   .exact .inl (by rw[AF (Ar nxP)];exact z)
   .exact .inr ⟨c2,by rw[AF (Ar nxP)];exact z,o2,vs,tt,by rw[AF (BX e hx (by intro z;cases z))];exact e,r⟩
  have tab5:=tab_upd (o:=.ins CB dx4 (BE "fault" (V.ref pR) (bfB q'.bn q'.be q'.bf))) tabH ⟨_,_,hx4⟩
  have hS5:SqL K (upd Hh x (.ins CB dx4 (BE "fault" (V.ref pR) (bfB q'.bn q'.be q'.bf)))) a ((zs t).map V.int):=by
   rcases hSh with (h | ⟨o,h⟩) | h
   .exact .inl (.inl (by rw[AF (BX h hx4 (by intro z;cases z))];exact h))
   .exact .inl (.inr ⟨o,by rw[AF (BX h hx4 (by intro z;cases z))];exact h⟩)
   .exact .inr h
  generalize upd Hh x (.ins CB dx4 (BE "fault" (V.ref pR) (bfB q'.bn q'.be q'.bf)))=H5 at B5 kp5 tab5 hS5 ⊢
  obtain⟨dx5,hx5⟩:=B5.ob
  refine⟨_,rfl,x,CB,dx5,_,_,rfl,hx5,TB.cl,TB.fault,HW (q:=⟨q'.bn,q'.be,pR⟩),Ax _,fun l5 nl=>?_⟩
  have s56:Same H5 (upd H5 l5 (.lst [])):=(Same.refl H5).new nl
  have B6:=B5.mono s56
  have kp6:KeepBut [Pt] H (upd H5 l5 (.lst [])):=kp5.trans (KeepBut.of s56)
  have tab6:=Bw s56 tab5
  have hS6:=s56.seq hS5
  refine⟨_,_,Ay (SqL.of B6.bf'),Ay (ns:=[]) (SqL.of AG),Au _,Au _,?_⟩
  rw[Bx]
  generalize upd H5 l5 (.lst [])=H6 at B6 kp6 tab6 hS6 ⊢
  obtain⟨dx6,hx6⟩:=B6.ob
  refine⟨_,rfl,?_⟩
  have jud:=br L t
  have hcnt:=R1 t
  by_cases hres:res=[]
  .refine bT (JJk hres) ?_
   subst hres
   have hj:j=((AR t).map zs).length/\zs (Be t)=[]:=by
    rcases hTold with ⟨_,_,_,z⟩ | ⟨q1,_,q2⟩
    .cases z
    .refine⟨q1,?_⟩
     by_cases z:zs (Be t)=[]
     .exact z
     .rw[JJx z] at q2;cases q2
   have hr0:Be t=[]:=zs_nil.mp hj.2
   have hjn:j=(AR t).length:=by rw[hj.1,AH]
   subst hjn
   rw[Jg hst] at jud
   refine⟨_,rfl,a,zs t,rfl,hS6,fun H7 s7=>⟨_,_,rfl,rfl,_,rfl,?_⟩⟩
   rw[hcnt]
   have B7:=B6.mono s7
   have kp7:=kp6.trans (KeepBut.of (xs:=[Pt]) s7)
   have tab7:=Bw s7 tab6
   by_cases h0:(AR t).length < 2
   .refine bT (JJk (by omega)) ?_
    refine⟨_,rfl,a,zs t,rfl,s7.seq hS6,fun H8 s8=>⟨(show 2<=sizeLine from BP (by decide)),fun l2 nl2=>?_⟩⟩
    have s89:Same H8 (upd H8 l2 (.lst [.int 1,.int ((zs t).count 10:Nat)])):=(Same.refl H8).new nl2
    have s79:=s8.trans s89
    have B9:=B7.mono s79
    have hl9:upd H8 l2 (.lst [.int 1,.int ((zs t).count 10:Nat)]) l2=some (.lst (([1,(((zs t).count 10:Nat):Int)]:List Int).map V.int)):=AG
    have hx9:=s79 _ _ (s7 _ _ hx6)
    have kp9:=kp7.trans (KeepBut.of (xs:=[Pt]) s79)
    have tab9:=Bw s79 tab7
    have nl2q:l2≠q'.be:=fun z=>by
     obtain⟨as8,h8,_⟩:=(B7.mono s8).es
     rw[z,h8] at nl2;cases nl2
    generalize upd H8 l2 (.lst [.int 1,.int ((zs t).count 10:Nat)])=H9 at B9 hl9 hx9 kp9 tab9 ⊢
    refine⟨_,rfl,x,CB,dx6,_,rfl,hx9,TB.cl,TB.fault,(by show 3 < 1000;decide),?_⟩
    have B10:=B9.faultB (q:=⟨q'.bn,q'.be,pR⟩) hne hx9 hl9 nl2q rfl
    refine⟨_,rfl,k _ x _ _ _ _ (fun b o e n=>?_) (tab_upd tab9 ⟨_,_,hx9⟩) B10 ?_⟩
    .rw[AF (Ac e nx)]
     exact kp9 b o e n
    .unfold Iu
     rw[jud]
     show match FP (Be t) (AR t).length st with
      | .error e=>_
      | .ok B=>_
     unfold FP
     rw[JJx fun z=>z hr0,JJz h0,hcnt]
     rfl
   .refine bF (JJj (by omega)) ?_
    refine⟨_,rfl,k _ x _ _ _ _ kp7 tab7 B7 ?_⟩
    unfold Iu
    rw[jud]
    show match FP (Be t) (AR t).length st with
     | .error e=>_
     | .ok B=>_
    unfold FP
    rw[JJx fun z=>z hr0,JJx h0]
    exact⟨rfl,rfl,rfl,hel⟩
  .refine bF (JJj hres) ?_
   refine bF rfl ?_
   refine⟨_,rfl,k _ x _ _ _ _ kp6 tab6 B6 ?_⟩
   unfold Iu
   rw[jud]
   rcases hTold with ⟨q1,_,q3,q4⟩ | ⟨q1,_,q2⟩
   .rw[AH] at q1
    obtain⟨b,hb⟩:∃b,(AR t)[j]?=some b:=⟨_,Ba q1⟩
    have hR:=Hs (step:=Bv L) hst hb
    cases hs:Bv L st j b with
    | ok s2=>rw[hs] at hR;exact absurd hR q3
    | error kk =>
     rw[hs] at hR
     have hR:rAt (Bv L) ⟨[],[]⟩ (AR t) j=(kk:Int):=hR
     rw[Oj hst hb hs]
     show res=[(kk:Int),(j:Int)]
     rw[q4,hR]
   .rw[AH] at q1
    subst q1
    rw[Jg hst]
    have hr0:¬Be t=[]:=fun z=>hres (by rw[q2,JJz (zs_nil.mpr z)])
    show match FP (Be t) (AR t).length st with
     | .error e=>_
     | .ok B=>_
    unfold FP
    rw[JJz hr0]
    show res=[((1:Nat):Int),(((AR t).length:Nat):Int)]
    rw[q2,JJx fun z=>hr0 (zs_nil.mp z)]
    rfl
end
end Fb
namespace Fb
open PySem PySem.Spec PyProof.Rows L2
open PySem.W (CodeHd tabObj kla_obj kla_fn envX)
abbrev VV:Stmt:=De Vv 0
def rdf (r:Addr) (l b:V):List (Str×V):=[("refusal",.ref r),("locker",l),("book",b)]
def Hu:List V->Option (List (Str×V))
 | [.ref r,l,b]=>some (rdf r l b)
 | _=>none
theorem Ht {r:Addr}{l b:V}:(rdf r l b).lookup ("refusal":Str)=some (.ref r):=rfl
theorem Ug {r:Addr}{l b:V}:(rdf r l b).lookup ("locker":Str)=some l:=rfl
theorem eg {r:Addr}{l b:V}:(rdf r l b).lookup ("book":Str)=some b:=rfl
structure ReadC (K:AD) (CR:Addr):Prop where
 cl:Cls K CR
 refusal:NoAttr K CR "refusal"
 locker:NoAttr K CR "locker"
 book:NoAttr K CR "book"
theorem fi:Ag ["self","refusal","locker","book"] ["self","refusal","locker","book"] (AL VV):=⟨rfl,rfl,rfl,by decide +kernel,rfl,by decide +kernel,by decide +kernel⟩
section
variable {P:Program}{w:World}{K:AD}{mg:Str->Option Value}{base:Heap}{CR:Addr}
theorem ok_readI {f:Addr}{fd:FuncData} (F:Fun K "__init__" "Reading.__init__" VV f fd) (T:ReadC K CR):FnOk P w K mg base CX0 1 f fd ["self","refusal","locker","book"] (EK CR Hu):=by
 have inv:∀us l,Hu us=some l->∃r k b,us=[.ref r,k,b]/\l=rdf r k b:=by
  intro us l h
  unfold Hu at h
  split at h
  .cases h;exact⟨_,_,_,rfl,rfl⟩
  .cases h
 refine F.ok fi (fun vs H Q E h=>?_) (fun cdv A outer s H vs Q E hr h=>?_)
 .obtain⟨p,dx,us,l,rfl,hf,_⟩:=h
  obtain⟨_,_,_,rfl,_⟩:=inv _ _ hf
  rfl
 .obtain⟨p,dx,us,l,rfl,hf,hp,k⟩:=h
  obtain⟨r,c,m,rfl,rfl⟩:=inv _ _ hf
  refine⟨_,AJ (BY (pv 0) (pv 1) rfl) (AJ (BY (pv 0) (pv 2) rfl) (AK (BY (pv 0) (pv 3) rfl))),?_⟩
  refine⟨_,rfl,_,rfl,p,CR,dx,[],rfl,hp,T.cl,T.refusal,(by show 0 < 1000;decide),?_⟩
  refine⟨_,rfl,_,rfl,p,CR,dx,_,rfl,AG,T.cl,T.locker,(by show 1 < 1000;decide),?_⟩
  refine⟨_,rfl,_,rfl,p,CR,dx,_,rfl,AG,T.cl,T.book,(by show 2 < 1000;decide),?_⟩
  rw[FC,FC]
  exact k _ AG fun b o e hb=>by rw[AF hb];exact e
end
abbrev Vk:Stmt:=We
def Gp (CL CK CB CE:Addr) (H:Hp) (t u:AX) (rf:List Int) (lv bv:V):Prop :=
 if 65536 < t.length\/65536 < u.length then rf=[-2] else match Eo t with
  | .error _=>rf=[-6]
  | .ok L=>match L.judgeBook u with
   | .error e=>rf=[-9,(e.1:Int),(e.2:Int)]
   | .ok B=>rf=[]/\∃(x:Addr) (q:BA),bv=.ref x/\BookAt CB CE H x q (zs B.name) B.entries []/\B.entries.length<=2048/\∃(y:Addr) (p:LA),lv=.ref y/\LockAt CL CK H y p (zs L.name) (L.kinds.map zk) []/\Wf L.kinds
def Xa (K:AD) (CL CK CB CE CR PL PB:Addr):Sp:=fun vs H Q _=>∃(a b:Addr) (t u:AX),vs=[.ref a,.ref b]/\SqL K H a ((zs t).map V.int)/\SqL K H b ((zs u).map V.int)/\t.length < 80000/\u.length < 80000/\Bd H PL (Bl Cs) DU/\Bd H PB (Bl Cr) DT/\
 ∀(H':Hp) (x dx r:Addr) (rf:List Int) (lv bv:V),KeepBut [PL,PB] H H'->Bd H' PL (Bl Cs) DU->Bd H' PB (Bl Cr) DT->H' x=some (.ins CR dx (rdf r lv bv))->H' r=some (.lst (rf.map V.int))->Gp CL CK CB CE H' t u rf lv bv->Q (.ref x) H'
theorem scTexts:Ag ["t","b","locker","book"] ["t","b"] (AL Vk):=⟨rfl,rfl,rfl,by decide +kernel,rfl,by decide +kernel,by decide +kernel⟩
theorem Xh {H H':Hp}{Pt Po:Addr}{pos:Pos}{q:Str} (hne:Pt≠Po) (hPo:∃ps,H Po=some (.tbl ps)) (kb:KeepBut [Po] H H') (h:Bd H Pt pos q):Bd H' Pt pos q:=by
 obtain⟨ps,hPo⟩:=hPo
 rcases h with h | ⟨c',h,o,vs,t,e,r⟩
 .exact .inl (kb _ _ h (by simpa using hne))
 .refine .inr ⟨c',kb _ _ h (by simpa using hne),o,vs,t,kb _ _ e fun m=>?_,r⟩
  rw[BB.mp m,hPo] at e
  cases e
theorem Fn {H:Hp}{Pt:Addr}{pos:Pos}{q:Str} (h:Bd H Pt pos q):∃ps,H Pt=some (.tbl ps):=by
 rcases h with h | ⟨c',h,_⟩
 .exact⟨_,h⟩
 .exact⟨_,h⟩
theorem Gx {H H':Hp}{Pt:Addr}{pos:Pos}{q:Str} (h:Bd H Pt pos q) (kb:KeepBut [Pt] H H'):SameT H H':=fun b o e n=>kb b o e fun m=>by
 obtain⟨ps,hp⟩:=Fn h
 rw[BB.mp m,hp] at e
 cases e
 exact n _ rfl
section
variable {P:Program}{w:World}{K:AD}{mg:Str->Option Value}{base:Heap}{CL CK CB CE CR PL PB:Addr}
def Gk (P:Program) (w:World) (K:AD) (mg:Str->Option Value) (base:Heap) (x:Str) (k:Nat) (ps:List Str) (sp:Sp):Prop :=
 ∃(f:Addr) (fd:FuncData),mg x=some (.ref f)/\HN K (.ref f)=true/\Binds K fd ps []/\FnOk P w K mg base CX0 k f fd ps sp
theorem JX {X:Cx}{k:Nat}{ps:List Str}{sp:Sp}{x:Str}{p pos:Pos}{e:Expr}{es:List Expr}{t:TA} (h:Gk X.prog X.w X.K X.mg X.base x k ps sp) (hr:Room k X.A) (hg:Gl X x) (ha:PA X (e::es) t)
  (hdb:(x==("__debug__":Str))=false:=by decide) (he:starEach (e::es) X.env=(false,eval e X.env)::starEach es X.env:=by rfl) (hpl:(backTo pos (starEach es X.env)).any (·.1)=false:=by rfl):
  PE X (.Call (.Name x p) (e::es) [] pos) (Jj sp [] E0 t):=by
 obtain⟨f,fd,h1,h2,h3,h4⟩:=h
 exact UJ h4 hr hg h1 h2 h3 .nil Ho ha hdb he hpl
theorem ok_texts {f:Addr}{fd:FuncData} (F:Fun K "read_texts" "read_texts" Vk f fd) (B:Blt mg) (hPP:PL≠PB) (TL:LockC K CL) (TB:BookC K CB) (c1:Cst mg "LONGEST_TEXT" (.int 65536)) (c2:Cst mg "TOO_LONG" (.int (-2))) (c3:Cst mg "NO_LOCKER" (.int (-6))) (c4:Cst mg "NO_BOOK" (.int (-9)))
  (g1:Gk P w K mg base "read_locker" 10 ["text"] (XR K CL CK PL)) (g2:Gk P w K mg base "read_book" 10 ["locker","text"] (XQ K CL CK CB CE PB)) (g3:D7 P w K mg "Reading" CR 1 ["self","refusal","locker","book"] (EK CR Hu)):FnOk P w K mg base CX0 11 f fd ["t","b"] (Xa K CL CK CB CE CR PL PB):=by
 refine F.ok scTexts (fun vs H Q E h=>?_) (fun cdv A outer s H vs Q E hr h=>?_)
 .obtain⟨a,b,t,u,rfl,_⟩:=h
  rfl
 .obtain⟨a,b,t,u,rfl,hA,hB,hlt,hlu,hTL,hTB,k⟩:=h
  have hr2:Room 2 _:=hr.mono (by decide)
  refine⟨_,AJ (As (PW.pt (Hr (Aj FZ (BV CQ (by rfl) B.len CM (AB (pv 0) AE)) (AS c1 rfl) (AY _)) (Jd (Aj FZ (BV CQ (by rfl) B.len CM (AB (pv 1) AE)) (AS c1 rfl) (AY _)))))
    (AK (AM (Fd g3 hr2 (by rfl) (AB (BD (AB (AS c2 rfl) AE)) (AB Du (AB Du AE)))))) Aw)
   (AJ (BN (i:=2) scTexts.nd rfl (Ai rfl) (JX g1 hr (by rfl) (AB (pv 0) AE)))
   (AJ (As (Aj (Ey hr.units) (AW (pv 2) rfl) (BD AE) (AY _)) (AK (AM (Fd g3 hr2 (by rfl) (AB (BD (AB (AS c3 rfl) AE)) (AB Du (AB Du AE)))))) Aw)
   (AJ (BN (i:=3) scTexts.nd rfl (Ai rfl) (JX g2 hr (by rfl) (AB (pv 2) (AB (pv 1) AE))))
   (AJ (As (Aj (Ey hr.units) (AW (pv 3) rfl) (BD AE) (AY _)) (AK (AM (Fd g3 hr2 (by rfl) (AB (C0 Eh (BD (AB (AS c4 rfl) AE)) (AW (pv 3) rfl)) (AB Du (AB Du AE)))))) Aw)
   (AK (AM (Fd g3 hr2 (by rfl) (AB (BD AE) (AB (pv 2) (AB (pv 3) AE)))))))))),?_⟩
  have fin:∀(G:Hp) (r:Addr) (rf:List Int) (lv bv:V),KeepBut [PL,PB] H G->Bd G PL (Bl Cs) DU->Bd G PB (Bl Cr) DT->G r=some (.lst (rf.map V.int))->(∀G',Same G G'->Gp CL CK CB CE G' t u rf lv bv)->
    ∀x dx,G x=none->G dx=none->dx≠x->EK CR Hu [.ref x,.ref r,lv,bv] (upd (upd G dx (.own x)) x (.ins CR dx [])) (fun v H2=>v=.non/\Q (.ref x) H2) E0:=fun G r rf lv bv kb t1 t2 hr hx x dx nx nd ne=>by
   refine⟨x,dx,[.ref r,lv,bv],rdf r lv bv,rfl,rfl,AG,fun H' hx' kp=>⟨rfl,?_⟩⟩
   have ss:Same G H':=Same.made nx nd kp
   exact k H' x dx r rf lv bv (kb.trans (KeepBut.of ss)) (Bw ss t1) (Bw ss t2) hx' (ss _ _ hr) (hx H' ss)
  have much:(65536 < t.length\/65536 < u.length)->∀l,H l=none->∀x dx,upd H l (.lst [.int (-2)]) x=none->upd H l (.lst [.int (-2)]) dx=none->dx≠x->EK CR Hu [.ref x,.ref l,.non,.non] (upd (upd (upd H l (.lst [.int (-2)])) dx (.own x)) x (.ins CR dx [])) (fun v H2=>v=.non/\Q (.ref x) H2) E0:=fun hm l nl=>by
   have ss:=(Same.refl H).new (o:=.lst [.int (-2)]) nl
   refine fin _ l [-2] .non .non (KeepBut.of ss) (Bw ss hTL) (Bw ss hTB) AG fun G' _=>?_
   unfold Gp
   rw[JJz hm]
  refine⟨_,rfl,a,_,rfl,.inl hA,_,_,rfl,rfl,_,rfl,?_⟩
  by_cases ht:65536 < t.length
  .refine bT (JJk (by rw[AH,Al];omega)) (bT rfl ?_)
   exact⟨(show 1<=sizeLine from BP (by decide)),fun l nl=>much (.inl ht) l nl⟩
  .refine bF (JJj (by rw[AH,Al];omega)) ?_
   refine⟨_,rfl,b,_,rfl,.inl hB,_,_,rfl,rfl,_,rfl,?_⟩
   by_cases hu:65536 < u.length
   .refine bT (JJk (by rw[AH,Al];omega)) ?_
    exact⟨(show 1<=sizeLine from BP (by decide)),fun l nl=>much (.inr hu) l nl⟩
   .refine bF (JJj (by rw[AH,Al];omega)) ?_
    have hmuch:¬(65536 < t.length\/65536 < u.length):=fun z=>z.elim ht hu
    refine⟨_,rfl,a,t,rfl,hA,by omega,hTL,fun H1 xl p nm ks fl kb1 tab1 L1 rl=>?_⟩
    have sT1:=Gx hTL kb1
    have tabB1:=Xh (Ar hPP) (Fn hTL) kb1 hTB
    have kbL1:KeepBut [PL,PB] H H1:=kb1.mono fun y hy=>by simp at hy;simp[hy]
    obtain⟨dx1,ho1⟩:=L1.ob
    refine⟨_,rfl,xl,CL,dx1,_,_,rfl,ho1,TL.cl,TL.fault,Tj,Ax _,fun l1 nl1=>?_⟩
    have s12:Same H1 (upd H1 l1 (.lst [])):=(Same.refl H1).new nl1
    have hl1:upd H1 l1 (.lst []) l1=some (.lst (([]:List Int).map V.int)):=AG
    generalize upd H1 l1 (.lst [])=H2 at s12 hl1 ⊢
    have L2:=L1.mono s12
    refine⟨_,_,Ay (SqL.of L2.af),Ay (SqL.of hl1),Au _,Au _,?_⟩
    rw[Bx]
    refine⟨_,rfl,?_⟩
    unfold Iv at rl
    have kb2:=kbL1.trans (KeepBut.of (xs:=[PL,PB]) s12)
    have tab2:=Bw s12 tab1
    have tabB2:=Bw s12 tabB1
    cases hj:Eo t with
    | error e =>
     rw[hj] at rl
     have rl:fl≠[]:=rl
     refine bT (by rw[JJj rl];rfl) ?_
     refine⟨(show 1<=sizeLine from BP (by decide)),fun l nl=>?_⟩
     have ss:=(Same.refl H2).new (o:=.lst [.int (-6)]) nl
     refine fin _ l [-6] .non .non (kb2.trans (KeepBut.of ss)) (Bw ss tab2) (Bw ss tabB2) AG fun G' _=>?_
     unfold Gp
     rw[JJx hmuch,hj]
    | ok L =>
     rw[hj] at rl
     obtain⟨rfl,rfl,rfl,hW⟩:=rl
     refine bF (by rw[JJk rfl];rfl) ?_
     refine⟨_,rfl,_,rfl,xl,b,p,L,[],u,rfl,L2,hW,(sT1.trans (Same.t s12)).seq hB,by omega,tabB2,fun H3 xb q nm es bfl kb3 tab3 B3 rb=>?_⟩
     have tabL3:=Xh hPP (Fn tabB2) kb3 tab2
     have kb13:KeepBut [PL,PB] H H3:=kb2.trans (kb3.mono fun y hy=>by simp at hy;simp[hy])
     obtain⟨dx3,ho3⟩:=B3.ob
     refine⟨_,rfl,xb,CB,dx3,_,_,rfl,ho3,TB.cl,TB.fault,HW,Ax _,fun l3 nl3=>?_⟩
     have s34:Same H3 (upd H3 l3 (.lst [])):=(Same.refl H3).new nl3
     have hl3:upd H3 l3 (.lst []) l3=some (.lst (([]:List Int).map V.int)):=AG
     generalize upd H3 l3 (.lst [])=H4 at s34 hl3 ⊢
     have B4:=B3.mono s34
     have kb4:=kb13.trans (KeepBut.of (xs:=[PL,PB]) s34)
     have tabL4:=Bw s34 tabL3
     have tabB4:=Bw s34 tab3
     refine⟨_,_,Ay (SqL.of B4.bf'),Ay (SqL.of hl3),Au _,Au _,?_⟩
     rw[Bx]
     refine⟨_,rfl,?_⟩
     unfold Iu at rb
     cases hjb:L.judgeBook u with
     | error e =>
      rw[hjb] at rb
      have rb:bfl=[(e.1:Int),(e.2:Int)]:=rb
      refine bT (by rw[JJj (by rw[rb];simp)];rfl) ?_
      refine⟨(show 1<=sizeLine from BP (by decide)),fun l nl=>?_⟩
      have ss:=(Same.refl H4).new (o:=.lst [.int (-9)]) nl
      have hl:upd H4 l (.lst [.int (-9)]) l=some (.lst [.int (-9)]):=AG
      generalize upd H4 l (.lst [.int (-9)])=H5 at ss hl ⊢
      have ho5:=ss _ _ (s34 _ _ ho3)
      have hbf5:=ss _ _ B4.bf'
      refine⟨_,rfl,xb,CB,dx3,_,_,rfl,ho5,TB.cl,TB.fault,HW,l,q.bf,_,_,rfl,rfl,hl,hbf5,?_,fun l6 nl6=>?_⟩
      .rw[rb]
       exact(show 3<=sizeLine from BP (by decide))
      have s6:=(Same.refl H5).new (o:=.lst ([V.int (-9)]++bfl.map V.int)) nl6
      refine fin _ l6 [-9,(e.1:Int),(e.2:Int)] .non .non (kb4.trans (KeepBut.of (ss.trans s6))) (Bw (ss.trans s6) tabL4) (Bw (ss.trans s6) tabB4) ?_ fun G' _=>?_
      .rw[AG,rb];rfl
      .unfold Gp
       rw[JJx hmuch,hj]
       dsimp only
       rw[hjb]
     | ok Bk =>
      rw[hjb] at rb
      obtain⟨rfl,rfl,rfl,hle⟩:=rb
      refine bF (by rw[JJk rfl];rfl) ?_
      refine⟨Ax _,fun l nl=>⟨_,rfl,_,rfl,?_⟩⟩
      have ss:=(Same.refl H4).new (o:=.lst []) nl
      refine fin _ l [] (.ref xl) (.ref xb) (kb4.trans (KeepBut.of ss)) (Bw ss tabL4) (Bw ss tabB4) AG fun G' s'=>?_
      unfold Gp
      rw[JJx hmuch,hj]
      dsimp only
      rw[hjb]
      exact⟨rfl,xb,q,rfl,B4.mono (ss.trans s'),hle,xl,p,rfl,(L2.monoT (Gx tabB2 kb3)).mono (s34.trans (ss.trans s')),hW⟩
end
end Fb
namespace Fb
open PySem PySem.Spec PyProof.Rows L2
open PySem.W (CodeHd tabObj kla_obj kla_fn envX)
structure Zf (K:AD) (PL PB:Addr) (H:Hp) (a b:Addr) (t u:AX):Prop where
 ta:SqL K H a ((zs t).map V.int)
 ub:SqL K H b ((zs u).map V.int)
 lt:t.length < 80000
 lu:u.length < 80000
 pl:Bd H PL (Bl Cs) DU
 pb:Bd H PB (Bl Cr) DT
theorem iE {H H':Hp}{PL PB Pt:Addr}{pos:Pos}{q:Str} (h1:PL≠Pt) (h2:PB≠Pt) (t1:∃ps,H PL=some (.tbl ps)) (t2:∃ps,H PB=some (.tbl ps)) (kb:KeepBut [PL,PB] H H') (h:Bd H Pt pos q):Bd H' Pt pos q:=by
 have out:Pt∉[PL,PB]:=fun m=>by
  rcases AQ.mp m with z | z
  .exact h1 z.symm
  .exact h2 (BB.mp z).symm
 rcases h with h | ⟨c',h,o,vs,t,e,d,r⟩
 .exact .inl (kb _ _ h out)
 .refine .inr ⟨c',kb _ _ h out,o,vs,t,kb _ _ e fun m=>?_,d,r⟩
  obtain⟨p1,e1⟩:=t1
  obtain⟨p2,e2⟩:=t2
  rcases AQ.mp m with z | z
  .rw[z,e1] at e;cases e
  .rw[BB.mp z,e2] at e;cases e
end Fb
namespace Fs
open PySem PyProof.Rows
open Sem (wp)
inductive OCt (kd:SortKind) {α:Type} (P:α->Prop):Sem α->Prop
 | pure {a:α}:P a->OCt kd P (.pure a)
 | uns (w:String):OCt kd P (.unsupported w)
 | rule (t:String) {k:Unit->Sem α}:(∀x,OCt kd P (k x))->OCt kd P (.rule t k)
 | cmp (x y:Value) {k:Except Value Bool->Sem α}:(∀r,OCt kd P (k r))->OCt kd P ((keyLt' kd x y).attempt.bind k)
theorem OCt.bind {kd:SortKind}{α β:Type}{P:α->Prop}{P':β->Prop}{t:Sem α} (h:OCt kd P t) {f:α->Sem β} (hf:∀a,P a->OCt kd P' (f a)):OCt kd P' (t.bind f):=by
 induction h with
 | pure h=>exact hf _ h
 | uns w=>exact .uns w
 | rule t h ih=>exact .rule t ih
 | cmp x y h ih =>
  rw[Sem.bind_assoc]
  exact .cmp x y ih
def OC (kd:SortKind) {α:Type} (m:StateT SortSt Sem α):Prop:=∀st,kindOf st=kd->OCt kd (fun r=>kindOf r.2=kd) (m.run st)
section
variable {kd:SortKind}{α β:Type}
theorem OC.pure {a:α}:OC kd (Pure.pure a:StateT SortSt Sem α):=fun st h=>.pure h
theorem OC.bind {m:StateT SortSt Sem α}{f:α->StateT SortSt Sem β} (h:OC kd m) (hf:∀a,OC kd (f a)):OC kd (m >>= f):=fun st hk=>by
 rw[RM]
 exact OCt.bind (h st hk) fun r hr=>hf r.1 r.2 hr
theorem OC.get {f:SortSt->StateT SortSt Sem β} (hf:∀st,kindOf st=kd->OC kd (f st)):OC kd (get >>= f):=fun st hk=>by
 rw[RM,StateT.run_get]
 exact hf st hk st hk
theorem OC.modify {g:SortSt->SortSt} (h:∀st,kindOf (g st)=kindOf st):OC kd (modify g:StateT SortSt Sem PUnit):=fun st hk=>by
 rw[StateT.run_modify]
 exact .pure ((h st).trans hk)
theorem OC.set {st':SortSt} (h:kindOf st'=kd):OC kd (set st':StateT SortSt Sem PUnit):=fun st hk=>by
 rw[StateT.run_set]
 exact .pure h
theorem OC.rule (t:String):OC kd (liftM (rule t):StateT SortSt Sem Unit):=fun st hk=>by
 show OCt kd _ ((RL (PySem.rule t):StateT SortSt Sem Unit).run st)
 rw[RN]
 exact .rule t fun _=>.pure hk
theorem OC.uns (w:String):OC kd (liftM (unsupported w:Sem α):StateT SortSt Sem α):=fun st hk=>by
 show OCt kd _ ((RL (unsupported w):StateT SortSt Sem α).run st)
 rw[RN]
 exact .uns w
theorem OC.ite {c:Prop} [Decidable c] {m m':StateT SortSt Sem α} (h:OC kd m) (h':OC kd m'):OC kd (if c then m else m'):=by
 split
 .exact h
 .exact h'
theorem OC.list {β:Type}{f:Nat->β->StateT SortSt Sem (ForInStep β)} (h:∀x b,OC kd (f x b)):∀(l:List Nat) (b:β),OC kd (forIn l b f)
 | [],b=>by rw[ML];exact OC.pure
 | x::l,b=>by
  rw[QD]
  refine OC.bind (h x b) fun r=>?_
  cases r with
  | done c=>exact OC.pure
  | yield c=>exact OC.list h l c
theorem OC.range {β:Type}{a b:Nat}{f:Nat->β->StateT SortSt Sem (ForInStep β)}{c:β} (h:∀x b,OC kd (f x b)):OC kd (forIn [a:b] c f):=by
 rw[Std.Legacy.Range.forIn_eq_forIn_range']
 exact OC.list h _ c
theorem OC.lt {x y:Keyed}:OC kd (lt' x y):=by
 rw[lt'_eq]
 refine OC.get fun st hk=>?_
 rw[hk]
 refine fun st hk=>?_
 rw[RM]
 show OCt kd _ (Sem.bind ((RL (keyLt' kd x.1 y.1).attempt:StateT SortSt Sem _).run st) _)
 rw[RN]
 show OCt kd _ (Sem.bind (Sem.bind (keyLt' kd x.1 y.1).attempt _) _)
 rw[Sem.bind_assoc]
 refine .cmp x.1 y.1 fun r=>?_
 cases r with
 | ok b=>exact .pure hk
 | error e=>exact .pure hk
theorem OC.elem {arr:Array Keyed}{i:Nat}:OC kd (elem' arr i):=by
 rw[elem'_eq]
 split
 .exact OC.pure
 .exact OC.uns _
theorem OC.ltAt {i j:Nat}:OC kd (ltAt' i j):=by
 rw[ltAt'_eq]
 exact OC.get fun st hk=>OC.bind OC.elem fun _=>OC.bind OC.elem fun _=>OC.lt
theorem OC.bey {l:Bool}{key:Keyed}{arr:Array Keyed}{b i:Nat}:OC kd (beyond' l key arr b i):=by
 unfold beyond'
 refine OC.bind OC.elem fun _=>?_
 split
 .exact OC.lt
 .exact OC.bind OC.lt fun _=>OC.pure
theorem OC.rev {i j:Nat}:OC kd (reverseSlice' i j):=by
 rw[reverseSlice'_eq]
 exact OC.modify fun _=>rfl
theorem OC.move {i j:Nat}:OC kd (moveDown' i j):=by
 rw[moveDown'_eq]
 exact OC.modify fun _=>rfl
end
theorem OC.count {kd:SortKind}{lo nrem:Nat}:OC kd (countRun' lo nrem):=by
 rw[countRun'_eq]
 dsimp only
 repeat' (first | with_reducible exact OC.pure | with_reducible exact OC.lt | with_reducible exact OC.elem | with_reducible exact OC.ltAt | with_reducible exact OC.bey | with_reducible exact OC.rev | with_reducible exact OC.move | with_reducible exact OC.rule _ | with_reducible exact OC.uns _ | (with_reducible refine OC.get fun _ _=>?_) | (with_reducible refine OC.bind ?_ fun _=>?_) | (with_reducible refine OC.range fun _ _=>?_) | (with_reducible refine OC.ite ?_ ?_) | (with_reducible refine OC.modify fun _=>?_;rfl) | split | dsimp only)
theorem OC.bin {kd:SortKind}{lo n ok:Nat}:OC kd (binarySort' lo n ok):=by
 rw[binarySort'_eq]
 dsimp only
 repeat' (first | with_reducible exact OC.pure | with_reducible exact OC.lt | with_reducible exact OC.elem | with_reducible exact OC.ltAt | with_reducible exact OC.bey | with_reducible exact OC.rev | with_reducible exact OC.move | with_reducible exact OC.rule _ | with_reducible exact OC.uns _ | (with_reducible refine OC.get fun _ _=>?_) | (with_reducible refine OC.bind ?_ fun _=>?_) | (with_reducible refine OC.range fun _ _=>?_) | (with_reducible refine OC.ite ?_ ?_) | (with_reducible refine OC.modify fun _=>?_;rfl) | split | dsimp only)
theorem OC.gal {kd:SortKind}{l:Bool}{key:Keyed}{arr:Array Keyed}{b n h:Nat}:OC kd (gallop' l key arr b n h):=by
 rw[gallop'_eq]
 dsimp only
 repeat' (first | with_reducible exact OC.pure | with_reducible exact OC.lt | with_reducible exact OC.elem | with_reducible exact OC.ltAt | with_reducible exact OC.bey | with_reducible exact OC.rev | with_reducible exact OC.move | with_reducible exact OC.rule _ | with_reducible exact OC.uns _ | (with_reducible refine OC.get fun _ _=>?_) | (with_reducible refine OC.bind ?_ fun _=>?_) | (with_reducible refine OC.range fun _ _=>?_) | (with_reducible refine OC.ite ?_ ?_) | (with_reducible refine OC.modify fun _=>?_;rfl) | split | dsimp only)
theorem OC.setG {kd:SortKind}{g:Nat}:OC kd (setMinGallop' g):=by
 rw[setMinGallop'_eq]
 exact OC.modify fun _=>rfl
theorem OC.mlo {kd:SortKind}{a b:Array Keyed}:OC kd (mergeLo' a b):=by
 rw[mergeLo'_eq]
 dsimp only
 repeat' (first | with_reducible exact OC.gal | with_reducible exact OC.setG | with_reducible exact OC.pure | with_reducible exact OC.lt | with_reducible exact OC.elem | with_reducible exact OC.ltAt | with_reducible exact OC.bey | with_reducible exact OC.rev | with_reducible exact OC.move | with_reducible exact OC.rule _ | with_reducible exact OC.uns _ | (with_reducible refine OC.get fun _ _=>?_) | (with_reducible refine OC.bind ?_ fun _=>?_) | (with_reducible refine OC.range fun _ _=>?_) | (with_reducible refine OC.ite ?_ ?_) | (with_reducible refine OC.modify fun _=>?_;rfl) | split | dsimp only)
theorem OC.mhi {kd:SortKind}{a b:Array Keyed}:OC kd (mergeHi' a b):=by
 rw[mergeHi'_eq]
 dsimp only
 repeat' (first | with_reducible exact OC.gal | with_reducible exact OC.setG | with_reducible exact OC.pure | with_reducible exact OC.lt | with_reducible exact OC.elem | with_reducible exact OC.ltAt | with_reducible exact OC.bey | with_reducible exact OC.rev | with_reducible exact OC.move | with_reducible exact OC.rule _ | with_reducible exact OC.uns _ | (with_reducible refine OC.get fun _ _=>?_) | (with_reducible refine OC.bind ?_ fun _=>?_) | (with_reducible refine OC.range fun _ _=>?_) | (with_reducible refine OC.ite ?_ ?_) | (with_reducible refine OC.modify fun _=>?_;rfl) | split | dsimp only)
theorem OC.mat {kd:SortKind}{i:Nat}:OC kd (mergeAt' i):=by
 rw[mergeAt'_eq]
 refine OC.get fun st hk=>?_
 dsimp only
 repeat' (first | with_reducible exact OC.gal | with_reducible exact OC.mlo | with_reducible exact OC.mhi | with_reducible exact OC.set hk | with_reducible exact OC.pure | with_reducible exact OC.lt | with_reducible exact OC.elem | with_reducible exact OC.ltAt | with_reducible exact OC.bey | with_reducible exact OC.rev | with_reducible exact OC.move | with_reducible exact OC.rule _ | with_reducible exact OC.uns _ | (with_reducible refine OC.get fun _ _=>?_) | (with_reducible refine OC.bind ?_ fun _=>?_) | (with_reducible refine OC.range fun _ _=>?_) | (with_reducible refine OC.ite ?_ ?_) | (with_reducible refine OC.modify fun _=>?_;rfl) | split | dsimp only)
theorem OC.runs {kd:SortKind}:OC kd sortRuns':=by
 rw[sortRuns'_eq]
 dsimp only
 repeat' (first | with_reducible exact OC.count | with_reducible exact OC.bin | with_reducible exact OC.mat | with_reducible exact OC.pure | with_reducible exact OC.lt | with_reducible exact OC.elem | with_reducible exact OC.ltAt | with_reducible exact OC.bey | with_reducible exact OC.rev | with_reducible exact OC.move | with_reducible exact OC.rule _ | with_reducible exact OC.uns _ | (with_reducible refine OC.get fun _ _=>?_) | (with_reducible refine OC.bind ?_ fun _=>?_) | (with_reducible refine OC.range fun _ _=>?_) | (with_reducible refine OC.ite ?_ ?_) | (with_reducible refine OC.modify fun _=>?_;rfl) | split | dsimp only)
section
variable {M:Model}{A:Around}{Γ:Ctx}{s1 s2:Shared}{kd:SortKind}{α:Type}{P:α->Prop}{Q:α->Prop}{E1 E2:Value->Pos->Shared->Prop}
theorem iH {t:Sem α} (h:OCt kd P t) (hΓ:Γ.In A)
  (inv:∀x y (k:Except Value Bool->Sem α),(∀p,wp M Γ ((keyLt' kd x y).attempt.bind k) (fun a _ s'=>s'=s2/\Q a) E2 p s2)->∃b:Bool,(∀p,wp M Γ (k (.ok b)) (fun a _ s'=>s'=s2/\Q a) E2 p s2)/\
   ∀(Q':Bool->Shared->Prop) (E':Value->Shared->Prop),Q' b s1->wpAny M A (keyLt' kd x y) Q' E' s1):
  (∀p,wp M Γ t (fun a _ s'=>s'=s2/\Q a) E2 p s2)->∀p,wp M Γ t (fun a _ s'=>s'=s1/\Q a) E1 p s1:=by
 induction h with
 | pure h =>
  intro q p
  have:=q p
  rw[Qr] at this ⊢
  exact⟨rfl,this.2⟩
 | uns w =>
  intro q p
  have:=q p
  rw[Sem.wp_unsupported] at this
  exact this.elim
 | rule t h ih =>
  intro q p
  rw[Qs]
  exact ih () (fun p=>by have:=q p;rw[Qs] at this;exact this) p
 | @cmp x y k h ih =>
  intro q p
  obtain⟨b,hw,hc⟩:=inv x y k q
  have h1:wpAny M A (keyLt' kd x y).attempt (fun r s'=>r=.ok b/\s'=s1) (fun _ _=>False) s1:=Mt (hc _ _ ⟨rfl,rfl⟩)
  rw[Sem.wp_bind]
  refine Sem.wp_mono M Γ _ (fun r p' s' hr=>?_) (fun _ _ _ z=>z.elim) p s1 (h1 Γ p hΓ)
  obtain⟨rfl,rfl⟩:=hr
  exact ih (.ok b) hw p'
end
def Df (n:Nat):Array Value:=(J6 n Ca).toArray
def Pb (n:Nat):Obj:={ cls:=.type "tuple",data:=.seq (Df n) }
def FR (N:Nat) (rk:Addr->Option Nat):Heap:={ objs:=((DB N).map fun a=>match rk a with
 | some n=>Pb n
 | none=>({ cls:=.none,data:=.plain }:Obj)).toArray }
theorem S3 {N:Nat}{rk:Addr->Option Nat}{a:Addr}{o:Obj} (h:(FR N rk).get? a=some o):(∃n,rk a=some n/\o=Pb n)\/(rk a=none/\o.data=.plain):=by
 unfold FR Heap.get? at h
 dsimp only at h
 rw[YR,Ao] at h
 by_cases ha:a < N
 .rw[YO ha] at h
  dsimp only [Option.map] at h
  cases hr:rk a with
  | none=>rw[hr] at h;cases h;exact .inr ⟨rfl,rfl⟩
  | some n=>rw[hr] at h;cases h;exact .inl ⟨n,rfl,rfl⟩
 .rw[MN (by simpa using ha)] at h
  cases h
theorem S2 {N:Nat}{rk:Addr->Option Nat}{a:Addr}{n:Nat} (ha:a < N) (h:rk a=some n):(FR N rk).get? a=some (Pb n):=by
 unfold FR Heap.get?
 dsimp only
 rw[YR,Ao,YO ha]
 dsimp only [Option.map]
 rw[h]
 rfl
theorem a8:eqBool .none .none=Sem.rule "eq-bool.same-object" fun _=>.pure true:=rfl
theorem Pp:∀(n m:Nat),(Df n).toList.zip (Df m).toList=J6 (min n m) (Ca,Ca)
 | 0,m=>by simp[Df]
 | n+1,0=>by simp[Df]
 | n+1,m+1=>by
  have ih:=Pp n m
  unfold Df at ih ⊢
  simp only[IZ] at ih ⊢
  rw[J7,J7,J8,ih,Nat.succ_min_succ,J7]
section
variable {M:Model}{Γ:Ctx}
theorem Tu {c:Bool}{Q:Option Bool×Unit->Pos->Shared->Prop}{E:Value->Pos->Shared->Prop}{s:Shared}:∀(n i:Nat) (p:Pos),
  wp M Γ (forIn ((J6 n (Ca,Ca)).zipIdx i) ((none,()):Option Bool×Unit) fun x r=>do
   if !(<- eqBool x.1.1 x.1.2) then
    let z <- oneLt' (c&&x.2==0) x.1.1 x.1.2
    pure (ForInStep.done (some z,()))
   else pure (Jx (none,()))) Q E p s->Q (none,()) p s
 | 0,i,p,h=>by
  rw[List.replicate_zero,List.zipIdx_nil,ML,Mo] at h
  exact h
 | n+1,i,p,h=>by
  rw[J7,List.zipIdx_cons,QD] at h
  dsimp only at h
  rw[a8] at h
  simp only[KJ,Qs,Qr] at h
  exact Tu n (i+1) p (by simpa using h)
end
section
variable {M:Model}{Γ:Ctx}
theorem TN {β:Type}{v:Value}{f:Array Value->Sem β}{Q:β->Pos->Shared->Prop}{E:Value->Pos->Shared->Prop}{p:Pos}{s:Shared} (h:wp M Γ (Qi v >>= f) Q E p s):
  ∃a o xs n,v=.ref a/\s.heap.get? a=some o/\o.data=.seq xs n/\wp M Γ (f xs) Q E p s:=by
 unfold Qi seqItems? at h
 rw[KJ] at h
 cases v with
 | ref a =>
  simp only[KJ] at h
  have h:wp M Γ (Sem.load a none .pure) _ _ p s:=h
  rw[Sem.wp_load] at h
  obtain⟨o,ho,h⟩:=h
  rw[Qr] at h
  cases hd:o.data with
  | seq xs n =>
   rw[hd] at h
   simp only[Mo] at h
   exact⟨a,o,xs,n,rfl,ho,hd,h⟩
  | _ =>
   rw[hd] at h
   simp only[Mo] at h
   exact Bf (by simpa [unsupported] using h)
 | builtin id =>
  simp only[KJ,notAStandIn] at h
  split at h
  .exact Bf (by simpa [unsupported] using h)
  .exact Bf (by simpa [unsupported] using h)
 | _=>exact Bf (by simpa [notAStandIn,unsupported] using h)
theorem cJ {c:Bool}{N:Nat}{rk:Addr->Option Nat}{x y:Value}{Q:Bool->Pos->Shared->Prop}{E:Value->Pos->Shared->Prop}{p:Pos}{s:Shared} (hs:s.heap=FR N rk) (h:wp M Γ (keyLt' (tuples' c) x y) Q E p s):
  ∃a b na nb,x=.ref a/\y=.ref b/\rk a=some na/\rk b=some nb/\Q (decide (na < nb)) p s:=by
 rw[kat_lt_eq] at h
 obtain⟨a,oa,xs,n,rfl,ha,da,h⟩:=TN h
 obtain⟨b,ob,ys,m,rfl,hb,db,h⟩:=TN h
 rw[hs] at ha hb
 rcases S3 ha with ⟨na,ra,rfl⟩ | ⟨_,e⟩
 .rcases S3 hb with ⟨nb,rb,rfl⟩ | ⟨_,e⟩
  .cases da
   cases db
   refine⟨a,b,na,nb,rfl,rfl,ra,rb,?_⟩
   rw[Pp,KJ] at h
   have h:=Tu _ _ _ h
   dsimp only at h
   rw[Mo] at h
   have e1:(Df na).size=na:=by simp[Df]
   have e2:(Df nb).size=nb:=by simp[Df]
   rw[e1,e2] at h
   exact h
  .rw[e] at db;cases db
 .rw[e] at da;cases da
end
@[reducible] def κN (rk:Addr->Option Nat):PyProof.Rows.KeyKind where
 α:=Nat
 blt a b:=decide (a < b)
 irrefl a:=JJj (C3 a)
 trans a b c h1 h2:=JJk (MV (JJq h1) (JJq h2))
 negTrans a b c h:=by
  have h:=JJq h
  by_cases q:a < b
  .exact .inl (JJk q)
  .exact .inr (JJk (by omega))
 total a b h1 h2:=by
  have h1:=of_decide_eq_false h1
  have h2:=of_decide_eq_false h2
  omega
 keyOf v:=match v with
  | .ref a=>rk a
  | _=>none
 dflt:=0
theorem Tb {rk:Addr->Option Nat}{v:Value}{n:Nat} (h:(κN rk).keyOf v=some n):∃a,v=.ref a/\rk a=some n:=by
 cases v with
 | ref a=>exact⟨a,rfl,h⟩
 | _=>cases h
section
variable {prog:Program}{w:World}
theorem Ti {A:Around}{c fin:Bool}{Q:Bool->Shared->Prop}{s:Shared} (h:Q fin s):∀(n i:Nat),PySem.W.KatLex prog w A c fin Q (J6 n (Ca,Ca)) i s
 | 0,i=>ZJ h
 | n+1,i=>by
  rw[J7]
  exact Q0 (ZD Ca prog w _ _ (Q2 (Ti h n (i+1))))
theorem cf {s:Shared}{c:Bool}{N:Nat}{rk:Addr->Option Nat} (hN:∀a n,rk a=some n->a < N) (hs:s.heap=FR N rk):G.LtAt prog w s (κN rk) (tuples' c):=by
 intro A E x y na nb Q hx hy hq
 obtain⟨a,rfl,ra⟩:=Tb hx
 obtain⟨b,rfl,rb⟩:=Tb hy
 refine PySem.W.kat_lt (by rw[hs];exact S2 (hN _ _ ra) ra) rfl (by rw[hs];exact S2 (hN _ _ rb) rb) rfl ?_
 rw[Pp]
 refine Ti ?_ _ 0
 have e1:(Df na).size=na:=by simp[Df]
 have e2:(Df nb).size=nb:=by simp[Df]
 rw[e1,e2]
 exact hq
theorem sort_at {A:Around}{E:Value->Shared->Prop}{s:Shared}{c:Bool}{a₀:Array Keyed}{N:Nat}{rk:Addr->Option Nat} (hN:∀a n,rk a=some n->a < N) (hk:∀p∈a₀.toList,∃a n,p.1=.ref a/\rk a=some n)
  (hc:∀a b na nb,rk a=some na->rk b=some nb->∀(Q:Bool->Shared->Prop) (E:Value->Shared->Prop),Q (decide (na < nb)) s->wpAny (model prog w) A (keyLt' (tuples' c) (.ref a) (.ref b)) Q E s) (h2:2<=a₀.size)
  {Q:Unit->SortSt->Prop} (h:∀st',(arrOf st').Perm a₀->failedOf st'=none->SortedToK (κN rk) (arrOf st') a₀.size->Q () st'):wpS (model prog w) A E s sortRuns' Q (Mc (tuples' c) a₀ #[] 7 none):=by
 have hs2:wpS (model prog w) A (fun _ _=>False) { s with heap:=FR N rk } sortRuns' Q (Mc (tuples' c) a₀ #[] 7 none) :=
  G.wpS_sortRunsSt (κ:=κN rk) (a₀:=a₀) (cf hN rfl) (fun p hp=>by
   obtain⟨a,n,e,r⟩:=hk p hp
   exact⟨n,by rw[e];exact r⟩) ⟨Array.Perm.refl _,rfl,rfl⟩ rfl (Stable.refl _) h2 fun st' a1 a2 a3 _=>h st' a1 a2 a3
 intro Γ p hΓ
 refine iH (Q:=fun r=>Q r.1 r.2) (OC.runs (kd:=tuples' c) _ rfl) hΓ (fun x y k q=>?_) (fun p=>hs2 Γ p hΓ) p
 have inv:∀p,∃a b na nb,x=.ref a/\y=.ref b/\rk a=some na/\rk b=some nb/\wp (model prog w) Γ (k (.ok (decide (na < nb)))) (fun a _ s'=>s'={ s with heap:=FR N rk }/\Q a.1 a.2) (fun _ _ _=>False) p { s with heap:=FR N rk }:=fun p=>by
  have:=q p
  rw[Sem.wp_bind,Sem.wp_attempt] at this
  exact cJ rfl this
 obtain⟨a,b,na,nb,rfl,rfl,ra,rb,_⟩:=inv ⟨0,0,0,0⟩
 refine⟨decide (na < nb),fun p=>?_,fun Q' E' hq=>hc a b na nb ra rb Q' E' hq⟩
 obtain⟨a',b',na',nb',e1,e2,ra',rb',hw⟩:=inv p
 cases e1
 cases e2
 rw[ra] at ra'
 rw[rb] at rb'
 cases ra'
 cases rb'
 exact hw
end
end Fs
namespace L2
open PySem PySem.Spec PyProof.Rows
section
variable {prog:Program}{w:World}{d:Addr}{od:Obj}{es:Array DictEntry}{ep:Nat}
theorem iW {A:Around} (hh:A.handled=none) (it:Addr) (hne:it≠d) (hdd:od.data=.dict es ep):Walks prog w A it [it,d] [it] es.size (fun i v=>∃en,es[i]?=some en/\v=en.key) (fun i h=>h.IsKeyIter it d i es.size ep/\h.get? d=some od) where
 sub:=by simp
 frame:=fun i h h' st k=>⟨st.1.at fun oi e=>k it (by simp) oi e,k d (by simp) _ st.2⟩
 item:=fun i s Q E hi st hQ=>T2 st.1 st.2 hdd rfl (Jq hi) fun h' st' sb=>hQ _ h' s.toks ⟨_,Jq hi,rfl⟩ ⟨st',(sb.2 d (Ar hne)).trans st.2⟩ (fun b o hb e=>(sb.2 b (by simpa using hb)).trans e)
 done:=fun s Q E st hQ=>OJ hh st.1 st.2 hdd rfl (Aa _) fun h' eb=>hQ h' s.toks (fun b o hb e=>eb b o (by simpa using hb) e)
 self:=fun i s Q E st h=>by
  refine RH st.1.typeIs Mj (Gf Mj st.1.typeIs Yu ?_ (Yr _))
  show wpAny _ _ (ret (.ref it)) _ _ s
  exact AZ ⟨_,rfl,"dict_keyiterator",_,st.1.typeIs,HL.lookup,h⟩
theorem bw (lo:(d==sysModules)=false) (hx:od.ExactDict) (hdd:od.data=.dict es ep):PySem.W.KdlSrc prog w "dict" d d es.size (fun i v=>∃en,es[i]?=some en/\v=en.key) (fun h=>h.get? d=some od) where
 type:=fun s e=>⟨od,e,hx.1⟩
 there:=fun h e=>⟨BJ e,BJ e⟩
 keep:=fun h h' e k=>k d (.inl rfl) _ e
 notList:=by decide
 notTuple:=by decide
 hint:=fun A E s Q e hq=>PySem.W.kdl_hint_dict ⟨od,e,hx.1⟩ hq
 iter:=fun A s hh e=>⟨_,_,fun E Q hq=>N1 lo e hx hdd hq,iW hh _ (KA (BJ e)) hdd,⟨⟨_,CD _ rfl,rfl,rfl⟩,Bi _ e⟩⟩
end
end L2
namespace Fb
open PySem PySem.Spec PyProof.Rows L2
theorem R0 {α:Type}{p q:α->Bool}:∀{l:List α},(∀x∈l,p x=true->q x=true)->(∃x∈l,p x=false/\q x=true)->l.countP p < l.countP q
 | [],_,h=>by obtain⟨x,hx,_⟩:=h;cases hx
 | a::l,h,⟨x,hx,h1,h2⟩=>by
  have hle:l.countP p<=l.countP q:=List.countP_mono_left fun x hx=>h x (Av _ hx)
  rw[P6,P6]
  rcases AQ.mp hx with e | hx
  .subst e
   rw[JJx (by rw[h1];decide),JJz h2]
   omega
  .have ih:=R0 (fun x hx=>h x (Av _ hx)) ⟨x,hx,h1,h2⟩
   by_cases hp:p a=true
   .rw[JJz hp,JJz (h a AV hp)]
    omega
   .rw[JJx hp]
    split <;> omega
def E8 (rows:List (List Nat)) (r:List Nat):Nat:=rows.countP fun x=>BZ x r
theorem Ue {rows:List (List Nat)}{a b:List Nat} (ha:a∈rows) (hb:b∈rows):decide (E8 rows a < E8 rows b)=BZ a b:=by
 have mono:∀{a b:List Nat},a∈rows->BZ a b=true->E8 rows a < E8 rows b:=fun {a b} ha h=>R0 (fun x _ hx=>rb_trans hx h) ⟨a,ha,Ff a,h⟩
 cases h:BZ a b with
 | true=>exact JJk (mono ha h)
 | false =>
  refine JJj ?_
  rcases Oa a b with e | e | e
  .rw[e];exact C3 _
  .rw[h] at e;cases e
  .have:=mono hb e
   omega
theorem SG {K:AD}{H:Hp}{a:Addr}{ns:List Int} (h:SqT K H a (ns.map V.int)):Dp K H (.ref a) (.tuple (ns.map C4)):=by
 refine .tup h ?_
 clear h
 induction ns with
 | nil=>exact .nil
 | cons n ns ih=>exact .cons (.int n) ih
theorem O0 (ns:List Int):Ik (.tuple (ns.map C4))=true:=Au ns
theorem a9 (a b:List Int):Fy (.tuple (a.map C4)) (.tuple (b.map C4))=decide (a=b):=Bx a b
section
variable {X:Cx}{pins:List (Addr×Obj)}{σ:L2.St}{H:Hp}{s:Shared}
theorem _root_.L2.Room.in1x {k:Nat}{A:Around} (r:Room (k+1) A):Room k A.in1.in1:=⟨r.hd,by have:=r.dp;show A.depth+3 * k+5 < _;omega,by have:=r.un;show A.units+1+1+16 * k+200 < _;omega⟩
theorem fE {k:Nat}{f:Addr}{fd:FuncData}{ps:List Str}{sp:Sp}{us:List Value}{vs:List V}{Q:VK}{E:Value->Shared->Prop} (F:FnOk X.prog X.w X.K X.mg X.base CX0 k f fd ps sp) (hr:Room k X.A.in1.in1) (hb:Binds X.K fd ps []) (I:Inv X pins σ H s) (r:Vals vs us) (h:sp vs H Q E0):
  wpAny (model X.prog X.w) X.A.in1.in1 (call (.ref f) us) (EP X pins σ Q) E s:=by
 have hl:us.length=ps.length:=by rw[<- r.length];exact F.len _ _ _ _ h
 have z:=I.env0
 have e0:Env0 X.prog X.w X.K X.mg X.base X.A.in1.in1 X.stack s H:=⟨z.frames,z.mod,z.bs,z.bsz,z.funs,z.frf,z.hok,z.bare⟩
 refine Mu (Gb (F.run X.A.in1.in1 X.stack s H ⟨us,[]⟩ us vs Q E0 hr e0 (by have:=hb s us I.kIn (by rw[DI];exact hl);rw[DI] at this;exact this) r h) fun r' s' hq=>?_)
 cases r' with
 | error e=>exact Bf hq
 | ok fl =>
  cases fl with
  | next=>exact Bf hq
  | brk=>exact Bf hq
  | cont=>exact Bf hq
  | ret u=>exact I.after hq
theorem OS (I:Inv X pins σ H s) {t q:Addr}{n:Int} (h:H t=some (.tup [.int n,.ref q])):∃o k m,s.heap.get? t=some o/\o.cls=.type "tuple"/\o.data=.seq #[.int n k,.ref q] m:=by
 obtain⟨its,v1,⟨o1,e1,c1,n1,d1⟩,_⟩:=I.tuple (SqT.of h)
 cases v1 with
 | cons p1 v1 =>
 cases v1 with
 | cons p2 v1 =>
 cases v1
 obtain⟨k,rfl⟩:=p1
 cases p2
 exact⟨o1,k,n1,e1,c1,d1⟩
theorem cC (I:Inv X pins σ H s) {A:Around} (hu:A.units+70 < cLine) {t1 t2 q1 q2:Addr}{r1 r2:List Nat} (h1:H t1=some (.tup [.int (r1.length:Nat),.ref q1])) (h2:H t2=some (.tup [.int (r2.length:Nat),.ref q2]))
  (g1:H q1=some (.tup ((zn r1).map V.int))) (g2:H q2=some (.tup ((zn r2).map V.int))) {Q:Bool->Shared->Prop} {E:Value->Shared->Prop} (hq:Q (BZ r1 r2) s):
  wpAny (model X.prog X.w) A (keyLt' (tuples' true) (.ref t1) (.ref t2)) Q E s:=by
 obtain⟨o1,k1,m1,e1,_,d1⟩:=OS I h1
 obtain⟨o2,k2,m2,e2,_,d2⟩:=OS I h2
 obtain⟨cs,rc⟩:=Dp.reads I _ (.ref q1) (.ref q1) (SG (SqT.of g1)) rfl
 obtain⟨ds,rd⟩:=Dp.reads I _ (.ref q2) (.ref q2) (SG (SqT.of g2)) rfl
 obtain⟨i1,v1,p1,_⟩:=I.tuple (SqT.of g1)
 obtain⟨i2,v2,p2,_⟩:=I.tuple (SqT.of g2)
 have E1:Co A s (.ref q1) (.ref q2) (decide (zn r1=zn r2)):=by
  rw[<- a9]
  exact Qt _ _ _ _ _ _ _ _ rc rd (Ij (O0 _)) (Ij (O0 _)) (Qu (O0 _) (by omega))
 obtain⟨e,he,hiff⟩:=HT.eqAt_int A s (r1.length:Nat) k1 (r2.length:Nat) k2
 refine PySem.W.kat_lt e1 d1 e2 d2 ?_
 show PySem.W.KatLex X.prog X.w A true (decide (2 < 2)) Q [(.int (r1.length:Nat) k1,.int (r2.length:Nat) k2),(.ref q1,.ref q2)] 0 s
 refine Q0 (he X.prog X.w _ _ ?_)
 have rb:BZ r1 r2=(decide (r1.length < r2.length) || (r1.length==r2.length&&P2 r1 r2)):=rfl
 cases e with
 | false =>
  have hne:¬r1.length=r2.length:=fun z=>absurd (hiff.mpr (by rw[z])) A8
  refine PySem.W.kat_no ?_
  show wpAny _ _ (oneLt' true (.int (r1.length:Nat) k1) (.int (r2.length:Nat) k2)) _ _ _
  refine oneLt_int ?_
  have:BZ r1 r2=decide (((r1.length:Nat):Int) < ((r2.length:Nat):Int)):=by
   rw[rb,beq_eq_false_iff_ne.mpr hne,DW,L4]
   exact CY (by omega)
  rw[<- this]
  exact hq
 | true =>
  have hl:r1.length=r2.length:=by have:=hiff.mp rfl;omega
  have rb2:BZ r1 r2=HT.lexLt (zn r1) (zn r2):=by
   rw[rb,N7 r1 r2 hl,JJj (by omega),HA,beq_iff_eq.mpr hl,D1]
  refine Q2 (Q0 (E1 X.prog X.w _ _ ?_))
  by_cases hz:zn r1=zn r2
  .rw[JJk hz]
   refine Q2 (ZJ ?_)
   have:BZ r1 r2=decide (2 < 2):=by rw[rb2,hz,N8];rfl
   rw[<- this]
   exact hq
  .rw[JJj hz]
   refine PySem.W.kat_no ?_
   show wpAny _ _ (oneLt' false (.ref q1) (.ref q2)) _ _ _
   refine PySem.W.kat_one _ _ (HT.lt_tupInts p1 p2 (K0 v1) (K0 v2) (by omega) ?_)
   show Q (HT.lexLt (zn r1) (zn r2)) s
   rw[<- rb2]
   exact hq
end
theorem d7 {α β:Type} (g:α->β):∀{l m:List β},l.Perm m->∀{n:List α},m=n.map g->∃n':List α,n'.Perm n/\n'.map g=l:=by
 intro l m h
 induction h with
 | nil=>intro n e;cases n with
  | nil=>exact⟨[],.refl _,rfl⟩
  | cons _ _=>cases e
 | cons x h ih =>
  intro n e
  cases n with
  | nil=>cases e
  | cons a n =>
   obtain⟨e1,e2⟩:=Dl e
   obtain⟨n',p,q⟩:=ih e2
   exact⟨a::n',p.cons a,by rw[Aq,q,<- e1]⟩
 | swap x y l =>
  intro n e
  match n,e with
  | a::b::n,e =>
   obtain⟨e1,e2⟩:=Dl e
   obtain⟨e3,e4⟩:=Dl e2
   exact⟨b::a::n,List.Perm.swap _ _ _,by rw[Aq,Aq,<- e1,<- e3,<- e4]⟩
  | [a],e=>cases (Dl e).2
  | [],e=>cases e
 | trans h1 h2 ih1 ih2 =>
  intro n e
  obtain⟨n2,p2,q2⟩:=ih2 e
  obtain⟨n1,p1,q1⟩:=ih1 q2.symm
  exact⟨n1,p1.trans p2,q1⟩
structure Trip where
 t:Addr
 q:Addr
 r:List Nat
def EM (z:Trip):Keyed:=(.ref z.t,.ref z.q)
def E9 (rows:List (List Nat)) (zs:List Trip) (a:Addr):Option Nat:=(zs.find? fun z=>decide (z.t=a)).map fun z=>E8 rows z.r
theorem Od {rows:List (List Nat)}{zs:List Trip}{a:Addr}{n:Nat} (h:E9 rows zs a=some n):∃z∈zs,z.t=a/\n=E8 rows z.r:=by
 unfold E9 at h
 cases hf:zs.find? fun z=>decide (z.t=a) with
 | none=>rw[hf] at h;cases h
 | some z =>
  rw[hf] at h
  cases h
  exact⟨z,J4 hf,by have:=Jz hf;simpa using this,rfl⟩
theorem Ob {rows:List (List Nat)}:∀{zs:List Trip},(zs.map (·.t)).Nodup->∀{z:Trip},z∈zs->E9 rows zs z.t=some (E8 rows z.r)
 | x::zs,hn,z,hz=>by
  rw[Aq,DN] at hn
  unfold E9
  rw[DJ]
  rcases AQ.mp hz with e | hz
  .rw[e,JJk rfl]
   rfl
  .have ne:¬x.t=z.t:=fun e=>hn.1 (by rw[e];exact Bb.mpr ⟨z,hz,rfl⟩)
   rw[JJj ne]
   exact Ob (zs:=zs) hn.2 hz
theorem gN {rows:List (List Nat)}{zs:List Trip}{xs:Array Keyed} (hz:zs.map (·.r)=rows) (hnt:(zs.map (·.t)).Nodup) (hnr:rows.Nodup) (hp:xs.Perm (zs.map EM).toArray) (hs:SortedToK (Fs.κN (E9 rows zs)) xs (zs.map EM).toArray.size):
  ∃zs':List Trip,zs'.Perm zs/\zs'.map EM=xs.toList/\(zs'.map (·.r)).Pairwise (fun a b=>BZ a b=true):=by
 obtain⟨zs',p,e⟩:=d7 EM (Array.perm_iff_toList_perm.mp hp) (n:=zs) (by simp)
 refine⟨zs',p,e,?_⟩
 have hl:zs'.length=xs.size:=by rw[<- G8,<- e,AH]
 have hl2:xs.size=(zs.map EM).toArray.size:=hp.size_eq
 have hnr':(zs'.map (·.r)).Nodup:=(p.map (·.r)).nodup_iff.mpr (by rw[hz];exact hnr)
 have keyAt:∀i (hi:i < zs'.length),KK (Fs.κN (E9 rows zs)) xs i=E8 rows zs'[i].r:=fun i hi=>by
  have h1:xs[i]?=some (EM zs'[i]):=by
   rw[<- Lz,<- e,Ao,Ba hi]
   rfl
  unfold KK
  rw[h1]
  show(E9 rows zs zs'[i].t).getD 0=_
  rw[Ob hnt (p.mem_iff.mp (HG hi))]
  rfl
 rw[QN]
 intro i j hi hj hij
 rw[AH] at hi hj
 have h1:=hs i j (Ia hij) (by rw[<- hl2,<- hl];exact hj)
 rw[keyAt i hi,keyAt j hj] at h1
 have h1:decide (E8 rows zs'[j].r < E8 rows zs'[i].r)=false:=h1
 have mem:∀k (hk:k < zs'.length),zs'[k].r∈rows:=fun k hk=>by
  rw[<- hz]
  exact Bb.mpr ⟨_,p.mem_iff.mp (HG hk),rfl⟩
 rw[Ue (mem j hj) (mem i hi)] at h1
 rw[J2,J2]
 rcases Oa zs'[i].r zs'[j].r with q | q | q
 .exfalso
  have h3:(zs'.map (·.r))[i]'(by rw[AH];exact hi)=(zs'.map (·.r))[j]'(by rw[AH];exact hj):=by rw[J2,J2];exact q
  have:=(QI hnr').mp h3
  omega
 .exact q
 .rw[h1] at q;cases q
theorem X1:∀(zs:List Trip),(zs.map fun z=>Ab z.t).toArray.zip (zs.map fun z=>Ab z.q).toArray=(zs.map EM).toArray:=by
 intro zs
 apply X5.mp
 simp only[Array.toList_zip,IZ]
 induction zs with
 | nil=>rfl
 | cons z zs ih=>rw[Aq,Aq,Aq,J8,ih];rfl
section
variable {X:Cx}{pins:List (Addr×Obj)}{σ:L2.St}{H:Hp}{s:Shared}
theorem gJ (I:Inv X pins σ H s) {A:Around} (hu:A.units+70 < cLine) {D kS:Addr}{e1:Nat}{rows:List (List Nat)}{zs:List Trip}{Q:Value->Shared->Prop}{P:PySem.Fin->Shared->Prop}{E:Value->Shared->Prop} (hD:H D=some (KO D (seqObj "list" #[] e1))) (hkS:H kS=some (.lst (zs.map fun z=>V.ref z.t)))
  (hz:zs.map (·.r)=rows) (hnt:(zs.map (·.t)).Nodup) (hnr:rows.Nodup) (ht:∀z∈zs,H z.t=some (.tup [.int (z.r.length:Nat),.ref z.q])/\H z.q=some (.tup ((zn z.r).map V.int))) (hlen:zs.length < 900000) (keys:Array Value) (hkeys:keys=(zs.map fun z=>Ab z.t).toArray)
  (h:∀(zs':List Trip) (H':Hp) (s':Shared),zs'.Perm zs->(zs'.map (·.r)).Pairwise (fun a b=>BZ a b=true)->Inv X pins σ H' s'->(∀b o,H b=some o->b≠D->b≠kS->H' b=some o)->H' D=some (.lst (zs'.map fun z=>V.ref z.q))->P (.done (.ret .none)) s'):
  wpAny (model X.prog X.w) A (ksk_end D false (zs.map fun z=>Ab z.q).toArray e1 (.ref kS) keys) P E s:=by
 subst hkeys
 have ne:D≠kS:=BX hD hkS (by intro z;cases z)
 have big:zs.length<=sizeLine:=BP (by omega)
 have tail:∀st:SortSt,failedOf st=none->(arrOf st).Perm (zs.map EM).toArray->SortedToK (Fs.κN (E9 rows zs)) (arrOf st) (zs.map EM).toArray.size->wpAny (model X.prog X.w) A (ksk_tail D false e1 (.ref kS) st) P E s:=fun st hf hp hs=>by
  obtain⟨zs',p,e,srt⟩:=gN hz hnt hnr hp hs
  obtain⟨zk,itk,nk,rk,lk,ek⟩:=I.lstM hkS
  have hoD:=GC I.hok hD
  have e2:(arrOf st).map (·.2)=(zs'.map fun z=>Ab z.q).toArray:=by
   apply X5.mp
   rw[Array.toList_map,<- e,HJ,IZ]
   rfl
  have lz:zs'.length=zs.length:=p.length_eq
  unfold ksk_tail
  try dsimp only
  rw[e2]
  have s1:=Ih s.heap kS (DC fun _=>(#[]:Array Value))
  have I1:=I.lset (t':=s.toks) (its':=[]) (ys:=[]) (f:=fun _=>#[]) hkS ek rfl .nil (Ax _)
  have hD1:(s.heap.update kS (DC fun _=>(#[]:Array Value))).get? D=some (seqObj "list" #[] e1):=(s1.2 D ne).trans hoD
  refine AI (Me ek rfl ?_ (by rw[Bc,<- lk,AH];omega) (Ax _))
  refine AI (RE ?_)
  refine AI (seqEpoch_at hD1 rfl ?_)
  refine AI (Me hD1 rfl ?_ (Ax _) (by simp only[Dz,if_false,Bc,AH,lz];omega))
  rw[hf]
  simp only[bne_self_eq_false,Dz,if_false]
  obtain⟨c2,hc2⟩:∃c2,((s.heap.update kS (DC fun _=>(#[]:Array Value))).update D (DC fun _=>(zs'.map fun z=>Ab z.q).toArray)).get? D=some (seqObj "list" (zs'.map fun z=>Ab z.q).toArray c2):=⟨_,Yc hD1 fun _=>(zs'.map fun z=>Ab z.q).toArray⟩
  have s2:=Ih (s.heap.update kS (DC fun _=>(#[]:Array Value))) D (DC fun _=>(zs'.map fun z=>Ab z.q).toArray)
  have hDk:upd H kS (.lst []) D=some (KO D (seqObj "list" #[] e1)):=by rw[AF ne];exact hD
  have vals:∀l:List Trip,Vals (l.map fun z=>V.ref z.q) (l.map fun z=>Ab z.q):=fun l=>by
   induction l with
   | nil=>exact .nil
   | cons z l ih=>exact .cons rfl ih
  have I2:=I1.write (x:=D) (e:=D) (o:=.lst (zs'.map fun z=>V.ref z.q)) (t':=s.toks) (h':=(s.heap.update kS (DC fun _=>(#[]:Array Value))).update D (DC fun _=>(zs'.map fun z=>Ab z.q).toArray)) (by rw[hDk];exact trivial) (.inl rfl) (fun b u hb hu=>(s2.2 b hb).trans hu) ⟨_,hc2⟩ ⟨by rw[AH,lz];exact big,_,c2,vals zs',hc2⟩
  refine AZ (h zs' _ _ p srt I2 (fun b o e n1 n2=>?_) AG)
  rw[AF n1,AF n2]
  exact e
 unfold ksk_end
 try dsimp only
 simp only[Dz,if_false]
 by_cases h2:(zs.map fun z=>Ab z.q).toArray.size < 2
 .rw[JJz h2,JJz h2]
  refine AI (AZ ?_)
  rw[StateT.run_pure]
  refine AI (AZ ?_)
  try dsimp only
  refine tail (Mc general' ((zs.map fun z=>Ab z.t).toArray.zip (zs.map fun z=>Ab z.q).toArray) #[] 7 none) rfl (by rw[X1]) ?_
  intro i j hij hj
  rw[Bc,AH] at hj h2
  have:i=j:=by omega
  subst this
  exact KeyOrd.kle_refl _
 .rw[JJx h2,JJx h2]
  rw[Bc,AH] at h2
  have tups:∀l:List Trip,(∀z∈l,z∈zs)->∃fs:List Value,fs.length=l.length/\PySem.W.KatTups s.heap (l.map fun z=>Ab z.t) fs/\∀v∈fs,∃n k,v=KL n k:=fun l=>by
   induction l with
   | nil=>exact fun _=>⟨[],rfl,trivial,fun v hv=>nomatch hv⟩
   | cons z l ih =>
    intro hl
    obtain⟨fs,f1,f2,f3⟩:=ih fun z hz=>hl z (Av _ hz)
    obtain⟨o,k,m,e,c,d⟩:=OS I (ht z (hl z AV)).1
    refine⟨.int (z.r.length:Nat) k::fs,by rw[Bn,Bn,f1],⟨⟨z.t,o,_,m,rfl,e,c,d,rfl⟩,f2⟩,fun v hv=>?_⟩
    rcases AQ.mp hv with q | q
    .exact⟨_,_,q⟩
    .exact f3 v q
  obtain⟨fs,f1,f2,f3⟩:=tups zs fun z hz=>hz
  refine AI (PySem.W.kat_kind f2 (by omega) (T:=.type "int") (fun v hv=>?_) rfl ?_)
  .obtain⟨n,k,rfl⟩:=f3 v hv
   exact .now
  .show wpAny _ _ _ _ _ _
   have hr:wpS (model X.prog X.w) A E s sortRuns' (fun _ st'=>(arrOf st').Perm (zs.map EM).toArray/\failedOf st'=none/\SortedToK (Fs.κN (E9 rows zs)) (arrOf st') (zs.map EM).toArray.size) (Mc (tuples' true) (zs.map EM).toArray #[] 7 none):=by
    refine Fs.sort_at (N:=s.heap.objs.size) (rk:=E9 rows zs) (fun a n r=>?_) (fun p hp=>?_) (fun a b na nb ra rb Q E hq=>?_) (by rw[Bc,AH];omega) fun st' a1 a2 a3=>⟨a1,a2,a3⟩
    .obtain⟨z,hz,rfl,_⟩:=Od r
     exact I.hok.lt (ht z hz).1
    .rw[IZ] at hp
     obtain⟨z,hz,rfl⟩:=Bb.mp hp
     exact⟨z.t,_,rfl,Ob hnt hz⟩
    .obtain⟨z1,m1,rfl,rfl⟩:=Od ra
     obtain⟨z2,m2,rfl,rfl⟩:=Od rb
     rw[Ue (by rw[<- hz];exact Bb.mpr ⟨z1,m1,rfl⟩) (by rw[<- hz];exact Bb.mpr ⟨z2,m2,rfl⟩)] at hq
     exact cC I hu (ht z1 m1).1 (ht z2 m2).1 (ht z1 m1).2 (ht z2 m2).2 hq
   rw[X1]
   refine AI (DO hr (fun r s' hh=>?_) fun _ _ e=>e)
   obtain⟨⟨⟩,st'⟩:=r
   obtain⟨rfl,hp,hf,hs⟩:=hh
   dsimp only
   exact tail st' hf hp hs
theorem gL {k:Nat}{f:Addr}{fd:FuncData} (F:FnOk X.prog X.w X.K X.mg X.base CX0 k f fd ["row"] (Hz X.K)) (hr:Room k X.A.in1.in1) (hb:Binds X.K fd ["row"] []) (I:Inv X pins σ H s) {D kS:Addr}{e1:Nat}{rows:List (List Nat)}{qs:List Addr}{P:PySem.Fin->Shared->Prop}{E:Value->Shared->Prop}
  (hD:H D=some (KO D (seqObj "list" #[] e1))) (hkS:H kS=some (.lst [])) (hq:Paired (fun q r=>H q=some (.tup ((zn r).map V.int))) qs rows) (hnr:rows.Nodup) (hlen:qs.length < 900000)
  (h:∀(zs':List Trip) (H':Hp) (s':Shared),(zs'.map (·.r)).Perm rows->(zs'.map (·.r)).Pairwise (fun a b=>BZ a b=true)->Inv X pins σ H' s'->(∀b o,H b=some o->b≠D->b≠kS->H' b=some o)->(∀z∈zs',H z.q=some (.tup ((zn z.r).map V.int)))->H' D=some (.lst (zs'.map fun z=>V.ref z.q))->P (.done (.ret .none)) s'):
  wpAny (model X.prog X.w) X.A.in1.in1 (ksk_rest D (.ref f) false (qs.map Ab).toArray e1 (.ref kS)) P E s:=by
 have ne:D≠kS:=BX hD hkS (by intro z;cases z)
 have hu:X.A.in1.in1.units+70 < cLine:=N0 hr
 have hql:=Bp hq
 unfold ksk_rest
 refine AI (RJ ?_)
 first
  | rw[List.forIn_toArray]
  | (rw[<- Array.forIn_toList];simp only[IZ])
 refine AI (ksk_fold (fun i s'=>∃(Hi:Hp) (zs:List Trip),Inv X pins σ Hi s'/\Hi kS=some (.lst (zs.map fun z=>V.ref z.t))/\zs.map (·.q)=qs.take i/\zs.map (·.r)=rows.take i/\(zs.map (·.t)).Nodup/\(∀b o,H b=some o->b≠kS->Hi b=some o)/\
   (∀z∈zs,Hi z.t=some (.tup [.int (z.r.length:Nat),.ref z.q])/\H z.q=some (.tup ((zn z.r).map V.int)))) (qs.map Ab) 0 s ⟨H,[],I,hkS,rfl,rfl,IY,fun b o e _=>e,fun z hz=>nomatch hz⟩ ?step ?done)
 case step =>
  rintro j x s' hx ⟨Hi,zs,Ii,hk,hzq,hzr,hnt,keep,hts⟩
  rw[ES] at hzq hzr ⊢
  rw[Ao] at hx
  cases hqj:qs[j]? with
  | none=>rw[hqj] at hx;cases hx
  | some q =>
  rw[hqj] at hx
  have ex:Ab q=x:=Af hx
  subst ex
  have hj:j < qs.length:=(CJ.mp hqj).1
  obtain⟨r,hrj⟩:∃r,rows[j]?=some r:=⟨_,Ba (by omega)⟩
  obtain⟨q',hq',hqr⟩:=Cf hq hrj
  rw[hqj] at hq'
  cases hq'
  have nqk:q≠kS:=BX hqr hkS (by intro z;cases z)
  have hqi:=keep _ _ hqr nqk
  refine AI (Mt (DO (fE (E:=fun _ _=>False) (Q:=fun v H'=>∃t,v=.ref t/\Hi t=none/\H'=upd Hi t (.tup [.int (r.length:Nat),.ref q])) F hr hb Ii (vs:=[.ref q]) (us:=[.ref q]) (.cons rfl .nil) ⟨q,(zn r).map V.int,rfl,.inr (SqT.of hqi),fun t nt=>⟨t,rfl,nt,by rw[AH,EN]⟩⟩) (fun v s'' he=>?_) fun _ _ z=>z.elim))
  obtain⟨v',H',I',rv,t,rfl,nt,rfl⟩:=he
  cases rv
  try dsimp only
  have ntk:t≠kS:=fun z=>by rw[z,hk] at nt;cases nt
  have hk':upd Hi t (.tup [.int (r.length:Nat),.ref q]) kS=some (.lst (zs.map fun z=>V.ref z.t)):=by rw[AF (Ar ntk)];exact hk
  obtain⟨zk,itk,nk,rk,lk,ek⟩:=I'.lstM hk'
  have zl:zs.length<=qs.length:=by
   have h1:=congrArg FE hzq
   rw[AH,DK] at h1
   omega
  have lz:itk.length=zs.length:=by rw[<- lk,AH]
  have zb:zs.length+1<=sizeLine:=BP (by omega)
  refine AI (Me ek rfl ?_ (by rw[Bc,lz];omega) (by rw[Array.size_push,Bc,lz];omega))
  have I2:=I'.lset (t':=s''.toks) (its':=itk++[.ref t]) (ys:=(zs++[Trip.mk t q r]).map fun (z:Trip)=>V.ref z.t) (f:=fun a=>a.push (.ref t)) hk' ek (by simp) (by rw[Bo];exact rk.append (.cons rfl .nil)) (by rw[AH,BC,Bz];exact zb)
  refine AZ ⟨rfl,_,zs++[⟨t,q,r⟩],I2,AG,by rw[Bo,hzq,EL hqj];rfl,by rw[Bo,hzr,EL hrj];rfl,?_,fun b o e n=>?_,fun z hz=>?_⟩
  .rw[Bo,List.nodup_append]
   refine⟨hnt,DN.mpr ⟨DZ,IY⟩,fun a ha b hb=>?_⟩
   obtain⟨z,hz,rfl⟩:=Bb.mp ha
   rw[BB.mp hb]
   exact Ac (hts z hz).1 nt
  .rw[AF n,AF (Ac (keep b o e n) nt)]
   exact keep b o e n
  .rcases DL.mp hz with m | m
   .obtain⟨w1,w2⟩:=hts z m
    refine⟨?_,w2⟩
    rw[AF (BX w1 hk (by intro z;cases z)),AF (Ac w1 nt)]
    exact w1
   .rw[BB.mp m]
    refine⟨?_,hqr⟩
    show upd (upd Hi t _) kS _ t=_
    rw[AF ntk,AG]
 case done =>
  rintro s' ⟨Hi,zs,Ii,hk,hzq,hzr,hnt,keep,hts⟩
  rw[ES,AH,FG (Aa _)] at hzq
  rw[ES,AH,FG (by omega)] at hzr
  obtain⟨zk,itk,nk,rk,lk,ek⟩:=Ii.lstM hk
  have zl:zs.length=qs.length:=by rw[<- hzq,AH]
  try dsimp only
  refine AI (listItems_at ek rfl ?_)
  have ei:(qs.map Ab).toArray=(zs.map fun z=>Ab z.q).toArray:=by rw[<- hzq,HJ];rfl
  have ek2:itk.toArray=(zs.map fun z=>Ab z.t).toArray:=by
   have:∀(l:List Trip) (us:List Value),Vals (l.map fun z=>V.ref z.t) us->us=l.map fun z=>Ab z.t:=fun l=>by
    induction l with
    | nil=>intro us h;cases h;rfl
    | cons z l ih =>
     intro us h
     rw[Aq] at h
     cases h with
     | cons a b =>
      cases a
      rw[ih _ b]
      rfl
   rw[this zs itk rk]
  rw[ei]
  refine gJ (Q:=fun _ _=>True) Ii hu (keep _ _ hD ne) hk hzr hnt hnr (fun z hz=>⟨(hts z hz).1,keep _ _ (hts z hz).2 (BX (hts z hz).2 hkS (by intro z;cases z))⟩) (by omega) _ ek2 fun zs' H' s2 p srt I2 kp hD2=>?_
  exact h zs' H' s2 (by rw[<- hzr];exact p.map _) srt I2 (fun b o e n1 n2=>kp b o (keep b o e n2) n1 n2) (fun z hz=>(hts z (p.mem_iff.mp hz)).2) hD2
theorem gM {k:Nat}{f:Addr}{fd:FuncData} (F:FnOk X.prog X.w X.K X.mg X.base CX0 k f fd ["row"] (Hz X.K)) (hr:Room (k+1) X.A) (hb:Binds X.K fd ["row"] []) (hh:X.A.handled=none) (I:Inv X pins σ H s) {d:Addr}{kvs:List (List Key×V)}{rows:List (List Nat)}{Q:VK}{E:Value->Shared->Prop}
  (hd:H d=some (.dT kvs)) (hk:kvs.map (·.1)=rows.map fun r=>Ap (zn r)) (hlen:kvs.length < 900000)
  (q:∀(H':Hp) (D:Addr) (rows':List (List Nat)) (qs:List Addr),Same H H'->H D=none->rows'.Perm rows->rows'.Pairwise (fun a b=>BZ a b=true)->Paired (fun q r=>H q=some (.tup ((zn r).map V.int))) qs rows'->H' D=some (.lst (qs.map V.ref))->Q (.ref D) H'):
  wpAny (model X.prog X.w) X.A (call (.builtin "sorted") [.ref d] [(EV "key",.ref f)]) (EP X pins σ Q) E s:=by
 obtain⟨hz,lo,xs,pr,od,es,ep,ho,hx,hdd,he,hnd⟩:=I.hok d _ hd
 have hes:es.size=xs.length:=by rw[<- G8,he,AH]
 have hxl:kvs.length=xs.length:=GZ pr
 have nd:rows.Nodup:=by
  have h1:xs.map (·.1)=kvs.map (·.1):=by
   clear hz hnd he hes hxl hk hlen hd q
   induction pr with
   | nil=>rfl
   | cons a b ih=>rw[Aq,Aq,ih,a.1]
  rw[h1,hk] at hnd
  exact(QP.mp hnd).imp fun h e=>h (by rw[e])
 have hrl:rows.length=kvs.length:=by
  have:=congrArg FE hk
  rw[AH,AH] at this
  exact this.symm
 have hq:Paired (fun q r=>H q=some (.tup ((zn r).map V.int))) (xs.map (·.2.1)) rows:=by
  clear hz hnd he hes hxl hlen hd nd hrl q
  induction pr generalizing rows with
  | nil=>cases rows with
   | nil=>exact .nil
   | cons _ _=>cases hk
  | cons a b ih =>
   cases rows with
   | nil=>cases hk
   | cons r rows =>
    rw[Aq,Aq] at hk
    obtain⟨e1,e2⟩:=Dl hk
    refine .cons ?_ (ih e2)
    have:=a.2.1
    rw[e1,FY] at this
    exact this
 refine call_function_entry_kw kind_sorted plain_sorted entry_sorted (ksk_s1 _ _) ?_
 unfold Builtin.«sorted»
 refine AI (m:=checkCount "sorted" 1 1 _) (AZ ?_)
 refine AI (PySem.W.kdu_collect (A:=X.A.in1) (bw lo hx hdd) hh ho (by rw[hes,<- hxl];exact hz) fun h1 tk acc hk1 hacc=>?_)
 have eacc:acc.toList=(xs.map (·.2.1)).map Ab:=by
  apply List.ext_getElem?
  intro j
  rw[Ao,Ao]
  by_cases hj:j < acc.size
  .have h2:acc.toList[j]?=some acc[j]:=by rw[Lz];exact Jq hj
   obtain⟨en,h3,h4⟩:=hacc.2 j acc[j] (Jq hj)
   rw[h2,h4]
   rw[<- Lz,he,Ao] at h3
   cases hxj:xs[j]? with
   | none=>rw[hxj] at h3;cases h3
   | some x=>rw[hxj] at h3;cases h3;rfl
  .have h2:acc.toList[j]?=none:=by rw[Lz];exact Pq (by omega)
   rw[h2,MN (by have:=hacc.1;omega)]
   rfl
 rw[eacc]
 generalize hqs:xs.map (·.2.1)=qs at hq eacc
 have hql:qs.length=kvs.length:=by rw[<- hqs,AH,hxl]
 have I1:Inv X pins σ H { s with heap:=h1,toks:=tk }:=I.kept hk1
 have big:(qs.map Ab).length<=sizeLine:=by rw[AH,hql];exact hz
 refine AI (wpAny_newList ?_ big)
 have hoL:(h1.push (seqObj "list" (qs.map Ab).toArray 0)).get? h1.objs.size=some (seqObj "list" (qs.map Ab).toArray 0):=CD _ rfl
 refine AI (KQ (wpAny_call_entry_kw slot_list_sort ⟨_,hoL,rfl⟩ entry_list_sort ?body (ksk_l1 _ _)))
 case body =>
  show wpAny (model X.prog X.w) X.A.in1.in1 (Builtin.«list.sort» ⟨[.ref h1.objs.size],[(EV "key",.ref f)]⟩) _ _ _
  rw[ksk_t1]
  generalize hD:h1.objs.size=D at hoL ⊢
  unfold ksk_tree
  refine AI (listItems_at hoL rfl ?_)
  obtain⟨e1,ho1⟩:∃e1,((h1.push (seqObj "list" (qs.map Ab).toArray 0)).update D (DC fun _=>(#[]:Array Value))).get? D=some (seqObj "list" #[] e1):=⟨_,Yc hoL fun _=>#[]⟩
  refine AI (Me hoL rfl ?_ (by rw[Bc];exact big) (Ax _))
  refine AI (seqEpoch_at ho1 rfl ?_)
  refine AI (wpAny_newTuple ?_ (by rw[IZ];exact big))
  refine AI (wpAny_newList ?_ (Ax _))
  refine KQ ?_
  have keepA:∀b u,h1.get? b=some u->((h1.push (seqObj "list" (qs.map Ab).toArray 0)).update D (DC fun _=>(#[]:Array Value))).get? b=some u:=fun b u e=>by
   have hlt:b < D:=by rw[<- hD];exact BJ e
   rw[Heap.get?_update_ne _ _ _ _ (B1 hlt)]
   exact Bi _ e
  have I2:Inv X pins σ (upd H D (KO D (seqObj "list" #[] e1))) { s with heap:=(h1.push (seqObj "list" (qs.map Ab).toArray 0)).update D (DC fun _=>(#[]:Array Value)),toks:=tk }:=I1.laid (a:=D) (o:=KO D (seqObj "list" #[] e1)) (t':=tk) keepA (by show h1.objs.size<=D;omega) (Hf ho1)
  have I3:Inv X pins σ (upd H D (KO D (seqObj "list" #[] e1))) { s with heap:=((h1.push (seqObj "list" (qs.map Ab).toArray 0)).update D (DC fun _=>(#[]:Array Value))).push (seqObj "tuple" (qs.map Ab).toArray 0),toks:=tk }:=I2.kept fun b u e=>Bi _ e
  have I4:=I3.lnew (its:=[]) (ys:=[]) (t':=tk) .nil (Ax _)
  generalize hkS:(((h1.push (seqObj "list" (qs.map Ab).toArray 0)).update D (DC fun _=>(#[]:Array Value))).push (seqObj "tuple" (qs.map Ab).toArray 0)).objs.size=kS at I4 ⊢
  have hDn:H D=none:=by rw[<- hD];exact I1.hok.fresh (Aa _)
  have hDk:D≠kS:=by
   rw[<- hkS,Mf,Y5,Mf,<- hD]
   omega
  have hkn:H kS=none:=by
   refine I1.hok.fresh ?_
   rw[<- hkS]
   show h1.objs.size<=_
   rw[Mf,Y5,Mf]
   omega
  have sm:∀b o,H b=some o->upd (upd H D (KO D (seqObj "list" #[] e1))) kS (.lst []) b=some o:=fun b o e=>by rw[AF (Ac e hkn),AF (Ac e hDn)];exact e
  refine gL (E:=E) F (hr.mono (Aa _)).in1x hb I4 (by rw[AF hDk];exact AG) AG (Paired.mapP hq fun a b e=>sm _ _ e) nd (by rw[hql];exact hlen) fun zs' H' s' p srt I' kp hzq hD'=>⟨_,rfl,?_⟩
  refine AZ ⟨_,rfl,?_⟩
  refine⟨.ref D,H',I',rfl,q H' D (zs'.map (·.r)) (zs'.map (·.q)) (fun b o e=>kp b o (sm b o e) (Ac e hDn) (Ac e hkn)) hDn p srt ?_ (by rw[HJ];exact hD')⟩
  have all:∀l:List Trip,(∀z∈l,z∈zs')->Paired (fun q r=>H q=some (.tup ((zn r).map V.int))) (l.map (·.q)) (l.map (·.r)):=fun l=>by
   induction l with
   | nil=>exact fun _=>.nil
   | cons z l ih =>
    intro hl
    refine .cons ?_ (ih fun z hz=>hl z (Av _ hz))
    have hm:=hl z AV
    have:=hzq z hm
    have hr':z.r∈rows:=p.mem_iff.mp (Bb.mpr ⟨z,hm,rfl⟩)
    by_cases e1:z.q=kS
    .rw[e1,AG] at this;cases this
    .rw[AF e1] at this
     by_cases e2:z.q=D
     .rw[e2,AG] at this;cases this
     .rw[AF e2] at this;exact this
  exact all zs' fun z hz=>hz
end
end Fb
namespace Fb
open PySem PySem.Spec PyProof.Rows L2
abbrev Ve:Stmt:=Ws
def XX:Sp:=fun vs H Q _=>∃(a:Addr) (ns:List Int),vs=[.ref a]/\H a=some (.lst (ns.map V.int))/\ns.length < 900000/\EY H Q ((ns.length:Int)::ns)
theorem ft:Ag ["told"] ["told"] (AL Ve):=⟨rfl,rfl,rfl,by decide +kernel,rfl,by decide +kernel,by decide +kernel⟩
section
variable {P:Program}{w:World}{K:AD}{mg:Str->Option Value}{base:Heap}
theorem ok_twc {f:Addr}{fd:FuncData} (F:Fun K "told_with_count" "told_with_count" Ve f fd) (B:Blt mg):FnOk P w K mg base CX0 1 f fd ["told"] XX:=by
 refine F.ok ft (fun vs H Q E h=>?_) (fun cdv A outer s H vs Q E hr h=>?_)
 .obtain⟨a,ns,rfl,_⟩:=h
  rfl
 .obtain⟨a,ns,rfl,hS,hl,k⟩:=h
  refine⟨_,AK (AM (C0 Eh (BD (AB (BV CQ (by rfl) B.len CM (AB (pv 0) AE)) AE)) (pv 0))),?_⟩
  refine⟨_,rfl,a,_,rfl,.inl (SqL.of hS),(show 1<=sizeLine from BP (by decide)),fun l2 nl2=>?_⟩
  have s2:=(Same.refl H).new (o:=.lst [.int (((ns.map V.int).length:Nat):Int)]) nl2
  refine⟨_,rfl,l2,a,_,_,rfl,rfl,AG,s2 _ _ hS,?_,fun l3 nl3=>?_⟩
  .rw[AH]
   exact BP (by show 1+ns.length < 1000000;omega)
  .refine k _ l3 (s2.new nl3) (s2.free nl3) ?_
   rw[AG,AH]
   rfl
end
end Fb
namespace L2
open PySem PySem.Spec PyProof.Rows
section
variable {X:Cx}
def eQ (K:AD):V->List V->Hp->VK->Prop:=fun x vs H Q=>∃l b xs zs,x=.ref l/\vs=[.ref b]/\H l=some (.lst xs)/\H b=some (.tup zs)/\xs.length+zs.length<=sizeLine/\Q .non (upd H l (.lst (xs++zs)))
end
end L2
namespace Fb
open PySem PySem.Spec PyProof.Rows L2
abbrev VP:Stmt:=WY
def XJ:Sp:=fun vs H Q _=>∃(x:Str) (a:Addr) (ns:List Int),vs=[.str x,.ref a]/\x.cps.size < 1000/\H a=some (.lst (ns.map V.int))/\ns.length < 100000/\EY H Q (BQ x++[32]++ns++[10])
theorem fe:Ag ["first","name"] ["first","name"] (AL VP):=⟨rfl,rfl,rfl,by decide +kernel,rfl,by decide +kernel,by decide +kernel⟩
section
variable {P:Program}{w:World}{K:AD}{mg:Str->Option Value}{base:Heap}
theorem ok_namL {f:Addr}{fd:FuncData} (F:Fun K "naming_line" "naming_line" VP f fd) (c1:Cst mg "BLANK" (.int 32)) (c2:Cst mg "LINE_END" (.int 10)) (g1:Has P w K mg "letters" 1 ["word"] Hy):FnOk P w K mg base CX0 2 f fd ["first","name"] XJ:=by
 refine F.ok fe (fun vs H Q E h=>?_) (fun cdv A outer s H vs Q E hr h=>?_)
 .obtain⟨x,a,ns,rfl,_⟩:=h
  rfl
 .obtain⟨x,a,ns,rfl,hx,ha,hl,k⟩:=h
  refine⟨_,AK (AM (C0 Eh (C0 Eh (C0 Eh (AO g1 hr (by rfl) (AB (pv 0) AE)) (BD (AB (AS c1 rfl) AE))) (pv 1)) (BD (AB (AS c2 rfl) AE)))),?_⟩
  have hcl:(BQ x).length < 1000:=by unfold BQ;rw[AH,G8];exact hx
  refine⟨_,rfl,x,rfl,hx,fun H1 l1 s1 n1 h1=>?_⟩
  refine⟨(show 1<=sizeLine from BP (by decide)),fun l2 n2=>?_⟩
  have s2:=s1.new (o:=.lst [.int 32]) n2
  refine⟨l1,l2,_,_,rfl,rfl,by rw[AF (Ac h1 n2)];exact h1,AG,BP (by rw[AH];simp;omega),fun l3 n3=>?_⟩
  have s3:=s2.new (o:=.lst ((BQ x).map V.int++[.int 32])) n3
  refine⟨_,rfl,l3,a,_,_,rfl,rfl,AG,s3 _ _ ha,BP (by simp;omega),fun l4 n4=>?_⟩
  have s4:=s3.new (o:=.lst ((BQ x).map V.int++[.int 32]++ns.map V.int)) n4
  refine⟨(show 1<=sizeLine from BP (by decide)),fun l5 n5=>?_⟩
  have s5:=s4.new (o:=.lst [.int 10]) n5
  refine⟨l4,l5,_,_,rfl,rfl,by rw[AF (Ac AG n5)];exact AG,AG,BP (by simp;omega),fun l6 n6=>?_⟩
  refine k _ l6 (s5.new n6) (s5.free n6) ?_
  rw[AG]
  simp
end
abbrev Vl:Stmt:=Wt
def Gs (L:AN) (r:List Nat):AX:=r.flatMap fun s=>L.signName s++[46]
theorem Ng (L:AN):∀(r:List Nat),r≠[]->Gs L r=L.rowText r++[46]
 | [s],_=>by simp[Gs,MD,GP]
 | s::t::r,_=>by
  have ih:=Ng L (t::r) (by simp)
  unfold Gs MD at *
  rw[J1,ih]
  show L.signName s++[46]++(GP ((t::r).map L.signName)++[46])=(L.signName s++46::GP ((t::r).map L.signName))++[46]
  simp
theorem Nf {L:AN}:∀{r:List Nat},(∀s∈r,(L.signName s).length<=8)->(Gs L r).length<=9 * r.length
 | [],_=>Ax _
 | s::r,h=>by
  have ih:=Nf (r:=r) fun t ht=>h t (Av _ ht)
  have:=h s AV
  have e:Gs L (s::r)=L.signName s++[46]++Gs L r:=by unfold Gs;rw[J1]
  rw[e]
  simp only[BC,Bn,Fv]
  omega
theorem SF (w:AX):∀l:List AX,GP (l++[w])=if l=[] then w else GP l++46::w
 | []=>rfl
 | [v]=>rfl
 | v::u::l=>by
  have ih:=SF w (u::l)
  rw[JJx (by simp)] at ih ⊢
  show v++46::GP ((u::l)++[w])=(v++46::GP (u::l))++46::w
  rw[ih]
  simp
theorem fC (L:AN) (r:List Nat) (s:Nat):L.rowText (r++[s])=if r=[] then L.signName s else L.rowText r++46::L.signName s:=by
 unfold MD
 rw[Bo,Aq,GW,SF]
 cases r with
 | nil=>rfl
 | cons x r=>rw[JJx (by simp),JJx (by simp)]
theorem fB {L:AN}{r:List Nat} (hr:r≠[]) (h:∀s∈r,L.signName s≠[]):L.rowText r≠[]:=by
 cases r with
 | nil=>exact absurd rfl hr
 | cons x r =>
  have:=h x AV
  unfold MD
  cases r with
  | nil=>exact this
  | cons y r =>
   show L.signName x++46::GP ((y::r).map L.signName)≠[]
   simp
theorem O1 {L:AN}{s:Nat}{kd:Ad}{n:AX} (h1:L.kinds[s]?=some kd) (h2:kd.role=.sign n):L.signName s=n:=by
 unfold YA
 rw[h1]
 show(match some kd.role with | some (.sign n)=>n | _=>[])=n
 rw[h2]
theorem Um {L:AN}{r:List Nat} (h8:r.length<=8) (h:∀s∈r,(L.signName s).length<=8):(L.rowText r).length<=72:=by
 by_cases hr:r=[]
 .subst hr;exact Ax _
 .have h4:=Nf (L:=L) h
  rw[Ng L r hr,BC] at h4
  omega
def Xb (K:AD) (CL CK:Addr):Sp:=fun vs H Q _=>∃(a b:Addr) (p:LA) (L:AN) (fl:List Int) (r:List Nat),vs=[.ref a,.ref b]/\LockAt CL CK H a p (zs L.name) (L.kinds.map zk) fl/\H b=some (.lst ((zn r).map V.int))/\Gn L r/\EY H Q (zs (L.rowText r))
theorem scWord:Ag ["locker","row","word","sign"] ["locker","row"] (AL Vl):=⟨rfl,rfl,rfl,by decide +kernel,rfl,by decide +kernel,by decide +kernel⟩
section
variable {P:Program}{w:World}{K:AD}{mg:Str->Option Value}{base:Heap}{CL CK CB CE:Addr}
theorem bA (l b:Addr) (U W:Array Value) (n m:Nat) (dc:Option Addr) (sl:Array (Option Value)) (z0:¬(!U.isEmpty&&KI (U.size+W.size))=true) (z1:U.size<=sizeLine) (z2:U.size+W.size<=sizeLine+1):Meets (Builtin.«list.extend» ⟨[.ref l,.ref b],[]⟩)
  (fun _ R s=>s.heap.get? l=some { cls:=.type "list",dict:=none,data:=.seq U n,slots:=#[] }/\s.heap.get? b=some { cls:=.type "tuple",dict:=dc,data:=.seq W m,slots:=sl }/\R (.ok (.ret Ca)) { s with heap:=s.heap.update l (DC fun x=>x++W),toks:=s.toks }) :=
 .of_wp fun prog w A R s q=>by
  obtain⟨h0,g0,d0,t0,o0⟩:=s
  obtain⟨q1,q2,q3⟩:=q
  have i1:=Qh
  have i2:=Yh
  have i3:=AutoSeq1.sub_tuple_list
  have i4:=AutoSeq1.sub_list_tuple
  have z3:(U++W).size<=sizeLine+1:=by rw[X4];exact z2
  wp_walk using(Zc q1 rfl (hz:=z1) (_hz':=z3)),Yi q1,Yi q2
  exact⟨_,rfl,q3⟩
theorem cy {X:Cx}:MtM X "list.extend" (eQ X.K):=by
 intro pins s σ H x vs v us Q I rx rv h
 obtain⟨l,b,xs,zs,rfl,rfl,hH,hB,hz,q⟩:=h
 cases rx
 obtain⟨u,rfl,ru⟩:=rv.one
 cases ru
 obtain⟨z,its,n,r,hl,e⟩:=I.lstM hH
 obtain⟨its2,r2,⟨⟨cl,dc,da,sl⟩,e2,c2,n2,d2⟩,_⟩:=I.tuple (SqT.of hB)
 simp only at c2 d2
 subst c2 d2
 have hl2:=r2.length
 have hsz:its.toArray.size+its2.toArray.size<=sizeLine:=by rw[Bc,Bc];omega
 have hlong:¬(!its.toArray.isEmpty&&KI (its.toArray.size+its2.toArray.size))=true:=by
  rw[LI hsz,IG]
  exact A8
 refine KN Qn ⟨_,e,rfl⟩ PySem.F.entry_list_extend (PySem.F.args_list_extend_2 _ _) (bA l b its.toArray its2.toArray n n2 dc sl hlong (by rw[Bc];omega) (by omega)) ⟨e,e2,?_⟩
 refine⟨.non,_,I.lset (its':=its++its2) hH e (by simp) (r.append r2) ?_,rfl,q⟩
 rw[BC]
 exact hz
theorem ok_word {f:Addr}{fd:FuncData} (F:Fun K "word_of_row" "word_of_row" Vl f fd) (TL:LockC K CL) (TK:KindC K CK) (c1:Cst mg "FULL_STOP" (.int 46)):FnOk P w K mg base CX0 1 f fd ["locker","row"] (Xb K CL CK):=by
 refine F.ok scWord (fun vs H Q E h=>?_) (fun cdv A outer s H vs Q E hr h=>?_)
 .obtain⟨a,b,p,L,fl,r,rfl,_⟩:=h
  rfl
 .obtain⟨a,b,p,L,fl,r,rfl,hL,hb,⟨hne,h8,hsg⟩,k⟩:=h
  have hname:∀s∈r,(L.signName s).length<=8/\L.signName s≠[]:=fun s hs=>by
   obtain⟨kd,n,h1,h2,h3⟩:=hsg s hs
   rw[O1 h1 h2]
   exact h3
  refine⟨_,AJ (BN (i:=2) scWord.nd rfl (Ai rfl) (BD AE))
   (AJ (E6 FJ rfl (DS (pv 1)) (CT (i:=3) scWord.nd rfl (Ai rfl))
    (AJ (As (Aj (Ey hr.units) (pv 2) (BD AE) (AY _)) (AK (El (EE EU GX GY GH (pv 2) (AB (AS c1 rfl) AE)))) Aw)
     (AK (El (EE EU Qn Y3 cy (pv 2) (AB (AW (CH CF (AW (pv 0) rfl) (pv 3) (fun _ _=>rfl)) rfl) AE))))))
   (AK (AM (pv 2)))),?_⟩
  refine⟨Ax _,fun l nl=>?_⟩
  have s1:Same H (upd H l (.lst [])):=(Same.refl H).new nl
  refine⟨_,rfl,b,rfl,⟨_,SqL.of (s1 _ _ hb)⟩,Ha (K:=K) (a:=b) (xs:=(zn r).map V.int)
   (fun i σ H'=>∃(v:Option V),σ=[some (.ref a),some (.ref b),some (.ref l),v]/\Same H H'/\H' l=some (.lst ((zs (L.rowText (r.take i))).map V.int)))
   ⟨none,rfl,s1,AG⟩ (fun i σ H' _ ⟨_,_,s2,_⟩=>SqL.of (s2 _ _ hb)) ?_ ?_⟩
  .rintro i y σ H' hi ⟨v,rfl,s2,hl⟩
   obtain⟨z,hz,rfl⟩:=FV hi
   unfold zn at hz
   rw[Ao] at hz
   cases hri:r[i]? with
   | none=>rw[hri] at hz;cases hz
   | some sn =>
   rw[hri] at hz
   have ez:((sn:Nat):Int)=z:=Af hz
   subst ez
   obtain⟨kd,n,h1,h2,h3,h4⟩:=hsg sn (Cw hri)
   have esn:=O1 h1 h2
   have hdl:=Um (L:=L) (r:=r.take i) (by rw[DK];omega) fun s hs=>(hname s (QL hs)).1
   have erow:=fC L (r.take i) sn
   rw[<- EL hri,esn] at erow
   refine⟨_,rfl,Ax _,fun l2 n2=>?_⟩
   have s3:Same H' (upd H' l2 (.lst [])):=(Same.refl _).new n2
   have hl2:upd H' l2 (.lst []) l2=some (.lst (([]:List Int).map V.int)):=AG
   generalize upd H' l2 (.lst [])=H3 at s3 hl2
   have s03:=s2.trans s3
   have hl3:=s3 _ _ hl
   refine⟨_,_,Ay (SqL.of hl3),Ay (SqL.of hl2),Au _,Au _,?_⟩
   rw[Bx]
   have L3:=hL.mono s03
   obtain⟨dxl,hob⟩:=L3.ob
   obtain⟨as,hak,hpk⟩:=L3.ks
   obtain⟨ka,hka,dxk,lv,hko,hlab⟩:=Cf hpk (i:=sn) (b:=zk kd) (by rw[Ao,h1];rfl)
   have elb:(zk kd).lab=.sign (zs n):=by show zl kd.role=_;rw[h2];rfl
   rw[elb] at hlab
   obtain⟨t,rfl,ht⟩:=hlab
   have nlt:l≠t:=BX hl3 ht (by intro z;cases z)
   refine⟨_,rfl,?_⟩
   by_cases h0:r.take i=[]
   .rw[JJz h0] at erow
    rw[h0] at hl3 ⊢
    refine bF rfl ?_
    refine⟨_,rfl,.inl ⟨rfl,_,SqL.of hl3⟩,_,rfl,a,CL,dxl,_,_,rfl,hob,TL.cl,TL.kinds,GF,_,rfl,p.ak,_,_,_,rfl,rfl,SqL.of hak,CP (j:=sn) (v:=V.ref ka) (by rw[Ao,hka];rfl),ka,CK,dxk,_,_,rfl,hko,TK.cl,TK.label,rfl,l,t,_,_,rfl,rfl,hl3,ht,?_,?_⟩
    .simp only[AH,Al]
     exact BP (by have e0:(L.rowText []).length=0:=rfl;omega)
    .refine⟨_,rfl,s03.wr nl,?_⟩
     rw[AG,erow]
     rfl
   .rw[JJx h0] at erow
    have hnz:¬zs (L.rowText (r.take i))=[]:=fun z=>fB h0 (fun s hs=>(hname s (QL hs)).2) (zs_nil.mp z)
    refine bT (by rw[JJj hnz];rfl) ?_
    refine⟨_,rfl,.inl ⟨rfl,_,SqL.of hl3⟩,l,_,_,rfl,rfl,hl3,?_,?_⟩
    .rw[AH,Al]
     exact CG (by omega)
    .have s4:=s03.wr (o:=.lst ((zs (L.rowText (r.take i))).map V.int++[.int 46])) nl
     have W:∀{x o},H3 x=some o->x≠l->upd H3 l (.lst ((zs (L.rowText (r.take i))).map V.int++[.int 46])) x=some o:=fun e n=>by rw[AF n];exact e
     refine⟨_,rfl,.inl ⟨rfl,_,SqL.of AG⟩,_,rfl,a,CL,dxl,_,_,rfl,W hob (BX hob hl3 (by intro z;cases z)),TL.cl,TL.kinds,GF,_,rfl,p.ak,_,_,_,rfl,rfl,SqL.of (W hak (fun z=>?_)),CP (j:=sn) (v:=V.ref ka) (by rw[Ao,hka];rfl),ka,CK,dxk,_,_,rfl,W hko (BX hko hl3 (by intro z;cases z)),TK.cl,TK.label,rfl,l,t,_,_,rfl,rfl,AG,W ht (Ar nlt),?_,?_⟩
     .obtain⟨as0,hak0,_⟩:=hL.ks
      rw[z,nl] at hak0
      cases hak0
     .rw[BC,AH,AH,Al,Al]
      exact BP (by show _+1+_ < _;omega)
     .refine⟨_,rfl,s4.wr nl,?_⟩
      rw[AG,erow]
      unfold zs
      simp
  .rintro σ H' ⟨v,rfl,s2,hl⟩
   rw[AH,EN,FG (Aa _)] at hl
   exact⟨_,rfl,k H' l s2 nl hl⟩
end
abbrev VA:Stmt:=V7
def W4 (K:AD) (CL CK CE:Addr):Sp:=fun vs H Q _=>∃(a ea:Addr) (p:LA) (L:AN) (fl:List Int) (e:BH),vs=[.ref a,.ref ea]/\LockAt CL CK H a p (zs L.name) (L.kinds.map zk) fl/\EntAt CE H ea e/\Gn L e.row/\e.says.length<=64/\EY H Q (zs (e.text L++[10]))
theorem fR:Ag ["locker","entry"] ["locker","entry"] (AL VA):=⟨rfl,rfl,rfl,by decide +kernel,rfl,by decide +kernel,by decide +kernel⟩
section
variable {P:Program}{w:World}{K:AD}{mg:Str->Option Value}{base:Heap}{CL CK CB CE:Addr}
theorem ok_entL {f:Addr}{fd:FuncData} (F:Fun K "entry_line" "entry_line" VA f fd) (TE:EntC K CE) (c2:Cst mg "BLANK" (.int 32)) (c3:Cst mg "LINE_END" (.int 10)) (g1:Has P w K mg "word_of_row" 1 ["locker","row"] (Xb K CL CK)):FnOk P w K mg base CX0 2 f fd ["locker","entry"] (W4 K CL CK CE):=by
 refine F.ok fR (fun vs H Q E h=>?_) (fun cdv A outer s H vs Q E hr h=>?_)
 .obtain⟨a,ea,p,L,fl,e,rfl,_⟩:=h
  rfl
 .obtain⟨a,ea,p,L,fl,e,rfl,hL,⟨dxe,ar,am,ho,har,ham⟩,hR,hsl,k⟩:=h
  have hdl:(L.rowText e.row).length<=72:=Um hR.2.1 fun s hs=>by
   obtain⟨kd,n,h1,h2,h3⟩:=hR.2.2 s hs
   rw[O1 h1 h2]
   exact h3.1
  refine⟨_,AK (AM (C0 Eh (C0 Eh (C0 Eh (AO g1 hr (by rfl) (AB (pv 0) (AB (AW (pv 1) rfl) AE))) (BD (AB (AS c2 rfl) AE))) (AW (pv 1) rfl)) (BD (AB (AS c3 rfl) AE)))),?_⟩
  refine⟨_,rfl,_,rfl,ea,CE,dxe,_,_,rfl,ho,TE.cl,TE.row,Nh,a,ar,p,L,fl,e.row,rfl,hL,har,hR,fun H1 l1 s1 n1 h1=>?_⟩
  refine⟨(show 1<=sizeLine from BP (by decide)),fun l2 n2=>?_⟩
  have s2:=s1.new (o:=.lst [.int 32]) n2
  refine⟨l1,l2,_,_,rfl,rfl,by rw[AF (Ac h1 n2)];exact h1,AG,BP (by rw[AH,Al];show _+1 < _;omega),fun l3 n3=>?_⟩
  have s3:=s2.new (o:=.lst ((zs (L.rowText e.row)).map V.int++[.int 32])) n3
  refine⟨_,rfl,ea,CE,dxe,_,_,rfl,s3 _ _ ho,TE.cl,TE.meaning,SN,l3,am,_,_,rfl,rfl,AG,s3 _ _ ham,?_,fun l4 n4=>?_⟩
  .simp only[BC,AH,Al,Bz]
   exact BP (by omega)
  .have s4:=s3.new (o:=.lst ((zs (L.rowText e.row)).map V.int++[.int 32]++(zs e.says).map V.int)) n4
   refine⟨(show 1<=sizeLine from BP (by decide)),fun l5 n5=>?_⟩
   have s5:=s4.new (o:=.lst [.int 10]) n5
   refine⟨l4,l5,_,_,rfl,rfl,by rw[AF (Ac AG n5)];exact AG,AG,?_,fun l6 n6=>?_⟩
   .simp only[BC,AH,Al,Bz]
    exact BP (by omega)
   .refine k _ l6 (s5.new n6) (s5.free n6) ?_
    rw[AG]
    unfold X7 zs
    simp
end
end Fb
namespace Fb
open PySem PySem.Spec PyProof.Rows L2
abbrev Vj:Stmt:=Wr
def EB (L:AN) (es:List BH):AX:=es.flatMap fun (e:BH)=>e.text L++[10]
def Ec (L:AN) (nm:AX):AX:=P4 [BM "book",nm]++10::(P4 [BM "for",L.name]++[10])
theorem Xj (L:AN) (nm:AX) (es:List BH):Px L ⟨nm,es⟩=Ec L nm++EB L es:=by
 unfold Px Ec EB
 simp
theorem Ny (L:AN) (nm:AX):zs (Ec L nm)=(BQ "book"++[32]++zs nm++[10])++(BQ "for"++[32]++zs L.name++[10]):=by
 rw[SJ,SK]
 unfold Ec zs
 simp[P4]
def RQ (L:AN) (es:List BH):Prop:=∀e∈es,Gn L e.row/\e.says.length<=64
theorem SR {L:AN}{e:BH} (h:Gn L e.row/\e.says.length<=64):(e.text L++[10]).length<=137:=by
 obtain⟨⟨hne,h8,hsg⟩,hs⟩:=h
 have hn:∀s∈e.row,(L.signName s).length<=8:=fun s hs=>by
  obtain⟨kd,n,h1,h2,h3,_⟩:=hsg s hs
  unfold YA
  rw[h1]
  show(match some kd.role with | some (.sign n)=>n | _=>[]).length<=8
  rw[h2]
  exact h3
 have h4:=Nf (L:=L) hn
 rw[Ng L e.row hne,BC,Bz] at h4
 unfold X7
 simp only[BC,Bn,Fv]
 omega
theorem Nn {L:AN}:∀{es:List BH},RQ L es->(EB L es).length<=137 * es.length
 | [],_=>Ax _
 | e::es,h=>by
  have ih:=Nn (es:=es) fun x hx=>h x (Av _ hx)
  have:=SR (h e AV)
  unfold EB at *
  rw[J1,BC,Bn]
  omega
def XZ (K:AD) (CL CK CB CE:Addr):Sp:=fun vs H Q _=>∃(a b:Addr) (p:LA) (q:BA) (L:AN) (fl bfl:List Int) (nm:AX) (es:List BH),vs=[.ref a,.ref b]/\LockAt CL CK H a p (zs L.name) (L.kinds.map zk) fl/\BookAt CB CE H b q (zs nm) es bfl/\RQ L es/\es.length < 5000/\nm.length < 90000/\L.name.length < 90000/\
 EY H Q (zs (Px L ⟨nm,es⟩))
theorem scTextB:Ag ["locker","book","text","entry"] ["locker","book"] (AL Vj):=⟨rfl,rfl,rfl,by decide +kernel,rfl,by decide +kernel,by decide +kernel⟩
section
variable {P:Program}{w:World}{K:AD}{mg:Str->Option Value}{base:Heap}{CL CK CB CE:Addr}
theorem ok_textB {f:Addr}{fd:FuncData} (F:Fun K "text_of_book" "text_of_book" Vj f fd) (TL:LockC K CL) (TB:BookC K CB) (g1:Has P w K mg "naming_line" 2 ["first","name"] XJ) (g2:Has P w K mg "entry_line" 2 ["locker","entry"] (W4 K CL CK CE)):FnOk P w K mg base CX0 3 f fd ["locker","book"] (XZ K CL CK CB CE):=by
 refine F.ok scTextB (fun vs H Q E h=>?_) (fun cdv A outer s H vs Q E hr h=>?_)
 .obtain⟨a,b,p,q,L,fl,bfl,nm,es,rfl,_⟩:=h
  rfl
 .obtain⟨a,b,p,q,L,fl,bfl,nm,es,rfl,hL,hB,hok,hel,hnm,hln,k⟩:=h
  have hr1:Room 1 _:=hr.mono (by decide)
  refine⟨_,AJ (BN (i:=2) scTextB.nd rfl (Ai rfl) (C0 Eh (AO g1 hr (by rfl) (AB Dh (AB (AW (pv 1) rfl) AE))) (AO g1 hr (by rfl) (AB Dh (AB (AW (pv 0) rfl) AE)))))
   (AJ (E6 FJ rfl (DS (AW (pv 1) rfl)) (CT (i:=3) scTextB.nd rfl (Ai rfl))
    (AK (El (EE EU Qn Y3 cx (pv 2) (AB (AO g2 hr (by rfl) (AB (pv 0) (AB (pv 3) AE))) AE)))))
   (AK (AM (pv 2)))),?_⟩
  obtain⟨dxb,hob⟩:=hB.ob
  obtain⟨dxl,hol⟩:=hL.ob
  obtain⟨as,hbe,hpe⟩:=hB.ents
  have hael:=Bp hpe
  refine⟨_,rfl,b,CB,dxb,_,_,rfl,hob,TB.cl,TB.name,NS,"book",q.bn,zs nm,rfl,by decide,hB.nm',by rw[Al];omega,fun H1 l1 s1 n1 h1=>?_⟩
  refine⟨_,rfl,a,CL,dxl,_,_,rfl,s1 _ _ hol,TL.cl,TL.name,Tn,"for",p.an,zs L.name,rfl,by decide,s1 _ _ hL.nm,by rw[Al];omega,fun H2 l2 s2 n2 h2=>?_⟩
  have s12:=s1.trans s2
  have e4:(BQ "book").length=4:=by decide
  have e3:(BQ "for").length=3:=by decide
  refine⟨l1,l2,_,_,rfl,rfl,s2 _ _ h1,h2,?_,fun l n3=>?_⟩
  .simp only[BC,AH,Al,Bz,e4,e3]
   exact BP (by omega)
  have hh:(BQ "book"++[32]++zs nm++[10]).map V.int++(BQ "for"++[32]++zs L.name++[10]).map V.int=(zs (Ec L nm)).map V.int:=by rw[<- Bo,Ny]
  rw[hh]
  have hhl:(Ec L nm).length < 190000:=by
   have:=congrArg FE (Ny L nm)
   simp only[BC,Al,Bz,e4,e3] at this
   omega
  have nl:H l=none:=s12.free n3
  have s3:=s12.new (o:=.lst ((zs (Ec L nm)).map V.int)) n3
  refine⟨_,rfl,b,CB,dxb,_,_,rfl,s3 _ _ hob,TB.cl,TB.entries,Gq,q.be,rfl,⟨_,SqL.of (s3 _ _ hbe)⟩,Ha (K:=K) (a:=q.be) (xs:=as.map V.ref)
   (fun i σ H'=>∃(v:Option V),σ=[some (.ref a),some (.ref b),some (.ref l),v]/\Same H H'/\H' l=some (.lst ((zs (Ec L nm++EB L (es.take i))).map V.int)))
   ⟨none,rfl,s3,by rw[AG];unfold EB;simp⟩ (fun i σ H' _ ⟨_,_,s2,_⟩=>SqL.of (s2 _ _ hbe)) ?_ ?_⟩
  .rintro i y σ H' hi ⟨v,rfl,s4,hl⟩
   rw[Ao] at hi
   cases hai:as[i]? with
   | none=>rw[hai] at hi;cases hi
   | some ea =>
   rw[hai] at hi
   have ey:V.ref ea=y:=Af hi
   subst ey
   have hlt:i < es.length:=by rw[<- hael];exact(CJ.mp hai).1
   have hei:es[i]?=some es[i]:=Ba hlt
   obtain⟨ea',he1,he2⟩:=Cf hpe hei
   rw[hai] at he1
   cases he1
   have hoi:=hok es[i] (HG hlt)
   refine⟨_,rfl,.inl ⟨rfl,_,SqL.of hl⟩,_,rfl,_,rfl,a,ea,p,L,fl,es[i],rfl,hL.mono s4,he2.mono s4,hoi.1,hoi.2,fun H5 l5 s5 n5 h5=>?_⟩
   have hlen:(EB L (es.take i)).length<=137 * 5000:=by
    have h6:=Nn (L:=L) (es:=es.take i) fun x hx=>hok x (QL hx)
    have h7:(es.take i).length<=es.length:=by rw[DK];omega
    have:137 * (es.take i).length<=137 * 5000:=YX _ (by omega)
    omega
   have hlo:=SR hoi
   refine⟨l,l5,_,_,rfl,rfl,s5 _ _ hl,h5,?_,?_⟩
   .rw[AH,AH,Al,Al,BC]
    exact BP (by omega)
   .refine⟨_,rfl,(s4.trans s5).wr nl,?_⟩
    have e6:EB L (es.take (i+1))=EB L (es.take i)++(es[i].text L++[10]):=by
     rw[EL hei]
     unfold EB
     rw[List.flatMap_append,J1,YJ,DI]
    have e5:zs (Ec L nm++EB L (es.take (i+1)))=zs (Ec L nm++EB L (es.take i))++zs (es[i].text L++[10]):=by
     rw[e6,<- List.append_assoc]
     unfold zs
     rw[Bo]
    rw[AG,e5,Bo]
  .rintro σ H' ⟨v,rfl,s4,hl⟩
   rw[AH,hael,FG (Aa _)] at hl
   refine⟨_,rfl,?_⟩
   rw[Xj] at k
   exact k H' l s4 nl hl
end
end Fb
namespace Fb
open PySem PySem.Spec PyProof.Rows L2
theorem Ua (tbl:List TB) (r:List Nat) (s:AX):(Ct tbl r s).length<=tbl.length+1:=by
 unfold Ct
 split
 .rw[AH];omega
 .rw[BC,Bz];omega
theorem cM {r r':List Nat} (h:Ap (zn r)=Ap (zn r')):r=r':=X2 (K4 h)
def RT (H:Hp) (p:List Key×V) (q:TB):Prop:=p.1=Ap (zn q.1)/\∃m,p.2=.ref m/\H m=some (.lst ((zs q.2).map V.int))
def DM (H:Hp) (d:Addr) (tbl:List TB):Prop:=∃kvs,H d=some (.dT kvs)/\Paired (RT H) kvs tbl
theorem RT.mono {H H':Hp}{p:List Key×V}{q:TB} (s:∀b ns,H b=some (.lst ns)->H' b=some (.lst ns)) (h:RT H p q):RT H' p q:=by
 obtain⟨h1,m,h2,h3⟩:=h
 exact⟨h1,m,h2,s _ _ h3⟩
theorem DM.mono {H H':Hp}{d:Addr}{tbl:List TB} (s:Same H H') (h:DM H d tbl):DM H' d tbl:=by
 obtain⟨kvs,h1,h2⟩:=h
 exact⟨kvs,s _ _ h1,Paired.mapP h2 fun p q z=>z.mono fun b ns e=>s b _ e⟩
theorem Og {H:Hp}{p:List Key×V}{q:TB} (h:RT H p q) (r:List Nat):decide (p.1=Ap (zn r))=decide (q.1=r):=CY ⟨fun e=>cM (h.1.symm.trans e),fun e=>by rw[h.1,e]⟩
theorem Uo {H:Hp} (r:List Nat):∀{kvs:List (List Key×V)}{tbl:List TB},Paired (RT H) kvs tbl->(kvs.any fun kv=>decide (kv.1=Ap (zn r)))=tbl.any fun x=>decide (x.1=r)
 | _,_,.nil=>rfl
 | _,_,.cons h t=>by rw[DH,DH,Og h r,Uo r t]
theorem Oh {H:Hp} (r:List Nat):∀{kvs:List (List Key×V)}{tbl:List TB},Paired (RT H) kvs tbl->(BO kvs (Ap (zn r))=none/\BU tbl r=none)\/∃m s,BO kvs (Ap (zn r))=some (.ref m)/\BU tbl r=some s/\H m=some (.lst ((zs s).map V.int))
 | _,_,.nil=>.inl ⟨rfl,rfl⟩
 | p::kvs,q::tbl,.cons h t=>by
  have hk:=Og h r
  by_cases e:q.1=r
  .rw[JJk e] at hk
   obtain⟨h1,m,h2,h3⟩:=h
   refine .inr ⟨m,q.2,?_,?_,h3⟩
   .rw[DG (JJq hk),h2]
   .unfold BU
    rw[DJ,JJk e]
    rfl
  .rw[JJj e] at hk
   have e2:BU (q::tbl) r=BU tbl r:=by
    unfold BU
    rw[DJ,JJj e]
   rw[DF (of_decide_eq_false hk),e2]
   exact Oh r t
theorem Uq {H:Hp} (r:List Nat) {m:Addr}{s:AX} (hm:H m=some (.lst ((zs s).map V.int))):∀{kvs:List (List Key×V)}{tbl:List TB},Paired (RT H) kvs tbl->
  Paired (RT H) (kvs.map fun kv=>if kv.1=Ap (zn r) then (kv.1,V.ref m) else kv) (tbl.map fun x=>if x.1=r then (x.1,s) else x)
 | _,_,.nil=>.nil
 | p::kvs,q::tbl,.cons h t=>by
  have hk:=Og h r
  rw[Aq,Aq]
  refine .cons ?_ (Uq r hm t)
  by_cases e:q.1=r
  .rw[JJk e] at hk
   rw[JJz e,JJz (JJq hk)]
   exact⟨h.1,m,rfl,hm⟩
  .rw[JJj e] at hk
   rw[JJx e,JJx (of_decide_eq_false hk)]
   exact h
theorem fD {H:Hp} (r:List Nat) {m:Addr}{s:AX} (hm:H m=some (.lst ((zs s).map V.int))) {kvs:List (List Key×V)}{tbl:List TB} (h:Paired (RT H) kvs tbl):Paired (RT H) (Cg kvs (Ap (zn r)) (.ref m)) (Ct tbl r s):=by
 unfold Cg Ct
 rw[Uo r h]
 split
 .exact Uq r hm h
 .exact Fc h ⟨rfl,m,rfl,hm⟩
theorem DM.put {H H':Hp}{d tp m:Addr}{tbl:List TB}{r:List Nat}{s:AX}{kvs:List (List Key×V)} (h1:H d=some (.dT kvs)) (h2:Paired (RT H) kvs tbl) (hm:H m=some (.lst ((zs s).map V.int))) (e:H'=upd H d (.dT (Cg kvs (Ap (zn r)) (.ref m)))):DM H' d (Ct tbl r s):=by
 subst e
 refine⟨_,AG,Paired.mapP (fD r hm h2) fun p q z=>z.mono fun b ns q=>?_⟩
 rw[AF (BX q h1 (by intro z;cases z))]
 exact q
abbrev VM:Stmt:=WV
def PF (K:AD) (CB CE:Addr):Sp:=fun vs H Q _=>∃(b:Addr) (q:BA) (nm bfl:List Int) (es:List BH),vs=[.ref b]/\BookAt CB CE H b q nm es bfl/\es.length < 5000/\∀(H':Hp) (d:Addr),Same H H'->H d=none->DM H' d (CI es)->Q (.ref d) H'
theorem scMBR:Ag ["book","meanings","entry"] ["book"] (AL VM):=⟨rfl,rfl,rfl,by decide +kernel,rfl,by decide +kernel,by decide +kernel⟩
theorem iF {es:List BH}{i:Nat}{e:BH} (h:es[i]?=some e):CI (es.take (i+1))=Ct (CI (es.take i)) e.row e.says:=by
 unfold CI
 rw[EL h,YK]
 rfl
theorem Lx:∀(es:List BH) (t:List TB),(es.foldl (fun t (e:BH)=>Ct t e.row e.says) t).length<=t.length+es.length
 | [],t=>Aa _
 | e::es,t=>by
  have h1:=Lx es (Ct t e.row e.says)
  have h2:=Ua t e.row e.says
  rw[YL,Bn]
  omega
section
variable {P:Program}{w:World}{K:AD}{mg:Str->Option Value}{base:Heap}{CL CK CB CE CC CA:Addr}
theorem ok_mbr {f:Addr}{fd:FuncData} (F:Fun K "meanings_by_row" "meanings_by_row" VM f fd) (B:Blt mg) (TB:BookC K CB) (TE:EntC K CE):FnOk P w K mg base CX0 1 f fd ["book"] (PF K CB CE):=by
 refine F.ok scMBR (fun vs H Q E h=>?_) (fun cdv A outer s H vs Q E hr h=>?_)
 .obtain⟨b,q,nm,bfl,es,rfl,_⟩:=h
  rfl
 .obtain⟨b,q,nm,bfl,es,rfl,hB,hel,k⟩:=h
  have hu:=Ew hr
  refine⟨_,AJ (BN (i:=1) scMBR.nd rfl (Ai rfl) UM)
   (AJ (E6 FJ rfl (DS (AW (pv 0) rfl)) (CT (i:=2) scMBR.nd rfl (Ai rfl))
    (AK (Ja hu (pv 1) (Hq (Kf K rfl) (by rfl) B.tuple Ke (AB (AW (pv 2) rfl) AE)) (AW (pv 2) rfl) rfl)))
   (AK (AM (pv 1)))),?_⟩
  intro d nd
  have s1:Same H (upd H d (.dT [])):=(Same.refl H).new nd
  obtain⟨dxb,hob⟩:=hB.ob
  obtain⟨as,hbe,hpe⟩:=hB.ents
  have hael:=Bp hpe
  refine⟨_,rfl,b,CB,dxb,_,_,rfl,s1 _ _ hob,TB.cl,TB.entries,Gq,q.be,rfl,⟨_,SqL.of (s1 _ _ hbe)⟩,Ha (K:=K) (a:=q.be) (xs:=as.map V.ref)
   (fun i σ H'=>∃(v:Option V),σ=[some (.ref b),some (.ref d),v]/\Same H H'/\DM H' d (CI (es.take i)))
   ⟨none,rfl,s1,⟨[],AG,.nil⟩⟩ (fun i σ H' _ ⟨_,_,s2,_⟩=>SqL.of (s2 _ _ hbe)) ?_ ?_⟩
  .rintro i y σ H' hi ⟨v,rfl,s2,kvs,hd,hp⟩
   rw[Ao] at hi
   cases hai:as[i]? with
   | none=>rw[hai] at hi;cases hi
   | some ea =>
   rw[hai] at hi
   have ey:V.ref ea=y:=Af hi
   subst ey
   have hlt:i < es.length:=by rw[<- hael];exact(CJ.mp hai).1
   have hei:es[i]?=some es[i]:=Ba hlt
   obtain⟨ea',he1,dxe,ar,am,ho,har,ham⟩:=Cf hpe hei
   rw[hai] at he1
   cases he1
   refine⟨_,rfl,ea,CE,dxe,_,_,rfl,s2 _ _ ho,TE.cl,TE.meaning,SN,_,rfl,_,rfl,ea,CE,dxe,_,_,rfl,s2 _ _ ho,TE.cl,TE.row,Nh,ar,_,rfl,SqL.of (s2 _ _ har),fun tp ntp=>?_⟩
   have s3:Same H' (upd H' tp (.tup ((zn es[i].row).map V.int))):=(Same.refl H').new ntp
   have ht:upd H' tp (.tup ((zn es[i].row).map V.int)) tp=some (.tup ((Ap (zn es[i].row)).map kV)):=by rw[FY];exact AG
   have hd3:=s3 _ _ hd
   have hkl:kvs.length < sizeLine:=by
    rw[Bp hp]
    have h5:=Lx (es.take i) []
    have h6:(es.take i).length<=es.length:=by rw[DK];omega
    exact CG (by unfold CI;simp only[Fv] at h5;omega)
   refine⟨d,_,rfl,DPut.t hd3 ht hkl,_,rfl,?_,?_⟩
   .exact(s2.trans s3).wr nd
   .rw[iF hei]
    exact DM.put (tp:=tp) hd3 (Paired.mapP hp fun p q z=>z.mono fun b ns e=>s3 b _ e) (s3 _ _ (s2 _ _ ham)) rfl
  .rintro σ H' ⟨v,rfl,s2,hdm⟩
   rw[AH,hael,FG (Aa _)] at hdm
   exact⟨_,rfl,k H' d s2 nd hdm⟩
end
def cfC (m:Int) (ar am:Addr):List (Str×V):=[("mark",.int m),("row",.ref ar),("meaning",.ref am)]
def ChV (CC:Addr) (H:Hp) (c:Addr) (m:Int) (rv:List V) (s:AX):Prop:=∃(dx ar am:Addr),H c=some (.ins CC dx (cfC m ar am))/\H ar=some (.lst rv)/\H am=some (.lst ((zs s).map V.int))
theorem ChV.mono {CC:Addr}{H H':Hp}{c:Addr}{m:Int}{rv:List V}{s:AX} (k:Same H H') (h:ChV CC H c m rv s):ChV CC H' c m rv s:=by
 obtain⟨dx,ar,am,h1,h2,h3⟩:=h
 exact⟨dx,ar,am,k _ _ h1,k _ _ h2,k _ _ h3⟩
def NB (CC:Addr) (H:Hp) (c:Addr) (x:BG):Prop:=ChV CC H c (zc x).1 ((zn (zc x).2.1).map V.int) (zc x).2.2
structure AA where
 an:Addr
 am:Addr
 ac:Addr
 af:Addr
def afA (q:AA):List (Str×V):=[("name",.ref q.an),("meanings",.ref q.am),("changes",.ref q.ac),("fault",.ref q.af)]
theorem Zl {q:AA}:(afA q).lookup ("name":Str)=some (.ref q.an):=rfl
theorem Zk {q:AA}:(afA q).lookup ("meanings":Str)=some (.ref q.am):=rfl
theorem HU {q:AA}:(afA q).lookup ("changes":Str)=some (.ref q.ac):=rfl
theorem Zj {q:AA}:(afA q).lookup ("fault":Str)=some (.ref q.af):=rfl
structure AmAt (CA CC:Addr) (H:Hp) (a:Addr) (q:AA) (name:List Int) (tbl:List TB) (acts:List BG) (fault:List Int):Prop where
 ob:∃dx,H a=some (.ins CA dx (afA q))
 nm:hid [q.ac] H q.an=some (.lst (name.map V.int))
 ms:DM (hid [q.ac] H) q.am tbl
 cs:∃as:List Addr,H q.ac=some (.lst (as.map V.ref))/\Paired (NB CC (hid [q.ac] H)) as acts
 af:hid [q.ac] H q.af=some (.lst (fault.map V.int))
theorem AmAt.mono {CA CC:Addr}{H H':Hp}{a:Addr}{q:AA}{name:List Int}{tbl:List TB}{acts:List BG}{fault:List Int} (s:Same H H') (h:AmAt CA CC H a q name tbl acts fault):AmAt CA CC H' a q name tbl acts fault:=by
 obtain⟨⟨dx,h1⟩,h2,h3,⟨as,h4,h5⟩,h6⟩:=h
 exact⟨⟨dx,s _ _ h1⟩,FT s _ _ h2,h3.mono (FT s),⟨as,s _ _ h4,Paired.mapP h5 fun c x z=>ChV.mono (FT s) z⟩,FT s _ _ h6⟩
theorem DM.monoN {H H':Hp}{d:Addr}{tbl:List TB} (s:Es H H') (h:DM H d tbl):DM H' d tbl:=by
 obtain⟨kvs,h1,h2⟩:=h
 exact⟨kvs,s _ _ h1 (fun _ z=>nomatch z),Paired.mapP h2 fun p q z=>z.mono fun b ns e=>s b _ e (fun _ z=>nomatch z)⟩
theorem DM.monoT {H H':Hp}{d:Addr}{tbl:List TB} (s:SameT H H') (h:DM H d tbl):DM H' d tbl:=by
 obtain⟨kvs,h1,h2⟩:=h
 exact⟨kvs,s _ _ h1 (fun _ z=>nomatch z),Paired.mapP h2 fun p q z=>z.mono fun b ns e=>s b _ e (fun _ z=>nomatch z)⟩
theorem ChV.monoN {CC:Addr}{H H':Hp}{c:Addr}{m:Int}{rv:List V}{t:AX} (s:Es H H') (h:ChV CC H c m rv t):ChV CC H' c m rv t:=by
 obtain⟨dx,ar,am,h1,h2,h3⟩:=h
 exact⟨dx,ar,am,s _ _ h1 (fun _ z=>nomatch z),s _ _ h2 (fun _ z=>nomatch z),s _ _ h3 (fun _ z=>nomatch z)⟩
theorem ChV.monoT {CC:Addr}{H H':Hp}{c:Addr}{m:Int}{rv:List V}{t:AX} (s:SameT H H') (h:ChV CC H c m rv t):ChV CC H' c m rv t:=by
 obtain⟨dx,ar,am,h1,h2,h3⟩:=h
 exact⟨dx,ar,am,s _ _ h1 (fun _ z=>nomatch z),s _ _ h2 (fun _ z=>nomatch z),s _ _ h3 (fun _ z=>nomatch z)⟩
theorem AmAt.monoN {CA CC:Addr}{H H':Hp}{a:Addr}{q:AA}{name:List Int}{tbl:List TB}{acts:List BG}{fault:List Int} (s:Es H H') (h:AmAt CA CC H a q name tbl acts fault):AmAt CA CC H' a q name tbl acts fault:=by
 obtain⟨⟨dx,h1⟩,h2,h3,⟨as,h4,h5⟩,h6⟩:=h
 exact⟨⟨dx,s _ _ h1 (fun _ z=>nomatch z)⟩,Gu s _ _ h2 (fun _ z=>nomatch z),h3.monoN (Gu s),⟨as,s _ _ h4 (fun _ z=>nomatch z),Paired.mapP h5 fun c x z=>ChV.monoN (Gu s) z⟩,Gu s _ _ h6 (fun _ z=>nomatch z)⟩
theorem AmAt.monoT {CA CC:Addr}{H H':Hp}{a:Addr}{q:AA}{name:List Int}{tbl:List TB}{acts:List BG}{fault:List Int} (s:SameT H H') (h:AmAt CA CC H a q name tbl acts fault):AmAt CA CC H' a q name tbl acts fault:=by
 obtain⟨⟨dx,h1⟩,h2,h3,⟨as,h4,h5⟩,h6⟩:=h
 exact⟨⟨dx,s _ _ h1 (fun _ z=>nomatch z)⟩,FU s _ _ h2 (fun _ z=>nomatch z),h3.monoT (FU s),⟨as,s _ _ h4 (fun _ z=>nomatch z),Paired.mapP h5 fun c x z=>ChV.monoT (FU s) z⟩,FU s _ _ h6 (fun _ z=>nomatch z)⟩
structure ChC (K:AD) (CC:Addr):Prop where
 cl:Cls K CC
 mark:NoAttr K CC "mark"
 row:NoAttr K CC "row"
 meaning:NoAttr K CC "meaning"
structure AmC (K:AD) (CA:Addr):Prop where
 cl:Cls K CA
 name:NoAttr K CA "name"
 meanings:NoAttr K CA "meanings"
 changes:NoAttr K CA "changes"
 fault:NoAttr K CA "fault"
abbrev U6:Stmt:=De Vr 0
def chF:List V->Option (List (Str×V))
 | [.int m,.ref r,.ref t]=>some (cfC m r t)
 | _=>none
theorem fO:Ag ["self","mark","row","meaning"] ["self","mark","row","meaning"] (AL U6):=⟨rfl,rfl,rfl,by decide +kernel,rfl,by decide +kernel,by decide +kernel⟩
abbrev Uz:Stmt:=De Vp 0
def Wy (CA:Addr):Sp:=fun vs H Q _=>∃(a dx n m:Addr),vs=[.ref a,.ref n,.ref m]/\H a=some (.ins CA dx [])/\
 ∀(H':Hp) (c f:Addr),H' a=some (.ins CA dx (afA ⟨n,m,c,f⟩))->H' c=some (.lst [])->H' f=some (.lst [])->f≠c->(∀b o,H b=some o->b≠a->H' b=some o)->(∀x∈[c,f],H x=none)->Q .non H'
theorem fJ:Ag ["self","name","meanings"] ["self","name","meanings"] (AL Uz):=⟨rfl,rfl,rfl,by decide +kernel,rfl,by decide +kernel,by decide +kernel⟩
section
variable {P:Program}{w:World}{K:AD}{mg:Str->Option Value}{base:Heap}{CL CK CB CE CC CA:Addr}
theorem ok_chI {f:Addr}{fd:FuncData} (F:Fun K "__init__" "Change.__init__" U6 f fd) (T:ChC K CC):FnOk P w K mg base CX0 1 f fd ["self","mark","row","meaning"] (EK CC chF):=by
 have inv:∀us l,chF us=some l->∃m r t,us=[.int m,.ref r,.ref t]/\l=cfC m r t:=by
  intro us l h
  unfold chF at h
  split at h
  .cases h;exact⟨_,_,_,rfl,rfl⟩
  .cases h
 refine F.ok fO (fun vs H Q E h=>?_) (fun cdv A outer s H vs Q E hr h=>?_)
 .obtain⟨p,dx,us,l,rfl,hf,_⟩:=h
  obtain⟨_,_,_,rfl,_⟩:=inv _ _ hf
  rfl
 .obtain⟨p,dx,us,l,rfl,hf,hp,k⟩:=h
  obtain⟨m,r,t,rfl,rfl⟩:=inv _ _ hf
  refine⟨_,AJ (BY (pv 0) (pv 1) rfl) (AJ (BY (pv 0) (pv 2) rfl) (AK (BY (pv 0) (pv 3) rfl))),?_⟩
  refine⟨_,rfl,_,rfl,p,CC,dx,[],rfl,hp,T.cl,T.mark,(by show 0 < 1000;decide),?_⟩
  refine⟨_,rfl,_,rfl,p,CC,dx,_,rfl,AG,T.cl,T.row,(by show 1 < 1000;decide),?_⟩
  refine⟨_,rfl,_,rfl,p,CC,dx,_,rfl,AG,T.cl,T.meaning,(by show 2 < 1000;decide),?_⟩
  rw[FC,FC]
  exact k _ AG fun b o e hb=>by rw[AF hb];exact e
theorem ok_amI {f:Addr}{fd:FuncData} (F:Fun K "__init__" "Amendment.__init__" Uz f fd) (T:AmC K CA):FnOk P w K mg base CX0 1 f fd ["self","name","meanings"] (Wy CA):=by
 refine F.ok fJ (fun vs H Q E h=>?_) (fun cdv A outer s H vs Q E hr h=>?_)
 .obtain⟨a,dx,n,m,rfl,_⟩:=h
  rfl
 .obtain⟨a,dx,n,m,rfl,ha,k⟩:=h
  refine⟨_,AJ (BY (pv 0) (pv 1) rfl) (AJ (BY (pv 0) (pv 2) rfl) (AJ (BY (pv 0) (BD AE) rfl) (AK (BY (pv 0) (BD AE) rfl)))),?_⟩
  refine⟨_,rfl,_,rfl,a,CA,dx,[],rfl,ha,T.cl,T.name,(by show 0 < 1000;decide),?_⟩
  refine⟨_,rfl,_,rfl,a,CA,dx,_,rfl,AG,T.cl,T.meanings,(by show 1 < 1000;decide),?_⟩
  rw[FC]
  have k1:∀b o,H b=some o->b≠a->upd H a (.ins CA dx (BE "meanings" (V.ref m) (BE "name" (V.ref n) []))) b=some o:=fun b o e hb=>by rw[AF hb];exact e
  have a1:upd H a (.ins CA dx (BE "meanings" (V.ref m) (BE "name" (V.ref n) []))) a=some (.ins CA dx (BE "meanings" (V.ref m) (BE "name" (V.ref n) []))):=AG
  generalize upd H a (.ins CA dx (BE "meanings" (V.ref m) (BE "name" (V.ref n) [])))=H1 at k1 a1 ⊢
  refine⟨Ax _,fun c nc=>?_⟩
  have nac:a≠c:=Ac a1 nc
  refine⟨_,rfl,a,CA,dx,_,rfl,by rw[AF nac];exact a1,T.cl,T.changes,(by show 2 < 1000;decide),?_⟩
  refine⟨Ax _,fun g ng=>?_⟩
  have nag:a≠g:=Ac AG ng
  have ncg:c≠g:=Ac (o:=.lst []) (by rw[AF (Ar nac)];exact AG) ng
  refine⟨_,rfl,a,CA,dx,_,rfl,by rw[AF nag];exact AG,T.cl,T.fault,(by show 3 < 1000;decide),?_⟩
  have none_of:∀{x:Addr},H1 x=none->x≠a->H x=none:=fun {x} h ne=>by
   cases z:H x with
   | none=>rfl
   | some u=>rw[k1 x u z ne] at h;cases h
  refine k _ c g AG (by rw[AF (Ar nac),AF ncg,AF (Ar nac)];exact AG) (by rw[AF (Ar nag)];exact AG) (Ar ncg) (fun b o e n=>?_) (fun x hx=>?_)
  .have e1:=k1 b o e n
   have n1:b≠c:=Ac e1 nc
   rw[AF n,AF (Ac (o:=o) (by rw[AF n,AF n1];exact e1) ng),AF n,AF n1]
   exact e1
  .simp only[AQ,DZ,or_false] at hx
   rcases hx with rfl | rfl
   .exact none_of nc (Ar nac)
   .refine none_of ?_ (Ar nag)
    rw[AF (Ar nag),AF (Ar ncg)] at ng
    exact ng
end
end Fb
namespace Fb
open PySem PySem.Spec PyProof.Rows L2
abbrev VE:Stmt:=WB
def W7 (K:AD):Sp:=fun vs H Q _=>∃(a:Addr) (b:AX),vs=[.ref a]/\SqL K H a ((zs b).map V.int)/\b.length < 100000/\Pur H Q (.bl (Dr b))
theorem fS:Ag ["line"] ["line"] (AL VE):=⟨rfl,rfl,rfl,by decide +kernel,rfl,by decide +kernel,by decide +kernel⟩
theorem aH:∀(xs:List V),Ce xs (some 1) (some 2)=(xs.drop 1).take 1
 | []=>rfl
 | [x]=>rfl
 | x::y::r=>by
  unfold Ce
  have e1:HT.sIx (x::y::r).length 0 (some 1)=1:=by
   show(if (1:Int) < 0 then ((1:Int)+((x::y::r).length:Nat)).toNat else min (1:Int).toNat (x::y::r).length)=1
   rw[JJx (by decide)]
   simp
  have e2:HT.sIx (x::y::r).length (x::y::r).length (some 2)=2:=by
   show(if (2:Int) < 0 then ((2:Int)+((x::y::r).length:Nat)).toNat else min (2:Int).toNat (x::y::r).length)=2
   rw[JJx (by decide)]
   simp
  rw[e1,e2]
theorem NQ {c:UInt8} (k:UInt8):(V.int ((c.toNat:Nat):Int)=V.int ((k.toNat:Nat):Int))↔c=k:=by
 constructor
 .intro h
  exact M8.mp (by have:=Jn h;omega)
 .intro h
  rw[h]
section
variable {P:Program}{w:World}{K:AD}{mg:Str->Option Value}{base:Heap}{CL CK CB CE CC CA:Addr}
theorem ok_isCh {f:Addr}{fd:FuncData} (F:Fun K "is_change_line" "is_change_line" VE f fd) (c1:Cst mg "BLANK" (.int 32)) (c2:Cst mg "DROPPED" (.int 45)) (c3:Cst mg "NEW" (.int 43)) (c4:Cst mg "SAYS_ELSE" (.int 61)) (g1:Has P w K mg "is_row_word" 3 ["word"] (O8 K)) (g2:Has P w K mg "is_entry_line" 4 ["line"] (O7 K)):
  FnOk P w K mg base CX0 5 f fd ["line"] (W7 K):=by
 refine F.ok fS (fun vs H Q E h=>?_) (fun cdv A outer s H vs Q E hr h=>?_)
 .obtain⟨a,b,rfl,_⟩:=h
  rfl
 .obtain⟨a,b,rfl,hS,hlen,k⟩:=h
  have hr3:Room 3 _:=hr.mono (by decide)
  refine⟨_,AJ (As (Aj (Ey hr.units) (E5 FA (pv 0) (Ek AU) (Ek AU)) (BD (AB (AS c1 rfl) AE)) (AY _)) (AK (AM OU)) Aw)
   (AJ (As (Aj Bt (CH CF (pv 0) AU (fun _ _=>rfl)) (AS c2 rfl) (AY _)) (AK (AM (AO g1 hr3 (by rfl) (AB (E5 FA (pv 0) (Ek AU) Fe) AE)))) Aw)
   (AK (AM (E3 (Dg LL (CH CF (pv 0) AU (fun _ _=>rfl)) (UO (AB (AS c3 rfl) (AB (AS c4 rfl) AE))) (by rfl)) (E4 (AO g2 hr (by rfl) (AB (E5 FA (pv 0) (Ek AU) Fe) AE))))))),?_⟩
  refine⟨_,rfl,_,rfl,_,rfl,a,_,rfl,hS,fun q nq=>⟨(show 1<=sizeLine from BP (by decide)),fun l nl=>?_⟩⟩
  rw[aH,<- QK,<- List.map_take] at nl ⊢
  have s1:Same H (upd H q (.lst ((((zs b).drop 1).take 1).map V.int))):=(Same.refl H).new nq
  have h1:upd H q (.lst ((((zs b).drop 1).take 1).map V.int)) q=some (.lst ((((zs b).drop 1).take 1).map V.int)):=AG
  generalize upd H q (.lst ((((zs b).drop 1).take 1).map V.int))=H1 at s1 h1 nl ⊢
  have s2:Same H1 (upd H1 l (.lst [.int 32])):=(Same.refl H1).new nl
  have h2:upd H1 l (.lst [.int 32]) l=some (.lst (([32]:List Int).map V.int)):=AG
  generalize upd H1 l (.lst [.int 32])=H2 at s2 h2 ⊢
  have s12:=s1.trans s2
  refine⟨_,_,Ay (SqL.of (s2 _ _ h1)),Ay (SqL.of h2),Au _,Au _,?_⟩
  rw[Bx]
  refine⟨_,rfl,?_⟩
  match b,hS,hlen,k with
  | [],hS,hlen,k=>exact bT rfl (k H2 s12)
  | [c],hS,hlen,k=>exact bT rfl (k H2 s12)
  | c::d::r,hS,hlen,k =>
  have e2:Dr (c::d::r)=if d=32 then (if c=45 then DV r else if c=43\/c=61 then Cn r else false) else false:=rfl
  have e3:(((zs (c::d::r)).drop 1).take 1)=[((d.toNat:Nat):Int)]:=rfl
  rw[e3]
  by_cases hd:d=32
  .subst hd
   rw[JJz rfl] at e2
   rw[e2] at k
   refine bF rfl ?_
   have hS2:=s12.seq hS
   have h0:((zs (c::32::r)).map V.int)[0]?=some (V.int ((c.toNat:Nat):Int)):=rfl
   have hdrop:Ce ((zs (c::32::r)).map V.int) (some 2) none=(zs r).map V.int:=by
    have:=Nc 2 ((zs (c::32::r)).map V.int)
    exact this
   refine⟨_,rfl,a,_,_,_,rfl,rfl,hS2,CP (j:=0) h0,rfl,_,rfl,?_⟩
   by_cases hc:c=45
   .rw[JJz hc] at k
    refine bT (JJk ((NQ 45).mpr hc)) ?_
    refine⟨_,rfl,_,rfl,a,_,rfl,hS2,fun q2 nq2=>?_⟩
    rw[hdrop]
    refine⟨q2,r,rfl,SqL.of AG,by simp at hlen;omega,fun H4 s4=>k H4 ((s12.new nq2).trans s4)⟩
   .rw[JJx hc] at k
    refine bF (JJj fun z=>hc ((NQ 45).mp z)) ?_
    refine⟨_,rfl,a,_,_,_,rfl,rfl,hS2,CP (j:=0) h0,(show 2<=sizeLine from BP (by decide)),fun t nt=>?_⟩
    have s3:Same H2 (upd H2 t (.tup [.int 43,.int 61])):=(Same.refl H2).new nt
    refine⟨t,_,rfl,.inr (SqT.of AG),rfl,rfl,_,rfl,?_⟩
    have ein:(if false=true then !inV (V.int ((c.toNat:Nat):Int)) [V.int 43,V.int 61] else inV (V.int ((c.toNat:Nat):Int)) [V.int 43,V.int 61])=decide (c=43\/c=61):=by
     rw[JJx A8]
     show(eqV (V.int 43) (V.int ((c.toNat:Nat):Int)) || (eqV (V.int 61) (V.int ((c.toNat:Nat):Int)) || false))=_
     have ea:∀k:UInt8,eqV (V.int ((k.toNat:Nat):Int)) (V.int ((c.toNat:Nat):Int))=decide (c=k):=fun k=>by
      show decide (((k.toNat:Nat):Int)=((c.toNat:Nat):Int))=_
      exact CY ⟨fun z=>M8.mp (by omega),fun z=>by rw[z]⟩
     have e43:=ea 43
     have e61:=ea 61
     have e43:eqV (V.int 43) (V.int ((c.toNat:Nat):Int))=decide (c=43):=e43
     have e61:eqV (V.int 61) (V.int ((c.toNat:Nat):Int))=decide (c=61):=e61
     rw[e43,e61,L4]
     by_cases z1:c=43 <;> by_cases z2:c=61 <;> simp[z1,z2]
    rw[ein]
    by_cases hm:c=43\/c=61
    .rw[JJz hm] at k
     refine bT (JJk hm) ?_
     refine⟨_,rfl,_,rfl,a,_,rfl,s3.seq hS2,fun q2 nq2=>?_⟩
     rw[hdrop]
     refine⟨q2,r,rfl,SqL.of AG,by simp at hlen;omega,fun H4 s4=>k H4 (((s12.trans s3).new nq2).trans s4)⟩
    .rw[JJx hm] at k
     exact bF (JJj hm) (k _ (s12.trans s3))
  .rw[JJx hd] at e2
   rw[e2] at k
   refine bT ?_ (k H2 s12)
   have:decide ([((d.toNat:Nat):Int)]=[32])=false:=JJj fun z=>hd (by
    injection z with z1 _
    exact M8.mp (by show d.toNat=32;omega))
   rw[this]
   rfl
end
abbrev U7:Stmt:=V4
def W2 (K:AD) (CL CK CC:Addr):Sp:=fun vs H Q _=>∃(a la:Addr) (p:LA) (L:AN) (fl:List Int) (c d:UInt8) (r:AX),vs=[.ref a,.ref la]/\LockAt CL CK H a p (zs L.name) (L.kinds.map zk) fl/\SqL K H la ((zs (c::d::r)).map V.int)/\r.length < 90000/\
 ∀(H':Hp) (x:Addr),Same H H'->H x=none->(∃(dx ar am:Addr),H' x=some (.ins CC dx (cfC (c.toNat:Nat) ar am))/\H' ar=some (.lst (Hx L (Az r)))/\H' am=some (.lst ((zs (BK r)).map V.int))/\H ar=none/\H am=none)->Q (.ref x) H'
theorem scChT:Ag ["locker","line","told"] ["locker","line"] (AL U7):=⟨rfl,rfl,rfl,by decide +kernel,rfl,by decide +kernel,by decide +kernel⟩
section
variable {P:Program}{w:World}{K:AD}{mg:Str->Option Value}{base:Heap}{CL CK CB CE CC CA:Addr}
theorem ok_chT {f:Addr}{fd:FuncData} (F:Fun K "change_told" "change_told" U7 f fd) (g1:Has P w K mg "row_word" 2 ["line"] (Jh K)) (g2:Has P w K mg "signs_told" 2 ["locker","word"] (PJ K CL CK)) (g3:Has P w K mg "meaning_told" 3 ["line"] (Lm K)) (g4:D7 P w K mg "Change" CC 1 ["self","mark","row","meaning"] (EK CC chF)):
  FnOk P w K mg base CX0 4 f fd ["locker","line"] (W2 K CL CK CC):=by
 refine F.ok scChT (fun vs H Q E h=>?_) (fun cdv A outer s H vs Q E hr h=>?_)
 .obtain⟨a,la,p,L,fl,c,d,r,rfl,_⟩:=h
  rfl
 .obtain⟨a,la,p,L,fl,c,d,r,rfl,hL,hS,hlen,k⟩:=h
  have hr2:Room 2 _:=hr.mono (by decide)
  refine⟨_,AJ (BN (i:=2) scChT.nd rfl (Ai rfl) (E5 FA (pv 1) (Ek AU) Fe))
   (AK (AM (Fd g4 hr2 (by rfl) (AB (CH CF (pv 1) AU (fun _ _=>rfl)) (AB (AO g2 hr2 (by rfl) (AB (pv 0) (AB (AO g1 hr2 (by rfl) (AB (pv 2) AE)) AE))) (AB (AO g3 hr (by rfl) (AB (pv 2) AE)) AE)))))),?_⟩
  have h0:((zs (c::d::r)).map V.int)[0]?=some (V.int ((c.toNat:Nat):Int)):=rfl
  have hdrop:Ce ((zs (c::d::r)).map V.int) (some 2) none=(zs r).map V.int:=by
   have:=Nc 2 ((zs (c::d::r)).map V.int)
   exact this
  have zl:(zs r).length < 100000:=by rw[Al];omega
  refine⟨_,rfl,_,rfl,la,_,rfl,hS,fun q nq=>?_⟩
  rw[hdrop]
  have s1:Same H (upd H q (.lst ((zs r).map V.int))):=(Same.refl H).new nq
  have h1:upd H q (.lst ((zs r).map V.int)) q=some (.lst ((zs r).map V.int)):=AG
  generalize upd H q (.lst ((zs r).map V.int))=H1 at s1 h1 ⊢
  refine⟨_,rfl,la,_,_,_,rfl,rfl,s1.seq hS,CP (j:=0) h0,_,rfl,_,rfl,q,zs r,rfl,SqL.of h1,zl,fun H2 pw s2 npw hpw=>?_⟩
  rw[JJ] at hpw
  have:=Nw r
  refine⟨a,pw,p,L,fl,Az r,rfl,hL.mono (s1.trans s2),SqL.of hpw,by omega,fun H3 ar s3 nar har=>?_⟩
  refine⟨_,rfl,q,zs r,rfl,SqL.of (s3 _ _ (s2 _ _ h1)),zl,fun H4 am s4 nam ham=>?_⟩
  rw[OE] at ham
  intro x dx nx nd0 ne0
  have s13:=s1.trans (s2.trans s3)
  have s14:=s13.trans s4
  refine⟨x,dx,[.int ((c.toNat:Nat):Int),.ref ar,.ref am],cfC (c.toNat:Nat) ar am,rfl,rfl,AG,fun H5 hx kp5=>?_⟩
  have s5:Same H4 H5:=Same.made nx nd0 kp5
  exact⟨rfl,k H5 x (s14.trans s5) (s14.free nx) ⟨dx,ar,am,hx,s5 _ _ (s4 _ _ har),s5 _ _ ham,(s1.trans s2).free nar,s13.free nam⟩⟩
end
end Fb
namespace Fb
open PySem PySem.Spec PyProof.Rows L2
abbrev U4:Stmt:=V0
def O6 (K:AD) (CC:Addr):Sp:=fun vs H Q _=>∃(d c:Addr) (tbl:List TB) (m:Int) (r:List Nat) (t:AX),vs=[.ref d,.ref c]/\DM H d tbl/\ChV CC H c m ((zn r).map V.int) t/\Pur H Q (.bl (F6 (BU tbl r) m t))
theorem scCan:Ag ["meanings","change","row"] ["meanings","change"] (AL U4):=⟨rfl,rfl,rfl,by decide +kernel,rfl,by decide +kernel,by decide +kernel⟩
section
variable {P:Program}{w:World}{K:AD}{mg:Str->Option Value}{base:Heap}{CL CK CB CE CC CA:Addr}
theorem ok_can {f:Addr}{fd:FuncData} (F:Fun K "can_be_done" "can_be_done" U4 f fd) (B:Blt mg) (TC:ChC K CC) (c1:Cst mg "NEW" (.int 43)):FnOk P w K mg base CX0 1 f fd ["meanings","change"] (O6 K CC):=by
 refine F.ok scCan (fun vs H Q E h=>?_) (fun cdv A outer s H vs Q E hr h=>?_)
 .obtain⟨d,c,tbl,m,r,t,rfl,_⟩:=h
  rfl
 .obtain⟨d,c,tbl,m,r,t,rfl,⟨kvs,hd,hp⟩,⟨dx,ar,am,hc,har,ham⟩,k⟩:=h
  have hu:=Ew hr
  refine⟨_,AJ (BN (i:=2) scCan.nd rfl (Ai rfl) (Hq (Kf K rfl) (by rfl) B.tuple Ke (AB (AW (pv 1) rfl) AE)))
   (AJ (As (Aj Bt (AW (pv 1) rfl) (AS c1 rfl) (AY _)) (AK (AM (OW (di hu (pv 2) (pv 0)) (by rfl)))) Aw)
   (AK (AM (E3 (OW (UI hu (pv 2) (pv 0)) (by rfl)) (E4 (Dg (Ey hr.units) (LO hu (pv 0) (pv 2) (fun _ _=>rfl)) (AW (pv 1) rfl) (AY _))))))),?_⟩
  refine⟨_,rfl,c,CC,dx,_,_,rfl,hc,TC.cl,TC.row,rfl,ar,_,rfl,SqL.of har,fun tp ntp=>?_⟩
  have s1:Same H (upd H tp (.tup ((zn r).map V.int))):=(Same.refl H).new ntp
  have ht:upd H tp (.tup ((zn r).map V.int)) tp=some (.tup ((Ap (zn r)).map kV)):=by rw[FY];exact AG
  generalize upd H tp (.tup ((zn r).map V.int))=H1 at s1 ht ⊢
  have hd1:=s1 _ _ hd
  have kk:=k H1 s1
  unfold F6 at kk
  refine⟨_,rfl,c,CC,dx,_,_,rfl,s1 _ _ hc,TC.cl,TC.mark,rfl,rfl,_,rfl,?_⟩
  have hv:=Oh r hp
  by_cases hm:m=43
  .rw[JJz hm] at kk
   refine bT (JJk (by rw[hm])) ?_
   refine⟨_,rfl,_,rfl,d,_,rfl,DGet.t (k:=Ap (zn r)) hd1 ht,?_⟩
   rcases hv with ⟨v1,v2⟩ | ⟨mm,ss,v1,v2,_⟩
   .rw[v1];rw[v2] at kk;exact kk
   .rw[v1];rw[v2] at kk;exact kk
  .rw[JJx hm] at kk
   refine bF (JJj (Br hm)) ?_
   refine⟨_,rfl,_,rfl,d,_,rfl,DGet.t (k:=Ap (zn r)) hd1 ht,_,rfl,?_⟩
   rcases hv with ⟨v1,v2⟩ | ⟨mm,ss,v1,v2,v3⟩
   .rw[v1]
    rw[v2] at kk
    exact bF rfl kk
   .rw[v1]
    rw[v2] at kk
    refine bT rfl ?_
    refine⟨_,rfl,_,rfl,d,_,rfl,(by have:=DGet.t (k:=Ap (zn r)) hd1 ht;rw[v1] at this;exact this),?_⟩
    refine⟨_,rfl,c,CC,dx,_,_,rfl,s1 _ _ hc,TC.cl,TC.meaning,rfl,?_⟩
    refine⟨_,_,Ay (SqL.of (s1 _ _ v3)),Ay (SqL.of (s1 _ _ ham)),Au _,Au _,?_⟩
    rw[Bx]
    have e:decide (zs ss=zs t)=decide (some ss=some t):=CY ⟨fun z=>by rw[EO z],fun z=>by rw[Af z]⟩
    rw[e]
    exact kk
end
abbrev U5:Stmt:=V3
def W0 (K:AD) (CL CK CA CC:Addr):Sp:=fun vs H Q _=>∃(a m c:Addr) (p:LA) (q:AA) (L:AN) (fl nm afl:List Int) (tbl:List TB) (acts:List BG) (mk:UInt8) (names:List AX) (t:AX),vs=[.ref a,.ref m,.ref c]/\LockAt CL CK H a p (zs L.name) (L.kinds.map zk) fl/\Wf L.kinds/\AmAt CA CC H m q nm tbl acts afl/\
 ChV CC H c (mk.toNat:Nat) (names.map (C2 L)) t/\names.length<=8/\names≠[]/\Pur H Q (.int (EA L (BU tbl) acts mk names t:Nat))
theorem fN:Ag ["locker","amendment","change"] ["locker","amendment","change"] (AL U5):=⟨rfl,rfl,rfl,by decide +kernel,rfl,by decide +kernel,by decide +kernel⟩
theorem gF (L:AN) (ns:List AX):(ns.map (C2 L)).all Cy=true:=by
 rw[GS,Cu]
 intro n _
 show Cy (C2 L n)=true
 unfold C2
 cases L.find n <;> rfl
theorem AmAt.chs {CA CC:Addr}{H:Hp}{a:Addr}{q:AA}{name:List Int}{tbl:List TB}{acts:List BG}{fault:List Int} (h:AmAt CA CC H a q name tbl acts fault):∃as:List Addr,H q.ac=some (.lst (as.map V.ref))/\Paired (NB CC H) as acts:=by
 obtain⟨as,h3,h4⟩:=h.cs
 exact⟨as,h3,Paired.mapP h4 fun a z q=>ChV.mono F7 q⟩
theorem AmAt.dm {CA CC:Addr}{H:Hp}{a:Addr}{q:AA}{name:List Int}{tbl:List TB}{acts:List BG}{fault:List Int} (h:AmAt CA CC H a q name tbl acts fault):DM H q.am tbl:=h.ms.mono F7
section
variable {P:Program}{w:World}{K:AD}{mg:Str->Option Value}{base:Heap}{CL CK CB CE CC CA:Addr}
theorem ok_chF {f:Addr}{fd:FuncData} (F:Fun K "change_fault" "change_fault" U5 f fd) (B:Blt mg) (TA:AmC K CA) (TC:ChC K CC) (c1:Cst mg "NO_SIGN" (.int 3)) (c2:Cst mg "NEW" (.int 43)) (c3:Cst mg "NOT_SHOWN" (.int 4)) (c4:Cst mg "NOT_BEHIND" (.int 5)) (c5:Cst mg "NOT_TO_BE_DONE" (.int 6))
  (g1:Has P w K mg "can_show" 3 ["locker","signs"] (PH K CL CK)) (g2:Has P w K mg "is_row_behind" 2 ["row","before"] (O4 K)) (g3:Has P w K mg "can_be_done" 1 ["meanings","change"] (O6 K CC)):FnOk P w K mg base CX0 4 f fd ["locker","amendment","change"] (W0 K CL CK CA CC):=by
 refine F.ok fN (fun vs H Q E h=>?_) (fun cdv A outer s H vs Q E hr h=>?_)
 .obtain⟨a,m,c,p,q,L,fl,nm,afl,tbl,acts,mk,names,t,rfl,_⟩:=h
  rfl
 .obtain⟨a,m,c,p,q,L,fl,nm,afl,tbl,acts,mk,names,t,rfl,hL,hW,hA,hC,hn8,hn0,k⟩:=h
  have hr1:Room 1 _:=hr.mono (by decide)
  have hr2:Room 2 _:=hr.mono (by decide)
  obtain⟨dx,ar,am,hc,har,ham⟩:=id hC
  refine⟨_,AJ (As (Aj LL Du (AW (pv 2) rfl) (by rfl)) (AK (AM (AS c1 rfl))) Aw)
   (AJ (As (PW.pt (Dv (Aj Bt (AW (pv 2) rfl) (AS c2 rfl) (AY _)) (Em (EG (DE (AO g1 hr (by rfl) (AB (pv 0) (AB (AW (pv 2) rfl) AE)))))))) (AK (AM (AS c3 rfl))) Aw)
   (AJ (As (PW.pt (Dv (Aj FZ (BV CQ (by rfl) B.len CM (AB (AW (pv 1) rfl) AE)) AU (AY _))
     (Em (EG (DE (AO g2 hr2 (by rfl) (AB (AW (pv 2) rfl) (AB (AW (CH CF (AW (pv 1) rfl) (G3 G4 AU) (fun _ _=>rfl)) rfl) AE)))))))) (AK (AM (AS c4 rfl))) Aw)
   (AK (AM (LP (DE (AO g3 hr1 (by rfl) (AB (AW (pv 1) rfl) (AB (pv 2) AE)))) AU (AS c5 rfl)))))),?_⟩
  refine⟨_,rfl,c,CC,dx,_,_,rfl,hc,TC.cl,TC.row,rfl,ar,_,rfl,.inl (SqL.of har),rfl,gF L names,_,rfl,?_⟩
  rw[JJx A8,O2]
  unfold EA at k
  cases hrow:L.rowIn names with
  | none =>
   rw[hrow] at k
   exact bT rfl (k H (Same.refl H))
  | some r =>
  rw[hrow] at k
  dsimp only at k
  obtain⟨ra,rm,rlt⟩:=Of hrow
  have hrl:r.length=names.length:=by rw[rm,AH]
  rw[Li hrow] at har hC
  refine bF rfl ?_
  have last:∀H1,Same H H1->¬(mk=43/\L.canShow r=false)->(acts.getLast?.any fun (x:BG)=>!BZ x.row r)=false->IC (tIf (Lw (Jj (O6 K CC) [] E0 (GK (Ls K (En 1) "meanings") (GK (En 2) GL)))) (tC (V.int 0)) (tC (V.int 6))) { nx:=fun x H'=>Q V.non H',rt:=Q } (L2.start ["locker","amendment","change"] [V.ref a,V.ref m,V.ref c]) H1:=fun H1 s1 n1 n2=>by
   rw[JJx n1,JJx (by rw[n2];decide)] at k
   have A1:=hA.mono s1
   obtain⟨dxa,hoa⟩:=A1.ob
   refine⟨_,rfl,m,CA,dxa,_,_,rfl,hoa,TA.cl,TA.meanings,Zk,_,rfl,q.am,c,tbl,_,r,t,rfl,A1.dm,hC.mono s1,fun H2 s2=>⟨_,rfl,?_⟩⟩
   cases hf:F6 (BU tbl r) ((mk.toNat:Nat):Int) t with
   | false =>
    rw[hf,JJz rfl] at k
    exact bF rfl (k H2 (s1.trans s2))
   | true =>
    rw[hf,JJx (by decide)] at k
    exact bT rfl (k H2 (s1.trans s2))
  refine⟨_,rfl,c,CC,dx,_,_,rfl,hc,TC.cl,TC.mark,rfl,rfl,_,rfl,?_⟩
  by_cases hmk:mk=43
  .refine bT (JJk (by rw[hmk];rfl)) ?_
   refine⟨_,rfl,_,rfl,c,CC,dx,_,_,rfl,hc,TC.cl,TC.row,rfl,a,ar,p,L,fl,r,rfl,hL,hW,SqL.of har,by omega,Oe hrow,(fun z=>hn0 (by rw[z] at hrl;exact HH.mp hrl.symm)),fun H1 s1=>⟨_,rfl,?_⟩⟩
   cases h1:L.canShow r with
   | false =>
    rw[JJz ⟨hmk,h1⟩] at k
    exact bT rfl (k H1 s1)
   | true =>
    refine bF rfl ?_
    have n1:¬(mk=43/\L.canShow r=false):=fun z=>by rw[h1] at z;exact absurd z.2 (by decide)
    have A1:=hA.mono s1
    obtain⟨dxa,hoa⟩:=A1.ob
    obtain⟨as,hac,hpc⟩:=A1.chs
    have hal:=Bp hpc
    refine⟨_,rfl,m,CA,dxa,_,_,rfl,hoa,TA.cl,TA.changes,HU,q.ac,_,rfl,.inl (SqL.of hac),_,_,rfl,rfl,_,rfl,?_⟩
    cases hlast:acts.getLast? with
    | none =>
     have:acts=[]:=IT.mp hlast
     subst this
     have:as=[]:=by cases as with | nil=>rfl | cons _ _=>simp at hal
     subst this
     exact bF rfl (bF rfl (last _ s1 n1 rfl))
    | some x =>
     obtain⟨r',e'⟩:=JM hlast
     subst e'
     rw[BC,Bz] at hal
     obtain⟨asR,aQ,rfl⟩:∃asR aQ,as=asR++[aQ]:=by
      have ne:as≠[]:=by intro q;rw[q] at hal;simp at hal
      exact⟨as.dropLast,as.getLast ne,(IQ ne).symm⟩
     have hlR:asR.length=r'.length:=by rw[BC,Bz] at hal;omega
     obtain⟨aq',e1,dq,aro,amo,hq,haro,hamo⟩:=Cf hpc (i:=r'.length) (b:=x) (by simp)
     rw[HF (by omega),hlR,Ib] at e1
     cases e1
     refine bT (JJk (by rw[AH,BC,Bz];omega)) ?_
     refine⟨_,rfl,c,CC,dx,_,_,rfl,s1 _ _ hc,TC.cl,TC.row,rfl,_,rfl,m,CA,dxa,_,_,rfl,hoa,TA.cl,TA.changes,HU,_,rfl,q.ac,_,_,_,rfl,rfl,SqL.of hac,by rw[Bo];exact Iw _ _,_,CC,dq,_,_,rfl,hq,TC.cl,TC.row,rfl,ar,aro,zn r,zn (zc x).2.1,rfl,SqL.of (s1 _ _ har),SqL.of haro,fun H2 s2=>⟨_,rfl,?_⟩⟩
     rw[NR,Pn]
     have elast:((r'++[x]).getLast?.any fun (x:BG)=>!BZ x.row r)=!BZ x.row r:=by rw[hlast];rfl
     cases hbf:BZ x.row r with
     | false =>
      rw[JJx n1,elast,hbf,JJz (show(!false)=true from rfl)] at k
      exact bT rfl (k H2 (s1.trans s2))
     | true=>exact bF rfl ((last H2 (s1.trans s2) n1 (by rw[elast,hbf];rfl)))
  .refine bF (JJj fun z=>hmk ((NQ 43).mp z)) (bF rfl ?_)
   have n1:¬(mk=43/\L.canShow r=false):=fun z=>hmk z.1
   have s1:=Same.refl H
   have A1:=hA.mono s1
   obtain⟨dxa,hoa⟩:=A1.ob
   obtain⟨as,hac,hpc⟩:=A1.chs
   have hal:=Bp hpc
   refine⟨_,rfl,m,CA,dxa,_,_,rfl,hoa,TA.cl,TA.changes,HU,q.ac,_,rfl,.inl (SqL.of hac),_,_,rfl,rfl,_,rfl,?_⟩
   cases hlast:acts.getLast? with
   | none =>
    have:acts=[]:=IT.mp hlast
    subst this
    have:as=[]:=by cases as with | nil=>rfl | cons _ _=>simp at hal
    subst this
    exact bF rfl (bF rfl (last _ s1 n1 rfl))
   | some x =>
    obtain⟨r',e'⟩:=JM hlast
    subst e'
    rw[BC,Bz] at hal
    obtain⟨asR,aQ,rfl⟩:∃asR aQ,as=asR++[aQ]:=by
     have ne:as≠[]:=by intro q;rw[q] at hal;simp at hal
     exact⟨as.dropLast,as.getLast ne,(IQ ne).symm⟩
    have hlR:asR.length=r'.length:=by rw[BC,Bz] at hal;omega
    obtain⟨aq',e1,dq,aro,amo,hq,haro,hamo⟩:=Cf hpc (i:=r'.length) (b:=x) (by simp)
    rw[HF (by omega),hlR,Ib] at e1
    cases e1
    refine bT (JJk (by rw[AH,BC,Bz];omega)) ?_
    refine⟨_,rfl,c,CC,dx,_,_,rfl,s1 _ _ hc,TC.cl,TC.row,rfl,_,rfl,m,CA,dxa,_,_,rfl,hoa,TA.cl,TA.changes,HU,_,rfl,q.ac,_,_,_,rfl,rfl,SqL.of hac,by rw[Bo];exact Iw _ _,_,CC,dq,_,_,rfl,hq,TC.cl,TC.row,rfl,ar,aro,zn r,zn (zc x).2.1,rfl,SqL.of (s1 _ _ har),SqL.of haro,fun H2 s2=>⟨_,rfl,?_⟩⟩
    rw[NR,Pn]
    have elast:((r'++[x]).getLast?.any fun (x:BG)=>!BZ x.row r)=!BZ x.row r:=by rw[hlast];rfl
    cases hbf:BZ x.row r with
    | false =>
     rw[JJx n1,elast,hbf,JJz (show(!false)=true from rfl)] at k
     exact bT rfl (k H2 (s1.trans s2))
    | true=>exact bF rfl ((last H2 (s1.trans s2) n1 (by rw[elast,hbf];rfl)))
end
end Fb
namespace Fb
open PySem PySem.Spec PyProof.Rows L2
open PySem.W (CodeHd tabObj kla_obj kla_fn envX)
theorem aj:BQ "amend"=zs (BM "amend"):=by decide +kernel
abbrev VO:Stmt:=WW
def Hl (nm ln:AX):Nat:=match By (BM "amend") ln with
 | none=>1
 | some n=>if n≠nm then 2 else 0
def XI (K:AD) (CA CC:Addr):Sp:=fun vs H Q _=>∃(m la:Addr) (q:AA) (nm:AX) (tbl:List TB) (acts:List BG) (afl:List Int) (ln:AX),vs=[.ref m,.ref la]/\AmAt CA CC H m q (zs nm) tbl acts afl/\SqL K H la ((zs ln).map V.int)/\ln.length < 100000/\Pur H Q (.int (Hl nm ln:Nat))
theorem fc:Ag ["amendment","line"] ["amendment","line"] (AL VO):=⟨rfl,rfl,rfl,by decide +kernel,rfl,by decide +kernel,by decide +kernel⟩
section
variable {P:Program}{w:World}{K:AD}{mg:Str->Option Value}{base:Heap}{CL CK CB CE CC CA:Addr}
theorem ok_namF {f:Addr}{fd:FuncData} (F:Fun K "name_fault" "name_fault" VO f fd) (TA:AmC K CA) (c1:Cst mg "NO_SUCH_LINE" (.int 1)) (c2:Cst mg "OTHER_BOOK" (.int 2)) (g1:Has P w K mg "is_naming_line" 3 ["line","first"] (Lo K)) (g2:Has P w K mg "named" 2 ["line"] (Ln K)):FnOk P w K mg base CX0 4 f fd ["amendment","line"] (XI K CA CC):=by
 refine F.ok fc (fun vs H Q E h=>?_) (fun cdv A outer s H vs Q E hr h=>?_)
 .obtain⟨m,la,q,nm,tbl,acts,afl,ln,rfl,_⟩:=h
  rfl
 .obtain⟨m,la,q,nm,tbl,acts,afl,ln,rfl,hA,hS,hlen,k⟩:=h
  have hr2:Room 2 _:=hr.mono (by decide)
  have zl:(zs ln).length < 100000:=by rw[Al];exact hlen
  refine⟨_,AJ (As (EG (DE (AO g1 hr (by rfl) (AB (pv 1) (AB Dh AE))))) (AK (AM (AS c1 rfl))) Aw)
   (AK (AM (LP (Aj (Ei hr.units) (AO g2 hr2 (by rfl) (AB (pv 1) AE)) (AW (pv 0) rfl) (AY _)) AU (AS c2 rfl)))),?_⟩
  refine⟨_,rfl,la,zs ln,"amend",rfl,hS,zl,by decide,fun H1 s1=>⟨_,rfl,?_⟩⟩
  rw[LF,aj]
  unfold Hl at k
  cases hn:By (BM "amend") ln with
  | none =>
   rw[hn] at k
   rw[LG hn]
   exact bT rfl (k H1 s1)
  | some n =>
   rw[hn] at k
   obtain⟨q1,q2⟩:=LH hn
   rw[q1]
   refine bF rfl ?_
   refine⟨_,rfl,la,zs ln,zs n,rfl,s1.seq hS,zl,q2,fun H2 z s2 nz hz=>?_⟩
   have A2:=hA.mono (s1.trans s2)
   obtain⟨dx,ho⟩:=A2.ob
   refine⟨_,rfl,m,CA,dx,_,_,rfl,ho,TA.cl,TA.name,Zl,?_⟩
   refine⟨_,_,Ay (SqL.of hz),Ay (SqL.of (F7 _ _ A2.nm)),Au _,Au _,?_⟩
   rw[Bx]
   refine⟨_,rfl,?_⟩
   have k:Pur H Q (.int ((if n≠nm then 2 else 0:Nat):Nat)):=k
   by_cases hq:n=nm
   .rw[JJx fun w=>w hq] at k
    exact bT (JJk (by rw[hq])) (k H2 (s1.trans s2))
   .rw[JJz hq] at k
    exact bF (JJj fun w=>hq (EO w)) (k H2 (s1.trans s2))
end
abbrev Vf:Stmt:=Wn
structure ND (B:Bg) (tbl:List TB):Prop where
 val:∀r,BU tbl r=CO B r
 says:∀r t,CO B r=some t->t≠[]
def Lp (K:AD) (CL CK CA CC:Addr):Sp:=fun vs H Q _=>∃(a m la:Addr) (p:LA) (q:AA) (L:AN) (fl afl:List Int) (B:Bg) (tbl:List TB) (acts:List BG) (i:Nat) (ln:AX),vs=[.ref a,.ref m,.int (i:Nat),.ref la]/\LockAt CL CK H a p (zs L.name) (L.kinds.map zk) fl/\Wf L.kinds/\
 AmAt CA CC H m q (zs B.name) tbl acts afl/\ND B tbl/\acts.length < 90000/\SqL K H la ((zs ln).map V.int)/\ln.length < 90000/\
 (∀k,Bq L B acts i ln=.error k->∀H',Same H H'->Q (.int k) H')/\
 (∀acts',Bq L B acts i ln=.ok acts'->∀H',AmAt CA CC H' m q (zs B.name) tbl acts' afl->acts'.length<=acts.length+1->KeepBut [q.ac] H H'->Q (.int 0) H')
theorem scTakeA:Ag ["locker","amendment","number","line","change","fault"] ["locker","amendment","number","line"] (AL Vf):=⟨rfl,rfl,rfl,by decide +kernel,rfl,by decide +kernel,by decide +kernel⟩
theorem Z8 {c:UInt8}{r:AX} (h:Dr (c::32::r)=true):(BI 46 (Az r)).length<=8:=by
 have e2:Dr (c::32::r)=if (32:UInt8)=32 then (if c=45 then DV r else if c=43\/c=61 then Cn r else false) else false:=rfl
 rw[e2,JJz rfl] at h
 by_cases h1:c=45
 .rw[JJz h1] at h
  rw[(Je h).1]
  unfold DV at h
  rw[BL] at h
  exact JJq h.1
 .rw[JJx h1] at h
  by_cases h3:c=43\/c=61
  .rw[JJz h3] at h
   unfold Cn at h
   rw[BL,BL] at h
   exact JJq h.1.1
  .rw[JJx h3] at h;cases h
section
variable {P:Program}{w:World}{K:AD}{mg:Str->Option Value}{base:Heap}{CL CK CB CE CC CA:Addr}
theorem ok_takeA {f:Addr}{fd:FuncData} (F:Fun K "take_line" "take_line" Vf f fd) (TA:AmC K CA) (c1:Cst mg "NO_SUCH_LINE" (.int 1)) (g1:Has P w K mg "name_fault" 4 ["amendment","line"] (XI K CA CC)) (g2:Has P w K mg "is_change_line" 5 ["line"] (W7 K)) (g3:Has P w K mg "change_told" 4 ["locker","line"] (W2 K CL CK CC)) (g4:Has P w K mg "change_fault" 4 ["locker","amendment","change"] (W0 K CL CK CA CC)):
  FnOk P w K mg base CX0 6 f fd ["locker","amendment","number","line"] (Lp K CL CK CA CC):=by
 refine F.ok scTakeA (fun vs H Q E h=>?_) (fun cdv A outer s H vs Q E hr h=>?_)
 .obtain⟨a,m,la,p,q,L,fl,afl,B,tbl,acts,i,ln,rfl,_⟩:=h
  rfl
 .obtain⟨a,m,la,p,q,L,fl,afl,B,tbl,acts,i,ln,rfl,hL,hW,hA,hKn,hal,hS,hlen,ke,ko⟩:=h
  have hr4:Room 4 _:=hr.mono (by decide)
  have hr3:Room 3 _:=hr.mono (by decide)
  refine⟨_,AJ (As (Aj Bt (pv 2) AU (AY _)) (AK (AM (AO g1 hr4 (by rfl) (AB (pv 1) (AB (pv 3) AE))))) Aw)
   (AJ (As (EG (DE (AO g2 hr (by rfl) (AB (pv 3) AE)))) (AK (AM (AS c1 rfl))) Aw)
   (AJ (BN (i:=4) scTakeA.nd rfl (Ai rfl) (AO g3 hr4 (by rfl) (AB (pv 0) (AB (pv 3) AE))))
   (AJ (BN (i:=5) scTakeA.nd rfl (Ai rfl) (AO g4 hr4 (by rfl) (AB (pv 0) (AB (pv 1) (AB (pv 4) AE)))))
   (AJ (As (Aj Bt (pv 5) AU (AY _)) (AK (El (EE EU GX GY GH (AW (pv 1) rfl) (AB (pv 4) AE)))) Aw)
   (AK (AM (pv 5))))))),?_⟩
  refine⟨_,rfl,rfl,_,rfl,?_⟩
  by_cases h0:i=0
  .subst h0
   refine bT (JJk rfl) ?_
   have hstep:Bq L B acts 0 ln=if Hl B.name ln=0 then .ok acts else .error (Hl B.name ln):=by
    unfold Bq Hl
    rw[JJz rfl]
    cases By (BM "amend") ln with
    | none=>rfl
    | some n =>
     dsimp only
     by_cases z:n=B.name
     .rw[JJx fun w=>w z];simp[z]
     .rw[JJz z];simp[z]
   refine⟨_,rfl,_,rfl,m,la,q,B.name,tbl,acts,afl,ln,rfl,hA,hS,by omega,fun H1 s1=>?_⟩
   by_cases hz:Hl B.name ln=0
   .rw[JJz hz] at hstep
    rw[hz]
    exact ko _ hstep H1 (hA.mono s1) (by omega) (KeepBut.of s1)
   .rw[JJx hz] at hstep
    exact ke _ hstep H1 s1
  .refine bF (JJj (Br (by omega))) ?_
   have hstA:Bq L B acts i ln=C7 L B acts ln:=by unfold Bq;rw[JJx h0]
   rw[hstA] at ke ko
   refine⟨_,rfl,la,ln,rfl,hS,by omega,fun H1 s1=>⟨_,rfl,?_⟩⟩
   cases hok:Dr ln with
   | false =>
    refine bT rfl (ke 1 ?_ H1 s1)
    unfold C7
    match ln,hok with
    | [],_=>rfl
    | [c],_=>rfl
    | c::d::r,hok=>rw[NJ,JJx (by rw[hok];decide)]
   | true =>
   refine bF rfl ?_
   match ln,hok,hS,hlen,ke,ko with
   | c::d::r,hok,hS,hlen,ke,ko =>
   have hd:d=32:=by
    by_cases z:d=32
    .exact z
    .have e2:Dr (c::d::r)=if d=32 then (if c=45 then DV r else if c=43\/c=61 then Cn r else false) else false:=rfl
     rw[e2,JJx z] at hok
     cases hok
   subst hd
   have hm:=OD hok
   have hn8:=Z8 hok
   have hstep:=gZ (L:=L) (acts:=acts) hok hKn.says
   have hval:BU tbl=CO B:=funext hKn.val
   refine⟨_,rfl,_,rfl,a,la,p,L,fl,c,32,r,rfl,hL.mono s1,s1.seq hS,by simp at hlen;omega,fun H2 x s2 nx ⟨dx,ar,am,hx,har,ham,nar,nam⟩=>?_⟩
   have s12:=s1.trans s2
   have har':H2 ar=some (.lst ((BI 46 (Az r)).map (C2 L))):=har
   refine⟨_,rfl,_,rfl,_,rfl,a,m,x,p,q,L,fl,_,afl,tbl,acts,c,BI 46 (Az r),BK r,rfl,hL.mono s12,hW,hA.mono s12,⟨dx,ar,am,hx,har',ham⟩,hn8,Ea 46 _,fun H3 s3=>?_⟩
   rw[hval]
   have s13:=s12.trans s3
   refine⟨_,rfl,rfl,_,rfl,?_⟩
   by_cases hz:EA L (CO B) acts c (BI 46 (Az r)) (BK r)=0
   .rw[JJz hz] at hstep
    rw[hz]
    refine bT (JJk rfl) ?_
    have A3:=hA.mono s13
    obtain⟨dxa,hoa⟩:=A3.ob
    obtain⟨as,hac,hpc⟩:=A3.cs
    have hael:=Bp hpc
    obtain⟨asH,hacH,_⟩:=hA.cs
    have hacH1:=s1 _ _ hacH
    have neq:∀{y:Addr},H1 y=none->y≠q.ac:=fun {y} h z=>by rw[z,hacH1] at h;cases h
    cases hrow:L.rowIn (BI 46 (Az r)) with
    | none =>
     unfold EA at hz
     rw[hrow] at hz
     cases hz
    | some rw0 =>
    rw[hrow] at hstep
    rw[Li hrow] at har'
    refine⟨_,rfl,m,CA,dxa,_,_,rfl,hoa,TA.cl,TA.changes,HU,.inl ⟨rfl,_,SqL.of hac⟩,_,rfl,q.ac,_,_,rfl,rfl,hac,CG (by rw[AH];omega),?_⟩
    refine⟨_,rfl,?_⟩
    have nmq:m≠q.ac:=BX hoa hac (by intro z;cases z)
    refine ko _ hstep _ ⟨⟨dxa,by rw[AF nmq];exact hoa⟩,by rw[F8];exact A3.nm,by rw[F8];exact A3.ms,⟨as++[x],by rw[AG,Bo];rfl,?_⟩,by rw[F8];exact A3.af⟩ (by rw[BC];simp) ?_
    .rw[F8]
     refine Fc hpc ?_
     show ChV CC _ x (zc (DX c rw0 (BK r))).1 ((zn (zc (DX c rw0 (BK r))).2.1).map V.int) (zc (DX c rw0 (BK r))).2.2
     rw[X0 rw0 hm]
     refine⟨dx,ar,am,?_,?_,?_⟩
     .rw[A7 (by simpa using neq nx)];exact s3 _ _ hx
     .rw[A7 (by simpa using neq nar)];exact s3 _ _ har'
     .rw[A7 (by simpa using neq nam)];exact s3 _ _ ham
    .intro y o e n
     rw[AF fun z=>n (by simp[z])]
     exact s13 _ _ e
   .rw[JJx hz] at hstep
    refine bF (JJj (Br (by omega))) ?_
    exact⟨_,rfl,ke _ hstep H3 s13⟩
end
end Fb
namespace Fb
open PySem PySem.Spec PyProof.Rows L2
open PySem.W (CodeHd tabObj kla_obj kla_fn envX)
abbrev La:Stmt:=Wb
abbrev C6:Expr:=N3 La
abbrev Dx:Str:="read_amendment.<locals>.<lambda>"
def T5 (cL cB:Addr) (pm:Value) (c':Addr) (ctv:Value):Obj:=kla_obj "<lambda>" Dx (Hg C6) (Hj C6) (EC C6) [("locker",cL),("amendment",cB)] pm c' ctv
theorem frA:∀y∈(EC C6).names,y.2=Fx->y.1∈(["locker","amendment"]:List Str):=by decide +kernel
theorem fW {cL cB:Addr} (h:cL≠cB):KW ["number","line","locker","amendment"] ["number","line"] (EC C6) [("locker",cL),("amendment",cB)] :=
 ⟨rfl,rfl,rfl,by decide +kernel,rfl,by decide +kernel,by decide +kernel,rfl,fun x hx=>by
  have:x="locker"\/x="amendment":=by
   rcases AQ.mp hx with q | q
   .exact .inl q
   .exact .inr (BB.mp q)
  rcases this with rfl | rfl
  .decide +kernel
  .decide +kernel,fun y hy=>frA _ (Cb hy) rfl,DN.mpr ⟨fun m=>h (BB.mp m),DN.mpr ⟨DZ,IY⟩⟩⟩
def XD (K:AD) (CL CK CA CC f c' cL cB:Addr) (pm ctv:Value):Sp:=fun vs H Q _=>∃(i:Nat) (la a b:Addr),vs=[.int (i:Nat),.ref la]/\H f=some (KO f (T5 cL cB pm c' ctv))/\CodeO H c' Dx/\Cp H cL (.ref a)/\Cp H cB (.ref b)/\
 Lp K CL CK CA CC [.ref a,.ref b,.int (i:Nat),.ref la] (hid [cL,cB] H) (fun v H'=>(H' cL=none/\H' cB=none)->Q v (DA [cL,cB] H H')) E0
section
variable {P:Program}{w:World}{K:AD}{mg:Str->Option Value}{base:Heap}{CL CK CB CE CC CA:Addr}
theorem dO {f c' cL cB:Addr}{pm ctv:Value} (hcc:cL≠cB) (g:Has P w K mg "take_line_amendments" 6 ["locker","amendment","number","line"] (Lp K CL CK CA CC)):
  FnOk P w K mg base CX0 7 f (kla_fn "<lambda>" Dx (Hg C6) (Hj C6) (EC C6) [("locker",cL),("amendment",cB)] pm (.ref c') ctv) ["number","line"] (XD K CL CK CA CC f c' cL cB pm ctv):=by
 refine N4 (fW hcc) (fun vs H Q E h=>?_) (fun vs H Q E h=>?_)
 .obtain⟨i,la,a,b,rfl,_⟩:=h
  rfl
 .obtain⟨i,la,a,b,rfl,hf,hc,hv,hv2,hsp⟩:=h
  refine⟨hf,hc,[.ref a,.ref b],.cons hv (.cons hv2 .nil),fun A outer s hr=>?_⟩
  refine⟨_,AO g hr (by rfl) (AB (pv 2) (AB (pv 3) (AB (pv 0) (AB (pv 1) AE)))),?_⟩
  refine⟨_,rfl,_,rfl,_,rfl,_,rfl,?_⟩
  obtain⟨a',b',la',p,q,L,fl,afl,B,tbl,acts,i',ln,e,r1,r2,r3,r4,r5,r6,r7,k1,k2⟩:=hsp
  have two:∀{H':Hp},(∀c∈([("locker",cL),("amendment",cB)]:List (Str×Addr)).map (·.2),H' c=none)->H' cL=none/\H' cB=none:=fun hn=>⟨hn _ (by simp),hn _ (by simp)⟩
  exact⟨a',b',la',p,q,L,fl,afl,B,tbl,acts,i',ln,e,r1,r2,r3,r4,r5,r6,r7,fun k hk H' s' hn=>k1 k hk H' s' (two hn),fun s' hs H' q1 q2 q3 hn=>k2 s' hs H' q1 q2 q3 (two hn)⟩
end
theorem AmAt.faultA {CA CC:Addr}{H H':Hp}{b z dx:Addr}{q:AA}{name:List Int}{tbl:List TB}{acts:List BG}{fault fl:List Int} (hne:CA≠CC) (h:AmAt CA CC H b q name tbl acts fault) (hd:H b=some (.ins CA dx (afA q))) (hz:H z=some (.lst (fl.map V.int))) (nz:z≠q.ac)
  (e:H'=upd H b (.ins CA dx (BE "fault" (.ref z) (afA q)))):AmAt CA CC H' b ⟨q.an,q.am,q.ac,z⟩ name tbl acts fl:=by
 subst e
 have kh:∀x o,hid [q.ac] H x=some o->(∀dx fs,o≠.ins CA dx fs)->hid [q.ac] (upd H b (.ins CA dx (BE "fault" (V.ref z) (afA q)))) x=some o:=fun x o e n=>by
  have nx:x∉[q.ac]:=fun m=>by rw[Dd m] at e;cases e
  rw[A7 nx] at e ⊢
  rw[AF (BX e hd (n _ _))]
  exact e
 obtain⟨as,hbe,hpe⟩:=h.cs
 obtain⟨kvs,hm1,hm2⟩:=h.ms
 refine⟨⟨dx,AG⟩,kh _ _ h.nm (fun _ _ e=>nomatch e),⟨kvs,kh _ _ hm1 (fun _ _ e=>nomatch e),Paired.mapP hm2 fun p q z=>z.mono fun b ns e=>kh _ _ e (fun _ _ e=>nomatch e)⟩,⟨as,?_,Paired.mapP hpe fun y e qq=>?_⟩,kh _ _ (by rw[A7 (by simpa using nz)];exact hz) (fun _ _ e=>nomatch e)⟩
 .rw[AF (BX hbe hd (by intro z;cases z))];exact hbe
 .obtain⟨d2,ar,am,w1,w2,w3⟩:=qq
  exact⟨d2,ar,am,kh _ _ w1 (fun _ _ e=>by cases e;exact hne rfl),kh _ _ w2 (fun _ _ e=>nomatch e),kh _ _ w3 (fun _ _ e=>nomatch e)⟩
def NH (L:AN) (B:Bg) (t:AX) (acts:List BG) (fl:List Int):Prop:=match Bm (Bq L B) 0 [] (AR t) with
 | .error e=>fl=[(e.1:Int),(e.2:Int)]
 | .ok as=>if Be t≠[]\/(AR t).length=0 then fl=[1,((AR t).length:Int)] else fl=[]/\acts=as
def XO (K:AD) (CL CK CB CE CA CC Pt:Addr):Sp:=fun vs H Q _=>∃(l b a:Addr) (p:LA) (qb:BA) (L:AN) (lfl bfl:List Int) (B:Bg) (t:AX),vs=[.ref l,.ref b,.ref a]/\LockAt CL CK H l p (zs L.name) (L.kinds.map zk) lfl/\Wf L.kinds/\BookAt CB CE H b qb (zs B.name) B.entries bfl/\B.entries.length < 5000/\ND B (CI B.entries)/\SqL K H a ((zs t).map V.int)/\t.length < 80000/\Bd H Pt (Bl C6) Dx/\
 ∀(H':Hp) (x:Addr) (q:AA) (acts:List BG) (fl:List Int),KeepBut [Pt] H H'->Bd H' Pt (Bl C6) Dx->AmAt CA CC H' x q (zs B.name) (CI B.entries) acts fl->NH L B t acts fl->acts.length < 80000->Q (.ref x) H'
theorem scReadA:Ag ["locker","book","text","amendment"] ["locker","book","text"] (AL La):=⟨rfl,rfl,rfl,by decide +kernel,rfl,by decide +kernel,by decide +kernel⟩
section
variable {P:Program}{w:World}{K:AD}{mg:Str->Option Value}{base:Heap}{CL CK CB CE CC CA Pt:Addr}
theorem ok_readA {f c:Addr}{fd:FuncData} (F:Fun K "read_amendment" "read_amendment" La f fd) (hc:fd.code=.ref c) (C:CodeHd base c Pt) (hbm:F1 mg base) (hne:CA≠CC) (TA:AmC K CA) (TB:BookC K CB) (c1:Cst mg "NO_SUCH_LINE" (.int 1)) (g0:D7 P w K mg "Amendment" CA 1 ["self","name","meanings"] (Wy CA)) (g5:Has P w K mg "meanings_by_row" 1 ["book"] (PF K CB CE))
  (g1:Has P w K mg "first_fault" 9 ["text","take"] (Lk P w K mg 7)) (g2:Has P w K mg "take_line_amendments" 6 ["locker","amendment","number","line"] (Lp K CL CK CA CC)):
  FnOk P w K mg base CX0 10 f fd ["locker","book","text"] (XO K CL CK CB CE CA CC Pt):=by
 refine F.okC hc scReadA (fun vs H Q E h=>?_) (fun A outer s H vs Q E hr h=>?_)
 .obtain⟨l,b,a,p,qb,L,lfl,bfl,B,t,rfl,_⟩:=h
  rfl
 .obtain⟨l,b,a,p,qb,L,lfl,bfl,B,t,rfl,hL,hW,hB,hel,hKn,hS,hlen,hT,k⟩:=h
  have hr2:Room 2 _:=hr.mono (by decide)
  have hr1:Room 1 _:=hr.mono (by decide)
  obtain⟨f1,fd1,h1,h2,h3,h4⟩:=g1
  refine⟨_,AJ (BN (i:=3) scReadA.nd rfl (ET rfl) (Fd g0 hr2 (by rfl) (AB (AW (pv 1) rfl) (AB (AO g5 hr1 (by rfl) (AB (pv 1) AE)) AE))))
   (AJ (BY (pv 3) (OV (h4 base) hr (by rfl) h1 h2 h3 (fun _=>rfl) (by show(["amendment","locker"]:List Str).Nodup;decide) (AB (pv 2) (AB (OX (clos:=[("locker",s.heap.objs.size+1),("amendment",s.heap.objs.size+1+1)]) (qual:=Dx) rfl C hbm (by rfl) (by rfl) (by rfl)) AE))) rfl)
   (AJ (As (Aj (Ei hr.units) (pv 2) (BD AE) (AY _))
    (AK (BY (pv 3) (BD (AB (AS c1 rfl) (AB AU AE))) rfl)) Aw)
   (AK (AM (pv 3))))),?_⟩
  obtain⟨dxb,hob⟩:=hB.ob
  refine⟨_,rfl,b,CB,dxb,_,_,rfl,hob,TB.cl,TB.name,NS,_,rfl,b,qb,_,bfl,B.entries,rfl,hB,hel,fun H0 d s0 nd hdm=>?_⟩
  intro x dx nx ndx nex
  refine⟨x,dx,qb.bn,d,rfl,AG,fun H1 ac af hx1 hac haf nac kp hfr=>⟨rfl,?_⟩⟩
  have s01:Same H0 H1:=Same.made nx ndx kp
  have s1:Same H H1:=s0.trans s01
  have fr0:∀y∈[ac,af],H0 y=none:=fun y hy=>by
   have:=hfr y hy
   cases z:H0 y with
   | none=>rfl
   | some u =>
    have e1:y≠x:=Ac z nx
    have e2:y≠dx:=Ac z ndx
    rw[AF e1,AF e2,z] at this
    cases this
  have fr:∀y∈[ac,af],H y=none:=fun y hy=>s0.free (fr0 y hy)
  have nxH:H x=none:=s0.free nx
  have sH:Same H0 (hid [ac] H1):=fun b o e=>by
   rw[A7 fun m=>by rw[BB.mp m,fr0 ac (by simp)] at e;cases e]
   exact s01 b o e
  let q:AA:=⟨qb.bn,d,ac,af⟩
  have hA1:AmAt CA CC H1 x q (zs B.name) (CI B.entries) [] []:=⟨⟨dx,hx1⟩,sH _ _ (s0 _ _ hB.nm'),hdm.mono sH,⟨[],hac,.nil⟩,by rw[A7 (by simpa using nac)];exact haf⟩
  refine⟨_,rfl,Bw s1 hT,fun H2 fL c' pm ctv kp2 nf hf hPt hco=>?_⟩
  intro H3 ho3 hn3 hcell
  have ho3:∀b,b∉[s.heap.objs.size+1+1,s.heap.objs.size+1]->H3 b=H2 b:=ho3
  have hn3:∀b∈[s.heap.objs.size+1+1,s.heap.objs.size+1],H2 b=none:=hn3
  have hcvL:Cp H3 (s.heap.objs.size+1) (.ref l):=hcell 0 "locker" (.ref l) (s.heap.objs.size+1) rfl rfl rfl rfl
  have hcvB:Cp H3 (s.heap.objs.size+1+1) (.ref x):=hcell 3 "amendment" (.ref x) (s.heap.objs.size+1+1) rfl rfl rfl rfl
  clear hcell
  have hcc:s.heap.objs.size+1≠s.heap.objs.size+1+1:=by omega
  generalize hclB:s.heap.objs.size+1+1=cB at hf ho3 hn3 hcvB hcc
  generalize hclL:s.heap.objs.size+1=cL at hf ho3 hn3 hcvL hcc
  have ncB:H2 cB=none:=hn3 cB (AV ..)
  have ncL:H2 cL=none:=hn3 cL (Av _ (AV ..))
  have s23:Same H2 H3:=fun b o e=>by
   rw[ho3 b fun m=>by rw[hn3 b m] at e;cases e]
   exact e
  have hTb:∃ps,H1 Pt=some (.tbl ps):=Fn (Bw s1 hT)
  obtain⟨ps1,hPt1⟩:=hTb
  have s12:SameT H1 H2:=fun b o e n=>kp2 b o e fun z=>by rw[z,hPt1] at e;cases e;exact n _ rfl
  have s13:SameT H1 H3:=s12.trans (Same.t s23)
  have s03:SameT H H3:=(Same.t s1).trans s13
  have A3:AmAt CA CC H3 x q (zs B.name) (CI B.entries) [] []:=hA1.monoT s13
  have hS3:SqL K H3 a ((zs t).map V.int):=s03.seq hS
  have hf3:=s23 _ _ hf
  have hPt3:=s23 _ _ hPt
  have hco3:CodeO H3 c' Dx:=KU (Same.t s23) hco
  obtain⟨dx3,hx3⟩:=A3.ob
  obtain⟨as3,hac3,_⟩:=A3.cs
  have out:∀{b:Addr} {o:HO},H3 b=some o->(∀xs,o≠.lst xs)->b∉[q.ac]:=fun {b o} e n2 m=>by
   rw[BB.mp m,hac3] at e
   cases e
   exact n2 _ rfl
  have ourN:H q.ac=none/\H3 q.ac≠none:=⟨fr ac (by simp),by rw[hac3];simp⟩
  have hcut:BF 10 (zs t)=(AR t).map zs++[zs (Be t)]:=by rw[Kk,F3,Bo];rfl
  have hfl:(AR t).length<=t.length:=by
   have:=Gr 10 (zs t)
   rw[hcut,BC,AH,Al] at this
   simp at this
   omega
  have part:∀y∈AR t,y.length < 90000:=fun y hy=>by
   have:=Ez 10 (zs t) (zs y) (by rw[hcut];exact IW _ (Bb.mpr ⟨y,hy,rfl⟩))
   rw[Al,Al] at this
   omega
  let J:Nat->Hp->Prop:=fun i H'=>∃(acts:List BG),Fi (Bq L B) [] (AR t) i acts/\AmAt CA CC H' x q (zs B.name) (CI B.entries) acts []/\acts.length<=i/\KeepBut [q.ac] H3 H'
  have Jf:∀{i H'},J i H'->H' fL=some (KO fL (T5 cL cB pm c' ctv)):=fun ⟨_,_,_,_,kb⟩=>kb _ _ hf3 (out hf3 (fun _ q=>nomatch q))
  have Jc:∀{i H'},J i H'->CodeO H' c' Dx:=fun ⟨_,_,_,_,kb⟩=>by
   obtain⟨o,vs,tt,e,d,r⟩:=hco3
   exact⟨o,vs,tt,kb _ _ e (out e (fun _ q=>nomatch q)),d,r⟩
  have JlL:∀{i H'},J i H'->H' cL=H3 cL:=fun ⟨_,_,_,_,kb⟩=>by
   obtain⟨o,u,e,_⟩:=hcvL
   rw[kb _ _ e (out e (fun _ q=>nomatch q)),e]
  have JlB:∀{i H'},J i H'->H' cB=H3 cB:=fun ⟨_,_,_,_,kb⟩=>by
   obtain⟨o,u,e,_⟩:=hcvB
   rw[kb _ _ e (out e (fun _ q=>nomatch q)),e]
  have Jp:∀{i H'},J i H'->H' Pt=some (.tbl #[rawInt (Bl C6).line,rawInt (Bl C6).col,.ref c']):=fun ⟨_,_,_,_,kb⟩=>kb _ _ hPt3 (out hPt3 (fun _ q=>nomatch q))
  have Jm:∀i H1 H2,J i H1->Same H1 H2->J i H2:=fun i H1 H2 ⟨acts,h1,h2,h3,h5⟩ ss=>⟨acts,h1,h2.mono ss,h3,h5.trans (KeepBut.of ss)⟩
  have Js:∀{i H'},J i H'->SameT H H':=fun ⟨_,_,_,_,kb⟩ b o e n=>kb b o (s03 b o e n) fun m=>by rw[BB.mp m,ourN.1] at e;cases e
  have TC:KY P w K mg 7 H3 fL ((AR t).map zs) J (rAt (Bq L B) [] (AR t)):=by
   refine⟨⟨[],PN,A3,Aa _,fun b o e _=>e⟩,Jm,fun i H' j=>⟨_,_,Jf j,rfl⟩,_,XD K CL CK CA CC fL c' cL cB pm ctv,fun base=>dO hcc g2,.all (fun us hl=>match us,hl with | [_,_],_=>rfl),?_⟩
   intro i la ln H4 Q1 hln hJ nla hla hq
   have hf4:=Jf hJ
   have hc4:=Jc hJ
   have hlL4:=JlL hJ
   have hlB4:=JlB hJ
   have hs4:=Js hJ
   obtain⟨acts,hst,A4,hal,kb⟩:=id hJ
   rw[Ao] at hln
   cases hb:(AR t)[i]? with
   | none=>rw[hb] at hln;cases hln
   | some b =>
   rw[hb] at hln
   have eb:zs b=ln:=Af hln
   subst eb
   have hi:i < (AR t).length:=(CJ.mp hb).1
   have hR:=Hs (step:=Bq L B) hst hb
   have hcvL4:Cp H4 cL (.ref l):=by
    obtain⟨o,u,e,r⟩:=hcvL
    exact⟨o,u,by rw[hlL4];exact e,r⟩
   have hcvB4:Cp H4 cB (.ref x):=by
    obtain⟨o,u,e,r⟩:=hcvB
    exact⟨o,u,by rw[hlB4];exact e,r⟩
   have plain:Plain [cL,cB] H4:=fun y hy u e=>by
    rcases AQ.mp hy with m | m
    .obtain⟨o,_,z,_⟩:=hcvL4
     rw[m,z] at e
     cases e
     exact⟨_,rfl⟩
    .obtain⟨o,_,z,_⟩:=hcvB4
     rw[BB.mp m,z] at e
     cases e
     exact⟨_,rfl⟩
   have sN:=He plain
   refine⟨i,la,l,x,rfl,hf4,hc4,hcvL4,hcvB4,l,x,la,p,q,L,lfl,[],B,CI B.entries,acts,i,b,rfl,(hL.monoT hs4).monoN sN,hW,A4.monoN sN,hKn,by omega,SqL.of (sN _ _ hla fun _ z=>nomatch z),part b (Cw hb),fun kk hk H' s' hn=>?_,fun acts' hs H' q1 q2 q4 hn=>?_⟩
   .rw[hk] at hR
    have hR:rAt (Bq L B) [] (AR t) i=(kk:Int):=hR
    have su:Same H4 (DA [cL,cB] H4 H'):=fun y o e=>by
     by_cases m:y∈[cL,cB]
     .rw[G5 m];exact e
     .rw[Dk m];exact s' y o (by rw[A7 m];exact e)
    have kpos:=gS hk
    rw[<- hR]
    refine hq _ (fun y o _ e=>su y o e) (fun z=>?_) fun _=>Jm i _ _ hJ su
    rw[hR] at z
    exact absurd (show kk=0 by omega) kpos
   .rw[hs] at hR
    have hR:rAt (Bq L B) [] (AR t) i=0:=hR
    have su:Same H' (DA [cL,cB] H4 H'):=Pd fun y hy=>by
     rcases AQ.mp hy with m | m
     .rw[m];exact hn.1
     .rw[BB.mp m];exact hn.2
    have ku:KeepBut [q.ac] H4 (DA [cL,cB] H4 H'):=fun y o e n=>by
     by_cases m:y∈[cL,cB]
     .rw[G5 m];exact e
     .rw[Dk m]
      exact q4 y o (by rw[A7 m];exact e) n
    rw[<- hR]
    refine hq _ (fun y o n e=>ku y o e fun m=>by rw[BB.mp m] at n;exact ourN.2 n) (fun _=>⟨acts',PM hst hb hs,q1.mono su,by omega,kb.trans ku⟩) fun z=>absurd hR z
  refine⟨a,fL,zs t,(AR t).map zs,zs (Be t),J,rAt (Bq L B) [] (AR t),rfl,hS3,by rw[Al];omega,hcut,TC,fun H0' pR j res hJ0 np0 hTold=>?_⟩
  have hJ:=Jm j _ _ hJ0 ((Same.refl H0').new (o:=.lst (res.map V.int)) np0)
  have hpR:upd H0' pR (.lst (res.map V.int)) pR=some (.lst (res.map V.int)):=AG
  have npq:pR≠q.ac:=fun z=>by
   obtain⟨_,_,A0,_,_⟩:=hJ0
   obtain⟨as0,h0,_⟩:=A0.cs
   rw[<- z,np0] at h0
   cases h0
  generalize upd H0' pR (.lst (res.map V.int))=H' at hJ hpR ⊢
  have hlL':=JlL hJ
  have hlB':=JlB hJ
  have hP':=Jp hJ
  have hc':=Jc hJ
  obtain⟨acts,hst,A',hal,kb⟩:=id hJ
  have ecs:CV ((Eu CX0 P w K mg base ["locker","book","text","amendment"] "read_amendment" (AL La) f (Ab c) A outer s H E).nox)=[cB,cL]:=by rw[<- hclB,<- hclL];rfl
  refine⟨fun c2 hc2=>by
   rw[ecs] at hc2
   rcases AQ.mp hc2 with m | m
   .rw[m];exact hlB'
   .rw[BB.mp m];exact hlL',?_⟩
  show En 3 _ _ _
  rw[ecs]
  have plain:Plain [cB,cL] H':=fun y hy u e=>by
   rcases AQ.mp hy with m | m
   .obtain⟨o,_,z,_⟩:=hcvB
    rw[m,hlB',z] at e
    cases e
    exact⟨_,rfl⟩
   .obtain⟨o,_,z,_⟩:=hcvL
    rw[BB.mp m,hlL',z] at e
    cases e
    exact⟨_,rfl⟩
  have sN:=He plain
  have Ah:=A'.monoN sN
  obtain⟨dx4,hx4⟩:=Ah.ob
  have hpR4:=sN _ _ hpR fun _ z=>nomatch z
  have notc:∀{b:Addr} {o:HO},H2 b=some o->b∉[cB,cL]:=fun e m=>by rw[hn3 _ m] at e;cases e
  have kpH:KeepBut [Pt] H (hid [cB,cL] H'):=fun b o e n=>by
   have n:b≠Pt:=fun z=>n (by simp[z])
   have e2:=kp2 b o (s1 b o e) n
   rw[A7 (notc e2)]
   exact kb b o (s23 b o e2) fun m=>by rw[BB.mp m,ourN.1] at e;cases e
  have tabH:Bd (hid [cB,cL] H') Pt (Bl C6) Dx:=by
   refine .inr ⟨c',sN _ _ hP' (fun _ z=>nomatch z),?_⟩
   obtain⟨o,vs,tt,e,d,r⟩:=hc'
   obtain⟨o2,_,_,e2,_⟩:=hco
   exact⟨o,vs,tt,by rw[A7 (notc e2)];exact e,d,r⟩
  have hSh:SqL K (hid [cB,cL] H') a ((zs t).map V.int):=(Gx hT kpH).seq hS
  generalize hid [cB,cL] H'=Hh at Ah hx4 hpR4 kpH tabH hSh ⊢
  refine⟨_,rfl,x,CA,dx4,_,rfl,hx4,TA.cl,TA.fault,(by show 4 < 1000;decide),?_⟩
  have A5:=Ah.faultA (fl:=res) hne hx4 hpR4 npq rfl
  have nxP:x≠Pt:=fun z=>by
   rcases tabH with w | ⟨_,w,_⟩ <;> (rw[<- z,hx4] at w;cases w)
  have kp5:KeepBut [Pt] H (upd Hh x (.ins CA dx4 (BE "fault" (V.ref pR) (afA q)))):=fun b o e n=>by
   rw[AF (Ac e nxH)]
   exact kpH b o e n
  have tab_upd:∀{G:Hp} {o:HO},Bd G Pt (Bl C6) Dx->(∃d fs,G x=some (.ins CA d fs))->Bd (upd G x o) Pt (Bl C6) Dx:=fun {G o} h hx=>by
   obtain⟨d,fs,hx⟩:=hx
   rcases h with z | ⟨c2,z,o2,vs,tt,e,r⟩
   .exact .inl (by rw[AF (Ar nxP)];exact z)
   .exact .inr ⟨c2,by rw[AF (Ar nxP)];exact z,o2,vs,tt,by rw[AF (BX e hx (by intro z;cases z))];exact e,r⟩
  have tab5:=tab_upd (o:=.ins CA dx4 (BE "fault" (V.ref pR) (afA q))) tabH ⟨_,_,hx4⟩
  have hS5:SqL K (upd Hh x (.ins CA dx4 (BE "fault" (V.ref pR) (afA q)))) a ((zs t).map V.int):=(Gx hT kp5).seq hS
  generalize upd Hh x (.ins CA dx4 (BE "fault" (V.ref pR) (afA q)))=H5 at A5 kp5 tab5 hS5 ⊢
  obtain⟨dx5,hx5⟩:=A5.ob
  have hjl:j<=(AR t).length:=hst.1
  refine⟨_,rfl,Ax _,fun l5 nl=>?_⟩
  have s56:Same H5 (upd H5 l5 (.lst [])):=(Same.refl H5).new nl
  have A6:=A5.mono s56
  have kp6:KeepBut [Pt] H (upd H5 l5 (.lst [])):=kp5.trans (KeepBut.of s56)
  have tab6:=Bw s56 tab5
  refine⟨_,_,Ay (s56.seq hS5),Ay (ns:=[]) (SqL.of AG),Au _,Au _,?_⟩
  rw[Bx]
  generalize upd H5 l5 (.lst [])=H6 at A6 kp6 tab6 ⊢
  obtain⟨dx6,hx6⟩:=A6.ob
  refine⟨_,rfl,?_⟩
  by_cases ht0:t=[]
  .refine bT (JJk (by rw[ht0];rfl)) ?_
   refine⟨(show 2<=sizeLine from BP (by decide)),fun l2 nl2=>?_⟩
   have s89:Same H6 (upd H6 l2 (.lst [.int 1,.int 0])):=(Same.refl H6).new nl2
   have A9:=A6.mono s89
   have hl9:upd H6 l2 (.lst [.int 1,.int 0]) l2=some (.lst (([1,0]:List Int).map V.int)):=AG
   have hx9:=s89 _ _ hx6
   have kp9:=kp6.trans (KeepBut.of (xs:=[Pt]) s89)
   have tab9:=Bw s89 tab6
   have nl2q:l2≠q.ac:=fun z=>by
    obtain⟨as8,h8,_⟩:=A6.cs
    have h8:H6 q.ac=some (.lst (as8.map V.ref)):=h8
    rw[<- z,nl2] at h8;cases h8
   generalize upd H6 l2 (.lst [.int 1,.int 0])=H9 at A9 hl9 hx9 kp9 tab9 ⊢
   refine⟨_,rfl,x,CA,dx6,_,rfl,hx9,TA.cl,TA.fault,(by show 4 < 1000;decide),?_⟩
   have A10:=A9.faultA (q:=⟨qb.bn,d,ac,pR⟩) hne hx9 hl9 nl2q rfl
   refine⟨_,rfl,k _ x _ _ _ (fun b o e n=>?_) (tab_upd tab9 ⟨_,_,hx9⟩) A10 ?_ (by omega)⟩
   .rw[AF (Ac e nxH)]
    exact kp9 b o e n
   .subst ht0
    rfl
  .refine bF (JJj fun z=>ht0 (zs_nil.mp z)) ?_
   refine⟨_,rfl,k _ x _ _ _ kp6 tab6 A6 ?_ (by omega)⟩
   unfold NH
   have full0:(AR t).length=0->Be t≠[]:=fun h0 hr0=>ht0 (by
    have h1:(AR t)=[]:=HH.mp h0
    have h2:=F3 t
    rw[h1,hr0] at h2
    cases t with
    | nil=>rfl
    | cons y t' =>
     exfalso
     have h3:=JC 10 (zs (y::t'))
     have h4:BI 10 (y::t')=[[]]:=h2
     rcases Ko 10 (y::t') y AV with z | ⟨w,hw,z⟩
     .subst z
      have h5:BI 10 (10::t')=[]::BI 10 t':=by
       show(if (10:UInt8)=10 then []::BI 10 t' else _)=_
       rw[JJz rfl]
      rw[h5] at h4
      exact Ea 10 t' (Dl h4).2
     .rw[h4] at hw
      rw[BB.mp hw] at z
      cases z)
   rcases hTold with ⟨q1,q2,q3,q4⟩ | ⟨q1,q2,q3⟩
   .rw[AH] at q1
    have hb:(AR t)[j]?=some (AR t)[j]:=Ba q1
    have hR:=Hs (step:=Bq L B) hst hb
    cases hsj:Bq L B acts j (AR t)[j] with
    | ok s'=>rw[hsj] at hR;exact absurd hR q3
    | error kk =>
     rw[hsj] at hR
     have hR:rAt (Bq L B) [] (AR t) j=(kk:Int):=hR
     rw[Oj hst hb hsj,q4,hR]
   .rw[AH] at q1
    subst q1
    rw[Jg hst]
    dsimp only
    by_cases z:Be t=[]
    .rw[JJz (zs_nil.mpr z)] at q3
     have hn:¬(Be t≠[]\/(AR t).length=0):=fun w=>w.elim (fun w=>w z) (fun w=>full0 w z)
     rw[JJx hn]
     exact⟨q3,rfl⟩
    .rw[JJx fun w=>z (zs_nil.mp w)] at q3
     rw[JJz (.inl z)]
     exact q3
end
end Fb
namespace Fb
open PySem PySem.Spec PyProof.Rows L2
theorem Z2:bootBuiltins "sorted"=some (.builtin "sorted"):=by decide +kernel
theorem Z0:bootBuiltins "list"=some (.type "list"):=by decide +kernel
structure Blt2 (mg:Str->Option Value):Prop where
 sorted:mg "sorted"=none
 list:mg "list"=none
def iC (t:TA):TE:=fun σ H Q=>t σ H fun vs H1=>∃(d:Addr) (kvs:List (List Key×V)) (rows:List (List Nat)),vs=[.ref d]/\H1 d=some (.dT kvs)/\kvs.map (·.1)=(rows.map fun r=>Ap (zn r))/\kvs.length < 900000/\
 ∀(H':Hp) (D:Addr) (rows':List (List Nat)) (qs:List Addr),Same H1 H'->H1 D=none->rows'.Perm rows->rows'.Pairwise (fun a b=>BZ a b=true)->Paired (fun q r=>H1 q=some (.tup ((zn r).map V.int))) qs rows'->H' D=some (.lst (qs.map V.ref))->Q (.ref D) H'
theorem d6 {X:Cx}{k:Nat}{x:Str}{p p2 p3 pos:Pos}{e:Expr}{t:TA} (h:Has X.prog X.w X.K X.mg x k ["row"] (Hz X.K)) (hr:Room (k+1) X.A) (hg:Gl X "sorted") (hm:X.mg "sorted"=none) (hgx:Gl X x) (ha:PA X [e] t) (hdb:(x==("__debug__":Str))=false:=by decide)
  (he:backTo pos (starEach [e] X.env)=(false,eval e X.env)::backTo pos (starEach [] X.env):=by rfl) (hpl:(backTo pos (starEach [e] X.env)).any (·.1)=false:=by rfl):
  PE X (.Call (.Name "sorted" p) [e] [⟨some "key",.Name x p2,p3⟩] pos) (iC t):=by
 intro pins s σ H Q I hq
 obtain⟨f,fd,h1,h2,h3,h4⟩:=h
 refine Ge (G0 I hg hm Z2 ?_)
 refine callWith_kw (thn (ha pos pins s σ H _ I hq) fun us s1 ⟨vs,H1,I1,r1,d,kvs,rows,ev,hd,hk,hl,q⟩=>?_) he hpl
 subst ev
 obtain⟨u,rfl,ru⟩:=G6 r1
 cases ru
 refine wpAny_evalAll_cons (AI (Hk I1 hgx h1 (AI (RK (AZ (wpAny_evalAll_nil ?_)))) hdb))
 exact gM (h4 X.base) hr h3 hr.hd I1 hd hk hl q
theorem dY {X:Cx} (K:AD) (hK:X.K=K) (hu:X.A.units+64 < cLine):OpR X (compareOp .NotEq) (Ud K):=by subst hK;exact Ey hu
theorem Z5 {X:Cx} (K:AD) (hK:X.K=K):EW X (.type "list") (fun xs H Q=>∃p ys,xs=[.ref p]/\(SqL K H p ys\/SqT K H p ys)/\∀l,H l=none->Q (.ref l) (upd H l (.lst ys))):=by subst hK;exact Z6
abbrev LY:Stmt:=V5
def W3 (K:AD) (CB CE CC:Addr):Sp:=fun vs H Q _=>∃(b ch:Addr) (qb:BA) (nm:List Int) (bfl:List Int) (es:List BH) (acts:List BG) (as:List Addr),vs=[.ref b,.ref ch]/\BookAt CB CE H b qb nm es bfl/\H ch=some (.lst (as.map V.ref))/\Paired (NB CC H) as acts/\es.length < 5000/\acts.length < 80000/\
 ∀(H':Hp) (x:Addr) (q':BA) (rows:List (List Nat)),Same H H'->H x=none->rows.Perm ((Dq (CI es) acts).map (·.1))->rows.Pairwise (fun a b=>BZ a b=true)->BookAt CB CE H' x q' nm (JE (Dq (CI es) acts) rows) []->H q'.be=none->Q (.ref x) H'
theorem scChd:Ag ["book","changes","meanings","change","made","rows","row"] ["book","changes"] (AL LY):=⟨rfl,rfl,rfl,by decide +kernel,rfl,by decide +kernel,by decide +kernel⟩
theorem Up {H:Hp}:∀{kvs:List (List Key×V)}{tbl:List TB},Paired (RT H) kvs tbl->kvs.map (·.1)=(tbl.map (·.1)).map fun r=>Ap (zn r)
 | _,_,.nil=>rfl
 | _,_,.cons h t=>by rw[Aq,Aq,Aq,Up t,h.1]
theorem Zi {tbl:List TB}{acts:List BG}{i:Nat}{x:BG} (h:acts[i]?=some x):Dq tbl (acts.take (i+1))=Ct (Dq tbl (acts.take i)) (zc x).2.1 (zc x).2.2:=by
 unfold Dq
 rw[EL h,YK]
 rfl
theorem NK:∀(acts:List BG) (t:List TB),(Dq t acts).length<=t.length+acts.length
 | [],t=>Aa _
 | x::acts,t=>by
  have h1:=NK acts (Ct t (zc x).2.1 (zc x).2.2)
  have h2:=Ua t (zc x).2.1 (zc x).2.2
  have e:Dq t (x::acts)=Dq (Ct t (zc x).2.1 (zc x).2.2) acts:=rfl
  rw[e,Bn]
  omega
def Ee (tbl:List TB) (rows:List (List Nat)):List (List Nat):=rows.filter fun r=>!decide (BU tbl r=some [])
section
variable {P:Program}{w:World}{K:AD}{mg:Str->Option Value}{base:Heap}{CL CK CB CE CC CA:Addr}
theorem ok_chd {f:Addr}{fd:FuncData} (F:Fun K "changed" "changed" LY f fd) (B:Blt mg) (B2:Blt2 mg) (hne:CB≠CE) (TB:BookC K CB) (TC:ChC K CC) (g1:Has P w K mg "meanings_by_row" 1 ["book"] (PF K CB CE)) (g2:D7 P w K mg "Book" CB 1 ["self"] (O5 CB)) (g3:Has P w K mg "place_in_order" 1 ["row"] (Hz K)) (g4:D7 P w K mg "Entry" CE 1 ["self","row","meaning"] (EK CE JF)):
  FnOk P w K mg base CX0 3 f fd ["book","changes"] (W3 K CB CE CC):=by
 refine F.ok scChd (fun vs H Q E h=>?_) (fun cdv A outer s H vs Q E hr h=>?_)
 .obtain⟨b,ch,qb,nm,bfl,es,acts,as,rfl,_⟩:=h
  rfl
 .obtain⟨b,ch,qb,nm,bfl,es,acts,as,rfl,hB,hch,hpc,hel,hal,k⟩:=h
  have hr1:Room 1 _:=hr.mono (by decide)
  have hu:=Ew hr
  have hu6:=hr.units
  refine⟨_,AJ (BN (i:=2) scChd.nd rfl (ET rfl) (AO g1 hr1 (by rfl) (AB (pv 0) AE)))
   (AJ (E6 FJ rfl (DS (pv 1)) (CT (i:=3) scChd.nd rfl (Ai rfl))
    (AK (Ja hu (pv 2) (Hq (Kf K rfl) (by rfl) B.tuple Ke (AB (AW (pv 3) rfl) AE)) (AW (pv 3) rfl) rfl)))
   (AJ (BN (i:=4) scChd.nd rfl (Ai rfl) (OY g2 hr (by rfl)))
   (AJ (BY (pv 4) (AW (pv 0) rfl) rfl)
   (AJ (eI (i:=5) (own:=[("row",6)]) rfl scChd.nd rfl rfl (gj rfl rfl rfl (by decide +kernel)) (DS (d6 g3 hr (by rfl) B2.sorted (by rfl) (AB (pv 2) AE))) (D8 (N:=["book","changes","meanings","change","made","rows","row"]) (sc:=AL LY) (by decide +kernel))
     (fun s H C cl fp=>CT (i:=6) scChd.nd rfl (Ai rfl)) (fun s H C cl fp=>UX (Aj (dY K rfl hu6) (LO hu (pv 2) (pv 6) (fun _ _=>rfl)) (BD AE) (AY _))) (fun s H C cl fp=>pv 6))
   (AJ (BY (pv 4) (Ej (own:=[("row",6)]) rfl scChd.nd (DS (pv 5)) (D8 (N:=["book","changes","meanings","change","made","rows","row"]) (sc:=AL LY) (by decide +kernel))
     (fun s H C cl fp=>CT (i:=6) scChd.nd rfl (Ai rfl)) (fun s H C cl fp=>E7) (fun s H C cl fp=>Fd g4 hr (by rfl) (AB (Hq (Z5 K rfl) (by rfl) B2.list Z0 (AB (pv 6) AE)) (AB (LO hu (pv 2) (pv 6) (fun _ _=>rfl)) AE)))) rfl)
   (AK (AM (pv 4)))))))),?_⟩
  obtain⟨dxb,hob⟩:=hB.ob
  have hpl:=Bp hpc
  refine⟨_,rfl,b,qb,nm,bfl,es,rfl,hB,hel,fun H1 d s1 nd hdm=>?_⟩
  refine⟨_,rfl,ch,rfl,⟨_,SqL.of (s1 _ _ hch)⟩,Ha (K:=K) (a:=ch) (xs:=as.map V.ref)
   (fun i σ H'=>∃(v:Option V),σ=[some (.ref b),some (.ref ch),some (.ref d),v,none,none,none]/\Same H H'/\DM H' d (Dq (CI es) (acts.take i)))
   ⟨none,rfl,s1,hdm⟩ (fun i σ H' _ ⟨_,_,s2,_⟩=>SqL.of (s2 _ _ hch)) ?_ ?_⟩
  .rintro i y σ H' hi ⟨v,rfl,s2,kvs,hd,hp⟩
   rw[Ao] at hi
   cases hai:as[i]? with
   | none=>rw[hai] at hi;cases hi
   | some ca =>
   rw[hai] at hi
   have ey:V.ref ca=y:=Af hi
   subst ey
   have hlt:i < acts.length:=by rw[<- hpl];exact(CJ.mp hai).1
   have hei:acts[i]?=some acts[i]:=Ba hlt
   obtain⟨ca',he1,dxc,ar,am,ho,har,ham⟩:=Cf hpc hei
   rw[hai] at he1
   cases he1
   refine⟨_,rfl,ca,CC,dxc,_,_,rfl,s2 _ _ ho,TC.cl,TC.meaning,rfl,_,rfl,_,rfl,ca,CC,dxc,_,_,rfl,s2 _ _ ho,TC.cl,TC.row,rfl,ar,_,rfl,SqL.of (s2 _ _ har),fun tp ntp=>?_⟩
   have s3:Same H' (upd H' tp (.tup ((zn (zc acts[i]).2.1).map V.int))):=(Same.refl H').new ntp
   have ht:upd H' tp (.tup ((zn (zc acts[i]).2.1).map V.int)) tp=some (.tup ((Ap (zn (zc acts[i]).2.1)).map kV)):=by rw[FY];exact AG
   have hd3:=s3 _ _ hd
   have hkl:kvs.length < sizeLine:=by
    rw[Bp hp]
    have h5:=NK (acts.take i) (CI es)
    have h6:(acts.take i).length<=acts.length:=by rw[DK];omega
    have h7:=Lx es []
    exact CG (by unfold CI at h5 ⊢;simp only[Fv] at h7;omega)
   refine⟨d,_,rfl,DPut.t hd3 ht hkl,_,rfl,?_,?_⟩
   .exact(s2.trans s3).wr nd
   .rw[Zi hei]
    exact DM.put (tp:=tp) hd3 (Paired.mapP hp fun p q z=>z.mono fun b ns e=>s3 b _ e) (s3 _ _ (s2 _ _ ham)) rfl
  .rintro σ H2 ⟨v,rfl,s2,hdm2⟩
   rw[AH,hpl,FG (Aa _)] at hdm2
   have htl:(Dq (CI es) acts).length < 90000:=by
    have h5:=NK acts (CI es)
    have h7:=Lx es []
    unfold CI at h5 ⊢
    simp only[Fv] at h7
    omega
   generalize htbl:Dq (CI es) acts=tbl at hdm2 k htl
   intro x dx nx ndx nex
   refine⟨x,dx,rfl,AG,fun H3 q hx3 hbn hbe hbf nq1 nq2 kp hfr=>⟨rfl,?_⟩⟩
   have s23:Same H2 H3:=Same.made nx ndx kp
   have s03:=s2.trans s23
   have nxH:H x=none:=s2.free nx
   have fr2:∀y∈[q.bn,q.be,q.bf],H2 y=none:=fun y hy=>by
    have:=hfr y hy
    cases z:H2 y with
    | none=>rfl
    | some u =>
     have e1:y≠x:=Ac z nx
     have e2:y≠dx:=Ac z ndx
     rw[AF e1,AF e2,z] at this
     cases this
   refine⟨_,rfl,b,CB,dxb,_,_,rfl,s03 _ _ hob,TB.cl,TB.name,NS,_,rfl,x,CB,dx,_,rfl,hx3,TB.cl,TB.name,(by show 3 < 1000;decide),?_⟩
   have s24:Same H2 (upd H3 x (.ins CB dx (bfB qb.bn q.be q.bf))):=fun b o e=>by
    rw[AF (Ac e nx)]
    exact s23 b o e
   have hx4:upd H3 x (.ins CB dx (bfB qb.bn q.be q.bf)) x=some (.ins CB dx (bfB qb.bn q.be q.bf)):=AG
   have hbf4:upd H3 x (.ins CB dx (bfB qb.bn q.be q.bf)) q.bf=some (.lst []):=by rw[AF (BX hbf hx3 (by intro z;cases z))];exact hbf
   show Lv _ _ _ _ (upd H3 x (.ins CB dx (bfB qb.bn q.be q.bf)))
   generalize upd H3 x (.ins CB dx (bfB qb.bn q.be q.bf))=H4 at s24 hx4 hbf4 ⊢
   obtain⟨kvs,hd4,hp4⟩:=hdm2.mono s24
   have s04:=s2.trans s24
   refine⟨_,rfl,d,kvs,tbl.map (·.1),rfl,hd4,Up hp4,by rw[Bp hp4];omega,fun H5 D rows qs s45 nD hperm hord hqs hD5=>?_⟩
   have hql:=Bp hqs
   have hrl:rows.length=tbl.length:=by rw[hperm.length_eq,AH]
   have hval:∀{r:List Nat},r∈rows->∃m t,BO kvs (Ap (zn r))=some (.ref m)/\BU tbl r=some t/\H4 m=some (.lst ((zs t).map V.int)):=fun {r} hr0=>by
    have h1:=valT_mem.mp (hperm.mem_iff.mp hr0)
    rcases Oh r hp4 with ⟨_,z⟩ | ⟨m,t,v1,v2,v3⟩
    .rw[z] at h1;cases h1
    .exact⟨m,t,v1,v2,v3⟩
   have keyAt:∀{H':Hp} {i:Nat} {r:List Nat},Same H5 H'->rows[i]?=some r->∃qa,qs[i]?=some qa/\H' qa=some (.tup ((Ap (zn r)).map kV)):=fun {H' i r} ss hr0=>by
    obtain⟨qa,h1,h2⟩:=Cf hqs hr0
    exact⟨qa,h1,by rw[FY];exact ss _ _ (s45 _ _ h2)⟩
   refine⟨D,rfl,⟨_,SqL.of hD5⟩,fun D2 hD2=>?_⟩
   refine JN (n:=(qs.map V.ref).length) (fun i H'=>Same H5 H'/\∃ks:List Addr,H' D2=some (.lst (ks.map V.ref))/\Paired (fun q r=>H4 q=some (.tup ((zn r).map V.int))) ks (Ee tbl (rows.take i))) ⟨(Same.refl H5).new hD2,[],AG,.nil⟩
    (fun i H' hi p=>FW (SqL.of (p.1 _ _ hD5)) hi) (fun H' p=>FX (SqL.of (p.1 _ _ hD5))) ?_ ?_
   .rintro i y H6 H6' hi ⟨s6,ks,hks,hpk⟩ ⟨rfl,hy⟩
    have hy:=hy _ (SqL.of (s6 _ _ hD5))
    rw[AH] at hi
    have hri:rows[i]?=some rows[i]:=Ba (by omega)
    obtain⟨qa,hqa,hkey⟩:=keyAt s6 hri
    obtain⟨qa',hqa',hqt⟩:=Cf hqs hri
    rw[hqa] at hqa'
    cases hqa'
    rw[Ao,hqa] at hy
    have ey:V.ref qa=y:=Af hy
    subst ey
    obtain⟨m,t,v1,v2,v3⟩:=hval (HG (show i < rows.length by omega))
    have hdg:DGet H6' d (.ref qa) (some (.ref m)):=by
     have:=DGet.t (k:=Ap (zn rows[i])) (s6 _ _ (s45 _ _ hd4)) hkey
     rw[v1] at this
     exact this
    have ekept:Ee tbl (rows.take (i+1))=Ee tbl (rows.take i)++(if (!decide (BU tbl rows[i]=some []))=true then [rows[i]] else []):=by
     unfold Ee
     rw[EL hri,P9,Fu,YI]
    refine⟨rfl,_,rfl,_,rfl,d,_,rfl,hdg,Ax _,fun l nl=>?_⟩
    have s7:Same H6' (upd H6' l (.lst [])):=(Same.refl _).new nl
    have hl7:upd H6' l (.lst []) l=some (.lst (([]:List Int).map V.int)):=AG
    generalize upd H6' l (.lst [])=H7 at s7 hl7 ⊢
    refine⟨_,_,Ay (SqL.of (s7 _ _ (s6 _ _ (s45 _ _ v3)))),Ay (SqL.of hl7),Au _,Au _,?_⟩
    rw[Bx]
    refine⟨_,rfl,?_⟩
    have hkl:=Bp hpk
    have hkl2:(Ee tbl (rows.take i)).length<=rows.length:=by
     unfold Ee
     have h8:=IU (fun r=>!decide (BU tbl r=some [])) (rows.take i)
     rw[DK] at h8
     omega
    by_cases hz:t=[]
    .have e1:(!decide (zs t=[]))=false:=by rw[hz];rfl
     rw[v2,hz,JJk rfl] at ekept
     refine bF e1 ⟨s6.trans s7,ks,s7 _ _ hks,?_⟩
     rw[ekept]
     simpa using hpk
    .have e1:(!decide (zs t=[]))=true:=by rw[JJj fun z=>hz (zs_nil.mp z)];rfl
     rw[v2,JJj fun z=>hz (Af z)] at ekept
     refine bT e1 ⟨_,rfl,ks.map V.ref,s7 _ _ hks,CG (by rw[AH,hkl];omega),(s6.trans s7).wr hD2,ks++[qa],by rw[AG,Bo];rfl,?_⟩
     rw[ekept]
     exact Fc hpk hqt
   .rintro H6 ⟨s6,ks,hks,hpk⟩
    rw[AH,hql,FG (Aa _)] at hpk
    have hkl:=Bp hpk
    have hkl2:(Ee tbl rows).length<=rows.length:=IU _ _
    have s46:=s45.trans s6
    have s06:=s04.trans s46
    refine⟨_,rfl,D2,rfl,⟨_,SqL.of hks⟩,fun D3 hD3=>?_⟩
    have nD3H4:H4 D3=none:=s46.free hD3
    refine JN (n:=(ks.map V.ref).length) (tt:=Fl) (fun i H'=>Same H6 H'/\∃eas:List Addr,H' D3=some (.lst (eas.map V.ref))/\Paired (EntAt CE (hid [D3] H')) eas (((Ee tbl rows).take i).map fun r=>(⟨r,(BU tbl r).getD []⟩:BH))) ⟨(Same.refl H6).new hD3,[],AG,.nil⟩
     (fun i H' hi p=>FW (SqL.of (p.1 _ _ hks)) hi) (fun H' p=>FX (SqL.of (p.1 _ _ hks))) ?_ ?_
    .rintro i y H7 H7' hi ⟨s7,eas,heas,hpe⟩ ⟨rfl,hy⟩
     have hy:=hy _ (SqL.of (s7 _ _ hks))
     rw[AH] at hi
     have hri:(Ee tbl rows)[i]?=some (Ee tbl rows)[i]:=Ba (by omega)
     generalize (Ee tbl rows)[i]=r at hri
     obtain⟨qa,hqa,hqt⟩:=Cf hpk hri
     rw[Ao,hqa] at hy
     have ey:V.ref qa=y:=Af hy
     subst ey
     have hrm:r∈rows:=(Cv.mp (Cw hri)).1
     obtain⟨m,t,v1,v2,v3⟩:=hval hrm
     have s47:=s46.trans s7
     refine⟨rfl,?_⟩
     simp only[Fl,if_true]
     refine⟨_,rfl,qa,_,rfl,.inr (SqT.of (s47 _ _ hqt)),fun l nl=>?_⟩
     have s8:Same H7' (upd H7' l (.lst ((zn r).map V.int))):=(Same.refl _).new nl
     have hl8:upd H7' l (.lst ((zn r).map V.int)) l=some (.lst ((zn r).map V.int)):=AG
     have nlD:l≠D3:=fun z=>by rw[z,heas] at nl;cases nl
     generalize upd H7' l (.lst ((zn r).map V.int))=H8 at s8 hl8 ⊢
     have s48:=s47.trans s8
     have hdg:DGet H8 d (.ref qa) (some (.ref m)):=by
      have:=DGet.t (k:=Ap (zn r)) (b:=qa) (s48 _ _ hd4) (by rw[FY];exact s48 _ _ hqt)
      rw[v1] at this
      exact this
     refine⟨_,rfl,_,rfl,d,_,rfl,hdg,?_⟩
     intro xe dxe nxe ndxe nexe
     refine⟨xe,dxe,[.ref l,.ref m],ef l m,rfl,rfl,AG,fun H9 hx9 kp9=>?_⟩
     have s9:Same H8 H9:=Same.made nxe ndxe kp9
     have s79:=s8.trans s9
     have nxD:xe≠D3:=fun z=>by rw[z,s8 _ _ heas] at nxe;cases nxe
     have nmD:m≠D3:=Ac v3 nD3H4
     have hel9:=Bp hpe
     rw[AH,DK] at hel9
     refine⟨rfl,eas.map V.ref,s79 _ _ heas,CG (by rw[AH];omega),(s7.trans s79).wr hD3,eas++[xe],by rw[AG,Bo];rfl,?_⟩
     rw[F8,EL hri,Bo]
     refine Fc (Paired.mapP hpe fun a e z=>z.mono (FT s79)) ⟨dxe,l,m,?_,?_,?_⟩
     .rw[A7 (by simpa using nxD)];exact hx9
     .rw[A7 (by simpa using nlD)];exact s9 _ _ hl8
     .rw[A7 (by simpa using nmD)]
      show H9 m=some (.lst ((zs ((BU tbl r).getD [])).map V.int))
      rw[v2]
      exact s9 _ _ (s48 _ _ v3)
    .rintro H7 ⟨s7,eas,heas,hpe⟩
     rw[AH,hkl,FG (Aa _)] at hpe
     have s47:=s46.trans s7
     have s07:=s04.trans s47
     have hx7:=s47 _ _ hx4
     refine⟨_,rfl,x,CB,dx,_,rfl,hx7,TB.cl,TB.entries,(by show 3 < 1000;decide),?_⟩
     refine⟨_,rfl,?_⟩
     have nxD:x≠D3:=Ac hx4 nD3H4
     have kh:∀y o,hid [D3] H7 y=some o->(∀dx fs,o≠.ins CB dx fs)->hid [D3] (upd H7 x (.ins CB dx (bfB qb.bn D3 q.bf))) y=some o:=fun y o e n=>by
      have ny:y∉[D3]:=fun m=>by rw[Dd m] at e;cases e
      rw[A7 ny] at e ⊢
      rw[AF (BX e hx7 (n _ _))]
      exact e
     have inH:∀{y:Addr} {o:HO},H4 y=some o->hid [D3] H7 y=some o:=fun {y o} e=>by
      rw[A7 fun m=>by rw[BB.mp m,nD3H4] at e;cases e]
      exact s47 _ _ e
     refine k _ x ⟨qb.bn,D3,q.bf⟩ rows (fun y o e=>?_) nxH hperm hord ⟨⟨dx,AG⟩,kh _ _ (inH (s04 _ _ hB.nm')) (fun _ _ e=>nomatch e),⟨eas,?_,Paired.mapP hpe fun a e z=>?_⟩,kh _ _ (inH hbf4) (fun _ _ e=>nomatch e)⟩ (s06.free hD3)
     .show upd H7 x _ y=some o
      rw[AF (Ac e nxH)]
      exact s07 _ _ e
     .show upd H7 x _ D3=_
      rw[AF (Ar nxD)];exact heas
     .obtain⟨d2,ar,am,w1,w2,w3⟩:=z
      exact⟨d2,ar,am,kh _ _ w1 (fun _ _ e=>by cases e;exact hne rfl),kh _ _ w2 (fun _ _ e=>nomatch e),kh _ _ w3 (fun _ _ e=>nomatch e)⟩
end
end Fb
namespace Fb
open PySem PySem.Spec PyProof.Rows L2
abbrev U0:Stmt:=Vz
def HR (L:AN) (B:Bg) (t:AX) (es:List BH) (fl:List Int):Prop:=match L.judgeAmend B t with
 | .error e=>fl=[(e.1:Int),(e.2:Int)]
 | .ok A=>fl=[]/\es=A.acts.foldl HB B.entries/\(∀e∈es,F2 L e)/\es.length<=2048
structure BookOk (L:AN) (B:Bg):Prop where
 few:B.entries.length<=2048
 ents:∀e∈B.entries,F2 L e
 sorted:Sorted B.entries
theorem BookOk.knows {L:AN}{B:Bg} (h:BookOk L B):ND B (CI B.entries):=⟨fun r=>Xi h.sorted r,fun r t q=>(h.ents _ ((Vm h.sorted).mp q)).2.2⟩
def Wz (K:AD) (CL CK CB CE Pt:Addr):Sp:=fun vs H Q _=>∃(l b a:Addr) (p:LA) (qb:BA) (L:AN) (lfl bfl:List Int) (B:Bg) (t:AX),vs=[.ref l,.ref b,.ref a]/\LockAt CL CK H l p (zs L.name) (L.kinds.map zk) lfl/\Wf L.kinds/\BookAt CB CE H b qb (zs B.name) B.entries bfl/\BookOk L B/\SqL K H a ((zs t).map V.int)/\t.length < 80000/\Bd H Pt (Bl C6) Dx/\
 ∀(H':Hp) (x:Addr) (q:BA) (es:List BH) (fl:List Int),KeepBut [Pt] H H'->BookAt CB CE H' x q (zs B.name) es fl->HR L B t es fl->Q (.ref x) H'
theorem scAmd:Ag ["locker","book","text","amendment","made"] ["locker","book","text"] (AL U0):=⟨rfl,rfl,rfl,by decide +kernel,rfl,by decide +kernel,by decide +kernel⟩
section
variable {P:Program}{w:World}{K:AD}{mg:Str->Option Value}{base:Heap}{CL CK CB CE CC CA Pt:Addr}
theorem ok_amd {f:Addr}{fd:FuncData} (F:Fun K "amended" "amended" U0 f fd) (B0:Blt mg) (hne:CB≠CE) (TA:AmC K CA) (TB:BookC K CB) (c1:Cst mg "MOST_ENTRIES" (.int 2048)) (c2:Cst mg "TOO_MANY_LEFT" (.int 7)) (g1:Gk P w K mg base "read_amendment" 10 ["locker","book","text"] (XO K CL CK CB CE CA CC Pt)) (g2:Has P w K mg "changed" 3 ["book","changes"] (W3 K CB CE CC)) (g3:Has P w K mg "count_lines" 1 ["text"] (Lj K)):
  FnOk P w K mg base CX0 11 f fd ["locker","book","text"] (Wz K CL CK CB CE Pt):=by
 refine F.ok scAmd (fun vs H Q E h=>?_) (fun cdv A outer s H vs Q E hr h=>?_)
 .obtain⟨l,b,a,p,qb,L,lfl,bfl,B,t,rfl,_⟩:=h
  rfl
 .obtain⟨l,b,a,p,qb,L,lfl,bfl,B,t,rfl,hL,hW,hB,hO,hS,hlen,hT,k⟩:=h
  have hr3:Room 3 _:=hr.mono (by decide)
  have hr1:Room 1 _:=hr.mono (by decide)
  refine⟨_,AJ (BN (i:=3) scAmd.nd rfl (Ai rfl) (JX g1 hr (by rfl) (AB (pv 0) (AB (pv 1) (AB (pv 2) AE)))))
   (AJ (BN (i:=4) scAmd.nd rfl (Ai rfl) (AO g2 hr3 (by rfl) (AB (pv 1) (AB (AW (pv 3) rfl) AE))))
   (AJ (BY (pv 4) (AW (pv 3) rfl) rfl)
   (AJ (As (PW.pt (Dv (Aj (Ei hr.units) (AW (pv 4) rfl) (BD AE) (AY _)) (Em (Aj FZ (BV CQ (by rfl) B0.len CM (AB (AW (pv 4) rfl) AE)) (AS c1 rfl) (AY _)))))
    (AK (BY (pv 4) (BD (AB (AS c2 rfl) (AB (AO g3 hr1 (by rfl) (AB (pv 2) AE)) AE))) rfl)) Aw)
   (AK (AM (pv 4)))))),?_⟩
  have hel:B.entries.length < 5000:=by have:=hO.few;omega
  refine⟨_,rfl,_,rfl,_,rfl,l,b,a,p,qb,L,lfl,bfl,B,t,rfl,hL,hW,hB,hel,hO.knows,hS,hlen,hT,fun H1 am q acts fl kb tab1 A1 hRd hal=>?_⟩
  have sT:=Gx hT kb
  obtain⟨dxa,hoa⟩:=A1.ob
  obtain⟨as,hac,hpc⟩:=A1.chs
  refine⟨_,rfl,_,rfl,am,CA,dxa,_,_,rfl,hoa,TA.cl,TA.changes,HU,b,q.ac,qb,_,bfl,B.entries,acts,as,rfl,hB.monoT sT,hac,hpc,hel,hal,fun H2 x q' rows s12 nx hperm hord hM nbe=>?_⟩
  have A2:=A1.mono s12
  obtain⟨dx2,hx2⟩:=hM.ob
  have hoa2:=s12 _ _ hoa
  have haf:H2 q.af=some (.lst (fl.map V.int)):=F7 _ _ A2.af
  have naf:q.af≠q'.be:=fun z=>by
   have h1:H1 q.af=some (.lst (fl.map V.int)):=F7 _ _ A1.af
   rw[z,nbe] at h1;cases h1
  have nxH:H x=none:=by
   cases z:H x with
   | none=>rfl
   | some u =>
    exfalso
    by_cases e:x=Pt
    .obtain⟨ps,hps⟩:=Fn tab1
     rw[e,hps] at nx;cases nx
    .rw[kb x u z (by simpa using e)] at nx;cases nx
  refine⟨_,rfl,am,CA,dxa,_,_,rfl,hoa2,TA.cl,TA.fault,Zj,_,rfl,x,CB,dx2,_,rfl,hx2,TB.cl,TB.fault,(by show 3 < 1000;decide),?_⟩
  have M3:=hM.faultB (fl:=fl) hne hx2 haf naf rfl
  have kb3:KeepBut [Pt] H (upd H2 x (.ins CB dx2 (BE "fault" (.ref q.af) (bfB q'.bn q'.be q'.bf)))):=fun y o e n=>by
   rw[AF (Ac e nxH)]
   exact s12 _ _ (kb y o e n)
  generalize upd H2 x (.ins CB dx2 (BE "fault" (.ref q.af) (bfB q'.bn q'.be q'.bf)))=H3 at M3 kb3 ⊢
  obtain⟨dx3,hx3⟩:=M3.ob
  refine⟨_,rfl,x,CB,dx3,_,_,rfl,hx3,TB.cl,TB.fault,HW (q:=⟨q'.bn,q'.be,q.af⟩),Ax _,fun l4 nl4=>?_⟩
  have s34:Same H3 (upd H3 l4 (.lst [])):=(Same.refl H3).new nl4
  have hl4:upd H3 l4 (.lst []) l4=some (.lst (([]:List Int).map V.int)):=AG
  have M4:=M3.mono s34
  have kb4:KeepBut [Pt] H (upd H3 l4 (.lst [])):=kb3.trans (KeepBut.of s34)
  generalize upd H3 l4 (.lst [])=H4 at s34 hl4 M4 kb4 ⊢
  refine⟨_,_,Ay (SqL.of M4.bf'),Ay (SqL.of hl4),Au _,Au _,?_⟩
  rw[Bx]
  refine⟨_,rfl,?_⟩
  have jud:=bq L B t
  unfold NH at hRd
  cases hrun:Bm (Bq L B) 0 [] (AR t) with
  | error e =>
   rw[hrun] at hRd jud
   have hRd:fl=[(e.1:Int),(e.2:Int)]:=hRd
   refine bF (JJj (by rw[hRd];simp)) (bF rfl ?_)
   refine⟨_,rfl,k _ x _ _ _ kb4 M4 ?_⟩
   unfold HR
   rw[jud]
   exact hRd
  | ok as' =>
   rw[hrun] at hRd jud
   dsimp only at hRd
   by_cases hend:Be t≠[]\/(AR t).length=0
   .rw[JJz hend] at hRd
    refine bF (JJj (by rw[hRd];simp)) (bF rfl ?_)
    refine⟨_,rfl,k _ x _ _ _ kb4 M4 ?_⟩
    unfold HR
    rw[jud]
    show match FO B (Be t) (AR t).length as' with
     | .error e=>_
     | .ok A=>_
    unfold FO
    rw[JJz hend]
    exact hRd
   .rw[JJx hend] at hRd
    obtain⟨hfl,rfl⟩:=hRd
    subst hfl
    have hAr:=Us (AR t) 0 [] acts hrun fun x hx=>nomatch hx
    have hdone:JE (Dq (CI B.entries) acts) rows=acts.foldl HB B.entries:=ab (Ui acts (et hO.sorted fun e he=>(hO.ents e he).2.2) hO.sorted fun x hx=>(hAr x hx).1) (Sl acts hO.sorted) hperm hord
    rw[hdone] at M4
    have hall:=Sk acts B.entries hO.sorted hO.ents hAr
    obtain⟨eas,hbe4,hpe4⟩:=M4.ents
    have hl5:=Bp hpe4
    obtain⟨dx4,hx4⟩:=M4.ob
    refine bT (JJk rfl) ?_
    refine⟨_,rfl,x,CB,dx4,_,_,rfl,hx4,TB.cl,TB.entries,Gq (q:=⟨q'.bn,q'.be,q.af⟩),q'.be,_,rfl,.inl (SqL.of hbe4),_,_,rfl,rfl,_,rfl,?_⟩
    by_cases hmany:2048 < (acts.foldl HB B.entries).length
    .refine bT (JJk (by rw[AH,hl5];omega)) ?_
     have hS4:=(Gx hT kb4).seq hS
     refine⟨_,rfl,a,zs t,rfl,hS4,fun H5 s45=>⟨(show 2<=sizeLine from BP (by decide)),fun l5 nl5=>?_⟩⟩
     have s56:Same H5 (upd H5 l5 (.lst [.int 7,.int ((zs t).count 10:Nat)])):=(Same.refl H5).new nl5
     have s46:=s45.trans s56
     have M6:=M4.mono s46
     have hl6:upd H5 l5 (.lst [.int 7,.int ((zs t).count 10:Nat)]) l5=some (.lst (([7,(((zs t).count 10:Nat):Int)]:List Int).map V.int)):=AG
     have kb6:=kb4.trans (KeepBut.of (xs:=[Pt]) s46)
     have nl5q:l5≠q'.be:=fun z=>by
      rw[z,s45 _ _ hbe4] at nl5;cases nl5
     generalize upd H5 l5 (.lst [.int 7,.int ((zs t).count 10:Nat)])=H6 at M6 hl6 kb6 s46 ⊢
     have hx6:=s46 _ _ hx4
     refine⟨_,rfl,x,CB,dx4,_,rfl,hx6,TB.cl,TB.fault,(by show 3 < 1000;decide),?_⟩
     have M7:=M6.faultB (q:=⟨q'.bn,q'.be,q.af⟩) hne hx6 hl6 nl5q rfl
     refine⟨_,rfl,k _ x _ _ _ (fun y o e n=>?_) M7 ?_⟩
     .rw[AF (Ac e nxH)]
      exact kb6 y o e n
     .unfold HR
      rw[jud]
      show match FO B (Be t) (AR t).length acts with
       | .error e=>_
       | .ok A=>_
      unfold FO
      have hm:IH < (acts.foldl HB B.entries).length:=hmany
      rw[JJx hend,JJz hm,R1]
      rfl
    .refine bF (JJj (by rw[AH,hl5];omega)) ?_
     refine⟨_,rfl,k _ x _ _ _ kb4 M4 ?_⟩
     unfold HR
     rw[jud]
     show match FO B (Be t) (AR t).length acts with
      | .error e=>_
      | .ok A=>_
     unfold FO
     have hm:¬IH < (acts.foldl HB B.entries).length:=hmany
     rw[JJx hend,JJx hm]
     exact⟨rfl,rfl,hall,by omega⟩
end
abbrev U1:Stmt:=Vy
def KZ (t u v:AX):List Int:=if 65536 < v.length then [-2] else if 65536 < t.length\/65536 < u.length then [-2] else match Eo t with
 | .error _=>[-6]
 | .ok L=>match L.judgeBook u with
  | .error _=>[-9,0,0]
  | .ok B=>match L.judgeAmend B v with
   | .error e=>[-9,(e.1:Int),(e.2:Int)]
   | .ok A=>(((A.on B).text L).length:Int)::zs ((A.on B).text L)
def spAmend (K:AD) (PL PB PX:Addr):Sp:=fun vs H Q _=>∃(a b c:Addr) (t u v:AX),vs=[.ref a,.ref b,.ref c]/\Zf K PL PB H a b t u/\SqL K H c ((zs v).map V.int)/\v.length < 80000/\Bd H PX (Bl C6) Dx/\∀(H':Hp) (x:Addr),H' x=some (.lst ((KZ t u v).map V.int))->Q (.ref x) H'
theorem scAmend:Ag ["t","b","c","reading","made"] ["t","b","c"] (AL U1):=⟨rfl,rfl,rfl,by decide +kernel,rfl,by decide +kernel,by decide +kernel⟩
theorem aL:∀(xs:List V),Ce xs none (some 1)=xs.take 1
 | []=>rfl
 | [x]=>rfl
 | x::y::r=>by
  unfold Ce
  have e1:HT.sIx (x::y::r).length 0 none=0:=rfl
  have e2:HT.sIx (x::y::r).length (x::y::r).length (some 1)=1:=by
   show(if (1:Int) < 0 then ((1:Int)+((x::y::r).length:Nat)).toNat else min (1:Int).toNat (x::y::r).length)=1
   rw[JJx (by decide)]
   simp
  rw[e1,e2]
  rfl
theorem iG {CL CK CB CE:Addr}{H:Hp}{t u:AX}{L:AN}{B:Bg} (hj:Eo t=.ok L) (hb:L.judgeBook u=.ok B) (hle:B.entries.length<=2048):BookOk L B:=⟨hle,(TV hb).1,Fm.judgeBook_sorted hb⟩
section
variable {P:Program}{w:World}{K:AD}{mg:Str->Option Value}{base:Heap}{CL CK CB CE CC CA CR PL PB PX:Addr}
theorem ok_amend {f:Addr}{fd:FuncData} (F:Fun K "amend" "amend" U1 f fd) (B:Blt mg) (hPL:PL≠PX) (hPB:PB≠PX) (TR:ReadC K CR) (TB:BookC K CB) (c1:Cst mg "LONGEST_TEXT" (.int 65536)) (c2:Cst mg "TOO_LONG" (.int (-2))) (c3:Cst mg "NO_BOOK" (.int (-9))) (g1:Gk P w K mg base "read_texts" 11 ["t","b"] (Xa K CL CK CB CE CR PL PB)) (g2:Gk P w K mg base "amended" 11 ["locker","book","text"] (Wz K CL CK CB CE PX))
  (g3:Has P w K mg "text_of_book" 3 ["locker","book"] (XZ K CL CK CB CE)) (g4:Has P w K mg "told_with_count" 1 ["told"] XX):FnOk P w K mg base CX0 12 f fd ["t","b","c"] (spAmend K PL PB PX):=by
 refine F.ok scAmend (fun vs H Q E h=>?_) (fun cdv A outer s H vs Q E hr h=>?_)
 .obtain⟨a,b,c,t,u,v,rfl,_⟩:=h
  rfl
 .obtain⟨a,b,c,t,u,v,rfl,X,hC,hvl,hT,k⟩:=h
  have hr1:Room 1 _:=hr.mono (by decide)
  have hr3:Room 3 _:=hr.mono (by decide)
  refine⟨_,AJ (As (Aj FZ (BV CQ (by rfl) B.len CM (AB (pv 2) AE)) (AS c1 rfl) (AY _)) (AK (AM (BD (AB (AS c2 rfl) AE)))) Aw)
   (AJ (BN (i:=3) scAmend.nd rfl (Ai rfl) (JX g1 hr (by rfl) (AB (pv 0) (AB (pv 1) AE))))
   (AJ (As (Aj (Ei hr.units) (E5 FA (AW (pv 3) rfl) Fe (Ek AU)) (BD (AB (AS c3 rfl) AE)) (AY _)) (AK (AM (BD (AB (AS c3 rfl) (AB AU (AB AU AE)))))) Aw)
   (AJ (As (Aj (Ey hr.units) (AW (pv 3) rfl) (BD AE) (AY _)) (AK (AM (AW (pv 3) rfl))) Aw)
   (AJ (BN (i:=4) scAmend.nd rfl (Ai rfl) (JX g2 hr (by rfl) (AB (AW (pv 3) rfl) (AB (AW (pv 3) rfl) (AB (pv 2) AE)))))
   (AJ (As (Aj (Ey hr.units) (AW (pv 4) rfl) (BD AE) (AY _)) (AK (AM (C0 Eh (BD (AB (AS c3 rfl) AE)) (AW (pv 4) rfl)))) Aw)
   (AK (AM (AO g4 hr1 (by rfl) (AB (AO g3 hr3 (by rfl) (AB (AW (pv 3) rfl) (AB (pv 4) AE))) AE))))))))),?_⟩
  refine⟨_,rfl,c,_,rfl,.inl hC,_,_,rfl,rfl,_,rfl,?_⟩
  unfold KZ at k
  by_cases hv:65536 < v.length
  .rw[JJz hv] at k
   exact bT (JJk (by rw[AH,Al];omega)) ⟨(show 1<=sizeLine from BP (by decide)),fun l2 nl2=>k _ l2 AG⟩
  rw[JJx hv] at k
  refine bF (JJj (by rw[AH,Al];omega)) ?_
  refine⟨_,rfl,_,rfl,a,b,t,u,rfl,X.ta,X.ub,X.lt,X.lu,X.pl,X.pb,fun H1 x dx r0 rf lv bv kb t1 t2 hx hrf hR=>?_⟩
  refine⟨_,rfl,x,CR,dx,_,_,rfl,hx,TR.cl,TR.refusal,Ht,_,rfl,r0,_,rfl,SqL.of hrf,fun lq nq=>?_⟩
  rw[aL,<- List.map_take]
  refine⟨(show 1<=sizeLine from BP (by decide)),fun l nl=>?_⟩
  have s1:Same H1 (upd H1 lq (.lst ((rf.take 1).map V.int))):=(Same.refl H1).new nq
  have hq1:upd H1 lq (.lst ((rf.take 1).map V.int)) lq=some (.lst ((rf.take 1).map V.int)):=AG
  generalize upd H1 lq (.lst ((rf.take 1).map V.int))=H2 at s1 hq1 nl ⊢
  have s2:Same H2 (upd H2 l (.lst [.int (-9)])):=(Same.refl H2).new nl
  have hl2:upd H2 l (.lst [.int (-9)]) l=some (.lst (([-9]:List Int).map V.int)):=AG
  generalize upd H2 l (.lst [.int (-9)])=H3 at s2 hl2 ⊢
  have s13:=s1.trans s2
  refine⟨_,_,Ay (SqL.of (s2 _ _ hq1)),Ay (SqL.of hl2),Au _,Au _,?_⟩
  rw[Bx]
  refine⟨_,rfl,?_⟩
  have hx3:=s13 _ _ hx
  have hrf3:=s13 _ _ hrf
  have kb3:KeepBut [PL,PB] H H3:=kb.trans (KeepBut.of s13)
  have ref:rf.take 1≠[-9]->rf≠[]->(∀(H':Hp) (x:Addr),H' x=some (HO.lst (rf.map V.int))->Q (.ref x) H')->(decide (rf.take 1=[-9])=false):=fun h _ _=>JJj h
  unfold Gp at hR
  by_cases hm:65536 < t.length\/65536 < u.length
  .rw[JJz hm] at hR k
   subst hR
   refine bF rfl ?_
   refine⟨_,rfl,x,CR,dx,_,_,rfl,hx3,TR.cl,TR.refusal,Ht,Ax _,fun l4 nl4=>?_⟩
   have s4:Same H3 (upd H3 l4 (.lst [])):=(Same.refl H3).new nl4
   refine⟨_,_,Ay (SqL.of (s4 _ _ hrf3)),Ay (ns:=[]) (SqL.of AG),Au _,Au _,?_⟩
   rw[Bx]
   refine⟨_,rfl,bT rfl ?_⟩
   exact⟨_,rfl,x,CR,dx,_,_,rfl,s4 _ _ hx3,TR.cl,TR.refusal,Ht,k _ r0 (s4 _ _ hrf3)⟩
  rw[JJx hm] at hR k
  cases hj:Eo t with
  | error e =>
   rw[hj] at hR k
   have hR:rf=[-6]:=hR
   have k:∀(H':Hp) (x:Addr),H' x=some (HO.lst (([-6]:List Int).map V.int))->Q (.ref x) H':=k
   subst hR
   refine bF rfl ?_
   refine⟨_,rfl,x,CR,dx,_,_,rfl,hx3,TR.cl,TR.refusal,Ht,Ax _,fun l4 nl4=>?_⟩
   have s4:Same H3 (upd H3 l4 (.lst [])):=(Same.refl H3).new nl4
   refine⟨_,_,Ay (SqL.of (s4 _ _ hrf3)),Ay (ns:=[]) (SqL.of AG),Au _,Au _,?_⟩
   rw[Bx]
   refine⟨_,rfl,bT rfl ?_⟩
   exact⟨_,rfl,x,CR,dx,_,_,rfl,s4 _ _ hx3,TR.cl,TR.refusal,Ht,k _ r0 (s4 _ _ hrf3)⟩
  | ok L =>
  rw[hj] at hR k
  dsimp only at hR k
  cases hb:L.judgeBook u with
  | error e =>
   rw[hb] at hR k
   have hR:rf=[-9,(e.1:Int),(e.2:Int)]:=hR
   have k:∀(H':Hp) (x:Addr),H' x=some (HO.lst (([-9,0,0]:List Int).map V.int))->Q (.ref x) H':=k
   subst hR
   exact bT rfl ⟨(show 3<=sizeLine from BP (by decide)),fun l4 nl4=>k _ l4 AG⟩
  | ok Bk =>
  rw[hb] at hR k
  obtain⟨hrf0,xb,q,rfl,hB,hle,y,p,rfl,hLk,hW⟩:=hR
  dsimp only at k
  subst hrf0
  refine bF rfl ?_
  refine⟨_,rfl,x,CR,dx,_,_,rfl,hx3,TR.cl,TR.refusal,Ht,Ax _,fun l4 nl4=>?_⟩
  have s4:Same H3 (upd H3 l4 (.lst [])):=(Same.refl H3).new nl4
  have hl4:upd H3 l4 (.lst []) l4=some (.lst (([]:List Int).map V.int)):=AG
  generalize upd H3 l4 (.lst [])=H4 at s4 hl4 ⊢
  refine⟨_,_,Ay (SqL.of (s4 _ _ hrf3)),Ay (SqL.of hl4),Au _,Au _,?_⟩
  rw[Bx]
  refine⟨_,rfl,bF rfl ?_⟩
  have s14:=s13.trans s4
  have kb4:KeepBut [PL,PB] H H4:=kb.trans (KeepBut.of s14)
  have hT4:=iE hPL hPB (Fn X.pl) (Fn X.pb) kb4 hT
  have sT:SameT H H4:=fun b o e n=>kb4 b o e fun m=>by
   obtain⟨q1,e1⟩:=Fn X.pl
   obtain⟨q2,e2⟩:=Fn X.pb
   rcases AQ.mp m with z | z
   .rw[z,e1] at e;cases e;exact n _ rfl
   .rw[BB.mp z,e2] at e;cases e;exact n _ rfl
  have hC4:=sT.seq hC
  have hB4:=hB.mono s14
  have hL4:=hLk.mono s14
  have hx4:=s14 _ _ hx
  have hO:=iG (CL:=CL) (CK:=CK) (CB:=CB) (CE:=CE) (H:=H4) hj hb hle
  refine⟨_,rfl,x,CR,dx,_,_,rfl,hx4,TR.cl,TR.locker,Ug,_,rfl,x,CR,dx,_,_,rfl,hx4,TR.cl,TR.book,eg,_,rfl,y,xb,c,p,q,L,[],[],Bk,v,rfl,hL4,hW,hB4,hO,hC4,hvl,hT4,fun H5 xm qm es fl kb5 hM hR2=>?_⟩
  have sT5:=Gx hT4 kb5
  obtain⟨dxm,hxm⟩:=hM.ob
  refine⟨_,rfl,xm,CB,dxm,_,_,rfl,hxm,TB.cl,TB.fault,HW,Ax _,fun l6 nl6=>?_⟩
  have s6:Same H5 (upd H5 l6 (.lst [])):=(Same.refl H5).new nl6
  have hl6:upd H5 l6 (.lst []) l6=some (.lst (([]:List Int).map V.int)):=AG
  generalize upd H5 l6 (.lst [])=H6 at s6 hl6 ⊢
  have M6:=hM.mono s6
  refine⟨_,_,Ay (SqL.of M6.bf'),Ay (SqL.of hl6),Au _,Au _,?_⟩
  rw[Bx]
  refine⟨_,rfl,?_⟩
  have hxm6:=s6 _ _ hxm
  unfold HR at hR2
  cases hja:L.judgeAmend Bk v with
  | error e =>
   rw[hja] at hR2 k
   have hR2:fl=[(e.1:Int),(e.2:Int)]:=hR2
   have k:∀(H':Hp) (x:Addr),H' x=some (HO.lst (([-9,(e.1:Int),(e.2:Int)]:List Int).map V.int))->Q (.ref x) H':=k
   subst hR2
   refine bT rfl ?_
   refine⟨(show 1<=sizeLine from BP (by decide)),fun l7 nl7=>?_⟩
   have s7:Same H6 (upd H6 l7 (.lst [.int (-9)])):=(Same.refl H6).new nl7
   refine⟨_,rfl,xm,CB,dxm,_,_,rfl,s7 _ _ hxm6,TB.cl,TB.fault,HW,l7,qm.bf,_,_,rfl,rfl,AG,s7 _ _ M6.bf',(show 3<=sizeLine from BP (by decide)),fun l8 nl8=>k _ l8 ?_⟩
   rw[AG]
   rfl
  | ok Am =>
   rw[hja] at hR2 k
   obtain⟨hfl,hes,hall,hfew⟩:=hR2
   subst hfl
   have k:∀(H':Hp) (x:Addr),H' x=some (HO.lst (((((Am.on Bk).text L).length:Int)::zs ((Am.on Bk).text L)).map V.int))->Q (.ref x) H':=k
   refine bF rfl ?_
   have sT6:SameT H4 H6:=sT5.trans (Same.t s6)
   have eB:(⟨Bk.name,es⟩:Bg)=Am.on Bk:=by rw[hes];rfl
   have hnm:=(TV hb).2
   have hln:=bu hj
   refine⟨_,rfl,x,CR,dx,_,_,rfl,sT6 _ _ hx4 (fun _ z=>nomatch z),TR.cl,TR.locker,Ug,_,rfl,y,xm,p,qm,L,[],[],Bk.name,es,rfl,hL4.monoT sT6,M6,fun e he=>⟨(hall e he).1,(hall e he).2.1⟩,by omega,by omega,by omega,fun H7 l7 s7 n7 h7=>?_⟩
   rw[eB] at h7
   refine⟨l7,zs ((Am.on Bk).text L),rfl,h7,?_,fun H8 l8 s8 n8 h8=>k H8 l8 ?_⟩
   .rw[<- eB,Xj,Al,BC]
    have h9:=Nn (L:=L) (es:=es) fun e he=>⟨(hall e he).1,(hall e he).2.1⟩
    have h10:(Ec L Bk.name).length < 100:=by
     have:=congrArg FE (Ny L Bk.name)
     have e4:(BQ "book").length=4:=by decide
     have e3:(BQ "for").length=3:=by decide
     simp only[BC,Al,Bz,e4,e3] at this
     omega
    have h11:137 * es.length<=137 * 2048:=YX _ hfew
    omega
   .rw[h8,Al]
end
end Fb
namespace L2
open PySem PySem.Spec PyProof.Rows
open PySem.W (WData Codec OpenSpec Well WellAll ReadsW CodeHd tabObj TabsAt noTabs)
mutual
theorem ah {K:AD}{H H':Hp} (s:Same H H'):∀(d:WData) (v:V),Dw K H v d->Dw K H' v d
 | .none,_,h=>by cases h;exact .non
 | .bool _,_,h=>by cases h;exact .bl _
 | .int _,_,h=>by cases h;exact .int _
 | .str _,_,h=>by cases h;exact .str _
 | .bytes _,_,h=>by cases h;exact .byt _
 | .list ds,_,h=>by
  cases h with
  | lst h1 h2=>exact .lst (s.seq h1) (Kt s ds _ h2)
 | .tuple ds,_,h=>by
  cases h with
  | tup h1 h2 =>
   refine .tup ?_ (Kt s ds _ h2)
   rcases h1 with (q | ⟨o,q⟩) | q
   .exact .inl (.inl (s _ _ q))
   .exact .inl (.inr ⟨o,s _ _ q⟩)
   .exact .inr q
 | .dict _,_,h=>by cases h
 | .set _,_,h=>by cases h
 | .frozenset _,_,h=>by cases h
 | .bytearray _,_,h=>by cases h
 | .float _,_,h=>by cases h
 | .obj _ _,_,h=>by cases h
theorem Kt {K:AD}{H H':Hp} (s:Same H H'):∀(ds:List WData) (vs:List V),Dn K H vs ds->Dn K H' vs ds
 | [],_,h=>by cases h;exact .nil
 | d::ds,_,h=>by
  cases h with
  | cons h1 h2=>exact .cons (ah s d _ h1) (Kt s ds _ h2)
end
def G7 (ps:List Addr) (H:Hp):Hp:=fun b=>if b∈ps then some (.tbl #[]) else H b
theorem Pk {ps:List Addr}{H:Hp}{b:Addr} (h:b∈ps):G7 ps H b=some (.tbl #[]):=JJz h
theorem Pl {ps:List Addr}{H:Hp}{b:Addr} (h:b∉ps):G7 ps H b=H b:=JJx h
theorem Z7 {P:Program}{w:World}{K:AD}{mg mb:Str->Option Value}{k:Nat}{fa:Addr}{fd:FuncData}{ps:List Str}{sp:Sp}{s1:Shared}{vals:List Value}{ds:List WData}{R:ZG}{cl:Str->Option Addr}{d0:WData}{tabs:List (Addr×Addr)}
  (KX:K.In s1.heap) (hns:s1.heap.Ns mainGlobals mg) (hb:s1.heap.Ns builtinsNs mb) (hbb:∀x:Str,x≠"__name__"->mb x=bootBuiltins x) (hlim:s1.heap.NoLimit) (hg:s1.gens=#[]) (hbm:F1 mg s1.heap) (hT:TabsAt tabs s1.heap) (hKT:noTabs K=true)
  (hwl:WellAll w.params s1.heap vals ds) (hpl:EF ds=true) (hwt:∀d∈ds,d.weight<=1048576) (hr:Room k callerA)
  (F:∀base:Heap,K.In base->base.Ns mainGlobals mg->(∀q∈tabs,CodeHd base q.1 q.2)->F1 mg base->FnOk P w K mg base CX0 k fa fd ps sp)
  (hbind:∀(s:Shared) (us:List Value),us.length=ps.length->BindsTo s fd ⟨us,[]⟩ (ps.zip us)) (hlen:ds.length=ps.length)
  (hsp:∀(H:Hp) (xs:List V),(∀q∈tabs,H q.2=some (.tbl #[]))->Dn K H xs ds->sp xs H (fun v H'=>Dw K H' v d0) E0):
  codeAny (model P w) callerA (.call (.ref fa) ⟨vals,[]⟩) (fun r s'=>∃u as,r=.ok (.ret u)/\ReadsW R cl s'.heap u d0 as/\OldK s1.heap s'.heap/\s'.os=s1.os/\AllBare s'.gens) s1:=by
 obtain⟨A,hoU,ar⟩:=Ka ds vals hwl hpl hwt
 have tabO:∀b∈tabs.map (·.2),s1.heap.get? b=some (tabObj #[]):=fun b m=>by
  obtain⟨q,hq,rfl⟩:=Bb.mp m
  exact(hT q hq).2
 have argN:∀b∈tabs.map (·.2),Cm K s1.heap A b=none:=fun b m=>by
  cases e:Cm K s1.heap A b with
  | none=>rfl
  | some u =>
   obtain⟨_,vs,_,_,⟨z,_⟩ | ⟨z,_⟩⟩:=NP ar e <;> (rw[tabO b m] at z;cases z)
 have kN:∀b∈tabs.map (·.2),K.lookup b=none:=fun b m=>by
  cases e:K.lookup b with
  | none=>rfl
  | some o =>
   have z:=KX b o e
   rw[tabO b m] at z
   cases z
   have h2:=Cu.mp hKT (b,_) (PySem.W.mem_of_lookupK e)
   exact absurd (show false=true from h2) A8
 have sA:Same (Cm K s1.heap A) (G7 (tabs.map (·.2)) (Cm K s1.heap A)):=fun b o e=>by
  rw[Pl fun m=>by rw[argN b m] at e;cases e]
  exact e
 have okA:HOk P w (Cm K s1.heap A) s1.heap:=Zr ar
 have okT:HOk P w (G7 (tabs.map (·.2)) (Cm K s1.heap A)) s1.heap:=fun b o e=>by
  by_cases m:b∈tabs.map (·.2)
  .rw[Pk m] at e
   cases e
   exact tabO b m
  .rw[Pl m] at e
   exact(okA b o e).stay (fun _ _ _ q=>q) (fun c q=>sA c _ q) fun c xs q=>sA c _ q
 have kinds:∀b u,G7 (tabs.map (·.2)) (Cm K s1.heap A) b=some u->K.lookup b=none/\((u=.tbl #[]/\b∈tabs.map (·.2))\/∃o v,u=.frz o v/\∃c vs,o={ cls:=.type c,data:=.seq vs }/\s1.heap.get? b=some o):=fun b u e=>by
  by_cases m:b∈tabs.map (·.2)
  .rw[Pk m] at e
   cases e
   exact⟨kN b m,.inl ⟨rfl,m⟩⟩
  .rw[Pl m] at e
   obtain⟨h1,vs,_,_,⟨z,rfl⟩ | ⟨z,rfl⟩⟩:=NP ar e
   .exact⟨h1,.inr ⟨_,_,rfl,_,_,rfl,z⟩⟩
   .exact⟨h1,.inr ⟨_,_,rfl,_,_,rfl,z⟩⟩
 have hS:=Kt sA _ _ (Ku KX ar ds vals hwl hpl hoU)
 have hV:=IF hoU
 have htb:∀q∈tabs,G7 (tabs.map (·.2)) (Cm K s1.heap A) q.2=some (.tbl #[]):=fun q hq=>Pk (Bb.mpr ⟨q,hq,rfl⟩)
 generalize G7 (tabs.map (·.2)) (Cm K s1.heap A)=H at okT kinds hS htb
 have free:∀{b:Addr} {o:Obj},s1.heap.get? b=some o->o≠tabObj #[]->(∀vs n,o.data≠.seq vs n)->H b=none:=fun {b o} e n1 n2=>by
  cases q:H b with
  | none=>rfl
  | some u =>
   rcases(kinds b u q).2 with ⟨_,m⟩ | ⟨o',v,_,c,vs,rfl,z⟩
   .rw[tabO b m] at e;cases e;exact(n1 rfl).elim
   .rw[z] at e;cases e;exact(n2 _ _ rfl).elim
 have at_:∀{b:Addr} {o:Obj},s1.heap.get? b=some o->H b=none->(C5 s1.heap H).get? b=some o:=fun e n=>S4 e n
 have dictK:∀{b:Addr} {o:Obj} {es:Array DictEntry} {ep:Nat},s1.heap.get? b=some o->o.data=.dict es ep->(C5 s1.heap H).get? b=some o:=fun e d=>at_ e (free e (fun z=>by rw[z] at d;cases d) fun vs n z=>by rw[z] at d;cases d)
 have nsK:∀{b:Addr} {m:Str->Option Value},s1.heap.Ns b m->(C5 s1.heap H).Ns b m:=fun ⟨o,es,ep,e,d,r⟩=>⟨o,es,ep,dictK e d,d,r⟩
 have hKb:K.In (C5 s1.heap H):=fun b o e=>at_ (KX b o e) (by
  cases q:H b with
  | none=>rfl
  | some u=>rw[(kinds b u q).1] at e;cases e)
 have hM:Mod K mg (C5 s1.heap H):=⟨hKb,nsK hns,⟨mb,nsK hb,hbb⟩,let ⟨mc,h1,h2⟩:=hlim;⟨mc,nsK h1,h2⟩⟩
 have e0:Env0 P w K mg (C5 s1.heap H) callerA [] s1 H:=⟨rfl,hM,fun b o e=>T8 e,J9 (S5 _ _),trivial,fun b hb=>absurd (show b∈([]:List Addr) from hb) (by simp),okT,.of_eq hg⟩
 have hCd:∀q∈tabs,CodeHd (C5 s1.heap H) q.1 q.2:=fun q hq=>by
  obtain⟨o,vs,f1,t1,f2,t2,f3,f4,t4,e1,e2,e3,r⟩:=(hT q hq).1
  exact⟨o,vs,f1,t1,f2,t2,f3,f4,t4,at_ e1 (free e1 (fun z=>by rw[z] at e2;cases e2) fun vs n z=>by rw[z] at e3;cases e3),e2,e3,r⟩
 have hBm:F1 mg (C5 s1.heap H):=by
  obtain⟨bm,ob,b1,b2,b3,b4,b5,b6⟩:=hbm
  exact⟨bm,ob,b1,b2,at_ b3 (free b3 (fun z=>by rw[z] at b4;cases b4) fun vs n z=>by rw[z] at b6;cases b6),b4,b5,b6⟩
 have hl:vals.length=ps.length:=by rw[Ly hwl];exact hlen
 refine Gb ((F _ hKb (nsK hns) hCd hBm).run callerA [] s1 H ⟨vals,[]⟩ vals (vals.map toV) _ _ hr e0 (hbind s1 vals hl) hV (hsp H _ htb hS)) fun r s' x=>?_
 cases r with
 | error e=>exact Bf x
 | ok fl =>
  cases fl with
  | next=>exact Bf x
  | brk=>exact Bf x
  | cont=>exact Bf x
  | ret u =>
   obtain⟨v,H',os,bare,un,hok',r',q⟩:=x
   have kept:∀b o,s1.heap.get? b=some o->b∉tabs.map (·.2)->s'.heap.get? b=some o:=fun b o e n=>by
    cases q2:H b with
    | none=>exact un.keep b o e q2 (by intro z;exact absurd (show b∈([]:List Addr) from z) (by simp)) (by simp)
    | some u2 =>
     rcases(kinds b u2 q2).2 with ⟨_,m⟩ | ⟨o',v',rfl,_,_,_,z⟩
     .exact(n m).elim
     .have z2:=un.frzs b o' _ q2
      obtain⟨e2,_⟩:=hok' b _ z2
      rw[z] at e
      cases e
      exact e2
   have grown:∀b o,s1.heap.get? b=some o->b∈tabs.map (·.2)->isCodeTable s1.heap b/\o=tabObj #[]/\∃qs,s'.heap.get? b=some (tabObj qs):=fun b o e m=>by
    obtain⟨q,hq,rfl⟩:=Bb.mp m
    have e2:=(hT q hq).2
    rw[e] at e2
    obtain⟨more,z⟩:=un.tbls _ _ (htb q hq)
    exact⟨((hT q hq).1.tab (hT q hq).2).isCodeTable,Af e2,_,hok' _ _ z⟩
   have KX':K.In s'.heap:=fun b o e=>kept b o (KX b o e) fun m=>by rw[kN b m] at e;cases e
   obtain⟨as,hrd⟩:=Dw.reads (R:=R) (cl:=cl) hok' KX' d0 v u q r'
   refine⟨u,as,rfl,hrd,⟨fun b o e=>?_,fun b o e=>?_⟩,os,bare⟩
   .by_cases m:b∈tabs.map (·.2)
    .obtain⟨h1,rfl,qs,h2⟩:=grown b o e m
     exact .inr (.inl ⟨h1,rfl,#[],qs,rfl,by rw[Array.empty_append];exact h2⟩)
    .exact .inl (kept b o e m)
   .by_cases m:b∈tabs.map (·.2)
    .obtain⟨_,_,qs,h2⟩:=grown b o e m
     exact⟨_,h2⟩
    .exact⟨o,kept b o e m⟩
end L2
namespace Fb
open PySem PySem.Spec PyProof.Rows L2
open PySem.W (nsIn codeIn keepIn findIn isFn fnOf plainGet hasDictIn plainOver makesIn)
section
variable {K:AD}{h:Heap}{mg:Str->Option Value}
theorem aU {x nm qual:Str}{st:Stmt}{ps:List Str}{f:Addr}{oc kV doc pm cdv ct:Value}{od an:Option Addr}{osl:Array (Option Value)} (X:K.In h) (G:h.Ns mainGlobals mg) (a:nsIn K mainGlobals x=some (some (.ref f)))
  (l:K.lookup f=some ⟨oc,od,.func (fnOf nm qual (DD st) (Cq st) (AL st) .none kV doc pm an cdv ct),osl⟩) (c:codeIn K cdv qual=true) (k:keepIn K (.ref f)=true)
  (b:∀(kV doc pm:Value) (an:Option Addr) (cdv ct:Value) (us:List Value),us.length=ps.length->bindArgs (fnOf nm qual (DD st) (Cq st) (AL st) .none kV doc pm an cdv ct) ⟨us,[]⟩=pure (ps.zip us)):
  ∃f fd,Def K mg x nm qual st ps f fd/\fd.code=cdv/\∀(s:Shared) (us:List Value),us.length=ps.length->BindsTo s fd ⟨us,[]⟩ (ps.zip us) :=
 ⟨f,_,⟨Hb l c k,HP X G a,(Hb l c k).binds b⟩,rfl,fun s us hl=>.of_eq (b _ _ _ _ _ _ us hl)⟩
theorem aV {x nm qual:Str}{st:Stmt}{ps:List Str} (cd:Addr) {f:Addr}{oc kV doc pm ct:Value}{od an:Option Addr}{osl:Array (Option Value)} (X:K.In h) (G:h.Ns mainGlobals mg) (a:nsIn K mainGlobals x=some (some (.ref f)))
  (l:K.lookup f=some ⟨oc,od,.func (fnOf nm qual (DD st) (Cq st) (AL st) .none kV doc pm an (.ref cd) ct),osl⟩) (c:codeIn K (.ref cd) qual=true) (k:keepIn K (.ref f)=true)
  (b:∀(kV doc pm:Value) (an:Option Addr) (cdv ct:Value) (us:List Value),us.length=ps.length->bindArgs (fnOf nm qual (DD st) (Cq st) (AL st) .none kV doc pm an cdv ct) ⟨us,[]⟩=pure (ps.zip us)):
  ∃f fd,Def K mg x nm qual st ps f fd/\fd.code=.ref cd/\∀(s:Shared) (us:List Value),us.length=ps.length->BindsTo s fd ⟨us,[]⟩ (ps.zip us) :=
 ⟨f,_,⟨Hb l c k,HP X G a,(Hb l c k).binds b⟩,rfl,fun s us hl=>.of_eq (b _ _ _ _ _ _ us hl)⟩
structure ClsD (K:AD) (mg:Str->Option Value) (x qual:Str) (st:Stmt) (ps:List Str) (C f:Addr) (fd:FuncData):Prop where
 at_:mg x=some (.ref C)
 cl:Cls K C
 mks:Mk K C f
 fn:Fun K "__init__" qual st f fd
 bd:Binds K fd ps []
theorem aA {x qual:Str}{st:Stmt}{ps:List Str} (C:Addr) {f:Addr}{oc kV doc pm cdv ct:Value}{od an:Option Addr}{osl:Array (Option Value)} (X:K.In h) (G:h.Ns mainGlobals mg) (a:nsIn K mainGlobals x=some (some (.ref C)))
  (a1:findIn K (.ref C) "__init__"=some (some (.ref f))) (i1:isFn K (.ref f)=true)
  (l:K.lookup f=some ⟨oc,od,.func (fnOf "__init__" qual (DD st) (Cq st) (AL st) .none kV doc pm an cdv ct),osl⟩) (c:codeIn K cdv qual=true) (k:keepIn K (.ref f)=true)
  (pg:plainGet K C Qv=true) (hd:hasDictIn K C=true) (po:plainOver K C=true) (sa:findIn K (.ref C) "__setattr__"=some (some (.builtin "object.__setattr__"))) (mk:makesIn K C=true) (kc:keepIn K (.ref C)=true)
  (b:∀(kV doc pm:Value) (an:Option Addr) (cdv ct:Value) (us:List Value),us.length=ps.length->bindArgs (fnOf "__init__" qual (DD st) (Cq st) (AL st) .none kV doc pm an cdv ct) ⟨us,[]⟩=pure (ps.zip us)):
  ∃f fd,ClsD K mg x qual st ps C f fd :=
 ⟨f,_,HP X G a,⟨pg,hd,po,sa⟩,⟨mk,a1,i1,kc⟩,Hb l c k,(Hb l c k).binds b⟩
theorem aE {x:Str}{n:Int}{t:Tok} (X:K.In h) (G:h.Ns mainGlobals mg) (a:nsIn K mainGlobals x=some (some (.int n t))):Cst mg x (.int n):=⟨_,HP X G a,⟨t,rfl⟩⟩
theorem aF {x z:Str}{t:Tok} (X:K.In h) (G:h.Ns mainGlobals mg) (a:nsIn K mainGlobals x=some (some (.str z t))):Cst mg x (.str z):=⟨_,HP X G a,⟨t,rfl⟩⟩
theorem aG {x y1 y2 y3:Str}{t1 t2 t3:Tok}{a:Addr}{od:Option Addr}{n:Nat}{sl:Array (Option Value)} (X:K.In h) (G:h.Ns mainGlobals mg) (e:nsIn K mainGlobals x=some (some (.ref a))) (l:K.lookup a=some ⟨.type "tuple",od,.seq #[.str y1 t1,.str y2 t2,.str y3 t3] n,sl⟩):
 NC K mg x ([y1,y2,y3].map V.str):=⟨a,HP X G e,fun H=>.inr ⟨_,_,_,l,rfl,rfl,(show 3<=sizeLine from BP (by decide)),.cons ⟨t1,rfl⟩ (.cons ⟨t2,rfl⟩ (.cons ⟨t3,rfl⟩ .nil))⟩⟩
theorem dJ {x:Str} (X:K.In h) (G:h.Ns mainGlobals mg) (e:nsIn K mainGlobals x=some none):mg x=none:=PySem.W.mg_none_of X G e
end
theorem Def.hasB {P:Program}{w:World}{K:AD}{mg:Str->Option Value}{base:Heap}{x nm qual:Str}{st:Stmt}{ps:List Str}{f:Addr}{fd:FuncData}{k:Nat}{sp:Sp} (D:Def K mg x nm qual st ps f fd) (h:FnOk P w K mg base CX0 k f fd ps sp):Gk P w K mg base x k ps sp :=
 ⟨f,fd,D.at_,D.fn.kp,D.bd,h⟩
theorem ClsD.has {P:Program}{w:World}{K:AD}{mg:Str->Option Value}{x qual:Str}{st:Stmt}{ps:List Str}{C f:Addr}{fd:FuncData}{k:Nat}{sp:Sp} (D:ClsD K mg x qual st ps C f fd) (h:∀base:Heap,FnOk P w K mg base CX0 k f fd ps sp):D7 P w K mg x C k ps sp :=
 ⟨D.at_,f,fd,D.mks,D.bd,h⟩
theorem zs_of:∀{l:List Int},(∀n∈l,0<=n/\n<=255)->zs (l.map fun (n:Int)=>DP n.toNat)=l
 | [],_=>rfl
 | n::l,h=>by
  have ih:=zs_of (l:=l) fun m hm=>h m (Av _ hm)
  obtain⟨h1,h2⟩:=h n AV
  show((DP n.toNat).toNat:Int)::zs (l.map fun (n:Int)=>DP n.toNat)=n::l
  rw[ih,UInt8.toNat_ofNat']
  have:n.toNat % 2 ^ 8=n.toNat:=Nat.mod_eq_of_lt (by omega)
  rw[this,Int.toNat_of_nonneg h1]
theorem Pa {l:List Int} (h:∀n∈l,0<=n/\n<=255):Ju l=some (l.map fun (n:Int)=>DP n.toNat):=by
 unfold Ju
 rw[JJz]
 unfold NeutralIO.bytes
 rw[Cu]
 intro n hn
 rw[BL,decide_eq_true_iff,decide_eq_true_iff]
 exact h n hn
end Fb
namespace Fb
open PySem PySem.Spec PyProof.Rows L2
theorem amend_due {t u s:List Int} (ht:∀n∈t,0<=n/\n<=255) (hu:∀n∈u,0<=n/\n<=255) (hs:∀n∈s,0<=n/\n<=255):PyWqbacu.amend t u s=KZ (t.map fun (n:Int)=>DP n.toNat) (u.map fun (n:Int)=>DP n.toNat) (s.map fun (n:Int)=>DP n.toNat):=by
 show(match X6 [[6],t,u,s] with
  | some x=>(MG x).ret::(((MG x).nums.map fun (n:Nat)=>(n:Int))++(MG x).bytes.map fun (b:UInt8)=>(b.toNat:Int))
  | none=>[])=_
 have e:X6 [[6],t,u,s]=some (.amend (t.map fun (n:Int)=>DP n.toNat) (u.map fun (n:Int)=>DP n.toNat) (s.map fun (n:Int)=>DP n.toNat)):=by
  show(do return FlagsC3.Call.amend (<- Ju t) (<- Ju u) (<- Ju s))=_
  rw[Pa ht,Pa hu,Pa hs]
  rfl
 rw[e]
 generalize (t.map fun (n:Int)=>DP n.toNat)=tb
 generalize (u.map fun (n:Int)=>DP n.toNat)=ub
 generalize (s.map fun (n:Int)=>DP n.toNat)=m
 unfold MG FlagsC3.ofBook KZ
 dsimp only
 by_cases hv:65536 < m.length
 .have hv':II < m.length:=hv
  simp only[JJz hv',JJz hv]
  rfl
 .have hv':¬II < m.length:=hv
  simp only[JJx hv',JJx hv]
  by_cases hm:65536 < tb.length\/65536 < ub.length
  .have hm':II < tb.length\/II < ub.length:=hm
   simp only[JJz hm']
   rw[JJz hm]
   rfl
  .have hm':¬(II < tb.length\/II < ub.length):=hm
   simp only[JJx hm']
   rw[JJx hm]
   cases Eo tb with
   | error e=>rfl
   | ok L =>
    dsimp only
    cases L.judgeBook ub with
    | error e=>rfl
    | ok B =>
     dsimp only
     cases L.judgeAmend B m with
     | error e=>rfl
     | ok A=>rfl
end Fb
namespace Fb
open PySem PySem.Spec PyProof.Rows L2
open PySem.W (nsIn codeIn keepIn findIn isFn fnOf plainGet hasDictIn plainOver makesIn)
def JI (h:Heap):List Addr->AD
 | []=>[]
 | a::as=>match h.get? a with
  | some o=>(a,o)::JI h as
  | none=>JI h as
theorem Nv (h:Heap):∀as:List Addr,AD.In (JI h as) h
 | [],a,o,e=>nomatch e
 | b::as,a,o,e=>by
  unfold JI at e
  cases hb:h.get? b with
  | none=>rw[hb] at e;exact Nv h as a o e
  | some u =>
   rw[hb] at e
   dsimp only at e
   rw[Er] at e
   by_cases q:a=b
   .subst q
    rw[beq_self_eq_true] at e
    cases e
    exact hb
   .rw[beq_false_of_ne q] at e
    exact Nv h as a o e
def NU (fd:FuncData):FuncData:={ fd with kwdefaults:=.none,doc:=.none,pyModule:=.none,annotations:=none,code:=.none,closureTuple:=.none }
def Ae (nm qual:Str) (st:Stmt):FuncData:=fnOf nm qual (DD st) (Cq st) (AL st) .none .none .none .none none .none .none
theorem Zx {fd:FuncData}{nm qual:Str}{st:Stmt} (e:NU fd=Ae nm qual st):fd=fnOf nm qual (DD st) (Cq st) (AL st) .none fd.kwdefaults fd.doc fd.pyModule fd.annotations fd.code fd.closureTuple:=by
 cases fd
 unfold NU Ae fnOf at e
 injection e with e1 e2 e3 e4 e5 e6 e7 e8 _ _ _ _ _ _ e9
 subst e1 e2 e3 e4 e5 e6 e7 e8 e9
 rfl
def JH (K:AD) (qual:Str) (f:Addr):Option (FuncData×Bool):=match K.lookup f with
 | some ⟨_,_,.func fd,_⟩=>some (NU fd,codeIn K fd.code qual&&keepIn K (.ref f))
 | _=>none
theorem Nu {K:AD}{nm qual:Str}{st:Stmt}{f:Addr} (e:JH K qual f=some (Ae nm qual st,true)):
  ∃(oc:Value) (od:Option Addr) (kV doc pm:Value) (an:Option Addr) (cdv ct:Value) (osl:Array (Option Value)),K.lookup f=some ⟨oc,od,.func (fnOf nm qual (DD st) (Cq st) (AL st) .none kV doc pm an cdv ct),osl⟩/\codeIn K cdv qual=true/\keepIn K (.ref f)=true:=by
 unfold JH at e
 split at e
 .rename_i oc od fd osl hl
  injection e with e
  injection e with e1 e2
  rw[BL] at e2
  exact⟨oc,od,fd.kwdefaults,fd.doc,fd.pyModule,fd.annotations,fd.code,fd.closureTuple,osl,by rw[hl,<- Zx e1],e2.1,e2.2⟩
 .cases e
def An (K:AD) (x qual:Str):Option (FuncData×Bool):=match nsIn K mainGlobals x with
 | some (some (.ref f))=>JH K qual f
 | _=>none
section
variable {K:AD}{h:Heap}{mg:Str->Option Value}
theorem def_seen {x nm qual:Str}{st:Stmt}{ps:List Str} (X:K.In h) (G:h.Ns mainGlobals mg) (e:An K x qual=some (Ae nm qual st,true))
  (b:∀(kV doc pm:Value) (an:Option Addr) (cdv ct:Value) (us:List Value),us.length=ps.length->bindArgs (fnOf nm qual (DD st) (Cq st) (AL st) .none kV doc pm an cdv ct) ⟨us,[]⟩=pure (ps.zip us)):
  ∃f fd,Def K mg x nm qual st ps f fd/\∀(s:Shared) (us:List Value),us.length=ps.length->BindsTo s fd ⟨us,[]⟩ (ps.zip us):=by
 unfold An at e
 split at e
 .rename_i f a
  obtain⟨oc,od,kV,doc,pm,an,cdv,ct,osl,l,c,k⟩:=Nu e
  obtain⟨f,fd,d,_,hb⟩:=aU X G a l c k b
  exact⟨f,fd,d,hb⟩
 .cases e
def JA (K:AD) (x:Str):Option Addr:=match nsIn K mainGlobals x with
 | some (some (.ref f))=>(match K.lookup f with
  | some ⟨_,_,.func fd,_⟩=>(match fd.code with
   | .ref c=>some c
   | _=>none)
  | _=>none)
 | _=>none
theorem def_seenC {x nm qual:Str}{st:Stmt}{ps:List Str}{c0:Addr} (X:K.In h) (G:h.Ns mainGlobals mg) (e:An K x qual=some (Ae nm qual st,true)) (ec:JA K x=some c0)
  (b:∀(kV doc pm:Value) (an:Option Addr) (cdv ct:Value) (us:List Value),us.length=ps.length->bindArgs (fnOf nm qual (DD st) (Cq st) (AL st) .none kV doc pm an cdv ct) ⟨us,[]⟩=pure (ps.zip us)):
  ∃f fd,Def K mg x nm qual st ps f fd/\fd.code=.ref c0:=by
 unfold An at e
 unfold JA at ec
 split at e
 .rename_i f a
  rw[a] at ec
  dsimp only at ec
  obtain⟨oc,od,kV,doc,pm,an,cdv,ct,osl,l,c,k⟩:=Nu e
  rw[l] at ec
  dsimp only at ec
  cases cdv with
  | ref c1 =>
   dsimp only at ec
   cases ec
   obtain⟨f,fd,d,hc,hb⟩:=aV c0 X G a l c k b
   exact⟨f,fd,d,hc⟩
  | _=>cases ec
 .cases e
def OM (K:AD) (C:Addr) (f:Str):Bool:=match findIn K (.ref C) f with
 | some none=>true
 | _=>false
theorem dI {C:Addr}{f:Str} (e:OM K C f=true):findIn K (.ref C) f=some none:=by
 unfold OM at e
 split at e
 .assumption
 .cases e
def Oz (K:AD) (C:Addr):Bool:=match findIn K (.ref C) "__setattr__" with
 | some (some (.builtin z))=>decide (z="object.__setattr__")
 | _=>false
theorem f7 {C:Addr} (e:Oz K C=true):findIn K (.ref C) "__setattr__"=some (some (.builtin "object.__setattr__")):=by
 unfold Oz at e
 split at e
 .rename_i z hz
  rw[hz,JJq e]
 .cases e
def OH (K:AD) (x:Str) (C:Addr):Bool:=match nsIn K mainGlobals x with
 | some (some (.ref c))=>decide (c=C)
 | _=>false
theorem c9 {C:Addr}{x:Str} (e:OH K x C=true):nsIn K mainGlobals x=some (some (.ref C)):=by
 unfold OH at e
 split at e
 .rename_i c hc
  rw[hc,JJq e]
 .cases e
def FL (K:AD) (x:Str) (C:Addr) (fields:List Str):Bool :=
 OH K x C&&(plainGet K C Qv&&(hasDictIn K C&&(plainOver K C&&(Oz K C&&(makesIn K C&&(keepIn K (.ref C)&&fields.all (OM K C)))))))
def FN (K:AD) (qual:Str) (C:Addr):Option ((FuncData×Bool)×Bool):=match findIn K (.ref C) "__init__" with
 | some (some (.ref f))=>(JH K qual f).map fun p=>(p,isFn K (.ref f))
 | _=>none
theorem cls_seen {x qual:Str}{st:Stmt}{ps:List Str}{C:Addr}{fields:List Str} (X:K.In h) (G:h.Ns mainGlobals mg) (e:FN K qual C=some ((Ae "__init__" qual st,true),true)) (eb:FL K x C fields=true)
  (b:∀(kV doc pm:Value) (an:Option Addr) (cdv ct:Value) (us:List Value),us.length=ps.length->bindArgs (fnOf "__init__" qual (DD st) (Cq st) (AL st) .none kV doc pm an cdv ct) ⟨us,[]⟩=pure (ps.zip us)):
  (∃f fd,ClsD K mg x qual st ps C f fd)/\∀f∈fields,findIn K (.ref C) f=some none:=by
 unfold FL at eb
 simp only[BL] at eb
 obtain⟨b1,b2,b3,b4,b5,b6,b7,b8⟩:=eb
 refine⟨?_,fun f hf=>dI (Cu.mp b8 f hf)⟩
 unfold FN at e
 split at e
 .rename_i f a
  cases hq:JH K qual f with
  | none=>rw[hq] at e;cases e
  | some p =>
   rw[hq] at e
   injection e with e
   injection e with e1 e2
   rw[e1] at hq
   obtain⟨oc,od,kV,doc,pm,an,cdv,ct,osl,l,c,k⟩:=Nu hq
   exact aA C X G (c9 b1) a e2 l c k b2 b3 b4 (f7 b5) b6 b7 b
 .cases e
def BW (K:AD) (x:Str):Option Int:=match nsIn K mainGlobals x with
 | some (some (.int n _))=>some n
 | _=>none
theorem int_seen {x:Str}{n:Int} (X:K.In h) (G:h.Ns mainGlobals mg) (e:BW K x=some n):Cst mg x (.int n):=by
 unfold BW at e
 split at e
 .rename_i m t a
  cases e
  exact aE X G a
 .cases e
def PQ (K:AD) (x:Str):Option Str:=match nsIn K mainGlobals x with
 | some (some (.str n _))=>some n
 | _=>none
theorem str_seen {x z:Str} (X:K.In h) (G:h.Ns mainGlobals mg) (e:PQ K x=some z):Cst mg x (.str z):=by
 unfold PQ at e
 split at e
 .rename_i m t a
  cases e
  exact aF X G a
 .cases e
def Pc (K:AD) (x:Str):Option (Bool×Str×Str×Str):=match nsIn K mainGlobals x with
 | some (some (.ref a))=>(match K.lookup a with
  | some ⟨.type t,_,.seq vs _,_⟩=>(match vs with
   | ⟨[.str y1 _,.str y2 _,.str y3 _]⟩=>some (decide (t="tuple"),y1,y2,y3)
   | _=>none)
  | _=>none)
 | _=>none
theorem tup_seen {x y1 y2 y3:Str} (X:K.In h) (G:h.Ns mainGlobals mg) (e:Pc K x=some (true,y1,y2,y3)):NC K mg x ([y1,y2,y3].map V.str):=by
 unfold Pc at e
 split at e
 .rename_i a ha
  split at e
  .rename_i t od vs n sl hl
   split at e
   .rename_i z1 t1 z2 t2 z3 t3
    injection e with e
    injection e with e0 e
    injection e with e1 e
    injection e with e2 e3
    subst e1 e2 e3
    rw[JJq e0] at hl
    exact aG X G ha hl
   .cases e
  .cases e
 .cases e
def ED (K:AD) (x:Str):Bool:=match nsIn K mainGlobals x with
 | some none=>true
 | _=>false
theorem no_seen {x:Str} (X:K.In h) (G:h.Ns mainGlobals mg) (e:ED K x=true):mg x=none:=by
 unfold ED at e
 split at e
 .rename_i a
  exact dJ X G a
 .cases e
end
end Fb
namespace L2
open PySem PySem.Spec PyProof.Rows
open PySem.W (WData Codec OpenSpec Well WellAll ReadsW CodeHd tabObj TabsAt noTabs)
theorem walk_hook {r:OpenSpec}{k:Nat}{q:Program}{loose:List Str}{XP:(Str->Option Value)->Heap->Prop}{YP:World->Heap->Prop}{d:DefRec}{Gd:AD->Prop}{ps:List Str}{sp:AD->Sp}{tabs:List (Addr×Addr)}
  (hwell:r.wellSaid=true) (hdf:d.params.defaults=[]) (hlen:r.args.length=ps.length) (hr:Room k callerA)
  (hY:∀(w:World) (h:Heap),YP w h->∃K:AD,K.In h/\Gd K) (hKT:∀K:AD,Gd K->noTabs K=true)
  (hT:∀(K:AD) (lo:List Str) (mean:ExcName->Option Value) (mg mb:Str->Option Value) (h:Heap),Gd K->K.In h->Top q lo mean mg mb h->TabsAt tabs h)
  (F:∀(w:World) (K:AD) (mg:Str->Option Value) (fa:Addr) (h:Heap),Gd K->K.In h->h.Ns mainGlobals mg->mg d.name=some (.ref fa)->
   ∃fd:FuncData,(∀(s:Shared) (us:List Value),us.length=ps.length->BindsTo s fd ⟨us,[]⟩ (ps.zip us))/\
    ∀base:Heap,K.In base->base.Ns mainGlobals mg->(∀q∈tabs,CodeHd base q.1 q.2)->F1 mg base->FnOk r.prog w K mg base CX0 k fa fd ps (sp K))
  (hsp:∀(K:AD) (H:Hp) (xs:List V) (a:Codec.denoteAll r.args),(∀q∈tabs,H q.2=some (.tbl #[]))->Codec.withinAll r.args a=true->Codec.app r.args r.asked a=true->Dn K H xs (Codec.encAll r.args a)->
   sp K xs H (fun v H'=>Dw K H' v (r.ret.enc (Codec.app r.args r.f a))) E0):
  PySem.W.WalkOS q loose XP YP r d [] (fun f vs=>Q9 f vs):=by
 intro w s_0 s1 mg mb G Y fa o pm cd doc dV kV ho hd hcd hD hmg hg args vals as hpre hlay hrd hwl hlo
 obtain⟨a,e1,e2⟩:=PySem.W.os_pre_some hpre
 obtain⟨e3,hwi⟩:=Codec.encAll_of_decAll r.args args a e1
 subst e3
 obtain⟨K,KX,gK⟩:=hY w _ Y
 obtain⟨fd,hb,hF⟩:=F w K mg fa _ gK KX G.T.g hmg
 refine PySem.W.enter_call (Gb (Z7 (R:=[]) (cl:=classAt s_0.heap) (d0:=r.ret.enc (Codec.app r.args r.f a)) KX G.T.g G.T.b G.T.builtins G.T.nolimit hg G.T.bmain (hT K _ _ mg mb _ gK KX G.T) (hKT K gK) hwl (UU _ _) (cP hlay) hr hF hb (by rw[SO];exact hlen)
  (fun H xs hO hS=>hsp K H xs a hO hwi e2 hS)) fun r' s' hq=>?_)
 obtain⟨u,as',rfl,h1,h2,h3,h4⟩:=hq
 exact⟨.inl ⟨u,_,as',rfl,fun _=>rfl,h1,(OpenSpec.post_iff hwell hwi _ _).mpr rfl,fun z=>D0 (show false=true from z)⟩,h2,h3,h4⟩
end L2
namespace Fb
open PySem PySem.Spec PyProof.Rows L2
def asN:List Addr:=[2,3,15,18,19,20,22,23,25,26,27,29,30,32,33,34,36,37,39,40,41,44,45,46,48,49,51,52,53,55,56,58,59,60,63,64,65,67,68,70,71,72,74,75,77,78,79,81,82,84,85,86,88,89,91,92,93,95,96,98,99,107,109,110,112,113,114,115,116,117,118,128,130,131,133,134,135,136,137,138,139,142,145,146,147,149,150,152,153,154,156,157,159,160,161,163,164,166,167,168,171,172,173,175,176,178,179,180,183,184,185,187,188,190,191,192,194,195,197,198,199,201,202,204,205,206,208,209,211,212,213,215,216,218,219,220,222,223,225,226,227,229,230,232,233,234,236,237,239,240,241,243,244,246,247,255,257,258,260,261,262,263,264,265,266,276,278,279,281,282,283,284,285,286,287,290,292,293,295,296,297,299,300,302,303,304,306,307,309,310,311,313,314,316,317,318,320,321,323,324,325,327,328,330,331,332,334,335,337,338,339,341,342,344,345,346,349,350,351,353,354,356,357,358,360,361,363,364,365,373,375,376,378,379,380,381,382,383,384,394,396,397,399,400,401,402,403,404,405,408,410,411,413,414,415,417,418,420,421,422,425,426,427,429,430,432,433,434,436,437,439,440,441,443,444,446,447,448,451,452,453,456,457,458,460,461,463,464,465,467,468,470,471,472,474,475,477,478,479,481,482,484,485,493,495,496,498,499,500,501,502,503,504,507,509,510,512,513,514,516,517,519,520,521,523,524,526,527]
def SX (K:AD):List (Option (FuncData×Bool)):=[An K "kinds_that_mean" "kinds_that_mean",An K "first_left" "first_left",An K "hoist_told" "hoist_told",An K "can_show" "can_show",An K "letters" "letters",An K "split_at" "split_at",An K "is_name_byte" "is_name_byte",An K "is_name" "is_name",An K "is_naming_line" "is_naming_line",An K "named" "named",An K "naming_line" "naming_line",An K "first_fault" "first_fault",An K "count_lines" "count_lines",An K "is_meaning" "is_meaning",An K "row_word" "row_word",An K "meaning_told" "meaning_told",An K "is_row_length" "is_row_length",An K "is_row_word" "is_row_word",An K "is_entry_line" "is_entry_line",An K "signs_told" "signs_told",An K "place_in_order" "place_in_order",An K "is_row_behind" "is_row_behind",An K "row_fault" "row_fault",An K "take_entry" "take_entry",An K "take_line_books" "take_line",An K "read_book" "read_book",An K "word_of_row" "word_of_row",An K "entry_line" "entry_line",An K "text_of_book" "text_of_book",An K "meanings_by_row" "meanings_by_row",An K "is_change_line" "is_change_line",An K "change_told" "change_told",An K "can_be_done" "can_be_done",An K "change_fault" "change_fault",An K "name_fault" "name_fault",An K "take_line_amendments" "take_line",An K "read_amendment" "read_amendment",An K "changed" "changed",An K "amended" "amended",An K "number_of" "number_of",An K "small_number" "small_number",An K "shape_told" "shape_told",An K "look_told" "look_told",An K "kind_with" "kind_with",An K "kind_told" "kind_told",An K "can_stand" "can_stand",An K "is_label_taken" "is_label_taken",An K "is_look_taken" "is_look_taken",An K "kind_fault" "kind_fault",An K "add_kind" "add_kind",An K "take_line_lockers" "take_line",An K "read_locker" "read_locker",An K "read_texts" "read_texts",An K "told_with_count" "told_with_count",An K "amend" "amend"]
def Ss:List (Option (FuncData×Bool)):=[some (Ae "kinds_that_mean" "kinds_that_mean" WR,true),some (Ae "first_left" "first_left" V9,true),some (Ae "hoist_told" "hoist_told" WA,true),some (Ae "can_show" "can_show" V1,true),some (Ae "letters" "letters" WS,true),some (Ae "split_at" "split_at" Wl,true),some (Ae "is_name_byte" "is_name_byte" WI,true),some (Ae "is_name" "is_name" WH,true),some (Ae "is_naming_line" "is_naming_line" WJ,true),some (Ae "named" "named" WX,true),some (Ae "naming_line" "naming_line" WY,true),some (Ae "first_fault" "first_fault" V8,true),some (Ae "count_lines" "count_lines" V6,true),some (Ae "is_meaning" "is_meaning" WG,true),some (Ae "row_word" "row_word" Wh,true),some (Ae "meaning_told" "meaning_told" WU,true),some (Ae "is_row_length" "is_row_length" WL,true),some (Ae "is_row_word" "is_row_word" WM,true),some (Ae "is_entry_line" "is_entry_line" WC,true),some (Ae "signs_told" "signs_told" Wj,true),some (Ae "place_in_order" "place_in_order" Wa,true),some (Ae "is_row_behind" "is_row_behind" WK,true),some (Ae "row_fault" "row_fault" Wg,true),some (Ae "take_entry" "take_entry" Wm,true),some (Ae "take_line" "take_line" Wo,true),some (Ae "read_book" "read_book" Wc,true),some (Ae "word_of_row" "word_of_row" Wt,true),some (Ae "entry_line" "entry_line" V7,true),some (Ae "text_of_book" "text_of_book" Wr,true),some (Ae "meanings_by_row" "meanings_by_row" WV,true),some (Ae "is_change_line" "is_change_line" WB,true),some (Ae "change_told" "change_told" V4,true),some (Ae "can_be_done" "can_be_done" V0,true),some (Ae "change_fault" "change_fault" V3,true),some (Ae "name_fault" "name_fault" WW,true),some (Ae "take_line" "take_line" Wn,true),some (Ae "read_amendment" "read_amendment" Wb,true),some (Ae "changed" "changed" V5,true),some (Ae "amended" "amended" Vz,true),some (Ae "number_of" "number_of" WZ,true),some (Ae "small_number" "small_number" Wk,true),some (Ae "shape_told" "shape_told" Wi,true),some (Ae "look_told" "look_told" WT,true),some (Ae "kind_with" "kind_with" WQ,true),some (Ae "kind_told" "kind_told" WO,true),some (Ae "can_stand" "can_stand" V2,true),some (Ae "is_label_taken" "is_label_taken" WD,true),some (Ae "is_look_taken" "is_look_taken" WE,true),some (Ae "kind_fault" "kind_fault" WN,true),some (Ae "add_kind" "add_kind" Vx,true),some (Ae "take_line" "take_line" Wq,true),some (Ae "read_locker" "read_locker" Wd,true),some (Ae "read_texts" "read_texts" We,true),some (Ae "told_with_count" "told_with_count" Ws,true),some (Ae "amend" "amend" Vy,true)]
def SV (K:AD):List (Option ((FuncData×Bool)×Bool)):=[FN K "Entry.__init__" 116,FN K "Book.__init__" 137,FN K "Change.__init__" 264,FN K "Amendment.__init__" 285,FN K "Kind.__init__" 382,FN K "Locker.__init__" 403,FN K "Reading.__init__" 502]
def Sq:List (Option ((FuncData×Bool)×Bool)):=[some ((Ae "__init__" "Entry.__init__" (De Vs 0),true),true),some ((Ae "__init__" "Book.__init__" (De Vq 0),true),true),some ((Ae "__init__" "Change.__init__" (De Vr 0),true),true),some ((Ae "__init__" "Amendment.__init__" (De Vp 0),true),true),some ((Ae "__init__" "Kind.__init__" (De Vt 0),true),true),some ((Ae "__init__" "Locker.__init__" (De Vu 0),true),true),some ((Ae "__init__" "Reading.__init__" (De Vv 0),true),true)]
def SU (K:AD):List (Bool):=[FL K "Entry" 116 ["row","meaning"],FL K "Book" 137 ["name","entries","fault"],FL K "Change" 264 ["mark","row","meaning"],FL K "Amendment" 285 ["name","meanings","changes","fault"],FL K "Kind" 382 ["rank","label","copies","shape","look"],FL K "Locker" 403 ["name","kinds","signs","sames","fault"],FL K "Reading" 502 ["refusal","locker","book"],ED K "ord",ED K "len",ED K "all",ED K "any",ED K "enumerate",ED K "reversed",ED K "tuple",ED K "range",ED K "sorted",ED K "list",PySem.W.noTabs K]
def So:List (Bool):=[true,true,true,true,true,true,true,true,true,true,true,true,true,true,true,true,true,true]
def SY (K:AD):List (Option Int):=[BW K "LINE_END",BW K "BLANK",BW K "LONGEST_NAME",BW K "NO_SUCH_LINE",BW K "FULL_STOP",BW K "LAST_PRINTED",BW K "LONGEST_ROW",BW K "LONGEST_MEANING",BW K "MOST_ENTRIES",BW K "HEAD_LINES",BW K "OTHER_LOCKER",BW K "NO_SIGN",BW K "NOT_SHOWN",BW K "NOT_BEHIND",BW K "TOO_MANY_ENTRIES",BW K "NEW",BW K "DROPPED",BW K "SAYS_ELSE",BW K "OTHER_BOOK",BW K "NOT_TO_BE_DONE",BW K "TOO_MANY_LEFT",BW K "DIGITS",BW K "SIGN",BW K "SAME",BW K "ANSWER",BW K "MOST_SIGNS",BW K "MOST_COPIES",BW K "HIGHEST_SAME",BW K "TOLD_BEFORE",BW K "TOO_MANY_SIGNS",BW K "LOOK_TOLD_BEFORE",BW K "LONGEST_TEXT",BW K "TOO_LONG",BW K "NO_LOCKER",BW K "NO_BOOK"]
def Su:List (Option Int):=[some 10,some 32,some 8,some 1,some 46,some 126,some 8,some 64,some 2048,some 2,some 2,some 3,some 4,some 5,some 6,some 43,some 45,some 61,some 2,some 6,some 7,some 16,some 1,some 2,some 3,some 48,some 8,some 4,some 2,some 3,some 4,some 65536,some (-2),some (-6),some (-9)]
def Sa (K:AD):List (Option Str):=[PQ K "COLOURS"]
def Sw:List (Option Str):=[some ("0123456789abcdef":Str)]
def Sd (K:AD):List (Option (Bool×Str×Str×Str)):=[Pc K "SHAPES"]
def Sy:List (Option (Bool×Str×Str×Str)):=[some (true,("square":Str),("tails":Str),("long":Str))]
def SW (K:AD):List (Option Addr):=[JA K "read_book",JA K "read_amendment",JA K "read_locker"]
def Sr:List (Option Addr):=[some 225,some 344,some 484]
def Sb (K:AD):List (Option (Addr×Addr)):=[Q6 K "read_book",Q6 K "read_amendment",Q6 K "read_locker"]
def Sx:List (Option (Addr×Addr)):=[some (225,221),some (344,340),some (484,480)]
def fAll (K:AD):=(SX K,SV K,SU K,SY K,Sa K,Sd K,SW K,Sb K)
def gAll:=(Ss,Sq,So,Su,Sw,Sy,Sr,Sx)
def hookN:PySem.W.Hook:=⟨_,fun s=>fAll (JI s.heap asN),fun _=>gAll,fun _ h=>∃K:AD,K.In h/\fAll K=gAll,fun _ s e=>⟨_,Nv s.heap asN,e⟩,fun _ _ _ ⟨K,X,e⟩ k=>⟨K,X.keeps k,e⟩⟩
theorem ith {α:Type}{l m:List α}{a b:α} (i:Nat) (e:l=m) (h1:l[i]?=some a) (h2:m[i]?=some b):a=b:=by
 rw[e,h2] at h1
 exact(Af h1).symm
theorem all_of {K:AD} (e:fAll K=gAll):SX K=Ss/\SV K=Sq/\SU K=So/\SY K=Su/\Sa K=Sw/\Sd K=Sy/\SW K=Sr/\Sb K=Sx:=by
 unfold fAll gAll at e
 injection e with e0 e
 injection e with e1 e
 injection e with e2 e
 injection e with e3 e
 injection e with e4 e
 injection e with e5 e
 injection e with e6 e
 exact⟨e0,e1,e2,e3,e4,e5,e6,e⟩
end Fb
namespace Fb
open PySem PySem.W PySem.Calls PyProof.Rows
theorem eY (w:World) (os:OsState):PySem.W.Fast.runAQ FI 7490 11 (some (.ref 6)) w os hookN.obs=some (hookN.val w):=by kernel_rfl
theorem leftN:LeftO FI viewN looseN xtN hookN.obs hookN.val stepsN :=
 cQ (n₀:=11) (ann:=some (.ref 6)) (by kernel_rfl) (by decide) (fun s=>by kernel_rfl) (fun P=>by kernel_rfl) (fun w os=>by rw[PySem.W.Fast.runAQ_eq,PySem.W.Fast.look1Q_eq];exact eU w os) (fun w os=>by rw[PySem.W.Fast.runAQ_eq,PySem.W.Fast.look2Q_eq];exact eV w os) (fun w os=>by rw[PySem.W.Fast.runAQ_eq,PySem.W.Fast.look3Q_eq];exact eW w os) (fun w os=>by rw[PySem.W.Fast.runAQ_eq,PySem.W.Fast.look4Q_eq];exact eX w os) fun w os=>by rw[PySem.W.Fast.runAQ_eq];exact eY w os
end Fb
open PySem PySem.W PyProof.Rows
theorem PySem.Challenge.cw_flagbooks_s06_amend_holds : PySem.Challenge.rw_flagbooks_s06_amend.Holds := by
 w_on
 refine holds_os (r:=Ak) (q:=Fb.viewN) (loose:=Fb.looseN) (Xt:=Fb.xtN) (XP:=XL Fb.viewN Fb.lvN) (Yf:=Hook.obs Fb.hookN) (Ya:=Hook.val Fb.hookN) (YP:=Hook.says Fb.hookN) (N:=Fb.stepsN) Fb.leftN (Hook.of Fb.hookN) (Hook.keeps Fb.hookN) (fun s e=>xl_of s (L0.mp e).1) XL.keeps (by rfl) (by rfl) (by rfl) (fun s e=>recFacts_of (L0.mp e).2) os_shapes (by decide +kernel) (by decide +kernel) ⟨rfl,rfl,rfl,rfl,rfl,by decide +kernel⟩ ⟨[.list [],.list [],.list []],by decide +kernel,by decide +kernel⟩ ?_
 refine L2.walk_hook (r:=Ak) (k:=12) (ps:=["t","b","c"]) (sp:=fun K=>Fb.spAmend K 480 221 340) (tabs:=[(484,480),(225,221),(344,340)]) (Gd:=fun K=>Fb.fAll K=Fb.gAll) (by decide +kernel) rfl rfl ⟨rfl,by decide,by decide⟩ (fun w h Y=>Y) ?cN ?cT ?cF ?cS
 case cN =>
  intro K gK
  obtain⟨_,_,h,_⟩:=Fb.all_of gK
  exact Fb.ith 17 h rfl rfl
 case cT =>
  intro K lo mean mg mb h gK KX T
  obtain⟨_,_,_,_,_,_,_,ht⟩:=Fb.all_of gK
  exact QE.mpr ⟨Q7 (x:="read_locker") (c:=484) (P:=480) T KX rfl (Fb.ith 2 ht rfl rfl),QE.mpr ⟨Q7 (x:="read_book") (c:=225) (P:=221) T KX rfl (Fb.ith 0 ht rfl rfl),QE.mpr ⟨Q7 (x:="read_amendment") (c:=344) (P:=340) T KX rfl (Fb.ith 1 ht rfl rfl),fun _ h=>nomatch h⟩⟩⟩
 case cF =>
  intro w K mg fa h gK KX G hmg
  obtain⟨hD,hC,hB,hI,hS,hU,hO,hT⟩:=Fb.all_of gK
  obtain⟨f_kinds_that_mean,fd_kinds_that_mean,d_kinds_that_mean,b_kinds_that_mean⟩:=Fb.def_seen (ps:=["locker","signs","place"]) KX G (Fb.ith 0 hD rfl rfl) (fun _ _ _ _ _ _ us hl=>match us,hl with | [_,_,_],_=>rfl)
  obtain⟨f_first_left,fd_first_left,d_first_left,b_first_left⟩:=Fb.def_seen (ps:=["locker","flown","kinds"]) KX G (Fb.ith 1 hD rfl rfl) (fun _ _ _ _ _ _ us hl=>match us,hl with | [_,_,_],_=>rfl)
  obtain⟨f_hoist_told,fd_hoist_told,d_hoist_told,b_hoist_told⟩:=Fb.def_seen (ps:=["locker","signs"]) KX G (Fb.ith 2 hD rfl rfl) (fun _ _ _ _ _ _ us hl=>match us,hl with | [_,_],_=>rfl)
  obtain⟨f_can_show,fd_can_show,d_can_show,b_can_show⟩:=Fb.def_seen (ps:=["locker","signs"]) KX G (Fb.ith 3 hD rfl rfl) (fun _ _ _ _ _ _ us hl=>match us,hl with | [_,_],_=>rfl)
  obtain⟨f_letters,fd_letters,d_letters,b_letters⟩:=Fb.def_seen (ps:=["word"]) KX G (Fb.ith 4 hD rfl rfl) (fun _ _ _ _ _ _ us hl=>match us,hl with | [_],_=>rfl)
  obtain⟨f_split_at,fd_split_at,d_split_at,b_split_at⟩:=Fb.def_seen (ps:=["mark","values"]) KX G (Fb.ith 5 hD rfl rfl) (fun _ _ _ _ _ _ us hl=>match us,hl with | [_,_],_=>rfl)
  obtain⟨f_is_name_byte,fd_is_name_byte,d_is_name_byte,b_is_name_byte⟩:=Fb.def_seen (ps:=["byte"]) KX G (Fb.ith 6 hD rfl rfl) (fun _ _ _ _ _ _ us hl=>match us,hl with | [_],_=>rfl)
  obtain⟨f_is_name,fd_is_name,d_is_name,b_is_name⟩:=Fb.def_seen (ps:=["word"]) KX G (Fb.ith 7 hD rfl rfl) (fun _ _ _ _ _ _ us hl=>match us,hl with | [_],_=>rfl)
  obtain⟨f_is_naming_line,fd_is_naming_line,d_is_naming_line,b_is_naming_line⟩:=Fb.def_seen (ps:=["line","first"]) KX G (Fb.ith 8 hD rfl rfl) (fun _ _ _ _ _ _ us hl=>match us,hl with | [_,_],_=>rfl)
  obtain⟨f_named,fd_named,d_named,b_named⟩:=Fb.def_seen (ps:=["line"]) KX G (Fb.ith 9 hD rfl rfl) (fun _ _ _ _ _ _ us hl=>match us,hl with | [_],_=>rfl)
  obtain⟨f_naming_line,fd_naming_line,d_naming_line,b_naming_line⟩:=Fb.def_seen (ps:=["first","name"]) KX G (Fb.ith 10 hD rfl rfl) (fun _ _ _ _ _ _ us hl=>match us,hl with | [_,_],_=>rfl)
  obtain⟨f_first_fault,fd_first_fault,d_first_fault,b_first_fault⟩:=Fb.def_seen (ps:=["text","take"]) KX G (Fb.ith 11 hD rfl rfl) (fun _ _ _ _ _ _ us hl=>match us,hl with | [_,_],_=>rfl)
  obtain⟨f_count_lines,fd_count_lines,d_count_lines,b_count_lines⟩:=Fb.def_seen (ps:=["text"]) KX G (Fb.ith 12 hD rfl rfl) (fun _ _ _ _ _ _ us hl=>match us,hl with | [_],_=>rfl)
  obtain⟨f_is_meaning,fd_is_meaning,d_is_meaning,b_is_meaning⟩:=Fb.def_seen (ps:=["told"]) KX G (Fb.ith 13 hD rfl rfl) (fun _ _ _ _ _ _ us hl=>match us,hl with | [_],_=>rfl)
  obtain⟨f_row_word,fd_row_word,d_row_word,b_row_word⟩:=Fb.def_seen (ps:=["line"]) KX G (Fb.ith 14 hD rfl rfl) (fun _ _ _ _ _ _ us hl=>match us,hl with | [_],_=>rfl)
  obtain⟨f_meaning_told,fd_meaning_told,d_meaning_told,b_meaning_told⟩:=Fb.def_seen (ps:=["line"]) KX G (Fb.ith 15 hD rfl rfl) (fun _ _ _ _ _ _ us hl=>match us,hl with | [_],_=>rfl)
  obtain⟨f_is_row_length,fd_is_row_length,d_is_row_length,b_is_row_length⟩:=Fb.def_seen (ps:=["length"]) KX G (Fb.ith 16 hD rfl rfl) (fun _ _ _ _ _ _ us hl=>match us,hl with | [_],_=>rfl)
  obtain⟨f_is_row_word,fd_is_row_word,d_is_row_word,b_is_row_word⟩:=Fb.def_seen (ps:=["word"]) KX G (Fb.ith 17 hD rfl rfl) (fun _ _ _ _ _ _ us hl=>match us,hl with | [_],_=>rfl)
  obtain⟨f_is_entry_line,fd_is_entry_line,d_is_entry_line,b_is_entry_line⟩:=Fb.def_seen (ps:=["line"]) KX G (Fb.ith 18 hD rfl rfl) (fun _ _ _ _ _ _ us hl=>match us,hl with | [_],_=>rfl)
  obtain⟨f_signs_told,fd_signs_told,d_signs_told,b_signs_told⟩:=Fb.def_seen (ps:=["locker","word"]) KX G (Fb.ith 19 hD rfl rfl) (fun _ _ _ _ _ _ us hl=>match us,hl with | [_,_],_=>rfl)
  obtain⟨f_place_in_order,fd_place_in_order,d_place_in_order,b_place_in_order⟩:=Fb.def_seen (ps:=["row"]) KX G (Fb.ith 20 hD rfl rfl) (fun _ _ _ _ _ _ us hl=>match us,hl with | [_],_=>rfl)
  obtain⟨f_is_row_behind,fd_is_row_behind,d_is_row_behind,b_is_row_behind⟩:=Fb.def_seen (ps:=["row","before"]) KX G (Fb.ith 21 hD rfl rfl) (fun _ _ _ _ _ _ us hl=>match us,hl with | [_,_],_=>rfl)
  obtain⟨f_row_fault,fd_row_fault,d_row_fault,b_row_fault⟩:=Fb.def_seen (ps:=["locker","book","row"]) KX G (Fb.ith 22 hD rfl rfl) (fun _ _ _ _ _ _ us hl=>match us,hl with | [_,_,_],_=>rfl)
  obtain⟨f_take_entry,fd_take_entry,d_take_entry,b_take_entry⟩:=Fb.def_seen (ps:=["locker","book","line"]) KX G (Fb.ith 23 hD rfl rfl) (fun _ _ _ _ _ _ us hl=>match us,hl with | [_,_,_],_=>rfl)
  obtain⟨f_take_line_books,fd_take_line_books,d_take_line_books,b_take_line_books⟩:=Fb.def_seen (ps:=["locker","book","number","line"]) KX G (Fb.ith 24 hD rfl rfl) (fun _ _ _ _ _ _ us hl=>match us,hl with | [_,_,_,_],_=>rfl)
  obtain⟨f_read_book,fd_read_book,d_read_book,e_read_book⟩:=Fb.def_seenC (ps:=["locker","text"]) KX G (Fb.ith 25 hD rfl rfl) (Fb.ith 0 hO rfl rfl) (fun _ _ _ _ _ _ us hl=>match us,hl with | [_,_],_=>rfl)
  obtain⟨f_word_of_row,fd_word_of_row,d_word_of_row,b_word_of_row⟩:=Fb.def_seen (ps:=["locker","row"]) KX G (Fb.ith 26 hD rfl rfl) (fun _ _ _ _ _ _ us hl=>match us,hl with | [_,_],_=>rfl)
  obtain⟨f_entry_line,fd_entry_line,d_entry_line,b_entry_line⟩:=Fb.def_seen (ps:=["locker","entry"]) KX G (Fb.ith 27 hD rfl rfl) (fun _ _ _ _ _ _ us hl=>match us,hl with | [_,_],_=>rfl)
  obtain⟨f_text_of_book,fd_text_of_book,d_text_of_book,b_text_of_book⟩:=Fb.def_seen (ps:=["locker","book"]) KX G (Fb.ith 28 hD rfl rfl) (fun _ _ _ _ _ _ us hl=>match us,hl with | [_,_],_=>rfl)
  obtain⟨f_meanings_by_row,fd_meanings_by_row,d_meanings_by_row,b_meanings_by_row⟩:=Fb.def_seen (ps:=["book"]) KX G (Fb.ith 29 hD rfl rfl) (fun _ _ _ _ _ _ us hl=>match us,hl with | [_],_=>rfl)
  obtain⟨f_is_change_line,fd_is_change_line,d_is_change_line,b_is_change_line⟩:=Fb.def_seen (ps:=["line"]) KX G (Fb.ith 30 hD rfl rfl) (fun _ _ _ _ _ _ us hl=>match us,hl with | [_],_=>rfl)
  obtain⟨f_change_told,fd_change_told,d_change_told,b_change_told⟩:=Fb.def_seen (ps:=["locker","line"]) KX G (Fb.ith 31 hD rfl rfl) (fun _ _ _ _ _ _ us hl=>match us,hl with | [_,_],_=>rfl)
  obtain⟨f_can_be_done,fd_can_be_done,d_can_be_done,b_can_be_done⟩:=Fb.def_seen (ps:=["meanings","change"]) KX G (Fb.ith 32 hD rfl rfl) (fun _ _ _ _ _ _ us hl=>match us,hl with | [_,_],_=>rfl)
  obtain⟨f_change_fault,fd_change_fault,d_change_fault,b_change_fault⟩:=Fb.def_seen (ps:=["locker","amendment","change"]) KX G (Fb.ith 33 hD rfl rfl) (fun _ _ _ _ _ _ us hl=>match us,hl with | [_,_,_],_=>rfl)
  obtain⟨f_name_fault,fd_name_fault,d_name_fault,b_name_fault⟩:=Fb.def_seen (ps:=["amendment","line"]) KX G (Fb.ith 34 hD rfl rfl) (fun _ _ _ _ _ _ us hl=>match us,hl with | [_,_],_=>rfl)
  obtain⟨f_take_line_amendments,fd_take_line_amendments,d_take_line_amendments,b_take_line_amendments⟩:=Fb.def_seen (ps:=["locker","amendment","number","line"]) KX G (Fb.ith 35 hD rfl rfl) (fun _ _ _ _ _ _ us hl=>match us,hl with | [_,_,_,_],_=>rfl)
  obtain⟨f_read_amendment,fd_read_amendment,d_read_amendment,e_read_amendment⟩:=Fb.def_seenC (ps:=["locker","book","text"]) KX G (Fb.ith 36 hD rfl rfl) (Fb.ith 1 hO rfl rfl) (fun _ _ _ _ _ _ us hl=>match us,hl with | [_,_,_],_=>rfl)
  obtain⟨f_changed,fd_changed,d_changed,b_changed⟩:=Fb.def_seen (ps:=["book","changes"]) KX G (Fb.ith 37 hD rfl rfl) (fun _ _ _ _ _ _ us hl=>match us,hl with | [_,_],_=>rfl)
  obtain⟨f_amended,fd_amended,d_amended,b_amended⟩:=Fb.def_seen (ps:=["locker","book","text"]) KX G (Fb.ith 38 hD rfl rfl) (fun _ _ _ _ _ _ us hl=>match us,hl with | [_,_,_],_=>rfl)
  obtain⟨f_number_of,fd_number_of,d_number_of,b_number_of⟩:=Fb.def_seen (ps:=["told"]) KX G (Fb.ith 39 hD rfl rfl) (fun _ _ _ _ _ _ us hl=>match us,hl with | [_],_=>rfl)
  obtain⟨f_small_number,fd_small_number,d_small_number,b_small_number⟩:=Fb.def_seen (ps:=["word","most"]) KX G (Fb.ith 40 hD rfl rfl) (fun _ _ _ _ _ _ us hl=>match us,hl with | [_,_],_=>rfl)
  obtain⟨f_shape_told,fd_shape_told,d_shape_told,b_shape_told⟩:=Fb.def_seen (ps:=["word"]) KX G (Fb.ith 41 hD rfl rfl) (fun _ _ _ _ _ _ us hl=>match us,hl with | [_],_=>rfl)
  obtain⟨f_look_told,fd_look_told,d_look_told,b_look_told⟩:=Fb.def_seen (ps:=["word"]) KX G (Fb.ith 42 hD rfl rfl) (fun _ _ _ _ _ _ us hl=>match us,hl with | [_],_=>rfl)
  obtain⟨f_kind_with,fd_kind_with,d_kind_with,b_kind_with⟩:=Fb.def_seen (ps:=["rank","label","words"]) KX G (Fb.ith 43 hD rfl rfl) (fun _ _ _ _ _ _ us hl=>match us,hl with | [_,_,_],_=>rfl)
  obtain⟨f_kind_told,fd_kind_told,d_kind_told,b_kind_told⟩:=Fb.def_seen (ps:=["line"]) KX G (Fb.ith 44 hD rfl rfl) (fun _ _ _ _ _ _ us hl=>match us,hl with | [_],_=>rfl)
  obtain⟨f_can_stand,fd_can_stand,d_can_stand,b_can_stand⟩:=Fb.def_seen (ps:=["locker","kind"]) KX G (Fb.ith 45 hD rfl rfl) (fun _ _ _ _ _ _ us hl=>match us,hl with | [_,_],_=>rfl)
  obtain⟨f_is_label_taken,fd_is_label_taken,d_is_label_taken,b_is_label_taken⟩:=Fb.def_seen (ps:=["locker","kind"]) KX G (Fb.ith 46 hD rfl rfl) (fun _ _ _ _ _ _ us hl=>match us,hl with | [_,_],_=>rfl)
  obtain⟨f_is_look_taken,fd_is_look_taken,d_is_look_taken,b_is_look_taken⟩:=Fb.def_seen (ps:=["locker","kind"]) KX G (Fb.ith 47 hD rfl rfl) (fun _ _ _ _ _ _ us hl=>match us,hl with | [_,_],_=>rfl)
  obtain⟨f_kind_fault,fd_kind_fault,d_kind_fault,b_kind_fault⟩:=Fb.def_seen (ps:=["locker","kind"]) KX G (Fb.ith 48 hD rfl rfl) (fun _ _ _ _ _ _ us hl=>match us,hl with | [_,_],_=>rfl)
  obtain⟨f_add_kind,fd_add_kind,d_add_kind,b_add_kind⟩:=Fb.def_seen (ps:=["locker","kind"]) KX G (Fb.ith 49 hD rfl rfl) (fun _ _ _ _ _ _ us hl=>match us,hl with | [_,_],_=>rfl)
  obtain⟨f_take_line_lockers,fd_take_line_lockers,d_take_line_lockers,b_take_line_lockers⟩:=Fb.def_seen (ps:=["locker","number","line"]) KX G (Fb.ith 50 hD rfl rfl) (fun _ _ _ _ _ _ us hl=>match us,hl with | [_,_,_],_=>rfl)
  obtain⟨f_read_locker,fd_read_locker,d_read_locker,e_read_locker⟩:=Fb.def_seenC (ps:=["text"]) KX G (Fb.ith 51 hD rfl rfl) (Fb.ith 2 hO rfl rfl) (fun _ _ _ _ _ _ us hl=>match us,hl with | [_],_=>rfl)
  obtain⟨f_read_texts,fd_read_texts,d_read_texts,b_read_texts⟩:=Fb.def_seen (ps:=["t","b"]) KX G (Fb.ith 52 hD rfl rfl) (fun _ _ _ _ _ _ us hl=>match us,hl with | [_,_],_=>rfl)
  obtain⟨f_told_with_count,fd_told_with_count,d_told_with_count,b_told_with_count⟩:=Fb.def_seen (ps:=["told"]) KX G (Fb.ith 53 hD rfl rfl) (fun _ _ _ _ _ _ us hl=>match us,hl with | [_],_=>rfl)
  obtain⟨f_amend,fd_amend,d_amend,b_amend⟩:=Fb.def_seen (ps:=["t","b","c"]) KX G (Fb.ith 54 hD rfl rfl) (fun _ _ _ _ _ _ us hl=>match us,hl with | [_,_,_],_=>rfl)
  obtain⟨⟨fc_Entry,fdc_Entry,k_Entry⟩,n_Entry⟩:=Fb.cls_seen (ps:=["self","row","meaning"]) KX G (Fb.ith 0 hC rfl rfl) (Fb.ith 0 hB rfl rfl) (fun _ _ _ _ _ _ us hl=>match us,hl with | [_,_,_],_=>rfl)
  have t_Entry:Fb.EntC _ 116:=⟨k_Entry.cl,n_Entry _ (.head _),n_Entry _ (.tail _ (.head _))⟩
  obtain⟨⟨fc_Book,fdc_Book,k_Book⟩,n_Book⟩:=Fb.cls_seen (ps:=["self"]) KX G (Fb.ith 1 hC rfl rfl) (Fb.ith 1 hB rfl rfl) (fun _ _ _ _ _ _ us hl=>match us,hl with | [_],_=>rfl)
  have t_Book:Fb.BookC _ 137:=⟨k_Book.cl,n_Book _ (.head _),n_Book _ (.tail _ (.head _)),n_Book _ (.tail _ (.tail _ (.head _)))⟩
  obtain⟨⟨fc_Change,fdc_Change,k_Change⟩,n_Change⟩:=Fb.cls_seen (ps:=["self","mark","row","meaning"]) KX G (Fb.ith 2 hC rfl rfl) (Fb.ith 2 hB rfl rfl) (fun _ _ _ _ _ _ us hl=>match us,hl with | [_,_,_,_],_=>rfl)
  have t_Change:Fb.ChC _ 264:=⟨k_Change.cl,n_Change _ (.head _),n_Change _ (.tail _ (.head _)),n_Change _ (.tail _ (.tail _ (.head _)))⟩
  obtain⟨⟨fc_Amendment,fdc_Amendment,k_Amendment⟩,n_Amendment⟩:=Fb.cls_seen (ps:=["self","name","meanings"]) KX G (Fb.ith 3 hC rfl rfl) (Fb.ith 3 hB rfl rfl) (fun _ _ _ _ _ _ us hl=>match us,hl with | [_,_,_],_=>rfl)
  have t_Amendment:Fb.AmC _ 285:=⟨k_Amendment.cl,n_Amendment _ (.head _),n_Amendment _ (.tail _ (.head _)),n_Amendment _ (.tail _ (.tail _ (.head _))),n_Amendment _ (.tail _ (.tail _ (.tail _ (.head _))))⟩
  obtain⟨⟨fc_Kind,fdc_Kind,k_Kind⟩,n_Kind⟩:=Fb.cls_seen (ps:=["self","rank","label","copies","shape","look"]) KX G (Fb.ith 4 hC rfl rfl) (Fb.ith 4 hB rfl rfl) (fun _ _ _ _ _ _ us hl=>match us,hl with | [_,_,_,_,_,_],_=>rfl)
  have t_Kind:Fb.KindC _ 382:=⟨k_Kind.cl,n_Kind _ (.head _),n_Kind _ (.tail _ (.head _)),n_Kind _ (.tail _ (.tail _ (.head _))),n_Kind _ (.tail _ (.tail _ (.tail _ (.head _)))),n_Kind _ (.tail _ (.tail _ (.tail _ (.tail _ (.head _)))))⟩
  obtain⟨⟨fc_Locker,fdc_Locker,k_Locker⟩,n_Locker⟩:=Fb.cls_seen (ps:=["self"]) KX G (Fb.ith 5 hC rfl rfl) (Fb.ith 5 hB rfl rfl) (fun _ _ _ _ _ _ us hl=>match us,hl with | [_],_=>rfl)
  have t_Locker:Fb.LockC _ 403:=⟨k_Locker.cl,n_Locker _ (.head _),n_Locker _ (.tail _ (.head _)),n_Locker _ (.tail _ (.tail _ (.head _))),n_Locker _ (.tail _ (.tail _ (.tail _ (.head _)))),n_Locker _ (.tail _ (.tail _ (.tail _ (.tail _ (.head _)))))⟩
  obtain⟨⟨fc_Reading,fdc_Reading,k_Reading⟩,n_Reading⟩:=Fb.cls_seen (ps:=["self","refusal","locker","book"]) KX G (Fb.ith 6 hC rfl rfl) (Fb.ith 6 hB rfl rfl) (fun _ _ _ _ _ _ us hl=>match us,hl with | [_,_,_,_],_=>rfl)
  have t_Reading:Fb.ReadC _ 502:=⟨k_Reading.cl,n_Reading _ (.head _),n_Reading _ (.tail _ (.head _)),n_Reading _ (.tail _ (.tail _ (.head _)))⟩
  have c_LINE_END:=Fb.int_seen KX G (Fb.ith 0 hI rfl rfl)
  have c_BLANK:=Fb.int_seen KX G (Fb.ith 1 hI rfl rfl)
  have c_LONGEST_NAME:=Fb.int_seen KX G (Fb.ith 2 hI rfl rfl)
  have c_NO_SUCH_LINE:=Fb.int_seen KX G (Fb.ith 3 hI rfl rfl)
  have c_FULL_STOP:=Fb.int_seen KX G (Fb.ith 4 hI rfl rfl)
  have c_LAST_PRINTED:=Fb.int_seen KX G (Fb.ith 5 hI rfl rfl)
  have c_LONGEST_ROW:=Fb.int_seen KX G (Fb.ith 6 hI rfl rfl)
  have c_LONGEST_MEANING:=Fb.int_seen KX G (Fb.ith 7 hI rfl rfl)
  have c_MOST_ENTRIES:=Fb.int_seen KX G (Fb.ith 8 hI rfl rfl)
  have c_HEAD_LINES:=Fb.int_seen KX G (Fb.ith 9 hI rfl rfl)
  have c_OTHER_LOCKER:=Fb.int_seen KX G (Fb.ith 10 hI rfl rfl)
  have c_NO_SIGN:=Fb.int_seen KX G (Fb.ith 11 hI rfl rfl)
  have c_NOT_SHOWN:=Fb.int_seen KX G (Fb.ith 12 hI rfl rfl)
  have c_NOT_BEHIND:=Fb.int_seen KX G (Fb.ith 13 hI rfl rfl)
  have c_TOO_MANY_ENTRIES:=Fb.int_seen KX G (Fb.ith 14 hI rfl rfl)
  have c_NEW:=Fb.int_seen KX G (Fb.ith 15 hI rfl rfl)
  have c_DROPPED:=Fb.int_seen KX G (Fb.ith 16 hI rfl rfl)
  have c_SAYS_ELSE:=Fb.int_seen KX G (Fb.ith 17 hI rfl rfl)
  have c_OTHER_BOOK:=Fb.int_seen KX G (Fb.ith 18 hI rfl rfl)
  have c_NOT_TO_BE_DONE:=Fb.int_seen KX G (Fb.ith 19 hI rfl rfl)
  have c_TOO_MANY_LEFT:=Fb.int_seen KX G (Fb.ith 20 hI rfl rfl)
  have c_DIGITS:=Fb.int_seen KX G (Fb.ith 21 hI rfl rfl)
  have c_SIGN:=Fb.int_seen KX G (Fb.ith 22 hI rfl rfl)
  have c_SAME:=Fb.int_seen KX G (Fb.ith 23 hI rfl rfl)
  have c_ANSWER:=Fb.int_seen KX G (Fb.ith 24 hI rfl rfl)
  have c_MOST_SIGNS:=Fb.int_seen KX G (Fb.ith 25 hI rfl rfl)
  have c_MOST_COPIES:=Fb.int_seen KX G (Fb.ith 26 hI rfl rfl)
  have c_HIGHEST_SAME:=Fb.int_seen KX G (Fb.ith 27 hI rfl rfl)
  have c_TOLD_BEFORE:=Fb.int_seen KX G (Fb.ith 28 hI rfl rfl)
  have c_TOO_MANY_SIGNS:=Fb.int_seen KX G (Fb.ith 29 hI rfl rfl)
  have c_LOOK_TOLD_BEFORE:=Fb.int_seen KX G (Fb.ith 30 hI rfl rfl)
  have c_LONGEST_TEXT:=Fb.int_seen KX G (Fb.ith 31 hI rfl rfl)
  have c_TOO_LONG:=Fb.int_seen KX G (Fb.ith 32 hI rfl rfl)
  have c_NO_LOCKER:=Fb.int_seen KX G (Fb.ith 33 hI rfl rfl)
  have c_NO_BOOK:=Fb.int_seen KX G (Fb.ith 34 hI rfl rfl)
  have c_COLOURS:=Fb.str_seen KX G (Fb.ith 0 hS rfl rfl)
  have c_SHAPES:=Fb.tup_seen KX G (Fb.ith 0 hU rfl rfl)
  have B:Fb.Blt mg:=⟨Fb.no_seen (x:="ord") KX G (Fb.ith 7 hB rfl rfl),Fb.no_seen (x:="len") KX G (Fb.ith 8 hB rfl rfl),Fb.no_seen (x:="all") KX G (Fb.ith 9 hB rfl rfl),Fb.no_seen (x:="any") KX G (Fb.ith 10 hB rfl rfl),Fb.no_seen (x:="enumerate") KX G (Fb.ith 11 hB rfl rfl),Fb.no_seen (x:="reversed") KX G (Fb.ith 12 hB rfl rfl),Fb.no_seen (x:="tuple") KX G (Fb.ith 13 hB rfl rfl),Fb.no_seen (x:="range") KX G (Fb.ith 14 hB rfl rfl)⟩
  have B2:Fb.Blt2 mg:=⟨Fb.no_seen (x:="sorted") KX G (Fb.ith 15 hB rfl rfl),Fb.no_seen (x:="list") KX G (Fb.ith 16 hB rfl rfl)⟩
  have g_split:=d_split_at.has (P:=Ak.prog) (w:=w) fun base=>Fb.ok_split d_split_at.fn
  have g_letters:=d_letters.has (P:=Ak.prog) (w:=w) fun base=>Fb.ok_letters d_letters.fn B
  have g_nbyte:=d_is_name_byte.has (P:=Ak.prog) (w:=w) fun base=>Fb.ok_nameByte d_is_name_byte.fn B
  have g_isname:=d_is_name.has (P:=Ak.prog) (w:=w) fun base=>Fb.ok_isName d_is_name.fn B c_LONGEST_NAME g_nbyte
  have g_naming:=d_is_naming_line.has (P:=Ak.prog) (w:=w) fun base=>Fb.ok_naming d_is_naming_line.fn B c_BLANK g_split g_letters g_isname
  have g_named:=d_named.has (P:=Ak.prog) (w:=w) fun base=>Fb.ok_named d_named.fn c_BLANK g_split
  have g_count:=d_count_lines.has (P:=Ak.prog) (w:=w) fun base=>Fb.ok_count d_count_lines.fn c_LINE_END
  have g_first:=d_first_fault.has (P:=Ak.prog) (w:=w) fun base=>Fb.ok_first (kT:=7) d_first_fault.fn B c_LINE_END c_NO_SUCH_LINE g_split
  have g_small:=d_small_number.has (P:=Ak.prog) (w:=w) fun base=>Fb.ok_small d_small_number.fn B
  have g_shape:=d_shape_told.has (P:=Ak.prog) (w:=w) fun base=>Fb.ok_shape d_shape_told.fn B c_SHAPES g_letters
  have g_numof:=d_number_of.has (P:=Ak.prog) (w:=w) fun base=>Fb.ok_numOf d_number_of.fn B
  have g_look:=d_look_told.has (P:=Ak.prog) (w:=w) fun base=>Fb.ok_look d_look_told.fn B c_COLOURS c_DIGITS g_letters g_numof
  have g_Kind:=k_Kind.has (P:=Ak.prog) (w:=w) fun base=>Fb.ok_kindI k_Kind.fn t_Kind
  have g_kwith:=d_kind_with.has (P:=Ak.prog) (w:=w) fun base=>Fb.ok_kwith d_kind_with.fn c_MOST_COPIES g_small g_shape g_look g_Kind
  have g_ktold:=d_kind_told.has (P:=Ak.prog) (w:=w) fun base=>Fb.ok_ktold d_kind_told.fn B c_BLANK c_SIGN c_SAME c_ANSWER c_HIGHEST_SAME g_split g_letters g_isname g_small g_kwith
  have g_stand:=d_can_stand.has (P:=Ak.prog) (w:=w) fun base=>Fb.ok_stand d_can_stand.fn B t_Locker t_Kind c_ANSWER
  have g_label:=d_is_label_taken.has (P:=Ak.prog) (w:=w) fun base=>Fb.ok_label d_is_label_taken.fn B t_Locker t_Kind c_SIGN c_SAME
  have g_lookt:=d_is_look_taken.has (P:=Ak.prog) (w:=w) fun base=>Fb.ok_lookT d_is_look_taken.fn B t_Locker t_Kind
  have g_kfault:=d_kind_fault.has (P:=Ak.prog) (w:=w) fun base=>Fb.ok_kfault d_kind_fault.fn B t_Locker t_Kind c_NO_SUCH_LINE c_TOLD_BEFORE c_TOO_MANY_SIGNS c_LOOK_TOLD_BEFORE c_SIGN c_MOST_SIGNS g_stand g_label g_lookt
  have g_addk:=d_add_kind.has (P:=Ak.prog) (w:=w) fun base=>Fb.ok_addK d_add_kind.fn B t_Locker t_Kind c_SIGN c_SAME
  have g_takel:=d_take_line_lockers.has (P:=Ak.prog) (w:=w) fun base=>L2.FnOk.mono (k:=6) (Fb.ok_takeL d_take_line_lockers.fn (by decide) t_Locker c_NO_SUCH_LINE g_naming g_named g_ktold g_kfault g_addk) (by decide)
  have g_Locker:=k_Locker.has (P:=Ak.prog) (w:=w) fun base=>Fb.ok_lockI k_Locker.fn t_Locker
  have g_ktm:=d_kinds_that_mean.has (P:=Ak.prog) (w:=w) fun base=>Fb.ok_ktm (CK:=382) d_kinds_that_mean.fn t_Locker
  have g_firstl:=d_first_left.has (P:=Ak.prog) (w:=w) fun base=>Fb.ok_firstL d_first_left.fn t_Locker t_Kind
  have g_hoist:=d_hoist_told.has (P:=Ak.prog) (w:=w) fun base=>Fb.ok_hoist d_hoist_told.fn B g_ktm g_firstl
  have g_show:=d_can_show.has (P:=Ak.prog) (w:=w) fun base=>Fb.ok_show d_can_show.fn g_hoist
  have g_ismean:=d_is_meaning.has (P:=Ak.prog) (w:=w) fun base=>Fb.ok_isMean d_is_meaning.fn B c_BLANK c_LAST_PRINTED c_LONGEST_MEANING g_split
  have g_roww:=d_row_word.has (P:=Ak.prog) (w:=w) fun base=>Fb.ok_rowW d_row_word.fn c_BLANK g_split
  have g_meant:=d_meaning_told.has (P:=Ak.prog) (w:=w) fun base=>Fb.ok_meanT d_meaning_told.fn B g_roww
  have g_rowlen:=d_is_row_length.has (P:=Ak.prog) (w:=w) fun base=>Fb.ok_rowLen d_is_row_length.fn c_LONGEST_ROW
  have g_isroww:=d_is_row_word.has (P:=Ak.prog) (w:=w) fun base=>Fb.ok_isRowW d_is_row_word.fn B c_FULL_STOP g_rowlen g_split g_isname
  have g_isent:=d_is_entry_line.has (P:=Ak.prog) (w:=w) fun base=>Fb.ok_isEnt d_is_entry_line.fn g_roww g_isroww g_ismean g_meant
  have g_signs:=d_signs_told.has (P:=Ak.prog) (w:=w) fun base=>Fb.ok_signs (CK:=382) d_signs_told.fn B t_Locker c_FULL_STOP g_split
  have g_place:=d_place_in_order.has (P:=Ak.prog) (w:=w) fun base=>Fb.ok_place d_place_in_order.fn B
  have g_behind:=d_is_row_behind.has (P:=Ak.prog) (w:=w) fun base=>Fb.ok_behind d_is_row_behind.fn g_place
  have g_rowf:=d_row_fault.has (P:=Ak.prog) (w:=w) fun base=>Fb.ok_rowF d_row_fault.fn B t_Book t_Entry c_NOT_SHOWN c_NOT_BEHIND c_TOO_MANY_ENTRIES c_MOST_ENTRIES g_show g_behind
  have g_Entry:=k_Entry.has (P:=Ak.prog) (w:=w) fun base=>Fb.ok_entI k_Entry.fn t_Entry
  have g_takee:=d_take_entry.has (P:=Ak.prog) (w:=w) fun base=>Fb.ok_takeE d_take_entry.fn t_Book c_NO_SUCH_LINE c_NO_SIGN g_isent g_roww g_signs g_rowf g_Entry g_meant
  have g_takeb:=d_take_line_books.has (P:=Ak.prog) (w:=w) fun base=>Fb.ok_takeB d_take_line_books.fn (by decide) t_Locker t_Book c_NO_SUCH_LINE c_OTHER_LOCKER c_HEAD_LINES g_naming g_named g_takee
  have g_Book:=k_Book.has (P:=Ak.prog) (w:=w) fun base=>Fb.ok_bookI k_Book.fn t_Book
  have g_Reading:=k_Reading.has (P:=Ak.prog) (w:=w) fun base=>Fb.ok_readI k_Reading.fn t_Reading
  have g_twc:=d_told_with_count.has (P:=Ak.prog) (w:=w) fun base=>Fb.ok_twc d_told_with_count.fn B
  have g_naml:=d_naming_line.has (P:=Ak.prog) (w:=w) fun base=>Fb.ok_namL d_naming_line.fn c_BLANK c_LINE_END g_letters
  have g_word:=d_word_of_row.has (P:=Ak.prog) (w:=w) fun base=>Fb.ok_word d_word_of_row.fn t_Locker t_Kind c_FULL_STOP
  have g_entl:=d_entry_line.has (P:=Ak.prog) (w:=w) fun base=>Fb.ok_entL d_entry_line.fn t_Entry c_BLANK c_LINE_END g_word
  have g_textb:=d_text_of_book.has (P:=Ak.prog) (w:=w) fun base=>Fb.ok_textB d_text_of_book.fn t_Locker t_Book g_naml g_entl
  have g_mbr:=d_meanings_by_row.has (P:=Ak.prog) (w:=w) fun base=>Fb.ok_mbr d_meanings_by_row.fn B t_Book t_Entry
  have g_Change:=k_Change.has (P:=Ak.prog) (w:=w) fun base=>Fb.ok_chI k_Change.fn t_Change
  have g_Amendment:=k_Amendment.has (P:=Ak.prog) (w:=w) fun base=>Fb.ok_amI k_Amendment.fn t_Amendment
  have g_isch:=d_is_change_line.has (P:=Ak.prog) (w:=w) fun base=>Fb.ok_isCh d_is_change_line.fn c_BLANK c_DROPPED c_NEW c_SAYS_ELSE g_isroww g_isent
  have g_cht:=d_change_told.has (P:=Ak.prog) (w:=w) fun base=>Fb.ok_chT d_change_told.fn g_roww g_signs g_meant g_Change
  have g_can:=d_can_be_done.has (P:=Ak.prog) (w:=w) fun base=>Fb.ok_can d_can_be_done.fn B t_Change c_NEW
  have g_chf:=d_change_fault.has (P:=Ak.prog) (w:=w) fun base=>Fb.ok_chF d_change_fault.fn B t_Amendment t_Change c_NO_SIGN c_NEW c_NOT_SHOWN c_NOT_BEHIND c_NOT_TO_BE_DONE g_show g_behind g_can
  have g_namf:=d_name_fault.has (P:=Ak.prog) (w:=w) fun base=>Fb.ok_namF (CC:=264) d_name_fault.fn t_Amendment c_NO_SUCH_LINE c_OTHER_BOOK g_naming g_named
  have g_takea:=d_take_line_amendments.has (P:=Ak.prog) (w:=w) fun base=>Fb.ok_takeA d_take_line_amendments.fn t_Amendment c_NO_SUCH_LINE g_namf g_isch g_cht g_chf
  have g_chd:=d_changed.has (P:=Ak.prog) (w:=w) fun base=>Fb.ok_chd d_changed.fn B B2 (by decide) t_Book t_Change g_mbr g_Book g_place g_Entry
  have e:=hmg.symm.trans d_amend.at_
  cases e
  refine⟨fd_amend,b_amend,fun base _ _ hCd hBm=>?_⟩
  have g_readl:=d_read_locker.hasB (Fb.ok_readL (P:=Ak.prog) (w:=w) (base:=base) d_read_locker.fn e_read_locker (hCd (484,480) (by simp)) hBm B (by decide) t_Locker c_NO_SUCH_LINE g_Locker g_first g_takel g_count)
  have g_readb:=d_read_book.hasB (Fb.ok_readB (P:=Ak.prog) (w:=w) (base:=base) d_read_book.fn e_read_book (hCd (225,221) (by simp)) hBm (by decide) t_Book c_NO_SUCH_LINE c_HEAD_LINES g_Book g_first g_takeb g_count)
  have g_texts:=d_read_texts.hasB (Fb.ok_texts (P:=Ak.prog) (w:=w) (base:=base) d_read_texts.fn B (by decide) t_Locker t_Book c_LONGEST_TEXT c_TOO_LONG c_NO_LOCKER c_NO_BOOK g_readl g_readb g_Reading)
  have g_reada:=d_read_amendment.hasB (Fb.ok_readA (P:=Ak.prog) (w:=w) (base:=base) d_read_amendment.fn e_read_amendment (hCd (344,340) (by simp)) hBm (by decide) t_Amendment t_Book c_NO_SUCH_LINE g_Amendment g_mbr g_first g_takea)
  have g_amd:=d_amended.hasB (Fb.ok_amd (P:=Ak.prog) (w:=w) (base:=base) d_amended.fn B (by decide) t_Amendment t_Book c_MOST_ENTRIES c_TOO_MANY_LEFT g_reada g_chd g_count)
  exact Fb.ok_amend d_amend.fn B (by decide) (by decide) t_Reading t_Book c_LONGEST_TEXT c_TOO_LONG c_NO_BOOK g_texts g_amd g_textb g_twc
 case cS =>
  intro K H xs a hO hwi hask hx
  cases hx with
  | cons h1 h2 =>
   cases h2 with
   | cons h2 h3 =>
    cases h3 with
    | cons h3 h4 =>
     cases h4
     cases h1 with
     | lst hs ha =>
      cases h2 with
      | lst hs2 ha2 =>
       cases h3 with
       | lst hs3 ha3 =>
        have e:=L2.ints_dw a.1 _ ha
        subst e
        have e2:=L2.ints_dw a.2.1 _ ha2
        subst e2
        have e3:=L2.ints_dw a.2.2.1 _ ha3
        subst e3
        have q:((Codec.inLen 0 66000 a.1&&a.1.all (Codec.inInt 0 255))&&((Codec.inLen 0 66000 a.2.1&&a.2.1.all (Codec.inInt 0 255))&&((Codec.inLen 0 66000 a.2.2.1&&a.2.2.1.all (Codec.inInt 0 255))&&true)))=true:=hwi
        rw[BL,BL,BL,BL,BL,BL] at q
        obtain⟨⟨l1,m1⟩,⟨l2,m2⟩,⟨l3,m3⟩,_⟩:=q
        have l3:=(Codec.inNat_iff.mp l3).2
        have b3:∀n∈a.2.2.1,0<=n/\n<=255:=fun n hn=>Codec.inInt_iff.mp (Cu.mp m3 n hn)
        have l1:=(Codec.inNat_iff.mp l1).2
        have l2:=(Codec.inNat_iff.mp l2).2
        have b1:∀n∈a.1,0<=n/\n<=255:=fun n hn=>Codec.inInt_iff.mp (Cu.mp m1 n hn)
        have b2:∀n∈a.2.1,0<=n/\n<=255:=fun n hn=>Codec.inInt_iff.mp (Cu.mp m2 n hn)
        refine⟨_,_,_,a.1.map fun (n:Int)=>DP n.toNat,a.2.1.map fun (n:Int)=>DP n.toNat,a.2.2.1.map fun (n:Int)=>DP n.toNat,rfl,⟨by rw[Fb.zs_of b1];exact hs,by rw[Fb.zs_of b2];exact hs2,by rw[AH];omega,by rw[AH];omega,.inl (hO (484,480) (by simp)),.inl (hO (225,221) (by simp))⟩,by rw[Fb.zs_of b3];exact hs3,by rw[AH];omega,.inl (hO (344,340) (by simp)),fun H' r hr=>?_⟩
        show L2.Dw K H' (.ref r) (.list ((PyWqbacu.amend a.1 a.2.1 a.2.2.1).map WData.int))
        rw[Fb.amend_due b1 b2 b3]
        exact .lst (L2.SqL.of hr) (L2.dw_ints _)
