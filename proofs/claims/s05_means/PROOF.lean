import PyProof.Rows.All
import Wide.All
import OpenK.AllK
import Wide.FinOn
import PyProof.EqAt
import PyProof.EqKinds
import PyProof.TupleCall
import KE.BitLaws
import Open.SpecLaws
import KE.OsHead
import KE.OsGo
import KE.KLam
import PySem.Challenge.RW_flagbooks_s05_means
set_option linter.all false
open Array renaming mk→HW,length_toList→JT,toList→MP,getElem?_eq_none→TM
open Bool renaming false_ne_true→Ag,and_eq_true→BI,false_and→Co,eq_iff_iff→C3,noConfusion→C4,true_and→DJ,false_eq_true→Dn,eq_false_iff→GO,false_or→GP,and_false→HX,and_eq_true_iff→JU,or_eq_true→MQ,true_or→MR
open Except renaming error→CM
open False renaming elim→BL
open FlagCNeutral renaming text?→HY,callOf→TN
open Flags renaming Kind→AM,Bytes→Ah,Locker→Ai,Entry→Aw,ascii→Ay,cutAt→Bo,wordName→Bt,kindIn→Cf,kindOf→C5,isMeaning→DV,isName→DW,judge→DX,digitOf→Ef,partAt→Eg,wrongBehind→Eh,Role→FI,rowBefore→FK,entryIn→GQ,lookIn→GR,shapeOf→GS,Book→HZ,hexValue→Ha,LOOKED→JV,SIGNS→MV,judgeLines→MW,nameIn→MX,noTwoBlanks→TU
open Flags.Kind renaming isSign→Dq,role→TQ
open Flags.Locker renaming rowIn→FH,entryRow→MS,find→MT,points→MU
open Flags.Role renaming sign→FJ
open FlagsC3 renaming answer→JW
open ForInStep renaming yield→JX
open Int renaming toNat_natCast→FL
open Int.ofNat renaming inj→MY
open List renaming length_map→AG,mem_cons→AS,mem_cons_self→AU,getElem?_map→Aj,mem_cons_of_mem→As,map_cons→Au,mem_singleton→A3,getElem?_eq_getElem→BD,length_append→BO,mem_map→BP,getElem?_eq_some_iff→Bd,size_toArray→Be,length_cons→B1,map_append→CU,mem_of_getElem?→CV,range→CW,all_eq_true→Cg,mem_filter→Ci,append_nil→C6,length_singleton→C7,mem_append→C8,nodup_cons→C9,any_cons→DK,map_congr_left→DL,any_eq_false→DY,lookup_cons→DZ,not_mem_nil→Dc,find?_cons→Dr,sum_cons→Ds,length_take→EE,mem_append_right→EF,filter_cons→Ei,getD_eq_getElem?_getD→Ej,lookup→Ek,pairwise_cons→El,all_map→FN,cons_append→FP,map_nil→FQ,mem_iff_getElem?→FR,all_cons→GU,any_map→GV,length→GW,mapM_cons→GX,any_eq_true→Hb,drop_eq_getElem_cons→Hc,drop_of_length_le→Hd,getElem?_append_right→He,mapM→Hf,mem_append_left→Hg,mem_eraseDups→Hi,of_mem_zip→Hj,dropLast_concat_getLast→JY,filter_cons_of_neg→JZ,filter_sublist→Ja,getElem?_append_left→Jb,length_drop→Jd,length_eq_zero_iff→Je,length_filter_le→Jg,map_map→Jh,nodup_nil→Ji,range_succ_eq_map→Jj,take_length→Jk,count_cons_of_ne→Ma,filterMap_cons→Mb,filter_congr→Mc,filter_cons_of_pos→Md,findIdx?_eq_some_iff_getElem→Me,forall_mem_cons→Mf,getElem?_cons_zero→Mg,getElem?_set_ne→Mh,getElem?_set_self→Mi,getElem_mem→Mj,getLast?_eq_none_iff→Ml,length_range→Mm,mem_range→Mn,pairwise_append→Mo,pairwise_lt_range→Mp,take_sublist→Mq,Pairwise→TV,count_append→TX,drop_length→TY,filter_append→TZ,filter_eq_nil_iff→Ta,filter_eq_self→Tb,filter_map→Tc,find?_eq_none→Td,find?_some→Te,foldr_cons→Tf,getElem?_cons_succ→Tg,getElem?_eq_none→Th,getElem?_take_of_lt→Ti,getElem_inj→Tj,idxOf_lt_length_iff→Tn,mem_filterMap→To,mem_of_find?_eq_some→Tq,nil_append→Tr,pairwise_iff_getElem→Ts,pairwise_singleton→Tt,take_of_length_le→Tu
open List.Pairwise renaming filter→MZ
open List.cons renaming inj→FO
open Nat renaming le_refl→AV,zero_le→A5,ne_of_lt→BM,lt_of_lt_of_le→BV,le_trans→Ba,lt_irrefl→Cp,zero_add→EG,le_of_eq→Hk,le_of_lt→Hl,zero_min→Hm,le_of_succ_le→Jn,lt_succ_iff_lt_or_eq→Jo,lt_succ_of_lt→Jq,ne_of_gt→Jr,not_lt_zero→Jt,sub_self→Ju,succ→Jv,zero_sub→Jw,add_le_add_left→Mr,le_add_right→Ms,lt_succ_self→Mt,min_eq_left→Mu,min_le_left→Mv,le_antisymm→Tv,pos_of_ne_zero→Tw,succ_ne_self→Tx
open Ne renaming symm→An
open Option renaming map_some→FT,map_eq_some_iff→GY,none→Jx,getD_none→Mw,isSome_iff_exists→Tz,isSome_map→T1,isSome_some→T2
open Option.some renaming inj→Ae,injEq→T3
open Or renaming inl→AZ,inr→Dt
open PyProof.Rows renaming int_at→EH,boot_ord→GZ,callWith_type1→Hn,take_snoc→Ho,boot_all→Jy,Subscript_→Mx,all_range→Mz,any_range→M0,intsAre_of→M3,gt_int→T4
open PySem renaming wpAny_bind→AF,wpAny_pure→AQ,boot_len→Bf,mem_of_lookup→Bg,wpAny_loadPart'→Bv,wpAny_mono→Cs,wpAny_truthy_bool→EK,codeAny_mono→FZ,wpAny_Call_Name_kw→Fc,wpAny_call_entry→Fd,wpAny_field→Fe,wpAny_callSpecial?_slot→Gi,wpAny_newObj_type→Gj,call_meetsIn→Hr,tupleKind_room_in1→Hs,wpAny_passesOwn→Ht,Within→KA,call_meets→KC,pushCells_keeps→KD,sizeLine_eq→KG,wpAny_dictEntries→KH,wpAny_pyIter_enum→KI,wpAny_seqItems→KJ,wpAny_setField→KL,wpAny_typeNameOfWhole_keyiter→KN,wpAny_typeNameOf_keyiter→KP,call→NR,wpAny_Name→NS,wpAny_call→NT,wpAny_dictEpoch→NU,wpAny_execs_nil→NV,wpAny_holding→NW,wpAny_listPart→NX,wpAny_of_eq→NY,wpAny_pyIter_tuple→NZ,codeAny_builtin→Uj,richCompare_meets_room→Uk,slot_list_getitem→Ul,slot_list_setitem→Um,wpAny_Call_method→Uo,wpAny_Dict_empty→Up,wpAny_execs_cons→Uq,wpAny_isOneOf_keyiter→Ur,wpAny_isTrue_Compare1→Us,wpAny_letOwnedTupleGo_enum→Ut,wpAny_pyIter_list→Uu,wpAny_pyIter_revIter→Uv,wpAny_pyIter_slot→Uw,wpAny_specialOf→Ux
open PySem.Around renaming under→M4,frames_deeper→T5,under_plainId→T6
open PySem.Builtin.Dict renaming showsAll→T7
open PySem.Builtin.Dict_items renaming ownsTuple→T8
open PySem.Builtin.List renaming listTooLong→M5,listAllItems→T9,listSameRef→UA,listSubscript?→UB
open PySem.Builtin.SmallTypes renaming nextOf→Jz
open PySem.Calls renaming spliced_cons→J1,callWith_builtin→M6,evalArgs_plain→M7,spliced_nil→M8,Name_function_global→UC
open PySem.Challenge renaming rw_flagbooks_s05_means→Aa,pw_flagbooks_s05_means→Du
open PySem.Code renaming isFrame→M9
open PySem.F renaming plainAttrs_list→Em,slot_dict_get→Ga,slot_dict_keyiterator_next→Gb,slot_list_append→Ge,type_list_append→Gf,entry_dict_get→J2,slot_tuple_iterator_next→J3,args_dict_get_2→UD,args_dict_get_3→UE,args_dict_keyiterator_next_1→UG,args_tuple_iterator_next_1→UH,entry_dict_keyiterator_next→UI,entry_tuple_iterator_next→UJ,plainAttrs_dict→UK,slot_dict_iter→UL,slot_dict_keyiterator_iter→UM,slot_dict_len→UN,slot_list_count→UO,slot_list_index→UP,type_dict_get→UQ
open PySem.Heap renaming lt_size→Ao,get?_push_of_some→BE,get?_push_size→BQ,size_push→Cq,SameBut→Gg,get?_update_self→UR
open PySem.Heap.SameBut renaming update→J4
open PySem.IsL renaming isList→US
open PySem.MeetsSeq3 renaming plain_eq_loop→J5,entry_eq_loop→UT
open PySem.NameKind renaming free→EI,cell→NA
open PySem.Obj renaming data_mapFields→J6,mapSeq→NB,cls_mapFields→UU,isFreed_of_fields→UW
open PySem.Paired renaming length→FU
open PySem.PassesOwn renaming never→FV
open PySem.PyData renaming int→Cr,eqv→En,canLayAll0→NC,depthAll→ND
open PySem.SeqAt renaming EqAt→Bu,shaped→Hq,canLay_of_shaped→J7,eqAt_reads→Ua,room_of_shaped→Ub
open PySem.SeqAt.EqAt renaming int_int→UX,int_str→UY,str_int→UZ
open PySem.Str renaming ofString→Dv,empty→NF
open PySem.Value renaming ref→Az,none→DA,bool→DM,type→Dx,int→J8,str→J9
open PySem.W renaming Frag→AA,emptyDict→EJ,instObj→Eo,findIn→FW,keepIn→FX,mg_of→FY,fnOf→Gh,callWith_K→NH,codeIn→NI,hasDictIn→NJ,lookIn→NK,methodObj→NL,plainGet→NM,tabIn→NN,tab_of→NP,takerIn→NQ,WRecords→Uc,cellsFrom_some→Ud,handedIn→Ue,length_le_weightAllW→Ug,makesIn→Uh,plainOver→Ui
open PySem.W.KFB renaming if_not→NG
open Sum renaming inl→Ar,inr→Ep
open Sum.inl renaming inj→Hu
open True renaming intro→Gk
open UInt8 renaming ofNat→CY
set_option Elab.async false
section
set_option maxRecDepth 100000
set_option maxHeartbeats 4000000
namespace Fb
open PySem PySem.W PySem.Calls PyProof.Rows
noncomputable def JA (tb:String→Option Builtin) (p:Program) (w:World) (n₀:Nat) (ann:Option Value) (n:Nat):SharedT→Thread→Option SharedT :=
 @Nat.rec (fun _=>SharedT→Thread→Option SharedT) (fun _ _=>none)
  (fun _ ih s t=>match through t with
   | true=>some s
   | false=>match stepOk n₀ ann t with
    | false=>none
    | true=>match stepT (denote tb) p w s t with
     | some (s',t')=>ih s' t'
     | none=>none) n
theorem Qb {tb:String→Option Builtin}{p:Program}{w:World}{n₀:Nat}{ann:Option Value}:∀(n:Nat) (s r:SharedT) (t:Thread),JA tb p w n₀ ann n s t=some r→topRun tb p w n₀ ann n s.abs t=some r.abs
 | 0,_,_,_,h=>nomatch (show none=some _ from h)
 | n+1,s,r,t,h=>by
  have h:(match through t with
   | true=>some s
   | false=>match stepOk n₀ ann t with
    | false=>none
    | true=>match stepT (denote tb) p w s t with
     | some (s',t')=>JA tb p w n₀ ann n s' t'
     | none=>none)=some r:=h
  unfold topRun
  cases ht:through t with
  | true=>rw[ht] at h;cases h;rfl
  | false =>
   rw[ht] at h
   cases hk:stepOk n₀ ann t with
   | false=>rw[hk] at h;cases h
   | true =>
    rw[hk] at h
    cases hs:stepT (denote tb) p w s t with
    | none=>rw[hs] at h;cases h
    | some r' =>
     obtain⟨s₂,t₂⟩:=r'
     rw[hs] at h
     rw[stepT_spec hs]
     exact Qb n _ _ _ h
noncomputable def ZU (l:List Obj):Nat→BT→BT:=@List.rec Obj (fun _=>Nat→BT→BT) (fun _ t=>t) (fun o _ ih n t=>ih (Jv n) (t.ins n o)) l
noncomputable def Ny (P:Params):BT:=ZU (boot_heap P).objs.toList 0 .nil
noncomputable def IA (w:World) (os:OsState):SharedT:=⟨Ny w.params,(boot_heap w.params).objs.size,(boot_heap w.params).life,HW [],boot_drawn,boot_toks,os⟩
theorem VH (P:Params):absHeap (Ny P) (boot_heap P).objs.size (boot_heap P).life=boot_heap P:=by kernel_rfl
noncomputable def runA (p:Program) (N n₀:Nat) (ann:Option Value) (w:World) (os:OsState) {α:Type} (f:Shared→α):Option α:=(JA treeTable p w n₀ ann N (IA w os) (topStub p)).map fun s=>f s.abs
theorem runA_rfl:@runA=@runA:=rfl
noncomputable def look1 (p:Program) (w:World) (s:Shared):Bool:=staticsOk (importedModules p.main.body) (boot_heap w.params) s.heap&&namesBound p s.heap&&gensDone s&&laidKept (boot_heap w.params) s.heap
theorem look1_rfl:@look1=@look1:=rfl
noncomputable def look2 (q:Program) (s:Shared):=seen ((recsOf q).map (·.name)) (ownsOf q) [] { s with gens:=#[] }
theorem look2_rfl:@look2=@look2:=rfl
noncomputable def look3 (q:Program) (loose mods:List Str) (Xt:Shared→Bool) (s:Shared):=(s.heap.bltView,s.heap.keysOk (looseW q loose) ((recsOf q).map (·.name)) ((litsOf q).map (·.1)) ((clssOf q (looseW q loose)).map (·.name))&&s.heap.accountedOkI mods&&s.heap.isNs mainGlobals&&s.heap.isNs builtinsNs&&tablesOk q s.heap&&Xt s&&(s.gens.size==0),tabsOk q s)
theorem look3_rfl:@look3=@look3:=rfl
noncomputable def look4 (q:Program) (loose:List Str) (s:Shared):=(pinSeenD q (drecsOf q) s,plainSeenE q (looseW q loose) s,plainSeenD q loose s,wideSeen q s,clsSeenW q loose s)
theorem look4_rfl:@look4=@look4:=rfl
theorem Iz {p:Program}{N n₀:Nat}{ann:Option Value}{w:World}{os:OsState}{α:Type}{f:Shared→α}{a:α}{s:SharedT} (hr:JA treeTable p w n₀ ann N (IA w os) (topStub p)=some s) (h:runA p N n₀ ann w os f=some a):f s.abs=a:=by
 unfold runA at h
 rw[hr] at h
 exact Ae h
theorem Wn {p q:Program}{loose:List Str}{Xt:Shared→Bool}{α:Type}{Yf:Shared→α}{Ya:World→α}{N n₀:Nat}{ann:Option Value}
  (e:opening p=plainProg p.main.scope.names) (hN:Nat.ble 600 N=true) (f:∀s,fenceModules? p s=some s)
  (size:∀P:Params,((boot_heap P).isNs mainGlobals,(boot_heap P).objs.size,(boot_heap P).nsMap mainGlobals "__annotations__")=(true,n₀,ann))
  (h1:∀w os,runA p N n₀ ann w os (look1 p w)=some true) (h2:∀w os,runA p N n₀ ann w os (look2 q)=some (expectedOf q))
  (h3:∀w os,runA p N n₀ ann w os (look3 q loose (importedModules p.main.body) Xt)=some (bltViewBooted,true,true))
  (h4:∀w os,runA p N n₀ ann w os (look4 q loose)=some (pinGoodD (drecsOf q),plainGoodE q (looseW q loose),plainGoodD q loose,wideGood q,clsGoodW q loose))
  (h5:∀w os,runA p N n₀ ann w os Yf=some (Ya w)):LeftO p q loose Xt Yf Ya N:=fun w=>by
 obtain⟨⟨hp,gs,d,k,os⟩,e1,e2⟩:=GY.mp (boot_open e hN f w)
 obtain⟨rfl,rfl,rfl,rfl⟩:hp=boot_heap w.params∧gs=HW []∧d=boot_drawn∧k=boot_toks:=by simpa using e2
 obtain⟨z1,z2,z3⟩:_∧_∧_:=by simpa only [Prod.mk.injEq] using size w.params
 obtain⟨s,hr,l1⟩:=GY.mp (h1 w os)
 have l2:=Iz hr (h2 w os)
 have l3:=Iz hr (h3 w os)
 have l4:=Iz hr (h4 w os)
 have l5:=Iz hr (h5 w os)
 have r:=Qb _ _ _ _ hr
 have ea:(IA w os).abs=⟨boot_heap w.params,HW [],boot_drawn,boot_toks,os⟩:=by
  unfold IA SharedT.abs
  dsimp only
  rw[VH]
 rw[ea] at r
 have t:topFrom treeTable p w N ⟨boot_heap w.params,HW [],boot_drawn,boot_toks,os⟩=some s.abs:=by
  unfold topFrom
  dsimp only
  rw[z1,z2,z3,r]
  show(match look1 p w s.abs with | true=>_ | false=>_)=_
  rw[l1]
 unfold openEnds
 rw[e1]
 show(topFrom treeTable p w N ⟨boot_heap w.params,HW [],boot_drawn,boot_toks,os⟩).map _=_
 rw[t]
 show some ((look2 q s.abs,(look3 q loose (importedModules p.main.body) Xt s.abs).1,(look3 q loose (importedModules p.main.body) Xt s.abs).2.1,(look3 q loose (importedModules p.main.body) Xt s.abs).2.2,look4 q loose s.abs),Yf s.abs)=_
 rw[l2,l3,l4,l5]
 rfl
end Fb
name_quick runAQ for Fb.runA by Fb.runA_rfl
name_quick look1Q for Fb.look1 by Fb.look1_rfl
name_quick look2Q for Fb.look2 by Fb.look2_rfl
name_quick look3Q for Fb.look3 by Fb.look3_rfl
name_quick look4Q for Fb.look4 by Fb.look4_rfl
end
section
set_option maxRecDepth 100000
set_option maxHeartbeats 4000000
namespace Fb
open PySem PySem.W PySem.Calls PyProof.Rows
def looseN:List Str:=["take_line_books","take_line_lockers"]
def lvN:List (Str×WData):=[]
def viewN:Program:=view Du [1,2,3,4,6,7,8,9,10,11,12,13,14,15,16,17,19,20,21,22,23,24,25,26,27,28,29,30,31,32,33,34,35,36,37,38,39,40,41,42,44,45,46,48,49,51,52,53,54,55,56,57,58,59,60,61,62,63,64,65,66,67,68,69,70,71,72,73,74,75,76,78,79,80,81,82,83,84,85,86,87]
def stepsN:Nat:=5694
def xtN (s:Shared):Bool:=xlAt viewN lvN s&&recOk [] s
theorem X1 (w:World) (os:OsState):PySem.W.Fast.runAQ Du 5694 11 (some (.ref 6)) w os (PySem.W.Fast.look1Q Du w)=some true:=by kernel_rfl
theorem X2 (w:World) (os:OsState):PySem.W.Fast.runAQ Du 5694 11 (some (.ref 6)) w os (PySem.W.Fast.look2Q viewN)=some (expectedOf viewN):=by kernel_rfl
theorem X3 (w:World) (os:OsState):PySem.W.Fast.runAQ Du 5694 11 (some (.ref 6)) w os (PySem.W.Fast.look3Q viewN looseN (importedModules Du.main.body) xtN)=some (bltViewBooted,true,true):=by kernel_rfl
theorem X4 (w:World) (os:OsState):PySem.W.Fast.runAQ Du 5694 11 (some (.ref 6)) w os (PySem.W.Fast.look4Q viewN looseN)=some (pinGoodD (drecsOf viewN),plainGoodE viewN (looseW viewN looseN),plainGoodD viewN looseN,wideGood viewN,clsGoodW viewN looseN):=by kernel_rfl
end Fb
end
section
set_option maxRecDepth 100000
namespace L2
open PySem PySem.Spec PyProof.Rows
abbrev Key:=Sum Int Str
def ET:Key→Value→Bool
 | .inl k,v=>Value.isInt k v
 | .inr x,v=>Value.isStrOf x v
def WX (w:World):Key→Int
 | .inl k=>hashInt k
 | .inr x=>hashStr w x
theorem Di:∀{k:Key}{v:Value},ET k v=true→(∃i t,k=Ar i∧v=J8 i t)∨(∃x t,k=Ep x∧v=J9 x t)
 | .inl i,v,h=>by
  obtain⟨t,e⟩:=Value.isInt_shape (k:=i) (v:=v) h
  exact .inl ⟨i,t,rfl,e⟩
 | .inr x,v,h=>by
  obtain⟨t,e⟩:=Value.isStrOf_shape (x:=x) (v:=v) h
  exact .inr ⟨x,t,rfl,e⟩
theorem WY (i:Int) (t:Tok):ET (.inl i) (.int i t)=true:=by simp[ET,Value.isInt]
theorem WZ (x:Str) (t:Tok):ET (.inr x) (.str x t)=true:=by simp[ET,Value.isStrOf]
theorem Wa (a b:Int):decide ((Ar a:Key)=Ar b)=(a==b):=by
 by_cases e:a=b
 ·subst e;simp
 ·have h:¬(Ar a:Key)=Ar b:=fun q=>e (Hu q)
  rw[decide_eq_false h]
  exact(beq_eq_false_iff_ne.mpr e).symm
theorem Wd (a b:Str):decide ((Ep a:Key)=Ep b)=decide (a=b):=by
 by_cases e:a=b
 ·subst e;simp
 ·have h:¬(Ep a:Key)=Ep b:=fun q=>e (Ep.inj q)
  rw[decide_eq_false h,decide_eq_false e]
theorem Wb (a:Int) (b:Str):decide ((Ar a:Key)=Ep b)=false:=decide_eq_false (fun q=>nomatch q)
theorem Wc (a:Str) (b:Int):decide ((Ep a:Key)=Ar b)=false:=decide_eq_false (fun q=>nomatch q)
def CC (prog:Program) (w:World):PySem.KeyKind prog w Key where
 is:=ET
 hash:=WX w
 inj:=fun v a b ha hb=>by
  rcases Di ha with ⟨i,t,rfl,rfl⟩ | ⟨x,t,rfl,rfl⟩
  ·rcases Di hb with ⟨j,u,rfl,e⟩ | ⟨y,u,rfl,e⟩
   ·injection e with e1 _;rw[e1]
   ·exact nomatch e
  ·rcases Di hb with ⟨j,u,rfl,e⟩ | ⟨y,u,rfl,e⟩
   ·exact nomatch e
   ·injection e with e1 _;rw[e1]
 byValue:=fun k v h=>by
  rcases Di h with ⟨i,t,rfl,rfl⟩ | ⟨x,t,rfl,rfl⟩ <;> rfl
 pyHash:=fun hv h=>by
  rcases Di hv with ⟨i,t,rfl,rfl⟩ | ⟨x,t,rfl,rfl⟩
  ·exact wpAny_pyHash_int h
  ·exact wpAny_pyHash_str h
 eqBool:=fun hu hv h=>by
  rcases Di hu with ⟨i,t,rfl,rfl⟩ | ⟨x,t,rfl,rfl⟩
  ·rcases Di hv with ⟨j,u,rfl,rfl⟩ | ⟨y,u,rfl,rfl⟩
   ·rw[Wa] at h;exact wpAny_eqBool_int h
   ·rw[Wb] at h;exact UY i t y u _ _ _ _ h
  ·rcases Di hv with ⟨j,u,rfl,rfl⟩ | ⟨y,u,rfl,rfl⟩
   ·rw[Wc] at h;exact UZ x t j u _ _ _ _ h
   ·rw[Wd] at h;exact wpAny_eqBool_str h
 «strs»:=fun k x t v h=>by
  rcases Di h with ⟨i,u,rfl,e⟩ | ⟨y,u,rfl,e⟩
  ·exact nomatch e
  ·injection e with e1 _
   subst e1
   cases v <;> rfl
theorem W2 (prog:Program) (w:World) (i:Int) (t:Tok):(CC prog w).is (.inl i) (.int i t)=true:=WY i t
theorem W3 (prog:Program) (w:World) (x:Str) (t:Tok):(CC prog w).is (.inr x) (.str x t)=true:=WZ x t
end L2
namespace L2
open PySem PySem.Spec PyProof.Rows
inductive V where
 | non | bl (b:Bool) | int (i:Int) | str (x:Str) | byt (b:Array UInt8) | flt (b:UInt64) | ref (a:Addr) | ty (n:String)
 deriving DecidableEq
def RelV:V→Value→Prop
 | .non,u=>u=DA
 | .bl b,u=>u=DM b
 | .int i,u=>∃t,u=J8 i t
 | .str x,u=>∃t,u=J9 x t
 | .byt b,u=>∃t,u=Value.bytes b t
 | .flt b,u=>∃t,u=Value.float b t
 | .ref a,u=>u=Az a
 | .ty n,u=>u=Dx n
abbrev Vals:List V→List Value→Prop:=Paired RelV
theorem Vals.length {xs:List V}{us:List Value} (r:Vals xs us):xs.length=us.length:=FU r
theorem Vals.get:∀{xs:List V}{us:List Value}{i:Nat}{x:V},Vals xs us→xs[i]?=some x→∃u,us[i]?=some u∧RelV x u
 | _,_,_,_,.nil,e=>by simp at e
 | _,_,0,_,.cons r _,e=>by simp at e;subst e;exact⟨_,rfl,r⟩
 | _,_,i+1,x,.cons _ t,e=>by
  obtain⟨u,h1,h2⟩:=Vals.get (i:=i) (x:=x) t (by simpa using e)
  exact⟨u,by simpa using h1,h2⟩
theorem Vals.append:∀{xs ys:List V}{us ws:List Value},Vals xs us→Vals ys ws→Vals (xs++ys) (us++ws)
 | _,_,_,_,.nil,s=>s
 | _,_,_,_,.cons r t,s=>.cons r (Vals.append t s)
theorem Vals.take:∀{xs:List V}{us:List Value} (n:Nat),Vals xs us→Vals (xs.take n) (us.take n)
 | _,_,0,_=>.nil
 | _,_,_+1,.nil=>.nil
 | _,_,n+1,.cons r t=>.cons r (Vals.take n t)
theorem Vals.drop:∀{xs:List V}{us:List Value} (n:Nat),Vals xs us→Vals (xs.drop n) (us.drop n)
 | _,_,0,r=>r
 | _,_,_+1,.nil=>.nil
 | _,_,n+1,.cons _ t=>Vals.drop n t
def RelO:Option V→Option Value→Prop
 | some v,some u=>RelV v u
 | none,none=>True
 | _,_=>False
def KV {κ:Type}:List (κ×V)→List (κ×Value)→Prop:=Paired fun (p:κ×V) (q:κ×Value)=>p.1=q.1∧RelV p.2 q.2
def kV:Key→V
 | .inl i=>.int i
 | .inr x=>.str x
inductive HO where
 | lst (xs:List V)
 | tup (xs:List V)
 | dK (kvs:List (Key×V)) | dT (kvs:List (List Key×V))
 | set (S:Int→Bool) (n:Nat)
 | ins (C dx:Addr) (fs:List (Str×V))
 | own (x:Addr)
 | xd (fs:List (Str×V))
 | met (f x:Addr)
 | rng (lo hi:Int)
 | frz (o:Obj) (u:HO)
 | tbl (ps:Array Value)
 | ext (φ:Heap→Prop)
abbrev Hp:=Addr→Option HO
def upd (H:Hp) (a:Addr) (o:HO):Hp:=fun b=>if b=a then some o else H b
theorem AI {H:Hp}{a:Addr}{o:HO}:upd H a o a=some o:=by unfold upd;rw[if_pos rfl]
theorem AE {H:Hp}{a b:Addr}{o:HO} (h:b≠a):upd H a o b=H b:=by unfold upd;rw[if_neg h]
theorem FF {H:Hp}{a:Addr}{o u:HO}:upd (upd H a o) a u=upd H a u:=by
 funext b;unfold upd;split <;> rfl
theorem Bb {H:Hp}{a b:Addr}{o u:HO} (h:H a=some o) (h':H b=some u) (d:o≠u):a≠b:=by
 intro e;subst e;rw[h] at h';exact d (Ae h')
theorem Am {H:Hp}{a b:Addr}{o:HO} (h:H a=some o) (h':H b=none):a≠b:=by
 intro e;subst e;rw[h] at h';cases h'
section
variable (P:Program) (w:World)
def ObjOk (H:Hp) (h:Heap) (a:Addr):HO→Prop
 | .lst xs=>xs.length≤sizeLine∧∃(its:List Value) (n:Nat),Vals xs its∧h.get? a=some { cls:=.type "list",data:=.seq its.toArray n }
 | .tup xs=>xs.length≤sizeLine∧∃its:List Value,Vals xs its∧IsTup h a its.toArray
 | .dK kvs=>kvs.length≤sizeLine∧(a==sysModules)=false∧∃vs,KV kvs vs∧h.DictOf (CC P w) a vs
 | .dT kvs=>kvs.length≤sizeLine∧(a==sysModules)=false∧∃xs:List (List Key×Addr×Value),
  Paired (fun (p:List Key×V) (q:List Key×Addr×Value)=>p.1=q.1∧H q.2.1=some (.tup (p.1.map kV))∧RelV p.2 q.2.2) kvs xs∧
  ∃o es ep,h.get? a=some o∧o.ExactDict∧o.data=.dict es ep∧es.toList=xs.map (entryOfKey (tupleKind (CC P w)))∧(xs.map (·.1)).Nodup
 | .set S n=>h.SetOf (intKind P w) a S n
 | .ins C dx fs=>H dx=some (.own a)∧fs.length≤1000∧dx≠a∧h.get? a=some (Eo C dx)∧
  ∃mA,h.Ns1 dx mA∧(∀f,RelO (fs.lookup f) (mA f))∧KA mA (fs.map (·.1))
 | .own _=>∃o,h.get? a=some o
 | .xd fs=>∃mA,h.Ns1 a mA∧∀f,RelO (fs.lookup f) (mA f)
 | .rng lo hi=>∃t u v,h.get? a=some { cls:=.type "range",data:=.fields #[.int lo t,.int hi u,.int 1 v] }
 | .frz o u=>h.get? a=some o∧ObjOk H h a u
 | .tbl ps=>h.get? a=some { cls:=.none,data:=.fields ps }
 | .met f x=>h.get? a=some (NL (.ref f) (.ref x))
 | .ext φ=>φ h∧(∃o,h.get? a=some o)∧∀h1 h2:Heap,φ h1→(∀o,h1.get? a=some o→h2.get? a=some o)→φ h2
def HOk (H:Hp) (h:Heap):Prop:=∀a o,H a=some o→ObjOk P w H h a o
end
section
variable {P:Program}{w:World}{H H':Hp}{h h':Heap}{a:Addr}{o:HO}
theorem ObjOk.lt (x:ObjOk P w H h a o):a < h.objs.size:=by
 cases o with
 | lst xs=>obtain⟨_,_,_,_,e⟩:=x;exact Ao e
 | tup xs=>obtain⟨_,_,_,p⟩:=x;exact p.lt
 | dK kvs=>obtain⟨_,_,_,_,o,_,_,e,_⟩:=x;exact Ao e
 | dT kvs=>obtain⟨_,_,_,_,o,_,_,e,_⟩:=x;exact Ao e
 | set S n=>obtain⟨o,_,_,_,e,_⟩:=x;exact Ao e
 | ins C dx fs=>obtain⟨_,_,_,e,_⟩:=x;exact Ao e
 | own y=>obtain⟨_,e⟩:=x;exact Ao e
 | xd fs=>obtain⟨_,⟨_,_,_,e,_⟩,_⟩:=x;exact Ao e
 | rng lo hi=>obtain⟨_,_,_,e⟩:=x;exact Ao e
 | frz ob u=>obtain⟨e,_⟩:=x;exact Ao e
 | tbl ps=>exact Ao (show h.get? a=some _ from x)
 | met f y=>exact Ao (show h.get? a=some _ from x)
 | ext φ=>obtain⟨_,⟨_,e⟩,_⟩:=x;exact Ao e
theorem Paired.mapP {α β:Type}{F G:α→β→Prop}:∀{l₁:List α}{l₂:List β},Paired F l₁ l₂→(∀a b,F a b→G a b)→Paired G l₁ l₂
 | _,_,.nil,_=>.nil
 | _,_,.cons r t,f=>.cons (f _ _ r) (Paired.mapP t f)
theorem ObjOk.stay (x:ObjOk P w H h a o) (k:∀b u,(b=a∨H b=some (.own a))→h.get? b=some u→h'.get? b=some u)
  (ho:∀b,H b=some (.own a)→H' b=some (.own a)) (ht:∀b xs,H b=some (.tup xs)→H' b=some (.tup xs)):ObjOk P w H' h' a o:=by
 induction o with
 | lst xs=>obtain⟨z,its,n,r,e⟩:=x;exact⟨z,its,n,r,k _ _ (.inl rfl) e⟩
 | tup xs=>obtain⟨z,its,r,ob,e,c⟩:=x;exact⟨z,its,r,ob,k _ _ (.inl rfl) e,c⟩
 | dK kvs=>obtain⟨z,y,vs,r,ob,es,ep,e,c⟩:=x;exact⟨z,y,vs,r,ob,es,ep,k _ _ (.inl rfl) e,c⟩
 | dT kvs =>
  obtain⟨z,y,xs,r,ob,es,ep,e,c⟩:=x
  exact⟨z,y,xs,Paired.mapP r fun p q z=>⟨z.1,ht _ _ z.2.1,z.2.2⟩,ob,es,ep,k _ _ (.inl rfl) e,c⟩
 | set S n=>obtain⟨ob,es,ep,t,e,c⟩:=x;exact⟨ob,es,ep,t,k _ _ (.inl rfl) e,c⟩
 | ins C dx fs =>
  obtain⟨d,z,ne,e,mA,⟨od,es,ep,e2,c⟩,r⟩:=x
  exact⟨ho _ d,z,ne,k _ _ (.inl rfl) e,mA,⟨od,es,ep,k _ _ (.inr d) e2,c⟩,r⟩
 | own y=>obtain⟨ob,e⟩:=x;exact⟨ob,k _ _ (.inl rfl) e⟩
 | xd fs=>obtain⟨mA,⟨od,es,ep,e,c⟩,r⟩:=x;exact⟨mA,⟨od,es,ep,k _ _ (.inl rfl) e,c⟩,r⟩
 | rng lo hi=>obtain⟨t,u,v,e⟩:=x;exact⟨t,u,v,k _ _ (.inl rfl) e⟩
 | frz ob u ih=>obtain⟨e,q⟩:=x;exact⟨k _ _ (.inl rfl) e,ih q⟩
 | tbl ps =>
  have e:h.get? a=some { cls:=.none,data:=.fields ps }:=x
  show h'.get? a=some { cls:=.none,data:=.fields ps }
  exact k a _ (.inl rfl) e
 | met f y =>
  have e:h.get? a=some (NL (.ref f) (.ref y)):=x
  show h'.get? a=some (NL (.ref f) (.ref y))
  exact k a _ (.inl rfl) e
 | ext φ=>obtain⟨p,⟨o,e⟩,st⟩:=x;exact⟨st _ _ p fun o q=>k _ _ (.inl rfl) q,⟨o,k _ _ (.inl rfl) e⟩,st⟩
theorem HOk.lt (x:HOk P w H h) (e:H a=some o):a < h.objs.size:=(x a o e).lt
theorem HOk.fresh (x:HOk P w H h) (e:h.objs.size≤a):H a=none:=by
 cases q:H a with
 | none=>rfl
 | some u=>exact absurd (BV (x.lt q) e) (Cp _)
theorem HOk.kept (x:HOk P w H h) (k:∀b u,h.get? b=some u→h'.get? b=some u):HOk P w H h':=fun a o e =>
 (x a o e).stay (fun b u _ q=>k b u q) (fun _ q=>q) fun _ _ q=>q
theorem HOk.laid (x:HOk P w H h) (k:∀b u,h.get? b=some u→h'.get? b=some u) (hp:h.objs.size≤a) (new:ObjOk P w (upd H a o) h' a o):HOk P w (upd H a o) h':=fun b u e=>by
 have hn:=x.fresh hp
 by_cases hb:b=a
 ·subst hb;rw[AI] at e;cases e;exact new
 ·rw[AE hb] at e
  exact(x b u e).stay (fun c v _ q=>k c v q) (fun c q=>by rw[AE (Am q hn)];exact q) fun c xs q=>by rw[AE (Am q hn)];exact q
end
def Rd (H:Hp) (a:Addr) (u:HO):Prop:=H a=some u∨∃o,H a=some (.frz o u)
theorem Rd.of {H:Hp}{a:Addr}{u:HO} (h:H a=some u):Rd H a u:=.inl h
theorem Rd.ok {P:Program}{w:World}{H:Hp}{h:Heap}{a:Addr}{u:HO} (r:Rd H a u) (x:HOk P w H h):ObjOk P w H h a u:=by
 rcases r with r | ⟨o,r⟩
 ·exact x a u r
 ·obtain⟨_,q⟩:=x a _ r
  exact q
def Mut:Option HO→Prop
 | some (.lst _)=>True
 | some (.dK _)=>True
 | some (.dT _)=>True
 | some (.set _ _)=>True
 | some (.ins _ _ _)=>True
 | some (.ext _)=>True
 | _=>False
section
variable {P:Program}{w:World}{H:Hp}{h h':Heap}{x e:Addr}{o':HO}
theorem HOk.write (ok:HOk P w H h) (mu:Mut (H x)) (he:e=x∨H e=some (.own x)) (k:∀b u,b≠e→h.get? b=some u→h'.get? b=some u) (heo:∃u,h'.get? e=some u)
  (new:ObjOk P w (upd H x o') h' x o'):HOk P w (upd H x o') h':=fun b u q=>by
 have nown:∀c y,H c=some (.own y)→c≠x:=fun c y r z=>by subst z;rw[r] at mu;exact mu
 have ntup:∀c xs,H c=some (.tup xs)→c≠x:=fun c xs r z=>by subst z;rw[r] at mu;exact mu
 by_cases hb:b=x
 ·subst hb;rw[AI] at q;cases q;exact new
 ·rw[AE hb] at q
  by_cases hbe:b=e
  ·have q':H b=some (.own x):=by
    rcases he with z | z
    ·exact absurd (hbe.trans z) hb
    ·rw[hbe];exact z
   rw[q] at q';cases q'
   obtain⟨v,hv⟩:=heo
   exact⟨v,by rw[hbe];exact hv⟩
  ·refine(ok b u q).stay (fun c v hc r=>k c v ?_ r) (fun c r=>by rw[AE (nown c b r)];exact r) fun c xs r=>by rw[AE (ntup c xs r)];exact r
   rcases hc with rfl | hc
   ·exact hbe
   ·rintro rfl
    rcases he with z | z
    ·exact nown c b hc z
    ·rw[hc] at z;cases z;exact hb rfl
end
structure Un (fs ex:List Addr) (H H':Hp) (h h':Heap):Prop where
 keep:∀b o,h.get? b=some o→H b=none→b∉fs→b∉ex→h'.get? b=some o
 slot:∀b o,h.get? b=some o→H b=none→b∈fs→b∉ex→∃sl,h'.get? b=some { o with slots:=sl }
 free:∀b o,h.get? b=some o→H b=none→b∉ex→H' b=none
 there:∀b o,h.get? b=some o→b∉ex→∃o',h'.get? b=some o'
 tups:∀b xs,H b=some (.tup xs)→H' b=some (.tup xs)
 frzs:∀b o u,H b=some (.frz o u)→H' b=some (.frz o u)
 tbls:∀b ps,H b=some (.tbl ps)→∃more,H' b=some (.tbl (ps++more))
section
variable {fs fs' ex ex':List Addr}{H H1 H2:Hp}{h h1 h2 h':Heap}{a x e:Addr}{o:HO}
theorem Un.any (u:Un fs ex H H1 h h1) {b:Addr}{ob:Obj} (q:h.get? b=some ob) (n:H b=none) (hx:b∉ex):∃sl,h1.get? b=some { ob with slots:=sl }:=by
 by_cases hb:b∈fs
 ·exact u.slot b ob q n hb hx
 ·exact⟨ob.slots,u.keep b ob q n hb hx⟩
theorem Un.kept (k:∀b u,h.get? b=some u→h'.get? b=some u):Un fs ex H H h h' :=
 ⟨fun b ob q _ _ _=>k b ob q,fun b ob q _ _ _=>⟨ob.slots,k b ob q⟩,fun _ _ _ n _=>n,fun b ob q _=>⟨ob,k b ob q⟩,fun _ _ q=>q,fun _ _ _ q=>q,fun _ ps q=>⟨#[],by rw[q];simp⟩⟩
theorem Un.refl:Un fs ex H H h h:=Un.kept fun _ _ q=>q
theorem Un.laid (k:∀b u,h.get? b=some u→h'.get? b=some u) (hp:h.objs.size≤a) (hn:H a=none):Un fs ex H (upd H a o) h h' where
 keep:=fun b u q _ _ _=>k b u q
 slot:=fun b u q _ _ _=>⟨u.slots,k b u q⟩
 free:=fun b u q n _=>by rw[AE (BM (BV (Ao q) hp))];exact n
 there:=fun b u q _=>⟨u,k b u q⟩
 tups:=fun b xs q=>by rw[AE (Am q hn)];exact q
 frzs:=fun b u xs q=>by rw[AE (Am q hn)];exact q
 tbls:=fun b ps q=>⟨#[],by rw[AE (Am q hn),q];simp⟩
theorem Un.write (mu:Mut (H x)) (he:e=x∨H e=some (.own x)) (k:∀b u,b≠e→h.get? b=some u→h'.get? b=some u) (heo:∃u,h'.get? e=some u):Un fs ex H (upd H x o) h h':=by
 have hx:∀b,H b=none→b≠x:=fun b n z=>by subst z;rw[n] at mu;exact mu
 have hb:∀b,H b=none→b≠e:=fun b n z=>by
  subst z
  rcases he with r | r
  ·exact hx b n r
  ·rw[n] at r;cases r
 have hm:∀b u,H b=some u→¬Mut (some u)→b≠x:=fun b u q nm z=>by subst z;rw[q] at mu;exact nm mu
 refine⟨fun b u q n _ _=>k b u (hb b n) q,fun b u q n _ _=>⟨u.slots,k b u (hb b n) q⟩,fun b u q n _=>by rw[AE (hx b n)];exact n,fun b u q _=>?_,
  fun b xs q=>by rw[AE (hm b _ q fun z=>z)];exact q,fun b u xs q=>by rw[AE (hm b _ q fun z=>z)];exact q,fun b ps q=>⟨#[],by rw[AE (hm b _ q fun z=>z),q];simp⟩⟩
 by_cases hbe:b=e
 ·subst hbe;exact heo
 ·exact⟨u,k b u hbe q⟩
end
def trk (h:Heap) (H:Hp):List Addr:=(CW h.objs.size).filter fun a=>(H a).isSome
def CG (h:Heap) (H:Hp):Heap:=PySem.W.hideAll h (trk h H)
theorem O0 (h:Heap) (H:Hp):(CG h H).objs.size=h.objs.size:=PySem.W.hideAll_size _ _
theorem Oz {h:Heap}{H:Hp}{b:Addr}{o:Obj} (e:h.get? b=some o) (n:H b=none):(CG h H).get? b=some o :=
 PySem.W.hideAll_get _ e fun hm=>by
  have q:(H b).isSome=true:=(Ci.mp hm).2
  rw[n] at q;simp at q
theorem P2 {h:Heap}{H:Hp}{b:Addr}{o:Obj} (e:(CG h H).get? b=some o):h.get? b=some o∧H b=none:=by
 have e':h.get? b=some o:=PySem.W.of_hideAll (trk h H) e
 refine⟨e',?_⟩
 cases q:H b with
 | none=>rfl
 | some x =>
  have hm:b∈trk h H:=Ci.mpr ⟨Mn.mpr (Ao e'),by simp[q]⟩
  have z:(CG h H).get? b=none:=PySem.W.hideAll_none (trk h H) hm
  rw[z] at e;cases e
def U3 (g h:Heap) (L:Addr):List (Addr×Obj):=(CW h.objs.size).filterMap fun a=>if a=L∨(g.get? a).isSome=true then none else (h.get? a).map fun o=>(a,o)
def rest (g h:Heap) (L d:Addr):List (Addr×Obj):=(U3 g h L).filter fun p=>decide (p.1≠d)
end L2
namespace L2
open PySem PySem.Spec PyProof.Rows
structure Mod (K:AA) (mg:Str→Option Value) (base:Heap):Prop where
 kin:K.In base
 glob:base.Ns mainGlobals mg
 blt:∃mb,base.Ns builtinsNs mb∧∀x:Str,x≠"__name__"→mb x=bootBuiltins x
 nolimit:base.NoLimit
structure Cx where
 prog:Program
 w:World
 K:AA
 mg:Str→Option Value
 base:Heap
 A:Around
 N:List Str
 s_0:Shared
 H_0:Hp
 env:Env
 outer:List Env
 stack:List Env
 ex:List Addr
 fn:Str→Bool
 calm:Bool
 pn:List (Addr×Obj)
 xe:Value→Shared→Prop
def frs (l:List Env):List Addr:=l.filterMap (·.frame)
abbrev Cx.fs (X:Cx):List Addr:=frs X.outer
def Vis (sc:Scope) (x:Str):Prop:=sc.names.lookup x=some .local∨sc.names.lookup x=some .cell∨sc.names.lookup x=some .free
def Loc (sc:Scope) (x:Str):Prop:=sc.names.lookup x=some .local∨sc.names.lookup x=some .cell
def Uy (env:Env) (h:Heap) (m:Str→Option Value) (x:Str) (u:Value):Prop :=
 (env.kindOf x=some .local∧m x=some u)∨((env.kindOf x=some .cell∨env.kindOf x=some .free)∧∃c,env.cells.lookup x=some c∧h.IsCell c (some u))
structure Cx.Ok (X:Cx):Prop where
 mod:Mod X.K X.mg X.base
 kind:X.env.scope.kind=.function
 glob:X.env.globals=mainGlobals
 blt:X.env.builtins=builtinsNs
 above:X.s_0.heap.objs.size≤X.env.locals
 inj:∀x y c,X.env.cells.lookup x=some c→X.env.cells.lookup y=some c→x=y
 has:∀x,(X.env.kindOf x=some .cell∨X.env.kindOf x=some .free)→∃c,X.env.cells.lookup x=some c
 cab:∀x c,X.fn x=true→X.env.cells.lookup x=some c→X.s_0.heap.objs.size≤c
 hd:X.calm=true→X.A.handled=none
 frames:X.A.frames=some X.stack
 stk:X.stack=X.outer∨(X.stack=X.env::X.outer∧X.env.frame=some X.env.locals)
 exf:∀b∈X.ex,b≠X.env.locals∧∀x c,X.env.cells.lookup x=some c→c≠b
 bs:∀b o,X.base.get? b=some o→X.s_0.heap.get? b=some o∧X.H_0 b=none
 bsz:X.base.objs.size≤X.s_0.heap.objs.size
 noex:∀b o,X.base.get? b=some o→b∉X.ex
 exfs:∀b∈X.ex,b∉X.fs
 funs:X.s_0.heap.FunFrames X.base X.outer
 frf:∀b∈X.fs,X.H_0 b=none
structure Inv (X:Cx) (pins:List (Addr×Obj)) (σ:List (Option V)) (H:Hp) (s:Shared):Prop where
 ok:X.Ok
 os:s.os=X.s_0.os
 bare:AllBare s.gens
 base:Un X.fs X.ex X.H_0 H X.s_0.heap s.heap
 loc:∃m,s.heap.Ns X.env.locals m∧∀(i:Nat) (x:Str) (v:V),X.N[i]?=some x→σ[i]?=some (some v)→Vis X.env.scope x→∃u,RelV v u∧Uy X.env s.heap m x u
 cell:∀x c,X.env.cells.lookup x=some c→∃v,s.heap.IsCell c v
 free:H X.env.locals=none
 freeC:∀x c,X.env.cells.lookup x=some c→H c=none
 pin:∀p∈X.pn++pins,s.heap.get? p.1=some p.2∧H p.1=none∧p.1≠X.env.locals∧p.1∉X.fs∧∀v,p.2.data≠.cell v
 hok:HOk X.prog X.w H s.heap
 len:σ.length=X.N.length
section
variable {X:Cx}{pins:List (Addr×Obj)}{σ:List (Option V)}{H H':Hp}{s:Shared}{h':Heap}
theorem Cx.Ok.nofr (ok:X.Ok) {b:Addr}{o:Obj} (e:X.base.get? b=some o):b∉X.fs:=fun hb=>by
 have:=(ok.funs.mem hb).1
 rw[e] at this;cases this
theorem Inv.bs (I:Inv X pins σ H s):∀b o,X.base.get? b=some o→s.heap.get? b=some o∧H b=none:=fun b o e =>
 ⟨I.base.keep b o (I.ok.bs b o e).1 (I.ok.bs b o e).2 (I.ok.nofr e) (I.ok.noex b o e),I.base.free b o (I.ok.bs b o e).1 (I.ok.bs b o e).2 (I.ok.noex b o e)⟩
theorem Inv.bk (I:Inv X pins σ H s):∀b o,X.base.get? b=some o→s.heap.get? b=some o:=fun b o e=>(I.bs b o e).1
theorem Inv.mod (I:Inv X pins σ H s):Mod X.K X.mg X.base:=I.ok.mod
theorem Inv.kIn (I:Inv X pins σ H s):X.K.In s.heap:=I.ok.mod.kin.keeps I.bk
theorem Inv.fr (I:Inv X pins σ H s):∃m,Fr X.base X.env.locals s.heap m :=
 let ⟨m,hn,_⟩:=I.loc
 ⟨m,hn,I.bk,Ba I.ok.bsz I.ok.above⟩
theorem Inv.lt (I:Inv X pins σ H s):X.env.locals < s.heap.objs.size:=let ⟨_,hn,_⟩:=I.loc;hn.lt
theorem Inv.sz (I:Inv X pins σ H s):X.s_0.heap.objs.size≤s.heap.objs.size:=Ba I.ok.above (Hl I.lt)
theorem Inv.nofs (I:Inv X pins σ H s) {a:Addr} (h:s.heap.objs.size≤a):a∉X.fs:=fun hb=>by
 obtain⟨_,o,ho,_⟩:=I.ok.funs.mem hb
 exact absurd (BV (Ao ho) (Ba I.sz h)) (Cp _)
theorem Inv.cne (I:Inv X pins σ H s):∀x c,X.env.cells.lookup x=some c→c≠X.env.locals:=fun x c e z=>by
 obtain⟨v,o,ho,hd⟩:=I.cell x c e
 obtain⟨m,⟨o',es,ep,ho',hd',_⟩,_⟩:=I.loc
 rw[z,ho'] at ho;cases ho;rw[hd'] at hd;cases hd
theorem Inv.funs (I:Inv X pins σ H s):s.heap.FunFrames X.base X.outer:=by
 have all:∀(l:List Env),(∀b∈frs l,b∈X.fs)→X.s_0.heap.FunFrames X.base l→s.heap.FunFrames X.base l:=by
  intro l
  induction l with
  | nil=>intro _ _;trivial
  | cons env r ih =>
   intro hs hl
   obtain⟨hk,⟨L,o,hf,hn,ho,hd⟩,hr⟩:=hl
   have hL:L∈X.fs:=hs L (by unfold frs;rw[Mb,hf];exact AU)
   obtain⟨sl,e⟩:=I.base.slot L o ho (I.ok.frf L hL) hL fun z=>I.ok.exfs L z hL
   exact⟨hk,⟨L,_,hf,hn,e,hd⟩,ih (fun b hb=>hs b (by unfold frs;rw[Mb,hf];exact As _ hb)) hr⟩
 exact all X.outer (fun _ hb=>hb) I.ok.funs
theorem Inv.stack (I:Inv X pins σ H s):s.heap.FunFrames X.base X.stack:=by
 rcases I.ok.stk with e | ⟨e,hf⟩
 ·rw[e];exact I.funs
 ·rw[e]
  obtain⟨m,hn,_⟩:=I.loc
  refine .cons (by rw[I.ok.kind];decide) hf hn ?_ I.funs
  exact Heap.get?_none_of_le (Ba I.ok.bsz I.ok.above)
theorem Inv.stkSub (I:Inv X pins σ H s):∀b∈frs X.stack,b∈X.env.locals::X.fs:=fun b hb=>by
 rcases I.ok.stk with e | ⟨e,hf⟩
 ·rw[e] at hb;exact As _ hb
 ·rw[e] at hb
  unfold frs at hb
  rw[Mb,hf] at hb
  exact hb
theorem Inv.stkFree (I:Inv X pins σ H s):∀b∈frs X.stack,H b=none:=fun b hb=>by
 rcases AS.mp (I.stkSub b hb) with e | hb
 ·rw[e];exact I.free
 ·obtain⟨_,o,ho,_⟩:=I.ok.funs.mem hb
  exact I.base.free b o ho (I.ok.frf b hb) fun z=>I.ok.exfs b z hb
theorem Inv.step {g':Array GenState}{t':Nat}{d':Drawn}{ch:List Addr} (I:Inv X pins σ H s)
  (hch:∀b∈ch,(b∈X.ex∨X.s_0.heap.objs.size≤b)∧b≠X.env.locals∧(∀x c,X.env.cells.lookup x=some c→c≠b)∧∀p∈X.pn++pins,p.1≠b)
  (keep:∀b o,b≠X.env.locals→b∉X.fs→b∉ch→s.heap.get? b=some o→H b=none→h'.get? b=some o)
  (slot:∀b o,b≠X.env.locals→b∈X.fs→b∉ch→s.heap.get? b=some o→H b=none→∃sl,h'.get? b=some { o with slots:=sl }) (free:∀b o,b∉ch→s.heap.get? b=some o→H b=none→H' b=none)
  (there:∀b o,b∉ch→s.heap.get? b=some o→∃o',h'.get? b=some o')
  (tups:∀b xs,H b=some (.tup xs)→H' b=some (.tup xs)) (frzs:∀b o u,H b=some (.frz o u)→H' b=some (.frz o u)) (tbls:∀b ps,H b=some (.tbl ps)→∃more,H' b=some (.tbl (ps++more)))
  (ns:∀m,s.heap.Ns X.env.locals m→h'.Ns X.env.locals m) (hok:HOk X.prog X.w H' h') (hg:AllBare g'):
  Inv X pins σ H' { s with heap:=h',gens:=g',drawn:=d',toks:=t' }:=by
 have neL:∀b o,X.s_0.heap.get? b=some o→b≠X.env.locals:=fun b o e=>BM (BV (Ao e) I.ok.above)
 have neC:∀b o,X.s_0.heap.get? b=some o→b∉X.ex→b∉ch:=fun b o e hx hb=>by
  rcases(hch b hb).1 with z | z
  ·exact hx z
  ·exact absurd (BV (Ao e) z) (Cp _)
 have cellK:∀x c,X.env.cells.lookup x=some c→∀v,s.heap.IsCell c v→h'.IsCell c v:=fun x c e v ⟨o,ho,hd⟩=>by
  have nch:c∉ch:=fun z=>(hch c z).2.2.1 x c e rfl
  by_cases hc:c∈X.fs
  ·obtain⟨sl,q⟩:=slot c o (I.cne x c e) hc nch ho (I.freeC x c e)
   exact⟨_,q,hd⟩
  ·exact⟨o,keep c o (I.cne x c e) hc nch ho (I.freeC x c e),hd⟩
 refine⟨I.ok,I.os,hg,⟨fun b o e n hb hx=>?_,fun b o e n hb hx=>?_,fun b o e n hx=>?_,fun b o e hx=>?_,fun b xs e=>tups b xs (I.base.tups b xs e),fun b o xs e=>frzs b o xs (I.base.frzs b o xs e),fun b ps e=>?_⟩,?_,fun x c e=>?_,?_,fun x c e=>?_,fun p hp=>?_,hok,I.len⟩
 ·exact keep b o (neL b o e) hb (neC b o e hx) (I.base.keep b o e n hb hx) (I.base.free b o e n hx)
 ·obtain⟨sl,e1⟩:=I.base.slot b o e n hb hx
  obtain⟨sl',e2⟩:=slot b _ (neL b o e) hb (neC b o e hx) e1 (I.base.free b o e n hx)
  exact⟨sl',e2⟩
 ·obtain⟨o',e1⟩:=I.base.there b o e hx
  exact free b o' (neC b o e hx) e1 (I.base.free b o e n hx)
 ·obtain⟨o',e1⟩:=I.base.there b o e hx
  exact there b o' (neC b o e hx) e1
 ·obtain⟨m1,e1⟩:=I.base.tbls b ps e
  obtain⟨m2,e2⟩:=tbls b _ e1
  exact⟨m1++m2,by rw[e2,Array.append_assoc]⟩
 ·obtain⟨m,hn,hl⟩:=I.loc
  refine⟨m,ns m hn,fun i x v e1 e2 e3=>?_⟩
  obtain⟨u,r,l⟩:=hl i x v e1 e2 e3
  refine⟨u,r,?_⟩
  rcases l with l | ⟨k,c,e,z⟩
  ·exact .inl l
  ·exact .inr ⟨k,c,e,cellK x c e _ z⟩
 ·obtain⟨v,z⟩:=I.cell x c e
  exact⟨v,cellK x c e v z⟩
 ·obtain⟨m,⟨o,_,_,ho,_⟩,_⟩:=I.loc
  exact free _ o (fun z=>(hch _ z).2.1 rfl) ho I.free
 ·obtain⟨v,o,ho,hd⟩:=I.cell x c e
  exact free c o (fun z=>(hch c z).2.2.1 x c e rfl) ho (I.freeC x c e)
 ·obtain⟨e,n,ne,nf,d⟩:=I.pin p hp
  have nch:p.1∉ch:=fun z=>(hch p.1 z).2.2.2 p hp rfl
  exact⟨keep p.1 p.2 ne nf nch e n,free p.1 p.2 nch e n,ne,nf,d⟩
theorem Inv.un {t':Nat} (I:Inv X pins σ H s) (u:Un X.fs [] H H' s.heap h') (hok:HOk X.prog X.w H' h'):Inv X pins σ H' { s with heap:=h',toks:=t' }:=by
 obtain⟨m,⟨o,es,ep,ho,r⟩,_⟩:=id I.loc
 obtain⟨sl,hL⟩:=u.any ho I.free (by simp)
 exact I.step (g':=s.gens) (d':=s.drawn) (ch:=[]) (fun _ z=>nomatch z) (fun b o _ hb _ e n=>u.keep b o e n hb (by simp)) (fun b o _ hb _ e n=>u.slot b o e n hb (by simp)) (fun b o _ e n=>u.free b o e n (by simp)) (fun b o _ e=>u.there b o e (by simp)) u.tups u.frzs u.tbls (fun m' hm=>by
  obtain⟨o',es',ep',ho',r'⟩:=hm
  rw[ho] at ho';cases ho'
  exact⟨_,es',ep',hL,r'⟩) hok I.bare
theorem Inv.call {g':Array GenState}{t':Nat}{d':Drawn}{ch:List Addr} (I:Inv X pins σ H s) (u:Un (frs X.stack) ch H H' s.heap h') (hok:HOk X.prog X.w H' h') (hg:AllBare g')
  (hch:∀b∈ch,(b∈X.ex∨X.s_0.heap.objs.size≤b)∧b≠X.env.locals∧(∀x c,X.env.cells.lookup x=some c→c≠b)∧∀p∈X.pn++pins,p.1≠b):
  Inv X pins σ H' { s with heap:=h',gens:=g',drawn:=d',toks:=t' }:=by
 obtain⟨m,⟨o,es,ep,ho,r⟩,_⟩:=id I.loc
 obtain⟨sl,hL⟩:=u.any ho I.free fun z=>(hch _ z).2.1 rfl
 exact I.step (ch:=ch) hch (fun b o hL hb hc e n=>u.keep b o e n (fun z=>(AS.mp (I.stkSub b z)).elim hL hb) hc) (fun b o _ _ hc e n=>u.any e n hc) (fun b o hc e n=>u.free b o e n hc) (fun b o hc e=>u.there b o e hc) u.tups u.frzs u.tbls (fun m' hm=>by
  obtain⟨o',es',ep',ho',r'⟩:=hm
  rw[ho] at ho';cases ho'
  exact⟨_,es',ep',hL,r'⟩) hok hg
theorem Inv.turned {t':Nat}{it:Addr} (I:Inv X pins σ H s) (k:∀b o,b≠it→s.heap.get? b=some o→h'.get? b=some o) (hn:H it=none) (hL:it≠X.env.locals)
  (h1:it∈X.ex∨X.s_0.heap.objs.size≤it) (h2:∀x c,X.env.cells.lookup x=some c→c≠it) (h3:∀p∈X.pn++pins,p.1≠it):Inv X pins σ H { s with heap:=h',toks:=t' }:=by
 have nit:∀b u,H b=some u→b≠it:=fun b u e z=>by rw[z,hn] at e;cases e
 refine I.step (g':=s.gens) (d':=s.drawn) (ch:=[it]) (fun b hb=>?_) (fun b o _ _ hc e _=>k b o (fun z=>hc (by simp[z])) e) (fun b o _ _ hc e _=>⟨o.slots,k b o (fun z=>hc (by simp[z])) e⟩) (fun _ _ _ _ n=>n)
  (fun b o hc e=>⟨o,k b o (fun z=>hc (by simp[z])) e⟩) (fun _ _ e=>e) (fun _ _ _ e=>e) (fun b ps e=>⟨#[],by rw[e];simp⟩) (fun m hm=>?_) (fun b u e=>?_) I.bare
 ·have e:b=it:=by simpa using hb
  subst e
  exact⟨h1,hL,h2,h3⟩
 ·obtain⟨o,es,ep,ho,r⟩:=hm
  exact⟨o,es,ep,k _ o (An hL) ho,r⟩
 ·refine(I.hok b u e).stay (fun c v hc q=>k c v ?_ q) (fun _ q=>q) fun _ _ q=>q
  rcases hc with z | z
  ·rw[z];exact nit b u e
  ·exact nit c _ z
theorem Inv.tok (I:Inv X pins σ H s) (t:Nat):Inv X pins σ H { s with toks:=t }:=I.un (h':=s.heap) (t':=t) Un.refl I.hok
theorem Inv.kept {t':Nat} (I:Inv X pins σ H s) (k:∀b u,s.heap.get? b=some u→h'.get? b=some u):Inv X pins σ H { s with heap:=h',toks:=t' }:=I.un (Un.kept k) (I.hok.kept k)
theorem Inv.laid {a:Addr}{o:HO}{t':Nat} (I:Inv X pins σ H s) (k:∀b u,s.heap.get? b=some u→h'.get? b=some u) (hp:s.heap.objs.size≤a) (new:ObjOk X.prog X.w (upd H a o) h' a o):
 Inv X pins σ (upd H a o) { s with heap:=h',toks:=t' }:=I.un (Un.laid k hp (I.hok.fresh hp)) (I.hok.laid k hp new)
theorem Inv.write {x e:Addr}{o:HO}{t':Nat} (I:Inv X pins σ H s) (mu:Mut (H x)) (he:e=x∨H e=some (.own x)) (k:∀b u,b≠e→s.heap.get? b=some u→h'.get? b=some u) (heo:∃u,h'.get? e=some u)
 (new:ObjOk X.prog X.w (upd H x o) h' x o):Inv X pins σ (upd H x o) { s with heap:=h',toks:=t' }:=I.un (Un.write mu he k heo) (I.hok.write mu he k heo new)
theorem Inv.weak {σ':List (Option V)} (I:Inv X pins σ H s) (hl:σ'.length=σ.length) (w:∀(i:Nat) v,σ'[i]?=some (some v)→σ[i]?=some (some v)):Inv X pins σ' H s :=
 ⟨I.ok,I.os,I.bare,I.base,let ⟨m,hn,hl'⟩:=I.loc;⟨m,hn,fun i x v e1 e2 e3=>hl' i x v e1 (w i v e2) e3⟩,I.cell,I.free,I.freeC,I.pin,I.hok,hl.trans I.len⟩
theorem Inv.pins_of {pins':List (Addr×Obj)} (I:Inv X pins σ H s) (h:∀p∈pins',s.heap.get? p.1=some p.2∧H p.1=none∧p.1≠X.env.locals∧p.1∉X.fs∧∀v,p.2.data≠.cell v):Inv X pins' σ H s :=
 ⟨I.ok,I.os,I.bare,I.base,I.loc,I.cell,I.free,I.freeC,fun p hp=>(C8.mp hp).elim (fun z=>I.pin p (Hg _ z)) (h p),I.hok,I.len⟩
theorem LN {N:List Str} (hN:N.Nodup) {i j:Nat}{x:Str} (a:N[i]?=some x) (b:N[j]?=some x):i=j:=by
 obtain⟨h1,e1⟩:=Bd.mp a
 obtain⟨h2,e2⟩:=Bd.mp b
 exact(Tj hN).mp (e1.trans e2.symm)
theorem Y1 {M:Model}{A:Around}{E:Value→Shared→Prop}{i:Nat}{x:Str}{v:V}{u:Value}{Q:Unit→Shared→Prop} (I:Inv X pins σ H s) (hN:X.N.Nodup) (hi:X.N[i]?=some x) (hx:Loc X.env.scope x) (r:RelV v u)
  (h:∀s',Inv X pins (σ.set i (some v)) H s'→(∃a,Gg a s.heap s'.heap∧(a=X.env.locals∨X.env.cells.lookup x=some a))→Q () s') (hf:X.fn x=true∨X.env.scope.names.lookup x=some .local:=by first | exact .inl rfl | exact .inr rfl | assumption):wpAny M A (storeName X.env x u) Q E s:=by
 obtain⟨m,hn,hl⟩:=id I.loc
 have hcls:(X.env.scope.kind==.class || (X.env.scope.kind==.module&&X.env.locals != X.env.globals))=false:=by rw[I.ok.kind];rfl
 have hiσ:i < σ.length:=by rw[I.len];exact(Bd.mp hi).1
 have cne:=I.cne
 have tracked:∀{a:Addr} {h':Heap},(∃o,s.heap.get? a=some o∧H a=none)→Gg a s.heap h'→HOk X.prog X.w H h':=fun {a h'} ha hs b ob e=>by
  obtain⟨_,_,hfree⟩:=ha
  refine(I.hok b ob e).stay (fun c w' hc q=>(hs.2 c ?_).trans q) (fun _ q=>q) fun _ _ q=>q
  rintro rfl
  rcases hc with rfl | hc
  ·rw[hfree] at e;cases e
  ·rw[hfree] at hc;cases hc
 rcases hx with hk | hk
 ·refine wpAny_storeName_local hk hn (fun h' hn' hs=>?_) hcls
  obtain⟨oL,_,_,hoL,_⟩:=id hn
  refine h _ ⟨I.ok,I.os,I.bare,⟨fun b o e n hb hx=>?_,fun b o e n hb hx=>?_,I.base.free,fun b o e hx=>?_,I.base.tups,I.base.frzs,I.base.tbls⟩,⟨_,hn',fun j y v' e1 e2 e3=>?_⟩,fun y c e=>?_,I.free,I.freeC,fun p hp=>?_,tracked ⟨oL,hoL,I.free⟩ hs,by simpa using I.len⟩ ⟨_,hs,.inl rfl⟩
  ·exact(hs.2 b (BM (BV (Ao e) I.ok.above))).trans (I.base.keep b o e n hb hx)
  ·obtain⟨sl,e1⟩:=I.base.slot b o e n hb hx
   exact⟨sl,(hs.2 b (BM (BV (Ao e) I.ok.above))).trans e1⟩
  ·obtain⟨o',e1⟩:=I.base.there b o e hx
   exact⟨o',(hs.2 b (BM (BV (Ao e) I.ok.above))).trans e1⟩
  ·by_cases hj:j=i
   ·subst hj
    rw[hi] at e1;cases e1
    rw[Mi hiσ] at e2
    cases e2
    exact⟨u,r,.inl ⟨hk,by simp⟩⟩
   ·rw[Mh (An hj)] at e2
    obtain⟨u',r',q⟩:=hl j y v' e1 e2 e3
    refine⟨u',r',?_⟩
    rcases q with ⟨k,e⟩ | ⟨k,c,e,z⟩
    ·refine .inl ⟨k,?_⟩
     have:y≠x:=fun e=>hj (LN hN e1 (e▸hi))
     simp[this,e]
    ·exact .inr ⟨k,c,e,z.sameBut hs (cne y c e)⟩
  ·obtain⟨w',z⟩:=I.cell y c e
   exact⟨w',z.sameBut hs (cne y c e)⟩
  ·obtain⟨e,n,ne,nf,d⟩:=I.pin p hp
   exact⟨(hs.2 p.1 ne).trans e,n,ne,nf,d⟩
 ·have hfn:X.fn x=true:=by
   rcases hf with z | z
   ·exact z
   ·rw[z] at hk;cases hk
  obtain⟨c,hc⟩:=I.ok.has x (.inl hk)
  obtain⟨w',z⟩:=I.cell x c hc
  refine wpAny_storeName_cell I.ok.kind hk hc z (fun h' hc' hs=>?_)
  obtain⟨oc,hoc,hocd⟩:=id z
  refine h { s with heap:=h' } ⟨I.ok,I.os,I.bare,⟨fun b o e n hb hx=>?_,fun b o e n hb hx=>?_,I.base.free,fun b o e hx=>?_,I.base.tups,I.base.frzs,I.base.tbls⟩,⟨m,hn.sameBut hs (An (cne x c hc)),fun j y v' e1 e2 e3=>?_⟩,fun y c' e=>?_,I.free,I.freeC,fun p hp=>?_,tracked ⟨oc,hoc,I.freeC x c hc⟩ hs,by simpa using I.len⟩ ⟨c,hs,.inr hc⟩
  ·exact(hs.2 b (BM (BV (Ao e) (I.ok.cab x c hfn hc)))).trans (I.base.keep b o e n hb hx)
  ·obtain⟨sl,e1⟩:=I.base.slot b o e n hb hx
   exact⟨sl,(hs.2 b (BM (BV (Ao e) (I.ok.cab x c hfn hc)))).trans e1⟩
  ·obtain⟨o',e1⟩:=I.base.there b o e hx
   exact⟨o',(hs.2 b (BM (BV (Ao e) (I.ok.cab x c hfn hc)))).trans e1⟩
  ·by_cases hj:j=i
   ·subst hj
    rw[hi] at e1;cases e1
    rw[Mi hiσ] at e2
    cases e2
    exact⟨u,r,.inr ⟨.inl hk,c,hc,hc'⟩⟩
   ·rw[Mh (An hj)] at e2
    obtain⟨u',r',q⟩:=hl j y v' e1 e2 e3
    refine⟨u',r',?_⟩
    rcases q with q | ⟨k,c',e,z'⟩
    ·exact .inl q
    ·refine .inr ⟨k,c',e,z'.sameBut hs ?_⟩
     rintro rfl
     exact hj (LN hN e1 (I.ok.inj _ _ _ e hc▸hi))
  ·by_cases hcc:c'=c
   ·subst hcc;exact⟨_,hc'⟩
   ·obtain⟨w2,z2⟩:=I.cell y c' e
    exact⟨w2,z2.sameBut hs hcc⟩
  ·obtain⟨e,n,ne,nf,d⟩:=I.pin p hp
   refine⟨(hs.2 p.1 ?_).trans e,n,ne,nf,d⟩
   intro q
   rw[q,hoc] at e
   have q':oc=p.2:=Ae e
   exact d w' (by rw[← q'];exact hocd)
theorem Su {M:Model}{A:Around}{E:Value→Shared→Prop}{i:Nat}{x:Str}{v:V}{u:Value}{Q:Unit→Shared→Prop} (I:Inv X pins σ H s) (hN:X.N.Nodup) (hi:X.N[i]?=some x) (hx:Loc X.env.scope x) (r:RelV v u)
  (h:∀s',Inv X pins (σ.set i (some v)) H s'→Q () s') (hf:X.fn x=true∨X.env.scope.names.lookup x=some .local:=by first | exact .inl rfl | exact .inr rfl | assumption):wpAny M A (storeName X.env x u) Q E s :=
 Y1 I hN hi hx r (fun s' I' _=>h s' I') hf
theorem Inv.call' {s':Shared}{ch:List Addr} (I:Inv X pins σ H s) (ho:s'.os=s.os) (u:Un (frs X.stack) ch H H' s.heap s'.heap) (hok:HOk X.prog X.w H' s'.heap) (hg:AllBare s'.gens)
  (hch:∀b∈ch,(b∈X.ex∨X.s_0.heap.objs.size≤b)∧b≠X.env.locals∧(∀x c,X.env.cells.lookup x=some c→c≠b)∧∀p∈X.pn++pins,p.1≠b):Inv X pins σ H' s':=by
 obtain⟨h',g',d',t',o'⟩:=s'
 have e:o'=s.os:=ho
 subst e
 exact I.call (g':=g') (t':=t') (d':=d') u hok hg hch
end
abbrev XK:=Value→Option Addr→Hp→Prop
abbrev St:=List (Option V)
abbrev VK:=V→Hp→Prop
abbrev TE:=St→Hp→VK→Prop
abbrev TT:=St→Hp→(Bool→Hp→Prop)→Prop
abbrev TA:=St→Hp→(List V→Hp→Prop)→Prop
structure Es where
 nx:St→Hp→Prop
 rt:VK
 bk:St→Hp→Prop:=fun _ _=>False
 ct:St→Hp→Prop:=fun _ _=>False
abbrev TS:=Es→St→Hp→Prop
def EP (X:Cx) (pins:List (Addr×Obj)) (σ:St) (Q:VK) (u:Value) (s':Shared):Prop:=∃v H',Inv X pins σ H' s'∧RelV v u∧Q v H'
def TP (X:Cx) (pins:List (Addr×Obj)) (σ:St) (Q:Bool→Hp→Prop) (b:Bool) (s':Shared):Prop:=∃H',Inv X pins σ H' s'∧Q b H'
def AP (X:Cx) (pins:List (Addr×Obj)) (σ:St) (Q:List V→Hp→Prop) (us:List Value) (s':Shared):Prop:=∃vs H',Inv X pins σ H' s'∧Vals vs us∧Q vs H'
def SP (X:Cx) (pins:List (Addr×Obj)) (D:Es) (f:Flow) (s':Shared):Prop :=
 match f with
 | .next=>∃σ' H',Inv X pins σ' H' s'∧D.nx σ' H'
 | .brk=>∃σ' H',Inv X pins σ' H' s'∧D.bk σ' H'
 | .cont=>∃σ' H',Inv X pins σ' H' s'∧D.ct σ' H'
 | .ret u=>∃v σ' H',Inv X pins σ' H' s'∧RelV v u∧D.rt v H'
def PE (X:Cx) (e:Expr) (t:TE):Prop :=
 ∀(pins:List (Addr×Obj)) (s:Shared) (σ:St) (H:Hp) (Q:VK),Inv X pins σ H s→t σ H Q→wpAny (model X.prog X.w) X.A (eval e X.env) (EP X pins σ Q) X.xe s
def PT (X:Cx) (e:Expr) (t:TT):Prop :=
 ∀(pins:List (Addr×Obj)) (s:Shared) (σ:St) (H:Hp) (Q:Bool→Hp→Prop),Inv X pins σ H s→t σ H Q→wpAny (model X.prog X.w) X.A (isTrue e X.env (eval e X.env)) (TP X pins σ Q) X.xe s
def PW (X:Cx) (e:Expr) (t:TT):Prop :=
 ∀(whole:Sem Value) (pins:List (Addr×Obj)) (s:Shared) (σ:St) (H:Hp) (Q:Bool→Hp→Prop),Inv X pins σ H s→t σ H Q→wpAny (model X.prog X.w) X.A (isTrue e X.env whole) (TP X pins σ Q) X.xe s
theorem PW.pt {X:Cx}{e:Expr}{t:TT} (h:PW X e t):PT X e t:=h _
def PA (X:Cx) (es:List Expr) (t:TA):Prop :=
 ∀(pos:Pos) (pins:List (Addr×Obj)) (s:Shared) (σ:St) (H:Hp) (Q:List V→Hp→Prop),Inv X pins σ H s→t σ H Q→wpAny (model X.prog X.w) X.A (spliced (backTo pos (starEach es X.env))) (AP X pins σ Q) X.xe s
def PS (X:Cx) (st:Stmt) (t:TS):Prop :=
 ∀(pins:List (Addr×Obj)) (s:Shared) (σ:St) (H:Hp) (D:Es),Inv X pins σ H s→t D σ H→wpAny (model X.prog X.w) X.A (exec st X.env) (SP X pins D) X.xe s
def PSs (X:Cx) (st:List Stmt) (t:TS):Prop :=
 ∀(pins:List (Addr×Obj)) (s:Shared) (σ:St) (H:Hp) (D:Es),Inv X pins σ H s→t D σ H→wpAny (model X.prog X.w) X.A (execs st X.env) (SP X pins D) X.xe s
theorem thn {α:Type}{t:Sem α}{Q Q':α→Shared→Prop}{M:Model}{A:Around}{E:Value→Shared→Prop}{s:Shared} (h:wpAny M A t Q E s) (hQ:∀a s,Q a s→Q' a s):wpAny M A t Q' E s:=Cs h hQ fun _ _ x=>x
end L2
namespace L2
open PySem PySem.Spec PyProof.Rows
section
variable {X:Cx}
theorem bin {a b:Expr}{ta tb:TE} (ha:PE X a ta) (hb:PE X b tb) {pins:List (Addr×Obj)}{s:Shared}{σ:St}{H:Hp}{R:V→V→Hp→Prop} (I:Inv X pins σ H s) (h:ta σ H fun x H1=>tb σ H1 fun y H2=>R x y H2)
  {α:Type} {Q:α→Shared→Prop} {f:Value→Value→Sem α}
  (hf:∀v u s2 x y H2,Inv X pins σ H2 s2→RelV x v→RelV y u→R x y H2→wpAny (model X.prog X.w) X.A (f v u) Q X.xe s2):
  wpAny (model X.prog X.w) X.A (eval a X.env) (fun v s₁=>wpAny (model X.prog X.w) X.A (eval b X.env) (fun u s₂=>wpAny (model X.prog X.w) X.A (f v u) Q X.xe s₂) X.xe s₁) X.xe s:=by
 refine thn (ha pins s σ H _ I h) fun v s1 ⟨x,H1,I1,r1,q1⟩=>?_
 refine thn (hb pins s1 σ H1 _ I1 q1) fun u s2 ⟨y,H2,I2,r2,q2⟩=>?_
 exact hf v u s2 x y H2 I2 r1 r2 q2
def Ee (i:Nat):TE:=fun σ H Q=>∃v,σ[i]?=some (some v)∧Q v H
def tC (v:V):TE:=fun _ H Q=>Q v H
theorem QK {i:Nat}{x:Str}{pos:Pos} (hN:X.N[i]?=some x) (hv:Vis X.env.scope x) (hd:(x==("__debug__":Str))=false:=by decide) (hcd:(x==("__classdict__":Str))=false:=by decide):PE X (.Name x pos) (Ee i):=by
 intro pins s σ H Q I h
 obtain⟨v,e,h⟩:=h
 obtain⟨m,hn,hl⟩:=I.loc
 obtain⟨u,r,l⟩:=hl i x v hN e hv
 have fin:EP X pins σ Q u s:=⟨v,H,I,r,h⟩
 rcases l with ⟨hk,hm⟩ | ⟨hk,c,hc,hcell⟩
 ·exact NS (wpAny_loadName_local I.ok.kind hk hn hm fin) hd
 ·rcases hk with hk | hk
  ·exact NS (wpAny_loadName_cell I.ok.kind hk hc hcell fin) hd
  ·exact NS (wpAny_loadName_free I.ok.kind hk hc hcell fin hcd) hd
theorem AO {i j pos}:PE X (.Constant (.int i) j pos) (tC (.int i)):=fun _ _ _ H _ I h=>wpAny_Constant_int ⟨.int i,H,I.tok _,⟨_,rfl⟩,h⟩
theorem QC {b j pos}:PE X (.Constant (.bool b) j pos) (tC (.bl b)):=fun _ _ _ H _ I h=>Constant_bool ⟨.bl b,H,I,rfl,h⟩
theorem Cj {j pos}:PE X (.Constant .none j pos) (tC .non):=fun _ _ _ H _ I h=>Constant_none ⟨.non,H,I,rfl,h⟩
theorem DT {x j pos}:PE X (.Constant (.str x) j pos) (tC (.str x)):=fun _ _ _ H _ I h=>Calls.Constant_str ⟨.str x,H,I.tok _,⟨_,rfl⟩,h⟩
def Gl (X:Cx) (x:Str):Prop:=X.env.kindOf x=some .globalImplicit
theorem G6 {E:Value→Shared→Prop}{pins:List (Addr×Obj)}{s:Shared}{σ:St}{H:Hp}{x:Str}{u:Value}{pos:Pos}{Q:Value→Shared→Prop} (I:Inv X pins σ H s) (hg:Gl X x) (hm:X.mg x=some u) (h:Q u s)
  (hd:(x==("__debug__":Str))=false:=by decide):wpAny (model X.prog X.w) X.A (eval (.Name x pos) X.env) Q E s :=
 UC I.ok.kind hg (Calls.loadGlobal_global (by rw[I.ok.glob];exact I.mod.glob.keeps I.bk) hm h) hd
theorem Fv {E:Value→Shared→Prop}{pins:List (Addr×Obj)}{s:Shared}{σ:St}{H:Hp}{x:Str}{u:Value}{pos:Pos}{Q:Value→Shared→Prop} (I:Inv X pins σ H s) (hg:Gl X x) (hm:X.mg x=none) (hv:bootBuiltins x=some u) (h:Q u s)
  (hn:x≠"__name__":=by decide) (hd:(x==("__debug__":Str))=false:=by decide):wpAny (model X.prog X.w) X.A (eval (.Name x pos) X.env) Q E s:=by
 obtain⟨mb,h1,h2⟩:=I.mod.blt
 exact UC I.ok.kind hg (Calls.loadGlobal_builtin (by rw[I.ok.glob];exact I.mod.glob.keeps I.bk) hm (by rw[I.ok.blt];exact h1.keeps I.bk) ((h2 x hn).trans hv) h) hd
theorem Xc {x:Str}{v:V}{u:Value}{pos:Pos} (hg:Gl X x) (hm:X.mg x=some u) (r:RelV v u) (hd:(x==("__debug__":Str))=false:=by decide):PE X (.Name x pos) (tC v) :=
 fun _ _ _ H _ I h=>G6 I hg hm ⟨v,H,I,r,h⟩ hd
variable {a b:Expr}{ta tb:TE}{pos:Pos}
def PC (X:Cx) (op:CmpOp) (a b:Expr) (t:TE):Prop :=
 ∀(pins:List (Addr×Obj)) (s:Shared) (σ:St) (H:Hp) (Q:VK),Inv X pins σ H s→t σ H Q→
  wpAny (model X.prog X.w) X.A (eval a X.env) (fun v s₁=>wpAny (model X.prog X.w) X.A (eval b X.env) (fun u s₂=>wpAny (model X.prog X.w) X.A (compareOp op v u) (EP X pins σ Q) X.xe s₂) X.xe s₁) X.xe s
theorem Py (b:Expr) {op:CmpOp} (h:op≠.In) (h2:op≠.NotIn):behindInMarks op b=false:=by
 have e1:(op==CmpOp.In)=false:=by cases op <;> first | rfl | exact absurd rfl h
 have e2:(op==CmpOp.NotIn)=false:=by cases op <;> first | rfl | exact absurd rfl h2
 cases b <;> simp[behindInMarks,e1,e2]
def tB (t:TE):TT:=fun σ H Q=>t σ H fun x H1=>∃c,x=.bl c∧Q c H1
theorem XY {op:CmpOp}{t:TE} (h:PC X op a b t) (h1:behindInMarks op b=false:=by first | exact Py _ (by decide) (by decide) | rfl):PE X (.Compare a [op] [b] pos) t:=fun pins s σ H Q I hw=>wpAny_Compare1 (h pins s σ H Q I hw) h1
theorem Zl {op:CmpOp}{t:TE} (h:PC X op a b t) (h1:behindInMarks op b=false:=by first | exact Py _ (by decide) (by decide) | rfl):PT X (.Compare a [op] [b] pos) (tB t):=by
 intro pins s σ H Q I hw
 refine Us (thn (h pins s σ H _ I hw) fun v s1 h1=>thn h1 fun u s2 h2=>thn h2 fun c s3 ⟨x,H1,I1,r1,q1⟩=>?_) h1
 obtain⟨d,rfl,q⟩:=q1
 cases r1
 exact EK ⟨H1,I1,q⟩
theorem Cy {e:Expr}{t:TE} (h:PE X e t) (he:∀whole,isTrue e X.env whole=(do let v ← whole;standAt e.pos;holding [v] (truthy v)):=by intro _;rfl):PT X e (tB t):=by
 intro pins s σ H Q I hw
 refine isTrue_plain (thn (h pins s σ H _ I hw) fun v s1 ⟨x,H1,I1,r1,q1⟩=>?_) (he _)
 obtain⟨d,rfl,q⟩:=q1
 cases r1
 exact EK ⟨H1,I1,q⟩
variable {tA tB':TT}{rest:List Expr}
def Y4 (t u:TT):TT:=fun σ H Q=>t σ H fun c H1=>if c=true then u σ H1 Q else Q false H1
def tOr (t u:TT):TT:=fun σ H Q=>t σ H fun c H1=>if c=true then Q true H1 else u σ H1 Q
def ZN (t:TT):TT:=fun σ H Q=>t σ H fun c H1=>Q (!c) H1
theorem Ec (ha:PT X a tA):PW X (.BoolOp .And [a] pos) tA:=by
 intro wh pins s σ H Q I h
 refine isTrue_and (thn (ha pins s σ H Q I h) fun c s1 e=>?_)
 cases c with
 | true=>exact isTrue_and_nil e
 | false=>exact e
theorem HM (ha:PT X a tA):PW X (.BoolOp .Or [a] pos) tA:=by
 intro wh pins s σ H Q I h
 refine isTrue_or (thn (ha pins s σ H Q I h) fun c s1 e=>?_)
 cases c with
 | false=>exact isTrue_or_nil e
 | true=>exact e
theorem Dl (ha:PT X a tA) (hb:PW X (.BoolOp .And (b::rest) pos) tB'):PW X (.BoolOp .And (a::b::rest) pos) (Y4 tA tB'):=by
 intro wh pins s σ H Q I h
 refine isTrue_and (thn (ha pins s σ H _ I h) fun c s1 ⟨H1,I1,q1⟩=>?_)
 cases c with
 | true=>exact hb wh pins s1 σ H1 Q I1 q1
 | false=>exact⟨H1,I1,q1⟩
theorem F9 (ha:PT X a tA) (hb:PW X (.BoolOp .Or (b::rest) pos) tB'):PW X (.BoolOp .Or (a::b::rest) pos) (tOr tA tB'):=by
 intro wh pins s σ H Q I h
 refine isTrue_or (thn (ha pins s σ H _ I h) fun c s1 ⟨H1,I1,q1⟩=>?_)
 cases c with
 | true=>exact⟨H1,I1,q1⟩
 | false=>exact hb wh pins s1 σ H1 Q I1 q1
theorem D8 (ha:PT X a tA):PT X (.UnaryOp .Not a pos) (ZN tA):=by
 intro pins s σ H Q I h
 exact isTrue_not (ha pins s σ H (fun c H1=>Q (!c) H1) I h)
def Y5 (ta tb:TE):TE:=fun σ H Q=>ta σ H fun x H1=>∃c,x=.bl c∧if c=true then tb σ H1 Q else Q (.bl false) H1
def ZO (ta tb:TE):TE:=fun σ H Q=>ta σ H fun x H1=>∃c,x=.bl c∧if c=true then Q (.bl true) H1 else tb σ H1 Q
theorem Ea {op}{t:TE} (h:PE X a t):PE X (.BoolOp op [a] pos) t:=fun pins s σ H Q I hw=>BoolOp_one (h pins s σ H Q I hw)
theorem EY (ha:PE X a ta) (hb:PE X (.BoolOp .And (b::rest) pos) tb):PE X (.BoolOp .And (a::b::rest) pos) (Y5 ta tb):=by
 intro pins s σ H Q I h
 refine BoolOp_and (thn (ha pins s σ H _ I h) fun v s1 ⟨x,H1,I1,r1,q1⟩=>?_)
 obtain⟨c,rfl,q1⟩:=q1
 cases r1
 refine EK ?_
 cases c with
 | true=>exact hb pins s1 σ H1 Q I1 q1
 | false=>exact⟨.bl false,H1,I1,rfl,q1⟩
theorem Xh (ha:PE X a ta) (hb:PE X (.BoolOp .Or (b::rest) pos) tb):PE X (.BoolOp .Or (a::b::rest) pos) (ZO ta tb):=by
 intro pins s σ H Q I h
 refine BoolOp_or (thn (ha pins s σ H _ I h) fun v s1 ⟨x,H1,I1,r1,q1⟩=>?_)
 obtain⟨c,rfl,q1⟩:=q1
 cases r1
 refine EK ?_
 cases c with
 | false=>exact hb pins s1 σ H1 Q I1 q1
 | true=>exact⟨.bl true,H1,I1,rfl,q1⟩
def tIf (t:TT) (ta tb:TE):TE:=fun σ H Q=>t σ H fun c H1=>if c=true then ta σ H1 Q else tb σ H1 Q
theorem LX {c:Expr} (hc:PT X c tA) (ha:PE X a ta) (hb:PE X b tb):PE X (.IfExp c a b pos) (tIf tA ta tb):=by
 intro pins s σ H Q I h
 refine wpAny_IfExp (thn (hc pins s σ H _ I h) fun d s1 ⟨H1,I1,q1⟩=>?_)
 cases d with
 | true=>exact ha pins s1 σ H1 Q I1 q1
 | false=>exact hb pins s1 σ H1 Q I1 q1
end
end L2
namespace L2
open PySem PySem.Spec PyProof.Rows
def SqL (K:AA) (H:Hp) (a:Addr) (xs:List V):Prop :=
 Rd H a (.lst xs)∨
  ∃(o:Obj) (its:Array Value) (n:Nat),K.lookup a=some o∧o.cls=.type "list"∧o.dict=none∧o.data=.seq its n∧its.size≤sizeLine∧Vals xs its.toList
def SqT (K:AA) (H:Hp) (a:Addr) (xs:List V):Prop :=
 Rd H a (.tup xs)∨
  ∃(o:Obj) (its:Array Value) (n:Nat),K.lookup a=some o∧o.cls=.type "tuple"∧o.data=.seq its n∧its.size≤sizeLine∧Vals xs its.toList
def U2:Value→Option V
 | .none=>some .non
 | .bool b=>some (.bl b)
 | .int i _=>some (.int i)
 | .str x _=>some (.str x)
 | .bytes b _=>some (.byt b)
 | .float b _=>some (.flt b)
 | .ref a=>some (.ref a)
 | .type n=>some (.ty n)
 | _=>none
theorem RelV.abs {x:V}{u:Value} (r:RelV x u):U2 u=some x:=by
 cases x with
 | non=>cases r;rfl
 | bl _=>cases r;rfl
 | int _=>obtain⟨t,rfl⟩:=r;rfl
 | str _=>obtain⟨t,rfl⟩:=r;rfl
 | byt _=>obtain⟨t,rfl⟩:=r;rfl
 | flt _=>obtain⟨t,rfl⟩:=r;rfl
 | ref _=>cases r;rfl
 | ty _=>cases r;rfl
theorem RelV.inj {x y:V}{u:Value} (r:RelV x u) (q:RelV y u):x=y:=Ae (r.abs.symm.trans q.abs)
theorem Vals.inj:∀{xs ys:List V}{us:List Value},Vals xs us→Vals ys us→xs=ys
 | _,_,_,.nil,.nil=>rfl
 | _,_,_,.cons r t,.cons r' t'=>by rw[r.inj r',Vals.inj t t']
section
variable {X:Cx}{pins:List (Addr×Obj)}{σ:St}{H:Hp}{s:Shared}{a:Addr}{xs ys:List V}
theorem SqL.of {K:AA} (h:H a=some (.lst xs)):SqL K H a xs:=.inl (.inl h)
theorem SqT.of {K:AA} (h:H a=some (.tup xs)):SqT K H a xs:=.inl (.inl h)
theorem Inv.list (I:Inv X pins σ H s) (h:SqL X.K H a xs):∃its:List Value,Vals xs its∧PlainL s.heap a its.toArray∧xs.length≤sizeLine:=by
 rcases h with h | ⟨o,its,n,hk,hc,hd,hs,hz,r⟩
 ·obtain⟨z,its,n,r,e⟩:=h.ok I.hok
  exact⟨its,r,⟨_,n,e,rfl,rfl,rfl⟩,z⟩
 ·refine⟨its.toList,r,⟨o,n,I.kIn a o hk,hc,hd,by simpa using hs⟩,?_⟩
  have e:=r.length
  simp only[JT] at e
  omega
theorem Inv.tuple (I:Inv X pins σ H s) (h:SqT X.K H a xs):∃its:List Value,Vals xs its∧IsTup s.heap a its.toArray∧xs.length≤sizeLine:=by
 rcases h with h | ⟨o,its,n,hk,hc,hs,hz,r⟩
 ·obtain⟨z,its,r,p⟩:=h.ok I.hok
  exact⟨its,r,p,z⟩
 ·refine⟨its.toList,r,⟨o,I.kIn a o hk,hc,n,by simpa using hs⟩,?_⟩
  have e:=r.length
  simp only[JT] at e
  omega
theorem Inv.list_inj (I:Inv X pins σ H s) (h:SqL X.K H a xs) (h':SqL X.K H a ys):xs=ys:=by
 obtain⟨its,r,⟨o,n,e,_,_,d⟩,_⟩:=I.list h
 obtain⟨its',r',⟨o',n',e',_,_,d'⟩,_⟩:=I.list h'
 rw[e] at e';cases e'
 rw[d] at d'
 injection d' with d1 _
 have:its=its':=by simpa using congrArg MP d1
 subst this
 exact r.inj r'
theorem Inv.tuple_inj (I:Inv X pins σ H s) (h:SqT X.K H a xs) (h':SqT X.K H a ys):xs=ys:=by
 obtain⟨its,r,⟨o,e,_,n,d⟩,_⟩:=I.tuple h
 obtain⟨its',r',⟨o',e',_,n',d'⟩,_⟩:=I.tuple h'
 rw[e] at e';cases e'
 rw[d] at d'
 injection d' with d1 _
 have:its=its':=by simpa using congrArg MP d1
 subst this
 exact r.inj r'
end
abbrev Cx.wish (X:Cx) (E:Value→Shared→Prop):Cx:={ X with xe:=E }
abbrev Cx.nox (X:Cx):Cx:=X.wish fun _ _=>False
theorem Cx.Ok.wish {X:Cx} (ok:X.Ok) (E:Value→Shared→Prop):(X.wish E).Ok :=
 ⟨ok.mod,ok.kind,ok.glob,ok.blt,ok.above,ok.inj,ok.has,ok.cab,ok.hd,ok.frames,ok.stk,ok.exf,ok.bs,ok.bsz,ok.noex,ok.exfs,ok.funs,ok.frf⟩
theorem Cx.Ok.unwish {X:Cx}{E:Value→Shared→Prop} (ok:(X.wish E).Ok):X.Ok :=
 ⟨ok.mod,ok.kind,ok.glob,ok.blt,ok.above,ok.inj,ok.has,ok.cab,ok.hd,ok.frames,ok.stk,ok.exf,ok.bs,ok.bsz,ok.noex,ok.exfs,ok.funs,ok.frf⟩
section
variable {X:Cx}{pins:List (Addr×Obj)}{σ:St}{H:Hp}{s:Shared}{E:Value→Shared→Prop}
theorem Inv.wish (I:Inv X pins σ H s) (E:Value→Shared→Prop):Inv (X.wish E) pins σ H s:=⟨I.ok.wish E,I.os,I.bare,I.base,I.loc,I.cell,I.free,I.freeC,I.pin,I.hok,I.len⟩
theorem Inv.unwish (I:Inv (X.wish E) pins σ H s):Inv X pins σ H s:=⟨I.ok.unwish,I.os,I.bare,I.base,I.loc,I.cell,I.free,I.freeC,I.pin,I.hok,I.len⟩
theorem SP.unwish {D:Es}{f:Flow}{s':Shared} (h:SP (X.wish E) pins D f s'):SP X pins D f s':=by
 cases f with
 | next=>obtain⟨σ',H',I,q⟩:=h;exact⟨σ',H',I.unwish,q⟩
 | brk=>obtain⟨σ',H',I,q⟩:=h;exact⟨σ',H',I.unwish,q⟩
 | cont=>obtain⟨σ',H',I,q⟩:=h;exact⟨σ',H',I.unwish,q⟩
 | ret u=>obtain⟨v,σ',H',I,r,q⟩:=h;exact⟨v,σ',H',I.unwish,r,q⟩
theorem PSs.nox {st:List Stmt}{t:TS} (h:PSs X.nox st t):PSs X st t:=fun pins s σ H D I hw =>
 Cs (h pins s σ H D (I.wish _) hw) (fun _ _ q=>q.unwish) fun _ _ z=>BL z
end
section
variable {X:Cx}{st:Stmt}{rest:List Stmt}{t u:TS}{e:Expr}{te:TE}{pos:Pos}
def MD:TS:=fun D σ H=>D.nx σ H
def ME (t u:TS):TS:=fun D σ H=>t { D with nx:=u D } σ H
theorem Ap:PSs X [] MD:=fun _ _ σ H _ I h=>NV ⟨σ,H,I,h⟩
theorem AJ (h1:PS X st t) (h2:PSs X rest u):PSs X (st::rest) (ME t u):=by
 intro pins s σ H D I h
 refine Uq (thn (h1 pins s σ H { D with nx:=u D } I h) fun f s1 q=>?_)
 cases f with
 | next =>
  obtain⟨σ',H',I',q⟩:=q
  exact h2 pins s1 σ' H' D I' q
 | ret v=>exact q
 | brk=>exact q
 | cont=>exact q
theorem AH (h1:PS X st t):PSs X [st] t:=by
 intro pins s σ H D I h
 refine Uq (thn (h1 pins s σ H D I h) fun f s1 q=>?_)
 cases f with
 | next=>exact NV q
 | ret v=>exact q
 | brk=>exact q
 | cont=>exact q
theorem Inv.quiet {pins:List (Addr×Obj)}{σ:St}{H:Hp}{s:Shared} (I:Inv X pins σ H s):interactive X.env=false:=by simp[interactive,I.ok.kind]
def ZG (te:TE):TS:=fun D σ H=>te σ H fun _ H1=>D.nx σ H1
theorem E9 (he:PE X e te) (hs:swapsWith e none pos.line X.env=pure false:=by rfl):PS X (.Expr e pos) (ZG te):=by
 intro pins s σ H D I h
 exact wpAny_Expr_any (thn (he pins s σ H _ I h) fun v s1 ⟨x,H1,I1,r1,q1⟩=>⟨σ,H1,I1,q1⟩) I.quiet hs
def HR (te:TE):TS:=fun D σ H=>te σ H D.rt
theorem AL (he:PE X e te):PS X (.Return (some e) pos) (HR te):=by
 intro pins s σ H D I h
 exact wpAny_Return_some (thn (he pins s σ H _ I h) fun v s1 ⟨x,H1,I1,r1,q1⟩=>⟨x,σ,H1,I1,r1,q1⟩)
def MC (c:TT) (t u:TS):TS:=fun D σ H=>c σ H fun b H1=>if b=true then t D σ H1 else u D σ H1
theorem Al {c:Expr}{a b:List Stmt}{tc:TT} (hc:PT X c tc) (ha:PSs X a t) (hb:PSs X b u):PS X (.If c a b pos) (MC tc t u):=by
 intro pins s σ H D I h
 refine wpAny_If (thn (hc pins s σ H _ I h) fun d s1 ⟨H1,I1,q1⟩=>?_)
 cases d with
 | true=>exact ha pins s1 σ H1 D I1 q1
 | false=>exact hb pins s1 σ H1 D I1 q1
end
abbrev TG:=V→St→Hp→(St→Hp→Prop)→Prop
abbrev TGs:=List V→St→Hp→(St→Hp→Prop)→Prop
def PG (X:Cx) (target:Expr) (t:TG):Prop :=
 ∀(pins:List (Addr×Obj)) (s:Shared) (σ:St) (H:Hp) (v:V) (u:Value) (Q:St→Hp→Prop),Inv X pins σ H s→RelV v u→t v σ H Q→
  wpAny (model X.prog X.w) X.A (assign target X.env u) (fun _ s'=>∃σ' H',Inv X pins σ' H' s'∧Q σ' H') X.xe s
def PGs (X:Cx) (ts:List Expr) (t:TGs):Prop :=
 ∀(pins:List (Addr×Obj)) (s:Shared) (σ:St) (H:Hp) (vs:List V) (us:List Value) (Q:St→Hp→Prop),Inv X pins σ H s→Vals vs us→t vs σ H Q→
  wpAny (model X.prog X.w) X.A (assignInOrder ((assignEach ts X.env).map (·.2)) us) (fun _ s'=>∃σ' H',Inv X pins σ' H' s'∧Q σ' H') X.xe s
section
variable {X:Cx}{pos:Pos}
def Oo (i:Nat):TG:=fun v σ H Q=>Q (σ.set i (some v)) H
theorem Bs {i:Nat}{x:Str} (hN:X.N.Nodup) (hi:X.N[i]?=some x) (hx:Loc X.env.scope x) (hf:X.fn x=true∨X.env.scope.names.lookup x=some .local:=by first | exact .inl rfl | exact .inr rfl | assumption):PG X (.Name x pos) (Oo i):=by
 intro pins s σ H v u Q I r h
 exact wpAny_assign_Name (Su I hN hi hx r (fun s' I'=>⟨_,H,I',h⟩) hf)
def V8:TGs:=fun vs σ H Q=>vs=[]∧Q σ H
def V7 (t:TG) (u:TGs):TGs:=fun vs σ H Q=>∃v r,vs=v::r∧t v σ H fun σ' H'=>u r σ' H' Q
theorem La:PGs X [] V8:=by
 intro pins s σ H vs us Q I r h
 obtain⟨e,h⟩:=h
 subst e
 cases r
 exact assignInOrder_nil ⟨σ,H,I,h⟩
theorem F6 {e:Expr}{es:List Expr}{t:TG}{u:TGs} (h1:PG X e t) (h2:PGs X es u)
  (hs:(assignEach (e::es) X.env).map (·.2)=assign e X.env::(assignEach es X.env).map (·.2):=by rfl):PGs X (e::es) (V7 t u):=by
 intro pins s σ H vs us Q I r h
 obtain⟨v,vr,e1,h⟩:=h
 subst e1
 cases r with
 | cons r rr =>
  rw[hs]
  refine assignInOrder_cons (thn (h1 pins s σ H _ _ _ I r h) fun _ s1 ⟨σ1,H1,I1,q1⟩=>?_)
  exact h2 pins s1 σ1 H1 _ _ Q I1 rr q1
def WA (K:AA) (n:Nat) (t:TGs):TG:=fun v σ H Q=>∃a xs,v=.ref a∧SqT K H a xs∧xs.length=n∧t xs σ H Q
theorem LZ {es:List Expr}{k:Nat}{t:TGs}{n:Nat} (hc:X.calm=true) (h:PGs X es t)
  (hn:(assignEach es X.env).length=n:=by rfl) (hst:(assignEach es X.env).findIdx? (·.1)=none:=by rfl):PG X (.Tuple es k pos) (WA X.K n t):=by
 intro pins s σ H v u Q I r hw
 obtain⟨a,xs,e1,hq,hl,hw⟩:=hw
 subst e1
 cases r
 obtain⟨its,rv,ht,hz⟩:=I.tuple hq
 refine assign_Tuple_tuple (I.ok.hd hc) ht (by simp[hn,← hl,rv.length]) hst fun h' hx=>?_
 have I1:Inv X pins σ H { s with heap:=h' }:=I.kept (t':=s.toks) fun b o e=>hx b o (BM (Ao e)) e
 exact h pins _ σ H xs _ Q I1 (by simpa using rv) hw
def Y6 (te:TE) (g:TG):TS:=fun D σ H=>te σ H fun x H1=>g x σ H1 D.nx
theorem BB {i:Nat}{x:Str}{e:Expr}{te:TE}{pos':Pos} (hN:X.N.Nodup) (hi:X.N[i]?=some x) (hx:Loc X.env.scope x) (he:PE X e te) (hs:swapsWith e (some (.Name x pos')) pos.line X.env=pure false:=by rfl) (hf:X.fn x=true∨X.env.scope.names.lookup x=some .local:=by first | exact .inl rfl | exact .inr rfl | assumption):
  PS X (.Assign [.Name x pos'] e pos) (Y6 te (Oo i)):=by
 intro pins s σ H D I h
 refine wpAny_Assign_Name (thn (he pins s σ H _ I h) fun v s1 ⟨y,H1,I1,r1,q1⟩=>?_) hs
 exact Su I1 hN hi hx r1 (fun s2 I2=>⟨_,H1,I2,q1⟩) hf
end
section
variable {X:Cx}{pos:Pos}
end
structure It where
 go:Nat→Hp→Prop
 yld:Nat→Hp→V→Hp→Prop
 stop:Nat→Hp→Prop
def DN (X:Cx) (pins:List (Addr×Obj)) (H:Hp) (b:Addr):Prop :=
 H b=none∧b≠X.env.locals∧b∉X.fs∧(b∈X.ex∨X.s_0.heap.objs.size≤b)∧(∀x c,X.env.cells.lookup x=some c→c≠b)∧∀p∈X.pn++pins,p.1≠b
theorem Inv.fpOk {X:Cx}{pins:List (Addr×Obj)}{σ:St}{H H':Hp}{s:Shared}{b:Addr} (I:Inv X pins σ H s) (hb:s.heap.objs.size≤b) (hn:H' b=none):DN X pins H' b:=by
 refine⟨hn,Jr (BV I.lt hb),I.nofs hb,.inr (Ba I.sz hb),fun x c e z=>?_,fun p hp z=>?_⟩
 ·obtain⟨v,q⟩:=I.cell x c e
  exact absurd (BV q.lt (by rw[z];exact hb)) (Cp _)
 ·exact absurd (BV (Ao (I.pin p hp).1) (by rw[z];exact hb)) (Cp _)
structure De (P:Program) (w:World) (K:AA) (tg:Expr) (J:It) (fp:List Addr) (it:Addr) (tn:Nat→Heap→Prop):Prop where
 mem:it∈fp
 obj:∀i h,tn i h→∀b∈fp,∃o,h.get? b=some o∧∀v,o.data≠.cell v
 keep:∀i h h',tn i h→(∀b∈fp,∀o,h.get? b=some o→h'.get? b=some o)→tn i h'
 item:∀(X:Cx),X.prog=P→X.w=w→X.K=K→X.calm=true→∀(i:Nat) (pins:List (Addr×Obj)) (s:Shared) (σ:St) (H:Hp) (E:Value→Shared→Prop),Inv X pins σ H s→(∀b∈fp,DN X pins H b)→tn i s.heap→J.go i H→
  wpAny (model P w) X.A (pyNext (.ref it)) (fun r s1=>∃u,r=some u∧
   wpAny (model P w) X.A (letOwnedTupleGo tg (.ref it) u) (fun _ s2=>∃x H',Inv X pins σ H' s2∧RelV x u∧J.yld i H x H'∧tn (i+1) s2.heap∧∀b∈fp,H' b=none) E s1) E s
 done:∀(X:Cx),X.prog=P→X.w=w→X.K=K→X.calm=true→∀(i:Nat) (pins:List (Addr×Obj)) (s:Shared) (σ:St) (H:Hp) (E:Value→Shared→Prop),Inv X pins σ H s→(∀b∈fp,DN X pins H b)→tn i s.heap→J.stop i H→
  wpAny (model P w) X.A (pyNext (.ref it)) (fun r s1=>r=none∧Inv X pins σ H s1) E s
 self:∀(A:Around) (i:Nat) (s:Shared) (Q:Value→Shared→Prop) (E:Value→Shared→Prop),tn i s.heap→Q (.ref it) s→wpAny (model P w) A (pyIter (.ref it)) Q E s
abbrev TI:=St→Hp→(It→Hp→Prop)→Prop
def PIE (X:Cx) (pins:List (Addr×Obj)) (σ:St) (tg:Expr) (R:It→Hp→Prop) (itv:Value) (s2:Shared):Prop :=
 ∃(it:Addr) (fp:List Addr) (tn:Nat→Heap→Prop) (J:It) (H':Hp),itv=.ref it∧Inv X pins σ H' s2∧De X.prog X.w X.K tg J fp it tn∧tn 0 s2.heap∧(∀b∈fp,DN X pins H' b)∧R J H'
def PI (X:Cx) (tg iter:Expr) (wi:TI):Prop :=
 ∀(pins:List (Addr×Obj)) (s:Shared) (σ:St) (H:Hp) (R:It→Hp→Prop),Inv X pins σ H s→wi σ H R→
  wpAny (model X.prog X.w) X.A (eval iter X.env) (fun v s1=>wpAny (model X.prog X.w) X.A (pyIter v) (PIE X pins σ tg R) X.xe s1) X.xe s
theorem Fo {M : Model} {A : Around} {E : Value → Shared → Prop} {s : Shared} {tg : Expr} {it : Addr} {u : Value} {o : Obj} {n : String} {vs : Array Value} {Q : Unit → Shared → Prop} (ho : s.heap.get? it = some o) (hc : o.cls = .type n) (hd : o.data = .fields vs)
    (hn : ["enumerate", "zip", "dict_itemiterator", "dict_reverseitemiterator", "odict_iterator", "itertools.zip_longest", "itertools.pairwise"].contains n = false) (hQ : Q () s) : wpAny M A (letOwnedTupleGo tg (.ref it) u) Q E s := by
  unfold letOwnedTupleGo
  cases tg <;> first
    | exact AQ hQ
    | (cases u <;> first
        | exact AQ hQ
        | (refine AF (wpAny_load ho ?_)
           rw [hc, hd]
           show wpAny M A (if (["enumerate", "zip", "dict_itemiterator", "dict_reverseitemiterator", "odict_iterator", "itertools.zip_longest", "itertools.pairwise"].contains n && vs[0]? == some (rawInt _)) = true then _ else _) Q E s
           rw [if_neg (by intro h; rw [hn, Co] at h; cases h)]
           exact AQ hQ))
def Itl (K:AA) (a:Addr):It :=
 ⟨fun i H=>∃xs x,SqL K H a xs∧xs[i]?=some x,fun i H x H'=>H'=H∧∀xs,SqL K H a xs→xs[i]?=some x,fun i H=>∃xs,SqL K H a xs∧xs.length≤i⟩
def Itr (lo:Int) (n:Nat):It:=⟨fun i _=>i < n,fun i H x H'=>H'=H∧x=.int (lo+i),fun i _=>n≤i⟩
theorem Za {P:Program}{w:World}{K:AA}{tg:Expr} (a it:Addr):De P w K tg (Itl K a) [it] it (fun i h=>h.IsListIter it a i) where
 mem:=by simp
 obj:=fun i h st b hb=>by
  have e:b=it:=by simpa using hb
  subst e
  obtain⟨o,e,c,d⟩:=st
  exact⟨o,e,fun v z=>by rw[d] at z;cases z⟩
 keep:=fun i h h' st k=>st.at fun o e=>k it (by simp) o e
 item:=by
  intro X hP hw hK hc i pins s σ H E I hf st hg
  subst hP hw hK
  obtain⟨xs,x,hq,hx⟩:=hg
  obtain⟨its,rv,p,hz⟩:=I.list hq
  obtain⟨u,hu,ru⟩:=rv.get hx
  obtain⟨f0,f1,f2,f3,f4,f5⟩:=hf it (by simp)
  refine wpAny_pyNext_list_item st p.isList (x:=u) (by simpa using hu) fun h' st' sb=>?_
  have I1:Inv X pins σ H { s with heap:=h' }:=I.turned (t':=s.toks) (fun b o hb e=>(sb.2 b hb).trans e) f0 f1 f3 f4 f5
  obtain⟨o,e,c,d⟩:=id st'
  exact⟨u,rfl,Fo (s:={ s with heap:=h' }) e c d (by decide) ⟨x,H,I1,ru,⟨rfl,fun ys hy=>by rw[I.list_inj hy hq];exact hx⟩,st',fun b hb=>(hf b hb).1⟩⟩
 done:=by
  intro X hP hw hK hc i pins s σ H E I hf st hg
  subst hP hw hK
  obtain⟨xs,hq,hx⟩:=hg
  obtain⟨its,rv,p,hz⟩:=I.list hq
  obtain⟨f0,f1,f2,f3,f4,f5⟩:=hf it (by simp)
  have hl:=rv.length
  exact wpAny_pyNext_list_end (I.ok.hd hc) st p.isList (by simp;omega) fun h' eb=>⟨rfl,I.turned (t':=s.toks) (fun b o hb e=>eb b o hb e) f0 f1 f3 f4 f5⟩
 self:=fun _ _ _ _ _ st h=>wpAny_pyIter_listiter st h
theorem Zb {P:Program}{w:World}{K:AA}{tg:Expr} (it:Addr) (lo:Int) (n:Nat):De P w K tg (Itr lo n) [it] it (fun i h=>IsRangeIter h it (lo+(i:Nat) * 1) ((n:Int) - (i:Nat)) 1) where
 mem:=by simp
 obj:=fun i h st b hb=>by
  have e:b=it:=by simpa using hb
  subst e
  exact⟨_,st,fun v z=>by
   have z':Data.fields _=Data.cell v:=z
   cases z'⟩
 keep:=fun i h h' st k=>k it (by simp) _ st
 item:=by
  intro X hP hw hK hc i pins s σ H E I hf st hg
  subst hP hw hK
  obtain⟨f0,f1,f2,f3,f4,f5⟩:=hf it (by simp)
  have W:=Walks.range (prog:=X.prog) (w:=X.w) (I.ok.hd hc) it lo 1 n
  refine W.item i s _ _ hg st fun v h' tk hv st' kk=>?_
  obtain⟨t,rfl⟩:=hv
  have I1:Inv X pins σ H { s with heap:=h',toks:=tk }:=I.turned (fun b o hb e=>kk b o (by simpa using hb) e) f0 f1 f3 f4 f5
  refine⟨_,rfl,Fo (s:={ s with heap:=h',toks:=tk }) (n:="range_iterator") st' rfl rfl (by decide) ⟨.int (lo+i),H,I1,⟨t,?_⟩,⟨rfl,rfl⟩,st',fun b hb=>(hf b hb).1⟩⟩
  rw[Int.mul_one]
 done:=by
  intro X hP hw hK hc i pins s σ H E I hf st hg
  subst hP hw hK
  obtain⟨f0,f1,f2,f3,f4,f5⟩:=hf it (by simp)
  exact wpAny_pyNext_range_end (I.ok.hd hc) st (by have:n≤i:=hg;omega) fun h' eb=>⟨rfl,I.turned (t':=s.toks) (fun b o hb e=>eb b o hb e) f0 f1 f3 f4 f5⟩
 self:=fun _ _ _ _ _ st h=>wpAny_pyIter_rangeiter st h
end L2
namespace L2
open PySem PySem.Spec PyProof.Rows
section
variable {X:Cx}{tg:Expr}
def WM (K:AA) (tl:TE):TI:=fun σ H R=>tl σ H fun x H1=>∃a,x=.ref a∧(∃xs,SqL K H1 a xs)∧R (Itl K a) H1
theorem D7 {l:Expr}{tl:TE} (hl:PE X l tl):PI X tg l (WM X.K tl):=by
 intro pins s σ H R I h
 refine thn (hl pins s σ H _ I h) fun v s1 ⟨x,H1,I1,r1,q1⟩=>?_
 obtain⟨a,e,⟨xs,hq⟩,q⟩:=q1
 subst e
 cases r1
 obtain⟨its,rv,p,hz⟩:=I1.list hq
 refine Uu p.isList ?_
 refine⟨s1.heap.objs.size,[s1.heap.objs.size],_,_,H1,rfl,I1.kept (t':=s1.toks) fun b o e=>BE _ e,Za a _,⟨_,BQ _ rfl,rfl,rfl⟩,fun b hb=>?_,q⟩
 have e:b=s1.heap.objs.size:=by simpa using hb
 subst e
 exact I1.fpOk (AV _) (I1.hok.fresh (AV _))
theorem X6 {pins:List (Addr×Obj)}{σ:St}{H:Hp}{s:Shared}{R:It→Hp→Prop}{E:Value→Shared→Prop}{lo hi:Int}{t u v:Tok}{tk:Nat} (I:Inv X pins σ H s) (h1:-(2 ^ 62)≤lo) (h2:lo < 2 ^ 62) (h3:-(2 ^ 62)≤hi) (h4:hi < 2 ^ 62)
  (q:R (Itr lo (hi - lo).toNat) H):wpAny (model X.prog X.w) X.A (pyIter (.ref s.heap.objs.size)) (PIE X pins σ tg R) E { s with heap:=s.heap.push { cls:=.type "range",data:=.fields #[.int lo t,.int hi u,.int 1 v] },toks:=tk }:=by
 refine wpAny_pyIter_range (IsRange.new ..) (small_one h1 h2 h3 h4) ?_
 have I1:Inv X pins σ H { s with heap:=s.heap.push { cls:=.type "range",data:=.fields #[.int lo t,.int hi u,.int 1 v] },toks:=tk }:=I.kept fun b o e=>BE _ e
 refine⟨(s.heap.push { cls:=.type "range",data:=.fields #[.int lo t,.int hi u,.int 1 v] }).objs.size,[(s.heap.push { cls:=.type "range",data:=.fields #[.int lo t,.int hi u,.int 1 v] }).objs.size],_,_,H,rfl,
  I1.kept (t':=tk) fun b o e=>BE _ e,Zb _ lo (hi - lo).toNat,?_,fun b hb=>?_,q⟩
 ·have e1:lo+((0:Nat):Int) * 1=lo:=by simp
  have e2:(((hi - lo).toNat:Nat):Int) - ((0:Nat):Int)=Builtin.Range.rangeSize lo hi 1:=by rw[rangeSize_one];split <;> omega
  show IsRangeIter _ _ (lo+((0:Nat):Int) * 1) ((((hi - lo).toNat:Nat):Int) - ((0:Nat):Int)) 1
  rw[e1,e2]
  exact BQ _ rfl
 ·have e:b=(s.heap.push { cls:=.type "range",data:=.fields #[.int lo t,.int hi u,.int 1 v] }).objs.size:=by simpa using hb
  subst e
  exact I1.fpOk (AV _) (I1.hok.fresh (AV _))
def WO (ta:TA):TI:=fun σ H R=>ta σ H fun vs H1=>∃j:Int,vs=[.int j]∧-(2 ^ 62)≤j∧j < 2 ^ 62∧R (Itr 0 j.toNat) H1
theorem Xk {a:Expr}{ta:TA}{p pos:Pos} (hg:Gl X "range") (hm:X.mg "range"=none) (ha:PA X [a] ta) (hs:starEach [a] X.env=[(false,eval a X.env)]:=by rfl):PI X tg (.Call (.Name "range" p) [a] [] pos) (WO ta):=by
 intro pins s σ H R I h
 refine Call_ (Fv I hg hm boot_range (Hn (thn (ha pos pins s σ H _ I h) fun us s1 ⟨vs,H1,I1,r1,q1⟩=>?_) hs rfl))
 obtain⟨j,e,q1,q2,q⟩:=q1
 subst e
 cases r1 with
 | cons r rr =>
  cases rr
  obtain⟨t,rfl⟩:=r
  exact call_range_1 (X6 I1 (by omega) (by omega) q1 q2 (by simpa using q))
def ZH (wi:TI) (g:TG) (tb:TS):TS:=fun D σ H=>wi σ H fun J H1=>∃W:Nat→Nat→St→Hp→Prop,(∃m,W 0 m σ H1)∧∀i m σ H,W i m σ H→
 (J.stop i H∧D.nx σ H)∨(J.go i H∧∃N:St→Hp→Prop,(∀σ' H',N σ' H'→∃m',m' < m∧W (i+1) m' σ' H')∧∀x H',J.yld i H x H'→g x σ H' fun σ2 H2=>tb { D with nx:=N,ct:=N,bk:=D.nx } σ2 H2)
def HK (fp:List Addr) (h:Heap):List (Addr×Obj):=fp.filterMap fun b=>(h.get? b).map fun o=>(b,o)
theorem LD {fp:List Addr}{h:Heap}{b:Addr}{o:Obj} (hb:b∈fp) (e:h.get? b=some o):(b,o)∈HK fp h:=To.mpr ⟨b,hb,by rw[e];rfl⟩
theorem XH {fp:List Addr}{h:Heap}{p:Addr×Obj} (hp:p∈HK fp h):p.1∈fp∧h.get? p.1=some p.2:=by
 obtain⟨b,hb,e⟩:=To.mp hp
 cases q:h.get? b with
 | none=>rw[q] at e;cases e
 | some o =>
  rw[q] at e
  have e':(b,o)=p:=Ae e
  subst e'
  exact⟨hb,q⟩
theorem Inv.pinned {pins:List (Addr×Obj)}{σ:St}{H:Hp}{s:Shared}{fp:List Addr} (I:Inv X pins σ H s) (hf:∀b∈fp,DN X pins H b) (ho:∀b∈fp,∃o,s.heap.get? b=some o∧∀v,o.data≠.cell v):Inv X (pins++HK fp s.heap) σ H s :=
 I.pins_of fun p hp=>(C8.mp hp).elim (fun z=>I.pin p (EF _ z)) fun z=>by
  obtain⟨hb,e⟩:=XH z
  obtain⟨f0,f1,f2,_⟩:=hf p.1 hb
  obtain⟨o,e',d⟩:=ho p.1 hb
  rw[e] at e';cases e'
  exact⟨e,f0,f1,f2,d⟩
theorem Inv.unpinned {pins pl:List (Addr×Obj)}{σ:St}{H:Hp}{s:Shared} (I:Inv X (pins++pl) σ H s):Inv X pins σ H s:=I.pins_of fun p hp=>I.pin p (EF _ (Hg _ hp))
theorem FA {iter:Expr}{body:List Stmt}{wi:TI}{g:TG}{tb:TS}{pos:Pos} (hp:PassesOwn (model X.prog X.w) X.A X.env X.xe) (hc:X.calm=true) (hi:PI X tg iter wi) (hg:PG X tg g) (hb:PSs X body tb)
  (hs:∀x,foldedSetIterable iter X.env x=pure x:=by intro _;rfl):PS X (.For tg iter body [] pos) (ZH wi g tb):=by
 intro pins s σ H D I h
 refine wpAny_For (thn (hi pins s σ H _ I h) fun v s1 h1=>thn h1 fun itv s2 h2=>?_) hs
 obtain⟨it,fp,tn,J,H2,e,I2,T,st2,f2,W,⟨m0,w0⟩,turn⟩:=h2
 subst e
 have stat:∀{H':Hp},(∀b∈fp,H' b=none)→∀b∈fp,DN X pins H' b:=fun hn b hb=>⟨hn b hb,(f2 b hb).2⟩
 refine codeAny_forLoop_any (fun n s'=>∃i σ' H',Inv X pins σ' H' s'∧tn i s'.heap∧(∀b∈fp,H' b=none)∧W i n σ' H') ?_ m0 ⟨0,σ,H2,I2,st2,fun b hb=>(f2 b hb).1,w0⟩
 rintro n s3 ⟨i,σ3,H3,I3,st3,fr3,w3⟩
 rcases turn i n σ3 H3 w3 with ⟨stop,qn⟩ | ⟨go,N,hN,step⟩
 ·refine Ht hp (thn (T.done X rfl rfl rfl hc i pins s3 σ3 H3 X.xe I3 (stat fr3) st3 stop) fun r s4 ⟨hr,I4⟩=>?_)
  subst hr
  exact NV ⟨σ3,H3,I4,qn⟩
 ·refine Ht hp (thn (T.item X rfl rfl rfl hc i pins s3 σ3 H3 X.xe I3 (stat fr3) st3 go) fun r s4 ⟨u,hr,h4⟩=>?_)
  subst hr
  refine Ht hp (thn h4 fun _ s5 ⟨x,H5,I5,r5,y5,st5,fr5⟩=>?_)
  have I5':=I5.pinned (stat fr5) (T.obj _ _ st5)
  refine Ht hp (thn (hg _ s5 σ3 H5 x u _ I5' r5 (step x H5 y5)) fun _ s6 ⟨σ6,H6,I6,q6⟩=>?_)
  refine Ht hp (thn (hb _ s6 σ6 H6 _ I6 q6) fun f s7 q7=>?_)
  have again:∀{σ7:St} {H7:Hp},Inv X (pins++HK fp s5.heap) σ7 H7 s7→N σ7 H7→∃m,m < n∧∃i σ' H',Inv X pins σ' H' s7∧tn i s7.heap∧(∀b∈fp,H' b=none)∧W i m σ' H':=fun {σ7 H7} I7 n7=>by
   obtain⟨m',hm,w7⟩:=hN σ7 H7 n7
   refine⟨m',hm,i+1,σ7,H7,I7.unpinned,T.keep _ _ _ st5 fun b hb o e=>(I7.pin (b,o) (EF _ (EF _ (LD hb e)))).1,fun b hb=>?_,w7⟩
   obtain⟨o,e,d⟩:=T.obj _ _ st5 b hb
   exact(I7.pin (b,o) (EF _ (EF _ (LD hb e)))).2.1
  cases f with
  | next=>obtain⟨σ7,H7,I7,n7⟩:=q7;exact again I7 n7
  | cont=>obtain⟨σ7,H7,I7,n7⟩:=q7;exact again I7 n7
  | brk=>obtain⟨σ7,H7,I7,q7⟩:=q7;exact⟨σ7,H7,I7.unpinned,q7⟩
  | ret v=>obtain⟨x7,σ7,H7,I7,r7,q7⟩:=q7;exact⟨x7,σ7,H7,I7.unpinned,r7,q7⟩
end
theorem Od {K:AA}{a:Addr}{xs:List V}{g:TG}{tb:TS}{D:Es}{σ:St}{H:Hp} (Pv:Nat→St→Hp→Prop) (h0:Pv 0 σ H) (hl:∀i σ H,i≤xs.length→Pv i σ H→SqL K H a xs)
  (hs:∀i x σ H,xs[i]?=some x→Pv i σ H→g x σ H fun σ2 H2=>tb { D with nx:=Pv (i+1),ct:=Pv (i+1),bk:=D.nx } σ2 H2) (hd:∀σ H,Pv xs.length σ H→D.nx σ H):
  ∃W:Nat→Nat→St→Hp→Prop,(∃m,W 0 m σ H)∧∀i m σ H,W i m σ H→
   ((Itl K a).stop i H∧D.nx σ H)∨((Itl K a).go i H∧∃N:St→Hp→Prop,(∀σ' H',N σ' H'→∃m',m' < m∧W (i+1) m' σ' H')∧∀x H',(Itl K a).yld i H x H'→g x σ H' fun σ2 H2=>tb { D with nx:=N,ct:=N,bk:=D.nx } σ2 H2):=by
 refine⟨fun i m σ H=>m=xs.length - i∧i≤xs.length∧Pv i σ H,⟨xs.length,by simp,A5 _,h0⟩,?_⟩
 rintro i m σ H ⟨rfl,hi,p⟩
 have q:=hl i σ H hi p
 by_cases hlt:i < xs.length
 ·refine .inr ⟨⟨xs,xs[i],q,by simp[hlt]⟩,Pv (i+1),fun σ' H' p'=>⟨xs.length - (i+1),by omega,rfl,hlt,p'⟩,fun x H' y=>?_⟩
  obtain⟨e,y⟩:=y
  subst e
  exact hs i x σ _ (y xs q) p
 ·have e:i=xs.length:=by omega
  subst e
  exact .inl ⟨⟨xs,q,AV _⟩,hd σ H p⟩
end L2
namespace L2
open PySem PySem.Spec PyProof.Rows
abbrev R2:=V→V→Hp→VK→Prop
def OpR (X:Cx) (f:Value→Value→Sem Value) (r:R2):Prop :=
 ∀(pins:List (Addr×Obj)) (s:Shared) (σ:St) (H:Hp) (x y:V) (v u:Value) (Q:VK),Inv X pins σ H s→RelV x v→RelV y u→r x y H Q→
  wpAny (model X.prog X.w) X.A (f v u) (EP X pins σ Q) X.xe s
def UnR (X:Cx) (f:Value→Sem Value) (r:V→Hp→VK→Prop):Prop :=
 ∀(pins:List (Addr×Obj)) (s:Shared) (σ:St) (H:Hp) (x:V) (v:Value) (Q:VK),Inv X pins σ H s→RelV x v→r x H Q→
  wpAny (model X.prog X.w) X.A (f v) (EP X pins σ Q) X.xe s
def Dy (X:Cx) (f:Value) (r:List V→Hp→VK→Prop):Prop :=
 ∀(pins:List (Addr×Obj)) (s:Shared) (σ:St) (H:Hp) (xs:List V) (us:List Value) (Q:VK),Inv X pins σ H s→Vals xs us→r xs H Q→
  wpAny (model X.prog X.w) X.A (call f us) (EP X pins σ Q) X.xe s
def tOp (r:R2) (ta tb:TE):TE:=fun σ H Q=>ta σ H fun x H1=>tb σ H1 fun y H2=>r x y H2 Q
def tUn (r:V→Hp→VK→Prop) (ta:TE):TE:=fun σ H Q=>ta σ H fun x H1=>r x H1 Q
def rI (C:Int→Int→Prop) (g:Int→Int→V):R2:=fun x y H Q=>∃i j,x=.int i∧y=.int j∧C i j∧Q (g i j) H
def rI0 (g:Int→Int→V):R2:=fun x y H Q=>∃i j,x=.int i∧y=.int j∧Q (g i j) H
def rU (g:Int→V):V→Hp→VK→Prop:=fun x H Q=>∃i,x=.int i∧Q (g i) H
section
variable {X:Cx}{a b c:Expr}{ta tb tc:TE}{pos:Pos}
theorem Ke (ha:PE X a ta) (hb:PE X b tb) {pins:List (Addr×Obj)}{s:Shared}{σ:St}{H:Hp}{R:V→V→Hp→Prop} (I:Inv X pins σ H s)
  (h:ta σ H fun x H1=>tb σ H1 fun y H2=>R x y H2) {Q:Value→Shared→Prop} {f:Value→Value→Sem Value}
  (hf:∀v u s2 x y H2,Inv X pins σ H2 s2→RelV x v→RelV y u→R x y H2→wpAny (model X.prog X.w) X.A (f v u) Q X.xe s2):
  wpAny (model X.prog X.w) X.A (eval a X.env) (fun v s₁=>wpAny (model X.prog X.w) X.A (eval b X.env) (fun u s₂=>wpAny (model X.prog X.w) X.A (f v u) Q X.xe s₂) X.xe s₁) X.xe s:=by
 refine thn (ha pins s σ H _ I h) fun v s1 ⟨x,H1,I1,r1,q1⟩=>?_
 refine thn (hb pins s1 σ H1 _ I1 q1) fun u s2 ⟨y,H2,I2,r2,q2⟩=>?_
 exact hf v u s2 x y H2 I2 r1 r2 q2
theorem D6 {op:Operator}{r:R2} (ho:OpR X (binaryOp op) r) (ha:PE X a ta) (hb:PE X b tb):PE X (.BinOp a op b pos) (tOp r ta tb):=by
 intro pins s σ H Q I h
 exact wpAny_BinOp (Ke ha hb I h fun v u s2 x y H2 I2 rx ry q=>ho pins s2 σ H2 x y v u Q I2 rx ry q)
theorem F5 {op:UnaryOp}{r:V→Hp→VK→Prop} (ho:UnR X (unaryOp op) r) (ha:PE X a ta):PE X (.UnaryOp op a pos) (tUn r ta):=by
 intro pins s σ H Q I h
 exact UnaryOp_ (thn (ha pins s σ H _ I h) fun v s1 ⟨x,H1,I1,r1,q1⟩=>ho pins s1 σ H1 x v Q I1 r1 q1)
theorem opI {f:Value→Value→Sem Value}{C:Int→Int→Prop}{g:Int→Int→Int}
  (rule:∀(i j:Int) (t u:Tok) (s:Shared) (Q:Value→Shared→Prop) (E:Value→Shared→Prop),C i j→Q (.int (g i j) s.toks) { s with toks:=s.toks+1 }→wpAny (model X.prog X.w) X.A (f (.int i t) (.int j u)) Q E s):
  OpR X f (rI C fun i j=>.int (g i j)):=by
 intro pins s σ H x y v u Q I rx ry h
 obtain⟨i,j,rfl,rfl,hc,q⟩:=h
 obtain⟨t,rfl⟩:=rx
 obtain⟨t',rfl⟩:=ry
 exact rule i j t t' s _ _ hc ⟨.int (g i j),H,I.tok _,⟨_,rfl⟩,q⟩
theorem P7 {f:Value→Value→Sem Value}{g:Int→Int→Int}
  (rule:∀(i j:Int) (t u:Tok) (s:Shared) (Q:Value→Shared→Prop) (E:Value→Shared→Prop),Q (.int (g i j) s.toks) { s with toks:=s.toks+1 }→wpAny (model X.prog X.w) X.A (f (.int i t) (.int j u)) Q E s):
  OpR X f (rI0 fun i j=>.int (g i j)):=by
 intro pins s σ H x y v u Q I rx ry h
 obtain⟨i,j,rfl,rfl,q⟩:=h
 obtain⟨t,rfl⟩:=rx
 obtain⟨t',rfl⟩:=ry
 exact rule i j t t' s _ _ ⟨.int (g i j),H,I.tok _,⟨_,rfl⟩,q⟩
theorem Iq {f:Value→Value→Sem Value}{g:Int→Int→Bool}
  (rule:∀(i j:Int) (t u:Tok) (s:Shared) (Q:Value→Shared→Prop) (E:Value→Shared→Prop),Q (.bool (g i j)) s→wpAny (model X.prog X.w) X.A (f (.int i t) (.int j u)) Q E s):
  OpR X f (rI0 fun i j=>.bl (g i j)):=by
 intro pins s σ H x y v u Q I rx ry h
 obtain⟨i,j,rfl,rfl,q⟩:=h
 obtain⟨t,rfl⟩:=rx
 obtain⟨t',rfl⟩:=ry
 exact rule i j t t' s _ _ ⟨.bl (g i j),H,I,rfl,q⟩
def CMul (i j:Int):Prop:=(-(2 ^ 64) < i∧i < 2 ^ 64)∨(-(2 ^ 64) < j∧j < 2 ^ 64)
theorem CMul.ok {i j:Int} (h:CMul i j):IntMulOk i j:=by
 rcases h with ⟨h1,h2⟩ | ⟨h1,h2⟩
 ·exact .of_left (intBits_le_64 h1 h2)
 ·exact .of_right (intBits_le_64 h1 h2)
theorem LP:OpR X (binaryOp .Add) (rI0 fun i j=>.int (i+j)):=P7 fun _ _ _ _ _ _ _ q=>add_int q
theorem LR:OpR X (binaryOp .Sub) (rI0 fun i j=>.int (i - j)):=P7 fun _ _ _ _ _ _ _ q=>sub_int q
theorem XS:OpR X (binaryOp .Mult) (rI CMul fun i j=>.int (i * j)):=opI fun _ _ _ _ _ _ _ hc q=>mul_int q hc.ok
theorem unI {f:Value→Sem Value}{g:Int→Int}
  (rule:∀(i:Int) (t:Tok) (s:Shared) (Q:Value→Shared→Prop) (E:Value→Shared→Prop),Q (.int (g i) s.toks) { s with toks:=s.toks+1 }→wpAny (model X.prog X.w) X.A (f (.int i t)) Q E s):
  UnR X f (rU fun i=>.int (g i)):=by
 intro pins s σ H x v Q I rx h
 obtain⟨i,rfl,q⟩:=h
 obtain⟨t,rfl⟩:=rx
 exact rule i t s _ _ ⟨.int (g i),H,I.tok _,⟨_,rfl⟩,q⟩
theorem GK:UnR X (unaryOp .USub) (rU fun i=>.int (-i)):=unI fun _ _ _ _ _ q=>neg_int q
end
def RO:V→V→Bool
 | .non,.non=>true | .non,.int _=>true | .int _,.non=>true | .non,.bl _=>true | .bl _,.non=>true | .non,.str _=>true | .str _,.non=>true
 | .int _,.int _=>true | .bl _,.bl _=>true | .str _,.str _=>true | .byt _,.byt _=>true
 | .int _,.str _=>true | .str _,.int _=>true | .bl _,.str _=>true | .str _,.bl _=>true
 | _,_=>false
def rEq:R2:=fun x y H Q=>RO x y=true∧Q (.bl (decide (x=y))) H
def rNe:R2:=fun x y H Q=>RO x y=true∧Q (.bl (!decide (x=y))) H
theorem OF {i j:Int}:decide (V.int i=V.int j)=(i==j):=by
 rw[C3]
 simp
theorem OD {i j:Bool}:decide (V.bl i=V.bl j)=(i==j):=by
 rw[C3]
 simp
theorem OG {i j:Str}:decide (V.str i=V.str j)=(i==j):=by
 rw[C3]
 simp
theorem OE {i j:Array UInt8}:decide (V.byt i=V.byt j)=(i.toList==j.toList):=by
 rw[C3]
 cases i
 cases j
 simp
section
variable {X:Cx}{a b c:Expr}{ta tb tc:TE}{pos:Pos}
theorem A7 {pins:List (Addr×Obj)}{σ:St}{H:Hp}{s:Shared}{Q:VK}{k k':Bool} (I:Inv X pins σ H s) (q:Q (.bl k) H) (e:k=k'):EP X pins σ Q (.bool k') s:=by
 subst e
 exact⟨.bl k,H,I,rfl,q⟩
theorem BY:OpR X (compareOp .Eq) rEq:=by
 intro pins s σ H x y v u Q I rx ry h
 obtain⟨hs,q⟩:=h
 cases x with
 | non =>
  cases rx
  cases y with
  | non=>cases ry;exact PySem.EqNone.eq_none_none (A7 I q (by simp))
  | bl j=>cases ry;exact PySem.EqNone.eq_none_bool (A7 I q (by simp))
  | int j=>obtain⟨t',rfl⟩:=ry;exact PySem.EqNone.eq_none_int (A7 I q (by simp))
  | str j=>obtain⟨t',rfl⟩:=ry;exact PySem.EqNone.eq_none_str (A7 I q (by simp))
  | _=>exact absurd (show false=true from hs) Ag
 | bl i =>
  cases rx
  cases y with
  | non=>cases ry;exact PySem.EqNone.eq_bool_none (A7 I q (by simp))
  | bl j=>cases ry;exact eq_bool (A7 I q OD)
  | str j=>obtain⟨t',rfl⟩:=ry;exact PySem.EqMixed.eq_bool_str (A7 I q (by simp))
  | _=>exact absurd (show false=true from hs) Ag
 | int i =>
  obtain⟨t,rfl⟩:=rx
  cases y with
  | non=>cases ry;exact PySem.EqNone.eq_int_none (A7 I q (by simp))
  | int j=>obtain⟨t',rfl⟩:=ry;exact eq_int (A7 I q OF)
  | str j=>obtain⟨t',rfl⟩:=ry;exact PySem.EqMixed.eq_int_str (A7 I q (by simp))
  | _=>exact absurd (show false=true from hs) Ag
 | str i =>
  obtain⟨t,rfl⟩:=rx
  cases y with
  | non=>cases ry;exact PySem.EqNone.eq_str_none (A7 I q (by simp))
  | bl j=>cases ry;exact PySem.EqMixed.eq_str_bool (A7 I q (by simp))
  | int j=>obtain⟨t',rfl⟩:=ry;exact PySem.EqMixed.eq_str_int (A7 I q (by simp))
  | str j=>obtain⟨t',rfl⟩:=ry;exact eq_str (A7 I q OG)
  | _=>exact absurd (show false=true from hs) Ag
 | byt i =>
  obtain⟨t,rfl⟩:=rx
  cases y with
  | byt j=>obtain⟨t',rfl⟩:=ry;exact PySem.W.eq_bytes (A7 I q OE)
  | _=>exact absurd (show false=true from hs) Ag
 | _=>cases y <;> exact absurd (show false=true from hs) Ag
theorem Iu:OpR X (compareOp .NotEq) rNe:=by
 intro pins s σ H x y v u Q I rx ry h
 obtain⟨hs,q⟩:=h
 cases x with
 | non =>
  cases rx
  cases y with
  | non=>cases ry;exact PySem.EqNone.ne_none_none (A7 I q (by simp))
  | bl j=>cases ry;exact PySem.EqNone.ne_none_bool (A7 I q (by simp))
  | int j=>obtain⟨t',rfl⟩:=ry;exact PySem.EqNone.ne_none_int (A7 I q (by simp))
  | str j=>obtain⟨t',rfl⟩:=ry;exact PySem.EqNone.ne_none_str (A7 I q (by simp))
  | _=>exact absurd (show false=true from hs) Ag
 | bl i =>
  cases rx
  cases y with
  | non=>cases ry;exact PySem.EqNone.ne_bool_none (A7 I q (by simp))
  | bl j=>cases ry;exact ne_bool (A7 I q (congrArg not OD))
  | str j=>obtain⟨t',rfl⟩:=ry;exact PySem.EqMixed.ne_bool_str (A7 I q (by simp))
  | _=>exact absurd (show false=true from hs) Ag
 | int i =>
  obtain⟨t,rfl⟩:=rx
  cases y with
  | non=>cases ry;exact PySem.EqNone.ne_int_none (A7 I q (by simp))
  | int j=>obtain⟨t',rfl⟩:=ry;exact ne_int (A7 I q (congrArg not OF))
  | str j=>obtain⟨t',rfl⟩:=ry;exact PySem.EqMixed.ne_int_str (A7 I q (by simp))
  | _=>exact absurd (show false=true from hs) Ag
 | str i =>
  obtain⟨t,rfl⟩:=rx
  cases y with
  | non=>cases ry;exact PySem.EqNone.ne_str_none (A7 I q (by simp))
  | bl j=>cases ry;exact PySem.EqMixed.ne_str_bool (A7 I q (by simp))
  | int j=>obtain⟨t',rfl⟩:=ry;exact PySem.EqMixed.ne_str_int (A7 I q (by simp))
  | str j=>obtain⟨t',rfl⟩:=ry;exact ne_str (A7 I q (congrArg not OG))
  | _=>exact absurd (show false=true from hs) Ag
 | byt i =>
  obtain⟨t,rfl⟩:=rx
  cases y with
  | byt j=>obtain⟨t',rfl⟩:=ry;exact PySem.W.ne_bytes (A7 I q (congrArg not OE))
  | _=>exact absurd (show false=true from hs) Ag
 | _=>cases y <;> exact absurd (show false=true from hs) Ag
theorem Ir:OpR X (compareOp .Lt) (rI0 fun i j=>.bl (decide (i < j))):=Iq fun _ _ _ _ _ _ _ q=>lt_int q
theorem CZ:OpR X (compareOp .LtE) (rI0 fun i j=>.bl (decide (i≤j))):=Iq fun _ _ _ _ _ _ _ q=>le_int q
theorem F1:OpR X (compareOp .Gt) (rI0 fun i j=>.bl (decide (j < i))):=Iq fun _ _ _ _ _ _ _ q=>gt_int q
theorem XO:OpR X (compareOp .GtE) (rI0 fun i j=>.bl (decide (j≤i))):=Iq fun _ _ _ _ _ _ _ q=>ge_int q
theorem LQ:OpR X (compareOp .Is) (fun x y H Q=>y=.non∧Q (.bl (decide (x=.non))) H):=by
 intro pins s σ H x y v u Q I rx ry h
 obtain⟨rfl,q⟩:=h
 cases ry
 refine is_none_gen (A7 I q ?_)
 cases x <;> first
  | (cases rx;rfl)
  | (obtain⟨t,rfl⟩:=rx;rfl)
theorem AR (b:Expr) {op:CmpOp} (h:op≠.In:=by decide) (h2:op≠.NotIn:=by decide):behindInMarks op b=false:=by
 have e1:(op==CmpOp.In)=false:=by cases op <;> first | rfl | exact absurd rfl h
 have e2:(op==CmpOp.NotIn)=false:=by cases op <;> first | rfl | exact absurd rfl h2
 cases b <;> simp[behindInMarks,e1,e2]
theorem Cw {op:CmpOp}{r:R2} (ho:OpR X (compareOp op) r) (ha:PE X a ta) (hb:PE X b tb) (hm:behindInMarks op b=false):PE X (.Compare a [op] [b] pos) (tOp r ta tb):=by
 intro pins s σ H Q I h
 exact wpAny_Compare1 (Ke ha hb I h fun v u s2 x y H2 I2 rx ry q=>ho pins s2 σ H2 x y v u Q I2 rx ry q) hm
def MF (t:TE):TT:=fun σ H Q=>t σ H fun x H'=>∃k,x=.bl k∧Q k H'
theorem Ac {op:CmpOp}{r:R2} (ho:OpR X (compareOp op) r) (ha:PE X a ta) (hb:PE X b tb) (hm:behindInMarks op b=false):PT X (.Compare a [op] [b] pos) (MF (tOp r ta tb)):=by
 intro pins s σ H Q I h
 refine Us (thn (ha pins s σ H _ I h) fun v s1 ⟨x,H1,I1,r1,q1⟩=>thn (hb pins s1 σ H1 _ I1 q1) fun u s2 ⟨y,H2,I2,r2,q2⟩ =>
  thn (ho pins s2 σ H2 x y v u _ I2 r1 r2 q2) fun c s3 ⟨z,H3,I3,r3,k,e,q3⟩=>?_) hm
 subst e
 cases r3
 exact EK ⟨H3,I3,q3⟩
def MA (r r':R2) (ta tb tc:TE):TE:=fun σ H Q=>ta σ H fun x H1=>tb σ H1 fun y H2=>r x y H2 fun z H3=>∃k,z=.bl k∧
 (if k=true then tc σ H3 fun w' H4=>r' y w' H4 Q else Q (.bl false) H3)
theorem HH {op op':CmpOp}{r r':R2} (ho:OpR X (compareOp op) r) (ho':OpR X (compareOp op') r') (ha:PE X a ta) (hb:PE X b tb) (hc:PE X c tc)
  (hm:lastMarks [op,op'] [b,c]=false:=by with_unfolding_all rfl):PE X (.Compare a [op,op'] [b,c] pos) (MA r r' ta tb tc):=by
 intro pins s σ H Q I h
 refine Compare_chain (thn (ha pins s σ H _ I h) fun v s1 ⟨x,H1,I1,r1,q1⟩=>chain_link (thn (hb pins s1 σ H1 _ I1 q1) fun u s2 ⟨y,H2,I2,r2,q2⟩ =>
  thn (ho pins s2 σ H2 x y v u _ I2 r1 r2 q2) fun d s3 ⟨z,H3,I3,r3,k,e,q3⟩=>?_)) hm
 subst e
 cases r3
 refine EK ?_
 cases k with
 | false=>exact ite_ff ⟨.bl false,H3,I3,rfl,q3⟩
 | true=>exact ite_tt (chain_last (thn (hc pins s3 σ H3 _ I3 q3) fun w' s4 ⟨z',H4,I4,r4,q4⟩=>ho' pins s4 σ H4 y z' u w' Q I4 r2 r4 q4))
theorem Xo {op op':CmpOp}{r r':R2} (ho:OpR X (compareOp op) r) (ho':OpR X (compareOp op') r') (ha:PE X a ta) (hb:PE X b tb) (hc:PE X c tc)
  (hm:lastMarks [op,op'] [b,c]=false:=by with_unfolding_all rfl):PT X (.Compare a [op,op'] [b,c] pos) (MF (MA r r' ta tb tc)):=by
 intro pins s σ H Q I h
 refine isTrue_chain (thn (ha pins s σ H _ I h) fun v s1 ⟨x,H1,I1,r1,q1⟩=>test_link (thn (hb pins s1 σ H1 _ I1 q1) fun u s2 ⟨y,H2,I2,r2,q2⟩ =>
  thn (ho pins s2 σ H2 x y v u _ I2 r1 r2 q2) fun d s3 ⟨z,H3,I3,r3,k,e,q3⟩=>?_)) hm
 subst e
 cases r3
 refine EK ?_
 cases k with
 | false =>
  obtain⟨k',e',q'⟩:=q3
  cases e'
  exact ite_ff ⟨H3,I3,q'⟩
 | true =>
  refine ite_tt (test_last (thn (hc pins s3 σ H3 _ I3 q3) fun w' s4 ⟨z',H4,I4,r4,q4⟩=>thn (ho' pins s4 σ H4 y z' u w' _ I4 r2 r4 q4) fun d' s5 ⟨z2,H5,I5,r5,k2,e2,q5⟩=>?_))
  subst e2
  cases r5
  exact EK ⟨H5,I5,q5⟩
theorem Pe:(sizeLine:Nat) < 2 ^ 63:=by rw[KG];decide
theorem HU {x:V}{us:List Value} (r:Vals [x] us):∃u,us=[u]∧RelV x u:=by
 cases r with
 | cons r1 r2=>cases r2;exact⟨_,rfl,r1⟩
theorem Fi:Dy X (.builtin "ord") (fun xs H Q=>∃x,xs=[.str x]∧x.length=1∧Q (.int (x.cps.getD 0 0:Nat)) H):=by
 intro pins s σ H xs us Q I r h
 obtain⟨x,rfl,hz,q⟩:=h
 obtain⟨u,rfl,t,rfl⟩:=HU r
 exact ord_of_one hz ⟨.int _,H,I.tok _,⟨_,rfl⟩,q⟩
end
end L2
namespace L2
open PySem PySem.Spec PyProof.Rows
structure ObjM (h:Heap) (x dx C:Addr) (mA:Str→Option Value):Prop where
 obj:h.get? x=some (Eo C dx)
 ns:h.Ns1 dx mA
 ne:dx≠x
theorem Ws {h:Heap}{dx:Addr}{mA:Str→Option Value} (n:h.Ns1 dx mA):∃od,h.get? dx=some od∧∀name,NK name od=some (mA name):=by
 obtain⟨o,es,ep,ho,hd,hk,_,hm⟩:=n
 refine⟨o,ho,fun name=>?_⟩
 have e:=hm name
 unfold nsFind findBy at e
 rw[← Array.find?_toList] at e
 unfold NK
 rw[hd]
 dsimp only
 split
 ·rename_i y q
  rw[q] at e
  exact congrArg some e
 ·rename_i q
  rw[q] at e
  have a:es.toList.any (·.refKey)=false:=by
   rw[DY]
   intro y hy
   obtain⟨z,t,hkey⟩:=hk y (Array.mem_toList_iff.mp hy)
   simp[DictEntry.refKey,hkey]
  have a':¬es.toList.any (·.refKey)=true:=by rw[a];exact Ag
  rw[if_neg a']
  exact congrArg some e
theorem ObjM.look {h:Heap}{x dx C:Addr}{mA:Str→Option Value} (I:ObjM h x dx C mA):∃od,PySem.W.InstAt h x (Eo C dx) C (some od)∧∀name,NK name od=some (mA name) :=
 let ⟨od,ho,hl⟩:=Ws I.ns
 ⟨od,⟨I.obj,rfl,rfl,ho⟩,hl⟩
section
variable {prog:Program}{w:World}{A:Around}{E:Value→Shared→Prop}{s:Shared}{K:AA}{x dx C f:Addr}{mA:Str→Option Value}{name:Str}{v:Value}
theorem WB {expr:Bool}{Q:Value→Shared→Prop} (X:K.In s.heap) (I:ObjM s.heap x dx C mA) (hg:NM K C name=true) (hh:NJ K C=true)
  (ha:FW K (.ref C) name=some none) (hv:mA name=some v) (hv':Ue v=true) (h:Q v { s with toks:=s.toks+1 }):
  wpAny (model prog w) A (getAttr (.ref x) name expr) Q E s:=by
 obtain⟨od,J,hl⟩:=I.look
 exact PySem.W.get_value X J (PySem.W.plainGet_of hg).1 (PySem.W.findObj_own hh ha rfl (by rw[hl,hv])) hv' h
theorem Yh {ns:List Str}{Q:Unit→Shared→Prop} (X:K.In s.heap) (I:ObjM s.heap x dx C mA)
  (hs:FW K (.ref C) "__setattr__"=some (some (.builtin "object.__setattr__"))) (hp:Ui K C=true) (ht:NQ K C name=some none) (hh:NJ K C=true)
  (hw:KA mA ns) (hsz:ns.length≤sizeLine)
  (h:∀h',ObjM h' x dx C (fun y=>if y=name then some v else mA y)→Gg dx s.heap h'→Q () { s with heap:=h',toks:=s.toks+2 }):
  wpAny (model prog w) A (setAttr (.ref x) name v) Q E s:=by
 obtain⟨od,J,hl⟩:=I.look
 refine PySem.W.set_plain X J hs (PySem.W.osa_open (s:={ s with toks:=s.toks+1 }) (r:=none) X J hp ht fun b=>?_)
 obtain⟨cd,hc,hd'⟩:=PySem.W.any_some hh
 have hx:s.heap.get? x=some ⟨.ref C,some dx,.plain,#[]⟩:=I.obj
 refine AF (AQ (AF (AF (wpAny_loadPart hx (AF (PySem.W.Looks.here (s:={ s with toks:=s.toks+1 }) (PySem.W.looks_clsIn X hc) ?_))))))
 rw[hd']
 refine AQ (a:=some dx) (AF (AQ (AF ?_)))
 refine wpAny_nsSet1 (s:={ s with toks:=s.toks+1 }) I.ns fun h' hn2 hs2=>?_
 obtain⟨oD,esD,epD,hoD,hdD,hcD⟩:=hn2.count (KA.cons name v hw)
 refine AF (wpAny_lookBehind hoD (by rw[hdD];exact pastItsLine_dict (Ba hcD (by rw[B1];omega))) ?_)
 exact AQ (h _ ⟨(hs2.2 _ (An I.ne)).trans I.obj,hn2,I.ne⟩ hs2)
theorem Wy {R:Result→Shared→Prop}{vs:List Value}{kw:List (Str×Value)} (X:K.In s.heap) (hm:Uh K C=true)
  (hi:FW K (.ref C) "__init__"=some (some (.ref f))) (hf:PySem.W.typeIn K (.ref f)=some (.type "function"))
  (h:codeAny (model prog w) (A.under (.builtin "type.__call__" ⟨.ref C::vs,kw⟩)) (.call (.ref f) ⟨.ref (s.heap.objs.size+1)::vs,kw⟩) (PySem.W.InitBack (s.heap.objs.size+1) R)
   { s with heap:=(s.heap.push EJ).push (Eo C s.heap.objs.size) }):
  codeAny (model prog w) A (.call (.ref C) ⟨vs,kw⟩) R s:=by
 obtain⟨hh,g,d,t,os⟩:=s
 exact PySem.W.make_core (PySem.W.makes_of X hm) (PySem.W.looks_findIn X hi) (fun self=>PySem.W.bind_fn X self hf) (.inl rfl) h
end
def A9 (f:Str) (v:V):List (Str×V)→List (Str×V)
 | []=>[(f,v)]
 | (g,x)::r=>if g=f then (g,v)::r else (g,x)::A9 f v r
theorem Pj (f g:Str) (v:V):∀fs:List (Str×V),(A9 f v fs).lookup g=if g=f then some v else fs.lookup g
 | []=>by
  show Ek g [(f,v)]=_
  by_cases h:g=f
  ·have hb:(g==f)=true:=beq_iff_eq.mpr h
   simp only[Ek,hb,if_pos h]
  ·have hb:(g==f)=false:=beq_eq_false_iff_ne.mpr h
   simp only[Ek,hb,if_neg h]
 | (k,x)::r=>by
  have ih:=Pj f g v r
  rw[show A9 f v ((k,x)::r)=(if k=f then (k,v)::r else (k,x)::A9 f v r) from rfl]
  by_cases hk:k=f
  ·rw[if_pos hk]
   by_cases h:g=k
   ·have hb:(g==k)=true:=beq_iff_eq.mpr h
    simp only[Ek,hb,if_pos (h.trans hk)]
   ·have hb:(g==k)=false:=beq_eq_false_iff_ne.mpr h
    simp only[Ek,hb,if_neg (fun e:g=f=>h (e.trans hk.symm))]
  ·rw[if_neg hk]
   by_cases h:g=k
   ·have hb:(g==k)=true:=beq_iff_eq.mpr h
    simp only[Ek,hb,if_neg (fun e:g=f=>hk (h.symm.trans e))]
   ·have hb:(g==k)=false:=beq_eq_false_iff_ne.mpr h
    simp only[Ek,hb]
    exact ih
theorem K3 (f:Str) (v:V):∀fs:List (Str×V),f∈(A9 f v fs).map (·.1)∧∀g,g∈fs.map (·.1)→g∈(A9 f v fs).map (·.1)
 | []=>⟨by simp[A9],fun g h=>by simp at h⟩
 | (k,x)::r=>by
  obtain⟨i1,i2⟩:=K3 f v r
  rw[show A9 f v ((k,x)::r)=(if k=f then (k,v)::r else (k,x)::A9 f v r) from rfl]
  by_cases hk:k=f
  ·rw[if_pos hk]
   subst hk
   exact⟨by simp,fun g h=>by simpa using h⟩
  ·rw[if_neg hk]
   refine⟨?_,fun g h=>?_⟩
   ·rw[Au]
    exact As _ i1
   ·rw[Au] at h ⊢
    rcases AS.mp h with e | e
    ·exact AS.mpr (.inl e)
    ·exact As _ (i2 g e)
theorem PZ (f:Str) (v:V):∀fs:List (Str×V),(A9 f v fs).length≤fs.length+1
 | []=>by simp[A9]
 | (k,x)::r=>by
  have ih:=PZ f v r
  rw[show A9 f v ((k,x)::r)=(if k=f then (k,v)::r else (k,x)::A9 f v r) from rfl]
  by_cases hk:k=f
  ·rw[if_pos hk,B1,B1];omega
  ·rw[if_neg hk,B1,B1];omega
theorem RelO.some_of {v:V}{o:Option Value} (r:RelO (some v) o):∃u,o=some u∧RelV v u:=by
 cases o with
 | none=>exact(show False from r).elim
 | some u=>exact⟨u,rfl,r⟩
theorem WG {v:V}{u:Value} (r:RelV v u):Ue u=true:=by
 cases v with
 | non=>cases (show u=DA from r);rfl
 | bl b=>cases (show u=DM b from r);rfl
 | int i=>obtain⟨t,e⟩:=(show ∃t,u=J8 i t from r);cases e;rfl
 | str x=>obtain⟨t,e⟩:=(show ∃t,u=J9 x t from r);cases e;rfl
 | byt b=>obtain⟨t,e⟩:=(show ∃t,u=Value.bytes b t from r);cases e;rfl
 | flt b=>obtain⟨t,e⟩:=(show ∃t,u=Value.float b t from r);cases e;rfl
 | ref a=>cases (show u=Az a from r);rfl
 | ty n=>cases (show u=Dx n from r);rfl
section
variable {P:Program}{w:World}{H H':Hp}{h h':Heap}{a C dx:Addr}{fs fs':List (Str×V)}
theorem O7 (hok:HOk P w H h) (e:H a=some (.ins C dx fs)):∃mA,ObjM h a dx C mA∧(∀f,RelO (fs.lookup f) (mA f))∧KA mA (fs.map (·.1))∧fs.length≤1000∧H dx=some (.own a):=by
 obtain⟨d,z,ne,ob,mA,n,r,q⟩:=(show ObjOk P w H h a (.ins C dx fs) from hok a _ e)
 exact⟨mA,⟨ob,n,ne⟩,r,q,z,d⟩
end
structure Cls (K:AA) (C:Addr):Prop where
 pg:NM K C NF=true
 hd:NJ K C=true
 po:Ui K C=true
 sa:FW K (.ref C) "__setattr__"=some (some (.builtin "object.__setattr__"))
theorem Cls.get {K:AA}{C:Addr} (c:Cls K C) (f:Str):NM K C f=true:=c.pg
def NoAttr (K:AA) (C:Addr) (f:Str):Prop:=FW K (.ref C) f=some none
theorem NoAttr.taker {K:AA}{C:Addr}{f:Str} (n:NoAttr K C f):NQ K C f=some none:=by
 unfold NQ
 rw[show FW K (.ref C) f=some none from n]
 rfl
section
variable {X:Cx}{pins:List (Addr×Obj)}{σ:St}{H:Hp}{s:Shared}{a C dx:Addr}{fs:List (Str×V)}{f:Str}{v:V}{A:Around}{E:Value→Shared→Prop}
theorem WC {b:Bool}{Q:Value→Shared→Prop} (I:Inv X pins σ H s) (e:H a=some (.ins C dx fs)) (c:Cls X.K C) (n:NoAttr X.K C f) (l:fs.lookup f=some v)
  (h:∀u s',Inv X pins σ H s'→RelV v u→Q u s'):wpAny (model X.prog X.w) A (getAttr (.ref a) f b) Q E s:=by
 obtain⟨mA,O,r,_,_,_⟩:=O7 I.hok e
 obtain⟨u,hu,ru⟩:=RelO.some_of (v:=v) (o:=mA f) (by rw[← l];exact r f)
 exact WB I.kIn O (c.get f) c.hd n hu (WG ru) (h u _ (I.tok _) ru)
theorem Yj {y:V}{u:Value}{Q:Unit→Shared→Prop} (I:Inv X pins σ H s) (e:H a=some (.ins C dx fs)) (c:Cls X.K C) (n:NoAttr X.K C f) (hl:fs.length < 1000) (ry:RelV y u)
  (h:∀s',Inv X pins σ (upd H a (.ins C dx (A9 f y fs))) s'→Q () s'):wpAny (model X.prog X.w) A (setAttr (.ref a) f u) Q E s:=by
 obtain⟨mA,O,r,wi,_,ho⟩:=O7 I.hok e
 have hz:(fs.map (·.1)).length≤sizeLine:=by rw[AG,KG];omega
 refine Yh I.kIn O c.sa c.po n.taker c.hd wi hz fun h' O' sb=>h _ ?_
 have hd:∃o,h'.get? dx=some o:=let ⟨o,_,_,e',_⟩:=O'.ns;⟨o,e'⟩
 refine I.write (x:=a) (e:=dx) (by rw[e];exact Gk) (.inr ho) (fun b q hb z=>(sb.2 b hb).trans z) hd ?_
 refine⟨by rw[AE O.ne];exact ho,?_,O.ne,O'.obj,_,O'.ns,fun g=>?_,fun g hg=>?_⟩
 ·have:=PZ f y fs;omega
 ·show RelO ((A9 f y fs).lookup g) (if g=f then some u else mA g)
  rw[Pj]
  by_cases q:g=f
  ·rw[if_pos q,if_pos q];exact ry
  ·rw[if_neg q,if_neg q];exact r g
 ·by_cases q:g=f
  ·rw[q];exact(K3 f y fs).1
  ·refine(K3 f y fs).2 g (wi g fun z=>hg ?_)
   show(if g=f then some u else mA g)=none
   rw[if_neg q];exact z
theorem Inv.made (I:Inv X pins σ H s):Inv X pins σ (upd (upd H s.heap.objs.size (.own (s.heap.objs.size+1))) (s.heap.objs.size+1) (.ins C s.heap.objs.size []))
  { s with heap:=(s.heap.push EJ).push (Eo C s.heap.objs.size) }:=by
 have e1:(s.heap.push EJ).get? s.heap.objs.size=some EJ:=BQ s.heap rfl
 have e2:((s.heap.push EJ).push (Eo C s.heap.objs.size)).get? (s.heap.objs.size+1)=some (Eo C s.heap.objs.size):=by
  have:=BQ (s.heap.push EJ) (o:=Eo C s.heap.objs.size) rfl
  rwa [Cq] at this
 have e3:(s.heap.push EJ).Ns s.heap.objs.size (fun _=>none):=⟨EJ,#[],_,e1,rfl,(fun e he=>absurd he (by simp)),fun _=>rfl⟩
 have I1:=I.laid (a:=s.heap.objs.size) (o:=.own (s.heap.objs.size+1)) (h':=s.heap.push EJ) (t':=s.toks) (fun b u q=>BE _ q) (AV _) ⟨_,e1⟩
 refine I1.laid (a:=s.heap.objs.size+1) (o:=.ins C s.heap.objs.size []) (t':=s.toks) (fun b u q=>BE _ q) (Hk (Cq _ _)) ?_
 have ne:s.heap.objs.size≠s.heap.objs.size+1:=BM (Mt _)
 refine⟨by rw[AE ne,AI],A5 _,ne,e2,fun _=>none,(Heap.Ns1.of_empty e3).at fun o q=>BE _ q,fun _=>Gk,fun y hy=>absurd rfl hy⟩
theorem VD {prog:Program}{w:World}{env:Env}{e:Expr}{f:Str}{pos:Pos}{s:Shared}{Q:Value→Shared→Prop} (hb:attributeBase e f env (eval e env)=eval e env)
  (h:wpAny (model prog w) A (eval e env) (fun o s₁=>wpAny (model prog w) A (getAttr o f true) Q E s₁) E s):wpAny (model prog w) A (eval (.Attribute e f pos) env) Q E s :=
 Attribute_any_ h (by rw[arm_eval_Attribute,hb])
end
def MB (K:AA) (ta:TE) (f:Str):TE:=fun σ H Q=>ta σ H fun x H1=>∃a C dx fs v,x=.ref a∧H1 a=some (.ins C dx fs)∧Cls K C∧NoAttr K C f∧fs.lookup f=some v∧Q v H1
def YD (K:AA) (ta tv:TE) (f:Str):TS:=fun D σ H=>tv σ H fun y H1=>ta σ H1 fun x H2=>∃a C dx fs,x=.ref a∧H2 a=some (.ins C dx fs)∧Cls K C∧NoAttr K C f∧fs.length < 1000∧
 D.nx σ (upd H2 a (.ins C dx (A9 f y fs)))
section
variable {X:Cx}{o e value:Expr}{f:Str}{pos pos' tpos:Pos}{ta tv:TE}
theorem Ak (he:PE X e ta) (hb:attributeBase e f X.env (eval e X.env)=eval e X.env):PE X (.Attribute e f pos) (MB X.K ta f):=by
 intro pins s σ H Q I h
 refine VD hb (thn (he pins s σ H _ I h) fun u s1 ⟨x,H1,I1,rx,a,C,dx,fs,v,ex,ea,c,n,l,q⟩=>?_)
 subst ex
 obtain rfl:u=Az a:=rx
 exact WC I1 ea c n l fun u' s2 I2 ru=>⟨v,H1,I2,ru,q⟩
theorem BU (ha:PE X o ta) (hv:PE X value tv) (hs:swapsWith value (some (.Attribute o f pos')) pos.line X.env=pure false):PS X (.Assign [.Attribute o f pos'] value pos) (YD X.K ta tv f):=by
 intro pins s σ H D I h
 refine plainObj_wpAny_Assign_Attribute (thn (hv pins s σ H _ I h) fun u s1 ⟨y,H1,I1,ry,q⟩=>thn (ha pins s1 σ H1 _ I1 q) fun ov s2 ⟨x,H2,I2,rx,a,C,dx,fs,ex,ea,c,n,l,q2⟩=>?_) hs
 subst ex
 obtain rfl:ov=Az a:=rx
 exact Yj I2 ea c n l ry fun s3 I3=>⟨σ,_,I3,q2⟩
end
section
variable {X:Cx}{pins:List (Addr×Obj)}{σ:St}{H:Hp}{s:Shared}{A:Around}{E:Value→Shared→Prop}{Q:Value→Shared→Prop}{c:Value}{b:Bool}
end
end L2
namespace L2
open PySem PySem.Spec PyProof.Rows
structure Room (k:Nat) (A:Around):Prop where
 hd:A.handled=none
 dp:A.depth+3 * k+5 < recursionLimit
 un:A.units+16 * k+200 < cLine
theorem Room.mono {j k:Nat}{A:Around} (r:Room k A) (h:j≤k):Room j A:=⟨r.hd,by have:=r.dp;omega,by have:=r.un;omega⟩
theorem Room.deeper {k:Nat}{A:Around} (r:Room (k+1) A) (env:Env):Room k (A.deeper env) :=
 ⟨r.hd,by have:=r.dp;show A.depth+1+3 * k+5 < _;omega,by have:=r.un;show A.units+3+16 * k+200 < _;omega⟩
theorem Wx {A:Around}{C:Addr}{us:List Value}{kw:List (Str×Value)}:(A.under (.builtin "type.__call__" ⟨.ref C::us,kw⟩)).depth=A.depth+1:=by
 first | rfl | simp[M4,Code.weight,Code.isCreation,Code.isGuard,Code.isCaller,Code.frames,M9,guardIds]
theorem Wz {A:Around}{C:Addr}{us:List Value}{kw:List (Str×Value)}:(A.under (.builtin "type.__call__" ⟨.ref C::us,kw⟩)).units=A.units+1:=by
 first | rfl | simp[M4,Code.cUnits,Code.frames,M9]
theorem Room.make {k:Nat}{A:Around} (r:Room (k+1) A) (C:Addr) (us:List Value) (kw:List (Str×Value)):Room k (A.under (.builtin "type.__call__" ⟨.ref C::us,kw⟩)) :=
 ⟨r.hd,by have:=r.dp;rw[Wx];omega,by have:=r.un;rw[Wz];omega⟩
theorem Room.depth {k:Nat}{A:Around} (r:Room k A):A.depth < recursionLimit:=by have:=r.dp;omega
theorem Room.units {k:Nat}{A:Around} (r:Room k A):A.units+64 < cLine:=by have:=r.un;omega
def FC:TA:=fun _ H Q=>Q [] H
def GI (ta:TE) (tr:TA):TA:=fun σ H Q=>ta σ H fun x H1=>tr σ H1 fun xs H2=>Q (x::xs) H2
section
variable {X:Cx}{e:Expr}{es:List Expr}{te:TE}{t:TA}{pos:Pos}
theorem AD:PA X [] FC:=fun _ _ _ _ H Q I h=>M8 ⟨[],H,I,.nil,h⟩
theorem AB (ha:PE X e te) (hr:PA X es t) (hs:starEach (e::es) X.env=(false,eval e X.env)::starEach es X.env:=by rfl):PA X (e::es) (GI te t):=by
 intro pos pins s σ H Q I h
 rw[hs]
 show wpAny _ _ (spliced ((false,eval e X.env)::backTo pos (starEach es X.env))) _ _ s
 refine J1 (thn (ha pins s σ H _ I h) fun u s1 ⟨x,H1,I1,r1,q1⟩=>?_)
 exact thn (hr pos pins s1 σ H1 _ I1 q1) fun us s2 ⟨xs,H2,I2,r2,q2⟩=>⟨x::xs,H2,I2,.cons r1 r2,q2⟩
def ZQ (t:TA):TE:=fun σ H Q=>t σ H fun xs H1=>xs.length≤sizeLine∧∀p,H1 p=none→Q (.ref p) (upd H1 p (.tup xs))
def ZL (t:TA):TE:=fun σ H Q=>t σ H fun xs H1=>xs.length≤sizeLine∧∀p,H1 p=none→Q (.ref p) (upd H1 p (.lst xs))
theorem Xi {x1} (h:PA X es t):PE X (.Tuple es x1 pos) (ZQ t):=by
 intro pins s σ H Q I hq
 refine wpAny_Tuple_spliced (thn (h pos pins s σ H _ I hq) fun us s1 ⟨xs,H1,I1,r,z,q⟩=>⟨by rw[← r.length];exact z,?_⟩)
 have hf:H1 s1.heap.objs.size=none:=I1.hok.fresh (AV _)
 refine⟨.ref s1.heap.objs.size,upd H1 s1.heap.objs.size (.tup xs),I1.laid (t':=s1.toks) (fun b u e=>BE _ e) (AV _) ?_,rfl,q _ hf⟩
 exact⟨z,us,r,⟨_,BQ _ rfl,rfl,_,rfl⟩⟩
theorem A8 (h:PA X es t):PE X (.List es pos) (ZL t):=by
 intro pins s σ H Q I hq
 refine wpAny_List_spliced (thn (h pos pins s σ H _ I hq) fun us s1 ⟨xs,H1,I1,r,z,q⟩=>⟨by rw[← r.length];exact z,?_⟩)
 have hf:H1 s1.heap.objs.size=none:=I1.hok.fresh (AV _)
 refine⟨.ref s1.heap.objs.size,upd H1 s1.heap.objs.size (.lst xs),I1.laid (t':=s1.toks) (fun b u e=>BE _ e) (AV _) ?_,rfl,q _ hf⟩
 exact⟨z,us,0,r,BQ _ rfl⟩
end
abbrev Sp:=List V→Hp→VK→XK→Prop
abbrev CXT:=List Env→Hp→Shared→XK→Value→Shared→Prop
structure Env0 (P:Program) (w:World) (K:AA) (mg:Str→Option Value) (base:Heap) (A:Around) (outer:List Env) (s:Shared) (H:Hp):Prop where
 frames:A.frames=some outer
 mod:Mod K mg base
 bs:∀b o,base.get? b=some o→s.heap.get? b=some o∧H b=none
 bsz:base.objs.size≤s.heap.objs.size
 funs:s.heap.FunFrames base outer
 frf:∀b∈frs outer,H b=none
 hok:HOk P w H s.heap
 bare:AllBare s.gens
def CE (outer:List Env) (P:Program) (w:World) (H:Hp) (s:Shared) (Q:VK) (u:Value) (s':Shared):Prop :=
 ∃v H',s'.os=s.os∧AllBare s'.gens∧Un (frs outer) [] H H' s.heap s'.heap∧HOk P w H' s'.heap∧RelV v u∧Q v H'
def CR (CX:CXT) (outer:List Env) (P:Program) (w:World) (H:Hp) (s:Shared) (Q:VK) (E:XK) (r:Result) (s':Shared):Prop :=
 match r with
 | .ok (.ret u)=>CE outer P w H s Q u s'
 | .ok _=>False
 | .error e=>CX outer H s E e s'
structure FnOk (P:Program) (w:World) (K:AA) (mg:Str→Option Value) (base:Heap) (CX:CXT) (k:Nat) (f:Addr) (fd:FuncData) (ps:List Str) (sp:Sp):Prop where
 len:∀vs H Q E,sp vs H Q E→vs.length=ps.length
 run:∀(A:Around) (outer:List Env) (s:Shared) (H:Hp) (args:Args) (us:List Value) (vs:List V) (Q:VK) (E:XK),Room k A→Env0 P w K mg base A outer s H→BindsTo s fd args (ps.zip us)→Vals vs us→sp vs H Q E→
  codeAny (model P w) A (.call (.ref f) args) (CR CX outer P w H s Q E) s
theorem FnOk.mono {P:Program}{w:World}{K:AA}{mg:Str→Option Value}{base:Heap}{CX:CXT}{j k:Nat}{f:Addr}{fd:FuncData}{ps:List Str}{sp:Sp} (F:FnOk P w K mg base CX j f fd ps sp) (h:j≤k):
 FnOk P w K mg base CX k f fd ps sp:=⟨F.len,fun A outer s H args us vs Q E hr=>F.run A outer s H args us vs Q E (hr.mono h)⟩
theorem Env0.make {P:Program}{w:World}{K:AA}{mg:Str→Option Value}{base:Heap}{A:Around}{outer:List Env}{s:Shared}{H:Hp} (e:Env0 P w K mg base A outer s H) (C:Addr) (us:List Value) (kw:List (Str×Value)):
 Env0 P w K mg base (A.under (.builtin "type.__call__" ⟨.ref C::us,kw⟩)) outer s H:=⟨by first | exact e.frames | (simpa [M4,Code.envs,M9,pushEnvs] using e.frames),e.mod,e.bs,e.bsz,e.funs,e.frf,e.hok,e.bare⟩
section
variable {X:Cx}{pins:List (Addr×Obj)}{σ:St}{H:Hp}{s s':Shared}
theorem Inv.env0 (I:Inv X pins σ H s):Env0 X.prog X.w X.K X.mg X.base X.A X.stack s H :=
 ⟨I.ok.frames,I.ok.mod,I.bs,Ba I.ok.bsz I.sz,I.stack,I.stkFree,I.hok,I.bare⟩
theorem Inv.after {Q:VK}{u:Value} (I:Inv X pins σ H s) (h:CE X.stack X.prog X.w H s Q u s'):EP X pins σ Q u s':=by
 obtain⟨v,H',os,bare,un,hok,r,q⟩:=h
 obtain⟨hh,g,d,t,os'⟩:=s'
 obtain rfl:os'=s.os:=os
 exact⟨v,H',I.call (h':=hh) (g':=g) (d':=d) (t':=t) (ch:=[]) un hok bare (fun b z=>absurd z (by simp)),r,q⟩
end
def JO (sp:Sp) (dvs:List V) (E:XK) (t:TA):TE:=fun σ H Q=>t σ H fun vs H1=>sp (vs++dvs) H1 Q E
def JP (C:Addr) (sp:Sp) (dvs:List V) (E:XK) (t:TA):TE:=fun σ H Q=>t σ H fun vs H1=>∀x dx,H1 x=none→H1 dx=none→dx≠x→
 sp (.ref x::(vs++dvs)) (upd (upd H1 dx (.own x)) x (.ins C dx [])) (fun v H2=>v=.non∧Q (.ref x) H2) E
def Binds (K:AA) (fd:FuncData) (ps:List Str) (ds:List Value):Prop :=
 ∀(s:Shared) (us:List Value),K.In s.heap→(us++ds).length=ps.length→BindsTo s fd ⟨us,[]⟩ (ps.zip (us++ds))
theorem Binds.all {K:AA}{fd:FuncData}{ps:List Str} (h:∀us:List Value,us.length=ps.length→bindArgs fd ⟨us,[]⟩=pure (ps.zip us)):Binds K fd ps []:=fun s us _ hl=>by
 rw[C6] at hl ⊢
 exact .of_eq (h us hl)
def Et (CX:CXT) (X:Cx) (E:XK):Prop:=∀(pins:List (Addr×Obj)) (σ:St) (H:Hp) (s:Shared) (e:Value) (s':Shared),Inv X pins σ H s→CX X.stack H s E e s'→X.xe e s'
section
variable {X:Cx}{CX:CXT}{k:Nat}{f C:Addr}{fd:FuncData}{ps:List Str}{sp:Sp}{dvs:List V}{ds:List Value}{E:XK}{x m:Str}{p pos apos:Pos}{e o:Expr}{es:List Expr}{ta:TE}{t:TA}
theorem Qe {pins:List (Addr×Obj)}{σ:St}{H:Hp}{s:Shared}{Q:VK}{us:List Value}{vs:List V} (F:FnOk X.prog X.w X.K X.mg X.base CX k f fd ps sp) (hr:Room k X.A) (hb:Binds X.K fd ps ds) (hd:Vals dvs ds) (hx:Et CX X E)
  (I:Inv X pins σ H s) (r:Vals vs us) (h:sp (vs++dvs) H Q E):wpAny (model X.prog X.w) X.A (call (.ref f) us) (EP X pins σ Q) X.xe s:=by
 have r2:Vals (vs++dvs) (us++ds):=r.append hd
 have hl:(us++ds).length=ps.length:=by rw[← r2.length];exact F.len _ _ _ _ h
 refine NT (FZ (F.run X.A X.stack s H ⟨us,[]⟩ (us++ds) (vs++dvs) Q E hr I.env0 (hb s us I.kIn hl) r2 h) fun r s' hq=>?_)
 cases r with
 | error e=>exact hx pins σ H s e s' I hq
 | ok fl =>
  cases fl with
  | ret u=>exact I.after hq
  | next=>exact BL hq
  | brk=>exact BL hq
  | cont=>exact BL hq
theorem QD (F:FnOk X.prog X.w X.K X.mg X.base CX k f fd ps sp) (hr:Room k X.A) (hg:Gl X x) (hm:X.mg x=some (.ref f)) (hk:FX X.K (.ref f)=true) (hb:Binds X.K fd ps ds) (hd:Vals dvs ds) (hx:Et CX X E)
  (ha:PA X (e::es) t) (hdb:(x==("__debug__":Str))=false:=by decide) (he:starEach (e::es) X.env=(false,eval e X.env)::starEach es X.env:=by rfl) (hpl:(backTo pos (starEach es X.env)).any (·.1)=false:=by rfl):
  PE X (.Call (.Name x p) (e::es) [] pos) (JO sp dvs E t):=by
 intro pins s σ H Q I h
 refine Fc (G6 I hg hm ?_ hdb)
 refine NH (h₀:=X.base) I.ok.mod.kin hk (thn (ha pos pins s σ H _ I h) fun us s1 ⟨vs,H1,I1,r,q⟩=>⟨I1.kIn,?_⟩) he hpl
 exact Qe F hr hb hd hx I1 r q
structure Mk (K:AA) (C f:Addr):Prop where
 makes:Uh K C=true
 init:FW K (.ref C) "__init__"=some (some (.ref f))
 fn:PySem.W.isFn K (.ref f)=true
 kp:FX K (.ref C)=true
theorem Qg {pins:List (Addr×Obj)}{σ:St}{H:Hp}{s:Shared}{Q:VK}{us:List Value}{vs:List V} (M:Mk X.K C f) (F:FnOk X.prog X.w X.K X.mg X.base CX k f fd ps sp) (hr:Room (k+1) X.A) (hb:Binds X.K fd ps ds) (hd:Vals dvs ds)
  (hx:Et CX X E) (I:Inv X pins σ H s) (r:Vals vs us)
  (h:∀x dx,H x=none→H dx=none→dx≠x→sp (.ref x::(vs++dvs)) (upd (upd H dx (.own x)) x (.ins C dx [])) (fun v H2=>v=.non∧Q (.ref x) H2) E):
  wpAny (model X.prog X.w) X.A (call (.ref C) us) (EP X pins σ Q) X.xe s:=by
 have hq:=h (s.heap.objs.size+1) s.heap.objs.size (I.hok.fresh (Nat.le_succ _)) (I.hok.fresh (AV _)) (BM (Mt _))
 have I2:=Inv.made (C:=C) I
 have r2:Vals (V.ref (s.heap.objs.size+1)::(vs++dvs)) (Az (s.heap.objs.size+1)::(us++ds)):=.cons rfl (r.append hd)
 have hl:(Az (s.heap.objs.size+1)::us++ds).length=ps.length:=by
  have e:=r2.length
  rw[F.len _ _ _ _ hq] at e
  exact e.symm
 refine NT (Wy (f:=f) I.kIn M.makes M.init (beq_iff_eq.mp M.fn) (FZ (F.run _ X.stack _ _ ⟨Az (s.heap.objs.size+1)::us,[]⟩ (Az (s.heap.objs.size+1)::(us++ds)) _ _ E (hr.make C us [])
  (I2.env0.make C us []) (hb _ (Az (s.heap.objs.size+1)::us) I2.kIn hl) r2 hq) fun r s' hq'=>?_))
 cases r with
 | error e=>exact hx pins σ _ _ e s' I2 hq'
 | ok fl =>
  cases fl with
  | ret u =>
   obtain⟨v,H',I3,rv,ev,q3⟩:=I2.after hq'
   subst ev
   exact⟨rv,⟨V.ref (s.heap.objs.size+1),H',I3,rfl,q3⟩⟩
  | next=>exact BL hq'
  | brk=>exact BL hq'
  | cont=>exact BL hq'
theorem Xf (M:Mk X.K C f) (F:FnOk X.prog X.w X.K X.mg X.base CX k f fd ps sp) (hr:Room (k+1) X.A) (hg:Gl X x) (hm:X.mg x=some (.ref C)) (hb:Binds X.K fd ps ds) (hd:Vals dvs ds) (hx:Et CX X E)
  (ha:PA X (e::es) t) (hdb:(x==("__debug__":Str))=false:=by decide) (he:starEach (e::es) X.env=(false,eval e X.env)::starEach es X.env:=by rfl) (hpl:(backTo pos (starEach es X.env)).any (·.1)=false:=by rfl):
  PE X (.Call (.Name x p) (e::es) [] pos) (JP C sp dvs E t):=by
 intro pins s σ H Q I h
 refine Fc (G6 I hg hm ?_ hdb)
 refine NH (h₀:=X.base) I.ok.mod.kin M.kp (thn (ha pos pins s σ H _ I h) fun us s1 ⟨vs,H1,I1,r,q⟩=>⟨I1.kIn,?_⟩) he hpl
 exact Qg M F hr hb hd hx I1 r q
theorem Xg (M:Mk X.K C f) (F:FnOk X.prog X.w X.K X.mg X.base CX k f fd ps sp) (hr:Room (k+1) X.A) (hg:Gl X x) (hm:X.mg x=some (.ref C)) (hb:Binds X.K fd ps ds) (hd:Vals dvs ds) (hx:Et CX X E)
  (hdb:(x==("__debug__":Str))=false:=by decide):PE X (.Call (.Name x p) [] [] pos) (JP C sp dvs E FC):=by
 intro pins s σ H Q I h
 refine Fc (G6 I hg hm ?_ hdb)
 exact PySem.W.callWith_K0 I.kIn M.kp (Qg (us:=[]) M F hr hb hd hx I .nil h)
end
section
variable {X:Cx}{CX:CXT}{k:Nat}{f C:Addr}{fd:FuncData}{ps ks:List Str}{sp:Sp}{E:XK}{x m:Str}{p pos apos kpos:Pos}{e o:Expr}{es:List Expr}{kws:List Keyword}{te ta:TE}{t tk:TA}{nm:Option Str}
variable {g:List Value→List Value→List Value}{gV:List V→List V→List V}
end
structure AY (N P:List Str) (sc:Scope):Prop where
 kind:sc.kind=.function
 co:sc.isCoroutine=false
 gen:sc.isGenerator=false
 nd:N.Nodup
 pre:N.take P.length=P
 par:∀x∈P,sc.names.lookup x=some .local∨sc.names.lookup x=some .cell
 nofree:∀y∈sc.names,y.2≠.free
theorem Nu {kindOf:Str→Option NameKind}{x:Str}:∀{binds:List (Str×Value)}{m:Str→Option Value},(∀v,(x,v)∉binds)→bindL kindOf binds m x=m x
 | [],_,_=>rfl
 | (n,v)::r,m,h=>by
  unfold bindL
  rw[Nu fun w hw=>h w (As _ hw)]
  split
  ·have:x≠n:=by rintro rfl;exact h v AU
   simp[this]
  ·rfl
theorem Nr {kindOf:Str→Option NameKind}{x:Str}:∀{binds:List (Str×Value)}{m:Str→Option Value},(∀v,(x,v)∉binds)→bindC kindOf binds m x=m x
 | [],_,_=>rfl
 | (n,v)::r,m,h=>by
  unfold bindC
  rw[Nr fun w hw=>h w (As _ hw)]
  split
  ·rfl
  ·have:x≠n:=by rintro rfl;exact h v AU
   simp[this]
theorem Nt {kindOf:Str→Option NameKind}{x:Str}{v:Value}:∀{P:List Str}{vs:List Value}{i:Nat}{m:Str→Option Value},P.Nodup→P[i]?=some x→vs[i]?=some v→kindOf x=some .local→
  bindL kindOf (P.zip vs) m x=some v
 | [],_,_,_,_,h,_,_=>by simp at h
 | _::_,[],_,_,_,_,h,_=>by simp at h
 | p::P,w::vs,0,m,nd,h1,h2,hk=>by
  simp at h1 h2;subst h1;subst h2
  show bindL kindOf ((p,w)::P.zip vs) m p=_
  unfold bindL
  rw[Nu fun v hv=>(C9.mp nd).1 (Hj hv).1,if_pos hk]
  simp
 | p::P,w::vs,i+1,m,nd,h1,h2,hk=>by
  show bindL kindOf ((p,w)::P.zip vs) m x=_
  unfold bindL
  exact Nt (i:=i) (C9.mp nd).2 (by simpa using h1) (by simpa using h2) hk
theorem Nq {kindOf:Str→Option NameKind}{x:Str}{v:Value}:∀{P:List Str}{vs:List Value}{i:Nat}{m:Str→Option Value},P.Nodup→P[i]?=some x→vs[i]?=some v→kindOf x≠some .local→
  bindC kindOf (P.zip vs) m x=some v
 | [],_,_,_,_,h,_,_=>by simp at h
 | _::_,[],_,_,_,_,h,_=>by simp at h
 | p::P,w::vs,0,m,nd,h1,h2,hk=>by
  simp at h1 h2;subst h1;subst h2
  show bindC kindOf ((p,w)::P.zip vs) m p=_
  unfold bindC
  rw[Nr fun v hv=>(C9.mp nd).1 (Hj hv).1,if_neg hk]
  simp
 | p::P,w::vs,i+1,m,nd,h1,h2,hk=>by
  show bindC kindOf ((p,w)::P.zip vs) m x=_
  unfold bindC
  exact Nq (i:=i) (C9.mp nd).2 (by simpa using h1) (by simpa using h2) hk
def start (N:List Str) (vs:List V):St:=vs.map some++List.replicate (N.length - vs.length) none
def Dg (CX:CXT) (P:Program) (w:World) (K:AA) (mg:Str→Option Value) (base:Heap) (N:List Str) (qual:Str) (scope:Scope) (f:Addr) (cd:Value) (A:Around) (outer:List Env) (s:Shared) (H:Hp) (E:XK):Cx where
 prog:=P
 w:=w
 K:=K
 mg:=mg
 base:=base
 A:=A.deeper (envOfC qual scope s.heap.objs.size f cd)
 N:=N
 s_0:=s
 H_0:=H
 env:=envOfC qual scope s.heap.objs.size f cd
 outer:=outer
 stack:=envOfC qual scope s.heap.objs.size f cd::outer
 ex:=[]
 calm:=true
 fn:=fun _=>true
 pn:=[]
 xe:=fun e s'=>wpAny (model P w) (A.deeper (envOfC qual scope s.heap.objs.size f cd)) (leaving (envOfC qual scope s.heap.objs.size f cd) e) (fun _ s''=>CX outer H s E e s'') (fun e' s''=>CX outer H s E e' s'') s'
theorem N4 {sc:Scope}{n:Nat}{x:Str} (h:sc.names.lookup x=some .cell):∃c,(cellsFrom n sc.names []).lookup x=some c:=by
 have q:=Ud sc.names n [] (.inl h)
 exact Tz.mp q
theorem WS {CX:CXT}{P:Program}{w:World}{K:AA}{mg:Str→Option Value}{base:Heap}{N ps:List Str}{qual:Str}{scope:Scope}{f:Addr}{cd:Value}{A:Around}{outer:List Env}{s s1:Shared}{H:Hp}{E:XK}{us:List Value}{vs:List V}
  (S:AY N ps scope) (hd:A.handled=none) (e0:Env0 P w K mg base A outer s H) (hl:vs.length=ps.length) (r:Vals vs us)
  (x:InCallC s s.heap.objs.size (bindL (envOfC qual scope s.heap.objs.size f cd).kindOf (ps.zip us) fun _=>none) (cellsFrom (s.heap.objs.size+1) scope.names []) (bindC (envOfC qual scope s.heap.objs.size f cd).kindOf (ps.zip us) fun _=>none) s1):
  Inv (Dg CX P w K mg base N qual scope f cd A outer s H E) [] (start N vs) H s1:=by
 have hpl:ps.length≤N.length:=by have:=congrArg GW S.pre;rw[EE] at this;omega
 obtain⟨h1,tk,rfl,hk⟩:=x.done
 have noA:∀b:Addr,b∉(Dg CX P w K mg base N qual scope f cd A outer s H E).ex:=fun b z=>absurd (show b∈([]:List Addr) from z) (by simp)
 refine⟨⟨e0.mod,S.kind,rfl,rfl,AV _,fun y z c h1 h2=>?_,fun y hy=>?_,fun y c _ h=>?_,fun _=>hd,T5 e0.frames,.inr ⟨rfl,rfl⟩,fun b z=>absurd z (noA b),e0.bs,e0.bsz,fun b _ _=>noA b,fun b z=>absurd z (noA b),e0.funs,e0.frf⟩,
  rfl,e0.bare,Un.kept hk,⟨_,x.toInCall.ns,fun i y v h1 h2 h3=>?_⟩,fun y c h=>⟨_,x.cell y c h⟩,e0.hok.fresh (AV _),fun y c h=>?_,fun p hp=>absurd (show p∈([]:List (Addr×Obj)) from hp) (by simp),e0.hok.kept hk,?_⟩
 ·exact name_of_addr x.apart (Bg h1) (Bg h2)
 ·have hy:scope.names.lookup y=some .cell∨scope.names.lookup y=some .free:=hy
  rcases hy with hy | hy
  ·exact N4 hy
  ·exact absurd rfl (S.nofree _ (Bg hy))
 ·exact Hl (x.above y c (Bg h))
 ·have hi:i < vs.length:=by
   unfold start at h2
   by_cases hi:i < vs.length
   ·exact hi
   ·rw[He (by simpa using hi)] at h2
    rw[List.getElem?_replicate] at h2
    split at h2 <;> cases h2
  have ha:vs[i]?=some v:=by
   unfold start at h2
   rw[Jb (by simpa using hi),Aj] at h2
   cases e:vs[i]? with
   | none=>rw[e] at h2;cases h2
   | some a=>rw[e] at h2;cases h2;rfl
  obtain⟨u,hu,rv⟩:=r.get ha
  have hp:ps[i]?=some y:=by
   rw[← S.pre,Ti (by omega)];exact h1
  have ndP:ps.Nodup:=by rw[← S.pre];exact S.nd.sublist (Mq _ _)
  refine⟨u,rv,?_⟩
  rcases S.par y (CV hp) with k | k
  ·exact .inl ⟨k,Nt ndP hp hu k⟩
  ·obtain⟨c,e⟩:=N4 (n:=s.heap.objs.size+1) k
   refine .inr ⟨.inl k,c,e,?_⟩
   have q:=x.cell y c e
   rw[Nq ndP hp hu (by show scope.names.lookup y≠_;rw[k];decide)] at q
   exact q
 ·exact e0.hok.fresh (Hl (x.above y c (Bg h)))
 ·unfold start
  show _=N.length
  rw[BO,AG,List.length_replicate]
  omega
theorem Oc {CX:CXT}{P:Program}{w:World}{K:AA}{mg:Str→Option Value}{base:Heap}{k:Nat}{f:Addr}{name qual:Str}{params:Arguments}{body:List Stmt}{scope:Scope}{dV kV doc pm cdv ct oc:Value}{an od:Option Addr}
  {osl:Array (Option Value)} {N ps:List Str} {sp:Sp} (lk:K.lookup f=some ⟨oc,od,.func (Gh name qual params body scope dV kV doc pm an cdv ct),osl⟩) (hcd:NI K cdv qual=true) (S:AY N ps scope)
  (len:∀vs H Q E,sp vs H Q E→vs.length=ps.length)
  (hbody:∀(A:Around) (outer:List Env) (s:Shared) (H:Hp) (vs:List V) (Q:VK) (E:XK),Room k (A.deeper (envOfC qual scope s.heap.objs.size f cdv))→sp vs H Q E→
   ∃t,PSs (Dg CX P w K mg base N qual scope f cdv A outer s H E) body t∧t { nx:=fun _ H'=>Q .non H',rt:=Q } (start N vs) H):
  FnOk P w K mg base CX (k+1) f (Gh name qual params body scope dV kV doc pm an cdv ct) ps sp:=by
 refine⟨len,fun A outer s H args us vs Q E hr e0 hb r hsp=>?_⟩
 have hl:=len _ _ _ _ hsp
 have KX:K.In s.heap:=e0.mod.kin.keeps fun b o e=>(e0.bs b o e).1
 have lim:s.heap.NoLimit:=e0.mod.nolimit.keeps fun b o e=>(e0.bs b o e).1
 have hkind:∀y∈ps.zip us,scope.names.lookup y.1=some .local∨(scope.names.lookup y.1=some .cell∧((cellsFrom (s.heap.objs.size+1) scope.names []).lookup y.1).isSome=true):=fun ⟨n,v⟩ hy=>by
  rcases S.par n (Hj hy).1 with q | q
  ·exact .inl q
  ·exact .inr ⟨q,Ud _ _ _ (.inl q)⟩
 refine codeAny_call_function hr.depth (KX _ _ lk) rfl S.co S.gen rfl (PySem.W.codeRec_of KX hcd) (hb _ _ _ _ ?_)
 refine wpAny_newFunctionEnv_cells S.kind hkind fun env he s1 x=>?_
 subst he
 refine⟨lim.keeps x.toInCall.keep,codeAny_func ?_⟩
 obtain⟨t,ht,hq⟩:=hbody A outer s H vs Q E (hr.deeper _) hsp
 have I:Inv (Dg CX P w K mg base N qual scope f cdv A outer s H E) [] (start N vs) H s1:=WS S hr.hd e0 hl r x
 refine Cs (ht [] s1 (start N vs) H _ I hq) (fun fl s' hs=>?_) fun e s' hs=>hs
 have fin:∀{σ':St} {H':Hp} {v:V} {u:Value},Inv (Dg CX P w K mg base N qual scope f cdv A outer s H E) [] σ' H' s'→RelV v u→Q v H'→CE outer P w H s Q u s' :=
  fun {σ' H' v u} J rv q=>⟨v,H',J.os,J.bare,J.base,J.hok,rv,q⟩
 cases fl with
 | ret u =>
  obtain⟨v,σ',H',J,rv,q⟩:=hs
  exact fin J rv q
 | next =>
  obtain⟨σ',H',J,q⟩:=hs
  exact fin (v:=V.non) (u:=DA) J rfl q
 | brk =>
  obtain⟨_,_,_,q⟩:=hs
  exact BL q
 | cont =>
  obtain⟨_,_,_,q⟩:=hs
  exact BL q
end L2
namespace L2
open PySem PySem.Spec PyProof.Rows
section
variable {X:Cx}{x:Str}{p pos:Pos}{e:Expr}{es:List Expr}{t:TA}{id T:String}{r:List V→Hp→VK→Prop}
def tCB (r:List V→Hp→VK→Prop) (t:TA):TE:=fun σ H Q=>t σ H fun vs H1=>r vs H1 Q
theorem A1 (hc:Dy X (.builtin id) r) (hg:Gl X x) (hm:X.mg x=none) (hv:bootBuiltins x=some (.builtin id)) (ha:PA X (e::es) t) (hn:x≠"__name__":=by decide) (hdb:(x==("__debug__":Str))=false:=by decide)
  (he:starEach (e::es) X.env=(false,eval e X.env)::starEach es X.env:=by rfl) (hpl:(backTo pos (starEach es X.env)).any (·.1)=false:=by rfl):PE X (.Call (.Name x p) (e::es) [] pos) (tCB r t):=by
 intro pins s σ H Q I h
 refine Fc (Fv I hg hm hv ?_ hn hdb)
 exact PyProof.Rows.callWith_builtin1 (thn (ha pos pins s σ H _ I h) fun us s1 ⟨vs,H1,I1,r1,q1⟩=>hc pins s1 σ H1 vs us Q I1 r1 q1) he hpl
theorem QE (hc:Dy X (.type T) r) (hg:Gl X x) (hm:X.mg x=none) (hv:bootBuiltins x=some (.type T)) (ha:PA X (e::es) t) (hn:x≠"__name__":=by decide) (hdb:(x==("__debug__":Str))=false:=by decide)
  (he:starEach (e::es) X.env=(false,eval e X.env)::starEach es X.env:=by rfl) (hpl:(backTo pos (starEach es X.env)).any (·.1)=false:=by rfl):PE X (.Call (.Name x p) (e::es) [] pos) (tCB r t):=by
 intro pins s σ H Q I h
 refine Fc (Fv I hg hm hv ?_ hn hdb)
 exact Hn (thn (ha pos pins s σ H _ I h) fun us s1 ⟨vs,H1,I1,r1,q1⟩=>hc pins s1 σ H1 vs us Q I1 r1 q1) he hpl
end
end L2
namespace HT
open PySem PyProof.Rows
def lexLt:List Int→List Int→Bool
 | [],[]=>false
 | [],_::_=>true
 | _::_,[]=>false
 | x::xs,y::ys=>if x=y then lexLt xs ys else decide (x < y)
theorem lexLt_cons (x y:Int) (xs ys:List Int):lexLt (x::xs) (y::ys)=if x=y then lexLt xs ys else decide (x < y):=rfl
theorem lexLt_nil_cons (y:Int) (ys:List Int):lexLt [] (y::ys)=true:=rfl
theorem eqAt_int (A:Around) (s:Shared) (a:Int) (t:Tok) (c:Int) (u:Tok):∃e,Bu A s (.int a t) (.int c u) e∧(e=true↔a=c) :=
 ⟨(a==c),UX a t c u,by simp⟩
section
open PySem.SeqAt
open PySem.AutoSeq1 (wpAny_loadPart')
open PySem.MeetsSeq PySem.MeetsSeq2 PySem.MeetsSeq3
end
section
variable {prog:Program}{w:World}{A:Around}{E:Value→Shared→Prop}{s:Shared}
def sIx (n d:Nat):Option Int→Nat
 | none=>d
 | some v=>if v < 0 then (v+(n:Int)).toNat else min v.toNat n
end
end HT
namespace L2
open PySem PySem.Spec PyProof.Rows
abbrev TO:=St→Hp→(Option Int→Hp→Prop)→Prop
def PO (X:Cx) (e:Option Expr) (t:TO):Prop :=
 ∀(pins:List (Addr×Obj)) (s:Shared) (σ:St) (H:Hp) (Q:Option Int→Hp→Prop),Inv X pins σ H s→t σ H Q→
  wpAny (model X.prog X.w) X.A (evalPart e X.env) (fun u s'=>∃o H',Inv X pins σ H' s'∧IsPart u o∧Q o H') X.xe s
def ZM:TO:=fun _ H Q=>Q none H
def ZP (t:TE):TO:=fun σ H Q=>t σ H fun x H1=>∃i,x=.int i∧Q (some i) H1
theorem O8 {ns:List Int}:∀{us:List Value},Vals (ns.map V.int) us→IntsAre us ns:=by
 induction ns with
 | nil=>intro us r;rw[FQ] at r;cases r;exact .nil
 | cons n ns ih =>
  intro us r
  rw[Au] at r
  cases r with
  | cons r1 r2 =>
   obtain⟨t,e⟩:=r1
   subst e
   exact .cons n t (ih r2)
section
variable {X:Cx}{e:Expr}{te:TE}{lo hi:Option Expr}{tl th:TO}{pos p2:Pos}
theorem F7:PO X none ZM:=by
 intro pins s σ H Q I h
 rw[evalPart_none]
 exact AQ ⟨none,H,I,.none,h⟩
theorem F8 (h:PE X e te):PO X (some e) (ZP te):=by
 intro pins s σ H Q I hw
 rw[evalPart_some]
 refine thn (h pins s σ H _ I hw) fun u s1 ⟨x,H1,I1,r1,q1⟩=>?_
 obtain⟨i,rfl,q⟩:=q1
 obtain⟨t,rfl⟩:=r1
 exact⟨some i,H1,I1,.int i t,q⟩
def SlR (X:Cx) (r:V→Option Int→Option Int→Hp→VK→Prop):Prop :=
 ∀(pins:List (Addr×Obj)) (s:Shared) (σ:St) (H:Hp) (x:V) (v vl vu:Value) (lo hi:Option Int) (sl:Addr) (Q:VK),Inv X pins σ H s→RelV x v→s.heap.IsSliceOf sl vl vu .none→IsPart vl lo→IsPart vu hi→r x lo hi H Q→
  ∃T id,typeLookup (.type T) "__getitem__"=pure (some (.builtin id))∧s.TypeIs v T∧wpAny (model X.prog X.w) X.A (getItem v (.ref sl)) (EP X pins σ Q) X.xe s
def tSl (r:V→Option Int→Option Int→Hp→VK→Prop) (te:TE) (tl th:TO):TE:=fun σ H Q=>te σ H fun x H1=>tl σ H1 fun l H2=>th σ H2 fun u H3=>r x l u H3 Q
theorem F4 {r:V→Option Int→Option Int→Hp→VK→Prop} (hr:SlR X r) (he:PE X e te) (hl:PO X lo tl) (hu:PO X hi th):PE X (.Subscript e (.Slice lo hi none p2) pos) (tSl r te tl th):=by
 intro pins s σ H Q I h
 refine Mx (thn (he pins s σ H _ I h) fun v s1 ⟨x,H1,I1,r1,q1⟩=>?_)
 refine wpAny_Slice (thn (hl pins s1 σ H1 _ I1 q1) fun vl s2 ⟨l,H2,I2,pl,q2⟩=>thn (hu pins s2 σ H2 _ I2 q2) fun vu s3 ⟨u,H3,I3,pu,q3⟩=>?_)
 rw[evalPart_none]
 refine AQ ?_
 have I4:Inv X pins σ H3 { s3 with heap:=s3.heap.push { cls:=.type "slice",data:=.fields #[vl,vu,.none] } }:=I3.kept (t':=s3.toks) fun b ob q=>BE _ q
 obtain⟨T,id,hT,ht,hg⟩:=hr pins { s3 with heap:=s3.heap.push { cls:=.type "slice",data:=.fields #[vl,vu,.none] } } σ H3 x v vl vu l u s3.heap.objs.size Q I4 r1 (Heap.IsSliceOf.new ..) pl pu q3
 show wpAny (model X.prog X.w) X.A (subscriptTail e (.Slice lo hi none p2) v (.ref s3.heap.objs.size)) (EP X pins σ Q) X.xe { s3 with heap:=s3.heap.push { cls:=.type "slice",data:=.fields #[vl,vu,.none] } }
 exact tail_any (ops:=[.ref s3.heap.objs.size,v]) ht hT hg (by with_unfolding_all rfl)
def CO (xs:List V) (lo hi:Option Int):List V:=(xs.drop (HT.sIx xs.length 0 lo)).take (HT.sIx xs.length xs.length hi - HT.sIx xs.length 0 lo)
theorem Vb (xs:List V) (lo hi:Option Int):(CO xs lo hi).length≤xs.length:=by
 unfold CO
 rw[EE,Jd]
 omega
end
end L2
namespace L2
open PySem PySem.Spec PyProof.Rows
def ixN (n:Nat) (i:Int):Option Nat:=if 0≤i then (if i < n then some i.toNat else none) else if -(n:Int)≤i then some (i+n).toNat else none
def atI {α:Type} (xs:List α) (i:Int):Option α:=(ixN xs.length i).bind fun j=>xs[j]?
theorem WU {n:Nat}{i:Int}{j:Nat} (h:ixN n i=some j):seqIndex? i n=some j∧j < n∧-(n:Int)≤i∧i < n:=by
 unfold ixN at h
 by_cases h0:0≤i
 ·rw[if_pos h0] at h
  by_cases h1:i < n
  ·rw[if_pos h1] at h
   have e:i.toNat=j:=Ae h
   exact⟨by rw[seqIndex_of h0 h1,e],by omega,by omega,h1⟩
  ·rw[if_neg h1] at h;cases h
 ·rw[if_neg h0] at h
  by_cases h1:-(n:Int)≤i
  ·rw[if_pos h1] at h
   have e:(i+n).toNat=j:=Ae h
   exact⟨by rw[seqIndex_neg (by omega) h1,e],by omega,h1,by omega⟩
  ·rw[if_neg h1] at h;cases h
theorem VB {α:Type}{xs:List α}{i:Int}{v:α} (h:atI xs i=some v):∃j,seqIndex? i xs.length=some j∧xs[j]?=some v∧j < xs.length∧-(xs.length:Int)≤i∧i < xs.length:=by
 unfold atI at h
 cases e:ixN xs.length i with
 | none=>rw[e] at h;cases h
 | some j =>
  rw[e] at h
  obtain⟨h1,h2,h3,h4⟩:=WU e
  exact⟨j,h1,h,h2,h3,h4⟩
theorem Bw {α:Type}{xs:List α}{j:Nat}{v:α} (h:xs[j]?=some v):atI xs (j:Int)=some v:=by
 have hj:j < xs.length:=(Bd.mp h).1
 have e:ixN xs.length (j:Int)=some j:=by
  unfold ixN
  rw[if_pos (by omega),if_pos (by omega)];simp
 unfold atI;rw[e];exact h
theorem Kc {α:Type} (xs:List α) (v:α):atI (xs++[v]) (-1)=some v:=by
 have hl:(xs++[v]).length=xs.length+1:=by simp
 have e:ixN (xs++[v]).length (-1)=some xs.length:=by
  unfold ixN
  rw[hl,if_neg (by decide),if_pos (by omega)]
  congr 1
  omega
 unfold atI
 rw[e]
 show(xs++[v])[xs.length]?=some v
 simp
def Ni (b:Expr):Prop:=∀o i,subscripted b false o i=operate [o,i] (getItem o i)
def IxR (X:Cx) (r:R2):Prop :=
 ∀(value slice:Expr) (pins:List (Addr×Obj)) (s:Shared) (σ:St) (H:Hp) (x y:V) (v u:Value) (Q:VK),Inv X pins σ H s→RelV x v→RelV y u→r x y H Q→
  subscripted slice false v u=operate [v,u] (getItem v u)→wpAny (model X.prog X.w) X.A (subscriptTail value slice v u) (EP X pins σ Q) X.xe s
def MtR (X:Cx) (id:String) (r:V→List V→Hp→VK→Prop):Prop :=
 ∀(pins:List (Addr×Obj)) (s:Shared) (σ:St) (H:Hp) (x:V) (xs:List V) (v:Value) (us:List Value) (Q:VK),Inv X pins σ H s→RelV x v→Vals xs us→r x xs H Q→
  wpAny (model X.prog X.w) X.A (call (.builtin id) (v::us)) (EP X pins σ Q) X.xe s
section
variable {X:Cx}{a b:Expr}{ta tb:TE}{pos:Pos}
theorem Bm {r:R2} (hr:IxR X r) (ha:PE X a ta) (hb:PE X b tb) (hs:Ni b):PE X (.Subscript a b pos) (tOp r ta tb):=by
 intro pins s σ H Q I h
 exact Mx (Ke ha hb I h fun v u s2 x y H2 I2 rx ry q=>hr a b pins s2 σ H2 x y v u Q I2 rx ry q (hs _ _))
def QT (K:AA):R2:=fun x y H Q=>∃p xs i v,x=.ref p∧y=.int i∧SqL K H p xs∧atI xs i=some v∧Q v H
theorem Bl:IxR X (QT X.K):=by
 intro value slice pins s σ H x y v u Q I rx ry h hs
 obtain⟨p,xs,i,z,rfl,rfl,hq,he,q⟩:=h
 cases rx
 obtain⟨t,rfl⟩:=ry
 obtain⟨its,r,pl,hz⟩:=I.list hq
 obtain⟨j,h1,h2,h3,h4,h5⟩:=VB he
 obtain⟨w,ew,rw'⟩:=r.get h2
 have hl:=r.length
 have hn:=Pe
 have fin:EP X pins σ Q w s:=⟨z,H,I,rw',q⟩
 by_cases h0:0≤i
 ·have hj:i.toNat=j:=by
   rw[seqIndex_of h0 h5] at h1
   exact Ae h1
  exact item_listR pl.isList h0 (by omega) (by rw[hj];simpa using ew) fin hs
 ·have hj:(i+(its.toArray.size:Int)).toNat=j:=by
   rw[seqIndex_neg (by omega) h4] at h1
   rw[Be,← hl]
   exact Ae h1
  exact subscriptTail_builtinR (x:=w) pl.isList.typeIs Ul.lookup
   (wpAny_getItem_list_neg (Q:=fun r s'=>r=w∧EP X pins σ Q r s') pl.isList (by omega) (by rw[Be] <;> omega) (by omega) (by rw[hj];simpa using ew) ⟨rfl,fin⟩) hs
theorem Yq (lo hi:Option Int) (n:Nat):(sliceBounds lo hi none n).1=((HT.sIx n 0 lo:Nat):Int)∧(sliceBounds lo hi none n).2.1=((HT.sIx n n hi:Nat):Int)∧(sliceBounds lo hi none n).2.2=1:=by
 refine⟨?_,?_,rfl⟩
 ·cases lo with
  | none=>simp[sliceBounds,HT.sIx]
  | some i =>
   simp only[sliceBounds,HT.sIx,Mw,show(1:Int) > 0 by decide,if_true]
   by_cases h:i < 0
   ·simp only[h,if_true] <;> omega
   ·simp only[h,if_false] <;> omega
 ·cases hi with
  | none=>simp[sliceBounds,HT.sIx]
  | some i =>
   simp only[sliceBounds,HT.sIx,Mw,show(1:Int) > 0 by decide,if_true]
   by_cases h:i < 0
   ·simp only[h,if_true] <;> omega
   ·simp only[h,if_false] <;> omega
theorem Yp (its:List Value) (lo hi:Option Int):slicePick its.toArray lo hi none=((its.drop (HT.sIx its.length 0 lo)).take (HT.sIx its.length its.length hi - HT.sIx its.length 0 lo)).toArray:=by
 obtain⟨h1,h2,h3⟩:=Yq lo hi its.toArray.size
 unfold slicePick
 rw[h1,h2,h3]
 simp only[sliceRange_one,pick_run,Be] <;> rfl
def X0 (K:AA):V→Option Int→Option Int→Hp→VK→Prop:=fun x lo hi H Q=>∃a xs,x=.ref a∧SqL K H a xs∧∀p,H p=none→Q (.ref p) (upd H p (.lst (CO xs lo hi)))
theorem GF:SlR X (X0 X.K):=by
 intro pins s σ H x v vl vu lo hi sl Q I rx hs pl pu h
 obtain⟨a,xs,rfl,hx,q⟩:=h
 cases rx
 obtain⟨its,r,ht,hz⟩:=I.list hx
 have hlen:=r.length
 refine⟨"list",_,Ul.lookup,ht.isList.typeIs,?_⟩
 refine wpAny_getItem_list_slice ht.isList hs pl pu .none (by simp) ?_ (by rw[Be] <;> omega)
 rw[Yp,← hlen]
 refine⟨.ref s.heap.objs.size,_,I.laid (t':=s.toks) (o:=.lst (CO xs lo hi)) (fun b ob q=>BE _ q) (AV _) ?_,rfl,q _ (I.hok.fresh (AV _))⟩
 exact⟨Ba (Vb xs lo hi) hz,_,0,(r.drop (HT.sIx xs.length 0 lo)).take (HT.sIx xs.length xs.length hi - HT.sIx xs.length 0 lo),BQ _ rfl⟩
def CQ:V→Bool
 | .non=>true
 | .bl _=>true
 | .int _=>true
 | .str _=>true
 | _=>false
def eqV:V→V→Bool
 | .non,.non=>true
 | .bl a,.bl b=>a==b
 | .bl a,.int b=>(if a then 1 else 0)==b
 | .int a,.bl b=>a==(if b then 1 else 0)
 | .int a,.int b=>a==b
 | .str a,.str b=>a==b
 | _,_=>false
theorem V2 {A:Around}{s:Shared}{y x:V}{u v:Value} (ry:RelV y u) (rx:RelV x v) (fy:CQ y=true) (fx:CQ x=true):Bu A s u v (eqV y x):=by
 cases y with
 | non =>
  cases ry
  cases x with
  | non=>cases rx;exact Bu.same _
  | bl b=>cases rx;exact Bu.none_bool b
  | int b=>obtain⟨t,rfl⟩:=rx;exact Bu.none_int b t
  | str b=>obtain⟨t,rfl⟩:=rx;exact Bu.none_str b t
  | _=>exact absurd (show false=true from fx) Ag
 | bl a =>
  cases ry
  cases x with
  | non=>cases rx;exact Bu.bool_none a
  | bl b=>cases rx;exact Bu.bool_bool a b
  | int b=>obtain⟨t,rfl⟩:=rx;exact Bu.bool_int a b t
  | str b=>obtain⟨t,rfl⟩:=rx;exact Bu.bool_str a b t
  | _=>exact absurd (show false=true from fx) Ag
 | int a =>
  obtain⟨t',rfl⟩:=ry
  cases x with
  | non=>cases rx;exact Bu.int_none a t'
  | bl b=>cases rx;exact Bu.int_bool a t' b
  | int b=>obtain⟨t,rfl⟩:=rx;exact UX a t' b t
  | str b=>obtain⟨t,rfl⟩:=rx;exact UY a t' b t
  | _=>exact absurd (show false=true from fx) Ag
 | str a =>
  obtain⟨t',rfl⟩:=ry
  cases x with
  | non=>cases rx;exact Bu.str_none a t'
  | bl b=>cases rx;exact Bu.str_bool a t' b
  | int b=>obtain⟨t,rfl⟩:=rx;exact UZ a t' b t
  | str b=>obtain⟨t,rfl⟩:=rx;exact Bu.str_str a t' b t
  | _=>exact absurd (show false=true from fx) Ag
 | _=>exact absurd (show false=true from fy) Ag
def eqU (x:V) (u:Value):Bool:=match u with
 | .none=>eqV .non x
 | .bool b=>eqV (.bl b) x
 | .int i _=>eqV (.int i) x
 | .str z _=>eqV (.str z) x
 | _=>false
theorem Gx {x y:V}{u:Value} (r:RelV y u) (f:CQ y=true):eqU x u=eqV y x:=by
 cases y with
 | non=>cases r;rfl
 | bl b=>cases r;rfl
 | int i=>obtain⟨t,rfl⟩:=r;rfl
 | str z=>obtain⟨t,rfl⟩:=r;rfl
 | _=>exact absurd (show false=true from f) Ag
theorem KZ {x:V}:∀{xs:List V}{us:List Value},Vals xs us→xs.all CQ=true→us.any (eqU x)=xs.any fun y=>eqV y x
 | _,_,.nil,_=>rfl
 | y::xs,u::us,.cons r t,f=>by
  rw[GU,BI] at f
  rw[DK,DK,Gx r f.1,KZ t f.2]
theorem HB {A:Around}{s:Shared}{x:V}{v:Value} (rx:RelV x v) (fx:CQ x=true):∀{xs:List V}{us:List Value},Vals xs us→xs.all CQ=true→∀u∈us,Bu A s u v (eqU x u)
 | _,_,.nil,_=>fun u hu=>by cases hu
 | y::xs,u::us,.cons r t,f=>fun u' hu=>by
  rw[GU,BI] at f
  rcases AS.mp hu with rfl | hu
  ·rw[Gx r f.1];exact V2 r rx f.1 fx
  ·exact HB rx fx t f.2 u' hu
def inV (x:V) (xs:List V):Bool:=xs.any fun y=>eqV y x
def rIn (K:AA) (neg:Bool):R2:=fun x y H Q=>∃p xs,y=.ref p∧(SqL K H p xs∨SqT K H p xs)∧CQ x=true∧xs.all CQ=true∧Q (.bl (if neg then !inV x xs else inV x xs)) H
theorem P9:OpR X (compareOp .In) (rIn X.K false):=by
 intro pins s σ H x y v u Q I rx ry h
 obtain⟨p,xs,rfl,hq,fx,fs,q⟩:=h
 cases ry
 rcases hq with hq | hq
 ·obtain⟨its,r,pl,hz⟩:=I.list hq
  refine SeqAt.in_listAt (eqU x) pl.isList (fun w hw=>HB rx fx r fs w (by simpa using hw)) ⟨.bl _,H,I,rfl,?_⟩
  rw[show its.toArray.any (eqU x)=its.any (eqU x) by simp,KZ r fs]
  exact q
 ·obtain⟨its,r,pl,hz⟩:=I.tuple hq
  refine SeqAt.in_tupleAt (eqU x) pl (fun w hw=>HB rx fx r fs w (by simpa using hw)) ⟨.bl _,H,I,rfl,?_⟩
  rw[show its.toArray.any (eqU x)=its.any (eqU x) by simp,KZ r fs]
  exact q
theorem Bq:Dy X (.builtin "len") (fun xs H Q=>∃p ys,xs=[.ref p]∧(SqL X.K H p ys∨SqT X.K H p ys)∧Q (.int ys.length) H):=by
 intro pins s σ H xs us Q I r h
 obtain⟨p,ys,rfl,hq,q⟩:=h
 obtain⟨u,rfl,rx⟩:=HU r
 cases rx
 have hn:=Pe
 rcases hq with hq | hq
 ·obtain⟨its,r',pl,hz⟩:=I.list hq
  have hlen:=r'.length
  exact Calls.call_len_list pl.isList (by simp only[Be] <;> omega) ⟨.int ys.length,H,I.tok _,⟨s.toks+1,by rw[Be,hlen]⟩,q⟩
 ·obtain⟨its,r',pl,hz⟩:=I.tuple hq
  have hlen:=r'.length
  exact len_tuple pl (by simp only[Be] <;> omega) ⟨.int ys.length,H,I.tok _,⟨s.toks+1,by rw[Be,hlen]⟩,q⟩
theorem N0:Dy X (.type "tuple") (fun xs H Q=>∃p ys,xs=[.ref p]∧((SqL X.K H p ys∧∀l,H l=none→Q (.ref l) (upd H l (.tup ys)))∨(SqT X.K H p ys∧Q (.ref p) H))):=by
 intro pins s σ H xs us Q I r h
 obtain⟨p,ys,rfl,h⟩:=h
 obtain⟨u,rfl,rx⟩:=HU r
 cases rx
 rcases h with ⟨hq,q⟩ | ⟨hq,q⟩
 ·obtain⟨its,r',pl,hz⟩:=I.list hq
  have hlen:=r'.length
  refine call_tuple_list pl.isList (fun h' kp=>?_) (by simp only[Be] <;> omega)
  have I1:Inv X pins σ H { s with heap:=h' }:=I.kept (t':=s.toks) kp
  have I2:Inv X pins σ (upd H h'.objs.size (.tup ys)) { s with heap:=h'.push { cls:=.type "tuple",data:=.seq its.toArray } } :=
   I1.laid (t':=s.toks) (fun b o e=>BE _ e) (AV _) (show ObjOk X.prog X.w _ _ _ (.tup ys) from⟨hz,its,r',IsTup.new _ _⟩)
  exact⟨.ref h'.objs.size,_,I2,rfl,q _ (I1.hok.fresh (AV _))⟩
 ·obtain⟨its,r',pl,hz⟩:=I.tuple hq
  exact call_tuple_same pl ⟨.ref p,H,I,rfl,q⟩
def tyV (K:AA) (T:String) (x:V) (H:Hp):Prop:=match x with
 | .str _=>T="str"
 | .int _=>T="int"
 | .ref p=>(T="list"∧∃xs,SqL K H p xs)∨(T="tuple"∧∃o,K.lookup p=some o∧o.cls=.type "tuple"∧o.dict=none)∨
  (T="dict"∧((∃kvs,H p=some (.dK kvs))∨∃kvs,H p=some (.dT kvs)))∨(T="set"∧∃S n,H p=some (.set S n))
 | _=>False
theorem Zd {pins:List (Addr×Obj)}{σ:St}{H:Hp}{s:Shared}{T:String}{x:V}{v:Value} (I:Inv X pins σ H s) (r:RelV x v) (ty:tyV X.K T x H):
  s.TypeIs v T∧∀a,v=.ref a→∃ob,s.heap.get? a=some ob∧ob.dict=none:=by
 cases x with
 | str z =>
  obtain⟨t,rfl⟩:=r
  cases (show T="str" from ty)
  exact⟨typeIs_str s z t,fun _ e=>nomatch e⟩
 | int i =>
  obtain⟨t,rfl⟩:=r
  cases (show T="int" from ty)
  exact⟨typeIs_int s i t,fun _ e=>nomatch e⟩
 | ref p =>
  cases r
  rcases ty with ⟨rfl,xs,hq⟩ | ⟨rfl,o,hk,hc,hd⟩ | ⟨rfl,hk⟩ | ⟨rfl,S,n,hk⟩
  ·obtain⟨its,_,pl,_⟩:=I.list hq
   refine⟨pl.isList.typeIs,fun a e=>?_⟩
   cases e
   obtain⟨o,n,e,c,hd,_⟩:=pl
   exact⟨o,e,hd⟩
  ·refine⟨⟨o,I.kIn p o hk,hc⟩,fun a e=>?_⟩
   cases e
   exact⟨o,I.kIn _ o hk,hd⟩
  ·have z:∃o,s.heap.get? p=some o∧o.ExactDict:=by
    rcases hk with ⟨kvs,hk⟩ | ⟨kvs,hk⟩
    ·obtain⟨_,_,_,_,o,_,_,e,ex,_⟩:=I.hok p _ hk
     exact⟨o,e,ex⟩
    ·obtain⟨_,_,_,_,o,_,_,e,ex,_⟩:=I.hok p _ hk
     exact⟨o,e,ex⟩
   obtain⟨o,e,ex⟩:=z
   refine⟨⟨o,e,ex.1⟩,fun a e2=>?_⟩
   cases e2
   exact⟨o,e,ex.2.1⟩
  ·obtain⟨o,_,_,_,e,ex,_⟩:=I.hok p _ hk
   refine⟨⟨o,e,ex.1⟩,fun a e2=>?_⟩
   cases e2
   exact⟨o,e,ex.2.1⟩
 | _=>exact BL ty
def tBM (K:AA) (T:String) (r:V→List V→Hp→VK→Prop) (to:TE) (t:TA):TE:=fun σ H Q=>to σ H fun x H1=>tyV K T x H1∧t σ H1 fun xs H2=>r x xs H2 Q
variable {o e:Expr}{es:List Expr}{to:TE}{t:TA}{name:Str}{apos cpos:Pos}{T id:String}{r:V→List V→Hp→VK→Prop}
theorem EZ (pa:PlainAttrs T) (slot:Slot T name id) (hty:typeOf (.builtin id)=pure (.type "method_descriptor")) (hm:MtR X id r) (ho:PE X o to) (ha:PA X (e::es) t)
  (hbase:attributeBase o name X.env (eval o X.env)=eval o X.env:=by rfl)
  (hfew:((backTo cpos (starEach (e::es) X.env)).all (fun x=>!x.1)&&(backToKw cpos (keywordEach [] X.env)).all (fun x=>x.1.isSome)
   && decide ((e::es).length+([]:List Keyword).length+(if ([]:List Keyword).isEmpty then 0 else 1) < 30))=true:=by rfl)
  (hline:(apos.endLine==cpos.line)=true:=by rfl) (hs:starEach (e::es) X.env=(false,eval e X.env)::starEach es X.env:=by rfl) (hplain:(backTo cpos (starEach es X.env)).any (·.1)=false:=by rfl):
  PE X (.Call (.Attribute o name apos) (e::es) [] cpos) (tBM X.K T r to t):=by
 intro pins s σ H Q I h
 refine wpAny_Call_method_late hbase hfew hline rfl (thn (ho pins s σ H _ I h) fun v s1 ⟨x,H1,I1,r1,ty,q1⟩=>?_)
 obtain⟨h1,h2⟩:=Zd I1 r1 ty
 refine⟨T,id,pa,slot,hty,h1,h2,?_⟩
 have hA:=ha cpos pins s1 σ H1 _ I1 q1
 rw[hs] at hA ⊢
 refine M6 (by show(false || (backTo cpos (starEach es X.env)).any (·.1))=false;rw[hplain] <;> rfl) (M7 ?_)
 exact thn hA fun us s2 ⟨vs,H2,I2,r2,q2⟩=>hm pins s2 σ H2 x vs v us Q I2 r1 r2 q2
/- xs.append(e),list.index on a module's tuple .. are MtR facts of 06m -/
end
end L2
namespace L2
open PySem PySem.Spec PyProof.Rows
def MtM (X:Cx) (id:String) (r:V→List V→Hp→VK→Prop):Prop :=
 ∀(pins:List (Addr×Obj)) (s:Shared) (σ:St) (H:Hp) (x:V) (xs:List V) (v:Value) (us:List Value) (Q:VK),Inv X pins σ H s→RelV x v→Vals xs us→r x xs H Q→
  wpAny (model X.prog X.w) X.A (call (.builtin id) (v::us)) (EP X pins σ Q) X.xe s
theorem Vals.one:∀{x:V}{us:List Value},Vals [x] us→∃u,us=[u]∧RelV x u
 | _,_,.cons r .nil=>⟨_,rfl,r⟩
section
variable {X:Cx}{pins:List (Addr×Obj)}{σ:St}{H:Hp}{s:Shared}{l b:Addr}{xs ys zs:List V}
theorem Inv.lset {its its':List Value}{n:Nat}{f:Array Value→Array Value}{t':Nat} (I:Inv X pins σ H s) (hH:H l=some (.lst xs))
  (e:s.heap.get? l=some { cls:=.type "list",data:=.seq its.toArray n }) (hf:f its.toArray=its'.toArray) (hv:Vals ys its') (hz:ys.length≤sizeLine):
  Inv X pins σ (upd H l (.lst ys)) { s with heap:=s.heap.update l (NB f),toks:=t' }:=by
 have q:=PySem.IsL.update e f
 rw[hf] at q
 refine I.write (x:=l) (e:=l) (by rw[hH];exact trivial) (.inl rfl) (fun b' u hb hu=>(Heap.get?_update_other s.heap (NB f) (An hb)).trans hu) ⟨_,q⟩ ?_
 exact⟨hz,its',_,hv,q⟩
theorem Inv.lnew {its:List Value}{t':Nat} (I:Inv X pins σ H s) (hv:Vals ys its) (hz:ys.length≤sizeLine):
  Inv X pins σ (upd H s.heap.objs.size (.lst ys)) { s with heap:=s.heap.push { cls:=.type "list",data:=.seq its.toArray },toks:=t' } :=
 I.laid (fun _ _ q=>BE _ q) (AV _) ⟨hz,its,0,hv,BQ _ rfl⟩
theorem Inv.fresh (I:Inv X pins σ H s):H s.heap.objs.size=none:=I.hok.fresh (AV _)
theorem Inv.lstM (I:Inv X pins σ H s) (hH:H l=some (.lst xs)):xs.length≤sizeLine∧∃(its:List Value) (n:Nat),Vals xs its∧xs.length=its.length∧s.heap.get? l=some { cls:=.type "list",data:=.seq its.toArray n }:=by
 obtain⟨z,its,n,r,e⟩:=I.hok l _ hH
 exact⟨z,its,n,r,r.length,e⟩
theorem LO {n:Nat} (h:n≤sizeLine):M5 n=false:=by
 unfold M5
 exact decide_eq_false (by omega)
end
section
variable {X:Cx}
def Xs:V→List V→Hp→VK→Prop:=fun x vs H Q=>∃l xs y,x=.ref l∧vs=[y]∧H l=some (.lst xs)∧xs.length < sizeLine∧Q .non (upd H l (.lst (xs++[y])))
theorem Fy:MtM X "list.append" Xs:=by
 intro pins s σ H x vs v us Q I rx rv h
 obtain⟨l,xs,y,rfl,rfl,hH,hz,q⟩:=h
 cases rx
 obtain⟨u,rfl,ru⟩:=rv.one
 obtain⟨z,its,n,r,hl,e⟩:=I.lstM hH
 refine KC F.slot_list_append ⟨_,e,rfl⟩ F.entry_list_append (F.args_list_append_2 _ _) (PySem.list_append l its.toArray n u (by rw[Be];omega)) ⟨e,?_⟩
 refine⟨.non,_,I.lset (its':=its++[u]) hH e (by simp) (r.append (.cons ru .nil)) ?_,rfl,q⟩
 rw[BO,C7]
 omega
def Xw:V→List V→Hp→VK→Prop:=fun x vs H Q=>∃l b xs zs,x=.ref l∧vs=[.ref b]∧H l=some (.lst xs)∧H b=some (.lst zs)∧xs.length+zs.length≤sizeLine∧Q .non (upd H l (.lst (xs++zs)))
theorem Zk:MtM X "list.extend" Xw:=by
 intro pins s σ H x vs v us Q I rx rv h
 obtain⟨l,b,xs,zs,rfl,rfl,hH,hB,hz,q⟩:=h
 cases rx
 obtain⟨u,rfl,ru⟩:=rv.one
 cases ru
 obtain⟨z,its,n,r,hl,e⟩:=I.lstM hH
 obtain⟨z2,its2,n2,r2,hl2,e2⟩:=I.lstM hB
 have hsz:its.toArray.size+its2.toArray.size≤sizeLine:=by rw[Be,Be];omega
 have hlong:¬(!its.toArray.isEmpty&&M5 (its.toArray.size+its2.toArray.size))=true:=by
  rw[LO hsz,HX]
  exact Ag
 refine KC F.slot_list_extend ⟨_,e,rfl⟩ F.entry_list_extend (F.args_list_extend_2 _ _)
  (AutoSeq1.list_extend_list_list_0 l its.toArray n b its2.toArray n2 hlong (by rw[Be];omega) (by omega)) ⟨e,e2,?_⟩
 refine⟨.non,_,I.lset (its':=its++its2) hH e (by simp) (r.append r2) ?_,rfl,q⟩
 rw[BO]
 omega
def Xu:R2:=fun x y H Q=>∃l b xs zs,x=.ref l∧y=.ref b∧H l=some (.lst xs)∧H b=some (.lst zs)∧xs.length+zs.length≤sizeLine∧∀p,H p=none→Q (.ref p) (upd H p (.lst (xs++zs)))
theorem P8:OpR X (binaryOp .Add) Xu:=by
 intro pins s σ H x y v u Q I rx ry h
 obtain⟨l,b,xs,zs,rfl,rfl,hH,hB,hz,q⟩:=h
 cases rx
 cases ry
 obtain⟨z,its,n,r,hl,e⟩:=I.lstM hH
 obtain⟨z2,its2,n2,r2,hl2,e2⟩:=I.lstM hB
 refine PySem.P.add_list e e2 ?_ (by rw[Be,Be];omega)
 have ea:its.toArray++its2.toArray=(its++its2).toArray:=by simp
 rw[ea]
 exact⟨.ref _,_,I.lnew (t':=s.toks) (r.append r2) (by rw[BO];omega),rfl,q _ I.fresh⟩
end
section
variable {prog:Program}{w:World}{A:Around}{E:Value→Shared→Prop}{s:Shared}
theorem VL {a c n:Nat} (hac:a≤c) (hc:c≤n):sliceBounds (some (a:Int)) (some (c:Int)) none n=((a:Int),(c:Int),1):=by
 simp only[sliceBounds,Mw]
 have h1:¬((a:Int) < 0):=by omega
 have h2:¬((c:Int) < 0):=by omega
 simp only[h1,h2,if_false,show(1:Int) > 0 by decide,if_true]
 congr 1
 ·omega
 ·congr 1;omega
set_option maxRecDepth 100000 in
theorem Zm {l b sl : Addr} {items new : Array Value} {n n2 : Nat} {vl vu : Value} {a c : Nat} {Q : Unit → Shared → Prop}
    (e : s.heap.get? l = some { cls := .type "list", data := .seq items n }) (e2 : s.heap.get? b = some { cls := .type "list", data := .seq new n2 }) (hne : l ≠ b)
    (hs : s.heap.IsSliceOf sl vl vu .none) (pl : IsPart vl (some (a : Int))) (pu : IsPart vu (some (c : Int))) (hac : a ≤ c) (hc : c ≤ items.size)
    (hsz : items.size + new.size ≤ sizeLine) (h : Q () { s with heap := s.heap.update l (NB fun xs => xs.extract 0 a ++ new ++ xs.extract c xs.size) }) :
    wpAny (model prog w) A (setItem (.ref l) (.ref sl) (.ref b)) Q E s := by
  have hl : s.heap.IsList l items := US e
  have hb : s.heap.IsList b new := US e2
  obtain ⟨os, hos, hcs, hds⟩ := id hs
  have hTs : s.TypeIs (.ref sl) "slice" := ⟨os, hos, hcs⟩
  have hstep : ¬ ((rawPart none == rawInt 0) = true) := Ag
  have hsame : UA (.ref l) (.ref b) = false := by
    unfold UA
    exact beq_eq_false_iff_ne.mpr hne
  have hmax : (max (a : Int) (c : Int)).toNat = c := by omega
  have hz' : ((fun xs : Array Value => xs.extract 0 a ++ new ++ xs.extract c xs.size) items).size ≤ sizeLine + 1 := by
    simp only [Array.size_append, Array.size_extract]
    omega
  unfold setItem
  try with_reducible refine NW ?_
  first | refine AF (AQ ?_) | skip
  refine AF (wpAny_sequenceKey hl.typeIs (by decide) ?_)
  refine AF (Gi (name := Dv "__setitem__") hl.typeIs Um
    (Fd Um hl.typeIs entry_list_setitem ?_ (args_list_setitem _ _ _)))
  show wpAny _ _ (UB (.ref sl) >>= _) _ _ s
  refine AF ?_
  unfold UB
  refine AF (Ux hTs slice_no_index ?_)
  simp only [Option.isNone_none, if_true]
  refine AQ ?_
  show wpAny _ _ (typeOf (.ref sl) >>= _) _ _ s
  refine AF (wpAny_typeOf hTs ?_)
  first
    | rw [if_neg (by decide)]
    | refine NG (by decide) ?_
  rw [listSliceParts_eq]
  refine AF (AF (Fe hos hds (x := .none) rfl (AF (NX .none ?_))))
  rw [if_neg hstep]
  refine AF (Fe hos hds (x := vl) rfl (AF (NX pl ?_)))
  refine AF (Fe hos hds (x := vu) rfl (AF (NX pu (AQ ?_))))
  first
    | simp only [hsame, Dn, if_false]
    | refine NG hsame ?_
    | (dsimp only
       rw [if_neg (by rw [hsame]; exact Ag)])
  refine AF (m := T9 (.ref b) "must assign iterable to extended slice") ?_
  unfold T9
  refine AF (wpAny_typeOf hb.typeIs ?_)
  first
    | refine PySem.W.KFB.if_so (by decide) ?_
    | rw [if_pos (by decide)]
    | simp only [beq_self_eq_true, MR, if_true]
  unfold Builtin.List.listItems
  refine AF (KJ e2 rfl (AQ ?_))
  refine AF (AF (KJ e rfl (AQ ?_)))
  refine AF (NY ((sliceIndices_raw (some (a : Int)) (some (c : Int)) none items.size (by simp)).trans (congrArg (pure : Int × Int × Int → Sem (Int × Int × Int)) (VL hac hc))) ?_)
  show wpAny _ _ (if ((1 : Int) == 1) = true then _ else _) _ _ s
  rw [if_pos (by decide)]
  refine AF (wpAny_rule ?_)
  first
    | simp only [LO hsz, Dn, if_false]
    | refine NG (LO hsz) ?_
  first | refine AF (AQ ?_) | skip
  show wpAny _ _ (updateSeq l (fun xs => xs.extract 0 ((a : Int)).toNat ++ new ++ xs.extract (max (a : Int) (c : Int)).toNat xs.size) >>= _) _ _ s
  rw [hmax, FL]
  refine AF (wpAny_updateSeq (hz := Ba (Ms _ _) hsz) (_hz' := hz') e rfl ?_)
  refine AF (wpAny_letGo ?_)
  first
    | exact AF (AQ (AQ ⟨.none, rfl, AQ h⟩))
    | exact AQ ⟨.none, rfl, AQ h⟩
end
section
variable {X:Cx}
end
end L2
namespace L2
open PySem PySem.Spec PyProof.Rows
theorem Vals.bls:∀{bs:List Bool}{us:List Value},Vals (bs.map V.bl) us→us=bs.map DM
 | [],us,h=>by
  rw[FQ] at h
  cases h
  rfl
 | b::bs,us,h=>by
  rw[Au] at h
  cases h with
  | cons r t =>
   cases r
   rw[Vals.bls t,Au]
theorem Vals.ref1 {a:Addr}{us:List Value} (r:Vals [V.ref a] us):us=[Az a]:=by
 cases r with
 | cons r t =>
  cases t
  cases r
  rfl
section
variable {prog:Program}{w:World}{A:Around}{E:Value→Shared→Prop}{s:Shared}{l:Addr}{its:List Value}{ns:List Int}{Q:Value→Shared→Prop}
end
section
variable {X:Cx}
end
section
variable {X:Cx}
def QS (K:AA):V→List V→Hp→VK→Prop:=fun x xs H Q=>∃(a:Addr) (ys:List V) (y:V) (j:Nat) (z:V),x=V.ref a∧xs=[y]∧SqL K H a ys∧CQ y=true∧ys.all CQ=true∧ys[j]?=some z∧eqV z y=true∧
 (∀(m:Nat) (z':V),m < j→ys[m]?=some z'→eqV z' y=false)∧Q (.int (j:Nat)) H
theorem Ob {ys:List V} (f:ys.all CQ=true) {j:Nat}{z:V} (h:ys[j]?=some z):CQ z=true:=Cg.mp f z (CV h)
theorem W5:MtR X "list.index" (QS X.K):=by
 intro pins s σ H x xs v us Q I rx rxs h
 obtain⟨a,ys,y,j,z,rfl,rfl,hs,fy,fys,hz,hzj,hno,q⟩:=h
 cases rx
 cases rxs with
 | cons ry rt =>
  rename_i uy ut
  cases rt
  obtain⟨its,rv,⟨⟨cls,dd,data,sl⟩,n,ho,hc,hdn,hd⟩,hlen⟩:=I.list hs
  simp only at hc hd
  subst hc hd
  obtain⟨u,hu,ru⟩:=rv.get hz
  obtain⟨hjl,hje⟩:=Bd.mp hu
  have hvl:=rv.length
  have hj:j < its.toArray.size:=by simpa using hjl
  have hsl:=KG
  refine KC UP ⟨_,ho,rfl⟩ PySem.F.entry_list_index (PySem.F.args_list_index_2 _ _)
   (SeqAt.list_indexAt a its.toArray n dd sl uy (eqU y) j hj (by omega) ?_ ?_) ⟨ho,fun u' hu'=>HB ry fy rv fys u' (by simpa using hu'),?_⟩
  ·have e1:its.toArray[j]=u:=by simpa using hje
   rw[e1,Gx ru (Ob fys hz)]
   exact hzj
  ·intro m hm hmj
   have hml:m < its.length:=by simpa using hm
   have hmy:m < ys.length:=by omega
   have hy':ys[m]?=some ys[m]:=BD hmy
   obtain⟨u2,hu2,ru2⟩:=rv.get hy'
   obtain⟨_,hme⟩:=Bd.mp hu2
   have e1:its.toArray[m]=u2:=by simpa using hme
   rw[e1,Gx ru2 (Ob fys hy')]
   exact hno m _ hmj hy'
  ·exact⟨.int (j:Nat),H,I.tok _,⟨_,rfl⟩,q⟩
end
section
variable {X:Cx}
end
theorem PJ {prog:Program}{w:World}{A:Around}{E:Value→Shared→Prop}{s:Shared}{l:Addr}{items:Array Value}{Q:Value→Shared→Prop} (hl:s.heap.IsList l items)
  (h:∀s₂:Shared,s₂={ s with heap:=s.heap.push { cls:=.type "list_iterator",data:=.fields #[.ref l,.int 0 0] } }→
   (s₂.heap.IsListIter s.heap.objs.size l 0∧s₂.heap.IsList l items)→l≠s.heap.objs.size→Q (.ref s.heap.objs.size) s₂):wpAny (model prog w) A (pyIter (.ref l)) Q E s:=by
 have hlt:l < s.heap.objs.size:=by obtain⟨_,e,_⟩:=hl;exact Ao e
 exact Uu hl (h _ rfl ⟨⟨_,BQ _ rfl,rfl,rfl⟩,hl.push _⟩ (BM hlt))
theorem Sy {prog:Program}{w:World}{A:Around}{bs:List Bool}{its:List Value} (e:its=bs.map DM):
  TruthOf prog w A (fun i v=>its.toArray[i]?=some v) (fun i=>bs.getD i false):=fun i v s Q E hv hq=>by
 have hv':its[i]?=some v:=by simpa using hv
 rw[e,Aj] at hv'
 obtain⟨b,hb,rfl⟩:=GY.mp hv'
 have hg:bs.getD i false=b:=by rw[Ej,hb] <;> rfl
 have hq':Q (bs.getD i false) s:=hq
 rw[hg] at hq'
 exact EK hq'
theorem Np:∀bs:List Bool,(CW bs.length).any (fun i=>bs.getD i false)=bs.any id
 | []=>rfl
 | b::bs=>by
  rw[B1,Jj,DK,GV,DK,← Np bs]
  all_goals rfl
theorem Nl:∀bs:List Bool,(CW bs.length).all (fun i=>bs.getD i false)=bs.all id
 | []=>rfl
 | b::bs=>by
  rw[B1,Jj,GU,FN,GU,← Nl bs]
  all_goals rfl
section
variable {X:Cx}
def Xr (K:AA):List V→Hp→VK→Prop:=fun vs H Q=>∃(a:Addr) (bs:List Bool),vs=[V.ref a]∧SqL K H a (bs.map V.bl)∧Q (.bl (bs.any id)) H
def Xq (K:AA):List V→Hp→VK→Prop:=fun vs H Q=>∃(a:Addr) (bs:List Bool),vs=[V.ref a]∧SqL K H a (bs.map V.bl)∧Q (.bl (bs.all id)) H
theorem N9 (hc:X.calm=true):Dy X (.builtin "any") (Xr X.K):=by
 intro pins s σ H vs us Q I r h
 obtain⟨a,bs,rfl,hs,q⟩:=h
 obtain⟨its,rv,hl,_⟩:=I.list hs
 rw[Vals.ref1 r]
 have hb:=rv.bls
 refine call_any_walk (PJ hl.isList fun s₂ e2 st hne=>?_)
 subst e2
 refine⟨_,_,_,_,_,_,_,rfl,Walks.list (A:=X.A.in1) (I.ok.hd hc) _ a hne its.toArray,st,Sy hb,fun h' tk hk=>?_⟩
 refine⟨.bl _,H,I.kept fun b o eo=>hk b o (fun hmem=>?_) (BE _ eo),?_,q⟩
 ·rcases AS.mp hmem with e1 | hmem
  ·exact absurd (e1▸Ao eo) (Cp _)
  ·cases hmem
 ·show DM _=DM _
  rw[← Np,hb,Be,AG]
theorem IE (hc:X.calm=true):Dy X (.builtin "all") (Xq X.K):=by
 intro pins s σ H vs us Q I r h
 obtain⟨a,bs,rfl,hs,q⟩:=h
 obtain⟨its,rv,hl,_⟩:=I.list hs
 rw[Vals.ref1 r]
 have hb:=rv.bls
 refine call_all_walk (PJ hl.isList fun s₂ e2 st hne=>?_)
 subst e2
 refine⟨_,_,_,_,_,_,_,rfl,Walks.list (A:=X.A.in1) (I.ok.hd hc) _ a hne its.toArray,st,Sy hb,fun h' tk hk=>?_⟩
 refine⟨.bl _,H,I.kept fun b o eo=>hk b o (fun hmem=>?_) (BE _ eo),?_,q⟩
 ·rcases AS.mp hmem with e1 | hmem
  ·exact absurd (e1▸Ao eo) (Cp _)
  ·cases hmem
 ·show DM _=DM _
  rw[← Nl,hb,Be,AG]
end
mutual
inductive Dp (K:AA) (H:Hp):V→PyData→Prop
 | non:Dp K H .non .none
 | bl (b:Bool):Dp K H (.bl b) (.bool b)
 | int (i:Int):Dp K H (.int i) (.int i)
 | str (x:Str):Dp K H (.str x) (.str x)
 | lst {a:Addr} {xs:List V} {ds:List PyData}:SqL K H a xs→Ff K H xs ds→Dp K H (.ref a) (.list ds)
 | tup {a:Addr} {xs:List V} {ds:List PyData}:SqT K H a xs→Ff K H xs ds→Dp K H (.ref a) (.tuple ds)
inductive Ff (K:AA) (H:Hp):List V→List PyData→Prop
 | nil:Ff K H [] []
 | cons {v:V} {vs:List V} {d:PyData} {ds:List PyData}:Dp K H v d→Ff K H vs ds→Ff K H (v::vs) (d::ds)
end
section
variable {X:Cx}{pins:List (Addr×Obj)}{σ:St}{H:Hp}{s:Shared}
mutual
theorem Dp.reads (I:Inv X pins σ H s):∀(d:PyData) (v:V) (u:Value),Dp X.K H v d→RelV v u→∃as,Reads s.heap u d as
 | .none,_,_,h,r=>by
  cases h
  cases r
  exact⟨_,Reads.none⟩
 | .bool b,_,_,h,r=>by
  cases h
  cases r
  exact⟨_,Reads.bool b⟩
 | .int i,_,_,h,r=>by
  cases h
  obtain⟨t,rfl⟩:=r
  exact⟨_,Reads.int i t⟩
 | .str x,_,_,h,r=>by
  cases h
  obtain⟨t,rfl⟩:=r
  exact⟨_,Reads.str x t⟩
 | .list ds,_,_,h,r=>by
  cases h with
  | lst hs ha =>
   cases r
   obtain⟨its,rv,⟨o,n,ho,hc,_,hd⟩,_⟩:=I.list hs
   obtain⟨as,hr⟩:=Dp.readsAll I ds _ its ha rv
   exact⟨_,Reads.list ho hc hd hr⟩
 | .tuple ds,_,_,h,r=>by
  cases h with
  | tup hs ha =>
   cases r
   obtain⟨its,rv,⟨o,ho,hc,n,hd⟩,_⟩:=I.tuple hs
   obtain⟨as,hr⟩:=Dp.readsAll I ds _ its ha rv
   exact⟨_,Reads.tuple ho hc hd hr⟩
 | .dict _,_,_,h,_=>by cases h
theorem Dp.readsAll (I:Inv X pins σ H s):∀(ds:List PyData) (vs:List V) (us:List Value),Ff X.K H vs ds→Vals vs us→∃as,ReadsAll s.heap us ds as
 | [],_,_,h,r=>by
  cases h
  cases r
  exact⟨_,ReadsAll.nil⟩
 | d::ds,_,_,h,r=>by
  cases h with
  | cons h1 h2 =>
   cases r with
   | cons r1 r2 =>
    obtain⟨as,q1⟩:=Dp.reads I d _ _ h1 r1
    obtain⟨bs,q2⟩:=Dp.readsAll I ds _ _ h2 r2
    exact⟨_,ReadsAll.cons q1 q2⟩
end
end
section
variable {X:Cx}
def Xv (K:AA):R2:=fun x y H Q=>∃d e,Dp K H x d∧Dp K H y e∧Hq d=true∧Hq e=true∧Q (.bl (En d e)) H
def Xy (K:AA):R2:=fun x y H Q=>∃d e,Dp K H x d∧Dp K H y e∧Hq d=true∧Hq e=true∧Q (.bl (!En d e)) H
theorem EX (hu:X.A.units+64 < cLine):OpR X (compareOp .Eq) (Xv X.K):=by
 intro pins s σ H x y v u Q I rx ry h
 obtain⟨d,e,hd,he,sd,se,q⟩:=h
 obtain⟨as,r1⟩:=Dp.reads I d x v hd rx
 obtain⟨bs,r2⟩:=Dp.reads I e y u he ry
 exact SeqAt.compareEq_shaped r1 r2 sd se hu ⟨.bl _,H,I,rfl,q⟩
theorem HE (hu:X.A.units+64 < cLine):OpR X (compareOp .NotEq) (Xy X.K):=by
 intro pins s σ H x y v u Q I rx ry h
 obtain⟨d,e,hd,he,sd,se,q⟩:=h
 obtain⟨as,r1⟩:=Dp.reads I d x v hd rx
 obtain⟨bs,r2⟩:=Dp.reads I e y u he ry
 exact SeqAt.compareNe_shaped r1 r2 sd se hu ⟨.bl _,H,I,rfl,q⟩
end
end L2
namespace L2
open PySem PySem.Spec PyProof.Rows
abbrev Na (h:Heap) (c:Addr) (v:Option Value):Prop:=h.IsCell c v
def X8 (scope sc:Scope):Scope :=
 { scope with names:=scope.names.map fun (n,k)=>if (k==.free&&sc.kind==.function&&sc.names.lookup n==some .cell) then (n,.cell) else (n,k) }
def Bi (cells:List (Str×Addr)):List (Str×NameKind)→List (Str×Addr)→List (Str×Addr)
 | [],acc=>acc
 | (n,k)::r,acc=>if k==.free then Bi cells r ((n,(cells.lookup n).getD 0)::acc) else Bi cells r acc
theorem N5 (env:Env) (f:Str×NameKind→List (Str×Addr)→Sem (ForInStep (List (Str×Addr))))
  (hf:∀n k c,f (n,k) c=if k==.free then (do let a ← cellOf env n;pure (.yield ((n,a)::c))) else pure (.yield c)):
  ∀(names:List (Str×NameKind)) (acc:List (Str×Addr)),(∀y∈names,y.2=.free→∃c,env.cells.lookup y.1=some c)→forIn names acc f=pure (Bi env.cells names acc)
 | [],acc,_=>by rw[List.forIn_nil];rfl
 | (n,k)::r,acc,h=>by
  rw[List.forIn_cons,hf]
  have ih:=fun acc=>N5 env f hf r acc fun y hy=>h y (As _ hy)
  unfold Bi
  by_cases hk:(k==EI)=true
  ·rw[if_pos hk,if_pos hk]
   obtain⟨c,hc⟩:=h (n,k) AU (by simpa using hk)
   have e:cellOf env n=pure c:=by unfold cellOf;rw[hc]
   rw[e]
   have e2:(env.cells.lookup n).getD 0=c:=by rw[hc];rfl
   rw[e2]
   exact ih _
  ·rw[if_neg hk,if_neg hk]
   exact ih _
theorem VQ {scope:Scope}{env:Env} (h:∀y∈scope.names,y.2=.free→∃c,env.cells.lookup y.1=some c):closureFor scope env=pure (Bi env.cells scope.names []):=by
 simp only[closureFor]
 rw[N5 env _ (fun n k c=>rfl) scope.names [] h]
 rfl
theorem LC {α:Type}:∀{l:List (Str×α)}{n:Str}{c:α},(n,c)∈l→∃c',l.lookup n=some c'
 | (k,v)::r,n,c,h=>by
  rw[DZ]
  cases hb:n==k with
  | true=>exact⟨_,rfl⟩
  | false =>
   rcases AS.mp h with e | h
   ·cases e;simp at hb
   ·exact LC h
theorem IC {cells:List (Str×Addr)}:∀{names:List (Str×NameKind)}{acc:List (Str×Addr)}{n:Str}{c:Addr},(n,c)∈Bi cells names acc→(n,c)∈acc∨((n,.free)∈names∧c=(cells.lookup n).getD 0)
 | [],_,_,_,h=>.inl h
 | (m,k)::r,acc,n,c,h=>by
  unfold Bi at h
  split at h
  ·rename_i hk
   have hk:k=.free:=by simpa using hk
   rcases IC h with h | ⟨h1,h2⟩
   ·rcases AS.mp h with e | h
    ·cases e;exact .inr ⟨hk▸AU,rfl⟩
    ·exact .inl h
   ·exact .inr ⟨As _ h1,h2⟩
  ·rcases IC h with h | ⟨h1,h2⟩
   ·exact .inl h
   ·exact .inr ⟨As _ h1,h2⟩
theorem Kk {cells:List (Str×Addr)}:∀{names:List (Str×NameKind)}{acc:List (Str×Addr)}{p:Str×Addr},p∈acc→p∈Bi cells names acc
 | [],_,_,h=>h
 | (m,k)::r,acc,p,h=>by
  unfold Bi
  split
  ·exact Kk (As _ h)
  ·exact Kk h
theorem Kl {cells:List (Str×Addr)}:∀{names:List (Str×NameKind)}{acc:List (Str×Addr)}{n:Str},(n,.free)∈names→(n,(cells.lookup n).getD 0)∈Bi cells names acc
 | (m,k)::r,acc,n,h=>by
  unfold Bi
  rcases AS.mp h with e | h
  ·cases e
   exact Kk AU
  ·split
   ·exact Kl h
   ·exact Kl h
theorem Gs:∀{names:List (Str×NameKind)}{h:Heap}{acc:List (Str×Addr)}{x:Str}{c:Addr},(x,c)∈cellsFrom h.objs.size names acc→
  (x,c)∈acc∨((x,.cell)∈names∧h.objs.size≤c∧Na (pushCells h names) c none)
 | [],_,_,_,_,h=>.inl h
 | (n,k)::r,h,acc,x,c,hm=>by
  unfold cellsFrom at hm
  unfold pushCells
  split at hm
  ·rename_i hk
   rw[if_pos hk]
   have hk:k=.cell:=by simpa using hk
   rw[← Cq h { cls:=.type "cell",data:=.cell none }] at hm
   rcases Gs hm with hm | ⟨h1,h2,h3⟩
   ·rcases AS.mp hm with e | hm
    ·cases e
     exact .inr ⟨hk▸AU,AV _,_,KD r _ _ _ (BQ _ rfl),rfl⟩
    ·exact .inl hm
   ·rw[Cq] at h2
    exact .inr ⟨As _ h1,Jn h2,h3⟩
  ·rename_i hk
   rw[if_neg hk]
   rcases Gs hm with hm | ⟨h1,h2,h3⟩
   ·exact .inl hm
   ·exact .inr ⟨As _ h1,h2,h3⟩
theorem IB:∀{names:List (Str×NameKind)}{n:Nat}{acc:List (Str×Addr)}{p:Str×Addr},p∈acc→p∈cellsFrom n names acc
 | [],_,_,_,h=>h
 | (m,k)::r,n,acc,p,h=>by
  unfold cellsFrom
  split
  ·exact IB (As _ h)
  ·exact IB h
theorem Ki:∀{names:List (Str×NameKind)}{n:Nat}{acc:List (Str×Addr)}{x:Str},(x,.cell)∈names→∃c,(x,c)∈cellsFrom n names acc
 | (m,k)::r,n,acc,x,h=>by
  unfold cellsFrom
  rcases AS.mp h with e | h
  ·cases e
   exact⟨n,IB AU⟩
  ·split
   ·exact Ki h
   ·exact Ki h
theorem Kj:∀{names:List (Str×NameKind)}{h:Heap}{acc:List (Str×Addr)}{x y:Str}{c:Addr},(∀p∈acc,p.2 < h.objs.size)→(∀x y c,(x,c)∈acc→(y,c)∈acc→x=y)→
  (x,c)∈cellsFrom h.objs.size names acc→(y,c)∈cellsFrom h.objs.size names acc→x=y
 | [],_,_,_,_,_,_,hi,h1,h2=>hi _ _ _ h1 h2
 | (n,k)::r,h,acc,x,y,c,hl,hi,h1,h2=>by
  unfold cellsFrom at h1 h2
  split at h1
  ·rename_i hk
   rw[if_pos hk] at h2
   rw[← Cq h { cls:=.type "cell",data:=.cell none }] at h1 h2
   refine Kj (h:=h.push _) (fun p hp=>?_) (fun x y c a b=>?_) h1 h2
   ·rw[Cq]
    rcases AS.mp hp with rfl | hp
    ·exact Mt _
    ·exact Jq (hl p hp)
   ·rcases AS.mp a with e | a <;> rcases AS.mp b with e' | b
    ·cases e;cases e';rfl
    ·cases e;exact absurd (hl _ b) (Cp _)
    ·cases e';exact absurd (hl _ a) (Cp _)
    ·exact hi _ _ _ a b
  ·rename_i hk
   rw[if_neg hk] at h2
   exact Kj hl hi h1 h2
theorem W9 {M:Model}{A:Around}{E:Value→Shared→Prop}{s:Shared}{scope:Scope}{globals:Addr}{closure:List (Str×Addr)}{qual:Str}{func:Option Addr}{code:Value}{around:Env}{builtins:Addr}{Q:Env→Shared→Prop}
  (h:Q (newEnv scope s.heap.objs.size globals (cellsFrom (s.heap.objs.size+1) scope.names closure) qual func code (some around) builtins)
   { s with heap:=pushCells (s.heap.push { cls:=.type "dict",data:=.dict #[] }) scope.names }):
  wpAny M A (newFunctionEnv scope globals closure [] qual func code (some around) builtins) Q E s:=by
 simp only[newFunctionEnv,T2,if_true]
 refine AF (wpAny_alloc ?_)
 refine AF (wpAny_layCells _ (fun n k c=>rfl) scope.names closure _ _ ?_)
 rw[show({ s with heap:=s.heap.push { cls:=.type "dict",data:=.dict #[] } }:Shared).heap.objs.size=s.heap.objs.size+1 from Cq ..]
 rw[List.forIn_nil]
 exact AF (AQ (AQ h))
theorem LB {sc:Scope}:∀{names:List (Str×NameKind)}{x:Str}{k:NameKind},
  (names.map fun (n,k)=>if (k==EI&&sc.kind==.function&&sc.names.lookup n==some .cell) then (n,NA) else (n,k)).lookup x=some k→
  ∃k',names.lookup x=some k'∧(k=k'∨(k'=.free∧k=.cell))
 | [],_,_,h=>by simp at h
 | (n,k₀)::r,x,k,h=>by
  have ih:=@LB sc r x k
  have h':Ek x ((if (k₀==EI&&sc.kind==.function&&sc.names.lookup n==some .cell)=true then (n,NA) else (n,k₀))::(r.map _))=some k:=h
  cases hx:x==n with
  | true =>
   simp only[DZ,hx]
   by_cases hc:(k₀==EI&&sc.kind==.function&&sc.names.lookup n==some .cell)=true
   ·rw[if_pos hc] at h'
    simp only[DZ,hx] at h'
    cases h'
    simp only[BI,beq_iff_eq] at hc
    exact⟨k₀,rfl,.inr ⟨hc.1.1,rfl⟩⟩
   ·rw[if_neg hc] at h'
    simp only[DZ,hx] at h'
    cases h'
    exact⟨_,rfl,.inl rfl⟩
  | false =>
   simp only[DZ,hx]
   by_cases hc:(k₀==EI&&sc.kind==.function&&sc.names.lookup n==some .cell)=true
   ·rw[if_pos hc] at h'
    simp only[DZ,hx] at h'
    exact ih h'
   ·rw[if_neg hc] at h'
    simp only[DZ,hx] at h'
    exact ih h'
structure Hv (N:List Str) (sc scope:Scope) (own:List (Str×Nat)):Prop where
 kind:scope.kind=.function
 uniq:∀y∈scope.names,scope.names.lookup y.1=some y.2
 ix:∀p∈own,N[p.2]?=some p.1
 free:∀y∈scope.names,y.2=.free→sc.names.lookup y.1=some .cell∨sc.names.lookup y.1=some .free
 own:∀y∈scope.names,y.2=.local∨y.2=.cell→y.1∈own.map (·.1)∨y.1∉N
def BC (σ:St):List Nat→St
 | []=>σ
 | v::vs=>(BC σ vs).set v none
theorem ML (σ:St):∀vs:List Nat,(BC σ vs).length=σ.length
 | []=>rfl
 | v::vs=>by unfold BC;rw[List.length_set,ML σ vs]
theorem MM {σ:St}{i:Nat}{x:V}:∀{vs:List Nat},(BC σ vs)[i]?=some (some x)→σ[i]?=some (some x)∧i∉vs
 | [],h=>⟨h,by simp⟩
 | v::vs,h=>by
  unfold BC at h
  by_cases hi:v=i
  ·subst hi
   by_cases hv:v < (BC σ vs).length
   ·rw[Mi hv] at h;cases h
   ·rw[Th (by simpa using hv)] at h;cases h
  ·rw[Mh hi] at h
   obtain⟨h1,h2⟩:=MM h
   exact⟨h1,by simp only[AS,not_or];exact⟨fun e=>hi e.symm,h2⟩⟩
abbrev Cx.blk (X:Cx) (s:Shared) (H:Hp) (scope:Scope) (cenv:Env) (fp:List Addr):Cx:={ X with s_0:=s,H_0:=H,env:=cenv,outer:=X.stack,ex:=fp,fn:=fun x=>scope.names.lookup x==some .cell,pn:=[],xe:=fun _ _=>False }
section
variable {X:Cx}{pins:List (Addr×Obj)}{σ:St}{H:Hp}{s:Shared}
theorem VG {scope:Scope}{own:List (Str×Nat)}{fp:List Addr} (I:Inv X pins σ H s) (ok:Hv X.N X.env.scope scope own) (hN:X.N.Nodup) (hfp:∀b∈fp,DN X pins H b∧b < s.heap.objs.size):
  Inv (X.blk s H scope (compEnvC scope (cellsFrom (s.heap.objs.size+1) scope.names (Bi X.env.cells scope.names [])) s.heap.objs.size X.env) fp) [] (BC σ (own.map (·.2))) H { s with heap:=pushCells (s.heap.push { cls:=.type "dict",data:=.dict #[] }) scope.names }:=by
 have hfree:∀y∈scope.names,y.2=.free→∃c,X.env.cells.lookup y.1=some c:=fun y hy e=>by
  rcases ok.free y hy e with k | k
  ·exact I.ok.has _ (.inl k)
  ·exact I.ok.has _ (.inr k)
 generalize hcenv:compEnvC scope (cellsFrom (s.heap.objs.size+1) scope.names (Bi X.env.cells scope.names [])) s.heap.objs.size X.env=cenv
 have kp:∀b o,s.heap.get? b=some o→(pushCells (s.heap.push { cls:=.type "dict",data:=.dict #[] }) scope.names).get? b=some o:=fun b o e=>KD _ _ _ _ (BE _ e)
 have hL:cenv.locals=s.heap.objs.size:=by rw[← hcenv];rfl
 have hcl:cenv.cells=cellsFrom (s.heap.objs.size+1) scope.names (Bi X.env.cells scope.names []):=by rw[← hcenv];rfl
 have hsc:cenv.scope=X8 scope X.env.scope:=by rw[← hcenv];rfl
 rw[← Cq s.heap { cls:=.type "dict",data:=.dict #[] }] at hcl
 have cm:∀{y c},(y,c)∈Bi X.env.cells scope.names []→X.env.cells.lookup y=some c∧c < s.heap.objs.size:=fun {y c} hm=>by
  rcases IC hm with hm | ⟨h1,rfl⟩
  ·cases hm
  ·obtain⟨c,hc⟩:=hfree _ h1 rfl
   rw[hc]
   obtain⟨w,z⟩:=I.cell _ _ hc
   exact⟨rfl,z.lt⟩
 have mem:∀{y c},cenv.cells.lookup y=some c→(X.env.cells.lookup y=some c∧c < s.heap.objs.size)∨(s.heap.objs.size+1≤c∧Na (pushCells (s.heap.push { cls:=.type "dict",data:=.dict #[] }) scope.names) c none):=fun {y c} e=>by
  rw[hcl] at e
  rcases Gs (Bg e) with hm | ⟨_,h2,h3⟩
  ·exact .inl (cm hm)
  ·rw[Cq] at h2;exact .inr ⟨h2,h3⟩
 have look:∀{y},scope.names.lookup y=some .free→∃c,cenv.cells.lookup y=some c∧X.env.cells.lookup y=some c:=fun {y} hl=>by
  have hy:(y,EI)∈scope.names:=Bg hl
  obtain⟨c',e'⟩:=LC (IB (names:=scope.names) (n:=(s.heap.push { cls:=.type "dict",data:=.dict #[] }).objs.size) (Kl (cells:=X.env.cells) (acc:=[]) hy))
  rw[← hcl] at e'
  refine⟨c',e',?_⟩
  rw[hcl] at e'
  rcases Gs (Bg e') with hm | ⟨h1,_,_⟩
  ·exact(cm hm).1
  ·have:=ok.uniq _ h1
   rw[hl] at this;cases this
 have okB:(X.blk s H scope cenv fp).Ok:=by
  refine⟨I.ok.mod,by show cenv.scope.kind=_;rw[hsc];exact ok.kind,by show cenv.globals=_;rw[← hcenv];exact I.ok.glob,by show cenv.builtins=_;rw[← hcenv];exact I.ok.blt,by show s.heap.objs.size≤cenv.locals;rw[hL];exact AV _,
   fun y z c e1 e2=>?_,fun y hy=>?_,fun y c z e=>?_,I.ok.hd,I.ok.frames,.inl rfl,fun b hb=>⟨?_,fun y c e z=>?_⟩,I.bs,Ba I.ok.bsz I.sz,fun b o e hb=>?_,fun b hb z=>?_,I.stack,I.stkFree⟩
  ·have e1:cenv.cells.lookup y=some c:=e1
   have e2:cenv.cells.lookup z=some c:=e2
   rw[hcl] at e1 e2
   refine Kj (fun p hp=>?_) (fun y z c a b=>I.ok.inj y z c (cm a).1 (cm b).1) (Bg e1) (Bg e2)
   rw[Cq]
   exact Jq (cm (y:=p.1) (c:=p.2) hp).2
  ·show ∃c,cenv.cells.lookup y=some c
   have key:∀k,cenv.kindOf y=some k→(k=.cell∨k=.free)→∃c,cenv.cells.lookup y=some c:=fun k hk hk'=>by
    unfold Env.kindOf at hk
    rw[hsc] at hk
    obtain⟨k',e,r⟩:=LB hk
    have:k'=.cell∨k'=.free:=by
     rcases r with rfl | ⟨rfl,_⟩
     ·exact hk'
     ·exact .inr rfl
    rcases this with rfl | rfl
    ·obtain⟨c,hm⟩:=Ki (n:=(s.heap.push { cls:=.type "dict",data:=.dict #[] }).objs.size) (acc:=Bi X.env.cells scope.names []) (Bg e)
     obtain⟨c',e'⟩:=LC hm
     exact⟨c',by rw[hcl];exact e'⟩
    ·obtain⟨c,h1,_⟩:=look e
     exact⟨c,h1⟩
   rcases hy with hy | hy
   ·exact key _ hy (.inl rfl)
   ·exact key _ hy (.inr rfl)
  ·have z:(scope.names.lookup y==some NA)=true:=z
   have z:scope.names.lookup y=some .cell:=by simpa using z
   have e:cenv.cells.lookup y=some c:=e
   rw[hcl] at e
   rcases Gs (Bg e) with hm | ⟨_,h2,_⟩
   ·rcases IC hm with hm | ⟨h1,_⟩
    ·cases hm
    ·have q:=ok.uniq _ h1
     rw[z] at q;cases q
   ·rw[Cq] at h2
    exact Jn h2
  ·show b≠cenv.locals
   rw[hL];exact BM (hfp b hb).2
  ·have e:cenv.cells.lookup y=some c:=e
   rcases mem e with ⟨h1,_⟩ | ⟨h1,_⟩
   ·exact(hfp b hb).1.2.2.2.2.1 y c h1 z
   ·have h2:s.heap.objs.size+1≤b:=by rw[← z];exact h1
    exact absurd (BV (hfp b hb).2 (Jn h2)) (Cp _)
  ·rcases(hfp b hb).1.2.2.2.1 with z | z
   ·exact I.ok.noex b o e z
   ·exact absurd (BV (Ao e) (Ba I.ok.bsz z)) (Cp _)
  ·rcases AS.mp (I.stkSub b z) with z | z
   ·exact(hfp b hb).1.2.1 z
   ·exact(hfp b hb).1.2.2.1 z
 refine⟨okB,rfl,I.bare,Un.kept kp,⟨fun _=>none,?_,fun i y av e1 e2 e3=>?_⟩,fun y c e=>?_,?_,fun y c e=>?_,fun p hp=>?_,I.hok.kept kp,by rw[ML];exact I.len⟩
 ·show Heap.Ns _ cenv.locals _
  rw[hL]
  exact Heap.Ns.keeps (Heap.Ns.new ..) fun b o e=>KD _ _ _ _ e
 ·obtain⟨e2,hne⟩:=MM e2
  have hfr:scope.names.lookup y=some .free∧(cenv.kindOf y=some .cell∨cenv.kindOf y=some .free):=by
   have key:∀k,cenv.scope.names.lookup y=some k→k=.local∨k=.cell∨k=.free→scope.names.lookup y=some .free∧(cenv.kindOf y=some .cell∨cenv.kindOf y=some .free):=fun k hk hk'=>by
    have hk0:=hk
    rw[hsc] at hk
    obtain⟨k',e,r⟩:=LB hk
    have no:¬(k'=.local∨k'=.cell):=fun hh=>by
     rcases ok.own _ (Bg e) hh with e' | e'
     ·obtain⟨p,hp,hpy⟩:=BP.mp e'
      have e3:=ok.ix p hp
      have:p.1=y:=hpy
      rw[this] at e3
      exact hne (BP.mpr ⟨p,hp,LN hN e3 e1⟩)
     ·exact e' (CV e1)
    rcases r with rfl | ⟨rfl,rfl⟩
    ·rcases hk' with rfl | rfl | rfl
     ·exact absurd (.inl rfl) no
     ·exact absurd (.inr rfl) no
     ·exact⟨e,.inr hk0⟩
    ·exact⟨e,.inl hk0⟩
   have e3:Vis cenv.scope y:=e3
   rcases e3 with e3 | e3 | e3
   ·exact key _ e3 (.inl rfl)
   ·exact key _ e3 (.inr (.inl rfl))
   ·exact key _ e3 (.inr (.inr rfl))
  obtain⟨m,hn,hl⟩:=I.loc
  have hvis:Vis X.env.scope y:=(ok.free _ (Bg hfr.1) rfl).elim (fun k=>.inr (.inl k)) (fun k=>.inr (.inr k))
  obtain⟨w,r,q⟩:=hl i y av e1 e2 hvis
  refine⟨w,r,.inr ⟨hfr.2,?_⟩⟩
  obtain⟨c,h1,h2⟩:=look hfr.1
  rcases q with ⟨k,_⟩ | ⟨_,c',e',z⟩
  ·have k:X.env.scope.names.lookup y=some .local:=k
   rcases ok.free _ (Bg hfr.1) rfl with k' | k' <;> rw[show X.env.scope.names.lookup y=_ from k'] at k <;> cases k
  ·rw[h2] at e';cases e'
   exact⟨c,h1,z.keeps kp⟩
 ·have e:cenv.cells.lookup y=some c:=e
  rcases mem e with ⟨h1,_⟩ | ⟨_,z⟩
  ·obtain⟨w,z⟩:=I.cell y c h1
   exact⟨w,z.keeps kp⟩
  ·exact⟨_,z⟩
 ·show H cenv.locals=none
  rw[hL];exact I.hok.fresh (AV _)
 ·have e:cenv.cells.lookup y=some c:=e
  rcases mem e with ⟨h1,_⟩ | ⟨h1,_⟩
  ·exact I.freeC y c h1
  ·exact I.hok.fresh (Jn h1)
 ·exact absurd (show p∈([]:List (Addr×Obj))++[] from hp) (by simp)
theorem U6 {E:Value→Shared→Prop}{D:Addr}{xs:List V}{y:V}{v:Value}{Q:Value→Shared→Prop} (I:Inv X pins σ H s) (hD:H D=some (.lst xs)) (hz:xs.length < sizeLine) (r:RelV y v)
  (h:∀s',Inv X pins σ (upd H D (.lst (xs++[y]))) s'→Q .none s'):wpAny (model X.prog X.w) X.A (call (.builtin "list.append") [.ref D,v]) Q E s:=by
 obtain⟨hz',its,n,ri,e⟩:=I.hok D _ hD
 have hl:=ri.length
 refine append_at (hsz:=by rw[Be];omega) e fun h' sb ho'=>?_
 refine h { s with heap:=h' } (I.write (t':=s.toks) (by rw[hD];trivial) (.inl rfl) (fun b u hb q=>(sb.2 b hb).trans q) ⟨_,ho'⟩ ⟨by rw[BO];exact hz,its++[v],n+1,ri.append (.cons r .nil),?_⟩)
 rw[ho']
 simp
def PTs (X:Cx) (ifs:List Expr) (t:TT):Prop :=
 ∀(pins:List (Addr×Obj)) (s:Shared) (σ:St) (H:Hp) (Q:Bool→Hp→Prop),Inv X pins σ H s→t σ H Q→
  wpAny (model X.prog X.w) X.A (forIn ifs true fun c r=>if r=true then do let ok ← isTrue c X.env (eval c X.env);pure (JX ok) else pure (JX r)) (TP X pins σ Q) X.xe s
def FD:TT:=fun _ H Q=>Q true H
theorem D9:PTs X [] FD:=fun _ _ _ H _ I h=>wpAny_tests_nil ⟨H,I,h⟩
theorem Xp {c:Expr}{t:TT} (h:PT X c t):PTs X [c] t:=fun pins s σ H Q I hw=>wpAny_tests_one (h pins s σ H Q I hw)
end
theorem GJ {α:Type}{t:Sem α}{Q Q':α→Shared→Prop}{M:Model}{A:Around}{E:Value→Shared→Prop}{s:Shared} (h:wpAny M A t Q (fun _ _=>False) s) (hQ:∀a s,Q a s→Q' a s):wpAny M A t Q' E s:=Cs h hQ fun _ _ z=>BL z
theorem VS {prog:Program}{w:World}{A:Around}{R:Result→Shared→Prop}{s:Shared}{elt target iter:Expr}{ifs:List Expr}{scope:Scope}{pos:Pos}{it acc:Value}{env:Env} (I:Nat→Shared→Prop)
  (turn:∀n s,I n s→wpAny (model prog w) A (pyNext it) (fun r s₁=>match r with
   | none=>R (.ok .next) s₁
   | some v=>wpAny (model prog w) A (letOwnedTupleGo target it v) (fun _ s₁'=>wpAny (model prog w) A (assign target env v) (fun _ s₂ =>
    wpAny (model prog w) A (forIn ifs true fun c r=>if r=true then do let ok ← isTrue c env (eval c env);pure (JX ok) else pure (JX r)) (fun ok s₃ =>
     if ok=true then wpAny (model prog w) A (eval elt env) (fun x s₄ =>
      wpAny (model prog w) A (call (.builtin "list.append") [acc,x]) (fun _ s₅=>∃m,m < n∧I m s₅) (notedBy (model prog w) A env fun e s'=>R (.error e) s') s₄) (notedBy (model prog w) A env fun e s'=>R (.error e) s') s₃
     else ∃m,m < n∧I m s₃) (notedBy (model prog w) A env fun e s'=>R (.error e) s') s₂) (notedBy (model prog w) A env fun e s'=>R (.error e) s') s₁') (notedBy (model prog w) A env fun e s'=>R (.error e) s') s₁) (notedBy (model prog w) A env fun e s'=>R (.error e) s') s)
  (n:Nat) (h:I n s):
  codeAny (model prog w) A (.compLoop (.ListComp elt [⟨target,iter,ifs,0⟩] scope pos) 0 it acc env) R s:=by
 refine codeAny_loop rfl I (fun n s hI=>?_) n h
 show wpAny _ A ((compTurn (.ListComp elt [⟨target,iter,ifs,0⟩] scope pos) 0 it acc env).onRaise (fun x=>do noteFrame x env;theTreesLotGoes x)) _ _ s
 refine wpAny_noted ?_
 rw[compTurn_list]
 refine AF (wpAny_standAt (AF (Cs (turn n s hI) (fun r s₁ h₁=>?_) fun _ _ h'=>h')))
 cases r with
 | none=>exact AQ h₁
 | some v =>
  refine AF (Cs h₁ (fun _ s₁' h₁'=>?_) fun _ _ h'=>h')
  refine AF (Cs h₁' (fun _ s₂ h₂=>AF (Cs h₂ (fun ok s₃ h₃=>?_) fun _ _ h'=>h')) fun _ _ h'=>h')
  cases ok with
  | false=>exact AQ ⟨rfl,h₃⟩
  | true =>
   exact AF (AF (Cs h₃ (fun x s₄ h₄=>AF (Cs h₄ (fun _ s₅ h₅=>AQ (AQ ⟨rfl,h₅⟩)) fun _ _ h'=>h')) fun _ _ h'=>h'))
section
variable {X:Cx}
def tLc (wi:TI) (g:TG) (tt:TT) (te:TE) (vs:List Nat):TE:=fun σ H Q=>wi σ H fun J H1=>∀D,H1 D=none→∃W:Nat→Nat→Hp→Prop,(∃m,W 0 m (upd H1 D (.lst [])))∧∀i m H,W i m H→
 (J.stop i H∧Q (.ref D) H)∨(J.go i H∧∃Nx:Hp→Prop,(∀H',Nx H'→∃m',m' < m∧W (i+1) m' H')∧∀x H',J.yld i H x H'→g x (BC σ vs) H' fun σ2 H2=>BC σ2 vs=BC σ vs∧tt σ2 H2 fun b H3 =>
  if b=true then te σ2 H3 fun y H4=>∃acc,H4 D=some (.lst acc)∧acc.length < sizeLine∧Nx (upd H4 D (.lst (acc++[y]))) else Nx H3)
theorem Wm {pins:List (Addr×Obj)}{s:Shared}{σ:St}{H:Hp}{Q:VK}{elt tg iter:Expr}{ifs:List Expr}{scope:Scope}{own:List (Str×Nat)}{pos pos':Pos}{wi:TI}{g:TG}{tt:TT}{te:TE}{use:Option (Value→Sem Unit)}{Qf:Value→Shared→Prop}
  (hc:X.calm=true) (hN:X.N.Nodup) (I:Inv X pins σ H s) (hi:PI X tg iter wi) (ok:Hv X.N X.env.scope scope own)
  (hg:∀(s:Shared) (H:Hp) (C:Addr) (cl:List (Str×Addr)) (fp:List Addr),PG (X.blk s H scope (compEnvC scope cl C X.env) fp) tg g) (ht:∀(s:Shared) (H:Hp) (C:Addr) (cl:List (Str×Addr)) (fp:List Addr),PTs (X.blk s H scope (compEnvC scope cl C X.env) fp) ifs tt)
  (he:∀(s:Shared) (H:Hp) (C:Addr) (cl:List (Str×Addr)) (fp:List Addr),PE (X.blk s H scope (compEnvC scope cl C X.env) fp) elt te) (hs:∀x,foldedSetIterable iter X.env x=pure x)
  (h:tLc wi g tt te (own.map (·.2)) σ H Q)
  (hRR:∀D C s' m H',Inv X pins σ H' s'→Q (.ref D) H'→s'.heap.Ns C m→DN X pins H' C→compPost (model X.prog X.w) X.A X.xe use Qf (.ref D) C (.ok .next) s'):
  wpAny (model X.prog X.w) X.A (comprehension (.ListComp elt [⟨tg,iter,ifs,0⟩] scope pos) scope X.env pos' (newList []) false (eval iter X.env) use) Qf X.xe s:=by
 have hfree:∀y∈scope.names,y.2=.free→∃c,X.env.cells.lookup y.1=some c:=fun y hy e=>by
  rcases ok.free y hy e with k | k
  ·exact I.ok.has _ (.inl k)
  ·exact I.ok.has _ (.inr k)
 refine wpAny_comprehension_free (use:=use) rfl hs (VQ hfree) ok.kind (fun y hy e=>by rw[ok.uniq y hy,e])
  (thn (hi pins s σ H _ I h) fun xv s1 hx=>thn hx fun itv s2 h2=>?_)
 obtain⟨it,fp,tn,J,H2,e,I2,T,st2,f2,q⟩:=h2
 subst e
 refine Gj (W9 ?_) (by show 0≤sizeLine;decide)
 generalize hD:s2.heap.objs.size=D
 have hDn:H2 D=none:=I2.hok.fresh (Hk hD)
 obtain⟨W,⟨m0,w0⟩,turn⟩:=q D hDn
 generalize hs3:({ s2 with heap:=s2.heap.push { cls:=.type "list",data:=.seq ([]:List Value).toArray } }:Shared)=s3
 have I3:Inv X pins σ (upd H2 D (.lst [])) s3:=by
  rw[← hs3]
  refine I2.laid (t':=s2.toks) (fun b o e=>BE _ e) (Hk hD) ⟨A5 _,[],0,.nil,?_⟩
  rw[← hD]
  exact BQ _ rfl
 have h3:s3.heap=s2.heap.push { cls:=.type "list",data:=.seq ([]:List Value).toArray }:=by rw[← hs3]
 have sz:∀b∈fp,b < s2.heap.objs.size:=fun b hb=>by
  obtain⟨o,e,_⟩:=T.obj _ _ st2 b hb
  exact Ao e
 have f3:∀b∈fp,DN X pins (upd H2 D (.lst [])) b∧b < s3.heap.objs.size:=fun b hb=>by
  have hlt:=sz b hb
  refine⟨⟨?_,(f2 b hb).2⟩,by rw[h3,Cq];exact Jq hlt⟩
  rw[AE (by rw[← hD];exact BM hlt)]
  exact(f2 b hb).1
 have st3:tn 0 s3.heap:=T.keep _ _ _ st2 fun b _ o e=>by rw[h3];exact BE _ e
 have I4:=VG I3 ok hN f3
 have pg:=hg s3 (upd H2 D (.lst [])) s3.heap.objs.size (cellsFrom (s3.heap.objs.size+1) scope.names (Bi X.env.cells scope.names [])) fp
 have pt:=ht s3 (upd H2 D (.lst [])) s3.heap.objs.size (cellsFrom (s3.heap.objs.size+1) scope.names (Bi X.env.cells scope.names [])) fp
 have pe:=he s3 (upd H2 D (.lst [])) s3.heap.objs.size (cellsFrom (s3.heap.objs.size+1) scope.names (Bi X.env.cells scope.names [])) fp
 show codeAny _ _ (.compStart (.ListComp elt [⟨tg,iter,ifs,0⟩] scope pos) 0 (.ref it) (.ref D) (compEnvC scope (cellsFrom (s3.heap.objs.size+1) scope.names (Bi X.env.cells scope.names [])) s3.heap.objs.size X.env)) (compPost (model X.prog X.w) X.A X.xe use Qf (.ref D) s3.heap.objs.size) { s3 with heap:=pushCells (s3.heap.push { cls:=.type "dict",data:=.dict #[] }) scope.names }
 have nfp:∀b∈fp,(upd H2 D (.lst [])) b=none:=fun b hb=>(f3 b hb).1.1
 generalize hce:compEnvC scope (cellsFrom (s3.heap.objs.size+1) scope.names (Bi X.env.cells scope.names [])) s3.heap.objs.size X.env=ce at I4 pg pt pe ⊢
 have cL:ce.locals=s3.heap.objs.size:=by subst hce;rfl
 generalize hH3:upd H2 D (.lst [])=H3 at I3 I4 pg pt pe w0 nfp f3
 generalize hs4:({ s3 with heap:=pushCells (s3.heap.push { cls:=.type "dict",data:=.dict #[] }) scope.names }:Shared)=s4 at I4 ⊢
 have st4:tn 0 s4.heap:=T.keep _ _ _ st3 fun b _ o e=>by rw[← hs4];exact KD _ _ _ _ (BE _ e)
 have stat:∀{σ':St} {H':Hp} {s':Shared},Inv (X.blk s3 H3 scope ce fp) [] σ' H' s'→(∀b∈fp,H' b=none)→∀b∈fp,DN (X.blk s3 H3 scope ce fp) [] H' b:=fun {σ' H' s'} I' hn b hb =>
  ⟨hn b hb,(I'.ok.exf b hb).1,I'.ok.exfs b hb,.inl hb,fun x c e=>(I'.ok.exf b hb).2 x c e,fun p hp=>absurd (show p∈([]:List (Addr×Obj))++[] from hp) (by simp)⟩
 have loop:codeAny (model X.prog X.w) X.A (.compLoop (.ListComp elt [⟨tg,iter,ifs,0⟩] scope pos) 0 (.ref it) (.ref D) ce) (compPost (model X.prog X.w) X.A X.xe use Qf (.ref D) s3.heap.objs.size) s4:=by
  refine VS (fun n s'=>∃i H',Inv (X.blk s3 H3 scope ce fp) [] (BC σ (own.map (·.2))) H' s'∧tn i s'.heap∧(∀b∈fp,H' b=none)∧W i n H') ?_ m0 ⟨0,H3,I4,st4,nfp,w0⟩
  rintro n s5 ⟨i,H5,I5,st5,n5,w5⟩
  rcases turn i n H5 w5 with ⟨stop,qq⟩ | ⟨go,Nx,hNx,step⟩
  ·have td:=T.done (X.blk s3 H3 scope ce fp) rfl rfl rfl hc i [] s5 _ H5 (fun _ _=>False) I5 (stat I5 n5) st5 stop
   refine GJ td fun r s6 ⟨hr,I6⟩=>?_
   subst hr
   have I7:Inv X pins σ H5 s6:=I3.call' (ch:=fp) I6.os I6.base I6.hok I6.bare fun b hb=>⟨(f3 b hb).1.2.2.2.1,(f3 b hb).1.2.1,(f3 b hb).1.2.2.2.2.1,(f3 b hb).1.2.2.2.2.2⟩
   have nC:H5 s3.heap.objs.size=none:=by
    have z:H5 ce.locals=none:=I6.free
    rw[cL] at z
    exact z
   obtain⟨m,hn,_⟩:=I6.loc
   have hn:s6.heap.Ns ce.locals m:=hn
   rw[cL] at hn
   exact hRR D s3.heap.objs.size s6 m H5 I7 qq hn (I3.fpOk (AV _) nC)
  ·have ti:=T.item (X.blk s3 H3 scope ce fp) rfl rfl rfl hc i [] s5 _ H5 (fun _ _=>False) I5 (stat I5 n5) st5 go
   refine GJ ti fun r s6 ⟨u,hr,h6⟩=>?_
   subst hr
   refine GJ h6 fun _ s7 ⟨x,H7,I7,r7,y7,st7,n7⟩=>?_
   have I7':=I7.pinned (stat I7 n7) (T.obj _ _ st7)
   refine GJ (pg _ s7 _ H7 x u _ I7' r7 (step x H7 y7)) fun _ s8 ⟨σ8,H8,I8,hw8,q8⟩=>?_
   refine GJ (pt _ s8 σ8 H8 _ I8 q8) fun b s9 ⟨H9,I9,q9⟩=>?_
   have fin:∀{s':Shared} {H':Hp},Inv (X.blk s3 H3 scope ce fp) ([]++HK fp s7.heap) σ8 H' s'→Nx H'→∃m,m < n∧∃i H',Inv (X.blk s3 H3 scope ce fp) [] (BC σ (own.map (·.2))) H' s'∧tn i s'.heap∧(∀b∈fp,H' b=none)∧W i m H':=fun {s' H'} I' nx=>by
    obtain⟨m',hm,w'⟩:=hNx H' nx
    have pin':∀b∈fp,∀o,s7.heap.get? b=some o→s'.heap.get? b=some o∧H' b=none:=fun b hb o e =>
     let z:=I'.pin (b,o) (EF _ (EF _ (LD hb e)))
     ⟨z.1,z.2.1⟩
    have hl:(BC σ (own.map (·.2))).length=σ8.length:=by rw[← hw8,ML]
    refine⟨m',hm,i+1,H',(I'.unpinned (pins:=[])).weak hl (fun j v e=>?_),T.keep _ _ _ st7 fun b hb o e=>(pin' b hb o e).1,fun b hb=>?_,w'⟩
    ·rw[← hw8] at e
     exact(MM e).1
    ·obtain⟨o,e,_⟩:=T.obj _ _ st7 b hb
     exact(pin' b hb o e).2
   cases b with
   | false =>
    simp only[Dn,if_false] at q9 ⊢
    exact fin I9 q9
   | true =>
    simp only[if_true] at q9 ⊢
    refine GJ (pe _ s9 σ8 H9 _ I9 q9) fun z s10 ⟨yv,H10,I10,r10,acc,hD10,hz10,nx⟩=>?_
    exact U6 (X:=X.blk s3 H3 scope ce fp) I10 hD10 hz10 r10 fun s11 I11=>fin I11 nx
 exact codeAny_compStart_list loop (T.self X.A 0 _ _ _ st4 loop)
theorem Dk {elt tg iter:Expr}{ifs:List Expr}{scope:Scope}{own:List (Str×Nat)}{pos:Pos}{wi:TI}{g:TG}{tt:TT}{te:TE} (hc:X.calm=true) (hN:X.N.Nodup) (hi:PI X tg iter wi) (ok:Hv X.N X.env.scope scope own)
  (hg:∀(s:Shared) (H:Hp) (C:Addr) (cl:List (Str×Addr)) (fp:List Addr),PG (X.blk s H scope (compEnvC scope cl C X.env) fp) tg g) (ht:∀(s:Shared) (H:Hp) (C:Addr) (cl:List (Str×Addr)) (fp:List Addr),PTs (X.blk s H scope (compEnvC scope cl C X.env) fp) ifs tt)
  (he:∀(s:Shared) (H:Hp) (C:Addr) (cl:List (Str×Addr)) (fp:List Addr),PE (X.blk s H scope (compEnvC scope cl C X.env) fp) elt te) (hs:∀x,foldedSetIterable iter X.env x=pure x:=by intro _;rfl):
  PE X (.ListComp elt [⟨tg,iter,ifs,0⟩] scope pos) (tLc wi g tt te (own.map (·.2))):=by
 intro pins s σ H Q I h
 rw[eval_ListComp]
 refine Wm hc hN I hi ok hg ht he hs h fun D C s' m H' I' q hn f=>⟨m,hn,fun h'' sb=>?_⟩
 obtain⟨f0,f1,f2,f3,f4,f5⟩:=f
 exact⟨.ref D,H',I'.turned (t':=s'.toks) (fun b o hb e=>(sb.2 b hb).trans e) f0 f1 f3 f4 f5,rfl,q⟩
end
def Nw (N:List Str) (sc scope:Scope) (own:List (Str×Nat)):Bool :=
 (match scope.kind with | .function=>true | _=>false)&&(scope.names.all fun y=>decide (scope.names.lookup y.1=some y.2))&&(own.all fun p=>decide (N[p.2]?=some p.1)) &&
  (scope.names.all fun y=>match y.2 with
   | .free=>(match sc.names.lookup y.1 with | some .cell=>true | some .free=>true | _=>false)
   | .local=>decide (y.1∈own.map (·.1)) || decide (y.1∉N)
   | .cell=>decide (y.1∈own.map (·.1)) || decide (y.1∉N)
   | _=>true)
theorem Df {N:List Str}{sc scope:Scope}{own:List (Str×Nat)} (h:Nw N sc scope own=true):Hv N sc scope own:=by
 unfold Nw at h
 simp only[BI,Cg,decide_eq_true_eq] at h
 obtain⟨⟨⟨h1,h2⟩,h3⟩,h4⟩:=h
 refine⟨?_,h2,h3,fun y hy e=>?_,fun y hy e=>?_⟩
 ·split at h1
  ·assumption
  ·cases h1
 ·have q:=h4 y hy
  simp only[e] at q
  split at q <;> first | exact .inl (by assumption) | exact .inr (by assumption) | cases q
 ·have q:=h4 y hy
  rcases e with e | e <;> (simp only[e,MQ,decide_eq_true_eq] at q;exact q)
end L2
namespace L2
open PySem PySem.Spec PyProof.Rows
section
variable {prog:Program}{w:World}{A:Around}{R:Result→Shared→Prop}{s:Shared}{elt t0 i0 t1 i1:Expr}{ifs0 ifs1:List Expr}{scope:Scope}{pos:Pos}{it acc:Value}{env:Env}
end
section
variable {X:Cx}
end
end L2
namespace L2
open PySem PySem.Spec PyProof.Rows
section
variable {κ:Type} [DecidableEq κ]
def Aq (kvs:List (κ×V)) (k:κ):Option V:=(kvs.find? fun kv=>decide (kv.1=k)).map (·.2)
def CD (kvs:List (κ×V)) (k:κ) (v:V):List (κ×V) :=
 if (kvs.any fun kv=>decide (kv.1=k))=true then kvs.map (fun kv=>if kv.1=k then (kv.1,v) else kv) else kvs++[(k,v)]
theorem Ce {p:κ×V}{r:List (κ×V)}{k:κ} (e:p.1=k):Aq (p::r) k=some p.2:=by simp[Aq,Dr,e]
theorem Cd {p:κ×V}{r:List (κ×V)}{k:κ} (e:¬p.1=k):Aq (p::r) k=Aq r k:=by simp[Aq,Dr,e]
theorem HS (k:κ):∀kvs:List (κ×V),(kvs.any fun kv=>decide (kv.1=k))=(Aq kvs k).isSome
 | []=>rfl
 | p::r=>by
  rw[DK]
  by_cases e:p.1=k
  ·simp only[Ce e,decide_eq_true e,MR,T2]
  ·rw[Cd e,decide_eq_false e,GP];exact HS k r
theorem S2 (k j:κ) (y:V):∀kvs:List (κ×V),Aq (kvs.map fun kv=>if kv.1=k then (kv.1,y) else kv) j=(Aq kvs j).map fun x=>if j=k then y else x
 | []=>rfl
 | p::r=>by
  have ih:=S2 k j y r
  rw[Au]
  by_cases h:p.1=k
  ·rw[if_pos h]
   by_cases e:p.1=j
   ·rw[Ce (p:=(p.1,y)) e,Ce e,FT,if_pos (e.symm.trans h)]
   ·rw[Cd (p:=(p.1,y)) e,Cd e,ih]
  ·rw[if_neg h]
   by_cases e:p.1=j
   ·rw[Ce (p:=p) e,Ce e,FT,if_neg (fun z=>h (e.trans z))]
   ·rw[Cd (p:=p) e,Cd e,ih]
theorem S3 (k j:κ) (y:V):∀kvs:List (κ×V),Aq kvs k=none→Aq (kvs++[(k,y)]) j=if j=k then some y else Aq kvs j
 | [],_=>by
  by_cases e:k=j
  ·rw[if_pos e.symm];exact Ce (p:=(k,y)) e
  ·rw[if_neg (fun z=>e z.symm)];exact Cd (p:=(k,y)) e
 | p::r,hn=>by
  rw[FP]
  have hk:¬p.1=k:=fun z=>by rw[Ce z] at hn;cases hn
  rw[Cd hk] at hn
  have ih:=S3 k j y r hn
  by_cases e:p.1=j
  ·rw[Ce e,Ce e,if_neg (fun z=>hk (e.trans z))]
  ·rw[Cd e,Cd e,ih]
theorem Zf (kvs:List (κ×V)) (k j:κ) (y:V):Aq (CD kvs k y) j=if j=k then some y else Aq kvs j:=by
 unfold CD
 by_cases a:(kvs.any fun kv=>decide (kv.1=k))=true
 ·rw[if_pos a,S2]
  rw[HS] at a
  by_cases e:j=k
  ·obtain⟨x,hx⟩:=Tz.mp a
   rw[if_pos e,e,hx,FT,if_pos rfl]
  ·rw[if_neg e]
   cases Aq kvs j with
   | none=>rfl
   | some x=>rw[FT,if_neg e]
 ·rw[if_neg a]
  refine S3 k j y kvs ?_
  rw[HS] at a
  cases q:Aq kvs k with
  | none=>rfl
  | some x=>rw[q] at a;exact(a rfl).elim
theorem K7 (kvs:List (κ×V)) (k:κ) (v:V):(CD kvs k v).length≤kvs.length+1:=by
 unfold CD
 split
 ·rw[AG];omega
 ·rw[BO,B1,List.length_nil];omega
theorem QR {kvs:List (κ×V)}{k:κ} (v:V) (h:Aq kvs k=none):CD kvs k v=kvs++[(k,v)]:=by
 unfold CD
 rw[HS,h]
 exact if_neg (by decide)
theorem RelO.isSome_eq {o:Option V}{u:Option Value} (r:RelO o u):o.isSome=u.isSome:=by
 cases o with
 | none=>cases u with
  | none=>rfl
  | some _=>exact(show False from r).elim
 | some _=>cases u with
  | none=>exact(show False from r).elim
  | some _=>rfl
theorem RelO.getD {o:Option V}{u:Option Value}{d:V}{d':Value} (r:RelO o u) (rd:RelV d d'):RelV (o.getD d) (u.getD d'):=by
 cases o with
 | none=>cases u with
  | none=>exact rd
  | some _=>exact(show False from r).elim
 | some _=>cases u with
  | none=>exact(show False from r).elim
  | some _=>exact r
theorem KV.val {kvs:List (κ×V)}{vs:List (κ×Value)} (r:KV kvs vs) (k:κ):RelO (Aq kvs k) (valueAt vs k):=by
 unfold KV at r
 induction r with
 | nil=>exact Gk
 | @cons p q ps qs h t ih =>
  obtain⟨h1,h2⟩:=h
  by_cases e:p.1=k
  ·have e':q.1=k:=h1.symm.trans e
   have b:valueAt (q::qs) k=some q.2:=by simp[valueAt,Dr,e']
   rw[Ce e,b];exact h2
  ·have e':¬q.1=k:=fun z=>e (h1.trans z)
   have b:valueAt (q::qs) k=valueAt qs k:=by simp[valueAt,Dr,e']
   rw[Cd e,b];exact ih
theorem KV.any {kvs:List (κ×V)}{vs:List (κ×Value)} (r:KV kvs vs) (k:κ):(kvs.any fun kv=>decide (kv.1=k))=vs.any fun kv=>decide (kv.1=k):=by
 unfold KV at r
 induction r with
 | nil=>rfl
 | cons h t ih=>rw[DK,DK,ih,h.1]
theorem KV.repl {kvs:List (κ×V)}{vs:List (κ×Value)} (r:KV kvs vs) (k:κ) {y:V}{u:Value} (ry:RelV y u):
  KV (kvs.map fun kv=>if kv.1=k then (kv.1,y) else kv) (vs.map fun kv=>if kv.1=k then (kv.1,u) else kv):=by
 unfold KV at r ⊢
 induction r with
 | nil=>exact .nil
 | @cons p q ps qs h t ih =>
  rw[Au,Au]
  refine .cons ?_ ih
  obtain⟨h1,h2⟩:=h
  by_cases e:p.1=k
  ·rw[if_pos e,if_pos (h1.symm.trans e)];exact⟨h1,ry⟩
  ·rw[if_neg e,if_neg (fun z=>e (h1.trans z))];exact⟨h1,h2⟩
theorem KV.put {kvs:List (κ×V)}{vs:List (κ×Value)} (r:KV kvs vs) (k:κ) {y:V}{u:Value} (ry:RelV y u):KV (CD kvs k y) (stored vs k u):=by
 unfold CD stored
 rw[r.any k]
 by_cases e:(vs.any fun kv=>decide (kv.1=k))=true
 ·rw[if_pos e,if_pos e];exact r.repl k ry
 ·rw[if_neg e,if_neg e];exact Paired.snoc r ⟨rfl,ry⟩
theorem KV.length {kvs:List (κ×V)}{vs:List (κ×Value)} (r:KV kvs vs):kvs.length=vs.length:=FU r
end
theorem Fq {P:Program}{w:World}{k:Key}{u:Value} (r:RelV (kV k) u):(CC P w).is k u=true:=by
 cases k with
 | inl i=>obtain⟨t,e⟩:=(show ∃t,u=J8 i t from r);subst e;exact W2 P w i t
 | inr x=>obtain⟨t,e⟩:=(show ∃t,u=J9 x t from r);subst e;exact W3 P w x t
theorem PH {P:Program}{w:World}:∀{ks:List Key}{us:List Value},Vals (ks.map kV) us→ItemsAre (CC P w) ks us
 | [],_,r=>by rw[FQ] at r;cases r;exact .nil
 | k::ks,_,r=>by
  rw[Au] at r
  cases r with
  | cons h t=>exact .cons (Fq h) (PH t)
abbrev KT (H:Hp):List (List Key×V)→List (List Key×Addr×Value)→Prop:=Paired fun p q=>p.1=q.1∧H q.2.1=some (.tup (p.1.map kV))∧RelV p.2 q.2.2
theorem KT.val {H:Hp}{kvs:List (List Key×V)}{xs:List (List Key×Addr×Value)} (r:KT H kvs xs) (k:List Key):RelO (Aq kvs k) ((atKey xs k).map (·.2)):=by
 induction r with
 | nil=>exact Gk
 | @cons p q ps qs h t ih =>
  obtain⟨h1,_,h2⟩:=h
  by_cases e:p.1=k
  ·have e':q.1=k:=h1.symm.trans e
   have b:atKey (q::qs) k=some q.2:=by simp[atKey,Dr,e']
   rw[Ce e,b];exact h2
  ·have e':¬q.1=k:=fun z=>e (h1.trans z)
   have b:atKey (q::qs) k=atKey qs k:=by simp[atKey,Dr,e']
   rw[Cd e,b];exact ih
theorem KT.repl {H:Hp}{kvs:List (List Key×V)}{xs:List (List Key×Addr×Value)} (r:KT H kvs xs) (k:List Key) {y:V}{u:Value} (ry:RelV y u):
  KT H (kvs.map fun kv=>if kv.1=k then (kv.1,y) else kv) (xs.map (putAt k u)):=by
 induction r with
 | nil=>exact .nil
 | @cons p q ps qs h t ih =>
  rw[Au,Au]
  refine .cons ?_ ih
  obtain⟨h1,h2,h3⟩:=h
  unfold putAt
  by_cases e:p.1=k
  ·rw[if_pos e,if_pos (h1.symm.trans e)];exact⟨h1,h2,ry⟩
  ·rw[if_neg e,if_neg (fun z=>e (h1.trans z))];exact⟨h1,h2,h3⟩
theorem KT.put {H:Hp}{kvs:List (List Key×V)}{xs:List (List Key×Addr×Value)} (r:KT H kvs xs) (k:List Key) {b:Addr}{y:V}{u:Value} (hb:H b=some (.tup (k.map kV))) (ry:RelV y u):
  KT H (CD kvs k y) (storedH xs k b u):=by
 have e:(kvs.any fun kv=>decide (kv.1=k))=(atKey xs k).isSome:=by
  rw[HS,(r.val k).isSome_eq,T1]
 unfold CD storedH
 rw[e]
 by_cases q:(atKey xs k).isSome=true
 ·rw[if_pos q,if_pos q];exact r.repl k ry
 ·rw[if_neg q,if_neg q];exact Paired.snoc r ⟨rfl,hb,ry⟩
theorem KT.keeps {H H':Hp}{kvs:List (List Key×V)}{xs:List (List Key×Addr×Value)} (r:KT H kvs xs) (ht:∀b ys,H b=some (.tup ys)→H' b=some (.tup ys)):KT H' kvs xs :=
 Paired.mapP r fun _ _ z=>⟨z.1,ht _ _ z.2.1,z.2.2⟩
section
variable {P:Program}{w:World}{H:Hp}{h:Heap}{a:Addr}
theorem QU {u:HO} (ok:HOk P w H h) (e:Rd H a u):ObjOk P w H h a u:=e.ok ok
theorem Ey {kvs:List (Key×V)} (ok:HOk P w H h) (e:Rd H a (.dK kvs)):kvs.length≤sizeLine∧(a==sysModules)=false∧∃vs,KV kvs vs∧h.DictOf (CC P w) a vs :=
 show ObjOk P w H h a (.dK kvs) from QU ok e
theorem Vn {kvs:List (Key×V)} (ok:HOk P w H h) (e:H a=some (.dK kvs)):kvs.length≤sizeLine∧(a==sysModules)=false∧∃vs,KV kvs vs∧h.DictOf (CC P w) a vs:=Ey ok (.inl e)
theorem Fs {ks:List Key} (ok:HOk P w H h) (e:H a=some (.tup (ks.map kV))):(tupleKind (CC P w)).is h ks a:=by
 obtain⟨_,its,r,o,h1,h2,n,h3⟩:=(show ObjOk P w H h a (.tup (ks.map kV)) from ok a _ e)
 exact⟨o,its.toArray,n,h1,h2,h3,by simpa using PH r⟩
theorem Ez {kvs:List (List Key×V)} (ok:HOk P w H h) (e:Rd H a (.dT kvs)):kvs.length≤sizeLine∧(a==sysModules)=false∧
  ∃xs,KT H kvs xs∧h.DictOfH (tupleKind (CC P w)) a xs:=by
 obtain⟨z,y,xs,r,o,es,ep,h1,h2,h3,h4,h5⟩:=(show ObjOk P w H h a (.dT kvs) from QU ok e)
 refine⟨z,y,xs,r,o,es,ep,h1,h2,h3,h4,fun x hx=>?_,h5⟩
 have all:∀{l:List (List Key×V)} {m:List (List Key×Addr×Value)},KT H l m→∀x∈m,(tupleKind (CC P w)).is h x.1 x.2.1:=by
  intro l m q
  induction q with
  | nil=>intro x hx;exact nomatch hx
  | @cons p q ps qs hq t ih =>
   intro x hx
   rcases AS.mp hx with e | hx
   ·subst e
    exact Fs ok (by rw[← hq.1];exact hq.2.1)
   ·exact ih x hx
 exact all r x hx
theorem OK {kvs:List (List Key×V)} (ok:HOk P w H h) (e:H a=some (.dT kvs)):kvs.length≤sizeLine∧(a==sysModules)=false∧
 ∃xs,KT H kvs xs∧h.DictOfH (tupleKind (CC P w)) a xs:=Ez ok (.inl e)
end
def DGet (H:Hp) (a:Addr) (y:V) (r:Option V):Prop :=
 (∃kvs k,Rd H a (.dK kvs)∧y=kV k∧r=Aq kvs k)∨∃kvs k b,Rd H a (.dT kvs)∧y=.ref b∧H b=some (.tup (k.map kV))∧r=Aq kvs k
def DPut (H:Hp) (a:Addr) (y v:V) (H':Hp):Prop :=
 (∃kvs k,H a=some (.dK kvs)∧y=kV k∧kvs.length < sizeLine∧H'=upd H a (.dK (CD kvs k v)))∨
 ∃kvs k b,H a=some (.dT kvs)∧y=.ref b∧H b=some (.tup (k.map kV))∧kvs.length < sizeLine∧H'=upd H a (.dT (CD kvs k v))
theorem DGet.k {H:Hp}{a:Addr}{kvs:List (Key×V)}{k:Key} (e:H a=some (.dK kvs)):DGet H a (kV k) (Aq kvs k):=.inl ⟨kvs,k,.inl e,rfl,rfl⟩
theorem DGet.t {H:Hp}{a b:Addr}{kvs:List (List Key×V)}{k:List Key} (e:H a=some (.dT kvs)) (eb:H b=some (.tup (k.map kV))):DGet H a (.ref b) (Aq kvs k):=.inr ⟨kvs,k,b,.inl e,rfl,eb,rfl⟩
theorem DPut.k {H:Hp}{a:Addr}{kvs:List (Key×V)}{k:Key}{v:V} (e:H a=some (.dK kvs)) (hl:kvs.length < sizeLine):DPut H a (kV k) v (upd H a (.dK (CD kvs k v))):=.inl ⟨kvs,k,e,rfl,hl,rfl⟩
theorem DPut.t {H:Hp}{a b:Addr}{kvs:List (List Key×V)}{k:List Key}{v:V} (e:H a=some (.dT kvs)) (eb:H b=some (.tup (k.map kV))) (hl:kvs.length < sizeLine):
 DPut H a (.ref b) v (upd H a (.dT (CD kvs k v))):=.inr ⟨kvs,k,b,e,rfl,eb,hl,rfl⟩
section
variable {X:Cx}{pins:List (Addr×Obj)}{σ:St}{H:Hp}{s:Shared}{a:Addr}{y v:V}{u r:Value}{o:Option V}{A:Around}{E:Value→Shared→Prop}
theorem Inv.big (I:Inv X pins σ H s):sysModules < s.heap.objs.size:=by
 have h:mainGlobals < s.heap.objs.size:=(I.mod.glob.keeps I.bk).lt
 exact Nat.lt_trans (by decide) h
theorem Ve {Q:Value→Shared→Prop} (hu:A.units+1 < cLine) (I:Inv X pins σ H s) (g:DGet H a y (some v)) (ry:RelV y u) (h:∀w' s',Inv X pins σ H s'→RelV v w'→Q w' s'):
  wpAny (model X.prog X.w) A (getItem (.ref a) u) Q E s:=by
 rcases g with ⟨kvs,k,e,ey,l⟩ | ⟨kvs,k,b,e,ey,eb,l⟩
 ·subst ey
  obtain⟨z,hd,vs,rel,dd⟩:=Ey I.hok e
  obtain⟨w',hw,rw'⟩:=RelO.some_of (v:=v) (o:=valueAt vs k) (by rw[l];exact rel.val k)
  exact wpAny_getItem_of (Fq ry) dd.mapOf hw (h w' _ (I.tok _) rw')
 ·subst ey
  cases (show u=Az b from ry)
  obtain⟨z,hd,xs,rel,dd⟩:=Ez I.hok e
  obtain⟨w',hw,rw'⟩:=RelO.some_of (v:=v) (o:=(atKey xs k).map (·.2)) (by rw[l];exact rel.val k)
  obtain⟨p,hp,hp2⟩:=GY.mp hw
  refine wpAny_getItem_heap (Hs hu) (Fs I.hok eb) dd hp ?_
  rw[hp2]
  exact h w' _ (I.tok _) rw'
theorem Vf {Q:Value→Shared→Prop} (hu:A.units+1 < cLine) (I:Inv X pins σ H s) (g:DGet H a y o) (ry:RelV y u) (h:∀s',Inv X pins σ H s'→Q (.bool o.isSome) s'):
  wpAny (model X.prog X.w) A (compareOp .In u (.ref a)) Q E s:=by
 rcases g with ⟨kvs,k,e,ey,l⟩ | ⟨kvs,k,b,e,ey,eb,l⟩
 ·subst ey
  obtain⟨z,hd,vs,rel,dd⟩:=Ey I.hok e
  refine wpAny_in_of (Fq ry) hd dd.mapOf ?_
  rw[← (rel.val k).isSome_eq,← l]
  exact h _ (I.tok _)
 ·subst ey
  cases (show u=Az b from ry)
  obtain⟨z,hd,xs,rel,dd⟩:=Ez I.hok e
  refine wpAny_in_heap (Hs hu) (Fs I.hok eb) hd dd ?_
  have q:=(rel.val k).isSome_eq
  rw[T1] at q
  rw[← q,← l]
  exact h _ (I.tok _)
theorem OC {h':Heap}{t':Nat}{ob:HO} (I:Inv X pins σ H s) (mu:Mut (H a)) (hs:Gg a s.heap h') (he:∃q,h'.get? a=some q) (new:ObjOk X.prog X.w (upd H a ob) h' a ob):
  Inv X pins σ (upd H a ob) { s with heap:=h',toks:=t' } :=
 I.write (x:=a) (e:=a) mu (.inl rfl) (fun b q hb z=>(hs.2 b hb).trans z) he new
theorem Vm {P:Program}{w:World}{H':Hp}{h':Heap}{kvs:List (Key×V)}{vs:List (Key×Value)} (z:kvs.length≤sizeLine) (hd:(a==sysModules)=false) (rel:KV kvs vs) (dd:h'.DictOf (CC P w) a vs):
 ObjOk P w H' h' a (.dK kvs):=⟨z,hd,vs,rel,dd⟩
theorem Vg {H':Hp}{Q:Unit→Shared→Prop} (hu:A.units+1 < cLine) (I:Inv X pins σ H s) (g:DPut H a y v H') (ry:RelV y u) (rv:RelV v r) (h:∀s',Inv X pins σ H' s'→Q () s'):
  wpAny (model X.prog X.w) A (setItem (.ref a) u r) Q E s:=by
 rcases g with ⟨kvs,k,e,ey,l,eH⟩ | ⟨kvs,k,b,e,ey,eb,l,eH⟩
 ·subst ey eH
  obtain⟨z,hd,vs,rel,dd⟩:=Vn I.hok e
  have hz:vs.length≤sizeLine:=by rw[← rel.length];exact z
  have hl:(CD kvs k v).length≤sizeLine:=by have:=K7 kvs k v;omega
  refine wpAny_setItem_pairs (hsz:=hz) (Fq ry) dd fun h' dd' hs=>h _ ?_
  have he:∃q,h'.get? a=some q:=let ⟨q,_,_,hq,_⟩:=dd';⟨q,hq⟩
  exact OC I (by rw[e];exact Gk) hs he (Vm hl hd (rel.put k rv) dd')
 ·subst ey eH
  cases (show u=Az b from ry)
  obtain⟨z,hd,xs,rel,dd⟩:=OK I.hok e
  have hz:xs.length≤sizeLine:=by rw[← FU rel];exact z
  have hl:(CD kvs k v).length≤sizeLine:=by have:=K7 kvs k v;omega
  refine wpAny_setItem_heap (hsz:=hz) (Hs hu) (Fs I.hok eb) dd fun h' dd' hs=>h _ ?_
  obtain⟨q,es,ep,hq,h2,h3,h4,_,h5⟩:=dd'
  refine OC I (by rw[e];exact Gk) hs ⟨q,hq⟩ ⟨hl,hd,_,(rel.put k eb rv).keeps fun c ys ec=>?_,q,es,ep,hq,h2,h3,h4,h5⟩
  rw[AE (Bb ec e (fun z=>nomatch z))]
  exact ec
end
section
variable {X:Cx}{pins:List (Addr×Obj)}{σ:St}{H:Hp}{s:Shared}{a:Addr}{kvs:List (Key×V)}{k:Key}{u:Value}{A:Around}{E:Value→Shared→Prop}
end
def Nh (i:Expr):Prop:=∀ov iv,subscripted i false ov iv=operate [ov,iv] (getItem ov iv)
theorem Y2 {prog:Program}{w:World}{A:Around}{E:Value→Shared→Prop}{s:Shared}{env:Env}{value slice:Expr}{pos:Pos}{T id:String}{Q:Value→Shared→Prop}
  (hl:typeLookup (.type T) "__getitem__"=pure (some (.builtin id))) (hs:Nh slice)
  (h:wpAny (model prog w) A (eval value env) (fun o s₁=>wpAny (model prog w) A (eval slice env) (fun i s₂=>s₂.TypeIs o T∧wpAny (model prog w) A (getItem o i) Q E s₂) E s₁) E s):
  wpAny (model prog w) A (eval (.Subscript value slice pos) env) Q E s:=by
 refine Mx (Cs h (fun o s₁ h₁=>Cs h₁ (fun i s₂ h₂=>?_) fun _ _ x=>x) fun _ _ x=>x)
 obtain⟨hT,h₂⟩:=h₂
 unfold subscriptTail
 refine AF ?_
 rw[getitemInPython_of_ne hT.not_modules]
 refine AF (Ux hT hl ?_)
 have fin:wpAny (model prog w) A (subscripted slice false o i) (fun r s₃=>wpAny (model prog w) A (letTemporaryGo value o r >>= fun _=>pure r) Q E s₃) E s₂:=by
  rw[hs o i]
  exact wpAny_operating (Cs h₂ (fun r s₃ h₃=>AF (wpAny_letTemporaryGo (AQ h₃))) fun _ _ x=>x)
 first
  | exact AQ (AF fin)
  | exact AF (AQ (AF fin))
  | exact AF fin
theorem Vi {X:Cx}{pins:List (Addr×Obj)}{σ:St}{H:Hp}{s:Shared}{a:Addr}{y:V}{o:Option V} (I:Inv X pins σ H s) (g:DGet H a y o):s.TypeIs (.ref a) "dict":=by
 rcases g with ⟨kvs,k,e,_,_⟩ | ⟨kvs,k,b,e,_,_,_⟩
 ·obtain⟨_,_,vs,_,dd⟩:=Ey I.hok e
  exact dd.typeIs
 ·obtain⟨_,_,xs,_,dd⟩:=Ez I.hok e
  exact dd.typeIs
def Y9 (td ty:TE):TE:=fun σ H Q=>td σ H fun x H1=>ty σ H1 fun y H2=>∃a v,x=.ref a∧DGet H2 a y (some v)∧Q v H2
def ZD (ty td:TE):TE:=fun σ H Q=>ty σ H fun y H1=>td σ H1 fun x H2=>∃a o,x=.ref a∧DGet H2 a y o∧Q (.bl o.isSome) H2
def YC (td ty tv:TE):TS:=fun D σ H=>tv σ H fun v H1=>td σ H1 fun x H2=>ty σ H2 fun y H3=>∃a H4,x=.ref a∧DPut H3 a y v H4∧D.nx σ H4
section
variable {X:Cx}{o i e value:Expr}{pos pos' tpos:Pos}{td ty tv:TE}
theorem XZ (hu:X.A.units+1 < cLine) (ho:PE X o td) (hi:PE X i ty) (hs:Nh i):PE X (.Subscript o i pos) (Y9 td ty):=by
 intro pins s σ H Q I h
 refine Y2 PySem.F.slot_dict_getitem.lookup hs (thn (ho pins s σ H _ I h) fun u s1 ⟨x,H1,I1,rx,q1⟩=>thn (hi pins s1 σ H1 _ I1 q1) fun iv s2 ⟨y,H2,I2,ry,a,v,ex,g,q2⟩=>?_)
 subst ex
 obtain rfl:u=Az a:=rx
 exact⟨Vi I2 g,Ve hu I2 g ry fun w' s3 I3 rw'=>⟨v,H2,I3,rw',q2⟩⟩
theorem XX (hu:X.A.units+1 < cLine) (hi:PE X i ty) (ho:PE X o td):PC X .In i o (ZD ty td):=by
 intro pins s σ H Q I h
 refine thn (hi pins s σ H _ I h) fun iv s1 ⟨y,H1,I1,ry,q1⟩=>thn (ho pins s1 σ H1 _ I1 q1) fun u s2 ⟨x,H2,I2,rx,a,ov,ex,g,q2⟩=>?_
 subst ex
 obtain rfl:u=Az a:=rx
 exact Vf hu I2 g ry fun s3 I3=>⟨.bl ov.isSome,H2,I3,rfl,q2⟩
theorem Lb (hu:X.A.units+1 < cLine) (ho:PE X o td) (hi:PE X i ty) (hv:PE X value tv) (hs:swapsWith value (some (.Subscript o i pos')) pos.line X.env=pure false):
  PS X (.Assign [.Subscript o i pos'] value pos) (YC td ty tv):=by
 intro pins s σ H D I h
 refine wpAny_Assign_Subscript (thn (hv pins s σ H _ I h) fun r s1 ⟨v,H1,I1,rv,q1⟩=>thn (ho pins s1 σ H1 _ I1 q1) fun u s2 ⟨x,H2,I2,rx,q2⟩=>thn (hi pins s2 σ H2 _ I2 q2) fun iv s3 ⟨y,H3,I3,ry,a,H4,ex,g,q3⟩=>?_) hs
 subst ex
 obtain rfl:u=Az a:=rx
 exact Vg hu I3 g ry rv fun s4 I4=>⟨σ,H4,I4,q3⟩
end
theorem Vl {P:Program}{w:World}{H:Hp} (h:Heap) (hb:sysModules < h.objs.size):ObjOk P w H (h.push { cls:=.type "dict",data:=.dict #[] }) h.objs.size (.dK []) :=
 ⟨A5 _,beq_eq_false_iff_ne.mpr (An (BM hb)),[],.nil,Heap.DictOf.new h⟩
theorem Vp {P:Program}{w:World}{H:Hp} (h:Heap) (hb:sysModules < h.objs.size):ObjOk P w H (h.push { cls:=.type "dict",data:=.dict #[] }) h.objs.size (.dT []) :=
 ⟨A5 _,beq_eq_false_iff_ne.mpr (An (BM hb)),[],.nil,_,#[],0,BQ _ rfl,⟨rfl,rfl,rfl⟩,rfl,rfl,Ji⟩
def ZE:TE:=fun _ H Q=>∀p,H p=none→Q (.ref p) (upd H p (.dK []))
def ZF:TE:=fun _ H Q=>∀p,H p=none→Q (.ref p) (upd H p (.dT []))
section
variable {X:Cx}{pos:Pos}
theorem QH:PE X (.Dict [] [] pos) ZE:=fun pins s σ H Q I h =>
 Up ⟨.ref s.heap.objs.size,_,I.laid (a:=s.heap.objs.size) (o:=.dK []) (t':=s.toks) (fun _ _ q=>BE _ q) (AV _) (Vl s.heap I.big),rfl,h _ (I.hok.fresh (AV _))⟩
theorem Xb:PE X (.Dict [] [] pos) ZF:=fun pins s σ H Q I h =>
 Up ⟨.ref s.heap.objs.size,_,I.laid (a:=s.heap.objs.size) (o:=.dT []) (t':=s.toks) (fun _ _ q=>BE _ q) (AV _) (Vp s.heap I.big),rfl,h _ (I.hok.fresh (AV _))⟩
end
structure M1 (X:Cx) (o:Expr) (m:Str) (apos:Pos) (e:Expr) (cpos:Pos):Prop where
 base:attributeBase o m X.env (eval o X.env)=eval o X.env
 few:((backTo cpos (starEach [e] X.env)).all (fun x=>!x.1)&&(backToKw cpos (keywordEach [] X.env)).all (fun x=>x.1.isSome)
  && decide (([e]:List Expr).length+([]:List Keyword).length+(if ([]:List Keyword).isEmpty then 0 else 1) < 30))=true
 line:(apos.endLine==cpos.line)=true
 trees:backTo cpos (starEach [e] X.env)=[(false,eval e X.env)]
structure M2 (X:Cx) (o:Expr) (m:Str) (apos:Pos) (e f:Expr) (cpos:Pos):Prop where
 base:attributeBase o m X.env (eval o X.env)=eval o X.env
 few:((backTo cpos (starEach [e,f] X.env)).all (fun x=>!x.1)&&(backToKw cpos (keywordEach [] X.env)).all (fun x=>x.1.isSome)
  && decide (([e,f]:List Expr).length+([]:List Keyword).length+(if ([]:List Keyword).isEmpty then 0 else 1) < 30))=true
 line:(apos.endLine==cpos.line)=true
 trees:backTo cpos (starEach [e,f] X.env)=[(false,eval e X.env),(false,eval f X.env)]
def IsD (H:Hp) (a:Addr):Prop:=(∃kvs,Rd H a (.dK kvs))∨∃kvs,Rd H a (.dT kvs)
theorem O9 {X:Cx}{pins:List (Addr×Obj)}{σ:St}{H:Hp}{s:Shared}{a:Addr} (I:Inv X pins σ H s) (d:IsD H a):
  s.TypeIs (.ref a) "dict"∧(∀b,Az a=.ref b→∃ob,s.heap.get? b=some ob∧ob.dict=none)∧(a==sysModules)=false:=by
 rcases d with ⟨kvs,e⟩ | ⟨kvs,e⟩
 ·obtain⟨_,hd,vs,_,dd⟩:=Ey I.hok e
  refine⟨dd.typeIs,fun b q=>?_,hd⟩
  cases q
  obtain⟨ob,_,_,h1,h2,_⟩:=dd
  exact⟨ob,h1,h2.2.1⟩
 ·obtain⟨_,hd,xs,_,dd⟩:=Ez I.hok e
  refine⟨dd.typeIs,fun b q=>?_,hd⟩
  cases q
  obtain⟨ob,_,_,h1,h2,_⟩:=dd
  exact⟨ob,h1,h2.2.1⟩
section
variable {X:Cx}{pins:List (Addr×Obj)}{σ:St}{H:Hp}{s:Shared}{a:Addr}{y d:V}{u r:Value}{o:Option V}{A:Around}{E:Value→Shared→Prop}
theorem Vc {Q:Value→Shared→Prop} (hu:A.units+1 < cLine) (I:Inv X pins σ H s) (g:DGet H a y o) (ry:RelV y u) (h:∀w' s',Inv X pins σ H s'→RelV (o.getD .non) w'→Q w' s'):
  wpAny (model X.prog X.w) A (call (.builtin "dict.get") [.ref a,u]) Q E s:=by
 rcases g with ⟨kvs,k,e,ey,l⟩ | ⟨kvs,k,b,e,ey,eb,l⟩
 ·subst ey
  obtain⟨z,hd,vs,rel,dd⟩:=Ey I.hok e
  refine Hr Ga dd.typeIs J2 (UD _ _) (meets_dict_get (CC X.prog X.w) a (Fq ry) hd) ⟨_,dd.mapOf,h _ _ (I.tok _) ?_⟩
  rw[l]
  exact(rel.val k).getD rfl
 ·subst ey
  cases (show u=Az b from ry)
  obtain⟨z,hd,xs,rel,dd⟩:=Ez I.hok e
  refine Hr Ga dd.typeIs J2 (UD _ _) (meetsH_dict_get (tupleKind (CC X.prog X.w)) a b hd) ⟨Hs hu,k,xs,Fs I.hok eb,dd,h _ _ (I.tok _) ?_⟩
  rw[l]
  exact(rel.val k).getD rfl
theorem Vd {Q:Value→Shared→Prop} (hu:A.units+1 < cLine) (I:Inv X pins σ H s) (g:DGet H a y o) (ry:RelV y u) (rd:RelV d r) (h:∀w' s',Inv X pins σ H s'→RelV (o.getD d) w'→Q w' s'):
  wpAny (model X.prog X.w) A (call (.builtin "dict.get") [.ref a,u,r]) Q E s:=by
 rcases g with ⟨kvs,k,e,ey,l⟩ | ⟨kvs,k,b,e,ey,eb,l⟩
 ·subst ey
  obtain⟨z,hd,vs,rel,dd⟩:=Ey I.hok e
  refine Hr Ga dd.typeIs J2 (UE _ _ _) (meets_dict_get_default (CC X.prog X.w) a (Fq ry) hd r) ⟨_,dd.mapOf,h _ _ (I.tok _) ?_⟩
  rw[l]
  exact(rel.val k).getD rd
 ·subst ey
  cases (show u=Az b from ry)
  obtain⟨z,hd,xs,rel,dd⟩:=Ez I.hok e
  refine Hr Ga dd.typeIs J2 (UE _ _ _) (meetsH_dict_get_default (tupleKind (CC X.prog X.w)) a b hd r) ⟨Hs hu,k,xs,Fs I.hok eb,dd,h _ _ (I.tok _) ?_⟩
  rw[l]
  exact(rel.val k).getD rd
end
def ZA (td ty:TE):TE:=fun σ H Q=>td σ H fun x H1=>∃a,x=.ref a∧IsD H1 a∧ty σ H1 fun y H2=>∃o,DGet H2 a y o∧Q (o.getD .non) H2
def ZC (td ty tx:TE):TE:=fun σ H Q=>td σ H fun x H1=>∃a,x=.ref a∧IsD H1 a∧ty σ H1 fun y H2=>tx σ H2 fun z H3=>∃o,DGet H3 a y o∧Q (o.getD z) H3
section
variable {X:Cx}{o e f:Expr}{apos cpos:Pos}{td ty tx:TE}
theorem Xa (hu:X.A.units+1 < cLine) (ho:PE X o td) (he:PE X e ty) (m:M1 X o "get" apos e cpos):PE X (.Call (.Attribute o "get" apos) [e] [] cpos) (ZA td ty):=by
 intro pins s σ H Q I h
 refine Uo m.base m.few m.line UK Ga UQ (thn (ho pins s σ H _ I h) fun u s1 ⟨x,H1,I1,rx,a,ex,d,q1⟩=>?_)
 subst ex
 obtain rfl:u=Az a:=rx
 obtain⟨t1,t2,_⟩:=O9 I1 d
 refine⟨t1,t2,?_⟩
 rw[m.trees]
 refine M6 rfl (M7 (J1 (thn (he pins s1 σ H1 _ I1 q1) fun iv s2 ⟨y,H2,I2,ry,ov,g,q2⟩=>M8 ?_)))
 exact Vc hu I2 g ry fun w' s3 I3 rw'=>⟨_,H2,I3,rw',q2⟩
theorem QG (hu:X.A.units+1 < cLine) (ho:PE X o td) (he:PE X e ty) (hf:PE X f tx) (m:M2 X o "get" apos e f cpos):PE X (.Call (.Attribute o "get" apos) [e,f] [] cpos) (ZC td ty tx):=by
 intro pins s σ H Q I h
 refine Uo m.base m.few m.line UK Ga UQ (thn (ho pins s σ H _ I h) fun u s1 ⟨x,H1,I1,rx,a,ex,d,q1⟩=>?_)
 subst ex
 obtain rfl:u=Az a:=rx
 obtain⟨t1,t2,_⟩:=O9 I1 d
 refine⟨t1,t2,?_⟩
 rw[m.trees]
 refine M6 rfl (M7 (J1 (thn (he pins s1 σ H1 _ I1 q1) fun iv s2 ⟨y,H2,I2,ry,q2⟩ =>
  J1 (thn (hf pins s2 σ H2 _ I2 q2) fun fv s3 ⟨z,H3,I3,rz,ov,g,q3⟩=>M8 ?_))))
 exact Vd hu I3 g ry rz fun w' s4 I4 rw'=>⟨_,H3,I4,rw',q3⟩
end
section
variable {X:Cx}{pins:List (Addr×Obj)}{σ:St}{H:Hp}{s:Shared}{a:Addr}{kvs:List (Key×V)}{A:Around}{E:Value→Shared→Prop}
end
section
variable {X:Cx}{pins:List (Addr×Obj)}{σ:St}{H:Hp}{s:Shared}{a:Addr}{y:V}{u:Value}{A:Around}{E:Value→Shared→Prop}
end
end L2
namespace L2
open PySem PySem.Spec PyProof.Rows
section
variable {prog:Program}{w:World}{A:Around}{E:Value→Shared→Prop}
end
section
variable {X:Cx}
end
end L2
namespace L2
open PySem PySem.Spec PyProof.Rows
theorem VI:bootBuiltins "reversed"=some (.type "reversed"):=by decide +kernel
section
variable {X:Cx}{pins:List (Addr×Obj)}{σ:St}{H:Hp}{s:Shared}{h':Heap}
theorem Inv.turnedNew {t':Nat}{ch:List Addr}{T:Addr}{ob:HO} (I:Inv X pins σ H s) (k:∀b o,b∉ch→s.heap.get? b=some o→h'.get? b=some o) (hf:∀b∈ch,DN X pins H b) (hT:s.heap.objs.size≤T)
  (new:ObjOk X.prog X.w (upd H T ob) h' T ob):Inv X pins σ (upd H T ob) { s with heap:=h',toks:=t' }:=by
 have hn:H T=none:=I.hok.fresh hT
 have nit:∀b u,H b=some u→b∉ch:=fun b u e z=>by
  have q:=(hf b z).1
  rw[q] at e;cases e
 refine I.step (g':=s.gens) (d':=s.drawn) (ch:=ch) (fun b hb=>⟨(hf b hb).2.2.2.1,(hf b hb).2.1,(hf b hb).2.2.2.2.1,(hf b hb).2.2.2.2.2⟩) (fun b o _ _ hc e _=>k b o hc e) (fun b o _ _ hc e _=>⟨o.slots,k b o hc e⟩)
  (fun b o _ e n=>?_) (fun b o hc e=>⟨o,k b o hc e⟩) (fun b xs e=>?_) (fun b o u e=>?_) (fun b ps e=>⟨#[],?_⟩) (fun m hm=>?_) (fun b u e=>?_) I.bare
 ·rw[AE (BM (BV (Ao e) hT))];exact n
 ·rw[AE (Am e hn)];exact e
 ·rw[AE (Am e hn)];exact e
 ·rw[AE (Am e hn),e];simp
 ·obtain⟨o,es,ep,ho,r⟩:=hm
  exact⟨o,es,ep,k _ o (fun z=>(hf _ z).2.1 rfl) ho,r⟩
 ·by_cases hb:b=T
  ·subst hb
   rw[AI] at e
   cases e
   exact new
  ·rw[AE hb] at e
   refine(I.hok b u e).stay (fun c v hc q=>k c v ?_ q) (fun c q=>by rw[AE (Am q hn)];exact q) fun c xs q=>by rw[AE (Am q hn)];exact q
   rcases hc with z | z
   ·rw[z];exact nit b u e
   ·exact nit c _ z
theorem Inv.lock {d:Addr}{u:HO} (I:Inv X pins σ H s) (h:H d=some u) (mu:Mut (some u)):∃od,Inv X pins σ (upd H d (.frz od u)) s:=by
 have x:=I.hok d u h
 have ex:∃od,s.heap.get? d=some od:=by
  cases u with
  | lst xs=>obtain⟨_,_,_,_,e⟩:=x;exact⟨_,e⟩
  | dK kvs=>obtain⟨_,_,_,_,o,_,_,e,_⟩:=x;exact⟨o,e⟩
  | dT kvs=>obtain⟨_,_,_,_,o,_,_,e,_⟩:=x;exact⟨o,e⟩
  | set S n=>obtain⟨o,_,_,_,e,_⟩:=x;exact⟨o,e⟩
  | ins C dx fs=>obtain⟨_,_,_,e,_⟩:=x;exact⟨_,e⟩
  | ext φ=>obtain⟨_,⟨_,e⟩,_⟩:=x;exact⟨_,e⟩
  | _=>exact BL mu
 obtain⟨od,e⟩:=ex
 have new:ObjOk X.prog X.w (upd H d (.frz od u)) s.heap d (.frz od u):=by
  refine⟨e,x.stay (fun b v _ q=>q) (fun b q=>?_) fun b xs q=>?_⟩
  ·rw[AE (fun z=>by rw[z,h] at q;cases q;exact mu)];exact q
  ·rw[AE (fun z=>by rw[z,h] at q;cases q;exact mu)];exact q
 exact⟨od,I.write (x:=d) (e:=d) (t':=s.toks) (h':=s.heap) (by rw[h];exact mu) (.inl rfl) (fun b v _ q=>q) ⟨od,e⟩ new⟩
theorem Inv.nofrz {d:Addr}{u:HO} (I:Inv X pins σ H s) (h:H d=some u) (mu:Mut (some u)):∀o' u',X.H_0 d≠some (.frz o' u'):=fun o' u' e=>by
 have q:=I.base.frzs d o' u' e
 rw[h] at q
 cases q
 exact mu
theorem Inv.unlock {d:Addr}{od:Obj}{u:HO} (I:Inv X pins σ H s) (h:H d=some (.frz od u)) (hn:∀o' u',X.H_0 d≠some (.frz o' u')):Inv X pins σ (upd H d u) s:=by
 have neH:∀b o,H b=some o→(∀o' u',o≠.frz o' u')→b≠d:=fun b o e hne z=>by
  rw[z,h] at e
  cases e
  exact hne _ _ rfl
 have neN:∀b,H b=none→b≠d:=fun b e z=>by rw[z,h] at e;cases e
 refine⟨I.ok,I.os,I.bare,⟨I.base.keep,I.base.slot,fun b o e n hx=>?_,I.base.there,fun b xs e=>?_,fun b o x e=>?_,fun b ps e=>?_⟩,I.loc,I.cell,?_,fun x c e=>?_,fun p hp=>?_,fun b o e=>?_,I.len⟩
 ·rw[AE (neN b (I.base.free b o e n hx))];exact I.base.free b o e n hx
 ·have q:=I.base.tups b xs e
  rw[AE (neH b _ q (fun _ _ z=>nomatch z))];exact q
 ·have q:=I.base.frzs b o x e
  rw[AE (fun z=>by rw[z] at e;exact hn _ _ e)];exact q
 ·obtain⟨m,q⟩:=I.base.tbls b ps e
  exact⟨m,by rw[AE (neH b _ q (fun _ _ z=>nomatch z))];exact q⟩
 ·rw[AE (neN _ I.free)];exact I.free
 ·rw[AE (neN c (I.freeC x c e))];exact I.freeC x c e
 ·obtain⟨e,n,r⟩:=I.pin p hp
  exact⟨e,by rw[AE (neN _ n)];exact n,r⟩
 ·by_cases hb:b=d
  ·rw[hb,AI] at e
   cases e
   rw[hb]
   obtain⟨_,x⟩:=I.hok d _ h
   exact x.stay (fun c v _ q=>q) (fun c q=>by rw[AE (neH c _ q (fun _ _ z=>nomatch z))];exact q) fun c xs q=>by rw[AE (neH c _ q (fun _ _ z=>nomatch z))];exact q
  ·rw[AE hb] at e
   exact(I.hok b o e).stay (fun c v _ q=>q) (fun c q=>by rw[AE (neH c _ q (fun _ _ z=>nomatch z))];exact q) fun c xs q=>by rw[AE (neH c _ q (fun _ _ z=>nomatch z))];exact q
end
def Zn (t:TS):TS:=fun D σ H=>∃d u,H d=some u∧Mut (some u)∧∀od,t ⟨fun σ' H'=>H' d=some (.frz od u)∧D.nx σ' (upd H' d u),fun v H'=>H' d=some (.frz od u)∧D.rt v (upd H' d u),fun σ' H'=>H' d=some (.frz od u)∧D.bk σ' (upd H' d u),fun σ' H'=>H' d=some (.frz od u)∧D.ct σ' (upd H' d u)⟩ σ (upd H d (.frz od u))
def ZJ (t:TE):TE:=fun σ H Q=>∃d u,H d=some u∧Mut (some u)∧∀od,t σ (upd H d (.frz od u)) fun v H'=>H' d=some (.frz od u)∧Q v (upd H' d u)
section
variable {X:Cx}
theorem QI {e:Expr}{t:TE} (h:PE X e t):PE X e (ZJ t):=by
 intro pins s σ H Q I hw
 obtain⟨d,u,hd,mu,hw⟩:=hw
 obtain⟨od,I1⟩:=I.lock hd mu
 refine thn (h pins s σ _ _ I1 (hw od)) fun v s1 ⟨x,H1,I2,r,e2,q⟩=>?_
 exact⟨x,_,I2.unlock e2 (I.nofrz hd mu),r,q⟩
theorem HI {tg:Expr}{pins:List (Addr×Obj)}{σ:St}{H:Hp}{s:Shared}{R:It→Hp→Prop}{J:It}{tn:Nat→Heap→Prop}{tk:Nat} (I:Inv X pins σ H s) (o:Obj)
  (T:De X.prog X.w X.K tg J [s.heap.objs.size] s.heap.objs.size tn) (st:tn 0 (s.heap.push o)) (q:R J H):PIE X pins σ tg R (.ref s.heap.objs.size) { s with heap:=s.heap.push o,toks:=tk }:=by
 refine⟨s.heap.objs.size,[s.heap.objs.size],tn,J,H,rfl,I.kept fun b ob e=>BE _ e,T,st,fun b hb=>?_,q⟩
 have e:b=s.heap.objs.size:=by simpa using hb
 subst e
 exact I.fpOk (AV _) (I.hok.fresh (AV _))
end
section
variable {X:Cx}{tg:Expr}
end
def Itv (K:AA) (a:Addr) (n:Nat):It :=
 ⟨fun i H=>i < n∧∃(xs:List V) (x:V),SqL K H a xs∧xs[n - 1 - i]?=some x,fun i H x H'=>H'=H∧∀xs,SqL K H a xs→xs[n - 1 - i]?=some x,fun i _=>n≤i⟩
theorem Zc {P:Program}{w:World}{K:AA}{tg:Expr} (a it:Addr) (n:Nat):De P w K tg (Itv K a n) [it] it (fun i h=>i≤n∧h.IsRevIter it a ((n:Int) - 1 - (i:Nat))) where
 mem:=by simp
 obj:=fun i h st b hb=>by
  have e:b=it:=by simpa using hb
  subst e
  obtain⟨_,o,e,c,d⟩:=st
  exact⟨o,e,fun v z=>by rw[d] at z;cases z⟩
 keep:=fun i h h' st k=>⟨st.1,st.2.at fun o e=>k it (by simp) o e⟩
 item:=by
  intro X hP hw hK hc i pins s σ H E I hf st hg
  subst hP hw hK
  obtain⟨hin,xs,x,hq,hx⟩:=hg
  obtain⟨its,rv,p,hz⟩:=I.list hq
  obtain⟨u,hu,ru⟩:=rv.get hx
  obtain⟨f0,f1,f2,f3,f4,f5⟩:=hf it (by simp)
  obtain⟨_,hit⟩:=st
  have e1:(n:Int) - 1 - ((i:Nat):Int)=((n - 1 - i:Nat):Int):=by omega
  rw[e1] at hit
  refine wpAny_pyNext_rev_item hit p.isList (x:=u) (by simpa using hu) fun h' st' sb=>?_
  have e2:((n - 1 - i:Nat):Int) - 1=(n:Int) - 1 - ((i+1:Nat):Int):=by omega
  rw[e2] at st'
  have I1:Inv X pins σ H { s with heap:=h' }:=I.turned (t':=s.toks) (fun b o hb e=>(sb.2 b hb).trans e) f0 f1 f3 f4 f5
  obtain⟨o,e,c,d⟩:=id st'
  exact⟨u,rfl,Fo (s:={ s with heap:=h' }) e c d (by decide) ⟨x,H,I1,ru,⟨rfl,fun ys hy=>by rw[I.list_inj hy hq];exact hx⟩,⟨hin,st'⟩,fun b hb=>(hf b hb).1⟩⟩
 done:=by
  intro X hP hw hK hc i pins s σ H E I hf st hg
  subst hP hw hK
  obtain⟨f0,f1,f2,f3,f4,f5⟩:=hf it (by simp)
  obtain⟨hin,hit⟩:=st
  have hge:n≤i:=hg
  have e1:(n:Int) - 1 - ((i:Nat):Int)=-1:=by omega
  rw[e1] at hit
  exact wpAny_pyNext_rev_end (I.ok.hd hc) hit fun h' eb=>⟨rfl,I.turned (t':=s.toks) (fun b o hb e=>eb b o hb e) f0 f1 f3 f4 f5⟩
 self:=fun A i s Q E st h=>Uv st.2 h
def WN (K:AA) (ta:TA):TI:=fun σ H R=>ta σ H fun vs H1=>∃(a:Addr) (xs:List V),vs=[.ref a]∧SqL K H1 a xs∧R (Itv K a xs.length) H1
section
variable {X:Cx}{tg:Expr}
theorem Xl {e:Expr}{ta:TA}{p pos:Pos} (hg:Gl X "reversed") (hm:X.mg "reversed"=none) (ha:PA X [e] ta) (hs:starEach [e] X.env=[(false,eval e X.env)]:=by rfl):PI X tg (.Call (.Name "reversed" p) [e] [] pos) (WN X.K ta):=by
 intro pins s σ H R I h
 refine Call_ (Fv I hg hm VI (Hn (thn (ha pos pins s σ H _ I h) fun us s1 ⟨vs,H1,I1,r1,q1⟩=>?_) hs rfl))
 obtain⟨a,xs,e,hq,q⟩:=q1
 subst e
 cases r1 with
 | cons r rr =>
  cases rr
  cases r
  obtain⟨its,rv,p',hz⟩:=I1.list hq
  have hl:=rv.length
  have e1:((its.toArray.size:Nat):Int) - 1=(xs.length:Int) - 1 - ((0:Nat):Int):=by simp only[Be];omega
  refine call_reversed_list p'.isList (Uv (l:=a) (i:=((its.toArray.size:Nat):Int) - 1) ⟨_,BQ _ rfl,rfl,rfl⟩ ?_)
  refine HI (tk:=s1.toks) I1 _ (Zc a _ xs.length) ⟨A5 _,?_⟩ q
  rw[← e1]
  exact⟨_,BQ _ rfl,rfl,rfl⟩
end
def Its (x:Str):It:=⟨fun i _=>i < x.cps.size,fun i H v H'=>H'=H∧∃c,x.cps[i]?=some c∧v=.str ⟨#[c]⟩,fun i _=>x.cps.size≤i⟩
theorem Sz {P:Program}{w:World}{K:AA}{tg:Expr} (it:Addr) (x:Str) (t:Tok) (ty:String) (hty:ty="str_ascii_iterator"∨ty="str_iterator"):
  De P w K tg (Its x) [it] it (fun i h=>h.IsStrIter it ty x t i) where
 mem:=by simp
 obj:=fun i h st b hb=>by
  have e:b=it:=by simpa using hb
  subst e
  obtain⟨o,e,c,d⟩:=st
  exact⟨o,e,fun v z=>by rw[d] at z;cases z⟩
 keep:=fun i h h' st k=>let ⟨o,ho,r⟩:=st;⟨o,k it (by simp) o ho,r⟩
 item:=by
  intro X hP hw hK hc i pins s σ H E I hf st hg
  subst hP hw hK
  obtain⟨f0,f1,f2,f3,f4,f5⟩:=hf it (by simp)
  have W:Walks X.prog X.w X.A it [it] [it] x.cps.size (SignAt x) (fun i h=>h.IsStrIter it ty x t i):=by
   rcases hty with e | e
   ·rw[e];exact Walks.strAscii (I.ok.hd hc) it x t
   ·rw[e];exact Walks.strWide (I.ok.hd hc) it x t
  have hno:["enumerate","zip","dict_itemiterator","dict_reverseitemiterator","odict_iterator","itertools.zip_longest","itertools.pairwise"].contains ty=false:=by
   rcases hty with e | e
   ·rw[e];decide
   ·rw[e];decide
  refine W.item i s _ _ hg st fun v h' tk hv st' kk=>?_
  obtain⟨c,u,hcx,rfl⟩:=hv
  have I1:Inv X pins σ H { s with heap:=h',toks:=tk }:=I.turned (fun b o hb e=>kk b o (by simpa using hb) e) f0 f1 f3 f4 f5
  obtain⟨oi,e,cc,dd⟩:=id st'
  exact⟨_,rfl,Fo (s:={ s with heap:=h',toks:=tk }) e cc dd hno ⟨.str ⟨#[c]⟩,H,I1,⟨u,rfl⟩,⟨rfl,c,hcx,rfl⟩,st',fun b hb=>(hf b hb).1⟩⟩
 done:=by
  intro X hP hw hK hc i pins s σ H E I hf st hg
  subst hP hw hK
  obtain⟨f0,f1,f2,f3,f4,f5⟩:=hf it (by simp)
  have hx:x.cps[i]?=none:=TM hg
  rcases hty with e | e
  ·rw[e] at st
   exact wpAny_pyNext_ascii_end (I.ok.hd hc) st hx fun h' eb=>⟨rfl,I.turned (t':=s.toks) (fun b o hb e=>eb b o hb e) f0 f1 f3 f4 f5⟩
  ·rw[e] at st
   exact wpAny_pyNext_wide_end (I.ok.hd hc) st hx fun h' eb=>⟨rfl,I.turned (t':=s.toks) (fun b o hb e=>eb b o hb e) f0 f1 f3 f4 f5⟩
 self:=fun A i s Q E st h=>by
  rcases hty with e | e
  ·rw[e] at st;exact wpAny_pyIter_striter_ascii st h
  ·rw[e] at st;exact wpAny_pyIter_striter_wide st h
def WQ (te:TE):TI:=fun σ H R=>te σ H fun v H1=>∃x,v=.str x∧R (Its x) H1
theorem Xm {X:Cx}{tg e:Expr}{te:TE} (he:PE X e te):PI X tg e (WQ te):=by
 intro pins s σ H R I h
 refine thn (he pins s σ H _ I h) fun v s1 ⟨y,H1,I1,r1,x,ex,q⟩=>?_
 subst ex
 obtain⟨t,rfl⟩:=r1
 cases ha:x.cps.all (· < 128)
 ·exact wpAny_pyIter_wide ha (HI (tk:=s1.toks) I1 _ (Sz _ x t "str_iterator" (.inr rfl)) ⟨_,BQ _ rfl,rfl,rfl⟩ q)
 ·exact wpAny_pyIter_ascii ha (HI (tk:=s1.toks) I1 _ (Sz _ x t "str_ascii_iterator" (.inl rfl)) ⟨_,BQ _ rfl,rfl,rfl⟩ q)
section
variable {prog:Program}{w:World}{A:Around}{E:Value→Shared→Prop}{s:Shared}
theorem PK {d:Addr}{o:Obj}{es:Array DictEntry}{ep:Nat}{Q:Value→Shared→Prop} (hd:(d==sysModules)=false) (ho:s.heap.get? d=some o) (hc:o.ExactDict) (hdat:o.data=.dict es ep)
  (hQ:Q (.ref s.heap.objs.size) { s with heap:=s.heap.push { cls:=.type "dict_keyiterator",data:=.fields #[.ref d,.int 0 0,.int es.size 0,.int ep 0] } }):
  wpAny (model prog w) A (pyIter (.ref d)) Q E s:=by
 have hT:s.TypeIs (.ref d) "dict":=⟨o,ho,hc.1⟩
 refine Uw hT UL (Fd UL hT F.entry_dict_iter ?_ (F.args_dict_iter_1 _))
 unfold Builtin.«dict.__iter__»
 refine AF ?_
 unfold Builtin.Dict.dictSlotNone
 refine AF (wpAny_notOrdered_dict hT ?_)
 show wpAny _ _ (pure (Az d)) _ _ s
 refine AQ ?_
 show wpAny _ _ (T7 d >>= _) _ _ s
 unfold T7
 rw[if_neg (by rw[hd];exact Ag)]
 refine AF (AQ ?_)
 refine AF (KH ho hdat ?_)
 refine AF (NU ho hdat ?_)
 refine AF (Gj (AQ ⟨_,rfl,"dict_keyiterator",_,⟨_,BQ _ rfl,rfl⟩,Gb.lookup,?_⟩))
 simpa [rawInt] using hQ
theorem XC {it d:Addr}{i n ep:Nat}{od:Obj}{es:Array DictEntry}{en:DictEntry}{Q:Option Value→Shared→Prop} (hit:s.heap.IsKeyIter it d i n ep) (hod:s.heap.get? d=some od) (hdd:od.data=.dict es ep)
  (hsz:es.size=n) (hx:es[i]?=some en) (hQ:∀h',h'.IsKeyIter it d (i+1) n ep→Gg it s.heap h'→Q (some en.key) { s with heap:=h' }):wpAny (model prog w) A (pyNext (.ref it)) Q E s:=by
 obtain⟨o,ho,hc,hd⟩:=id hit
 unfold pyNext
 refine AF (wpAny_attempt (Gi (name:=Dv "__next__") hit.typeIs Gb
  (Fd Gb hit.typeIs UI ?_ (UG _))))
 refine AF (AQ ?_)
 refine AF ?_
 refine AF ?_
 first | refine AF (KN hit.typeIs (AQ ?_)) | refine AF (KP hit.typeIs (AQ ?_))
 refine AF (wpAny_fieldsOf ho hd ?_)
 have hown:T8 "dict_keyiterator"=false:=by decide
 simp only[hown,Dn,if_false]
 show wpAny _ _ (if (Az d==DA)=true then _ else _) _ _ s
 rw[if_neg (show ¬((Az d==DA)=true) from Ag)]
 refine AF (AQ ?_)
 refine AF (KH hod hdd ?_)
 rw[if_neg (by rw[hsz];simp)]
 refine AF (AQ ?_)
 refine AF (NU hod hdd ?_)
 rw[if_neg (by simp)]
 refine AQ ?_
 obtain⟨hlt',hen⟩:=Array.getElem?_eq_some_iff.mp hx
 simp only[show ¬((i:Int) < 0) from by omega,if_false,FL,Array.getElem?_eq_getElem hlt']
 refine AF ?_
 first | refine AF (KN hit.typeIs (AQ ?_)) | refine AF (KP hit.typeIs (AQ ?_))
 refine AF (Ur hit.typeIs ?_)
 show wpAny _ _ (setField (.ref it) 1 (rawInt ((i:Int)+1)) >>= _) _ _ s
 refine AF (KL ho hd (by simp) ?_)
 have hit':(s.heap.update it (Obj.mapFields (·.setIfInBounds 1 (rawInt ((i:Int)+1))))).IsKeyIter it d (i+1) n ep :=
  ⟨_,UR _ ho (UW (J6 hd _)),(UU ..).trans hc,by rw[J6 hd];simp[rawInt]⟩
 refine AF (NW ?_)
 refine AF (Ur (s:={ s with heap:=s.heap.update it (Obj.mapFields (·.setIfInBounds 1 (rawInt ((i:Int)+1)))) }) hit'.typeIs ?_)
 show wpAny _ _ (pure es[i].key) _ _ _
 rw[hen]
 exact AQ (AQ ⟨_,rfl,AQ (hQ _ hit' (J4 ..))⟩)
theorem Pw {it d:Addr}{i n ep:Nat}{od:Obj}{es:Array DictEntry}{Q:Option Value→Shared→Prop} (hh:A.handled=none) (hit:s.heap.IsKeyIter it d i n ep) (hod:s.heap.get? d=some od) (hdd:od.data=.dict es ep)
  (hsz:es.size=n) (hge:n≤i) (hQ:∀h',Heap.ExtBut it s.heap h'→Q none { s with heap:=h' }):wpAny (model prog w) A (pyNext (.ref it)) Q E s:=by
 obtain⟨o,ho,hc,hd⟩:=id hit
 unfold pyNext
 refine AF (wpAny_attempt (Gi (name:=Dv "__next__") hit.typeIs Gb
  (Fd Gb hit.typeIs UI ?_ (UG _))))
 refine AF (AQ ?_)
 refine AF ?_
 refine AF ?_
 first | refine AF (KN hit.typeIs (AQ ?_)) | refine AF (KP hit.typeIs (AQ ?_))
 refine AF (wpAny_fieldsOf ho hd ?_)
 have hown:T8 "dict_keyiterator"=false:=by decide
 simp only[hown,Dn,if_false]
 show wpAny _ _ (if (Az d==DA)=true then _ else _) _ _ s
 rw[if_neg (show ¬((Az d==DA)=true) from Ag)]
 refine AF (AQ ?_)
 refine AF (KH hod hdd ?_)
 rw[if_neg (by rw[hsz];simp)]
 refine AF (AQ ?_)
 refine AF (NU hod hdd ?_)
 rw[if_neg (by simp)]
 refine AQ ?_
 have hge':es.size≤i:=by rw[hsz];exact hge
 simp only[show ¬((i:Int) < 0) from by omega,if_false,FL,TM hge']
 refine AF ?_
 first | refine AF (KN hit.typeIs (AQ ?_)) | refine AF (KP hit.typeIs (AQ ?_))
 show wpAny _ _ (setField (.ref it) 0 .none >>= _) _ _ s
 refine AF (KL ho hd (by simp) ?_)
 show wpAny _ _ (newExc (.type "StopIteration") [] >>= _) _ _ _
 refine AF ?_
 simp only[newExc,newTuple]
 refine AF (Gj ?_ (by size_fits))
 refine AF (m:=firstArgMember _ _) (NY (a:=DA) (by first | rfl | (simp only[firstArgMember];rfl)) ?_)
 refine Gj ?_ (by size_fits)
 simp only[raiseNew]
 refine AF (wpAny_handled ?_)
 rw[show A.in1.handled=none from hh]
 refine AF (AQ (wpAny_throw ?_))
 refine AF (wpAny_isInstance (T:="StopIteration") (b:=true) ⟨_,BQ _ rfl,rfl⟩ isSubtype_stop ?_)
 exact AQ (hQ _ (((J4 ..).extBut.push _).push _))
end
theorem Wi {κ:Type}{kvs:List (κ×V)}{vs:List (κ×Value)} (h:KV kvs vs):∀{i:Nat}{k:κ}{v:V},kvs[i]?=some (k,v)→∃u,vs[i]?=some (k,u)∧RelV v u:=by
 unfold KV at h
 induction h with
 | nil=>intro i k v e;simp at e
 | @cons a b l₁ l₂ r t ih =>
  intro i k v e
  cases i with
  | zero =>
   simp only[Mg,T3] at e
   subst e
   refine⟨b.2,?_,r.2⟩
   simp only[Mg]
   exact congrArg some (Prod.ext r.1.symm rfl)
  | succ j =>
   simp only[Tg] at e ⊢
   exact ih e
theorem XW {α β:Type}{G:α→β→Prop}{l₁:List α}{l₂:List β} (h:Paired G l₁ l₂):∀{i:Nat}{a:α},l₁[i]?=some a→∃b,l₂[i]?=some b∧G a b:=by
 induction h with
 | nil=>intro i a e;simp at e
 | @cons a b l₁ l₂ r t ih =>
  intro i a' e
  cases i with
  | zero =>
   simp only[Mg,T3] at e
   subst e
   exact⟨b,rfl,r⟩
  | succ j =>
   simp only[Tg] at e ⊢
   exact ih e
theorem X9 {k:Key}{u:Value} (h:ET k u=true):RelV (kV k) u:=by
 rcases Di h with ⟨i,t,rfl,rfl⟩ | ⟨x,t,rfl,rfl⟩
 ·exact⟨t,rfl⟩
 ·exact⟨t,rfl⟩
section
variable {X:Cx}{pins:List (Addr×Obj)}{σ:St}{H:Hp}{s:Shared}{d:Addr}{o:Obj}
theorem Inv.frzK {kvs:List (Key×V)} (I:Inv X pins σ H s) (h:H d=some (.frz o (.dK kvs))):
  (d==sysModules)=false∧s.heap.get? d=some o∧o.ExactDict∧∃(es:Array DictEntry) (ep:Nat) (vs:List (Key×Value)),o.data=.dict es ep∧es.size=kvs.length∧KV kvs vs∧s.heap.DictAt (CC X.prog X.w) d vs ep:=by
 obtain⟨hd,z,hs,vs,kv,o',es,ep,ho,hx,hdt,r⟩:=I.hok d _ h
 rw[hd] at ho
 cases ho
 refine⟨hs,hd,hx,es,ep,vs,hdt,?_,kv,o,es,hd,hx,hdt,r⟩
 have l1:=r.2.1.length
 have l2:kvs.length=vs.length:=FU kv
 rw[JT] at l1
 omega
theorem Inv.frzT {kvs:List (List Key×V)} (I:Inv X pins σ H s) (h:H d=some (.frz o (.dT kvs))):
  (d==sysModules)=false∧s.heap.get? d=some o∧o.ExactDict∧∃(es:Array DictEntry) (ep:Nat),o.data=.dict es ep∧es.size=kvs.length∧
   ∀(i:Nat) (k:List Key) (v:V),kvs[i]?=some (k,v)→∃(en:DictEntry) (q:Addr),es[i]?=some en∧en.key=.ref q∧H q=some (.tup (k.map kV)):=by
 obtain⟨hd,z,hs,xs,pr,o',es,ep,ho,hx,hdt,he,_⟩:=I.hok d _ h
 rw[hd] at ho
 cases ho
 refine⟨hs,hd,hx,es,ep,hdt,?_,fun i k v e=>?_⟩
 ·have l1:es.size=xs.length:=size_of_entries he
  have l2:kvs.length=xs.length:=FU pr
  omega
 ·obtain⟨b,hb,e1,e2,_⟩:=XW pr e
  have q:=entry_at he i
  rw[hb] at q
  exact⟨_,b.2.1,q,rfl,e2⟩
end
def Itk (d:Addr) (o:Obj) (kvs:List (Key×V)):It :=
 ⟨fun i H=>H d=some (.frz o (.dK kvs))∧i < kvs.length,fun i H x H'=>H'=H∧∃k v,kvs[i]?=some (k,v)∧x=kV k,fun i H=>H d=some (.frz o (.dK kvs))∧kvs.length≤i⟩
def Nf (d:Addr) (o:Obj) (kvs:List (List Key×V)):It :=
 ⟨fun i H=>H d=some (.frz o (.dT kvs))∧i < kvs.length,fun i H x H'=>H'=H∧∃(k:List Key) (v:V) (q:Addr),kvs[i]?=some (k,v)∧x=.ref q∧H q=some (.tup (k.map kV)),fun i H=>H d=some (.frz o (.dT kvs))∧kvs.length≤i⟩
theorem IM {o:Obj}{es es':Array DictEntry}{ep ep':Nat} (h:o.data=.dict es ep) (h':o.data=.dict es' ep'):es'=es∧ep'=ep:=by
 rw[h] at h'
 cases h'
 exact⟨rfl,rfl⟩
section
variable {P:Program}{w:World}{K:AA}{tg:Expr}{d:Addr}{o:Obj}{es:Array DictEntry}{ep:Nat}
theorem ZY {kvs:List (Key×V)} (it:Addr) (hod:o.data=.dict es ep):De P w K tg (Itk d o kvs) [it] it (fun i h=>h.IsKeyIter it d i kvs.length ep) where
 mem:=by simp
 obj:=fun i h st b hb=>by
  have e:b=it:=by simpa using hb
  subst e
  obtain⟨oi,e,c,dd⟩:=st
  exact⟨oi,e,fun v z=>by rw[dd] at z;cases z⟩
 keep:=fun i h h' st k=>st.at fun oi e=>k it (by simp) oi e
 item:=by
  intro X hP hw hK hc i pins s σ H E I hf st hg
  subst hP hw hK
  obtain⟨hd,hi⟩:=hg
  obtain⟨f0,f1,f2,f3,f4,f5⟩:=hf it (by simp)
  obtain⟨hs,hgd,hx,es',ep',vs,hdt,hsz,kv,hm⟩:=I.frzK hd
  obtain⟨rfl,rfl⟩:=IM hod hdt
  obtain⟨⟨k,v⟩,hkv⟩:∃p,kvs[i]?=some p:=⟨kvs[i],BD hi⟩
  obtain⟨u,hu,ru⟩:=Wi kv hkv
  have hl:kvs.length=vs.length:=FU kv
  rw[hl] at st
  refine wpAny_pyNext_dict_item st hm hu fun key h' hkey st' sb=>?_
  have I1:Inv X pins σ H { s with heap:=h' }:=I.turned (t':=s.toks) (fun b ob hb e=>(sb.2 b hb).trans e) f0 f1 f3 f4 f5
  obtain⟨oi,e,c,dd⟩:=id st'
  refine⟨key,rfl,Fo (s:={ s with heap:=h' }) e c dd (by decide) ⟨kV k,H,I1,X9 (show ET k key=true from hkey),⟨rfl,k,v,hkv,rfl⟩,?_,fun b hb=>(hf b hb).1⟩⟩
  show h'.IsKeyIter it d (i+1) kvs.length _
  rw[hl]
  exact st'
 done:=by
  intro X hP hw hK hc i pins s σ H E I hf st hg
  subst hP hw hK
  obtain⟨hd,hi⟩:=hg
  obtain⟨f0,f1,f2,f3,f4,f5⟩:=hf it (by simp)
  obtain⟨hs,hgd,hx,es',ep',vs,hdt,hsz,kv,hm⟩:=I.frzK hd
  obtain⟨rfl,rfl⟩:=IM hod hdt
  exact Pw (I.ok.hd hc) st hgd hdt hsz hi fun h' eb=>⟨rfl,I.turned (t':=s.toks) (fun b ob hb e=>eb b ob hb e) f0 f1 f3 f4 f5⟩
 self:=fun A i s Q E st h=>wpAny_pyIter_keyiter st h
theorem ZZ {kvs:List (List Key×V)} (it:Addr) (hod:o.data=.dict es ep):De P w K tg (Nf d o kvs) [it] it (fun i h=>h.IsKeyIter it d i kvs.length ep) where
 mem:=by simp
 obj:=fun i h st b hb=>by
  have e:b=it:=by simpa using hb
  subst e
  obtain⟨oi,e,c,dd⟩:=st
  exact⟨oi,e,fun v z=>by rw[dd] at z;cases z⟩
 keep:=fun i h h' st k=>st.at fun oi e=>k it (by simp) oi e
 item:=by
  intro X hP hw hK hc i pins s σ H E I hf st hg
  subst hP hw hK
  obtain⟨hd,hi⟩:=hg
  obtain⟨f0,f1,f2,f3,f4,f5⟩:=hf it (by simp)
  obtain⟨hs,hgd,hx,es',ep',hdt,hsz,ent⟩:=I.frzT hd
  obtain⟨rfl,rfl⟩:=IM hod hdt
  obtain⟨⟨k,v⟩,hkv⟩:∃p,kvs[i]?=some p:=⟨kvs[i],BD hi⟩
  obtain⟨en,q,hen,hkey,hq⟩:=ent i k v hkv
  refine XC st hgd hdt hsz hen fun h' st' sb=>?_
  have I1:Inv X pins σ H { s with heap:=h' }:=I.turned (t':=s.toks) (fun b ob hb e=>(sb.2 b hb).trans e) f0 f1 f3 f4 f5
  obtain⟨oi,e,c,dd⟩:=id st'
  exact⟨en.key,rfl,Fo (s:={ s with heap:=h' }) e c dd (by decide) ⟨.ref q,H,I1,hkey,⟨rfl,k,v,q,hkv,rfl,hq⟩,st',fun b hb=>(hf b hb).1⟩⟩
 done:=by
  intro X hP hw hK hc i pins s σ H E I hf st hg
  subst hP hw hK
  obtain⟨hd,hi⟩:=hg
  obtain⟨f0,f1,f2,f3,f4,f5⟩:=hf it (by simp)
  obtain⟨hs,hgd,hx,es',ep',hdt,hsz,ent⟩:=I.frzT hd
  obtain⟨rfl,rfl⟩:=IM hod hdt
  exact Pw (I.ok.hd hc) st hgd hdt hsz hi fun h' eb=>⟨rfl,I.turned (t':=s.toks) (fun b ob hb e=>eb b ob hb e) f0 f1 f3 f4 f5⟩
 self:=fun A i s Q E st h=>by
  refine Uw st.typeIs UM (Fd UM st.typeIs F.entry_dict_keyiterator_iter ?_ (F.args_dict_keyiterator_iter_1 _))
  show wpAny _ _ (ret (.ref it)) _ _ s
  exact AQ ⟨_,rfl,"dict_keyiterator",_,st.typeIs,Gb.lookup,h⟩
end
def WL (td:TE):TI:=fun σ H R=>td σ H fun x H1=>∃d o,x=.ref d∧((∃kvs,H1 d=some (.frz o (.dK kvs))∧R (Itk d o kvs) H1)∨∃kvs,H1 d=some (.frz o (.dT kvs))∧R (Nf d o kvs) H1)
section
variable {X:Cx}{tg e:Expr}{td:TE}{apos cpos:Pos}
theorem QM (he:PE X e td):PI X tg e (WL td):=by
 intro pins s σ H R I h
 refine thn (he pins s σ H _ I h) fun u s1 ⟨x,H1,I1,rx,d,o,ex,q⟩=>?_
 subst ex
 obtain rfl:u=Az d:=rx
 rcases q with ⟨kvs,hd,q⟩ | ⟨kvs,hd,q⟩
 ·obtain⟨hs,hgd,hx,es,ep,vs,hdt,hsz,kv,hm⟩:=I1.frzK hd
  refine PK hs hgd hx hdt (HI (tk:=s1.toks) I1 _ (ZY _ hdt) ⟨_,BQ _ rfl,rfl,?_⟩ q)
  rw[hsz] <;> rfl
 ·obtain⟨hs,hgd,hx,es,ep,hdt,hsz,ent⟩:=I1.frzT hd
  refine PK hs hgd hx hdt (HI (tk:=s1.toks) I1 _ (ZZ _ hdt) ⟨_,BQ _ rfl,rfl,?_⟩ q)
  rw[hsz] <;> rfl
end
def Ite (K:AA) (a:Addr):It :=
 ⟨fun i H=>∃(xs:List V) (x:V),SqL K H a xs∧xs[i]?=some x,fun i H v H'=>∃T x,v=.ref T∧H T=none∧H'=upd H T (.tup [.int (i:Nat),x])∧∀xs,SqL K H a xs→xs[i]?=some x,fun i H=>∃xs:List V,SqL K H a xs∧xs.length≤i⟩
theorem ZW {P:Program}{w:World}{K:AA}{elts:List Expr}{kk:Nat}{tpos:Pos} (a e it:Addr):
  De P w K (.Tuple elts kk tpos) (Ite K a) [e,it] e (fun i h=>(∃old,IsEnum h e it ((i:Nat):Int) old)∧h.IsListIter it a i∧e≠it) where
 mem:=by simp
 obj:=fun i h st b hb=>by
  obtain⟨⟨old,he⟩,⟨o,ho,hc,hd⟩,_⟩:=st
  have e':b=e∨b=it:=by simpa using hb
  rcases e' with z | z
  ·rw[z];exact⟨_,he,fun v q=>nomatch q⟩
  ·rw[z];exact⟨o,ho,fun v q=>by rw[hd] at q;cases q⟩
 keep:=fun i h h' st k=>let ⟨⟨old,he⟩,hi,hne⟩:=st;⟨⟨old,k e (by simp) _ he⟩,hi.at fun o q=>k it (by simp) o q,hne⟩
 item:=by
  intro X hP hw hK hc i pins s σ H E I hf st hg
  subst hP hw hK
  obtain⟨⟨old,he⟩,hit,hne⟩:=st
  obtain⟨xs,x,hq,hx⟩:=hg
  obtain⟨its,rv,p,hz⟩:=I.list hq
  obtain⟨u,hu,ru⟩:=rv.get hx
  have hel:e < s.heap.objs.size:=Ao he
  have hil:it < s.heap.objs.size:=by obtain⟨_,q,_⟩:=hit;exact Ao q
  refine wpAny_pyNext_enum_item he hit p.isList (x:=u) (by simpa using hu) hne fun h' ho hit' hT hsz hk=>?_
  refine⟨_,rfl,Ut (s:={ s with heap:=h',toks:=s.toks+1 }) ho fun h'' he' sb=>?_⟩
  have hT2:h''.get? s.heap.objs.size=some { cls:=.type "tuple",data:=.seq #[.int i s.toks,u] }:=(sb.2 _ (Jr hel)).trans hT
  have new:ObjOk X.prog X.w (upd H s.heap.objs.size (.tup [.int (i:Nat),x])) h'' s.heap.objs.size (.tup [.int (i:Nat),x]) :=
   ⟨by show 2≤sizeLine;decide,[.int i s.toks,u],.cons ⟨_,rfl⟩ (.cons ru .nil),⟨_,hT2,rfl,_,rfl⟩⟩
  have I1:Inv X pins σ (upd H s.heap.objs.size (.tup [.int (i:Nat),x])) { s with heap:=h'',toks:=s.toks+1 } :=
   I.turnedNew (ch:=[e,it]) (fun b ob hb q=>(sb.2 b (fun z=>hb (by simp[z]))).trans (hk b ob (fun z=>hb (by simp[z])) (fun z=>hb (by simp[z])) q)) hf (AV _) new
  refine⟨.ref s.heap.objs.size,_,I1,rfl,⟨_,x,rfl,I.hok.fresh (AV _),rfl,fun ys hy=>by rw[I.list_inj hy hq];exact hx⟩,⟨⟨u,?_⟩,hit'.at fun o q=>(sb.2 it (An hne)).trans q,hne⟩,fun b hb=>?_⟩
  ·have e1:((i+1:Nat):Int)=(i:Int)+1:=by omega
   rw[e1];exact he'
  ·have hb':b < s.heap.objs.size:=by
    have e':b=e∨b=it:=by simpa using hb
    rcases e' with z | z
    ·rw[z];exact hel
    ·rw[z];exact hil
   rw[AE (BM hb')]
   exact(hf b hb).1
 done:=by
  intro X hP hw hK hc i pins s σ H E I hf st hg
  subst hP hw hK
  obtain⟨⟨old,he⟩,hit,hne⟩:=st
  obtain⟨xs,hq,hx⟩:=hg
  obtain⟨its,rv,p,hz⟩:=I.list hq
  obtain⟨f0,f1,f2,f3,f4,f5⟩:=hf it (by simp)
  have hl:=rv.length
  exact wpAny_pyNext_enum_end (I.ok.hd hc) he hit p.isList (by simp;omega) fun h' eb=>⟨rfl,I.turned (t':=s.toks) (fun b o hb q=>eb b o hb q) f0 f1 f3 f4 f5⟩
 self:=fun A i s Q E st h=>let ⟨⟨_,he⟩,_⟩:=st;KI he h
def WJ (K:AA) (ta:TA):TI:=fun σ H R=>ta σ H fun vs H1=>∃a xs,vs=[.ref a]∧SqL K H1 a xs∧R (Ite K a) H1
theorem QL {X:Cx}{e:Expr}{ta:TA}{p pos tpos:Pos}{elts:List Expr}{kk:Nat} (hg:Gl X "enumerate") (hm:X.mg "enumerate"=none) (ha:PA X [e] ta) (hs:starEach [e] X.env=[(false,eval e X.env)]:=by rfl):
  PI X (.Tuple elts kk tpos) (.Call (.Name "enumerate" p) [e] [] pos) (WJ X.K ta):=by
 intro pins s σ H R I h
 refine Call_ (Fv I hg hm boot_enumerate (Hn (thn (ha pos pins s σ H _ I h) fun us s1 ⟨vs,H1,I1,r1,q1⟩=>?_) hs rfl))
 obtain⟨a,xs,ex,hq,q⟩:=q1
 subst ex
 cases r1 with
 | cons r rr =>
  cases rr
  cases r
  obtain⟨its,rv,p',hz⟩:=I1.list hq
  refine call_enumerate_list p'.isList fun h' he hit hsz hk=>KI he ?_
  have I2:Inv X pins σ H1 { s1 with heap:=h' }:=I1.kept (t':=s1.toks) hk
  refine⟨s1.heap.objs.size+1,[s1.heap.objs.size+1,s1.heap.objs.size],_,_,H1,rfl,I2,ZW a (s1.heap.objs.size+1) s1.heap.objs.size,⟨⟨.none,he⟩,hit,Tx _⟩,fun b hb=>?_,q⟩
  have e':b=s1.heap.objs.size+1∨b=s1.heap.objs.size:=by simpa using hb
  have hle:s1.heap.objs.size≤b:=by
   rcases e' with z | z
   ·rw[z];exact Ms _ _
   ·rw[z];exact AV _
  exact I1.fpOk hle (I1.hok.fresh hle)
end L2
section
namespace Bits
open PySem PyProof.Rows
end Bits
end
section
namespace TL
open PySem PySem.Builtin PySem.Builtin.Str PySem.StrLaws
abbrev tl (x:Str):List Nat:=x.cps.toList
def pre (S l:List Nat):Bool:=l.take S.length==S
def par (S:List Nat):List Nat→List Nat→Option (List Nat×List Nat)
 | _,[]=>none
 | acc,c::r=>if pre S (c::r)=true then some (acc,(c::r).drop S.length) else par S (acc++[c]) r
end TL
end
namespace L2
open PySem PySem.Spec PyProof.Rows
section
variable {X:Cx}{pins:List (Addr×Obj)}{σ:St}{H:Hp}{s:Shared}{Q:VK}
end
section
variable {X:Cx}
end
section
variable {X:Cx}{o e:Expr}{to te:TE}
end
end L2
namespace L2
open PySem PySem.Spec PyProof.Rows
section
variable {X:Cx}
end
end L2
namespace Att
open PySem PySem.W PySem.Calls PyProof.Rows
theorem WR {P:Params}{h:Heap}:∀(ns:List Int) (vs:List Value),WellAll P h vs (ns.map WData.int)→IntsAre vs ns:=by
 intro ns
 induction ns with
 | nil =>
  intro vs w
  rw[FQ] at w
  cases w
  exact .nil
 | cons n ns ih =>
  intro vs w
  rw[Au] at w
  cases w with
  | cons a b =>
   cases a
   exact .cons _ _ (ih _ b)
theorem Ye {l:OpenLaw}{n:Nat} (hn:l.most=some n) {P:Params}{h:Heap}{args:List WData}{vals:List Value}
  (hpre:l.row.toRowW.claim.pre args=true) (hwl:WellAll P h vals args):
  ∃a vs ns,vals=[Az a]∧args=[WData.list (ns.map WData.int)]∧h.get? a=some { cls:=.type "list",data:=.seq vs.toArray }∧IntsAre vs ns∧ns.length≤n:=by
 have hsh:WShape.hasAll [] args [.list .int]=true:=(pre_splitW hpre).1
 have hc:l.pre.holds [] { args:=args }=true:=(pre_splitW hpre).2
 obtain⟨d,r,rfl,h1,h2⟩:=hasAllW_cons hsh
 obtain rfl:=hasAllW_nil h2
 obtain⟨xs,rfl,h3⟩:=hasW_list h1
 obtain⟨ns,rfl⟩:=items_int h3
 have hlen:ns.length≤n:=by
  unfold OpenLaw.pre at hc
  have h4:(WTm.not (.lt (.lit (.int (n:Int))) (.len (.arg 0)))).holds [] { args:=[.list (ns.map .int)] }=true:=by
   have h4:=(holds_andW hc).1
   rw[hn] at h4
   exact h4
  have h5:=condW_of h4 (w_not (w_lt w_lit (w_len_list (w_arg rfl))))
  rw[AG] at h5
  refine Nat.le_of_not_lt fun q=>?_
  have q':(n:Int) < ((ns.length:Nat):Int):=by omega
  first
   | (rw[decide_eq_true q'] at h5;exact absurd h5 (by decide))
   | (simp at h5;omega)
 cases hwl with
 | cons w1 w2 =>
  cases w2
  cases w1 with
  | list ho hall=>exact⟨_,_,ns,rfl,rfl,ho,WR ns _ hall,hlen⟩
theorem Xn (l:OpenLaw) (args:List WData):l.row.toRowW.claim.post args (.bool true) args=true :=
 postW_of (r:=l.row.toRowW) (X:=(true==true))
  (show WShape.has [] (.bool true) .bool=true by first | rfl | decide | simp[WShape.has,WShape.arms,WShape.armsAll])
  (show(WTm.eq .res (.lit (.bool true))).value [] { args:=args,res:=some (.bool true),after:=args }=some (.bool (true==true)) from w_eq_bool (w_res rfl) w_lit) rfl
theorem attach_call {l:OpenLaw}{n:Nat}{q:Program}{loose:List Str}{XP:(Str→Option Value)→Heap→Prop}{YP:World→Heap→Prop}{d:DefRec}
  (hn:l.most=some n) (hdf:d.params.defaults=[])
  (call:∀(w:World) (s₀ s₁:Shared) (mg mb:Str→Option Value) (fa:Addr) (o:Obj) (pm cd doc:Value) (a:Addr) (vs:List Value) (ns:List Int),
   Ground q loose [] XP w s₀ mg mb s₁.heap→YP w s₁.heap→
   s₁.heap.get? fa=some o→o.data=.func (docDef d.name d.params d.body d.scope pm cd doc)→s₁.heap.CodeRec cd d.name→mg d.name=some (.ref fa)→
   s₁.heap.get? a=some { cls:=.type "list",data:=.seq vs.toArray }→IntsAre vs ns→ns.length≤n→s₁.gens=#[]→
   codeAny (model l.prog w) callerA (.call (.ref fa) ⟨[.ref a],[]⟩) (fun r s'=>r=.ok (.ret (.bool true))∧OldK s₁.heap s'.heap∧s'.os=s₁.os∧AllBare s'.gens) s₁):
  WalkO q loose XP YP l.row.toRowW d [] (fun f vs=>NR f vs):=by
 intro w s₀ s₁ mg mb G Y fa o pm cd doc dV kV ho hd hcd hD hmg hg args vals as hpre hlay hrd hwl hlo
 obtain rfl:dV=.none:=Dflts.none hD hdf
 obtain rfl:kV=.none:=Dflts.noKw hD
 obtain⟨a,vs,ns,rfl,rfl,hobj,hints,hlen⟩:=Ye hn hpre hwl
 refine enter_call (FZ (call w s₀ s₁ mg mb fa o pm cd doc a vs ns G Y ho (fd_plain hd) hcd hmg hobj hints hlen hg) fun r s' hq=>?_)
 obtain⟨rfl,h2,h3,h4⟩:=hq
 exact⟨.inl ⟨.bool true,.bool true,[],rfl,fun _=>rfl,.bool true,Xn l _,fun _=>⟨TV.nil,fun _ hm=>(nomatch hm)⟩⟩,h2,h3,h4⟩
section
variable {prog:Program}{w:World}{A:Around}{E:Value→Shared→Prop}{s:Shared}{K:Frag}
end
end Att
namespace L2
open PySem PySem.Spec PyProof.Rows
theorem S7:∀{vs:List Value}{ns:List Int},IntsAre vs ns→Vals (ns.map V.int) vs
 | _,_,.nil=>.nil
 | _,_,.cons n t h=>.cons ⟨t,rfl⟩ (S7 h)
def KW (H:Hp):Prop:=∀b,H b=none∨∃o xs,H b=some (.frz o (.lst xs))
theorem Wk {P:Program}{w:World}{K:AA}{mg mb:Str→Option Value}{CX:CXT}{k:Nat}{fa a:Addr}{fd:FuncData}{x:Str}{sp:Sp}{s₁:Shared}{vs:List Value}{ns:List Int}
  (KX:K.In s₁.heap) (hns:s₁.heap.Ns mainGlobals mg) (hb:s₁.heap.Ns builtinsNs mb) (hbb:∀x:Str,x≠"__name__"→mb x=bootBuiltins x) (hlim:s₁.heap.NoLimit) (hg:s₁.gens=#[])
  (ha:s₁.heap.get? a=some { cls:=.type "list",data:=.seq vs.toArray }) (hi:IntsAre vs ns) (hl:ns.length≤sizeLine) (hr:Room k callerA)
  (F:∀base:Heap,K.In base→base.Ns mainGlobals mg→FnOk P w K mg base CX k fa fd [x] sp) (hbind:∀(s:Shared) (u:Value),BindsTo s fd ⟨[u],[]⟩ [(x,u)])
  (hsp:∀H:Hp,KW H→SqL K H a (ns.map V.int)→sp [.ref a] H (fun v _=>v=.bl true) fun _ _ _=>False)
  (hCX:∀H e s',CX [] H s₁ (fun _ _ _=>False) e s'→False):
  codeAny (model P w) callerA (.call (.ref fa) ⟨[.ref a],[]⟩) (fun r s'=>r=.ok (.ret (.bool true))∧OldK s₁.heap s'.heap∧s'.os=s₁.os∧AllBare s'.gens) s₁:=by
 have rv:=S7 hi
 have lenV:=hi.length
 have core:∀H:Hp,KW H→SqL K H a (ns.map V.int)→HOk P w H s₁.heap→(∀b,H b≠none→b=a)→(H a≠none→K.lookup a=none)→
   codeAny (model P w) callerA (.call (.ref fa) ⟨[.ref a],[]⟩) (fun r s'=>r=.ok (.ret (.bool true))∧OldK s₁.heap s'.heap∧s'.os=s₁.os∧AllBare s'.gens) s₁:=by
  intro H hO hS hok hA hK
  have base_of:∀{b:Addr} {o:Obj},s₁.heap.get? b=some o→H b=none→(CG s₁.heap H).get? b=some o:=fun e n=>Oz e n
  have noA:∀{b:Addr} {o:Obj} {es:Array DictEntry} {ep:Nat},s₁.heap.get? b=some o→o.data=.dict es ep→H b=none:=fun {b o es ep} e d=>by
   cases q:H b with
   | none=>rfl
   | some u =>
    have e':b=a:=hA b (by rw[q];simp)
    subst e'
    rw[ha] at e;cases e
    have d':Data.seq vs.toArray _=Data.dict es ep:=d
    cases d'
  have nsK:∀{b:Addr} {m:Str→Option Value},s₁.heap.Ns b m→(CG s₁.heap H).Ns b m:=fun {b m} ⟨o,es,ep,e,d,r⟩=>⟨o,es,ep,base_of e (noA e d),d,r⟩
  have hKb:K.In (CG s₁.heap H):=fun b o e=>base_of (KX b o e) (by
   cases q:H b with
   | none=>rfl
   | some u =>
    have e':b=a:=hA b (by rw[q];simp)
    subst e'
    rw[hK (by rw[q];simp)] at e;cases e)
  have hM:Mod K mg (CG s₁.heap H):=⟨hKb,nsK hns,⟨mb,nsK hb,hbb⟩,let ⟨mc,h1,h2⟩:=hlim;⟨mc,nsK h1,h2⟩⟩
  have e0:Env0 P w K mg (CG s₁.heap H) callerA [] s₁ H:=⟨rfl,hM,fun b o e=>P2 e,Hk (O0 _ _),trivial,fun b hb=>absurd (show b∈([]:List Addr) from hb) (by simp),hok,.of_eq hg⟩
  refine FZ ((F _ hKb (nsK hns)).run callerA [] s₁ H ⟨[.ref a],[]⟩ [.ref a] [.ref a] _ _ hr e0 (hbind s₁ (.ref a)) (.cons rfl .nil) (hsp H hO hS)) fun r s' h=>?_
  cases r with
  | error e=>exact(hCX H e s' h).elim
  | ok fl =>
   cases fl with
   | next=>exact BL h
   | brk=>exact BL h
   | cont=>exact BL h
   | ret u =>
    obtain⟨v,H',os,bare,un,hok',r',q⟩:=h
    have q':v=.bl true:=q
    subst q'
    obtain rfl:u=DM true:=r'
    refine⟨rfl,OldK.of_keep fun b o e=>?_,os,bare⟩
    cases q:H b with
    | none=>exact un.keep b o e q (by intro z;exact absurd (show b∈([]:List Addr) from z) (by simp)) (by simp)
    | some u =>
     rcases hO b with z | ⟨ob,xs,z⟩
     ·rw[q] at z;cases z
     ·have z2:=un.frzs b ob _ z
      obtain⟨e1,_⟩:=hok b _ z
      obtain⟨e2,_⟩:=hok' b _ z2
      rw[e] at e1;cases e1
      exact e2
 cases hk:K.lookup a with
 | some o =>
  have e:=KX a o hk
  rw[ha] at e
  cases e
  refine core (fun _=>none) (fun _=>.inl rfl) (.inr ⟨_,vs.toArray,_,hk,rfl,rfl,rfl,by rw[Be,lenV];exact hl,by simpa using rv⟩) (fun b u z=>by have z':(none:Option HO)=some u:=z;cases z') (fun b z=>absurd rfl z) fun z=>absurd rfl z
 | none =>
  refine core (fun b=>if b=a then some (.frz { cls:=.type "list",data:=.seq vs.toArray } (.lst (ns.map V.int))) else none) (fun b=>?_) (.inl (.inr ⟨{ cls:=.type "list",data:=.seq vs.toArray },if_pos rfl⟩)) (fun b u z=>?_) (fun b z=>?_) fun _=>hk
  ·by_cases hb:b=a
   ·exact .inr ⟨_,_,if_pos hb⟩
   ·exact .inl (if_neg hb)
  ·by_cases hb:b=a
   ·have z':=(if_pos hb).symm.trans z
    cases z'
    subst hb
    exact⟨ha,by rw[AG];exact hl,vs,_,rv,ha⟩
   ·have z':=(if_neg hb).symm.trans z
    cases z'
  ·by_cases hb:b=a
   ·exact hb
   ·exact absurd (if_neg hb) z
end L2
namespace L2
open PySem PySem.Spec PyProof.Rows
abbrev KOf {K:AA}{h:Heap} (_:K.In h):AA:=K
theorem walk_of {l:PySem.W.OpenLaw}{n k:Nat}{q:Program}{loose:List Str}{XP:(Str→Option Value)→Heap→Prop}{YP:World→Heap→Prop}{d:DefRec}{K:Params→AA}{CX:World→CXT}{sp:World→Sp}{x:Str}
  (hn:l.most=some n) (hn2:n≤sizeLine) (hdf:d.params.defaults=[]) (hr:Room k callerA)
  (hY:∀(w:World) (h:Heap),YP w h→(K w.params).In h)
  (F:∀(w:World) (mg:Str→Option Value) (fa:Addr) (h:Heap),(K w.params).In h→h.Ns mainGlobals mg→mg d.name=some (.ref fa)→
   ∃fd:FuncData,(∀(s:Shared) (u:Value),BindsTo s fd ⟨[u],[]⟩ [(x,u)])∧
    ∀base:Heap,(K w.params).In base→base.Ns mainGlobals mg→FnOk l.prog w (K w.params) mg base (CX w) k fa fd [x] (sp w))
  (hsp:∀(w:World) (H:Hp) (a:Addr) (ns:List Int),ns.length≤n→KW H→SqL (K w.params) H a (ns.map V.int)→sp w [.ref a] H (fun v _=>v=.bl true) fun _ _ _=>False)
  (hCX:∀(w:World) (H:Hp) (s:Shared) (e:Value) (s':Shared),CX w [] H s (fun _ _ _=>False) e s'→False):
  PySem.W.WalkO q loose XP YP l.row.toRowW d [] (fun f vs=>NR f vs):=by
 refine Att.attach_call hn hdf fun w s₀ s₁ mg mb fa o pm cd doc a vs ns G Y ho hd hcd hmg hobj hints hlen hg=>?_
 have KX:=hY w _ Y
 obtain⟨fd,hb,hF⟩:=F w mg fa _ KX G.T.g hmg
 exact Wk KX G.T.g G.T.b G.T.builtins G.T.nolimit hg hobj hints (Ba hlen hn2) hr hF hb (fun H hO hS=>hsp w H a ns hlen hO hS) fun H e s'=>hCX w H s₁ e s'
end L2
/- THE LAST THEOREM (shape;LID,My.* are yours):
 My.Adr: a structure of the addresses that your layer names (classes,functions);My.Txt K t: a structure (Prop) of the equations over K;
 My.txt_mk:{K} {implicit addresses ..} (e1:nsIn K mainGlobals "law"=some (some (.ref f))) (e2:K.lookup f=some ⟨oc,od,.func (fnOf "law" "law" params body scope dV kV doc pm an cdv ct),sl⟩) (e3:codeIn K cdv "law"=true) ..:∃t,My.Txt K t
set_option maxRecDepth 100000 in
set_option maxHeartbeats 0 in
theorem PySem.Challenge.cw_LID_holds : PySem.Challenge.rw_LID.Holds := by
 w_on;o_law;k_head;(case hw=>w_witness2)
 k_fill
 refine L2.walk_of (l:=PySem.Challenge.rw_LID) (n:=63) (k:=40) (x:="script") (CX:=fun w=>..) (sp:=fun _=>My.sp_law) rfl (by decide) rfl ⟨rfl,by decide,by decide⟩ (fun w h Y=>PySem.W.kIn_of Y) ?F ?S ?C
 case F =>
  intro w mg fa h KX G hmg
  have T:∃t,My.Txt (L2.KOf KX) t:=by
   dsimp only [L2.KOf]                          -- K must stand as «<heap const> w.params» for k_is
   refine' My.txt_mk ?e1 ?e2 ?e3 ..
   (case e1=>PySem.W.k_is)                    -- in the order: a name -> its address -> its object -> its parts
   (case e2=>PySem.W.k_is)
   ..
  obtain⟨t,T⟩:=T
  have e0:=hmg.symm.trans (FY KX G T.law)
  cases e0                                       -- fa is the law's own address
  exact⟨_,fun s u=>.of_eq rfl,fun base kb nb=>My.law_fn T kb nb⟩     -- if «.of_eq rfl» comes too early: refine' ⟨_,?b,fun base kb nb=>My.law_fn T kb nb⟩;exact fun s u=>.of_eq rfl
 case S=>exact fun w H a ns hl hO hS=>..
 case C=>exact ..
(the tactic k_is has no namespace: write k_is) -/
namespace L2
open PySem PySem.Spec PyProof.Rows
def Dh (s:Stmt) (j:Nat):Stmt:=match s with
 | .ClassDef _ _ _ body _ _ _ _ _ _ _=>body.getD j (.Pass ⟨0,0,0,0⟩)
 | _=>.Pass ⟨0,0,0,0⟩
def CF (s:Stmt):Arguments:=match s with
 | .FunctionDef _ a _ _ _ _ _ _ _ _=>a
 | _=>{ posonlyargs:=[],args:=[],vararg:=none,kwonlyargs:=[],kw_defaults:=[],kwarg:=none,defaults:=[] }
def Bj (s:Stmt):List Stmt:=match s with
 | .FunctionDef _ _ b _ _ _ _ _ _ _=>b
 | _=>[]
def AK (s:Stmt):Scope:=match s with
 | .FunctionDef _ _ _ _ _ _ sc _ _ _=>sc
 | _=>{ kind:=.function,names:=[],isGenerator:=false,isCoroutine:=false }
abbrev CX0:CXT:=fun _ _ _ _ _ _=>False
abbrev E0:XK:=fun _ _ _=>False
theorem F2 {X:Cx}:Et CX0 X E0:=fun _ _ _ _ _ _ _ h=>h.elim
structure Fun (K:AA) (x qual:Str) (st:Stmt) (f:Addr) (fd:FuncData):Prop where
 ex:∃(oc:Value) (od:Option Addr) (kV doc pm:Value) (an:Option Addr) (cdv ct:Value) (osl:Array (Option Value)),
  fd=Gh x qual (CF st) (Bj st) (AK st) .none kV doc pm an cdv ct∧K.lookup f=some ⟨oc,od,.func fd,osl⟩∧NI K cdv qual=true
 kp:FX K (.ref f)=true
section
variable {P:Program}{w:World}{K:AA}{mg:Str→Option Value}{base:Heap}
theorem Fun.ok {x qual:Str}{st:Stmt}{f:Addr}{fd:FuncData}{N ps:List Str}{k:Nat}{sp:Sp} (F:Fun K x qual st f fd) (S:AY N ps (AK st)) (len:∀vs H Q E,sp vs H Q E→vs.length=ps.length)
  (hbody:∀(cdv:Value) (A:Around) (outer:List Env) (s:Shared) (H:Hp) (vs:List V) (Q:VK) (E:XK),Room k (A.deeper (envOfC qual (AK st) s.heap.objs.size f cdv))→sp vs H Q E→
   ∃t,PSs (Dg CX0 P w K mg base N qual (AK st) f cdv A outer s H E).nox (Bj st) t∧t { nx:=fun _ H'=>Q .non H',rt:=Q } (start N vs) H):FnOk P w K mg base CX0 (k+1) f fd ps sp:=by
 obtain⟨oc,od,kV,doc,pm,an,cdv,ct,osl,rfl,lk,hcd⟩:=F.ex
 refine Oc lk hcd S len fun A outer s H vs Q E hr hsp=>?_
 obtain⟨t,h,q⟩:=hbody cdv A outer s H vs Q E hr hsp
 exact⟨t,h.nox,q⟩
theorem Fun.binds {x qual:Str}{st:Stmt}{f:Addr}{fd:FuncData}{ps:List Str} (F:Fun K x qual st f fd)
  (h:∀(kV doc pm:Value) (an:Option Addr) (cdv ct:Value) (us:List Value),us.length=ps.length→bindArgs (Gh x qual (CF st) (Bj st) (AK st) .none kV doc pm an cdv ct) ⟨us,[]⟩=pure (ps.zip us)):Binds K fd ps []:=by
 obtain⟨oc,od,kV,doc,pm,an,cdv,ct,osl,rfl,lk,hcd⟩:=F.ex
 exact .all (h kV doc pm an cdv ct)
theorem Fn {x qual:Str}{st:Stmt}{f:Addr}{oc:Value}{od an:Option Addr}{osl:Array (Option Value)}{kV doc pm cdv ct:Value} (l:K.lookup f=some ⟨oc,od,.func (Gh x qual (CF st) (Bj st) (AK st) .none kV doc pm an cdv ct),osl⟩)
 (c:NI K cdv qual=true) (k:FX K (.ref f)=true):Fun K x qual st f (Gh x qual (CF st) (Bj st) (AK st) .none kV doc pm an cdv ct):=⟨⟨oc,od,kV,doc,pm,an,cdv,ct,osl,rfl,l,c⟩,k⟩
end
theorem E1 {A:Around}{k:Nat} (hr:Room k A):A.units+1 < cLine:=Nat.lt_of_le_of_lt (Mr (by decide:1≤64) _) hr.units
section
variable {X:Cx}
theorem pv (i:Nat) {x:Str}{pos:Pos} (hN:X.N[i]?=some x:=by rfl) (hv:Vis X.env.scope x:=by first | exact AZ rfl | exact Dt (AZ rfl) | exact Dt (Dt rfl)) (hd:(x==("__debug__":Str))=false:=by decide)
 (hcd:(x==("__classdict__":Str))=false:=by decide):PE X (.Name x pos) (Ee i):=QK hN hv hd hcd
end
theorem Ie {A B:Prop} (h:B):if false=true then A else B:=by
 rw[if_neg Ag]
 exact h
theorem PF {A B:Prop} (h:A):if true=true then A else B:=by
 rw[if_pos rfl]
 exact h
theorem ES {c A B:Prop} [Decidable c] (h1:c→A) (h2:¬c→B):if c then A else B:=by
 by_cases h:c
 ·rw[if_pos h]
  exact h1 h
 ·rw[if_neg h]
  exact h2 h
theorem WT {c A B:Prop} [Decidable c] (hc:c) (h:B):if (!decide c)=true then A else B:=by
 rw[decide_eq_true hc]
 exact Ie h
def Same (H H':Hp):Prop:=∀b o,H b=some o→H' b=some o
theorem Same.refl (H:Hp):Same H H:=fun _ _ h=>h
theorem Same.trans {H H1 H2:Hp} (a:Same H H1) (b:Same H1 H2):Same H H2:=fun c o h=>b c o (a c o h)
theorem Same.free {H H':Hp} (e:Same H H') {l:Addr} (h:H' l=Jx):H l=Jx:=by
 cases q:H l with
 | none=>rfl
 | some o =>
  rw[e l o q] at h
  cases h
theorem Same.seq {K:AA}{H H':Hp}{a:Addr}{xs:List V} (e:Same H H') (h:SqL K H a xs):SqL K H' a xs:=by
 rcases h with (h | ⟨o,h⟩) | h
 ·exact .inl (.inl (e _ _ h))
 ·exact .inl (.inr ⟨o,e _ _ h⟩)
 ·exact .inr h
section
variable {κ:Type} [DecidableEq κ]
end
theorem VC {xs:List V}{z:Int}{j:Nat}{v:V} (e:z=(j:Int)) (h:xs[j]?=some v):atI xs z=some v:=by
 rw[e]
 exact Bw h
theorem W8 {α:Type}{l:List α} (hN:l.Nodup) {i j:Nat}{x:α} (a:l[i]?=some x) (b:l[j]?=some x):i=j:=by
 obtain⟨h1,e1⟩:=Bd.mp a
 obtain⟨h2,e2⟩:=Bd.mp b
 exact(Tj hN).mp (e1.trans e2.symm)
theorem Same.made {H H1:Hp}{x dx C:Addr} (nx:H x=Jx) (nd:H dx=Jx) (k:∀b o,(upd (upd H dx (.own x)) x (.ins C dx [])) b=some o→b≠x→H1 b=some o):Same H H1:=fun b o e =>
 k b o (by rw[AE (Am e nx),AE (Am e nd)];exact e) (Am e nx)
end L2
set_option maxHeartbeats 2000000
namespace L2
open PySem PySem.Spec PyProof.Rows
open PySem.W (WData Codec OpenSpec Well WellAll ReadsW ReadsAllW)
mutual
inductive Dw (K:AA) (H:Hp):V→WData→Prop
 | non:Dw K H .non .none
 | bl (b:Bool):Dw K H (.bl b) (.bool b)
 | int (i:Int):Dw K H (.int i) (.int i)
 | str (x:Str):Dw K H (.str x) (.str x)
 | byt (b:Array UInt8):Dw K H (.byt b) (.bytes b.toList)
 | lst {a:Addr} {xs:List V} {ds:List WData}:SqL K H a xs→Ct K H xs ds→Dw K H (.ref a) (.list ds)
 | tup {a:Addr} {xs:List V} {ds:List WData}:SqT K H a xs→Ct K H xs ds→Dw K H (.ref a) (.tuple ds)
inductive Ct (K:AA) (H:Hp):List V→List WData→Prop
 | nil:Ct K H [] []
 | cons {v:V} {vs:List V} {d:WData} {ds:List WData}:Dw K H v d→Ct K H vs ds→Ct K H (v::vs) (d::ds)
end
theorem dw_ints {K:AA}{H:Hp}:∀ns:List Int,Ct K H (ns.map V.int) (ns.map WData.int)
 | []=>.nil
 | n::r=>.cons (.int n) (dw_ints r)
theorem ints_dw {K:AA}{H:Hp}:∀(ns:List Int) (xs:List V),Ct K H xs (ns.map WData.int)→xs=ns.map V.int
 | [],xs,h=>by
  cases h
  rfl
 | n::r,xs,h=>by
  cases h with
  | cons h1 h2 =>
   cases h1
   rw[ints_dw r _ h2] <;> rfl
section
variable {P:Program}{w:World}{K:AA}{H:Hp}{h:Heap}{R:Uc}{cl:Str→Option Addr}
theorem Ys {a:Addr}{xs:List V} (hok:HOk P w H h) (KX:K.In h) (q:SqL K H a xs):∃(its:List Value) (o:Obj) (n:Nat),Vals xs its∧h.get? a=some o∧o.cls=.type "list"∧o.data=.seq its.toArray n:=by
 rcases q with q | ⟨o,its,n,e,hc,_,hd,_,hv⟩
 ·obtain⟨_,its,n,hv,e⟩:=(show ObjOk P w H h a (.lst xs) from q.ok hok)
  exact⟨its,_,n,hv,e,rfl,rfl⟩
 ·exact⟨its.toList,o,n,hv,KX _ _ e,hc,by simp[hd]⟩
theorem Yt {a:Addr}{xs:List V} (hok:HOk P w H h) (KX:K.In h) (q:SqT K H a xs):∃(its:List Value) (o:Obj) (n:Nat),Vals xs its∧h.get? a=some o∧o.cls=.type "tuple"∧o.data=.seq its.toArray n:=by
 rcases q with q | ⟨o,its,n,e,hc,hd,_,hv⟩
 ·obtain⟨_,its,hv,o,e,hc,n,hd⟩:=(show ObjOk P w H h a (.tup xs) from q.ok hok)
  exact⟨its,o,n,hv,e,hc,hd⟩
 ·exact⟨its.toList,o,n,hv,KX _ _ e,hc,by simp[hd]⟩
mutual
theorem Dw.reads (hok:HOk P w H h) (KX:K.In h):∀(d:WData) (v:V) (u:Value),Dw K H v d→RelV v u→∃as,ReadsW R cl h u d as
 | .none,_,_,x,r=>by
  cases x
  cases r
  exact⟨_,ReadsW.none⟩
 | .bool b,_,_,x,r=>by
  cases x
  cases r
  exact⟨_,ReadsW.bool b⟩
 | .int i,_,_,x,r=>by
  cases x
  obtain⟨t,rfl⟩:=r
  exact⟨_,ReadsW.int i t⟩
 | .str s,_,_,x,r=>by
  cases x
  obtain⟨t,rfl⟩:=r
  exact⟨_,ReadsW.str s t⟩
 | .bytes b,_,_,x,r=>by
  cases x
  obtain⟨t,rfl⟩:=r
  exact⟨_,ReadsW.bytes _ t⟩
 | .list ds,_,_,x,r=>by
  cases x with
  | lst hs ha =>
   cases r
   obtain⟨its,o,n,rv,ho,hc,hd⟩:=Ys hok KX hs
   obtain⟨as,hr⟩:=Dw.readsAll hok KX ds _ its ha rv
   exact⟨_,ReadsW.list ho hc hd hr⟩
 | .tuple ds,_,_,x,r=>by
  cases x with
  | tup hs ha =>
   cases r
   obtain⟨its,o,n,rv,ho,hc,hd⟩:=Yt hok KX hs
   obtain⟨as,hr⟩:=Dw.readsAll hok KX ds _ its ha rv
   exact⟨_,ReadsW.tuple ho hc hd hr⟩
 | .float _,_,_,x,_=>by cases x
 | .dict _,_,_,x,_=>by cases x
 | .bytearray _,_,_,x,_=>by cases x
 | .set _,_,_,x,_=>by cases x
 | .frozenset _,_,_,x,_=>by cases x
 | .obj _ _,_,_,x,_=>by cases x
theorem Dw.readsAll (hok:HOk P w H h) (KX:K.In h):∀(ds:List WData) (vs:List V) (us:List Value),Ct K H vs ds→Vals vs us→∃as,ReadsAllW R cl h us ds as
 | [],_,_,x,r=>by
  cases x
  cases r
  exact⟨_,ReadsAllW.nil⟩
 | d::ds,_,_,x,r=>by
  cases x with
  | cons h1 h2 =>
   cases r with
   | cons r1 r2 =>
    obtain⟨as,q1⟩:=Dw.reads hok KX d _ _ h1 r1
    obtain⟨bs,q2⟩:=Dw.readsAll hok KX ds _ _ h2 r2
    exact⟨_,ReadsAllW.cons q1 q2⟩
end
end
mutual
def plW:WData→Bool
 | .none=>true
 | .bool _=>true
 | .int _=>true
 | .str _=>true
 | .bytes _=>true
 | .list xs=>DF xs
 | .tuple xs=>DF xs
 | _=>false
def DF:List WData→Bool
 | []=>true
 | x::r=>plW x&&DF r
end
theorem QN {α:Type}{f:α→WData} (h:∀a,plW (f a)=true):∀l:List α,DF (l.map f)=true
 | []=>rfl
 | x::r=>by
  show(plW (f x)&&DF (r.map f))=true
  rw[h x,QN h r] <;> rfl
theorem Eb:∀(c:Codec) (a:c.denote),plW (c.enc a)=true
 | .unit,_=>rfl
 | .bool,_=>rfl
 | .int _ _,_=>rfl
 | .nat _ _,_=>rfl
 | .u8,_=>rfl
 | .bytes _ _,_=>rfl
 | .text _ _ _ _,_=>rfl
 | .list _ _ c,a=>QN (fun x=>Eb c x) a
 | .pair c d,a=>by
  show(plW (c.enc a.1)&&(plW (d.enc a.2)&&true))=true
  rw[Eb c a.1,Eb d a.2] <;> rfl
 | .triple c d e,a=>by
  show(plW (c.enc a.1)&&(plW (d.enc a.2.1)&&(plW (e.enc a.2.2)&&true)))=true
  rw[Eb c a.1,Eb d a.2.1,Eb e a.2.2] <;> rfl
 | .option c,none=>rfl
 | .option c,some x=>Eb c x
theorem QO:∀(cs:List Codec) (a:Codec.denoteAll cs),DF (Codec.encAll cs a)=true
 | [],_=>rfl
 | c::cs,a=>by
  show(plW (c.enc a.1)&&DF (Codec.encAll cs a.2))=true
  rw[Eb c a.1,QO cs a.2] <;> rfl
theorem MK:∀{xs:List WData}{d:WData},d∈xs→d.weight≤WData.weightAll xs
 | [],d,h=>absurd h (by simp)
 | x::r,d,h=>by
  show d.weight≤x.weight+1+WData.weightAll r
  rcases AS.mp h with e | m
  ·rw[e]
   omega
  ·have z:=MK m
   omega
def toV:Value→V
 | .none=>.non
 | .bool b=>.bl b
 | .int i _=>.int i
 | .str x _=>.str x
 | .bytes b _=>.byt b
 | .ref a=>.ref a
 | _=>.non
def OkU (A:List Addr):Value→Prop
 | .none=>True
 | .bool _=>True
 | .int _ _=>True
 | .str _ _=>True
 | .bytes _ _=>True
 | .ref a=>a∈A
 | _=>False
theorem OkU.mono {A B:List Addr} (h:∀a∈A,a∈B):∀{u:Value},OkU A u→OkU B u:=fun {u} x=>by
 cases u with
 | ref a=>exact h a x
 | none=>trivial
 | bool b=>trivial
 | int i t=>trivial
 | str s t=>trivial
 | bytes b t=>trivial
 | _=>exact BL x
theorem YA {A:List Addr}{u:Value} (x:OkU A u):RelV (toV u) u:=by
 cases u with
 | ref a=>rfl
 | none=>rfl
 | bool b=>rfl
 | int i t=>exact⟨t,rfl⟩
 | str s t=>exact⟨t,rfl⟩
 | bytes b t=>exact⟨t,rfl⟩
 | _=>exact BL x
theorem GN {A:List Addr}:∀{vs:List Value},(∀u∈vs,OkU A u)→Vals (vs.map toV) vs
 | [],_=>.nil
 | u::r,h=>.cons (YA (h u (AU ..))) (GN fun x hx=>h x (As _ hx))
def ArgOb (h:Heap) (A:List Addr) (a:Addr):Prop:=∃vs:List Value,vs.length≤sizeLine∧(∀u∈vs,OkU A u)∧
 (h.get? a=some { cls:=.type "list",data:=.seq vs.toArray }∨h.get? a=some { cls:=.type "tuple",data:=.seq vs.toArray })
theorem ArgOb.mono {h:Heap}{A B:List Addr}{a:Addr} (k:∀a∈A,a∈B) (x:ArgOb h A a):ArgOb h B a:=by
 obtain⟨vs,h1,h2,h3⟩:=x
 exact⟨vs,h1,fun u hu=>(h2 u hu).mono k,h3⟩
theorem JS {P:Params}{h:Heap}:∀{vs:List Value}{ds:List WData},WellAll P h vs ds→vs.length=ds.length
 | _,_,.nil=>rfl
 | _,_,.cons _ b=>by
  show _+1=_+1
  rw[JS b]
theorem TF {P:Params}{h:Heap}{v:Value}{ds:List WData} (x:Well P h v (.list ds)):∃(a:Addr) (vs:List Value),v=.ref a∧h.get? a=some { cls:=.type "list",data:=.seq vs.toArray }∧WellAll P h vs ds:=by
 cases x with
 | list ho hall=>exact⟨_,_,rfl,ho,hall⟩
theorem TH {P:Params}{h:Heap}{v:Value}{ds:List WData} (x:Well P h v (.tuple ds)):∃(a:Addr) (vs:List Value),v=.ref a∧h.get? a=some { cls:=.type "tuple",data:=.seq vs.toArray }∧WellAll P h vs ds:=by
 cases x with
 | tuple ho hall=>exact⟨_,_,rfl,ho,hall⟩
theorem S9 {P:Params}{h:Heap}{us:List Value}{d:WData}{ds:List WData} (x:WellAll P h us (d::ds)):∃(v:Value) (vs:List Value),us=v::vs∧Well P h v d∧WellAll P h vs ds:=by
 cases x with
 | cons a b=>exact⟨_,_,rfl,a,b⟩
theorem Pf {n:Nat} (h:n≤1048576):n≤sizeLine:=Ba h (by decide)
section
variable {P:Params}{h:Heap}
mutual
theorem U7:∀(d:WData) (v:Value),Well P h v d→plW d=true→d.weight≤1048576→∃A:List Addr,OkU A v∧∀a∈A,ArgOb h A a
 | .none,_,x,_,_=>by
  cases x
  exact⟨[],trivial,fun a m=>absurd m (by simp)⟩
 | .bool b,_,x,_,_=>by
  cases x
  exact⟨[],trivial,fun a m=>absurd m (by simp)⟩
 | .int i,_,x,_,_=>by
  cases x
  exact⟨[],trivial,fun a m=>absurd m (by simp)⟩
 | .str s,_,x,_,_=>by
  cases x
  exact⟨[],trivial,fun a m=>absurd m (by simp)⟩
 | .bytes b,_,x,_,_=>by
  cases x
  exact⟨[],trivial,fun a m=>absurd m (by simp)⟩
 | .list ds,_,x,p,z=>by
  obtain⟨a,vs,rfl,ho,hall⟩:=TF x
  have z2:WData.weightAll ds≤1048576:=z
  obtain⟨A,h1,h2⟩:=Hx ds _ hall p fun d hd=>Ba (MK hd) z2
  have k:∀b∈A,b∈a::A:=fun b hb=>As _ hb
  refine⟨a::A,AU ..,fun b hb=>?_⟩
  rcases AS.mp hb with e | m
  ·rw[e]
   exact⟨vs,Pf (by rw[JS hall];exact Ba (Ug ds) z2),fun u hu=>(h1 u hu).mono k,.inl ho⟩
  ·exact(h2 b m).mono k
 | .tuple ds,_,x,p,z=>by
  obtain⟨a,vs,rfl,ho,hall⟩:=TH x
  have z2:WData.weightAll ds≤1048576:=z
  obtain⟨A,h1,h2⟩:=Hx ds _ hall p fun d hd=>Ba (MK hd) z2
  have k:∀b∈A,b∈a::A:=fun b hb=>As _ hb
  refine⟨a::A,AU ..,fun b hb=>?_⟩
  rcases AS.mp hb with e | m
  ·rw[e]
   exact⟨vs,Pf (by rw[JS hall];exact Ba (Ug ds) z2),fun u hu=>(h1 u hu).mono k,.inr ho⟩
  ·exact(h2 b m).mono k
 | .float _,_,_,p,_=>C4 (show false=true from p)
 | .dict _,_,_,p,_=>C4 (show false=true from p)
 | .bytearray _,_,_,p,_=>C4 (show false=true from p)
 | .set _,_,_,p,_=>C4 (show false=true from p)
 | .frozenset _,_,_,p,_=>C4 (show false=true from p)
 | .obj _ _,_,_,p,_=>C4 (show false=true from p)
theorem Hx:∀(ds:List WData) (vs:List Value),WellAll P h vs ds→DF ds=true→(∀d∈ds,d.weight≤1048576)→∃A:List Addr,(∀u∈vs,OkU A u)∧∀a∈A,ArgOb h A a
 | [],_,x,_,_=>by
  cases x
  exact⟨[],fun u m=>absurd m (by simp),fun a m=>absurd m (by simp)⟩
 | d::ds,_,x,p,z=>by
  obtain⟨v,vs,rfl,x1,x2⟩:=S9 x
  have q:plW d=true∧DF ds=true:=JU.mp p
  obtain⟨A,a1,a2⟩:=U7 d v x1 q.1 (z d (AU ..))
  obtain⟨B,b1,b2⟩:=Hx ds vs x2 q.2 fun e he=>z e (As _ he)
  have kA:∀b∈A,b∈A++B:=fun b hb=>C8.mpr (.inl hb)
  have kB:∀b∈B,b∈A++B:=fun b hb=>C8.mpr (.inr hb)
  refine⟨A++B,fun u hu=>?_,fun b hb=>?_⟩
  ·rcases AS.mp hu with e | m
   ·rw[e]
    exact a1.mono kA
   ·exact(b1 u m).mono kB
  ·rcases C8.mp hb with m | m
   ·exact(a2 b m).mono kA
   ·exact(b2 b m).mono kB
end
end
def Ia (o:Obj):Option HO:=match o.data with
 | .seq vs _=>if (o.cls==Dx "list")=true then some (.frz o (.lst (vs.toList.map toV))) else some (.frz o (.tup (vs.toList.map toV)))
 | _=>none
def Bp (K:AA) (h:Heap) (A:List Addr):Hp:=fun b=>if b∈A then (if (K.lookup b).isNone=true then (h.get? b).bind Ia else none) else none
theorem O2 (vs:List Value):Ia { cls:=.type "list",data:=.seq vs.toArray }=some (.frz { cls:=.type "list",data:=.seq vs.toArray } (.lst (vs.map toV))):=by
 show(if (Dx "list"==Dx "list")=true then some (HO.frz { cls:=.type "list",data:=.seq vs.toArray } (.lst (vs.toArray.toList.map toV))) else some (HO.frz { cls:=.type "list",data:=.seq vs.toArray } (.tup (vs.toArray.toList.map toV))))=_
 rw[if_pos (beq_self_eq_true _)]
theorem O3 (vs:List Value):Ia { cls:=.type "tuple",data:=.seq vs.toArray }=some (.frz { cls:=.type "tuple",data:=.seq vs.toArray } (.tup (vs.map toV))):=by
 show(if (Dx "tuple"==Dx "list")=true then some (HO.frz { cls:=.type "tuple",data:=.seq vs.toArray } (.lst (vs.toArray.toList.map toV))) else some (HO.frz { cls:=.type "tuple",data:=.seq vs.toArray } (.tup (vs.toArray.toList.map toV))))=_
 rw[if_neg (by decide)]
section
variable {P:Program}{w:World}{K:AA}{h:Heap}{A:List Addr}
theorem Hy {b:Addr}{o:Obj} (hb:b∈A) (hk:K.lookup b=none) (e:h.get? b=some o):Bp K h A b=Ia o:=by
 unfold Bp
 rw[if_pos hb,hk,if_pos (show(none:Option Obj).isNone=true from rfl),e] <;> rfl
theorem XG {b:Addr}{u:HO} (q:Bp K h A b=some u):b∈A∧K.lookup b=none:=by
 unfold Bp at q
 by_cases hb:b∈A
 ·rw[if_pos hb] at q
  cases hk:K.lookup b with
  | none=>exact⟨hb,rfl⟩
  | some o =>
   rw[hk,if_neg (by simp)] at q
   cases q
 ·rw[if_neg hb] at q
  cases q
theorem Kb (ar : ∀ a ∈ A, ArgOb h A a) {b : Addr} {u : HO} (q : Bp K h A b = some u) : K.lookup b = none ∧ ∃ vs : List Value, vs.length ≤ sizeLine ∧ (∀ u ∈ vs, OkU A u) ∧
    ((h.get? b = some { cls := .type "list", data := .seq vs.toArray } ∧ u = .frz { cls := .type "list", data := .seq vs.toArray } (.lst (vs.map toV))) ∨
     (h.get? b = some { cls := .type "tuple", data := .seq vs.toArray } ∧ u = .frz { cls := .type "tuple", data := .seq vs.toArray } (.tup (vs.map toV)))) := by
  obtain ⟨hb, hk⟩ := XG q
  obtain ⟨vs, h1, h2, h3⟩ := ar b hb
  refine ⟨hk, vs, h1, h2, ?_⟩
  rcases h3 with e | e
  · rw [Hy hb hk e, O2] at q
    exact .inl ⟨e, (Ae q).symm⟩
  · rw [Hy hb hk e, O3] at q
    exact .inr ⟨e, (Ae q).symm⟩
theorem U8 (ar:∀a∈A,ArgOb h A a):HOk P w (Bp K h A) h:=fun b u q=>by
 obtain⟨_,vs,h1,h2,⟨e,rfl⟩ | ⟨e,rfl⟩⟩:=Kb ar q
 ·exact⟨e,by rw[AG];exact h1,vs,_,GN h2,e⟩
 ·exact⟨e,by rw[AG];exact h1,vs,GN h2,_,e,rfl,_,rfl⟩
theorem JH {c c':Value}{vs us:List Value} (e:(some { cls:=c,data:=.seq vs.toArray }:Option Obj)=some { cls:=c',data:=.seq us.toArray }):c=c'∧vs=us:=by
 have e1:=Ae e
 have e2:c=c':=congrArg Obj.cls e1
 have e3:Data.seq vs.toArray=Data.seq us.toArray:=congrArg Obj.data e1
 injection e3 with e4
 refine⟨e2,?_⟩
 have e5:=congrArg MP e4
 simpa using e5
theorem U9 (KX:K.In h) (ar:∀a∈A,ArgOb h A a) {a:Addr}{vs:List Value} (ha:a∈A) (e:h.get? a=some { cls:=.type "list",data:=.seq vs.toArray }):(∀u∈vs,OkU A u)∧SqL K (Bp K h A) a (vs.map toV):=by
 obtain⟨us,h1,h2,h3⟩:=ar a ha
 have hu:us=vs:=by
  rcases h3 with q | q
  ·rw[e] at q
   exact(JH q).2.symm
  ·rw[e] at q
   exact absurd (Dx.inj (JH q).1) (by decide)
 subst hu
 refine⟨h2,?_⟩
 cases hk:K.lookup a with
 | none=>exact .inl (.inr ⟨_,by rw[Hy ha hk e,O2]⟩)
 | some o =>
  have e2:=KX a o hk
  rw[e] at e2
  obtain rfl:=Ae e2
  exact .inr ⟨_,us.toArray,_,hk,rfl,rfl,rfl,by rw[Be];exact h1,by simpa using GN h2⟩
theorem VA (KX:K.In h) (ar:∀a∈A,ArgOb h A a) {a:Addr}{vs:List Value} (ha:a∈A) (e:h.get? a=some { cls:=.type "tuple",data:=.seq vs.toArray }):(∀u∈vs,OkU A u)∧SqT K (Bp K h A) a (vs.map toV):=by
 obtain⟨us,h1,h2,h3⟩:=ar a ha
 have hu:us=vs:=by
  rcases h3 with q | q
  ·rw[e] at q
   exact absurd (Dx.inj (JH q).1) (by decide)
  ·rw[e] at q
   exact(JH q).2.symm
 subst hu
 refine⟨h2,?_⟩
 cases hk:K.lookup a with
 | none=>exact .inl (.inr ⟨_,by rw[Hy ha hk e,O3]⟩)
 | some o =>
  have e2:=KX a o hk
  rw[e] at e2
  obtain rfl:=Ae e2
  exact .inr ⟨_,us.toArray,_,hk,rfl,rfl,by rw[Be];exact h1,by simpa using GN h2⟩
mutual
theorem Vr {Pm:Params} (KX:K.In h) (ar:∀a∈A,ArgOb h A a):∀(d:WData) (v:Value),Well Pm h v d→plW d=true→OkU A v→Dw K (Bp K h A) (toV v) d
 | .none,_,x,_,_=>by
  cases x
  exact .non
 | .bool b,_,x,_,_=>by
  cases x
  exact .bl b
 | .int i,_,x,_,_=>by
  cases x
  exact .int i
 | .str s,_,x,_,_=>by
  cases x
  exact .str s
 | .bytes b,_,x,_,_=>by
  cases x
  have z:=Dw.byt (K:=K) (H:=Bp K h A) b.toArray
  exact z
 | .list ds,_,x,p,hu=>by
  obtain⟨a,vs,rfl,ho,hall⟩:=TF x
  obtain⟨h2,hs⟩:=U9 KX ar hu ho
  exact .lst hs (IQ KX ar ds _ hall p h2)
 | .tuple ds,_,x,p,hu=>by
  obtain⟨a,vs,rfl,ho,hall⟩:=TH x
  obtain⟨h2,hs⟩:=VA KX ar hu ho
  exact .tup hs (IQ KX ar ds _ hall p h2)
 | .float _,_,_,p,_=>C4 (show false=true from p)
 | .dict _,_,_,p,_=>C4 (show false=true from p)
 | .bytearray _,_,_,p,_=>C4 (show false=true from p)
 | .set _,_,_,p,_=>C4 (show false=true from p)
 | .frozenset _,_,_,p,_=>C4 (show false=true from p)
 | .obj _ _,_,_,p,_=>C4 (show false=true from p)
theorem IQ {Pm:Params} (KX:K.In h) (ar:∀a∈A,ArgOb h A a):∀(ds:List WData) (vs:List Value),WellAll Pm h vs ds→DF ds=true→(∀u∈vs,OkU A u)→Ct K (Bp K h A) (vs.map toV) ds
 | [],_,x,_,_=>by
  cases x
  exact .nil
 | d::ds,_,x,p,hu=>by
  obtain⟨v,vs,rfl,x1,x2⟩:=S9 x
  have q:plW d=true∧DF ds=true:=JU.mp p
  exact .cons (Vr KX ar d v x1 q.1 (hu _ (AU ..))) (IQ KX ar ds vs x2 q.2 fun u m=>hu u (As _ m))
end
end
theorem Wl {ds:List WData} (h:WData.layableAll ds=true):∀d∈ds,d.weight≤1048576:=fun d hd =>
 (PySem.W.layableW_iff.mp (Cg.mp h d hd)).2.2
theorem OM:∀(cs:List Codec) (a:Codec.denoteAll cs),(Codec.encAll cs a).length=cs.length
 | [],_=>rfl
 | c::cs,a=>by
  show(Codec.encAll cs a.2).length+1=cs.length+1
  rw[OM cs a.2]
end L2
end
section
set_option maxRecDepth 100000
namespace Fm
open Flags
theorem HQ {α:Type}{f g:α→Nat}:∀{l:List α},(∀x∈l,f x≤g x)→(l.map f).sum≤(l.map g).sum
 | [],_=>AV _
 | a::l,h=>by
  have h1:=h a AU
  have h2:=HQ (l:=l) fun x hx=>h x (As _ hx)
  simp only[Au,Ds]
  omega
theorem sum_eq {α:Type}{f g:α→Nat}{l:List α} (h:∀x∈l,f x=g x):(l.map f).sum=(l.map g).sum:=by
 rw[DL h]
theorem GH {α:Type}:∀l:List α,(l.map fun _=>0).sum=0
 | []=>rfl
 | a::l=>by
  have:=GH l
  simp only[Au,Ds]
  omega
theorem Sv {α:Type} (p:α→Bool) (f:α→Nat):∀l:List α,((l.filter p).map f).sum=(l.map fun x=>if p x=true then f x else 0).sum
 | []=>rfl
 | a::l=>by
  have ih:=Sv p f l
  rw[Ei]
  cases h:p a with
  | true=>simp only[if_true,Au,Ds,h,ih]
  | false=>simp only[Dn,if_false,Au,Ds,h,ih,EG]
theorem OY {p:Nat→Bool}:∀l:List Nat,l.filter p∈choices l
 | []=>AU
 | x::r=>by
  have ih:=OY (p:=p) r
  rw[Ei]
  unfold choices
  cases p x with
  | true=>exact EF _ (List.mem_map_of_mem ih)
  | false=>exact Hg _ ih
def V9 (c:Nat→Nat) (s i x:Nat) (st:Nat×Nat):Nat×Nat:=if x=s then (if 0 < st.1 then (st.1 - 1+c i,st.2) else (st.1+c i,st.2+1)) else st
def Oq (c:Nat→Nat) (s:Nat):Nat→List Nat→Nat×Nat→Nat×Nat
 | _,[],st=>st
 | i,x::r,st=>Oq c s (i+1) r (V9 c s i x st)
def cnt (s:Nat):List Nat→Nat
 | []=>0
 | x::r=>(if x=s then 1 else 0)+cnt s r
end Fm
end
section
set_option maxRecDepth 100000
namespace Fm
open Flags
theorem range_cons (n:Nat):CW (n+1)=0::(CW n).map (·+1):=Jj
theorem IV {α:Type}{p q:α→Bool}:∀{l:List α},(∀x∈l,p x=true→q x=true)→(l.filter p).length≤(l.filter q).length
 | [],_=>AV _
 | a::l,h=>by
  have ih:=IV (l:=l) fun x hx=>h x (As _ hx)
  rw[Ei,Ei]
  cases hp:p a with
  | true =>
   rw[h a AU hp]
   simp;omega
  | false =>
   cases q a <;> simp <;> omega
def mayAt (L:Locker) (r:List Nat) (i:Nat):List Nat:=L.sameKinds.filter fun (f:Nat)=>decide (L.points f≤i)&&r.getD (L.points f - 1) 0==r.getD i 0
theorem spots_one (L:Locker) (r:List Nat):L.spots [r]=(CW r.length).map fun i=>⟨r.getD i 0,mayAt L r i⟩:=by
 unfold Locker.spots mayAt
 rw[List.flatMap_cons,List.flatMap_nil,C6]
theorem U4 (L:Locker) (k:Nat):L.allCopies.getD k 0=L.copies k:=by
 unfold Locker.allCopies Locker.copies
 rw[Ej,Aj]
def lk (L:Locker) (r:List Nat) (s:Nat):Nat:=cnt s r - L.copies s
def Y3 (L:Locker) (i:Nat):Nat:=((L.sameKinds.filter fun f=>L.points f==i+1).map L.copies).sum
end Fm
end
section
set_option maxRecDepth 100000
namespace Fm
open Flags
theorem LM:∀(n:Nat) (l:List Nat),l.length≤n→l.eraseDups.Nodup
 | _,[],_=>by simp
 | 0,a::l,h=>by simp at h
 | n+1,a::l,h=>by
  rw[List.eraseDups_cons]
  have hl:(l.filter fun b=>!b==a).length≤n:=Ba (Jg _ _) (by simpa using h)
  refine C9.mpr ⟨fun m=>?_,LM n _ hl⟩
  have:=(Ci.mp (Hi.mp m)).2
  simp at this
theorem contains_mem {l:List Nat}{x:Nat}:l.contains x=true↔x∈l:=by simp
def flown (L:Locker) (r:List Nat) (s:Nat):Nat:=(Oq (Y3 L) s 0 r (0,0)).2
end Fm
end
section
set_option maxRecDepth 100000
namespace Fb
open Flags (Bytes cutAt isName isSign)
def zs (b:Bytes):List Int:=b.map fun (c:UInt8)=>(c.toNat:Int)
theorem Av (b:Bytes):(zs b).length=b.length:=AG _
theorem S0 {a b:UInt8} (h:(a.toNat:Int)=(b.toNat:Int)):a=b:=UInt8.toNat_inj.mp (by omega)
theorem DU:∀{a b:Bytes},zs a=zs b→a=b
 | [],[],_=>rfl
 | [],_::_,h=>by simp[zs] at h
 | _::_,[],h=>by simp[zs] at h
 | x::a,y::b,h=>by
  have h:(x.toNat:Int)::zs a=(y.toNat:Int)::zs b:=h
  obtain⟨h1,h2⟩:=FO h
  rw[S0 h1,DU h2]
theorem TJ {a b:Bytes}:zs a=zs b↔a=b:=⟨DU,fun h=>by rw[h]⟩
theorem zs_nil {a:Bytes}:zs a=[]↔a=[]:=by cases a <;> simp[zs]
def Af (m:Int):List Int→List (List Int)
 | []=>[[]]
 | x::r=>if x=m then []::Af m r else match Af m r with
  | []=>[[x]]
  | w::l=>(x::w)::l
theorem IH (m:Int):∀r:List Int,Af m r≠[]
 | []=>by simp[Af]
 | x::r=>by
  unfold Af
  split
  ·simp
  ·split <;> simp
theorem Dz (m:UInt8):∀r:Bytes,cutAt m r≠[]
 | []=>by simp[cutAt]
 | x::r=>by
  unfold cutAt
  split
  ·simp
  ·split <;> simp
theorem IK (m:UInt8):∀b:Bytes,Af (m.toNat:Int) (zs b)=(cutAt m b).map zs
 | []=>rfl
 | x::r=>by
  have ih:=IK m r
  show Af (m.toNat:Int) ((x.toNat:Int)::zs r)=_
  unfold Af cutAt
  by_cases e:x=m
  ·rw[if_pos e,if_pos (by rw[e]),ih]
   rfl
  ·rw[if_neg e,if_neg (fun q=>e (S0 q)),ih]
   cases h:cutAt m r with
   | nil=>exact absurd h (Dz m r)
   | cons w l=>rfl
theorem II (m v:Int):∀(xs:List Int) (done:List (List Int)) (p:List Int),Af m xs=done++[p]→Af m (xs++[v])=if v=m then done++[p]++[[]] else done++[p++[v]]
 | [],done,p,h=>by
  have:done=[]∧p=[]:=by
   cases done with
   | nil=>simp[Af] at h;exact⟨rfl,h⟩
   | cons a l=>simp[Af] at h
  obtain⟨rfl,rfl⟩:=this
  by_cases e:v=m
  ·simp[Af,e]
  ·simp[Af,e]
 | x::r,done,p,h=>by
  show Af m (x::(r++[v]))=_
  unfold Af at h ⊢
  by_cases e:x=m
  ·rw[if_pos e] at h ⊢
   cases done with
   | nil =>
    have:Af m r=[]:=by simpa using(FO h).2
    exact absurd this (IH m r)
   | cons d ds =>
    have h1:=FO h
    have ih:=II m v r ds p h1.2
    rw[ih,← h1.1]
    split <;> rfl
  ·rw[if_neg e] at h ⊢
   cases hr:Af m r with
   | nil=>exact absurd hr (IH m r)
   | cons w l =>
    rw[hr] at h
    have h:(x::w)::l=done++[p]:=h
    cases done with
    | nil =>
     have h1:=FO h
     have hl:l=[]:=h1.2
     subst hl
     have ih:=II m v r [] w hr
     rw[ih]
     by_cases ev:v=m
     ·rw[if_pos ev,if_pos ev,← h1.1];rfl
     ·rw[if_neg ev,if_neg ev,← h1.1];rfl
    | cons d ds =>
     have h1:=FO h
     have hl:l=ds++[p]:=h1.2
     have ih:=II m v r (w::ds) p (by rw[hr,hl];rfl)
     rw[ih]
     by_cases ev:v=m
     ·rw[if_pos ev,if_pos ev,← h1.1];rfl
     ·rw[if_neg ev,if_neg ev,← h1.1];rfl
theorem IG (m:Int):∀xs:List Int,(Af m xs).length=xs.count m+1
 | []=>by simp[Af]
 | x::r=>by
  have ih:=IG m r
  unfold Af
  by_cases e:x=m
  ·rw[if_pos e,B1,ih,e,List.count_cons_self]
  ·rw[if_neg e]
   cases hr:Af m r with
   | nil=>exact absurd hr (IH m r)
   | cons w l =>
    rw[hr] at ih
    rw[Ma e,← ih]
    rfl
theorem Fl (m:Int) (xs:List Int):(Af m xs).length≤xs.length+1:=by
 rw[IG]
 have:=List.count_le_length (a:=m) (l:=xs)
 omega
theorem D5 (m:Int):∀(xs:List Int) (w:List Int),w∈Af m xs→w.length≤xs.length
 | [],w,h=>by simp[Af] at h;subst h;simp
 | x::r,w,h=>by
  have ih:=D5 m r
  unfold Af at h
  split at h
  ·rcases AS.mp h with e | h
   ·subst e;simp
   ·have:=ih w h;simp;omega
  ·split at h
   ·simp at h;subst h;simp
   ·rename_i w' l hr
    rcases AS.mp h with e | h
    ·subst e
     have:=ih w' (by rw[hr];exact AU)
     simp;omega
    ·have:=ih w (by rw[hr];exact As _ h)
     simp;omega
def EW (b:Int):Bool:=(decide (65≤b)&&decide (b≤90)) || (decide (48≤b)&&decide (b≤57))
def DQ (l:List Int):Bool:=(decide (1≤l.length)&&decide (l.length≤8))&&l.all EW
theorem CA {p q:Prop} [Decidable p] [Decidable q] (h:p↔q):decide p=decide q:=by
 by_cases x:p
 ·rw[decide_eq_true x,decide_eq_true (h.mp x)]
 ·rw[decide_eq_false x,decide_eq_false fun y=>x (h.mpr y)]
theorem W7 (c:UInt8):EW (c.toNat:Int)=isSign c:=by
 unfold EW isSign
 rw[CA (show(65:Int)≤c.toNat↔65≤c.toNat by omega),CA (show(c.toNat:Int)≤90↔c.toNat≤90 by omega),CA (show(48:Int)≤c.toNat↔48≤c.toNat by omega),CA (show(c.toNat:Int)≤57↔c.toNat≤57 by omega)]
theorem Nm {p:Int→Bool}{q:UInt8→Bool} (h:∀c:UInt8,p (c.toNat:Int)=q c) (b:Bytes):(zs b).all p=b.all q:=by
 unfold zs
 rw[FN]
 congr 1
 funext c
 exact h c
theorem Ic (b:Bytes):DQ (zs b)=isName b:=by
 unfold DQ isName
 rw[Av,Nm W7,Bool.and_assoc]
def HC (w ns:List Int):Bool:=match Af 32 ns with
 | [a,b]=>decide (a=w)&&DQ b
 | _=>false
theorem Fj (b:Bytes):Af 32 (zs b)=(cutAt 32 b).map zs:=IK 32 b
theorem Kn (b:Bytes):Af 10 (zs b)=(cutAt 10 b).map zs:=IK 10 b
theorem IF (b:Bytes):Af 46 (zs b)=(cutAt 46 b).map zs:=IK 46 b
theorem LI {w line n:Bytes} (h:Bt w line=some n):HC (zs w) (zs line)=true∧(Af 32 (zs line))[1]?=some (zs n):=by
 unfold Bt at h
 unfold HC
 rw[Fj]
 split at h
 ·rename_i a b hc
  split at h
  ·rename_i hh
   cases h
   rw[hc]
   show(decide (zs a=zs w)&&DQ (zs n))=true∧_
   rw[decide_eq_true (by rw[hh.1]),Ic,hh.2]
   exact⟨rfl,rfl⟩
  ·cases h
 ·cases h
theorem LH {w line:Bytes} (h:Bt w line=none):HC (zs w) (zs line)=false:=by
 unfold Bt at h
 unfold HC
 rw[Fj]
 match hc:cutAt 32 line with
 | [a,b] =>
  rw[hc] at h
  have h:(if a=w∧isName b=true then some b else none)=none:=h
  show(decide (zs a=zs w)&&DQ (zs b))=false
  by_cases e:a=w
  ·by_cases e2:isName b=true
   ·rw[if_pos ⟨e,e2⟩] at h;cases h
   ·rw[Ic,GO.mpr e2,HX]
  ·rw[decide_eq_false fun q=>e (DU q),Co]
 | []=>rfl
 | [a]=>rfl
 | a::b::c::l=>rfl
def Ib (l:List Int):Bool:=(decide (l.length≤64)&&l.all fun b=>decide (32≤b)&&decide (b≤126))&&!(decide ([]∈Af 32 l))
theorem OB (m x:UInt8) (r:Bytes):[]∈cutAt m (x::r)↔x=m∨[]∈(cutAt m r).tail:=by
 show []∈(if x=m then []::cutAt m r else match cutAt m r with
  | []=>[[x]]
  | w::l=>(x::w)::l)↔_
 by_cases e:x=m
 ·rw[if_pos e]
  exact⟨fun _=>.inl e,fun _=>AU⟩
 ·rw[if_neg e]
  cases h:cutAt m r with
  | nil=>exact absurd h (Dz m r)
  | cons w l=>simp[e]
theorem IJ (m x:UInt8) (r:Bytes):[]∈(cutAt m (x::r)).tail↔(x=m∧[]∈cutAt m r)∨(x≠m∧[]∈(cutAt m r).tail):=by
 show []∈(if x=m then []::cutAt m r else match cutAt m r with
  | []=>[[x]]
  | w::l=>(x::w)::l).tail↔_
 by_cases e:x=m
 ·rw[if_pos e];simp[e]
 ·rw[if_neg e]
  cases h:cutAt m r with
  | nil=>exact absurd h (Dz m r)
  | cons w l=>simp[e]
open Flags (noTwoBlanks isMeaning) in
theorem Nv:∀(x:UInt8) (r:Bytes),[]∈(cutAt 32 (x::r)).tail↔¬((x::r).getLast?≠some 32∧noTwoBlanks (x::r)=true)
 | x,[]=>by
  rw[IJ]
  simp[cutAt,noTwoBlanks]
 | x,y::r=>by
  have ih:=Nv y r
  rw[IJ,OB]
  have e1:(x::y::r).getLast?=(y::r).getLast?:=by rw[List.getLast?_cons_cons]
  have e2:noTwoBlanks (x::y::r)=(!(x==32&&y==32)&&noTwoBlanks (y::r)):=rfl
  rw[e1,e2]
  have e3:[]∈(cutAt 32 r).tail∧y≠32↔[]∈(cutAt 32 (y::r)).tail∧y≠32:=by
   rw[IJ]
   constructor
   ·rintro⟨a,b⟩;exact⟨.inr ⟨b,a⟩,b⟩
   ·rintro⟨a | a,b⟩
    ·exact(b a.1).elim
    ·exact⟨a.2,b⟩
  by_cases hx:x=32
  ·by_cases hy:y=32
   ·simp[hx,hy]
   ·have:[]∈(cutAt 32 r).tail↔[]∈(cutAt 32 (y::r)).tail:=⟨fun a=>(e3.mp ⟨a,hy⟩).1,fun a=>(e3.mpr ⟨a,hy⟩).1⟩
    rw[this,ih]
    simp[hx,hy]
  ·rw[ih]
   simp[hx]
theorem PD (b:Bytes):Ib (zs b)=DV b:=by
 unfold Ib DV
 have hmem:([]∈Af 32 (zs b))↔[]∈cutAt 32 b:=by
  rw[Fj]
  constructor
  ·intro h
   obtain⟨w,hw,e⟩:=BP.mp h
   rw[← zs_nil.mp e];exact hw
  ·intro h
   exact BP.mpr ⟨[],h,rfl⟩
 rw[Av,Nm (q:=fun c=>decide (32≤c.toNat)&&decide (c.toNat≤126)) (fun c=>by rw[CA (show(32:Int)≤c.toNat↔32≤c.toNat by omega),CA (show(c.toNat:Int)≤126↔c.toNat≤126 by omega)]),CA hmem]
 cases b with
 | nil=>rfl
 | cons x r =>
  rw[CA (OB 32 x r)]
  have h2:=Nv x r
  by_cases hx:x=32
  ·simp[hx]
  ·have h3:(x=32∨[]∈(cutAt 32 r).tail)↔[]∈(cutAt 32 (x::r)).tail:=by
    rw[IJ]
    simp[hx]
   rw[CA h3,CA h2]
   have e1:(x::r).head?=some x:=rfl
   rw[e1]
   have e4:(some x != some (32:UInt8))=true:=by simp[hx]
   rw[e4]
   have e5:decide (1≤(x::r).length)=true:=by simp
   rw[e5,DJ,DJ]
   have e6:(!decide (¬((x::r).getLast?≠some 32∧TU (x::r)=true)))=((x::r).getLast? != some 32&&TU (x::r)):=by
    rw[C3]
    simp
   rw[e6,Bool.and_assoc]
theorem QA {c:UInt8}:∀{l:Bytes},Eg c l=none→cutAt c l=[l]
 | [],_=>rfl
 | x::r,h=>by
  unfold Eg at h
  unfold cutAt
  split at h
  ·cases h
  ·rename_i e
   rw[if_neg e]
   have:Eg c r=none:=by
    cases q:Eg c r with
    | none=>rfl
    | some p=>rw[q] at h;cases h
   rw[QA this]
theorem QB {c:UInt8}:∀{l p q:Bytes},Eg c l=some (p,q)→(cutAt c l)[0]?=some p∧l=p++c::q
 | [],_,_,h=>by cases h
 | x::r,p,q,h=>by
  unfold Eg at h
  unfold cutAt
  split at h
  ·rename_i e
   cases h
   rw[if_pos e,e]
   exact⟨rfl,rfl⟩
  ·rename_i e
   rw[if_neg e]
   cases z:Eg c r with
   | none=>rw[z] at h;cases h
   | some y =>
    rw[z] at h
    obtain⟨y1,y2⟩:=y
    have h:some (x::y1,y2)=some (p,q):=h
    cases h
    obtain⟨h1,h2⟩:=QB z
    cases hr:cutAt c r with
    | nil=>exact absurd hr (Dz c r)
    | cons w l =>
     rw[hr] at h1
     have h1:w=y1:=by simpa using h1
     subst h1
     exact⟨rfl,by rw[h2];rfl⟩
end Fb
end
section
set_option maxRecDepth 100000
namespace Fb
inductive ZLab where
 | sign (n:List Int)
 | same (k:Int)
 | ans
 deriving DecidableEq
structure ZK where
 lab:ZLab
 copies:Int
 shape:Int
 look:Int
 deriving DecidableEq
def ZLab.rank:ZLab→Int
 | .sign _=>1
 | .same _=>2
 | .ans=>3
def zl:FI→ZLab
 | .sign n=>.sign (zs n)
 | .same k=>.same (k:Int)
 | .answer=>.ans
def zk (k:AM):ZK:=⟨zl k.role,k.copies,k.shape,k.look⟩
theorem Zj:∀{a b:FI},zl a=zl b→a=b
 | .sign _,.sign _,h=>by injection h with h;rw[DU h]
 | .same _,.same _,h=>by injection h with h;rw[MY h]
 | .answer,.answer,_=>rfl
 | .sign _,.same _,h=>nomatch h
 | .sign _,.answer,h=>nomatch h
 | .same _,.sign _,h=>nomatch h
 | .same _,.answer,h=>nomatch h
 | .answer,.sign _,h=>nomatch h
 | .answer,.same _,h=>nomatch h
def rk (k:AM):Nat:=match k.role with
 | .sign _=>1
 | .same _=>2
 | .answer=>3
theorem Iw (k:AM):(zk k).lab.rank=(rk k:Int):=by
 unfold zk rk
 cases k.role <;> rfl
structure Wf (ks:List AM):Prop where
 order:ks.Pairwise fun a b=>rk a≤rk b∧rk a≠3
 names:ks.Pairwise fun a b=>∀n,a.role=.sign n→b.role≠.sign n
 sames:ks.Pairwise fun a b=>∀i j,a.role=.same i→b.role=.same j→i < j
 ge:∀k∈ks,∀i,k.role=.same i→1≤i
 few:(ks.filter Dq).length≤48
theorem Wf.nil:Wf []:=⟨.nil,.nil,.nil,fun _ h=>absurd h Dc,by decide⟩
theorem isSign_rk (k:AM):k.isSign=decide (rk k=1):=by
 unfold Dq rk
 cases k.role <;> rfl
theorem Fh (k:AM):(k.role==.answer)=decide (rk k=3):=by
 unfold rk
 cases k.role with
 | sign n=>exact beq_eq_false_iff_ne.mpr (fun q=>nomatch q)
 | same n=>exact beq_eq_false_iff_ne.mpr (fun q=>nomatch q)
 | answer=>exact beq_self_eq_true _
theorem Lc (k:AM):1≤rk k∧rk k≤3:=by
 unfold rk
 cases k.role <;> simp
def DO (past:List AM) (x:AM):Bool:=match x.role with
 | .sign _=>past.any fun (k:AM)=>!k.isSign
 | _=>past.any fun (k:AM)=>k.role==.answer
def dup (past:List AM) (x:AM):Bool:=match x.role with
 | .sign _=>past.any fun (k:AM)=>k.role==x.role
 | .same j=>past.any fun (k:AM)=>match k.role with
  | .same i=>decide (j≤i)
  | _=>false
 | .answer=>false
theorem HV (past:List AM) (x:AM):Eh past x=if DO past x=true then some 1 else if dup past x=true then some 2 else if (x.isSign&&decide (MV≤past.length))=true then some 3 else
 if (past.any fun (k:AM)=>k.shape==x.shape&&k.look==x.look)=true then some 4 else none:=rfl
theorem Kg {past:List AM}{x:AM}{n:Ah} (h:x.role=.sign n):DO past x=past.any fun (k:AM)=>!k.isSign:=by unfold DO;rw[h]
theorem N3 {past:List AM}{x:AM}{n:Nat} (h:x.role=.same n):DO past x=past.any fun (k:AM)=>k.role==.answer:=by unfold DO;rw[h]
theorem N2 {past:List AM}{x:AM} (h:x.role=.answer):DO past x=past.any fun (k:AM)=>k.role==.answer:=by unfold DO;rw[h]
def GG (past:List ZK) (z:ZK):Bool:=match past.getLast? with
 | none=>true
 | some b=>!(decide (b.lab.rank=3))&&decide (b.lab.rank≤z.lab.rank)
def DS (past:List ZK) (z:ZK):Bool:=match z.lab with
 | .sign n=>past.any fun b=>decide (b.lab=.sign n)
 | .same k=>past.any fun b=>match b.lab with
  | .same j=>decide (k≤j)
  | _=>false
 | .ans=>false
def EA (past:List ZK):Nat:=(past.filter fun b=>decide (b.lab.rank=1)).length
def G8 (past:List ZK) (z:ZK):Bool:=past.any fun b=>decide (b.shape=z.shape)&&decide (b.look=z.look)
def IU (past:List ZK) (z:ZK):Int:=if GG past z=false then 1 else if DS past z=true then 2 else if z.lab.rank=1∧EA past=48 then 3 else if G8 past z=true then 4 else 0
theorem K5 {α:Type}{l:List α}{b:α} (h:l.getLast?=some b):∃r,l=r++[b]:=by
 obtain⟨r,e⟩:=List.getLast?_eq_some_iff.mp h
 exact⟨r,e⟩
theorem Yu {past:List AM} (w:Wf past) (x:AM):GG (past.map zk) (zk x)=!DO past x:=by
 unfold GG
 rw[List.getLast?_map]
 cases h:past.getLast? with
 | none =>
  have:past=[]:=Ml.mp h
  subst this
  unfold DO
  cases x.role <;> rfl
 | some b =>
  obtain⟨r,e⟩:=K5 h
  subst e
  show(!(decide ((zk b).lab.rank=3))&&decide ((zk b).lab.rank≤(zk x).lab.rank))=_
  rw[Iw,Iw]
  have ord:∀k∈r,rk k≤rk b∧rk k≠3:=fun k hk=>(Mo.mp w.order).2.2 k hk b AU
  have pb:=Lc b
  cases hx:x.role with
  | sign n =>
   have rx:rk x=1:=by unfold rk;rw[hx]
   rw[rx,Kg hx]
   by_cases hb:rk b=1
   ·have:((r++[b]).any fun (k:AM)=>!k.isSign)=false:=by
     rw[DY]
     intro k hk
     rw[isSign_rk]
     rcases C8.mp hk with q | q
     ·have:=ord k q
      have:=Lc k
      rw[decide_eq_true (by omega)];simp
     ·rw[A3.mp q,decide_eq_true hb];simp
    show _=!((r++[b]).any fun (k:AM)=>!k.isSign)
    rw[this,hb];rfl
   ·have:((r++[b]).any fun (k:AM)=>!k.isSign)=true:=by
     rw[Hb]
     exact⟨b,by simp,by rw[isSign_rk,decide_eq_false hb];rfl⟩
    show _=!((r++[b]).any fun (k:AM)=>!k.isSign)
    rw[this,decide_eq_false (show ¬((rk b:Nat):Int)≤((1:Nat):Int) by omega),HX];rfl
  | same j =>
   have rx:rk x=2:=by unfold rk;rw[hx]
   rw[rx,N3 hx]
   by_cases hb:rk b=3
   ·have:((r++[b]).any fun (k:AM)=>k.role==.answer)=true:=by
     rw[Hb]
     exact⟨b,by simp,by rw[Fh,decide_eq_true hb]⟩
    show _=!((r++[b]).any fun (k:AM)=>k.role==.answer)
    rw[this,hb];rfl
   ·have:((r++[b]).any fun (k:AM)=>k.role==.answer)=false:=by
     rw[DY]
     intro k hk
     rw[Fh]
     rcases C8.mp hk with q | q
     ·rw[decide_eq_false (ord k q).2];simp
     ·rw[A3.mp q,decide_eq_false hb];simp
    show _=!((r++[b]).any fun (k:AM)=>k.role==.answer)
    rw[this,decide_eq_false (show ¬((rk b:Nat):Int)=3 by omega),decide_eq_true (show((rk b:Nat):Int)≤((2:Nat):Int) by omega)];rfl
  | answer =>
   have rx:rk x=3:=by unfold rk;rw[hx]
   rw[rx,N2 hx]
   by_cases hb:rk b=3
   ·have:((r++[b]).any fun (k:AM)=>k.role==.answer)=true:=by
     rw[Hb]
     exact⟨b,by simp,by rw[Fh,decide_eq_true hb]⟩
    show _=!((r++[b]).any fun (k:AM)=>k.role==.answer)
    rw[this,hb];rfl
   ·have:((r++[b]).any fun (k:AM)=>k.role==.answer)=false:=by
     rw[DY]
     intro k hk
     rw[Fh]
     rcases C8.mp hk with q | q
     ·rw[decide_eq_false (ord k q).2];simp
     ·rw[A3.mp q,decide_eq_false hb];simp
    show _=!((r++[b]).any fun (k:AM)=>k.role==.answer)
    rw[this,decide_eq_false (show ¬((rk b:Nat):Int)=3 by omega),decide_eq_true (show((rk b:Nat):Int)≤((3:Nat):Int) by omega)];rfl
theorem PV (past:List AM) (x:AM):DS (past.map zk) (zk x)=dup past x:=by
 unfold DS dup
 have el:(zk x).lab=zl x.role:=rfl
 rw[el]
 cases hx:x.role with
 | sign n =>
  show((past.map zk).any fun b=>decide (b.lab=ZLab.sign (zs n)))=past.any fun k=>k.role==FJ n
  rw[GV]
  congr 1
  funext k
  show decide (zl k.role=zl (.sign n))=(k.role==.sign n)
  rw[C3,beq_iff_eq,decide_eq_true_iff]
  exact⟨Zj,fun h=>by rw[h]⟩
 | same j =>
  show((past.map zk).any fun b=>match b.lab with
   | .same i=>decide ((j:Int)≤i)
   | _=>false)=past.any fun k=>match k.role with
   | .same i=>decide (j≤i)
   | _=>false
  rw[GV]
  congr 1
  funext k
  show(match zl k.role with
   | .same i=>decide ((j:Int)≤i)
   | _=>false)=_
  cases k.role with
  | sign n=>rfl
  | same i=>exact CA (by show(j:Int)≤(i:Int)↔_;omega)
  | answer=>rfl
 | answer=>rfl
theorem Wt (past:List AM) (x:AM):G8 (past.map zk) (zk x)=past.any fun (k:AM)=>k.shape==x.shape&&k.look==x.look:=by
 unfold G8
 rw[GV]
 congr 1
 funext k
 show(decide ((k.shape:Int)=(x.shape:Int))&&decide ((k.look:Int)=(x.look:Int)))=_
 rw[CA (show(k.shape:Int)=x.shape↔k.shape=x.shape by omega),CA (show(k.look:Int)=x.look↔k.look=x.look by omega)]
 rfl
theorem SA (past:List AM):EA (past.map zk)=(past.filter Dq).length:=by
 unfold EA
 rw[Tc,AG]
 congr 1
 apply Mc
 intro k _
 show decide ((zk k).lab.rank=1)=k.isSign
 rw[Iw,isSign_rk]
 exact CA (by omega)
theorem V3 {past:List AM} (w:Wf past) (x:AM):IU (past.map zk) (zk x)=match Eh past x with
  | none=>0
  | some e=>(e:Int):=by
 unfold IU
 rw[HV,Yu w x,PV past x,Wt past x,SA past]
 cases h1:DO past x with
 | true=>rfl
 | false =>
  simp only[Bool.not_false,Bool.true_eq_false,if_false,Dn]
  cases h2:dup past x with
  | true=>rfl
  | false =>
   simp only[Dn,if_false]
   have hc:((zk x).lab.rank=1∧(past.filter Dq).length=48)↔(x.isSign&&decide (MV≤past.length))=true:=by
    rw[Iw,BI,isSign_rk,decide_eq_true_iff,decide_eq_true_iff]
    constructor
    ·rintro⟨q1,q2⟩
     refine⟨by omega,?_⟩
     have:=Jg Dq past
     show 48≤_
     omega
    ·rintro⟨q1,q2⟩
     refine⟨by omega,?_⟩
     have q2:48≤past.length:=q2
     have few:=w.few
     have all:past.filter Dq=past:=by
      apply Tb.mpr
      intro k hk
      cases hx:x.role with
      | sign n =>
       rw[Kg hx] at h1
       have:=(DY.mp h1) k hk
       cases q:k.isSign with
       | true=>rfl
       | false=>rw[q] at this;exact absurd rfl this
      | same n=>unfold rk at q1;rw[hx] at q1;cases q1
      | answer=>unfold rk at q1;rw[hx] at q1;cases q1
     rw[all] at few ⊢
     omega
   by_cases hh:(zk x).lab.rank=1∧(past.filter Dq).length=48
   ·rw[if_pos hh,if_pos (hc.mp hh)];rfl
   ·rw[if_neg hh,if_neg fun q=>hh (hc.mpr q)]
    split <;> rfl
theorem Wf.snoc {past:List AM} (w:Wf past) {x:AM} (hx:∀i,x.role=.same i→1≤i) (h:Eh past x=none):Wf (past++[x]):=by
 rw[HV] at h
 by_cases h1:DO past x=true
 ·rw[if_pos h1] at h;cases h
 rw[if_neg h1] at h
 by_cases h2:dup past x=true
 ·rw[if_pos h2] at h;cases h
 rw[if_neg h2] at h
 by_cases h3:(x.isSign&&decide (MV≤past.length))=true
 ·rw[if_pos h3] at h;cases h
 replace h1:=GO.mpr h1
 replace h2:=GO.mpr h2
 have one:∀{R:AM→AM→Prop},past.Pairwise R→(∀a∈past,R a x)→(past++[x]).Pairwise R:=fun p q =>
  Mo.mpr ⟨p,Tt _ _,fun a ha b hb=>by rw[A3.mp hb];exact q a ha⟩
 have r1:∀a∈past,rk a≤rk x∧rk a≠3:=fun a ha=>by
  have pa:=Lc a
  cases hr:x.role with
  | sign n =>
   have rx:rk x=1:=by unfold rk;rw[hr]
   rw[Kg hr] at h1
   have:=(DY.mp h1) a ha
   rw[isSign_rk] at this
   have:rk a=1:=by
    by_cases q:rk a=1
    ·exact q
    ·rw[decide_eq_false q] at this;exact absurd rfl this
   omega
  | same n =>
   have rx:rk x=2:=by unfold rk;rw[hr]
   rw[N3 hr] at h1
   have:=(DY.mp h1) a ha
   rw[Fh,decide_eq_true_iff] at this
   omega
  | answer =>
   have rx:rk x=3:=by unfold rk;rw[hr]
   rw[N2 hr] at h1
   have:=(DY.mp h1) a ha
   rw[Fh,decide_eq_true_iff] at this
   omega
 refine⟨one w.order r1,one w.names fun a ha n e1 e2=>?_,one w.sames fun a ha i j e1 e2=>?_,fun k hk i e=>?_,?_⟩
 ·unfold dup at h2
  rw[e2] at h2
  have:=(DY.mp h2) a ha
  rw[e1] at this
  exact this (beq_self_eq_true _)
 ·unfold dup at h2
  rw[e2] at h2
  have:=(DY.mp h2) a ha
  rw[e1] at this
  have:¬j≤i:=fun q=>this (decide_eq_true q)
  omega
 ·rcases C8.mp hk with q | q
  ·exact w.ge k q i e
  ·rw[A3.mp q] at e;exact hx i e
 ·rw[TZ,BO,Ei]
  have few:=w.few
  cases q:x.isSign with
  | false=>simp;exact few
  | true =>
   rw[q,DJ,decide_eq_true_iff] at h3
   have h3:¬48≤past.length:=h3
   have:=Jg Dq past
   simp
   omega
end Fb
end
section
set_option maxRecDepth 100000
namespace Fb
def E2 (k:Int) (z:ZK):Bool:=decide (z.lab=.same k)
structure CS where
 L:Int→Int
 F:Int→Int
 keys:List Int
def cs0:CS:=⟨fun _=>0,fun _=>0,[]⟩
def zn (r:List Nat):List Int:=r.map fun (n:Nat)=>(n:Int)
theorem QP {L:Ai} (w:Wf L.kinds):∀f∈L.sameKinds,1≤L.points f:=by
 intro f hf
 obtain⟨h1,h2⟩:=Ci.mp hf
 have h1:=Mn.mp h1
 unfold MU
 rw[BD h1] at h2 ⊢
 cases hr:L.kinds[f].role with
 | sign n=>rw[FT,hr] at h2;cases h2
 | same k =>
  rw[FT,hr]
  exact w.ge _ (Mj h1) k hr
 | answer=>rw[FT,hr] at h2;cases h2
theorem Dm (r:List Nat):(zn r).length=r.length:=AG _
end Fb
end
section
set_option maxRecDepth 100000
namespace Fb
open Flags (Bytes cutAt Fault)
def BZ {S:Type} (step:S→Nat→Bytes→Except Nat S):Nat→S→List Bytes→Except Fault S
 | _,s,[]=>.ok s
 | i,s,w::r=>match step s i w with
  | .error k=>.error (k,i)
  | .ok s'=>BZ step (i+1) s' r
section
variable {S:Type}{step:S→Nat→Bytes→Except Nat S}{i k:Nat}{s s':S}{w:Bytes}{r:List Bytes}
theorem Cc (h:step s i w=.error k):BZ step i s (w::r)=.error (k,i):=by
 unfold BZ;rw[h]
theorem Cz (h:step s i w=.ok s'):BZ step i s (w::r)=BZ step (i+1) s' r:=by
 conv=>lhs;unfold BZ
 rw[h]
end
def Ad (t:Bytes):List Bytes:=(cutAt 10 t).dropLast
def Bc (t:Bytes):Bytes:=(cutAt 10 t).getLast (Dz 10 t)
theorem Gv (t:Bytes):cutAt 10 t=Ad t++[Bc t]:=(JY (Dz 10 t)).symm
def IS {S T:Type} (f:S→Except Fault T):Except Fault S→Except Fault T
 | .error e=>.error e
 | .ok s=>f s
def Cm (past:List AM) (line:Bytes):Except Nat (List AM):=match Cf line with
 | none=>.error 1
 | some x=>match Eh past x with
  | some e=>.error e
  | none=>.ok (past++[x])
def Kp (w:Bytes) (n:Nat) (p:List AM):Except Fault (List AM):=if w≠[]∨p.all (fun k=>!k.isSign)=true then .error (1,n) else .ok p
theorem PN:∀(ls:List Bytes) (i:Nat) (past:List AM) (w:Bytes),MW i past (ls++[w])=IS (Kp w (i+ls.length)) (BZ (fun s _ l=>Cm s l) i past ls)
 | [],i,past,w=>rfl
 | x::ls,i,past,w=>by
  have ne:ls++[w]≠[]:=by simp
  have e:MW i past (x::(ls++[w]))=match Cf x with
    | none=>.error (1,i)
    | some y=>match Eh past y with
     | some e=>.error (e,i)
     | none=>MW (i+1) (past++[y]) (ls++[w]):=by
   cases h:ls++[w] with
   | nil=>exact absurd h ne
   | cons a b=>rfl
  rw[FP,e]
  cases h1:Cf x with
  | none =>
   rw[Cc (k:=1) (by unfold Cm;rw[h1])]
   rfl
  | some y =>
   dsimp only
   cases h2:Eh past y with
   | some e =>
    rw[Cc (k:=e) (by unfold Cm;rw[h1];dsimp only;rw[h2])]
    rfl
   | none =>
    dsimp only
    rw[Cz (s':=past++[y]) (by unfold Cm;rw[h1];dsimp only;rw[h2]),PN ls (i+1) (past++[y]) w,show i+1+ls.length=i+(ls.length+1) by omega]
    rfl
structure LS where
 name:Bytes
 kinds:List AM
def BN (s:LS) (i:Nat) (line:Bytes):Except Nat LS:=if i=0 then (match MX line with
 | none=>.error 1
 | some n=>.ok ⟨n,s.kinds⟩) else (Cm s.kinds line).map fun k=>⟨s.name,k⟩
theorem Qa (n:Bytes):∀(ls:List Bytes) (i:Nat) (past:List AM),BZ BN (i+1) ⟨n,past⟩ ls=(BZ (fun s _ l=>Cm s l) (i+1) past ls).map fun k=>⟨n,k⟩
 | [],_,_=>rfl
 | w::ls,i,past=>by
  have e:BN ⟨n,past⟩ (i+1) w=(Cm past w).map fun k=>⟨n,k⟩:=by
   unfold BN
   rw[if_neg (by omega)]
  cases h:Cm past w with
  | error k =>
   rw[Cc (k:=k) (by rw[e,h];rfl),Cc (k:=k) h]
   rfl
  | ok p =>
   rw[Cz (s':=⟨n,p⟩) (by rw[e,h];rfl),Cz (s':=p) h]
   exact Qa n ls (i+1) p
def D1 (w:Bytes) (n:Nat) (s:LS):Except Fault Ai:=if w≠[]∨s.kinds.all (fun k=>!k.isSign)=true then .error (1,n) else .ok ⟨s.name,s.kinds⟩
theorem WW (t:Bytes):DX t=IS (D1 (Bc t) (Ad t).length) (BZ BN 0 ⟨[],[]⟩ (Ad t)):=by
 unfold DX
 rw[Gv]
 generalize Ad t=ls
 generalize Bc t=w
 cases ls with
 | nil =>
  show CM (1,0)=if w≠[]∨true=true then CM (1,0) else _
  rw[if_pos (.inr rfl)]
 | cons x ls =>
  have e1:(x::ls)++[w]=x::(ls++[w]):=rfl
  rw[e1]
  obtain⟨a,b,h⟩:∃a b,ls++[w]=a::b:=by
   cases ls with
   | nil=>exact⟨w,[],rfl⟩
   | cons a b=>exact⟨a,b++[w],rfl⟩
  have e2:BN ⟨[],[]⟩ 0 x=match MX x with
    | none=>.error 1
    | some n=>.ok ⟨n,[]⟩:=by
   unfold BN
   rw[if_pos rfl]
  rw[h]
  dsimp only
  rw[← h]
  cases hn:MX x with
  | none =>
   rw[Cc (k:=1) (by rw[e2,hn])]
   rfl
  | some n =>
   dsimp only
   rw[PN ls 1 [] w,Cz (s':=⟨n,[]⟩) (by rw[e2,hn]),Qa n ls 0 []]
   cases BZ (fun s _ l=>Cm s l) (0+1) [] ls with
   | error e=>rfl
   | ok p =>
    show Except.map _ (Kp w (1+ls.length) p)=D1 w (ls.length+1) ⟨n,p⟩
    unfold Kp D1
    rw[Nat.add_comm]
    split <;> rfl
structure BS where
 name:Bytes
 entries:List Aw
def CI (L:Ai) (past:List Aw) (line:Bytes):Except Nat (List Aw):=match GQ line with
 | none=>.error 1
 | some (n,m)=>match L.entryRow past n with
  | .error k=>.error k
  | .ok row=>.ok (past++[⟨row,m⟩])
def Kq (w:Bytes) (n:Nat) (p:List Aw):Except Fault (List Aw):=if w=[] then .ok p else .error (1,n)
theorem PM (L:Ai):∀(ls:List Bytes) (i:Nat) (past:List Aw) (w:Bytes),L.judgeEntries i past (ls++[w])=IS (Kq w (i+ls.length)) (BZ (fun s _ l=>CI L s l) i past ls)
 | [],i,past,w=>rfl
 | x::ls,i,past,w=>by
  have ne:ls++[w]≠[]:=by simp
  have e:L.judgeEntries i past (x::(ls++[w]))=match GQ x with
    | none=>.error (1,i)
    | some (n,m)=>match L.entryRow past n with
     | .error k=>.error (k,i)
     | .ok row=>L.judgeEntries (i+1) (past++[⟨row,m⟩]) (ls++[w]):=by
   cases h:ls++[w] with
   | nil=>exact absurd h ne
   | cons a b=>rfl
  rw[FP,e]
  cases h1:GQ x with
  | none =>
   rw[Cc (k:=1) (by unfold CI;rw[h1])]
   rfl
  | some y =>
   obtain⟨n,m⟩:=y
   dsimp only
   cases h2:L.entryRow past n with
   | error e =>
    rw[Cc (k:=e) (by unfold CI;rw[h1];dsimp only;rw[h2])]
    rfl
   | ok row =>
    dsimp only
    rw[Cz (s':=past++[⟨row,m⟩]) (by unfold CI;rw[h1];dsimp only;rw[h2]),PM L ls (i+1) _ w,show i+1+ls.length=i+(ls.length+1) by omega]
    rfl
def BH (L:Ai) (s:BS) (i:Nat) (line:Bytes):Except Nat BS :=
 if 2≤i then (CI L s.entries line).map fun l=>⟨s.name,l⟩
 else if i=0 then (match Bt (Ay "book") line with
  | none=>.error 1
  | some n=>.ok ⟨n,s.entries⟩)
 else match Bt (Ay "for") line with
  | none=>.error 1
  | some o=>if o≠L.name then .error 2 else .ok s
theorem QZ (L:Ai) (n:Bytes):∀(ls:List Bytes) (i:Nat) (past:List Aw),BZ (BH L) (i+2) ⟨n,past⟩ ls=(BZ (fun s _ l=>CI L s l) (i+2) past ls).map fun k=>⟨n,k⟩
 | [],_,_=>rfl
 | w::ls,i,past=>by
  have e:BH L ⟨n,past⟩ (i+2) w=(CI L past w).map fun k=>⟨n,k⟩:=by
   unfold BH
   rw[if_pos (by omega)]
  cases h:CI L past w with
  | error k =>
   rw[Cc (k:=k) (by rw[e,h];rfl),Cc (k:=k) h]
   rfl
  | ok p =>
   rw[Cz (s':=⟨n,p⟩) (by rw[e,h];rfl),Cz (s':=p) h]
   exact QZ L n ls (i+1) p
def D0 (w:Bytes) (n:Nat) (s:BS):Except Fault HZ:=if w≠[] then .error (1,n) else if n < 2 then .error (1,n) else .ok ⟨s.name,s.entries⟩
theorem WV (L:Ai) (t:Bytes):L.judgeBook t=IS (D0 (Bc t) (Ad t).length) (BZ (BH L) 0 ⟨[],[]⟩ (Ad t)):=by
 unfold Ai.judgeBook
 rw[Gv]
 generalize Ad t=ls
 generalize Bc t=w
 have s0:∀(s:BS) (x:Bytes),BH L s 0 x=match Bt (Ay "book") x with
   | none=>.error 1
   | some n=>.ok ⟨n,s.entries⟩:=fun s x=>by
  unfold BH
  rw[if_neg (by omega),if_pos rfl]
 have s1:∀(s:BS) (x:Bytes),BH L s (0+1) x=match Bt (Ay "for") x with
   | none=>.error 1
   | some o=>if o≠L.name then .error 2 else .ok s:=fun s x=>by
  unfold BH
  rw[if_neg (by omega),if_neg (by omega)]
 match ls with
 | [] =>
  show CM (1,0)=if w≠[] then CM (1,0) else if 0 < 2 then CM (1,0) else _
  rw[if_pos (by omega:0 < 2)]
  split <;> rfl
 | [x] =>
  show(match Bt (Ay "book") x with
   | none=>(CM (1,0):Except Fault HZ)
   | some n=>CM (1,1))=_
  cases hn:Bt (Ay "book") x with
  | none =>
   rw[Cc (k:=1) (by rw[s0,hn])]
   rfl
  | some n =>
   rw[Cz (s':=⟨n,[]⟩) (by rw[s0,hn])]
   show CM (1,1)=if w≠[] then CM (1,1) else if 1 < 2 then CM (1,1) else _
   rw[if_pos (by omega:1 < 2)]
   split <;> rfl
 | x::y::ls =>
  have e1:(x::y::ls)++[w]=x::y::(ls++[w]):=rfl
  rw[e1]
  have ne:(ls++[w]).isEmpty=false:=by cases ls <;> rfl
  show(match Bt (Ay "book") x with
   | none=>(CM (1,0):Except Fault HZ)
   | some n=>if (ls++[w]).isEmpty=true then CM (1,1) else match Bt (Ay "for") y with
    | none=>CM (1,1)
    | some o=>if o≠L.name then CM (2,1) else (L.judgeEntries 2 [] (ls++[w])).map fun l=>(⟨n,l⟩:HZ))=_
  cases hn:Bt (Ay "book") x with
  | none =>
   rw[Cc (k:=1) (by rw[s0,hn])]
   rfl
  | some n =>
   dsimp only
   rw[ne,if_neg Ag,Cz (s':=⟨n,[]⟩) (by rw[s0,hn])]
   cases ho:Bt (Ay "for") y with
   | none =>
    rw[Cc (k:=1) (by rw[s1,ho])]
    rfl
   | some o =>
    dsimp only
    by_cases hq:o≠L.name
    ·rw[if_pos hq,Cc (k:=2) (by rw[s1,ho];exact if_pos hq)]
     rfl
    ·rw[if_neg hq,PM L ls 2 [] w,Cz (s':=⟨n,[]⟩) (by rw[s1,ho];exact if_neg hq),QZ L n ls 0 []]
     cases BZ (fun s _ l=>CI L s l) (0+2) [] ls with
     | error e=>rfl
     | ok p =>
      show Except.map _ (Kq w (2+ls.length) p)=D0 w (ls.length+2) ⟨n,p⟩
      unfold Kq D0
      rw[if_neg (show ¬ls.length+2 < 2 by omega)]
      by_cases hw:w=[]
      ·rw[if_pos hw,if_neg (fun q=>q hw)];rfl
      ·rw[if_neg hw,if_pos hw,Nat.add_comm];rfl
end Fb
end
section
set_option maxRecDepth 100000
namespace Fb
open Flags (Bytes cutAt)
def DI (most:Int):List Int→Int
 | [c]=>if 1≤c - 48∧c - 48≤most then c - 48 else 0
 | _=>0
theorem Lq {most n:Nat}{w:Bytes} (h:Ef most w=some n):DI (most:Int) (zs w)=(n:Int)∧1≤n:=by
 unfold Ef at h
 split at h
 ·rename_i c
  split at h
  ·rename_i q
   cases h
   show(if 1≤(c.toNat:Int) - 48∧(c.toNat:Int) - 48≤most then (c.toNat:Int) - 48 else 0)=_∧_
   rw[if_pos (by omega)]
   omega
  ·cases h
 ·cases h
theorem SF {most:Nat}{w:Bytes} (h:Ef most w=none):DI (most:Int) (zs w)=0:=by
 match w,h with
 | [],_=>rfl
 | [c],h =>
  have h:(if 49≤c.toNat∧c.toNat≤48+most then some (c.toNat - 48) else none)=none:=h
  show(if 1≤(c.toNat:Int) - 48∧(c.toNat:Int) - 48≤most then (c.toNat:Int) - 48 else 0)=0
  split at h
  ·cases h
  ·rw[if_neg (by omega)]
 | a::b::l,_=>rfl
def digs:List Int:=[48,49,50,51,52,53,54,55,56,57,97,98,99,100,101,102]
theorem WH:∀n:Nat,n < 256→(if 48≤n∧n≤57 then some (n - 48) else if 97≤n∧n≤102 then some (n - 87) else none)=if (n:Int)∈digs then some (digs.idxOf (n:Int)) else none:=by decide +kernel
theorem Kx (c:UInt8):Ha c=if (c.toNat:Int)∈digs then some (digs.idxOf (c.toNat:Int)) else none:=WH c.toNat c.toNat_lt
def EV:List Int→Int
 | []=>0
 | b::r=>EV r * 16+(digs.idxOf b:Nat)
def Cv (w:List Int):Int:=if w.length≠16∨¬(w.all fun b=>decide (b∈digs))=true then -1 else EV w
theorem Sw (k:Nat) (f:Nat→Nat):∀l:List Nat,(l.map fun i=>k * f i).sum=k * (l.map f).sum
 | []=>by simp
 | a::l=>by
  have ih:=Sw k f l
  simp only[Au,Ds,ih,Nat.mul_add]
theorem Ph:∀(l:List Nat),((CW l.length).map fun i=>l.getD i 0 % 16 * 16 ^ i).sum=l.foldr (fun d acc=>acc * 16+d % 16) 0
 | []=>rfl
 | d::l=>by
  have ih:=Ph l
  rw[B1,Fm.range_cons,Au,Ds,Jh,Tf,← ih]
  have e:((CW l.length).map ((fun i=>(d::l).getD i 0 % 16 * 16 ^ i) ∘ fun x=>x+1)).sum=((CW l.length).map fun i=>16 * (l.getD i 0 % 16 * 16 ^ i)).sum:=Fm.sum_eq fun i _=>by
   show(d::l).getD (i+1) 0 % 16 * 16 ^ (i+1)=_
   rw[List.getD_cons_succ,Nat.pow_succ,← Nat.mul_assoc,Nat.mul_comm]
  rw[e,Sw]
  show d % 16 * 16 ^ 0+_=_
  omega
theorem Pk {f:UInt8→Option Nat}:∀{w:Bytes},w.mapM f=none→∃c∈w,f c=none
 | [],h=>by simp at h
 | c::w,h=>by
  rw[GX] at h
  cases hc:f c with
  | none=>exact⟨c,AU,hc⟩
  | some n =>
   rw[hc] at h
   cases hw:w.mapM f with
   | none =>
    obtain⟨d,hd,e⟩:=Pk hw
    exact⟨d,As _ hd,e⟩
   | some l=>rw[hw] at h;cases h
theorem Pl {f:UInt8→Option Nat}:∀{w:Bytes}{l:List Nat},w.mapM f=some l→l.length=w.length∧(∀c∈w,f c≠none)∧l=w.map fun c=>(f c).getD 0
 | [],l,h=>by simp at h;subst h;simp
 | c::w,l,h=>by
  rw[GX] at h
  cases hc:f c with
  | none=>rw[hc] at h;cases h
  | some n =>
   rw[hc] at h
   cases hw:w.mapM f with
   | none=>rw[hw] at h;cases h
   | some m =>
    rw[hw] at h
    have h:some (n::m)=some l:=h
    cases h
    obtain⟨h1,h2,h3⟩:=Pl hw
    refine⟨by simp[h1],fun d hd=>?_,by rw[Au,hc,← h3];rfl⟩
    rcases AS.mp hd with q | q
    ·rw[q,hc];simp
    ·exact h2 d q
theorem Pg:∀w:Bytes,(∀c∈w,Ha c≠none)→EV (zs w)=(((w.map fun c=>(Ha c).getD 0).foldr (fun d acc=>acc * 16+d % 16) 0:Nat):Int)
 | [],_=>rfl
 | c::w,h=>by
  have ih:=Pg w fun d hd=>h d (As _ hd)
  have hc:=h c AU
  show EV ((c.toNat:Int)::zs w)=_
  unfold EV
  rw[ih,Au,Tf]
  rw[Kx] at hc ⊢
  split at hc
  ·rename_i hm
   rw[if_pos hm]
   have:digs.idxOf (c.toNat:Int) < 16:=Tn.mpr hm
   simp only[Option.getD_some]
   omega
  ·exact absurd rfl hc
theorem Wv {w:Bytes}{n:Nat} (h:GR w=some n):Cv (zs w)=(n:Int):=by
 unfold GR at h
 split at h
 ·cases h
 ·rename_i hl
  have hl:w.length=16:=by omega
  cases hm:w.mapM Ha with
  | none=>rw[hm] at h;cases h
  | some l =>
   rw[hm] at h
   have h:some (Flags.lookOf fun i=>l.getD i 0)=some n:=h
   have h:=Ae h
   subst h
   obtain⟨h1,h2,h3⟩:=Pl hm
   unfold Cv
   rw[if_neg]
   ·rw[Pg w h2,← h3,← Ph,h1,hl]
    rfl
   ·rintro(q | q)
    ·exact q (by rw[Av,hl])
    ·apply q
     rw[Cg]
     intro b hb
     obtain⟨c,hc,rfl⟩:=BP.mp hb
     have:=h2 c hc
     rw[Kx] at this
     split at this
     ·rename_i z;exact decide_eq_true z
     ·exact absurd rfl this
theorem Wu {w:Bytes} (h:GR w=none):Cv (zs w)=-1:=by
 unfold Cv
 unfold GR at h
 split at h
 ·rename_i hl
  exact if_pos (.inl (by rw[Av];exact hl))
 ·cases hm:w.mapM Ha with
  | some l=>rw[hm] at h;cases h
  | none =>
   obtain⟨c,hc,e⟩:=Pk hm
   refine if_pos (.inr fun q=>?_)
   rw[Cg] at q
   have:=of_decide_eq_true (q (c.toNat:Int) (BP.mpr ⟨c,hc,rfl⟩))
   rw[Kx,if_pos this] at e
   cases e
def Bx (line:Bytes):Bytes:=(cutAt 32 line).headD []
def C1 (line:Bytes):Bytes:=line.drop ((Bx line).length+1)
def EN (line:Bytes):Bool:=(decide ((cutAt 46 (Bx line)).length≤8)&&(cutAt 46 (Bx line)).all DW)&&DV (C1 line)
theorem V0 (line:Bytes):GQ line=if EN line=true then some (cutAt 46 (Bx line),C1 line) else none:=by
 unfold GQ
 cases h:Eg 32 line with
 | none =>
  have e1:=QA h
  have e2:Bx line=line:=by unfold Bx;rw[e1];rfl
  have e3:C1 line=[]:=by unfold C1;rw[e2];exact Hd (by omega)
  have:EN line=false:=by
   unfold EN
   rw[e3]
   exact HX _
  rw[this]
  rfl
 | some y =>
  obtain⟨p,q⟩:=y
  obtain⟨h1,h2⟩:=QB h
  have e2:Bx line=p:=by
   unfold Bx
   cases hc:cutAt 32 line with
   | nil=>exact absurd hc (Dz 32 line)
   | cons w l =>
    rw[hc] at h1
    have h1:w=p:=by simpa using h1
    exact h1
  have e3:C1 line=q:=by
   unfold C1
   rw[e2,h2,List.drop_append]
   simp
  unfold EN
  rw[e2,e3]
  show((Flags.namesIn p).bind fun l=>if DV q=true then some (l,q) else none)=_
  unfold Flags.namesIn
  by_cases a:(cutAt 46 p).length≤8∧(cutAt 46 p).all DW=true
  ·have a':(cutAt 46 p).length≤Flags.LONG∧(cutAt 46 p).all DW=true:=a
   simp only[if_pos a']
   rw[decide_eq_true a.1,a.2]
   rfl
  ·have a':¬((cutAt 46 p).length≤Flags.LONG∧(cutAt 46 p).all DW=true):=a
   simp only[if_neg a']
   have:(decide ((cutAt 46 p).length≤8)&&(cutAt 46 p).all DW)=false:=by
    rw[GO]
    intro z
    rw[BI,decide_eq_true_iff] at z
    exact a z
   rw[this,Co]
   rfl
end Fb
end
section
set_option maxRecDepth 100000
namespace Fb
open Flags (Bytes Fault)
section
variable {S:Type}{step:S→Nat→Bytes→Except Nat S}
theorem Ld:∀{a:List Bytes} (b:List Bytes) {i:Nat}{s s':S},BZ step i s a=.ok s'→BZ step i s (a++b)=BZ step (i+a.length) s' b
 | [],b,i,s,s',h=>by cases h;rfl
 | w::a,b,i,s,s',h=>by
  cases q:step s i w with
  | error k=>rw[Cc q] at h;cases h
  | ok s1 =>
   rw[Cz q] at h
   rw[FP,Cz q,Ld b h,B1,show i+1+a.length=i+(a.length+1) by omega]
def Ed (step:S→Nat→Bytes→Except Nat S) (s0:S) (ls:List Bytes) (i:Nat) (s:S):Prop:=i≤ls.length∧BZ step 0 s0 (ls.take i)=.ok s
noncomputable def rAt (step:S→Nat→Bytes→Except Nat S) (s0:S) (ls:List Bytes) (i:Nat):Int:=match BZ step 0 s0 (ls.take i),ls[i]? with
 | .ok s,some w=>(match step s i w with
  | .error k=>(k:Int)
  | .ok _=>0)
 | _,_=>0
theorem Ss {s0:S}{ls:List Bytes}:Ed step s0 ls 0 s0:=⟨A5 _,by rw[List.take_zero];rfl⟩
theorem Iv {s0 s:S}{ls:List Bytes}{i:Nat}{w:Bytes} (h:Ed step s0 ls i s) (hw:ls[i]?=some w):rAt step s0 ls i=match step s i w with
  | .error k=>(k:Int)
  | .ok _=>0:=by
 unfold rAt
 rw[h.2,hw]
theorem MG:∀{l:List Bytes}{i:Nat}{x:Bytes},l[i]?=some x→l.take (i+1)=l.take i++[x]
 | [],i,x,h=>by simp at h
 | a::l,0,x,h=>by
  have e:a=x:=Ae h
  subst e
  rfl
 | a::l,i+1,x,h=>by
  have ih:=MG (l:=l) (i:=i) (x:=x) h
  show a::l.take (i+1)=a::l.take i++[x]
  rw[ih]
  rfl
theorem Sr {s0 s s':S}{ls:List Bytes}{i:Nat}{w:Bytes} (h:Ed step s0 ls i s) (hw:ls[i]?=some w) (hs:step s i w=.ok s'):Ed step s0 ls (i+1) s':=by
 have hl:i < ls.length:=(Bd.mp hw).1
 refine⟨hl,?_⟩
 rw[MG hw,Ld [w] h.2,EE,Mu (by omega),EG,Cz hs]
 rfl
theorem JB {s0 s:S}{ls:List Bytes} (h:Ed step s0 ls ls.length s):BZ step 0 s0 ls=.ok s:=by
 have:=h.2
 rwa [Jk] at this
theorem Qc {s0 s:S}{ls:List Bytes}{i k:Nat}{w:Bytes} (h:Ed step s0 ls i s) (hw:ls[i]?=some w) (hs:step s i w=.error k):BZ step 0 s0 ls=.error (k,i):=by
 have hl:i < ls.length:=(Bd.mp hw).1
 have e:ls=ls.take i++(w::ls.drop (i+1)):=by
  have q:=List.take_append_drop i ls
  rw[Hc hl] at q
  have:ls[i]=w:=by
   have:=BD hl
   rw[hw] at this
   exact(Ae this).symm
  rw[this] at q
  exact q.symm
 rw[e,Ld _ h.2,EE,Mu (by omega),EG,Cc hs]
end
end Fb
end
section
namespace Fm
open Flags
end Fm
end
section
namespace Fb
end Fb
end
section
set_option maxRecDepth 100000
namespace Fm
open Flags
theorem CJ {α:Type} [DecidableEq α] (f:α→Nat) (a:α):∀{l:List α},l.Nodup→a∈l→(l.map f).sum=f a+((l.filter fun x=>decide (x≠a)).map f).sum
 | x::l,hn,ha=>by
  obtain⟨n1,n2⟩:=C9.mp hn
  by_cases e:x=a
  ·subst e
   have hf:(l.filter fun y=>decide (y≠x))=l:=Tb.mpr fun y hy=>decide_eq_true fun q=>n1 (q▸hy)
   rw[JZ (by simp),hf,Au,Ds]
  ·have ha':a∈l:=(AS.mp ha).elim (fun q=>absurd q.symm e) id
   have ih:=CJ f a n2 ha'
   rw[Md (by simpa using e),Au,Ds,Au,Ds,ih]
   omega
theorem ED {α:Type} [DecidableEq α] {f g:α→Nat}{a:α}{l:List α} (h:∀x∈l,x≠a→f x=g x):((l.filter fun x=>decide (x≠a)).map f).sum=((l.filter fun x=>decide (x≠a)).map g).sum :=
 sum_eq fun x hx=>by
  obtain⟨h1,h2⟩:=Ci.mp hx
  exact h x h1 (by simpa using h2)
def cs (l:List Spot) (s:Nat):Nat:=(l.filter fun (p:Spot)=>p.sign==s).length
def lkF (c:Nat→Nat) (l:List Spot) (s:Nat):Nat:=cs l s - c s
def nnY (Y:Nat→Bool) (l:List Spot) (s:Nat):Nat:=(l.filter fun (p:Spot)=>p.sign==s&&p.may.any Y).length
def DB (K:List Nat) (Y:Nat→Bool) (c:Nat→Nat):Nat:=(K.map fun k=>if Y k=true then 0 else c k).sum
def Ok (K S:List Nat) (c:Nat→Nat) (l:List Spot):Prop:=∀Y:Nat→Bool,(S.map (lkF c l)).sum≤DB K Y c+(S.map fun s=>min (lkF c l s) (nnY Y l s)).sum
def dec (c:Nat→Nat) (f:Nat):Nat→Nat:=fun k=>if k=f then c f - 1 else c k
theorem Gw (c:Nat→Nat) (f:Nat):dec c f f=c f - 1:=if_pos rfl
theorem Cu {c:Nat→Nat}{f k:Nat} (h:k≠f):dec c f k=c k:=if_neg h
theorem Gu {p:Spot}{l:List Spot}:cs (p::l) p.sign=cs l p.sign+1:=by
 unfold cs
 rw[Md (by simp),B1]
theorem OA {p:Spot}{l:List Spot}{s:Nat} (h:s≠p.sign):cs (p::l) s=cs l s:=by
 unfold cs
 rw[JZ (by simpa using fun q=>h q.symm)]
theorem F0 {Y:Nat→Bool}{p:Spot}{l:List Spot}{s:Nat} (h:s≠p.sign):nnY Y (p::l) s=nnY Y l s:=by
 unfold nnY
 rw[JZ]
 have:(p.sign==s)=false:=beq_eq_false_iff_ne.mpr fun q=>h q.symm
 rw[this];simp
theorem LK {Y:Nat→Bool}{p:Spot}{l:List Spot} (h:p.may.any Y=true):nnY Y (p::l) p.sign=nnY Y l p.sign+1:=by
 unfold nnY
 rw[Md (by simpa using h),B1]
theorem HD {Y:Nat→Bool}{p:Spot}{l:List Spot} (h:p.may.any Y=false):nnY Y (p::l) p.sign=nnY Y l p.sign:=by
 unfold nnY
 rw[JZ (by rw[h];simp)]
theorem Px {Y:Nat→Bool}{l:List Spot}{s:Nat}:nnY Y l s≤cs l s:=IV fun p _ h=>by
 rw[BI] at h
 exact h.1
theorem XD {Y:Nat→Bool}{l:List Spot}{s:Nat} (h:∀p∈l,p.sign=s→p.may.any Y=true):nnY Y l s=cs l s :=
 Tv Px (IV fun p hp q=>by
  rw[BI]
  exact⟨q,h p hp (by simpa using q)⟩)
theorem LJ {Y Z:Nat→Bool}{l:List Spot}{s:Nat} (h:∀p∈l,p.sign=s→p.may.any Y=true→p.may.any Z=true):nnY Y l s≤nnY Z l s:=IV fun p hp q=>by
 rw[BI] at q ⊢
 exact⟨q.1,h p hp (by simpa using q.1) q.2⟩
theorem any_iff {l:List Nat}{Y:Nat→Bool}:l.any Y=true↔∃k∈l,Y k=true:=Hb
structure Nest (K S:List Nat) (l:List Spot):Prop where
 kn:K.Nodup
 sn:S.Nodup
 inS:∀p∈l,p.sign∈S
 inK:∀p∈l,∀k∈p.may,k∈K
 dis:∀s∈S,s∉K
 up:l.Pairwise fun p q=>p.sign=q.sign→∀k∈p.may,k∈q.may
 one:∀p∈l,∀q∈l,∀k,k∈p.may→k∈q.may→p.sign=q.sign
 asc:∀p∈l,(p.sign::p.may).Pairwise (· < ·)
theorem Nest.tail {K S:List Nat}{p:Spot}{l:List Spot} (h:Nest K S (p::l)):Nest K S l :=
 ⟨h.kn,h.sn,fun q hq=>h.inS q (As _ hq),fun q hq=>h.inK q (As _ hq),h.dis,(El.mp h.up).2,fun q hq r hr=>h.one q (As _ hq) r (As _ hr),fun q hq=>h.asc q (As _ hq)⟩
theorem Nest.out {K S:List Nat}{l:List Spot} (h:Nest K S l) {p:Spot} (hp:p∈l):p.sign∉K:=h.dis _ (h.inS p hp)
theorem Nest.later {K S:List Nat}{p:Spot}{l:List Spot} (h:Nest K S (p::l)) {q:Spot} (hq:q∈l) (e:q.sign=p.sign) {k:Nat} (hk:k∈p.may):k∈q.may:=(El.mp h.up).1 q hq e.symm k hk
theorem Gr {K:List Nat} (hn:K.Nodup) {k0:Nat} (hk:k0∈K) (Y:Nat→Bool) (c:Nat→Nat):DB K Y c=(if Y k0=true then 0 else c k0)+((K.filter fun x=>decide (x≠k0)).map fun k=>if Y k=true then 0 else c k).sum:=CJ _ k0 hn hk
theorem Kh {K:List Nat}{f:Nat} (h:f∉K) (Y:Nat→Bool) (c:Nat→Nat):DB K Y (dec c f)=DB K Y c:=sum_eq fun k hk=>by
 have e:k≠f:=fun q=>h (by rw[← q];exact hk)
 rw[Cu e]
theorem E7 {c:Nat→Nat}{p:Spot}{l:List Spot} (h:0 < c p.sign) (s:Nat):lkF (dec c p.sign) l s=lkF c (p::l) s:=by
 unfold lkF
 by_cases e:s=p.sign
 ·subst e
  rw[Gu,Gw]
  omega
 ·rw[OA e,Cu e]
theorem Im {c:Nat→Nat}{p:Spot}{l:List Spot}{k:Nat} (hk:p.sign≠k):lkF (dec c k) l p.sign=lkF c (p::l) p.sign - 1:=by
 unfold lkF
 rw[Gu,Cu hk]
 omega
theorem Il {c:Nat→Nat}{p:Spot}{l:List Spot}{k s:Nat} (hs:s≠p.sign) (hk:s≠k):lkF (dec c k) l s=lkF c (p::l) s:=by
 unfold lkF
 rw[OA hs,Cu hk]
theorem Wr {c:Nat→Nat}{l:List Spot}{s:Nat}:lkF c l s≤cs l s:=Nat.sub_le _ _
def Er:(Nat→Nat)→List Spot→List Nat→Prop
 | _,[],[]=>True
 | c,p::l,f::g=>0 < c f∧(f=p.sign∨(f∈p.may∧0 < lkF c (p::l) p.sign))∧Er (dec c f) l g
 | _,_,_=>False
theorem P6 {K S:List Nat}{c:Nat→Nat}{p:Spot}{l:List Spot} (N:Nest K S (p::l)) (h0:0 < c p.sign) (h:Ok K S (dec c p.sign) l):Ok K S c (p::l):=fun Y=>by
 have q:=h Y
 rw[Kh (N.out AU)] at q
 have e:(S.map (lkF (dec c p.sign) l))=S.map (lkF c (p::l)):=DL fun s _=>E7 h0 s
 rw[e] at q
 refine Ba q (Mr (HQ fun s _=>?_) _)
 rw[E7 h0 s]
 have:nnY Y l s≤nnY Y (p::l) s:=by
  by_cases e:s=p.sign
  ·subst e
   cases hy:p.may.any Y with
   | true=>rw[LK hy];omega
   | false=>rw[HD hy];exact AV _
  ·rw[F0 e];exact AV _
 omega
theorem P5 {K S:List Nat}{c:Nat→Nat}{p:Spot}{l:List Spot} (N:Nest K S (p::l)) {k:Nat} (hk:k∈p.may) (h0:0 < c k) (hl:0 < lkF c (p::l) p.sign) (h:Ok K S (dec c k) l):Ok K S c (p::l):=fun Y=>by
 have q:=h Y
 have hkK:=N.inK p AU k hk
 have hsS:=N.inS p AU
 have hks:p.sign≠k:=fun e=>N.out AU (e▸hkK)
 have hsk:∀s∈S,s≠p.sign→lkF (dec c k) l s=lkF c (p::l) s:=fun s hs e=>Il e fun z=>N.dis s hs (z▸hkK)
 have eA:((S.filter fun x=>decide (x≠p.sign)).map (lkF (dec c k) l)).sum=((S.filter fun x=>decide (x≠p.sign)).map (lkF c (p::l))).sum:=ED hsk
 have eB:((S.filter fun x=>decide (x≠p.sign)).map fun s=>min (lkF (dec c k) l s) (nnY Y l s)).sum=((S.filter fun x=>decide (x≠p.sign)).map fun s=>min (lkF c (p::l) s) (nnY Y (p::l) s)).sum:=ED fun s hs e=>by rw[hsk s hs e,F0 e]
 have eC:((K.filter fun x=>decide (x≠k)).map fun x=>if Y x=true then 0 else dec c k x).sum=((K.filter fun x=>decide (x≠k)).map fun x=>if Y x=true then 0 else c x).sum:=ED fun x _ e=>by rw[Cu e]
 rw[CJ _ p.sign N.sn hsS,CJ (fun s=>min (lkF (dec c k) l s) (nnY Y l s)) p.sign N.sn hsS,eA,eB,Im hks,Gr N.kn hkK,eC,Gw] at q
 rw[CJ _ p.sign N.sn hsS,CJ (fun s=>min (lkF c (p::l) s) (nnY Y (p::l) s)) p.sign N.sn hsS,Gr N.kn hkK]
 generalize ((S.filter fun x=>decide (x≠p.sign)).map (lkF c (p::l))).sum=A at q ⊢
 generalize ((S.filter fun x=>decide (x≠p.sign)).map fun s=>min (lkF c (p::l) s) (nnY Y (p::l) s)).sum=B at q ⊢
 generalize ((K.filter fun x=>decide (x≠k)).map fun x=>if Y x=true then 0 else c x).sum=C at q ⊢
 cases hy:Y k with
 | true =>
  rw[hy] at q
  rw[LK (any_iff.mpr ⟨k,hk,hy⟩)]
  simp only[if_true] at q ⊢
  omega
 | false =>
  rw[hy] at q
  have:nnY Y l p.sign≤nnY Y (p::l) p.sign:=by
   cases hz:p.may.any Y with
   | true=>rw[LK hz];omega
   | false=>rw[HD hz];exact AV _
  simp only[Dn,if_false] at q ⊢
  omega
theorem Ip {K S:List Nat}:∀{l:List Spot}{c:Nat→Nat}{g:List Nat},Nest K S l→Er c l g→Ok K S c l
 | [],c,[],N,_=>fun Y=>by
  have:(S.map (lkF c [])).sum=0:=by
   rw[show S.map (lkF c [])=S.map fun _=>0 from DL fun s _=>Jw _]
   exact GH S
  omega
 | p::l,c,f::g,N,h=>by
  obtain⟨h0,h1,h2⟩:=h
  have ih:=Ip N.tail h2
  rcases h1 with rfl | ⟨h1,h3⟩
  ·exact P6 N h0 ih
  ·exact P5 N h1 h0 h3 ih
 | [],c,_::_,_,h=>nomatch h
 | _::_,c,[],_,h=>nomatch h
theorem W0 {S:List Nat}{f g:Nat→Nat}:(S.map fun s=>min (f s) (g s)).sum≤(S.map f).sum:=HQ fun s _=>Mv _ _
theorem Y0 {K S:List Nat}{c:Nat→Nat}{p:Spot}{l:List Spot} (N:Nest K S (p::l)) (h:Ok K S c (p::l)) (hl:lkF c (p::l) p.sign=0):0 < c p.sign∧Ok K S (dec c p.sign) l:=by
 have h0:0 < c p.sign:=by
  unfold lkF at hl
  rw[Gu] at hl
  omega
 refine⟨h0,fun Y=>?_⟩
 have q:=h Y
 have e1:S.map (lkF (dec c p.sign) l)=S.map (lkF c (p::l)):=DL fun s _=>E7 h0 s
 have e2:(S.map fun s=>min (lkF (dec c p.sign) l s) (nnY Y l s))=S.map fun s=>min (lkF c (p::l) s) (nnY Y (p::l) s):=DL fun s _=>by
  rw[E7 h0 s]
  by_cases e:s=p.sign
  ·rw[e,hl,Hm,Hm]
  ·rw[F0 e]
 rw[Kh (N.out AU),e1,e2]
 exact q
theorem Yy {K S:List Nat}{c:Nat→Nat}{p:Spot}{l:List Spot} (N:Nest K S (p::l)) (h:Ok K S c (p::l)) (hl:0 < lkF c (p::l) p.sign) {k:Nat} (hk:k∈p.may) (h0:0 < c k):Ok K S (dec c k) l:=fun Y=>by
 have hkK:=N.inK p AU k hk
 have hsS:=N.inS p AU
 have hks:p.sign≠k:=fun e=>N.out AU (e▸hkK)
 have hsk:∀s∈S,s≠p.sign→lkF (dec c k) l s=lkF c (p::l) s:=fun s hs e=>Il e fun z=>N.dis s hs (z▸hkK)
 have eA:((S.filter fun x=>decide (x≠p.sign)).map (lkF (dec c k) l)).sum=((S.filter fun x=>decide (x≠p.sign)).map (lkF c (p::l))).sum:=ED hsk
 have eB:((S.filter fun x=>decide (x≠p.sign)).map fun s=>min (lkF (dec c k) l s) (nnY Y l s)).sum=((S.filter fun x=>decide (x≠p.sign)).map fun s=>min (lkF c (p::l) s) (nnY Y (p::l) s)).sum:=ED fun s hs e=>by rw[hsk s hs e,F0 e]
 have eC:((K.filter fun x=>decide (x≠k)).map fun x=>if Y x=true then 0 else dec c k x).sum=((K.filter fun x=>decide (x≠k)).map fun x=>if Y x=true then 0 else c x).sum:=ED fun x _ e=>by rw[Cu e]
 rw[CJ _ p.sign N.sn hsS,CJ (fun s=>min (lkF (dec c k) l s) (nnY Y l s)) p.sign N.sn hsS,eA,eB,Im hks,Gr N.kn hkK,eC,Gw]
 have q:=h Y
 rw[CJ _ p.sign N.sn hsS,CJ (fun s=>min (lkF c (p::l) s) (nnY Y (p::l) s)) p.sign N.sn hsS,Gr N.kn hkK] at q
 have hcs:lkF c (p::l) p.sign≤cs l p.sign+1:=by
  have:=Wr (c:=c) (l:=p::l) (s:=p.sign)
  rw[Gu] at this
  exact this
 have all:p.may.any Y=true→nnY Y l p.sign=cs l p.sign:=fun z=>XD fun r hr e=>by
  obtain⟨x,hx,hy⟩:=any_iff.mp z
  exact any_iff.mpr ⟨x,N.later hr e hx,hy⟩
 cases hy:Y k with
 | true =>
  have e:=all (any_iff.mpr ⟨k,hk,hy⟩)
  have m:=Mv (lkF c (p::l) p.sign) (nnY Y (p::l) p.sign)
  rw[hy] at q
  generalize ((S.filter fun x=>decide (x≠p.sign)).map (lkF c (p::l))).sum=A at q ⊢
  generalize ((S.filter fun x=>decide (x≠p.sign)).map fun s=>min (lkF c (p::l) s) (nnY Y (p::l) s)).sum=B at q ⊢
  generalize ((K.filter fun x=>decide (x≠k)).map fun x=>if Y x=true then 0 else c x).sum=C at q ⊢
  simp only[if_true] at q ⊢
  rw[e]
  omega
 | false =>
  have z:=h fun x=>Y x || x==k
  have zB:((S.filter fun x=>decide (x≠p.sign)).map fun s=>min (lkF c (p::l) s) (nnY (fun x=>Y x || x==k) (p::l) s)).sum=((S.filter fun x=>decide (x≠p.sign)).map fun s=>min (lkF c (p::l) s) (nnY Y (p::l) s)).sum:=ED fun s _ e=>by
   have:nnY (fun x=>Y x || x==k) (p::l) s=nnY Y (p::l) s:=Tv (LJ fun r hr es w=>by
    obtain⟨x,hx,hw⟩:=any_iff.mp w
    rcases(MQ _ _).mp hw with hw | hw
    ·exact any_iff.mpr ⟨x,hx,hw⟩
    ·have ex:x=k:=by simpa using hw
     exact absurd ((N.one r hr p AU k (ex▸hx) hk).symm.trans es) (An e)) (LJ fun r hr es w=>by
    obtain⟨x,hx,hw⟩:=any_iff.mp w
    exact any_iff.mpr ⟨x,hx,by rw[hw];rfl⟩)
   rw[this]
  have zC:((K.filter fun x=>decide (x≠k)).map fun x=>if (Y x || x==k)=true then 0 else c x).sum=((K.filter fun x=>decide (x≠k)).map fun x=>if Y x=true then 0 else c x).sum:=ED fun x _ e=>by
   have:(x==k)=false:=beq_eq_false_iff_ne.mpr e
   rw[this,Bool.or_false]
  rw[CJ _ p.sign N.sn hsS,CJ (fun s=>min (lkF c (p::l) s) (nnY (fun x=>Y x || x==k) (p::l) s)) p.sign N.sn hsS,Gr N.kn hkK,zB,zC,if_pos (show(Y k || k==k)=true by simp)] at z
  have m:=Mv (lkF c (p::l) p.sign) (nnY (fun x=>Y x || x==k) (p::l) p.sign)
  rw[hy] at q
  generalize ((S.filter fun x=>decide (x≠p.sign)).map (lkF c (p::l))).sum=A at q z ⊢
  generalize ((S.filter fun x=>decide (x≠p.sign)).map fun s=>min (lkF c (p::l) s) (nnY Y (p::l) s)).sum=B at q z ⊢
  generalize ((K.filter fun x=>decide (x≠k)).map fun x=>if Y x=true then 0 else c x).sum=C at q z ⊢
  simp only[Dn,if_false] at q ⊢
  cases hp:p.may.any Y with
  | true =>
   rw[all hp]
   omega
  | false =>
   rw[HD hp] at q
   omega
theorem Yz {K S:List Nat}{c:Nat→Nat}{p:Spot}{l:List Spot} (N:Nest K S (p::l)) (h:Ok K S c (p::l)) (hl:0 < lkF c (p::l) p.sign) (hno:∀k∈p.may,c k=0):0 < c p.sign∧Ok K S (dec c p.sign) l:=by
 have hsS:=N.inS p AU
 have h0:0 < c p.sign:=by
  have q:=h fun x=>!p.may.contains x
  have e1:DB K (fun x=>!p.may.contains x) c=0:=by
   unfold DB
   rw[show(K.map fun k=>if (!p.may.contains k)=true then 0 else c k)=K.map fun _=>0 from DL fun k _=>by
    by_cases hm:k∈p.may
    ·rw[hno k hm];simp
    ·have:p.may.contains k=false:=by simpa using hm
     rw[this];simp]
   exact GH K
  have e2:p.may.any (fun x=>!p.may.contains x)=false:=by
   cases z:p.may.any (fun x=>!p.may.contains x) with
   | false=>rfl
   | true =>
    obtain⟨x,hx,hw⟩:=any_iff.mp z
    have:p.may.contains x=true:=by simpa using hx
    rw[this] at hw
    cases hw
  have e3:((S.filter fun x=>decide (x≠p.sign)).map fun s=>min (lkF c (p::l) s) (nnY (fun x=>!p.may.contains x) (p::l) s)).sum≤((S.filter fun x=>decide (x≠p.sign)).map (lkF c (p::l))).sum:=W0
  rw[CJ _ p.sign N.sn hsS,CJ (fun s=>min (lkF c (p::l) s) (nnY (fun x=>!p.may.contains x) (p::l) s)) p.sign N.sn hsS,e1,HD e2] at q
  have e4:=Px (Y:=fun x=>!p.may.contains x) (l:=l) (s:=p.sign)
  have e5:lkF c (p::l) p.sign=cs l p.sign+1 - c p.sign:=by unfold lkF;rw[Gu]
  omega
 refine⟨h0,fun Y=>?_⟩
 have q:=h fun x=>Y x&&!p.may.contains x
 have e1:S.map (lkF (dec c p.sign) l)=S.map (lkF c (p::l)):=DL fun s _=>E7 h0 s
 have e2:DB K (fun x=>Y x&&!p.may.contains x) c=DB K Y c:=sum_eq fun k _=>by
  by_cases hm:k∈p.may
  ·rw[hno k hm];simp
  ·have:p.may.contains k=false:=by simpa using hm
   show(if (Y k&&!p.may.contains k)=true then 0 else c k)=_
   rw[this];simp
 have e3:p.may.any (fun x=>Y x&&!p.may.contains x)=false:=by
  cases z:p.may.any (fun x=>Y x&&!p.may.contains x) with
  | false=>rfl
  | true =>
   obtain⟨x,hx,hw⟩:=any_iff.mp z
   have:p.may.contains x=true:=by simpa using hx
   rw[this] at hw
   simp at hw
 rw[Kh (N.out AU),e1]
 rw[e2] at q
 refine Ba q (Mr (HQ fun s _=>?_) _)
 rw[E7 h0 s]
 have mono:nnY (fun x=>Y x&&!p.may.contains x) l s≤nnY Y l s:=LJ fun r _ _ w=>by
  obtain⟨x,hx,hw⟩:=any_iff.mp w
  exact any_iff.mpr ⟨x,hx,((BI _ _).mp hw).1⟩
 have:nnY (fun x=>Y x&&!p.may.contains x) (p::l) s=nnY (fun x=>Y x&&!p.may.contains x) l s:=by
  by_cases e:s=p.sign
  ·subst e;exact HD e3
  ·exact F0 e
 rw[this]
 omega
theorem ID {K S:List Nat}:∀{l:List Spot}{c:Nat→Nat},Nest K S l→Ok K S c l→∃g,Er c l g
 | [],c,_,_=>⟨[],trivial⟩
 | p::l,c,N,h=>by
  by_cases hl:lkF c (p::l) p.sign=0
  ·obtain⟨h0,h1⟩:=Y0 N h hl
   obtain⟨g,hg⟩:=ID N.tail h1
   exact⟨p.sign::g,h0,.inl rfl,hg⟩
  ·have hl:0 < lkF c (p::l) p.sign:=Tw hl
   by_cases hk:∃k∈p.may,0 < c k
   ·obtain⟨k,hk,h0⟩:=hk
    obtain⟨g,hg⟩:=ID N.tail (Yy N h hl hk h0)
    exact⟨k::g,h0,.inr ⟨hk,hl⟩,hg⟩
   ·obtain⟨h0,h1⟩:=Yz N h hl fun k hm=>Nat.eq_zero_of_not_pos fun z=>hk ⟨k,hm,z⟩
    obtain⟨g,hg⟩:=ID N.tail h1
    exact⟨p.sign::g,h0,.inl rfl,hg⟩
end Fm
end
section
set_option maxRecDepth 100000
namespace Fm
open Flags
theorem L7 {f:Nat→Nat}:∀{T S:List Nat},S.Nodup→T.Nodup→(∀t∈T,t∈S)→(∀s∈S,s∉T→f s=0)→(S.map f).sum=(T.map f).sum
 | [],S,_,_,_,h=>by
  rw[show S.map f=S.map fun _=>0 from DL fun s hs=>h s hs Dc]
  exact GH S
 | t::T,S,hs,ht,hsub,h=>by
  obtain⟨t1,t2⟩:=C9.mp ht
  rw[CJ f t hs (hsub t AU),Au,Ds]
  have e:=L7 (f:=f) (T:=T) (S:=S.filter fun x=>decide (x≠t)) (hs.sublist Ja) t2 (fun x hx=>Ci.mpr ⟨hsub x (As _ hx),decide_eq_true (fun (q:x=t)=>t1 (by rw[← q];exact hx))⟩) fun s hs' hn=>by
   obtain⟨m1,m2⟩:=Ci.mp hs'
   exact h s m1 fun q=>(AS.mp q).elim (fun z=>(of_decide_eq_true m2) z) hn
  rw[e]
def cOf (left:List Nat):Nat→Nat:=fun k=>left.getD k 0
theorem VU {l:List Spot}{s:Nat} (h:∀p∈l,p.sign≠s):cs l s=0:=by
 unfold cs
 rw[Je,Ta]
 intro p hp
 simpa using h p hp
theorem Kr {L:Locker}{left:List Nat}{l:List Spot}{S:List Nat} (N:Nest L.sameKinds S l):L.enough left l=true↔Ok L.sameKinds S (cOf left) l:=by
 have hd:((l.map fun (p:Spot)=>p.sign).eraseDups).Nodup:=LM _ _ (AV _)
 have sub:∀t∈(l.map fun (p:Spot)=>p.sign).eraseDups,t∈S:=fun t ht=>by
  obtain⟨p,hp,rfl⟩:=BP.mp (Hi.mp ht)
  exact N.inS p hp
 have zero:∀s∈S,s∉(l.map fun (p:Spot)=>p.sign).eraseDups→lkF (cOf left) l s=0:=fun s _ hn=>by
  unfold lkF
  rw[VU fun p hp e=>hn (Hi.mpr (BP.mpr ⟨p,hp,e⟩)),Jw]
 have e1:((l.map fun (p:Spot)=>p.sign).eraseDups.map (lacks left l)).sum=(S.map (lkF (cOf left) l)).sum:=(L7 N.sn hd sub zero).symm
 have e2:∀Y:Nat→Bool,((l.map fun (p:Spot)=>p.sign).eraseDups.map fun s=>min (lkF (cOf left) l s) (nnY Y l s)).sum=(S.map fun s=>min (lkF (cOf left) l s) (nnY Y l s)).sum:=fun Y=>(L7 N.sn hd sub fun s hs hn=>by rw[zero s hs hn,Hm]).symm
 have e3:∀Y:Nat→Bool,((L.sameKinds.filter fun k=>!Y k).map fun k=>left.getD k 0).sum=DB L.sameKinds Y (cOf left):=fun Y=>by
  rw[Sv]
  refine sum_eq fun k _=>?_
  cases Y k <;> rfl
 unfold Locker.enough
 dsimp only
 rw[Cg]
 constructor
 ·intro h Y
  have q:=of_decide_eq_true (h (L.sameKinds.filter Y) (OY _))
  rw[e1] at q
  have m:∀k∈L.sameKinds,(L.sameKinds.filter Y).contains k=Y k:=fun k hk=>by
   cases hy:Y k with
   | true=>simpa using Ci.mpr ⟨hk,hy⟩
   | false =>
    cases z:(L.sameKinds.filter Y).contains k with
    | false=>rfl
    | true =>
     have:=(Ci.mp (contains_mem.mp z)).2
     rw[hy] at this;cases this
  have c1:((L.sameKinds.filter fun k=>!(L.sameKinds.filter Y).contains k).map fun k=>left.getD k 0).sum=DB L.sameKinds Y (cOf left):=by
   rw[← e3 Y]
   congr 2
   exact Mc fun k hk=>by rw[m k hk]
  have c2:((l.map fun (p:Spot)=>p.sign).eraseDups.map fun s=>min (lacks left l s) ((l.filter fun (p:Spot)=>p.sign==s&&p.may.any fun (k:Nat)=>(L.sameKinds.filter Y).contains k).length)).sum=(S.map fun s=>min (lkF (cOf left) l s) (nnY Y l s)).sum:=by
   rw[← e2 Y]
   refine sum_eq fun s _=>?_
   have:(l.filter fun (p:Spot)=>p.sign==s&&p.may.any fun (k:Nat)=>(L.sameKinds.filter Y).contains k)=l.filter fun (p:Spot)=>p.sign==s&&p.may.any Y:=Mc fun p hp=>by
    congr 1
    rw[C3,any_iff,any_iff]
    exact⟨fun ⟨k,hk,z⟩=>⟨k,hk,by rw[← m k (N.inK p hp k hk)];exact z⟩,fun ⟨k,hk,z⟩=>⟨k,hk,by rw[m k (N.inK p hp k hk)];exact z⟩⟩
   rw[this]
   rfl
  rw[c1,c2] at q
  exact q
 ·intro h y _
  have q:=h fun k=>y.contains k
  rw[← e1,← e2,← e3] at q
  exact decide_eq_true q
theorem Ij (left:List Nat) (f:Nat):cOf (less1 left f)=dec (cOf left) f:=funext fun k=>by
 unfold cOf less1 dec
 rw[Ej,List.getElem?_set]
 by_cases e:f=k
 ·subst e
  rw[if_pos rfl,if_pos rfl]
  by_cases hf:f < left.length
  ·rw[if_pos hf];rfl
  ·rw[if_neg hf]
   show 0=left.getD f 0 - 1
   rw[Ej,Th (by omega)]
   rfl
 ·rw[if_neg e,if_neg fun q=>e q.symm]
  show _=left.getD k 0
  rw[Ej]
def Fw:List Nat→List Nat→Prop
 | [],[]=>True
 | f::g,f'::g'=>f < f'∨(f=f'∧Fw g g')
 | _,_=>False
theorem Pa:∀{g h:List Nat},Fw g h→Fw h g→g=h
 | [],[],_,_=>rfl
 | f::g,f'::g',h1,h2=>by
  rcases h1 with h1 | ⟨e,h1⟩
  ·rcases h2 with h2 | ⟨e,_⟩
   ·omega
   ·omega
  ·rcases h2 with h2 | ⟨_,h2⟩
   ·omega
   ·rw[e,Pa h1 h2]
 | [],_::_,h,_=>nomatch h
 | _::_,[],h,_=>nomatch h
theorem OW {L:Locker}{S:List Nat}:∀{l:List Spot}{left:List Nat},Nest L.sameKinds S l→Ok L.sameKinds S (cOf left) l→Er (cOf left) l (L.fill l left)∧∀g,Er (cOf left) l g→Fw (L.fill l left) g
 | [],left,_,_=>by
  unfold Locker.fill
  refine⟨trivial,fun g hg=>?_⟩
  cases g with
  | nil=>trivial
  | cons _ _=>exact nomatch hg
 | p::l,left,N,h=>by
  have N':=N.tail
  have cand:∀f,f∈(p.sign::if 0 < lacks left (p::l) p.sign then p.may else []).filter (fun (f:Nat)=>decide (0 < left.getD f 0)&&L.enough (less1 left f) l)↔(0 < cOf left f∧(f=p.sign∨(f∈p.may∧0 < lkF (cOf left) (p::l) p.sign))∧Ok L.sameKinds S (dec (cOf left) f) l):=fun f=>by
   have hl:lacks left (p::l) p.sign=lkF (cOf left) (p::l) p.sign:=rfl
   rw[Ci,BI,decide_eq_true_eq,Kr N',Ij,AS,hl]
   by_cases z:0 < lkF (cOf left) (p::l) p.sign
   ·rw[if_pos z]
    exact⟨fun ⟨q,a,b⟩=>⟨a,q.imp id fun w=>⟨w,z⟩,b⟩,fun ⟨a,q,b⟩=>⟨q.imp id And.left,a,b⟩⟩
   ·rw[if_neg z]
    exact⟨fun ⟨q,a,b⟩=>⟨a,q.imp id fun w=>(nomatch w),b⟩,fun ⟨a,q,b⟩=>⟨q.imp id fun w=>absurd w.2 z,a,b⟩⟩
  have unf:L.fill (p::l) left=(((p.sign::if 0 < lacks left (p::l) p.sign then p.may else []).filter (fun (f:Nat)=>decide (0 < left.getD f 0)&&L.enough (less1 left f) l)).headD 0)::L.fill l (less1 left (((p.sign::if 0 < lacks left (p::l) p.sign then p.may else []).filter (fun (f:Nat)=>decide (0 < left.getD f 0)&&L.enough (less1 left f) l)).headD 0)):=by
   rw[Locker.fill]
  have asc:((p.sign::if 0 < lacks left (p::l) p.sign then p.may else []).filter (fun (f:Nat)=>decide (0 < left.getD f 0)&&L.enough (less1 left f) l)).Pairwise (· < ·):=by
   refine MZ _ ?_
   have:=N.asc p AU
   split
   ·exact this
   ·exact Tt _ _
  obtain⟨g0,h0⟩:=ID N h
  have ne:(p.sign::if 0 < lacks left (p::l) p.sign then p.may else []).filter (fun (f:Nat)=>decide (0 < left.getD f 0)&&L.enough (less1 left f) l)≠[]:=by
   cases g0 with
   | nil=>exact nomatch h0
   | cons f g =>
    obtain⟨a,b,c⟩:=h0
    intro z
    have:=(cand f).mpr ⟨a,b,Ip N' c⟩
    rw[z] at this
    cases this
  rw[unf]
  generalize (p.sign::if 0 < lacks left (p::l) p.sign then p.may else []).filter (fun (f:Nat)=>decide (0 < left.getD f 0)&&L.enough (less1 left f) l)=cs0 at cand asc ne ⊢
  cases cs0 with
  | nil=>exact absurd rfl ne
  | cons f fs =>
   obtain⟨a1,_⟩:=El.mp asc
   obtain⟨b1,b2,b3⟩:=(cand f).mp AU
   have e:((f::fs).headD 0)=f:=rfl
   rw[e]
   rw[← Ij] at b3
   obtain⟨i1,i2⟩:=OW N' b3
   refine⟨⟨b1,b2,by rw[← Ij];exact i1⟩,fun g hg=>?_⟩
   cases g with
   | nil=>exact nomatch hg
   | cons f' g' =>
    obtain⟨c1,c2,c3⟩:=hg
    have m:=(cand f').mpr ⟨c1,c2,Ip N' c3⟩
    rcases AS.mp m with z | z
    ·subst z
     exact .inr ⟨rfl,i2 g' (by rw[Ij];exact c3)⟩
    ·exact .inl (a1 f' z)
end Fm
end
section
set_option maxRecDepth 100000
namespace Fm
open Flags
def CN:(Nat→Nat)→List Spot→List Nat→Prop
 | _,[],[]=>True
 | c,p::l,f::g=>0 < c f∧(f=p.sign∨f∈p.may)∧CN (dec c f) l g
 | _,_,_=>False
def ns:List Spot→List Nat→Nat
 | p::l,f::g=>(if f=p.sign then 0 else 1)+ns l g
 | _,_=>0
theorem Io {K S:List Nat}{p:Spot}{l:List Spot} (N:Nest K S (p::l)) {k:Nat} (hk:k∈p.may):k≠p.sign:=fun e=>N.out (AU (a:=p) (l:=l)) (e▸N.inK p AU k hk)
theorem K9 {K S:List Nat}{c:Nat→Nat}{p:Spot}{l:List Spot} (h0:0 < c p.sign):(S.map (lkF (dec c p.sign) l)).sum=(S.map (lkF c (p::l))).sum:=sum_eq fun s _=>E7 h0 s
theorem K8 {K S:List Nat}{c:Nat→Nat}{p:Spot}{l:List Spot} (N:Nest K S (p::l)) {k:Nat} (hk:k∈p.may):(S.map (lkF c (p::l))).sum=lkF c (p::l) p.sign+((S.filter fun x=>decide (x≠p.sign)).map (lkF c (p::l))).sum∧(S.map (lkF (dec c k) l)).sum=lkF c (p::l) p.sign - 1+((S.filter fun x=>decide (x≠p.sign)).map (lkF c (p::l))).sum:=by
 have hkK:=N.inK p AU k hk
 have hsS:=N.inS p AU
 have hks:p.sign≠k:=fun e=>N.out AU (e▸hkK)
 have hsk:∀s∈S,s≠p.sign→lkF (dec c k) l s=lkF c (p::l) s:=fun s hs e=>Il e fun z=>N.dis s hs (z▸hkK)
 refine⟨CJ _ p.sign N.sn hsS,?_⟩
 rw[CJ _ p.sign N.sn hsS,ED hsk,Im hks]
theorem Kt {K S:List Nat}:∀{l:List Spot}{c:Nat→Nat}{g:List Nat},Nest K S l→CN c l g→(S.map (lkF c l)).sum≤ns l g
 | [],c,[],_,_=>by
  rw[show S.map (lkF c [])=S.map fun _=>0 from DL fun s _=>Jw _,GH S]
  exact A5 _
 | p::l,c,f::g,N,⟨h0,h1,h2⟩=>by
  have ih:=Kt N.tail h2
  show _≤(if f=p.sign then 0 else 1)+ns l g
  rcases h1 with rfl | h1
  ·rw[K9 (K:=K) h0] at ih
   rw[if_pos rfl]
   omega
  ·obtain⟨e1,e2⟩:=K8 N h1 (c:=c)
   rw[if_neg (Io N h1)]
   omega
 | [],c,_::_,_,h=>nomatch h
 | _::_,c,[],_,h=>nomatch h
theorem Km {K S:List Nat}:∀{l:List Spot}{c:Nat→Nat}{g:List Nat},Nest K S l→CN c l g→ns l g=(S.map (lkF c l)).sum→Er c l g
 | [],c,[],_,_,_=>trivial
 | p::l,c,f::g,N,⟨h0,h1,h2⟩,hn=>by
  have hn:(if f=p.sign then 0 else 1)+ns l g=(S.map (lkF c (p::l))).sum:=hn
  have le:=Kt N.tail h2
  rcases h1 with rfl | h1
  ·rw[if_pos rfl,EG,← K9 (K:=K) h0] at hn
   exact⟨h0,.inl rfl,Km N.tail h2 hn⟩
  ·obtain⟨e1,e2⟩:=K8 N h1 (c:=c)
   rw[if_neg (Io N h1)] at hn
   have hp:0 < lkF c (p::l) p.sign:=by omega
   exact⟨h0,.inr ⟨h1,hp⟩,Km N.tail h2 (by omega)⟩
 | [],c,_::_,_,h,_=>nomatch h
 | _::_,c,[],_,h,_=>nomatch h
theorem Oa {K S:List Nat}:∀{l:List Spot}{c:Nat→Nat}{g:List Nat},Nest K S l→Er c l g→CN c l g∧ns l g=(S.map (lkF c l)).sum
 | [],c,[],_,_=>⟨trivial,by
  rw[show S.map (lkF c [])=S.map fun _=>0 from DL fun s _=>Jw _,GH S]
  rfl⟩
 | p::l,c,f::g,N,⟨h0,h1,h2⟩=>by
  obtain⟨i1,i2⟩:=Oa N.tail h2
  rcases h1 with rfl | ⟨h1,hp⟩
  ·refine⟨⟨h0,.inl rfl,i1⟩,?_⟩
   show(if p.sign=p.sign then 0 else 1)+ns l g=_
   rw[if_pos rfl,i2,K9 (K:=K) h0,EG]
  ·obtain⟨e1,e2⟩:=K8 N h1 (c:=c)
   refine⟨⟨h0,.inr h1,i1⟩,?_⟩
   show(if f=p.sign then 0 else 1)+ns l g=_
   rw[if_neg (Io N h1),i2]
   omega
 | [],c,_::_,_,h=>nomatch h
 | _::_,c,[],_,h=>nomatch h
def Told (c:Nat→Nat) (l:List Spot) (h:List Nat):Prop:=CN c l h∧∀g,CN c l g→ns l h < ns l g∨(ns l h=ns l g∧Fw h g)
theorem Told.unique {c:Nat→Nat}{l:List Spot}{g h:List Nat} (a:Told c l g) (b:Told c l h):g=h:=by
 rcases a.2 h b.1 with q | ⟨e,q⟩
 ·rcases b.2 g a.1 with z | ⟨z,_⟩
  ·omega
  ·omega
 ·rcases b.2 g a.1 with z | ⟨_,z⟩
  ·omega
  ·exact Pa q z
theorem OX {L:Locker}{S:List Nat}{l:List Spot}{left:List Nat} (N:Nest L.sameKinds S l) (h:L.enough left l=true):Told (cOf left) l (L.fill l left):=by
 obtain⟨h1,h2⟩:=OW N ((Kr N).mp h)
 obtain⟨f1,f2⟩:=Oa N h1
 refine⟨f1,fun g hg=>?_⟩
 have le:=Kt N hg
 by_cases e:ns l g=(S.map (lkF (cOf left) l)).sum
 ·exact .inr ⟨f2.trans e.symm,h2 g (Km N hg e)⟩
 ·exact .inl (by omega)
theorem XN {K S:List Nat}{c:Nat→Nat}{p:Spot}{l:List Spot} (N:Nest K S (p::l)) {k:Nat} (hk:k∈p.may) (hl:lkF c (p::l) p.sign=0) (h:Ok K S (dec c k) l):Ok K S c (p::l):=fun Y=>by
 have q:=h Y
 have hkK:=N.inK p AU k hk
 have hks:p.sign≠k:=fun e=>N.out AU (e▸hkK)
 have hsk:∀s∈S,lkF (dec c k) l s=lkF c (p::l) s:=fun s hs=>by
  by_cases e:s=p.sign
  ·rw[e,Im hks,hl]
  ·exact Il e fun z=>N.dis s hs (z▸hkK)
 rw[sum_eq hsk] at q
 have e2:(S.map fun s=>min (lkF (dec c k) l s) (nnY Y l s)).sum=(S.map fun s=>min (lkF c (p::l) s) (nnY Y (p::l) s)).sum:=sum_eq fun s hs=>by
  rw[hsk s hs]
  by_cases e:s=p.sign
  ·rw[e,hl,Hm,Hm]
  ·rw[F0 e]
 have e3:DB K Y (dec c k)≤DB K Y c:=HQ fun x _=>by
  have:dec c k x≤c x:=by
   unfold dec
   split
   ·rename_i z
    rw[z]
    exact Nat.sub_le _ _
   ·exact AV _
  split
  ·exact AV _
  ·exact this
 rw[e2] at q
 omega
theorem P4 {K S:List Nat}:∀{l:List Spot}{c:Nat→Nat}{g:List Nat},Nest K S l→CN c l g→Ok K S c l
 | [],c,[],N,_=>Ip N (g:=[]) trivial
 | p::l,c,f::g,N,⟨h0,h1,h2⟩=>by
  have ih:=P4 N.tail h2
  rcases h1 with rfl | h1
  ·exact P6 N h0 ih
  ·by_cases hl:lkF c (p::l) p.sign=0
   ·exact XN N h1 hl ih
   ·exact P5 N h1 h0 (Tw hl) ih
 | [],c,_::_,_,h=>nomatch h
 | _::_,c,[],_,h=>nomatch h
theorem V5 {L:Locker}{S:List Nat}{l:List Spot}{left:List Nat} (N:Nest L.sameKinds S l):L.enough left l=true↔∃g,CN (cOf left) l g:=by
 constructor
 ·intro h
  exact⟨_,(OX N h).1⟩
 ·rintro⟨g,hg⟩
  exact(Kr N).mpr (P4 N hg)
theorem role_at {L:Locker}{s:Nat} (h:L.isSignAt s=true):∃k,L.kinds[s]?=some k∧k.isSign=true:=by
 unfold Locker.isSignAt at h
 cases hk:L.kinds[s]? with
 | none=>rw[hk] at h;cases h
 | some k=>rw[hk] at h;exact⟨k,rfl,h⟩
theorem same_at {L:Locker}{f:Nat} (h:f∈L.sameKinds):∃k j,L.kinds[f]?=some k∧k.role=.same j:=by
 have:=(Ci.mp h).2
 cases hk:L.kinds[f]? with
 | none=>rw[hk] at this;cases this
 | some k =>
  rw[hk] at this
  have this:(match some k.role with | some (.same _)=>true | _=>false)=true:=this
  cases hr:k.role with
  | sign n=>rw[hr] at this;cases this
  | same j=>exact⟨k,j,rfl,hr⟩
  | answer=>rw[hr] at this;cases this
theorem R9 {L:Locker} (hw:Fb.Wf L.kinds) {s f:Nat} (hs:L.isSignAt s=true) (hf:f∈L.sameKinds):s < f:=by
 obtain⟨k,hk,hs⟩:=role_at hs
 obtain⟨k',j,hk',hr⟩:=same_at hf
 rw[Fb.isSign_rk] at hs
 have r1:Fb.rk k=1:=of_decide_eq_true hs
 have r2:Fb.rk k'=2:=by unfold Fb.rk;rw[hr]
 rcases Nat.lt_trichotomy s f with q | q | q
 ·exact q
 ·subst q
  rw[hk] at hk'
  cases hk'
  omega
 ·exfalso
  obtain⟨lf,ef⟩:=Bd.mp hk'
  obtain⟨ls,es⟩:=Bd.mp hk
  have:=(Ts.mp hw.order f s lf ls q).1
  rw[ef,es] at this
  omega
theorem Pu {L:Locker}{r:List Nat} (hw:Fb.Wf L.kinds) (hr:∀s∈r,L.isSignAt s=true):Nest L.sameKinds r.eraseDups (L.spots [r]):=by
 have mem:∀p∈L.spots [r],∃i,i < r.length∧p=⟨r.getD i 0,mayAt L r i⟩:=fun p hp=>by
  rw[spots_one] at hp
  obtain⟨i,hi,rfl⟩:=BP.mp hp
  exact⟨i,Mn.mp hi,rfl⟩
 have inr:∀i,i < r.length→r.getD i 0∈r:=fun i hi=>by
  rw[Ej,BD hi]
  exact Mj hi
 have pts:∀{i k},k∈mayAt L r i→k∈L.sameKinds∧L.points k≤i∧r.getD (L.points k - 1) 0=r.getD i 0:=fun {i k} h=>by
  obtain⟨h1,h2⟩:=Ci.mp h
  rw[BI,decide_eq_true_eq,beq_iff_eq] at h2
  exact⟨h1,h2.1,h2.2⟩
 refine⟨List.nodup_range.sublist Ja,LM _ _ (AV _),fun p hp=>?_,fun p hp k hk=>?_,fun s hs hk=>?_,?_,fun p hp q hq k hkp hkq=>?_,fun p hp=>?_⟩
 ·obtain⟨i,hi,rfl⟩:=mem p hp
  exact Hi.mpr (inr i hi)
 ·obtain⟨i,hi,rfl⟩:=mem p hp
  exact(pts hk).1
 ·exact absurd (R9 hw (hr s (Hi.mp hs)) hk) (Cp _)
 ·rw[spots_one,List.pairwise_map]
  refine Mp.imp fun {i j} hij e k hk=>?_
  obtain⟨k1,k2,k3⟩:=pts hk
  have e:r.getD i 0=r.getD j 0:=e
  refine Ci.mpr ⟨k1,?_⟩
  rw[BI,decide_eq_true_eq,beq_iff_eq]
  exact⟨by omega,k3.trans e⟩
 ·obtain⟨i,hi,rfl⟩:=mem p hp
  obtain⟨j,hj,rfl⟩:=mem q hq
  exact(pts hkp).2.2.symm.trans (pts hkq).2.2
 ·obtain⟨i,hi,rfl⟩:=mem p hp
  refine El.mpr ⟨fun k hk=>R9 hw (hr _ (inr i hi)) (pts hk).1,?_⟩
  exact(Mp.sublist (Ja.trans Ja))
theorem N6 (L:Locker):cOf L.allCopies=L.copies:=funext fun k=>U4 L k
theorem Vk {L:Locker}{r:List Nat} (hw:Fb.Wf L.kinds) (hr:∀s∈r,L.isSignAt s=true) (h:L.canShow r=true):∃g,L.display [r]=some g∧Told L.copies (L.spots [r]) g:=by
 refine⟨L.fill (L.spots [r]) L.allCopies,?_,?_⟩
 ·unfold Locker.display
  exact if_pos h
 ·have:=OX (Pu hw hr) h
  rw[N6] at this
  exact this
end Fm
end
section
set_option maxRecDepth 100000
namespace Fm
open Flags
def greedy:(Nat→Nat)→List Spot→Option (List Nat)
 | _,[]=>some []
 | c,p::l=>match (p.sign::p.may).find? (fun f=>decide (0 < c f)) with
  | none=>none
  | some f=>(greedy (dec c f) l).map (f::·)
def less (c:Nat→Nat) (g:List Nat):Nat→Nat:=fun k=>c k - g.count k
theorem less_nil (c:Nat→Nat):less c []=c:=funext fun k=>by unfold less;simp
theorem less_snoc (c:Nat→Nat) (g:List Nat) (f:Nat):less c (g++[f])=dec (less c g) f:=funext fun k=>by
 unfold less dec
 rw[TX]
 by_cases e:k=f
 ·subst e
  rw[if_pos rfl]
  simp
  omega
 ·rw[if_neg e,Ma (fun q=>e q.symm)]
  simp
theorem IL (c:Nat→Nat) (a b:Nat):dec (dec c a) b=dec (dec c b) a:=funext fun k=>by
 unfold dec
 by_cases h1:k=a <;> by_cases h2:k=b <;> by_cases h3:a=b <;> simp[h1,h2,h3] <;> first | omega | (subst h1;simp_all) | (subst h2;simp_all) | skip
theorem Ku {s f f':Nat}:∀{l:List Spot}{c:Nat→Nat}{g:List Nat},(∀q∈l,(f=q.sign∨f∈q.may)→f'∈q.may∧q.sign=s)→f≠f'→0 < c f→CN (dec c f') l g→0 < c f'→∃g',CN (dec c f) l g'∧ns l g'≤ns l g+(if f=s then 1 else 0)
 | [],c,[],_,_,_,_,_=>⟨[],trivial,A5 _⟩
 | p::l,c,x::g,hall,ne,h0,⟨hx0,hx1,hx2⟩,h0'=>by
  by_cases ex:x=f
  ·subst ex
   obtain⟨m1,m2⟩:=hall p AU hx1
   refine⟨f'::g,⟨?_,.inr m1,?_⟩,?_⟩
   ·rw[Cu ne.symm];exact h0'
   ·rw[IL];exact hx2
   ·show(if f'=p.sign then 0 else 1)+ns l g≤(if x=p.sign then 0 else 1)+ns l g+_
    rw[m2]
    split <;> split <;> omega
  ·by_cases ex':x=f'
   ·subst ex'
    rw[Gw] at hx0
    obtain⟨g',i1,i2⟩:=Ku (s:=s) (f:=f) (f':=x) (l:=l) (c:=dec c x) (g:=g) (fun q hq=>hall q (As _ hq)) ne (by rw[Cu ne];exact h0) hx2 (by rw[Gw];exact hx0)
    refine⟨x::g',⟨by rw[Cu ne.symm];exact h0',hx1,by rw[IL];exact i1⟩,?_⟩
    show(if x=p.sign then 0 else 1)+ns l g'≤(if x=p.sign then 0 else 1)+ns l g+_
    omega
   ·rw[Cu ex'] at hx0
    obtain⟨g',i1,i2⟩:=Ku (s:=s) (f:=f) (f':=f') (l:=l) (c:=dec c x) (g:=g) (fun q hq=>hall q (As _ hq)) ne (by rw[Cu (fun q=>ex q.symm)];exact h0) (by rw[IL];exact hx2) (by rw[Cu (fun q=>ex' q.symm)];exact h0')
    refine⟨x::g',⟨by rw[Cu ex];exact hx0,hx1,by rw[IL];exact i1⟩,?_⟩
    show(if x=p.sign then 0 else 1)+ns l g'≤(if x=p.sign then 0 else 1)+ns l g+_
    omega
 | [],_,_::_,_,_,_,h,_=>nomatch h
 | _::_,_,[],_,_,_,h,_=>nomatch h
theorem Yx {K S:List Nat}{c:Nat→Nat}{p:Spot}{l:List Spot}{f f':Nat}{g:List Nat} (N:Nest K S (p::l)) (hf:f=p.sign∨f∈p.may) (hf':f'∈p.may) (ne:f≠f') (h0:0 < c f) (h:CN c (p::l) (f'::g)):
  ∃g',CN (dec c f) l g'∧ns l g'≤ns l g+(if f=p.sign then 1 else 0):=by
 obtain⟨a1,a2,a3⟩:=h
 refine Ku (fun q hq hfq=>?_) ne h0 a3 a1
 have hqm:q∈p::l:=As _ hq
 have es:q.sign=p.sign:=by
  rcases hf with hf | hf
  ·rcases hfq with e | e
   ·rw[← e,hf]
   ·exact absurd (N.inK q hqm f e) (hf▸N.out AU)
  ·rcases hfq with e | e
   ·exact absurd (N.inK p AU f hf) (e▸N.out hqm)
   ·exact N.one q hqm p AU f e hf
 exact⟨N.later hq es hf',es⟩
theorem Ox {K S:List Nat}:∀{l:List Spot}{c:Nat→Nat},Nest K S l→(greedy c l=none→∀g,¬CN c l g)∧(∀h,greedy c l=some h→Told c l h)
 | [],c,_=>by
  refine⟨fun h=>(nomatch h),fun h e=>?_⟩
  cases e
  refine⟨trivial,fun g hg=>?_⟩
  cases g with
  | nil=>exact .inr ⟨rfl,trivial⟩
  | cons _ _=>exact nomatch hg
 | p::l,c,N=>by
  have asc:=N.asc p AU
  unfold greedy
  cases hfd:(p.sign::p.may).find? (fun f=>decide (0 < c f)) with
  | none =>
   have hn:=Td.mp hfd
   refine⟨fun _ g hg=>?_,fun h e=>(nomatch e)⟩
   cases g with
   | nil=>exact nomatch hg
   | cons f g=>exact hn f (AS.mpr hg.2.1) (decide_eq_true hg.1)
  | some f =>
   have hfm:f=p.sign∨f∈p.may:=AS.mp (Tq hfd)
   have hf0:0 < c f:=by
    have:=Te hfd
    exact of_decide_eq_true this
   obtain⟨ih1,ih2⟩:=Ox (l:=l) (c:=dec c f) N.tail
   have other:∀{f':Nat} {g:List Nat},CN c (p::l) (f'::g)→f'=f∨(f'∈p.may∧f < f'):=fun {f' g} hg=>by
    obtain⟨g1,g2,_⟩:=hg
    by_cases e:f'=f
    ·exact .inl e
    ·right
     obtain⟨as,bs,e1,e2⟩:=(List.find?_eq_some_iff_append.mp hfd).2
     have hm:f'∈p.sign::p.may:=AS.mpr g2
     rw[e1] at hm asc
     have hlt:f < f':=by
      rcases C8.mp hm with z | z
      ·have:=e2 f' z
       simp only[Bool.not_eq_true',decide_eq_false_iff_not] at this
       exact absurd g1 this
      ·rcases AS.mp z with z | z
       ·exact absurd z e
       ·exact(El.mp (Mo.mp asc).2.1).1 f' z
     refine⟨?_,hlt⟩
     rcases g2 with z | z
     ·have:f∈p.may∨f=p.sign:=hfm.symm
      rcases this with w | w
      ·have:=(El.mp (N.asc p AU)).1 f w
       omega
      ·omega
     ·exact z
   have move:∀{f':Nat} {g:List Nat},CN c (p::l) (f'::g)→∃g',CN (dec c f) l g'∧((f'=f∧g'=g)∨(f < f'∧f'∈p.may∧ns l g'≤ns l g+(if f=p.sign then 1 else 0))):=fun {f' g} hg=>by
    rcases other hg with e | ⟨m,lt⟩
    ·subst e
     exact⟨g,hg.2.2,.inl ⟨rfl,rfl⟩⟩
    ·obtain⟨g',i1,i2⟩:=Yx N hfm m (by omega) hf0 hg
     exact⟨g',i1,.inr ⟨lt,m,i2⟩⟩
   constructor
   ·intro e g hg
    have e:(greedy (dec c f) l).map (f::·)=none:=e
    cases g with
    | nil=>exact nomatch hg
    | cons f' g =>
     obtain⟨g',i1,_⟩:=move hg
     exact ih1 (Option.map_eq_none_iff.mp e) g' i1
   ·intro h e
    have e:(greedy (dec c f) l).map (f::·)=some h:=e
    obtain⟨h',e1,e2⟩:=GY.mp e
    subst e2
    obtain⟨t1,t2⟩:=ih2 h' e1
    refine⟨⟨hf0,hfm,t1⟩,fun g hg=>?_⟩
    cases g with
    | nil=>exact nomatch hg
    | cons f' g =>
     obtain⟨g',i1,i2⟩:=move hg
     have t:=t2 g' i1
     show(if f=p.sign then 0 else 1)+ns l h' < (if f'=p.sign then 0 else 1)+ns l g∨((if f=p.sign then 0 else 1)+ns l h'=(if f'=p.sign then 0 else 1)+ns l g∧(f < f'∨(f=f'∧Fw h' g)))
     rcases i2 with ⟨e3,e4⟩ | ⟨lt,m,le⟩
     ·subst e3 e4
      rcases t with t | ⟨t,t'⟩
      ·left;omega
      ·right;exact⟨by omega,.inr ⟨rfl,t'⟩⟩
     ·rw[if_neg (Io N m)]
      have:ns l h'≤ns l g':=by rcases t with t | t <;> omega
      by_cases es:f=p.sign
      ·rw[if_pos es] at le ⊢
       by_cases eq:0+ns l h'=1+ns l g
       ·exact .inr ⟨eq,.inl lt⟩
       ·left;omega
      ·rw[if_neg es] at le ⊢
       by_cases eq:1+ns l h'=1+ns l g
       ·exact .inr ⟨eq,.inl lt⟩
       ·left;omega
theorem display_greedy {L:Locker}{r:List Nat} (hw:Fb.Wf L.kinds) (hr:∀s∈r,L.isSignAt s=true):L.display [r]=greedy L.copies (L.spots [r]):=by
 have N:=Pu hw hr
 obtain⟨g1,g2⟩:=Ox (c:=L.copies) N
 cases hc:L.canShow r with
 | true =>
  obtain⟨g,e1,t1⟩:=Vk hw hr hc
  cases hg:greedy L.copies (L.spots [r]) with
  | none=>exact absurd t1.1 (g1 hg g)
  | some h=>rw[e1,Told.unique t1 (g2 h hg)]
 | false =>
  have e1:L.display [r]=none:=by
   unfold Locker.canShow at hc
   unfold Locker.display
   rw[hc]
   rfl
  rw[e1]
  cases hg:greedy L.copies (L.spots [r]) with
  | none=>rfl
  | some h =>
   have:=(V5 (left:=L.allCopies) N).mpr ⟨h,by rw[N6];exact(g2 h hg).1⟩
   unfold Locker.canShow at hc
   rw[hc] at this
   cases this
theorem canShow_display (L:Locker) (r:List Nat):L.canShow r=(L.display [r]).isSome:=by
 unfold Locker.canShow Locker.display
 cases L.enough L.allCopies (L.spots [r]) <;> rfl
theorem greedy_len:∀{l:List Spot}{c:Nat→Nat}{h:List Nat},greedy c l=some h→h.length=l.length
 | [],c,h,e=>by cases e;rfl
 | p::l,c,h,e=>by
  unfold greedy at e
  split at e
  ·cases e
  ·obtain⟨h',e1,e2⟩:=GY.mp e
   subst e2
   rw[B1,B1,greedy_len e1]
end Fm
end
section
set_option maxRecDepth 100000
namespace Fb
open Flags (Bytes Fault cutAt)
end Fb
end
section
set_option maxRecDepth 100000
namespace Fb
open Flags (Bytes Row Entry Act Book rowBefore before putEntry)
end Fb
namespace Fm
open Flags
end Fm
end
section
set_option maxRecDepth 100000
namespace Fb
open Flags (Bytes cutAt)
end Fb
end
section
set_option maxRecDepth 100000
namespace Fb
open Flags (Bytes Entry Act)
abbrev TB:=List Nat×Bytes
end Fb
end
section
set_option maxRecDepth 100000
namespace Fb
open Flags (Bytes Entry Act)
end Fb
end
section
set_option maxRecDepth 100000
namespace Fb
open Flags (Bytes Row Entry Act Book rowBefore betweenFrom)
end Fb
end
section
namespace Fb
open Flags
end Fb
end
section
namespace Fb
open PySem
def top (i:Nat):Stmt:=Du.main.body.getD i (.Pass ⟨0,0,0,0⟩)
abbrev Rl:Stmt:=top 1
abbrev RU:Stmt:=top 2
abbrev RV:Stmt:=top 3
abbrev RQ:Stmt:=top 4
abbrev Rm:Stmt:=top 10
abbrev R5:Stmt:=top 11
abbrev Rb:Stmt:=top 12
abbrev Ra:Stmt:=top 13
abbrev Rc:Stmt:=top 14
abbrev Rq:Stmt:=top 15
abbrev RT:Stmt:=top 16
abbrev RS:Stmt:=top 17
abbrev RK:Stmt:=top 30
abbrev RJ:Stmt:=top 31
abbrev RZ:Stmt:=top 32
abbrev R0:Stmt:=top 33
abbrev Ro:Stmt:=top 34
abbrev Rg:Stmt:=top 35
abbrev Rh:Stmt:=top 36
abbrev RW:Stmt:=top 37
abbrev R3:Stmt:=top 38
abbrev Rv:Stmt:=top 39
abbrev Rf:Stmt:=top 40
abbrev Rz:Stmt:=top 41
abbrev R6:Stmt:=top 42
abbrev R7:Stmt:=top 43
abbrev Rw:Stmt:=top 45
abbrev Rt:Stmt:=top 46
abbrev Rr:Stmt:=top 49
abbrev RL:Stmt:=top 62
abbrev RM:Stmt:=top 63
abbrev R4:Stmt:=top 64
abbrev R1:Stmt:=top 65
abbrev Rn:Stmt:=top 66
abbrev Rk:Stmt:=top 67
abbrev Rj:Stmt:=top 68
abbrev RR:Stmt:=top 69
abbrev RX:Stmt:=top 70
abbrev RY:Stmt:=top 71
abbrev Ri:Stmt:=top 72
abbrev RP:Stmt:=top 73
abbrev R8:Stmt:=top 74
abbrev Rx:Stmt:=top 76
abbrev RN:Stmt:=top 84
abbrev Ry:Stmt:=top 85
abbrev Ru:Stmt:=top 86
abbrev Rp:Stmt:=top 87
end Fb
end
section
set_option maxRecDepth 100000
set_option maxHeartbeats 4000000
namespace Fb
open PySem PySem.Spec PyProof.Rows L2
open PySem.W (Codec)
def Has (P:Program) (w:World) (K:AA) (mg:Str→Option Value) (x:Str) (k:Nat) (ps:List Str) (sp:Sp):Prop :=
 ∃(f:Addr) (fd:FuncData),mg x=some (.ref f)∧FX K (.ref f)=true∧Binds K fd ps []∧∀base:Heap,FnOk P w K mg base CX0 k f fd ps sp
structure Def (K:AA) (mg:Str→Option Value) (x nm qual:Str) (st:Stmt) (ps:List Str) (f:Addr) (fd:FuncData):Prop where
 fn:Fun K nm qual st f fd
 at_:mg x=some (.ref f)
 bd:Binds K fd ps []
section
variable {P:Program}{w:World}{K:AA}{mg:Str→Option Value}
theorem Def.has {x nm qual:Str}{st:Stmt}{ps:List Str}{f:Addr}{fd:FuncData}{k:Nat}{sp:Sp} (D:Def K mg x nm qual st ps f fd) (h:∀base:Heap,FnOk P w K mg base CX0 k f fd ps sp):Has P w K mg x k ps sp :=
 ⟨f,fd,D.at_,D.fn.kp,D.bd,h⟩
end
theorem AN {X:Cx}{k:Nat}{ps:List Str}{sp:Sp}{x:Str}{p pos:Pos}{e:Expr}{es:List Expr}{t:TA} (h:Has X.prog X.w X.K X.mg x k ps sp) (hr:Room k X.A) (hg:Gl X x) (ha:PA X (e::es) t)
  (hdb:(x==("__debug__":Str))=false:=by decide) (he:starEach (e::es) X.env=(false,eval e X.env)::starEach es X.env:=by rfl) (hpl:(backTo pos (starEach es X.env)).any (·.1)=false:=by rfl):
  PE X (.Call (.Name x p) (e::es) [] pos) (JO sp [] E0 t):=by
 obtain⟨f,fd,h1,h2,h3,h4⟩:=h
 exact QD (h4 X.base) hr hg h1 h2 h3 .nil F2 ha hdb he hpl
theorem _root_.L2.Same.new {H H':Hp} (s:Same H H') {p:Addr}{o:HO} (h:H' p=none):Same H (upd H' p o):=fun b u e=>by
 rw[AE (Am (s b u e) h)]
 exact s b u e
theorem _root_.L2.Same.wr {H H':Hp} (s:Same H H') {p:Addr}{o:HO} (h:H p=none):Same H (upd H' p o):=fun b u e=>by
 rw[AE (Am e h)]
 exact s b u e
theorem Br {n:Nat} (h:n < 1000000):n < sizeLine:=BV h (by decide)
theorem CH {n:Nat} (h:n < 1000000):n≤sizeLine:=Hl (Br h)
theorem HG {α β:Type}{F:α→β→Prop}:∀{l₁:List α}{l₂:List β}{a:α}{b:β},Paired F l₁ l₂→F a b→Paired F (l₁++[a]) (l₂++[b])
 | _,_,_,_,.nil,h=>.cons h .nil
 | _,_,_,_,.cons r t,h=>.cons r (HG t h)
theorem CT {α β:Type}{F:α→β→Prop}:∀{l₁:List α}{l₂:List β},Paired F l₁ l₂→l₁.length=l₂.length
 | _,_,.nil=>rfl
 | _,_,.cons _ t=>congrArg (·+1) (CT t)
theorem LU {α β:Type}{F:α→β→Prop}:∀{l₁:List α}{l₂:List β}{a:α},Paired F l₁ l₂→a∈l₁→∃b,b∈l₂∧F a b
 | _,_,_,.nil,h=>by cases h
 | _,_,a,.cons r t,h=>by
  rcases AS.mp h with e | h
  ·subst e;exact⟨_,AU,r⟩
  ·obtain⟨b,hb,q⟩:=LU t h
   exact⟨b,As _ hb,q⟩
theorem HF {α β:Type}{F G:α→β→Prop}:∀{l₁:List α}{l₂:List β},Paired F l₁ l₂→(∀a b,a∈l₁→F a b→G a b)→Paired G l₁ l₂
 | _,_,.nil,_=>.nil
 | _,_,.cons r t,f=>.cons (f _ _ AU r) (HF t fun a b m=>f a b (As _ m))
theorem JQ {α:Type}:∀{l:List α}{i:Nat}{x:α},l[i]?=some x→l.take (i+1)=l.take i++[x]
 | [],i,x,h=>by simp at h
 | a::l,0,x,h=>by
  have e:a=x:=Ae h
  subst e
  rfl
 | a::l,i+1,x,h=>by
  have ih:=JQ (l:=l) (i:=i) (x:=x) h
  show a::l.take (i+1)=a::l.take i++[x]
  rw[ih]
  rfl
theorem EO {ns:List Int}{i:Nat}{y:V} (h:(ns.map V.int)[i]?=some y):∃z,ns[i]?=some z∧y=V.int z:=by
 rw[Aj] at h
 cases e:ns[i]? with
 | none=>rw[e] at h;cases h
 | some z=>rw[e] at h;exact⟨z,rfl,(Ae h).symm⟩
abbrev RB:Stmt:=R5
def EC (K:AA):Sp:=fun vs H Q _=>∃(a:Addr) (m:Int) (ns:List Int),vs=[.int m,.ref a]∧SqL K H a (ns.map V.int)∧ns.length < 100000∧
 ∀(H':Hp) (p:Addr) (as:List Addr),Same H H'→H p=none→(∀b∈as,H b=none)→H' p=some (.lst (as.map V.ref))→Paired (fun a ps=>H' a=some (.lst (ps.map V.int))) as (Af m ns)→Q (.ref p) H'
theorem scSplit:AY ["mark","values","parts","part","value"] ["mark","values"] (AK RB):=⟨rfl,rfl,rfl,by decide +kernel,rfl,by decide +kernel,by decide +kernel⟩
section
variable {P:Program}{w:World}{K:AA}{mg:Str→Option Value}{base:Heap}
theorem ok_split {f:Addr}{fd:FuncData} (F:Fun K "split_at" "split_at" RB f fd):FnOk P w K mg base CX0 1 f fd ["mark","values"] (EC K):=by
 refine F.ok scSplit (fun vs H Q E h=>?_) (fun cdv A outer s H vs Q E hr h=>?_)
 ·obtain⟨a,m,ns,rfl,_⟩:=h
  rfl
 ·obtain⟨a,m,ns,rfl,hS,hlen,k⟩:=h
  refine⟨_,AJ (BB (i:=2) scSplit.nd rfl (AZ rfl) (A8 AD)) (AJ (BB (i:=3) scSplit.nd rfl (AZ rfl) (A8 AD))
   (AJ (FA FV rfl (D7 (pv 1)) (Bs (i:=4) scSplit.nd rfl (AZ rfl))
    (AH (Al (Ac BY (pv 4) (pv 0) (AR _))
     (AJ (E9 (EZ Em Ge Gf Fy (pv 2) (AB (pv 3) AD))) (AH (BB (i:=3) scSplit.nd rfl (AZ rfl) (A8 AD))))
     (AH (E9 (EZ Em Ge Gf Fy (pv 3) (AB (pv 4) AD)))))))
   (AJ (E9 (EZ Em Ge Gf Fy (pv 2) (AB (pv 3) AD)))
   (AH (AL (pv 2)))))),?_⟩
  refine⟨A5 _,fun ap nap=>⟨A5 _,fun q nq=>?_⟩⟩
  have s1:Same H (upd (upd H ap (.lst [])) q (.lst [])):=(Same.new (Same.refl H) nap).new nq
  have nq0:H q=none:=(Same.new (Same.refl H) nap).free nq
  have apq:ap≠q:=Am AI nq
  refine⟨_,rfl,a,rfl,⟨_,s1.seq hS⟩,Od (K:=K) (a:=a) (xs:=ns.map V.int)
   (fun i σ H'=>∃(v:Option V) (q:Addr) (as:List Addr) (done:List (List Int)) (p:List Int),σ=[some (.int m),some (.ref a),some (.ref ap),some (.ref q),v]∧Af m (ns.take i)=done++[p]∧H q=none∧ap≠q∧ap∉as∧q∉as∧(∀b∈as,H b=none)∧
    H' ap=some (.lst (as.map V.ref))∧H' q=some (.lst (p.map V.int))∧Paired (fun a ps=>H' a=some (.lst (ps.map V.int))) as done∧Same H H')
   ⟨none,q,[],[],[],rfl,rfl,nq0,apq,by simp,by simp,by simp,by rw[AE apq];exact AI,AI,.nil,s1⟩ (fun i σ H' _ ⟨_,_,_,_,_,_,_,_,_,_,_,_,_,_,_,s5⟩=>s5.seq hS) ?_ ?_⟩
  ·rintro i y σ H' hi ⟨v,q,as,done,p,rfl,hc,nq,hpq,hpas,hqas,fas,hap,hq,hpa,s2⟩
   obtain⟨z,hz,rfl⟩:=EO hi
   have hlt:i < ns.length:=(Bd.mp hz).1
   have ht:(ns.take i).length=i:=by rw[EE];omega
   have hcl:=Fl m (ns.take i)
   rw[hc,ht] at hcl
   have hpl:=D5 m (ns.take i) p (by rw[hc];simp)
   rw[ht] at hpl
   have hal:=CT hpa
   have hcs:=II m z _ _ _ hc
   rw[← JQ hz] at hcs
   refine⟨_,rfl,_,rfl,rfl,_,rfl,?_⟩
   refine ES (fun hz0=>?_) (fun hz0=>?_)
   ·have ezm:z=m:=by simpa using hz0
    rw[if_pos ezm] at hcs
    refine⟨_,rfl,.inl ⟨rfl,_,SqL.of hap⟩,_,rfl,ap,_,_,rfl,rfl,hap,Br (by simp at hcl ⊢;omega),?_⟩
    refine⟨A5 _,fun q' nq'=>?_⟩
    have hq1:upd H' ap (.lst (as.map V.ref++[V.ref q])) q=some (.lst (p.map V.int)):=by rw[AE (An hpq)];exact hq
    have apn:ap≠q':=Am AI nq'
    have nqq:q≠q':=Am hq1 nq'
    have s3:Same H (upd H' ap (.lst (as.map V.ref++[V.ref q]))):=s2.wr nap
    refine⟨some (.int z),q',as++[q],done++[p],[],rfl,hcs,s3.free nq',apn,?_,?_,?_,?_,AI,?_,s3.new nq'⟩
    ·simp;exact⟨hpas,hpq⟩
    ·intro hm
     rcases C8.mp hm with hm | hm
     ·obtain⟨ps,_,e⟩:=LU hpa hm
      have:q'≠ap:=An apn
      rw[AE this,e] at nq'
      cases nq'
     ·simp at hm;exact nqq hm.symm
    ·intro b hb
     rcases C8.mp hb with hb | hb
     ·exact fas b hb
     ·simp at hb;subst hb;exact nq
    ·rw[AE apn,AI,CU];rfl
    ·refine HG (HF hpa fun b ps hb e=>?_) ?_
     ·have b1:b≠ap:=fun z=>hpas (z▸hb)
      have b2:b≠q':=by
       intro z
       rw[← z,AE b1,e] at nq'
       cases nq'
      rw[AE b2,AE b1];exact e
     ·show upd _ _ _ q=_
      rw[AE nqq];exact hq1
   ·have ezm:¬z=m:=by simpa using hz0
    rw[if_neg ezm] at hcs
    refine⟨_,rfl,.inl ⟨rfl,_,SqL.of hq⟩,_,rfl,q,_,_,rfl,rfl,hq,Br (by rw[AG];omega),?_⟩
    refine⟨some (.int z),q,as,done,p++[z],rfl,hcs,nq,hpq,hpas,hqas,fas,?_,?_,?_,s2.wr nq⟩
    ·rw[AE hpq];exact hap
    ·rw[AI,CU];rfl
    ·refine HF hpa fun b ps hb e=>?_
     have b1:b≠q:=fun z=>hqas (z▸hb)
     rw[AE b1];exact e
  ·rintro σ H' ⟨v,q,as,done,p,rfl,hc,nq,hpq,hpas,hqas,fas,hap,hq,hpa,s2⟩
   rw[AG,Jk] at hc
   have hcl:=Fl m ns
   rw[hc] at hcl
   have hal:=CT hpa
   refine⟨_,rfl,.inl ⟨rfl,_,SqL.of hap⟩,_,rfl,ap,_,_,rfl,rfl,hap,Br (by simp at hcl ⊢;omega),?_⟩
   refine⟨_,rfl,k _ ap (as++[q]) (s2.wr nap) nap ?_ ?_ ?_⟩
   ·intro b hb
    rcases C8.mp hb with hb | hb
    ·exact fas b hb
    ·simp at hb;subst hb;exact nq
   ·rw[AI,CU];rfl
   ·rw[hc]
    refine HG (HF hpa fun b ps hb e=>?_) ?_
    ·have b1:b≠ap:=fun z=>hpas (z▸hb)
     rw[AE b1];exact e
    ·rw[AE (An hpq)];exact hq
end
end Fb
end
section
set_option maxRecDepth 100000
set_option maxHeartbeats 4000000
namespace Fb
open PySem PySem.Spec PyProof.Rows L2
open PySem.W (Codec)
theorem K6 {J:It}{n:Nat}{g:TG}{tt:TT}{te:TE}{vs:List Nat}{σ:L2.St}{H1:Hp}{D:Addr}{Qd:Hp→Prop} (Pv:Nat→Hp→Prop) (h0:Pv 0 (upd H1 D (.lst [])))
  (hgo:∀i H,i < n→Pv i H→J.go i H) (hst:∀H,Pv n H→J.stop n H)
  (hs:∀i x H H',i < n→Pv i H→J.yld i H x H'→g x (BC σ vs) H' fun σ2 H2=>BC σ2 vs=BC σ vs∧tt σ2 H2 fun b H3 =>
   if b=true then te σ2 H3 fun y H4=>∃acc,H4 D=some (.lst acc)∧acc.length < sizeLine∧Pv (i+1) (upd H4 D (.lst (acc++[y]))) else Pv (i+1) H3) (hd:∀H,Pv n H→Qd H):
  ∃W:Nat→Nat→Hp→Prop,(∃m,W 0 m (upd H1 D (.lst [])))∧∀i m H,W i m H→
   (J.stop i H∧Qd H)∨(J.go i H∧∃Nx:Hp→Prop,(∀H',Nx H'→∃m',m' < m∧W (i+1) m' H')∧∀x H',J.yld i H x H'→g x (BC σ vs) H' fun σ2 H2=>BC σ2 vs=BC σ vs∧tt σ2 H2 fun b H3 =>
    if b=true then te σ2 H3 fun y H4=>∃acc,H4 D=some (.lst acc)∧acc.length < sizeLine∧Nx (upd H4 D (.lst (acc++[y]))) else Nx H3):=by
 refine⟨fun i m H=>i+m=n∧Pv i H,⟨n,by omega,h0⟩,fun i m H ⟨e,p⟩=>?_⟩
 by_cases hi:i < n
 ·refine .inr ⟨hgo i H hi p,Pv (i+1),fun H' q=>⟨m - 1,by omega,by omega,q⟩,fun x H' y=>hs i x H H' hi p y⟩
 ·have:i=n:=by omega
  subst this
  exact .inl ⟨hst H p,hd H p⟩
theorem Gz {J:It}{n:Nat}{g:TG}{tb:TS}{D:Es}{σ:L2.St}{H:Hp} (Pv:Nat→L2.St→Hp→Prop) (h0:Pv 0 σ H)
  (hgo:∀i σ H,i < n→Pv i σ H→J.go i H) (hst:∀σ H,Pv n σ H→J.stop n H)
  (hs:∀i x σ H H',i < n→Pv i σ H→J.yld i H x H'→g x σ H' fun σ2 H2=>tb { D with nx:=Pv (i+1),ct:=Pv (i+1),bk:=D.nx } σ2 H2) (hd:∀σ H,Pv n σ H→D.nx σ H):
  ∃W:Nat→Nat→L2.St→Hp→Prop,(∃m,W 0 m σ H)∧∀i m σ H,W i m σ H→
   (J.stop i H∧D.nx σ H)∨(J.go i H∧∃N:L2.St→Hp→Prop,(∀σ' H',N σ' H'→∃m',m' < m∧W (i+1) m' σ' H')∧∀x H',J.yld i H x H'→g x σ H' fun σ2 H2=>tb { D with nx:=N,ct:=N,bk:=D.nx } σ2 H2):=by
 refine⟨fun i m σ H=>i+m=n∧Pv i σ H,⟨n,by omega,h0⟩,fun i m σ H ⟨e,p⟩=>?_⟩
 by_cases hi:i < n
 ·refine .inr ⟨hgo i σ H hi p,Pv (i+1),fun σ' H' q=>⟨m - 1,by omega,by omega,q⟩,fun x H' y=>hs i x σ H H' hi p y⟩
 ·have:i=n:=by omega
  subst this
  exact .inl ⟨hst σ H p,hd σ H p⟩
theorem EU {J:It}{n:Nat}{g:TG}{te:TE}{vs:List Nat}{σ:L2.St}{H1:Hp}{D:Addr}{Qd:Hp→Prop} (ys:List V) (hn:ys.length=n) (hsz:n < sizeLine) (hD:H1 D=none)
  (hgo:∀i H,i < n→Same H1 H→J.go i H) (hst:∀H,Same H1 H→J.stop n H)
  (hs:∀i x y H H',ys[i]?=some y→Same H1 H→J.yld i H x H'→∀R:VK,(∀H4,Same H H4→R y H4)→g x (BC σ vs) H' fun σ2 H2=>BC σ2 vs=BC σ vs∧te σ2 H2 R) (hd:∀H,Same H1 H→H D=some (.lst ys)→Qd H):
  ∃W:Nat→Nat→Hp→Prop,(∃m,W 0 m (upd H1 D (.lst [])))∧∀i m H,W i m H→
   (J.stop i H∧Qd H)∨(J.go i H∧∃Nx:Hp→Prop,(∀H',Nx H'→∃m',m' < m∧W (i+1) m' H')∧∀x H',J.yld i H x H'→g x (BC σ vs) H' fun σ2 H2=>BC σ2 vs=BC σ vs∧FD σ2 H2 fun b H3 =>
    if b=true then te σ2 H3 fun y H4=>∃acc,H4 D=some (.lst acc)∧acc.length < sizeLine∧Nx (upd H4 D (.lst (acc++[y]))) else Nx H3):=by
 refine K6 (n:=n) (tt:=FD) (te:=te) (fun i H=>Same H1 H∧H D=some (.lst (ys.take i))) ⟨(Same.refl H1).new hD,AI⟩ (fun i H hi p=>hgo i H hi p.1) (fun H p=>hst H p.1) (fun i x H H' hi p y=>?_) (fun H p=>hd H p.1 ?_)
 ·obtain⟨z,hz⟩:∃z,ys[i]?=some z:=⟨_,BD (by omega)⟩
  have q:=hs i x z H H' hz p.1 y (fun y H4=>∃acc,H4 D=some (.lst acc)∧acc.length < sizeLine∧(Same H1 (upd H4 D (.lst (acc++[y])))∧upd H4 D (.lst (acc++[y])) D=some (.lst (ys.take (i+1))))) fun H4 s4=>?_
  ·have e2:(fun σ2 H2=>BC σ2 vs=BC σ vs∧FD σ2 H2 fun b H3=>if b=true then te σ2 H3 fun y H4=>∃acc,H4 D=some (.lst acc)∧acc.length < sizeLine∧(Same H1 (upd H4 D (.lst (acc++[y])))∧upd H4 D (.lst (acc++[y])) D=some (.lst (ys.take (i+1)))) else (Same H1 H3∧H3 D=some (.lst (ys.take (i+1)))))=
     fun σ2 H2=>BC σ2 vs=BC σ vs∧te σ2 H2 fun y H4=>∃acc,H4 D=some (.lst acc)∧acc.length < sizeLine∧(Same H1 (upd H4 D (.lst (acc++[y])))∧upd H4 D (.lst (acc++[y])) D=some (.lst (ys.take (i+1)))):=by
    funext σ2 H2
    simp only[FD,if_true]
   rw[e2]
   exact q
  ·refine⟨_,s4 _ _ p.2,by rw[EE];omega,(p.1.trans s4).wr hD,?_⟩
   rw[AI,JQ hz]
 ·have:=p.2
  rw[← hn,Jk] at this
  exact this
theorem E3 {K:AA}{a:Addr}{xs:List V}{i:Nat}{H:Hp} (h:SqL K H a xs) (hi:i < xs.length):(Itl K a).go i H:=by
 first | exact⟨xs,_,h,BD hi⟩ | exact⟨xs,h,hi⟩
theorem E4 {K:AA}{a:Addr}{xs:List V}{H:Hp} (h:SqL K H a xs):(Itl K a).stop xs.length H:=⟨xs,h,AV _⟩
end Fb
end
section
set_option maxRecDepth 100000
set_option maxHeartbeats 4000000
namespace Fb
open PySem PySem.Spec PyProof.Rows L2
open PySem.AutoSeq1 (wpAny_loadPart')
theorem N8 (k:Int):∀{ns:List Int}{us:List Value},Vals (ns.map V.int) us→us.countP (eqU (.int k))=ns.count k
 | [],_,r=>by rw[FQ] at r;cases r;rfl
 | n::ns,_,r=>by
  rw[Au] at r
  cases r with
  | cons h t =>
   rw[List.countP_cons,List.count_cons,N8 k t,Gx h rfl]
   rfl
theorem W4 {X:Cx}:MtR X "list.count" (fun x xs H Q=>∃(a:Addr) (ns:List Int) (k:Int),x=.ref a∧xs=[.int k]∧SqL X.K H a (ns.map V.int)∧Q (.int (ns.count k:Nat)) H):=by
 intro pins s σ H x xs v us Q I rx rxs h
 obtain⟨a,ns,k,rfl,rfl,hs,q⟩:=h
 cases rx
 obtain⟨uy,rfl,ry⟩:=HU rxs
 obtain⟨its,rv,⟨⟨cls,dd,data,sl⟩,n,ho,hc,hdn,hd⟩,hlen⟩:=I.list hs
 simp only at hc hd
 subst hc hd
 refine KC UO ⟨_,ho,rfl⟩ PySem.F.entry_list_count (PySem.F.args_list_count_2 _ _)
  (SeqAt.list_countAt a its.toArray n dd sl uy (eqU (.int k))) ⟨ho,fun u' hu'=>HB ry rfl rv (by simp[CQ]) u' (by simpa using hu'),?_⟩
 rw[show its.toArray.toList=its from rfl,N8 k rv]
 exact⟨.int (ns.count k:Nat),H,I.tok _,⟨_,rfl⟩,q⟩
theorem WE (l b:Addr) (U W:Array Value) (n n2:Nat) (e1 e2:Option Addr) (c1 c2:Array (Option Value)) (ns ms:List Int) (hi:IntsAre U.toList ns) (hj:IntsAre W.toList ms) (k:Nat):
  ∀i:Nat,U.size - i=k→i≤U.size→i≤W.size→Meets (Builtin.«list.__eq__.loop» ⟨[.ref l,.ref b,rawInt i,rawInt 4],[]⟩)
   (fun A R s=>s.heap.get? l=some { cls:=.type "list",dict:=e1,data:=.seq U n,slots:=c1 }∧s.heap.get? b=some { cls:=.type "list",dict:=e2,data:=.seq W n2,slots:=c2 }∧
    R (.ok (.ret (.bool (HT.lexLt (ms.drop i) (ns.drop i))))) s):=by
 have z1:U.size=ns.length:=by rw[← hi.length];simp
 have z2:W.size=ms.length:=by rw[← hj.length];simp
 induction k with
 | zero =>
  intro i hk hiU hiW prog w A R s h
  obtain⟨hp,g,d,tk,os⟩:=s
  obtain⟨hl,hb,h⟩:=h
  wp_walk using Bv hl,Bv hb
  have q1:U[((i:Nat):Int).toNat]?=none:=by simp;omega
  have q2:ns.drop i=[]:=by apply Hd;omega
  rw[q2] at h
  rw[q1]
  have e:HT.lexLt (ms.drop i) []=false:=by cases ms.drop i <;> rfl
  rw[e] at h
  have q3:decide (U.size > W.size)=false:=decide_eq_false (by omega)
  split
  ·rename_i heq;cases heq
  ·wp_walk using Bv hl,Bv hb
   show R (.ok (.ret (.bool (decide (U.size > W.size))))) _
   rw[q3];exact h
 | succ k ih =>
  intro i hk hiU hiW prog w A R s h
  obtain⟨hp,g,d,tk,os⟩:=s
  obtain⟨hl,hb,h⟩:=h
  have l1:i < U.size:=by omega
  have q1:U[((i:Nat):Int).toNat]?=some U[i]:=by simp[l1]
  have d1:ns.drop i=ns[i]'(by omega)::ns.drop (i+1):=Hc (by omega)
  have hc:((i:Int)+1)=((i+1:Nat):Int):=by omega
  obtain⟨a,t,ua,ha⟩:=PyProof.Rows.IntsAre.at hi i U[i] (by simp[l1])
  have ha':ns[i]'(by omega)=a:=by
   have q:=ha
   rw[BD (by omega)] at q
   exact Ae q
  by_cases l2:i < W.size
  ·have q2:W[((i:Nat):Int).toNat]?=some W[i]:=by simp[l2]
   obtain⟨c,u,uc,hcm⟩:=PyProof.Rows.IntsAre.at hj i W[i] (by simp[l2])
   have hc':ms[i]'(by omega)=c:=by
    have q:=hcm
    rw[BD (by omega)] at q
    exact Ae q
   have d2:ms.drop i=ms[i]'(by omega)::ms.drop (i+1):=Hc (by omega)
   rw[d1,d2,HT.lexLt_cons,ha',hc'] at h
   wp_walk using Bv hl,Bv hb
   rw[q1,q2,ua,uc]
   obtain⟨e,he,hiff⟩:=HT.eqAt_int A.in1 ⟨hp,g,d,tk,os⟩ a t c u
   refine AF (he prog w _ _ ?_)
   cases e with
   | true =>
    rw[if_pos (hiff.mp rfl).symm] at h
    wp_walk
    rw[hc]
    exact⟨plainId_quiet J5 _,Uj UT (by
     rw[T6 J5 _]
     exact ih (i+1) (by omega) (by omega) (by omega) prog w A R _ ⟨hl,hb,h⟩)⟩
   | false =>
    rw[if_neg (fun q=>absurd (hiff.mpr q.symm) Ag)] at h
    have hri:∀(E:Value→Shared→Prop) (Q:Value→Shared→Prop),Q (.bool (decide (c < a))) ⟨hp,g,d,tk,os⟩→wpAny (model prog w) A.in1 (richCompare .Gt (.int a t) (.int c u)) Q E ⟨hp,g,d,tk,os⟩:=fun E Q z =>
     (T4 z:wpAny (model prog w) A.in1 (compareOp .Gt (.int a t) (.int c u)) Q E _)
    wp_walk using Bv hl,Bv hb
    rw[q1,q2,ua,uc]
    wp_walk using hri
    exact h
  ·have q2:W[((i:Nat):Int).toNat]?=none:=by simp;omega
   have d2:ms.drop i=[]:=Hd (by omega)
   rw[d1,d2,HT.lexLt_nil_cons] at h
   wp_walk using Bv hl,Bv hb
   rw[q1,q2]
   have q3:decide (U.size > W.size)=true:=decide_eq_true (by omega)
   wp_walk using Bv hl,Bv hb
   show R (.ok (.ret (.bool (decide (U.size > W.size))))) _
   rw[q3];exact h
theorem Wq (l b:Addr) (U W:Array Value) (n n2:Nat) (e1 e2:Option Addr) (c1 c2:Array (Option Value)) (ns ms:List Int) (hi:IntsAre U.toList ns) (hj:IntsAre W.toList ms):
  Meets (Builtin.«list.__gt__» ⟨[.ref l,.ref b],[]⟩)
   (fun A R s=>s.heap.get? l=some { cls:=.type "list",dict:=e1,data:=.seq U n,slots:=c1 }∧s.heap.get? b=some { cls:=.type "list",dict:=e2,data:=.seq W n2,slots:=c2 }∧
    R (.ok (.ret (.bool (HT.lexLt ms ns)))) s):=by
 intro prog w A R s h
 obtain⟨hp,g,d,tk,os⟩:=s
 obtain⟨hl,hb,h⟩:=h
 have f3:=AutoSeq1.sub_list_list
 wp_walk using Bv hl,Bv hb
 exact⟨plainId_quiet J5 _,Uj UT (by
  rw[T6 J5 _]
  exact WE l b U W n n2 e1 e2 c1 c2 ns ms hi hj _ 0 rfl (A5 _) (A5 _) prog w A R _ ⟨hl,hb,h⟩)⟩
theorem Nz {X:Cx}:Dy X (.builtin "len") (fun xs H Q=>∃a kvs,xs=[V.ref a]∧H a=some (.dT kvs)∧Q (.int kvs.length) H):=by
 intro pins s σ H xs us Q I r h
 obtain⟨a,kvs,rfl,ha,q⟩:=h
 obtain⟨u,rfl,ru⟩:=HU r
 cases ru
 obtain⟨z,hd,xs,rel,o,es,ep,ho,hc,hdat,hk,_⟩:=OK I.hok ha
 have hl:es.size=kvs.length:=by
  rw[← JT,hk,AG]
  exact(CT rel).symm
 have ty:s.TypeIs (.ref a) "dict":=⟨o,ho,hc.1⟩
 refine Calls.call_function_entry kind_len plain_len entry_len (args_len1 _) ?_
 unfold Builtin.«len»
 refine AF (m:=oneArg "len" _) (AQ ?_)
 refine AF (m:=callSpecial? (.ref a) (Dv "__len__")) (Gi (name:=Dv "__len__") ty UN
  (Hr UN ty F.entry_dict_len (F.args_dict_len_1 _) (S:=fun _ R s'=>s'=s∧R (.ok (.ret (.int kvs.length s.toks))) { s with toks:=s.toks+1 }) (.of_wp fun A R s' ⟨e,h⟩=>?_) ⟨rfl,?_⟩))
 ·subst e
  show wpAny _ _ (dictSize a >>= _) _ _ s'
  unfold dictSize
  refine AF (AF (KH ho hdat (AQ ?_)))
  show wpAny _ _ (Builtin.Dict.pendingCount a >>= _) _ _ s'
  refine AF (wpAny_pendingCount_other hd (wpAny_ret_mkInt ?_))
  rw[Nat.add_zero,hl];exact h
 ·show wpAny _ _ _ _ _ { s with toks:=s.toks+1 }
  refine AF (NW (AQ (AF (wpAny_letGo ?_))))
  have hz:(kvs.length:Int) < 2 ^ 63:=by rw[KG] at z;omega
  show wpAny _ _ (if ((kvs.length:Nat):Int) < 0 then _ else _) _ _ _
  rw[if_neg (by omega)]
  show wpAny _ _ (if ((kvs.length:Nat):Int) ≥ 2 ^ 63 then _ else _) _ _ _
  rw[if_neg (by omega)]
  exact AF (wpAny_mkInt (AQ ⟨_,rfl,⟨.int kvs.length,H,(I.tok _).tok _,⟨_,rfl⟩,q⟩⟩))
end Fb
end
section
set_option maxRecDepth 100000
set_option maxHeartbeats 4000000
namespace Fb
open PySem PySem.Spec PyProof.Rows L2
open PySem.AutoSeq1 (wpAny_loadPart')
section
variable {prog:Program}{w:World}{A:Around}{E:Value→Shared→Prop}{s:Shared}
theorem XA {j t:Addr}{i:Nat}{us:Array Value}{x:Value}{Q:Value→Shared→Prop} (hj:s.heap.IsTupleIter j t i) (ht:s.heap.IsTuple t us) (hx:us[i]?=some x)
  (hQ:∀g,g.IsTupleIter j t (i+1)→Gg j s.heap g→Q x { s with heap:=g }):wpAny (model prog w) A (Jz (.ref j)) Q E s:=by
 obtain⟨o,p1,p2,p3⟩:=id hj
 obtain⟨ol,t1,_,nl,t2⟩:=ht
 unfold Jz
 refine AF (Gi (name:=Dv "__next__") hj.typeIs J3 (Fd J3 hj.typeIs UJ ?_ (UH _)))
 show wpAny _ _ (field (.ref j) 0 >>= _) _ _ s
 refine AF (Fe p1 p3 (x:=.ref t) rfl ?_)
 show wpAny _ _ (if (Az t==DA)=true then _ else _) _ _ s
 rw[if_neg (show ¬((Az t==DA)=true) by exact Ag)]
 show wpAny _ _ (field (.ref j) 1 >>= _) _ _ s
 refine AF (Fe p1 p3 (x:=.int i 0) rfl ?_)
 show wpAny _ _ (seqItems? (.ref t) >>= _) _ _ s
 refine AF (KJ t1 t2 ?_)
 simp only[FL,hx]
 refine AF (KL p1 p3 (by simp) (AQ ⟨x,rfl,AQ (hQ _ ?_ (J4 ..))⟩))
 exact⟨_,UR _ p1 (UW (J6 p3 _)),(UU ..).trans p2,by rw[J6 p3];simp[rawInt]⟩
theorem XB {j t:Addr}{i:Nat}{us:Array Value}{Q:Value→Shared→Prop} (hh:A.handled=none) (hj:s.heap.IsTupleIter j t i) (ht:s.heap.IsTuple t us) (hx:us[i]?=none)
  (hE:∀g e,Heap.ExtBut j s.heap g→(∃o,g.get? e=some o∧o.cls=.type "StopIteration")→E (.ref e) { s with heap:=g }):wpAny (model prog w) A (Jz (.ref j)) Q E s:=by
 obtain⟨o,p1,p2,p3⟩:=id hj
 obtain⟨ol,t1,_,nl,t2⟩:=ht
 unfold Jz
 refine AF (Gi (name:=Dv "__next__") hj.typeIs J3 (Fd J3 hj.typeIs UJ ?_ (UH _)))
 show wpAny _ _ (field (.ref j) 0 >>= _) _ _ s
 refine AF (Fe p1 p3 (x:=.ref t) rfl ?_)
 show wpAny _ _ (if (Az t==DA)=true then _ else _) _ _ s
 rw[if_neg (show ¬((Az t==DA)=true) by exact Ag)]
 show wpAny _ _ (field (.ref j) 1 >>= _) _ _ s
 refine AF (Fe p1 p3 (x:=.int i 0) rfl ?_)
 show wpAny _ _ (seqItems? (.ref t) >>= _) _ _ s
 refine AF (KJ t1 t2 ?_)
 simp only[FL,hx]
 refine AF (wpAny_rule (AF (KL p1 p3 (by simp) ?_)))
 show wpAny _ _ (newExc (.type "StopIteration") [] >>= _) _ _ _
 refine AF ?_
 simp only[newExc,newTuple]
 refine AF (Gj ?_ (by size_fits))
 refine AF (m:=firstArgMember _ _) (NY (a:=DA) (by first | rfl | (simp only[firstArgMember] <;> rfl)) ?_)
 refine Gj ?_ (by size_fits)
 simp only[raiseNew]
 refine AF (wpAny_handled ?_)
 first | rw[show A.in1.handled=none by exact hh] | rw[hh]
 refine AF (AQ (wpAny_throw ?_))
 exact hE _ _ (((J4 ..).extBut.push _).push _) ⟨_,BQ _ rfl,rfl⟩
theorem OJ (hh:A.handled=none) (j t:Addr) (hne:t≠j) (us:Array Value):Draws prog w A j [j,t] us.size (fun i v=>us[i]?=some v) (fun i h=>h.IsTupleIter j t i∧h.IsTuple t us) where
 live:=fun i h ⟨⟨o,e,_⟩,_⟩=>⟨o,e⟩
 frame:=fun i h h' st k=>⟨st.1.at fun o e=>k j (by simp) o e,st.2.at fun o e=>k t (by simp) o e⟩
 item:=fun i s Q E hi st hQ=>XA st.1 st.2 (x:=us[i]) (by simp[hi]) fun g g1 g2=>hQ _ g s.toks (by simp[hi]) ⟨g1,st.2.extBut g2.extBut hne⟩ g2
 done:=fun s Q E st hE=>XB hh st.1 st.2 (by simp) fun g e g1 g2=>hE g e g1 g2
theorem V1 (l:Addr) (us:Array Value) (n:Nat) (dct:Option Addr) (sl:Array (Option Value)):
  Meets (Builtin.«enumerate.__new__» ⟨[.type "enumerate",.ref l],[]⟩) (fun _ R s=>s.heap.get? l=some { cls:=.type "tuple",dict:=dct,data:=.seq us n,slots:=sl }∧
   R (.ok (.ret (.ref (s.heap.push { cls:=.type "tuple_iterator",data:=.fields #[.ref l,.int 0 0] }).objs.size)))
    { s with heap:=(s.heap.push { cls:=.type "tuple_iterator",data:=.fields #[.ref l,.int 0 0] }).push { cls:=.type "enumerate",data:=.fields #[.none,.bool false,.ref s.heap.objs.size,rawInt 0,.none,.none] } }) :=
 .of_wp fun prog w A R s h=>by
  obtain⟨hp,g,d,tk,os⟩:=s;obtain⟨t1,h⟩:=h
  have hsub:=sub_enumerate
  have t2:Heap.IsTuple (Shared.heap ⟨hp,g,d,tk,os⟩) l us:=⟨_,t1,rfl,n,rfl⟩
  wp_walk using Bv t1
  refine wpAny_stack_any fun st=>AQ ?_
  split
  ·rename_i c _ _ _ _ _
   cases (c==Dx "enumerate")
   ·wp_walk using Bv t1,NZ t2
    exact⟨_,rfl,h⟩
   ·wp_walk using Bv t1,NZ t2
    exact⟨_,rfl,h⟩
  ·wp_walk using Bv t1,NZ t2
   exact⟨_,rfl,h⟩
theorem VM {l:Addr}{us:Array Value}{Q:Value→Shared→Prop} (hL:s.heap.IsTuple l us)
  (h:∀h',IsEnum h' (s.heap.objs.size+1) s.heap.objs.size 0 .none→h'.IsTupleIter s.heap.objs.size l 0→h'.objs.size=s.heap.objs.size+2→(∀b o,s.heap.get? b=some o→h'.get? b=some o)→Q (.ref (s.heap.objs.size+1)) { s with heap:=h' }):
  wpAny (model prog w) A (call (.type "enumerate") [.ref l]) Q E s:=by
 obtain⟨⟨c,dct,dt,sl⟩,t1,t3,n,t4⟩:=hL
 replace t3:c=.type "tuple":=t3
 replace t4:dt=.seq us n:=t4
 subst t3 t4
 refine callType_new F.called_enumerate (by decide) (F.typeCall_enumerate_1 _) (F.newCall_enumerate_1 _) (fun obj=>F.args_object_init_2 obj _) F.entry_enumerate_new (V1 l us n dct sl) ⟨t1,?_⟩
 have hz:(s.heap.push { cls:=.type "tuple_iterator",data:=.fields #[.ref l,.int 0 0] }).objs.size=s.heap.objs.size+1:=Cq ..
 show _∧_
 rw[hz]
 have he:IsEnum ((s.heap.push { cls:=.type "tuple_iterator",data:=.fields #[.ref l,.int 0 0] }).push
   { cls:=.type "enumerate",data:=.fields #[.none,.bool false,.ref s.heap.objs.size,rawInt 0,.none,.none] }) (s.heap.objs.size+1) s.heap.objs.size 0 .none:=by
  have:=BQ (s.heap.push { cls:=.type "tuple_iterator",data:=.fields #[.ref l,.int 0 0] }) (o:={ cls:=.type "enumerate",data:=.fields #[.none,.bool false,.ref s.heap.objs.size,rawInt 0,.none,.none] }) rfl
  rw[hz] at this
  exact this
 exact⟨⟨_,he,rfl⟩,h _ he ⟨_,BE _ (BQ _ rfl),rfl,rfl⟩ (by rw[Cq,hz]) fun b o x=>BE _ (BE _ x)⟩
end
def Nd (K:AA) (a:Addr):It :=
 ⟨fun i H=>∃(xs:List V) (x:V),SqT K H a xs∧xs[i]?=some x,fun i H v H'=>∃T x,v=.ref T∧H T=none∧H'=upd H T (.tup [.int (i:Nat),x])∧∀xs,SqT K H a xs→xs[i]?=some x,fun i H=>∃xs:List V,SqT K H a xs∧xs.length=i⟩
theorem ZX {P:Program}{w:World}{K:AA}{elts:List Expr}{kk:Nat}{tpos:Pos} (a e it:Addr):
  De P w K (.Tuple elts kk tpos) (Nd K a) [e,it] e (fun i h=>(∃old,IsEnum h e it ((i:Nat):Int) old)∧h.IsTupleIter it a i∧e≠it∧a≠it∧e≠a) where
 mem:=by simp
 obj:=fun i h st b hb=>by
  obtain⟨⟨old,he⟩,⟨o,ho,hc,hd⟩,_⟩:=st
  have e':b=e∨b=it:=by simpa using hb
  rcases e' with z | z
  ·rw[z];exact⟨_,he,fun v q=>nomatch q⟩
  ·rw[z];exact⟨o,ho,fun v q=>by rw[hd] at q;cases q⟩
 keep:=fun i h h' st k=>let ⟨⟨old,he⟩,hi,hne⟩:=st;⟨⟨old,k e (by simp) _ he⟩,hi.at fun o q=>k it (by simp) o q,hne⟩
 item:=by
  intro X hP hw hK hc i pins s σ H E I hf st hg
  subst hP hw hK
  obtain⟨⟨old,he⟩,hit,hne,hai,hea⟩:=st
  obtain⟨xs,x,hq,hx⟩:=hg
  obtain⟨its,rv,p,hz⟩:=I.tuple hq
  obtain⟨u,hu,ru⟩:=rv.get hx
  have hel:e < s.heap.objs.size:=Ao he
  have hil:it < s.heap.objs.size:=by obtain⟨_,q,_⟩:=hit;exact Ao q
  have hlt:i < its.toArray.size:=by
   have:=(Bd.mp hu).1
   simpa using this
  refine wpAny_pyNext_enum_itemD (OJ (prog:=X.prog) (w:=X.w) (A:=X.A.in1) (show X.A.in1.handled=none from I.ok.hd hc) it a hai its.toArray) he ⟨hit,p⟩ hlt hne (by simp[hne,hea]) fun y h' tk hy ho hit' hT hsz hk=>?_
  have ey:y=u:=by
   have:its.toArray[i]?=some u:=by simpa using hu
   exact Ae (hy.symm.trans this)
  subst ey
  refine⟨_,rfl,Ut (s:={ s with heap:=h',toks:=tk+1 }) ho fun h'' he' sb=>?_⟩
  have hT2:h''.get? s.heap.objs.size=some { cls:=.type "tuple",data:=.seq #[.int i tk,y] }:=(sb.2 _ (Jr hel)).trans hT
  have new:ObjOk X.prog X.w (upd H s.heap.objs.size (.tup [.int (i:Nat),x])) h'' s.heap.objs.size (.tup [.int (i:Nat),x]) :=
   ⟨by show 2≤sizeLine;decide,[.int i tk,y],.cons ⟨_,rfl⟩ (.cons ru .nil),⟨_,hT2,rfl,_,rfl⟩⟩
  have I1:Inv X pins σ (upd H s.heap.objs.size (.tup [.int (i:Nat),x])) { s with heap:=h'',toks:=tk+1 } :=
   I.turnedNew (ch:=[e,it]) (fun b ob hb q=>(sb.2 b (fun z=>hb (by simp[z]))).trans (hk b ob (fun z=>hb (by simp[z])) (fun z=>hb (by simp[z])) q)) hf (AV _) new
  refine⟨.ref s.heap.objs.size,_,I1,rfl,⟨_,x,rfl,I.hok.fresh (AV _),rfl,fun ys hy=>by rw[I.tuple_inj hy hq];exact hx⟩,⟨⟨y,?_⟩,hit'.1.at fun o q=>(sb.2 it (An hne)).trans q,hne,hai,hea⟩,fun b hb=>?_⟩
  ·have e1:((i+1:Nat):Int)=(i:Int)+1:=by omega
   rw[e1];exact he'
  ·have hb':b < s.heap.objs.size:=by
    have e':b=e∨b=it:=by simpa using hb
    rcases e' with z | z
    ·rw[z];exact hel
    ·rw[z];exact hil
   rw[AE (BM hb')]
   exact(hf b hb).1
 done:=by
  intro X hP hw hK hc i pins s σ H E I hf st hg
  subst hP hw hK
  obtain⟨⟨old,he⟩,hit,hne,hai,hea⟩:=st
  obtain⟨xs,hq,hx⟩:=hg
  obtain⟨its,rv,p,hz⟩:=I.tuple hq
  obtain⟨f0,f1,f2,f3,f4,f5⟩:=hf it (by simp)
  have hl:=rv.length
  have ei:i=its.toArray.size:=by simp;omega
  exact wpAny_pyNext_enum_endD (OJ (prog:=X.prog) (w:=X.w) (A:=X.A.in1) (show X.A.in1.handled=none from I.ok.hd hc) it a hai its.toArray) he ⟨by rw[← ei];exact hit,p⟩ fun h' eb=>⟨rfl,I.turned (t':=s.toks) (fun b o hb q=>eb b o hb q) f0 f1 f3 f4 f5⟩
 self:=fun A i s Q E st h=>let ⟨⟨_,he⟩,_⟩:=st;KI he h
def WK (K:AA) (ta:TA):TI:=fun σ H R=>ta σ H fun vs H1=>∃a xs,vs=[.ref a]∧SqT K H1 a xs∧R (Nd K a) H1
theorem Xj {X:Cx}{e:Expr}{ta:TA}{p pos tpos:Pos}{elts:List Expr}{kk:Nat} (hg:Gl X "enumerate") (hm:X.mg "enumerate"=none) (ha:PA X [e] ta) (hs:starEach [e] X.env=[(false,eval e X.env)]:=by rfl):
  PI X (.Tuple elts kk tpos) (.Call (.Name "enumerate" p) [e] [] pos) (WK X.K ta):=by
 intro pins s σ H R I h
 refine Call_ (Fv I hg hm boot_enumerate (Hn (thn (ha pos pins s σ H _ I h) fun us s1 ⟨vs,H1,I1,r1,q1⟩=>?_) hs rfl))
 obtain⟨a,xs,ex,hq,q⟩:=q1
 subst ex
 cases r1 with
 | cons r rr =>
  cases rr
  cases r
  obtain⟨its,rv,p',hz⟩:=I1.tuple hq
  have al:a < s1.heap.objs.size:=by obtain⟨_,z,_⟩:=p';exact Ao z
  refine VM p' fun h' he hit hsz hk=>KI he ?_
  have I2:Inv X pins σ H1 { s1 with heap:=h' }:=I1.kept (t':=s1.toks) hk
  refine⟨s1.heap.objs.size+1,[s1.heap.objs.size+1,s1.heap.objs.size],_,_,H1,rfl,I2,ZX a (s1.heap.objs.size+1) s1.heap.objs.size,⟨⟨.none,he⟩,hit,Tx _,BM al,Jr (Jq al)⟩,fun b hb=>?_,q⟩
  have e':b=s1.heap.objs.size+1∨b=s1.heap.objs.size:=by simpa using hb
  have hle:s1.heap.objs.size≤b:=by
   rcases e' with z | z
   ·rw[z];exact Ms _ _
   ·rw[z];exact AV _
  exact I1.fpOk hle (I1.hok.fresh hle)
end Fb
end
section
set_option maxRecDepth 100000
set_option maxHeartbeats 4000000
namespace Fb
open PySem PySem.Spec PyProof.Rows L2
def Cst (mg:Str→Option Value) (x:Str) (v:V):Prop:=∃u,mg x=some u∧RelV v u
theorem AW {X:Cx}{x:Str}{v:V}{pos:Pos} (h:Cst X.mg x v) (hg:Gl X x) (hd:(x==("__debug__":Str))=false:=by decide):PE X (.Name x pos) (tC v):=by
 obtain⟨u,h1,h2⟩:=h
 exact Xc hg h1 h2 hd
structure Blt (mg:Str→Option Value):Prop where
 ord:mg "ord"=none
 len:mg "len"=none
 all:mg "all"=none
 any:mg "any"=none
 enumerate:mg "enumerate"=none
 reversed:mg "reversed"=none
 tuple:mg "tuple"=none
 range:mg "range"=none
def Fg (H:Hp) (Q:VK) (ns:List Int):Prop:=∀(H':Hp) (p:Addr),Same H H'→H p=none→H' p=some (.lst (ns.map V.int))→Q (.ref p) H'
abbrev Lk:Stmt:=Rm
def BJ (x:Str):List Int:=x.cps.toList.map fun (c:Nat)=>(c:Int)
def HP:Sp:=fun vs H Q _=>∃x:Str,vs=[.str x]∧x.cps.size < 1000∧Fg H Q (BJ x)
theorem scLetters:AY ["word","letter"] ["word"] (AK Lk):=⟨rfl,rfl,rfl,by decide +kernel,rfl,by decide +kernel,by decide +kernel⟩
section
variable {P:Program}{w:World}{K:AA}{mg:Str→Option Value}{base:Heap}
theorem ok_letters {f:Addr}{fd:FuncData} (F:Fun K "letters" "letters" Lk f fd) (B:Blt mg):FnOk P w K mg base CX0 1 f fd ["word"] HP:=by
 refine F.ok scLetters (fun vs H Q E h=>?_) (fun cdv A outer s H vs Q E hr h=>?_)
 ·obtain⟨x,rfl,_⟩:=h
  rfl
 ·obtain⟨x,rfl,hx,k⟩:=h
  refine⟨_,AH (AL (Dk (own:=[("letter",1)]) rfl scLetters.nd (Xm (pv 0)) (Df (N:=["word","letter"]) (sc:=AK Lk) (by decide +kernel)) (fun s H C cl fp=>Bs (i:=1) scLetters.nd rfl (AZ rfl)) (fun s H C cl fp=>D9)
   (fun s H C cl fp=>A1 Fi (by rfl) B.ord GZ (AB (pv 1) AD)))),?_⟩
  refine⟨_,rfl,x,rfl,fun D hD=>?_⟩
  refine EU (n:=x.cps.size) ((BJ x).map V.int) (by simp[BJ]) (Br (by omega)) hD (fun i H hi _=>hi) (fun H _=>AV _) ?_ ?_
  ·rintro i y z H1 H2 hz s1 ⟨rfl,c,hc,rfl⟩ R hR
   refine⟨rfl,_,rfl,_,rfl,rfl,?_⟩
   have:z=V.int ((c:Nat):Int):=by
    simp[BJ] at hz
    obtain⟨c',hc',rfl⟩:=hz
    rw[hc] at hc'
    cases hc'
    rfl
   subst this
   exact hR _ (Same.refl _)
  ·intro H' s1 hd
   exact k H' D s1 hD hd
theorem nf {b:Bool} (h:¬b=true):b=false:=by
 cases b with
 | false=>rfl
 | true=>exact(h rfl).elim
def Pur (H:Hp) (Q:VK) (v:V):Prop:=∀H':Hp,Same H H'→Q v H'
abbrev Qw:Stmt:=Rb
def Sa:Sp:=fun vs H Q _=>∃b:Int,vs=[.int b]∧Pur H Q (.bl (EW b))
theorem YT:AY ["byte"] ["byte"] (AK Qw):=⟨rfl,rfl,rfl,by decide +kernel,rfl,by decide +kernel,by decide +kernel⟩
theorem ok_nameByte {f:Addr}{fd:FuncData} (F:Fun K "is_name_byte" "is_name_byte" Qw f fd) (B:Blt mg):FnOk P w K mg base CX0 1 f fd ["byte"] Sa:=by
 refine F.ok YT (fun vs H Q E h=>?_) (fun cdv A outer s H vs Q E hr h=>?_)
 ·obtain⟨x,rfl,_⟩:=h
  rfl
 ·obtain⟨b,rfl,k⟩:=h
  refine⟨_,AH (AL (Xh (HH CZ CZ (A1 Fi (by rfl) B.ord GZ (AB DT AD)) (pv 0) (A1 Fi (by rfl) B.ord GZ (AB DT AD)))
   (Ea (HH CZ CZ (A1 Fi (by rfl) B.ord GZ (AB DT AD)) (pv 0) (A1 Fi (by rfl) B.ord GZ (AB DT AD)))))),?_⟩
  have kk:=k H (Same.refl H)
  unfold EW at kk
  have two:∀R:VK,R (.bl (decide (48≤b)&&decide (b≤57))) H→MA (rI0 fun i j=>V.bl (decide (i≤j))) (rI0 fun i j=>V.bl (decide (i≤j)))
    (tCB (fun xs H Q=>∃x,xs=[V.str x]∧x.length=1∧Q (V.int ((x.cps.getD 0 0:Nat):Int)) H) (GI (tC (V.str (Dv "0"))) FC)) (Ee 0)
    (tCB (fun xs H Q=>∃x,xs=[V.str x]∧x.length=1∧Q (V.int ((x.cps.getD 0 0:Nat):Int)) H) (GI (tC (V.str (Dv "9"))) FC)) (L2.start ["byte"] [V.int b]) H R:=fun R hR=>by
   refine⟨_,rfl,rfl,_,rfl,_,_,rfl,rfl,_,rfl,ES (fun h1=>?_) (fun h1=>?_)⟩
   ·refine⟨_,rfl,rfl,_,_,rfl,rfl,?_⟩
    have e:decide (48≤b)=true:=h1
    rw[e] at hR
    exact hR
   ·have e:decide (48≤b)=false:=nf h1
    rw[e] at hR
    exact hR
  refine⟨_,rfl,rfl,_,rfl,_,_,rfl,rfl,_,rfl,ES (fun h1=>?_) (fun h1=>?_)⟩
  ·have e:decide (65≤b)=true:=h1
   rw[e] at kk
   refine⟨_,rfl,rfl,_,_,rfl,rfl,_,rfl,ES (fun h2=>?_) (fun h2=>?_)⟩
   ·have e2:decide (b≤90)=true:=h2
    rw[e2] at kk
    exact kk
   ·have e2:decide (b≤90)=false:=nf h2
    rw[e2] at kk
    exact two Q kk
  ·have e:decide (65≤b)=false:=nf h1
   rw[e] at kk
   exact⟨_,rfl,Ie (two Q kk)⟩
end
end Fb
end
section
set_option maxRecDepth 100000
set_option maxHeartbeats 4000000
namespace Fb
open PySem PySem.Spec PyProof.Rows L2
theorem e0 {X:Cx}:Et CX0 X E0:=F2
theorem DE {α β:Type}{F:α→β→Prop}:∀{l₁:List α}{l₂:List β}{i:Nat}{b:β},Paired F l₁ l₂→l₂[i]?=some b→∃a,l₁[i]?=some a∧F a b
 | _,_,_,_,.nil,h=>by simp at h
 | _,_,0,_,.cons r t,h=>by simp at h;subst h;exact⟨_,rfl,r⟩
 | _,_,i+1,b,.cons r t,h=>by
  obtain⟨a,h1,h2⟩:=DE (i:=i) (b:=b) t (by simpa using h)
  exact⟨a,by simpa using h1,h2⟩
theorem E8 {X:Cx}{e:Expr}{f:Str}{pos:Pos}{ta:TE} (K:AA) (hK:X.K=K) (he:PE X e ta) (hb:attributeBase e f X.env (eval e X.env)=eval e X.env):PE X (.Attribute e f pos) (MB K ta f):=by
 subst hK
 exact Ak he hb
theorem Xe {X:Cx}{a b:Expr}{pos:Pos}{ta tb:TE} (K:AA) (hK:X.K=K) (ha:PE X a ta) (hb:PE X b tb) (hs:Ni b):PE X (.Subscript a b pos) (tOp (QT K) ta tb):=by
 subst hK
 exact Bm Bl ha hb hs
theorem A6 {K:AA}{H:Hp}{a:Addr}{ns:List Int} (h:SqL K H a (ns.map V.int)):Dp K H (.ref a) (.list (ns.map Cr)):=by
 refine .lst h ?_
 clear h
 induction ns with
 | nil=>exact .nil
 | cons n r ih=>exact .cons (.int n) ih
theorem N1:∀ns:List Int,NC (ns.map Cr)=true
 | []=>rfl
 | n::r=>by
  show(PyData.canLay0 (.int n)&&NC (r.map Cr))=true
  rw[N1 r]
  rfl
theorem OI:∀ns:List Int,ND (ns.map Cr)=0
 | []=>rfl
 | n::r=>by
  show max (PyData.depth (.int n)) (ND (r.map Cr))=0
  rw[OI r]
  rfl
theorem A2 (ns:List Int):Hq (.list (ns.map Cr))=true:=by
 show(NC (ns.map Cr)&&decide (ND (ns.map Cr)+1≤64))=true
 rw[N1,OI]
 rfl
theorem CP:∀a b:List Int,En (.list (a.map Cr)) (.list (b.map Cr))=decide (a=b):=by
 have key:∀a b:List Int,PyData.eqvAll (a.map Cr) (b.map Cr)=decide (a=b):=by
  intro a
  induction a with
  | nil =>
   intro b
   cases b with
   | nil=>rfl
   | cons y s=>rfl
  | cons x r ih =>
   intro b
   cases b with
   | nil=>rfl
   | cons y s =>
    show(En (.int x) (.int y)&&PyData.eqvAll (r.map Cr) (s.map Cr))=_
    rw[ih s]
    have:En (.int x) (.int y)=decide (x=y):=by
     first | rfl | (unfold En;simp) | (simp[En])
    rw[this,C3]
    simp
 intro a b
 first | exact key a b | (unfold En;exact key a b)
abbrev Lf:Stmt:=Ra
def JK (K:AA):Sp:=fun vs H Q _=>∃(a:Addr) (ns:List Int),vs=[.ref a]∧SqL K H a (ns.map V.int)∧ns.length < 100000∧Pur H Q (.bl (DQ ns))
theorem scIsName:AY ["word","byte"] ["word"] (AK Lf):=⟨rfl,rfl,rfl,by decide +kernel,rfl,by decide +kernel,by decide +kernel⟩
section
variable {P:Program}{w:World}{K:AA}{mg:Str→Option Value}{base:Heap}
theorem ok_isName {f:Addr}{fd:FuncData} (F:Fun K "is_name" "is_name" Lf f fd) (B:Blt mg) (c1:Cst mg "LONGEST_NAME" (.int 8)) (g1:Has P w K mg "is_name_byte" 1 ["byte"] Sa):FnOk P w K mg base CX0 2 f fd ["word"] (JK K):=by
 refine F.ok scIsName (fun vs H Q E h=>?_) (fun cdv A outer s H vs Q E hr h=>?_)
 ·obtain⟨a,x,rfl,_⟩:=h
  rfl
 ·obtain⟨a,ns,rfl,hS,hlen,k⟩:=h
  refine⟨_,AH (AL (EY (HH CZ CZ AO (A1 Bq (by rfl) B.len Bf (AB (pv 0) AD)) (AW c1 rfl))
   (Ea (A1 (IE rfl) (by rfl) B.all Jy (AB (Dk (own:=[("byte",1)]) rfl scIsName.nd (D7 (pv 0)) (Df (N:=["word","byte"]) (sc:=AK Lf) (by decide +kernel)) (fun s H C cl fp=>Bs (i:=1) scIsName.nd rfl (AZ rfl)) (fun s H C cl fp=>D9)
    (fun s H C cl fp=>AN g1 hr (by rfl) (AB (pv 1) AD))) AD))))),?_⟩
  refine⟨_,rfl,a,_,rfl,.inl hS,_,_,rfl,rfl,_,rfl,ES (fun h1=>?_) (fun h1=>?_)⟩
  ·have h1':1≤ns.length:=by
    have:(1:Int)≤((ns.map V.int).length:Nat):=of_decide_eq_true h1
    rw[AG] at this
    omega
   refine⟨_,_,rfl,rfl,_,rfl,ES (fun h2=>?_) (fun h2=>?_)⟩
   ·have h2':ns.length≤8:=by
     have:(((ns.map V.int).length:Nat):Int)≤8:=of_decide_eq_true h2
     rw[AG] at this
     omega
    refine⟨_,rfl,a,rfl,⟨_,hS⟩,fun D hD=>?_⟩
    refine EU (n:=(ns.map V.int).length) ((ns.map EW).map V.bl) (by simp) (Br (by rw[AG];omega)) hD (fun i H hi s1=>E3 (s1.seq hS) hi) (fun H s1=>E4 (s1.seq hS)) ?_ ?_
    ·rintro i y z H1 H2 hz s1 ⟨rfl,hy⟩ R hR
     obtain⟨n,hn,rfl⟩:=EO (hy _ (s1.seq hS))
     refine⟨rfl,_,rfl,n,rfl,?_⟩
     have:z=V.bl (EW n):=by
      rw[Aj,Aj,hn] at hz
      exact(Ae hz).symm
     subst this
     exact hR
    ·intro H' s1 hd
     refine⟨D,ns.map EW,rfl,SqL.of hd,?_⟩
     have:=k H' s1
     unfold DQ at this
     rw[decide_eq_true h1',decide_eq_true h2'] at this
     rw[FN]
     exact this
   ·have h2':¬ns.length≤8:=fun q=>h2 (decide_eq_true (by rw[AG];show((ns.length:Nat):Int)≤8;omega))
    have:=k H (Same.refl H)
    unfold DQ at this
    rw[decide_eq_false h2',HX] at this
    exact this
  ·have h1':¬1≤ns.length:=fun q=>h1 (decide_eq_true (by rw[AG];show(1:Int)≤((ns.length:Nat):Int);omega))
   have:=k H (Same.refl H)
   unfold DQ at this
   rw[decide_eq_false h1',Co] at this
   exact⟨_,rfl,Ie this⟩
abbrev Qy:Stmt:=Rc
def Fz (x:Str) (ns:List Int):Bool:=match Af 32 ns with
 | [a,b]=>decide (a=BJ x)&&DQ b
 | _=>false
def Lz (K:AA):Sp:=fun vs H Q _=>∃(a:Addr) (ns:List Int) (x:Str),vs=[.ref a,.str x]∧SqL K H a (ns.map V.int)∧ns.length < 100000∧x.cps.size < 1000∧Pur H Q (.bl (Fz x ns))
theorem scNaming:AY ["line","first","words"] ["line","first"] (AK Qy):=⟨rfl,rfl,rfl,by decide +kernel,rfl,by decide +kernel,by decide +kernel⟩
theorem ok_naming {f:Addr}{fd:FuncData} (F:Fun K "is_naming_line" "is_naming_line" Qy f fd) (B:Blt mg) (c1:Cst mg "BLANK" (.int 32)) (g1:Has P w K mg "split_at" 1 ["mark","values"] (EC K))
  (g2:Has P w K mg "letters" 1 ["word"] HP) (g3:Has P w K mg "is_name" 2 ["word"] (JK K)):FnOk P w K mg base CX0 3 f fd ["line","first"] (Lz K):=by
 refine F.ok scNaming (fun vs H Q E h=>?_) (fun cdv A outer s H vs Q E hr h=>?_)
 ·obtain⟨a,ns,x,rfl,_⟩:=h
  rfl
 ·obtain⟨a,ns,x,rfl,hS,hlen,hx,k⟩:=h
  have hr1:Room 1 _:=hr.mono (by decide)
  refine⟨_,AJ (BB (i:=2) scNaming.nd rfl (AZ rfl) (AN g1 hr1 (by rfl) (AB (AW c1 rfl) (AB (pv 0) AD))))
   (AH (AL (EY (Cw BY (A1 Bq (by rfl) B.len Bf (AB (pv 2) AD)) AO (AR _))
    (EY (Cw (EX hr.units) (Bm Bl (pv 2) AO (fun _ _=>rfl)) (AN g2 hr1 (by rfl) (AB (pv 1) AD)) (AR _))
    (Ea (AN g3 hr (by rfl) (AB (Bm Bl (pv 2) AO (fun _ _=>rfl)) AD))))))),?_⟩
  refine⟨_,rfl,a,32,ns,rfl,hS,hlen,fun H1 p as s1 np nas hp hpa=>?_⟩
  refine⟨_,rfl,p,_,rfl,.inl (SqL.of hp),rfl,_,rfl,ES (fun h1=>?_) (fun h1=>?_)⟩
  ·have h1':as.length=2:=by
    have:V.int ((as.map V.ref).length:Nat)=V.int 2:=of_decide_eq_true h1
    injection this with this
    rw[AG] at this
    omega
   have hl:=CT hpa
   match as,h1',hc:Af 32 ns with
   | [a0,a1],_,cz =>
    rw[hc] at hpa
    match cz,hpa with
    | [w0,w1],.cons p0 (.cons p1 .nil) =>
     have ez:Fz x ns=(decide (w0=BJ x)&&DQ w1):=by unfold Fz;rw[hc]
     have hw0:=D5 32 ns w0 (by rw[hc];simp)
     have hw1:=D5 32 ns w1 (by rw[hc];simp)
     refine⟨_,rfl,p,_,_,_,rfl,rfl,SqL.of hp,Bw (j:=0) rfl,_,rfl,x,rfl,hx,fun H2 q s2 nq hq=>?_⟩
     refine⟨_,_,A6 (SqL.of (s2 _ _ p0)),A6 (SqL.of hq),A2 _,A2 _,?_⟩
     rw[CP]
     refine⟨_,rfl,ES (fun h2=>?_) (fun h2=>?_)⟩
     ·refine⟨_,rfl,p,_,_,_,rfl,rfl,SqL.of (s2 _ _ hp),Bw (j:=1) rfl,a1,w1,rfl,SqL.of (s2 _ _ p1),by omega,fun H3 s3=>?_⟩
      have:=k H3 ((s1.trans s2).trans s3)
      rw[ez,show decide (w0=BJ x)=true from h2,DJ] at this
      exact this
     ·have:=k H2 (s1.trans s2)
      rw[ez,nf h2,Co] at this
      exact this
  ·have hl:=CT hpa
   have ez:Fz x ns=false:=by
    unfold Fz
    split
    ·rename_i b c hc
     rw[hc] at hl
     exact absurd (decide_eq_true (by rw[AG,hl];rfl)) h1
    ·rfl
   have:=k H1 s1
   rw[ez] at this
   exact this
abbrev Qx:Stmt:=Rq
def Ly (K:AA):Sp:=fun vs H Q _=>∃(a:Addr) (ns n:List Int),vs=[.ref a]∧SqL K H a (ns.map V.int)∧ns.length < 100000∧(Af 32 ns)[1]?=some n∧Fg H Q n
theorem YU:AY ["line"] ["line"] (AK Qx):=⟨rfl,rfl,rfl,by decide +kernel,rfl,by decide +kernel,by decide +kernel⟩
theorem ok_named {f:Addr}{fd:FuncData} (F:Fun K "named" "named" Qx f fd) (c1:Cst mg "BLANK" (.int 32)) (g1:Has P w K mg "split_at" 1 ["mark","values"] (EC K)):FnOk P w K mg base CX0 2 f fd ["line"] (Ly K):=by
 refine F.ok YU (fun vs H Q E h=>?_) (fun cdv A outer s H vs Q E hr h=>?_)
 ·obtain⟨a,ns,n,rfl,_⟩:=h
  rfl
 ·obtain⟨a,ns,n,rfl,hS,hlen,hn,k⟩:=h
  refine⟨_,AH (AL (Bm Bl (AN g1 hr (by rfl) (AB (AW c1 rfl) (AB (pv 0) AD))) AO (fun _ _=>rfl))),?_⟩
  refine⟨_,rfl,a,32,ns,rfl,hS,hlen,fun H1 p as s1 np nas hp hpa=>?_⟩
  obtain⟨b,hb,hbn⟩:=DE hpa hn
  refine⟨p,_,_,_,rfl,rfl,SqL.of hp,Bw (j:=1) (v:=V.ref b) (by rw[Aj,hb];rfl),?_⟩
  exact k H1 b s1 (nas b (CV hb)) hbn
abbrev Qk:Stmt:=RS
def Lr (K:AA):Sp:=fun vs H Q _=>∃(a:Addr) (ns:List Int),vs=[.ref a]∧SqL K H a (ns.map V.int)∧Pur H Q (.int (ns.count 10:Nat))
theorem YI:AY ["text"] ["text"] (AK Qk):=⟨rfl,rfl,rfl,by decide +kernel,rfl,by decide +kernel,by decide +kernel⟩
theorem ok_count {f:Addr}{fd:FuncData} (F:Fun K "count_lines" "count_lines" Qk f fd) (c1:Cst mg "LINE_END" (.int 10)):FnOk P w K mg base CX0 1 f fd ["text"] (Lr K):=by
 refine F.ok YI (fun vs H Q E h=>?_) (fun cdv A outer s H vs Q E hr h=>?_)
 ·obtain⟨a,ns,rfl,_⟩:=h
  rfl
 ·obtain⟨a,ns,rfl,hS,k⟩:=h
  refine⟨_,AH (AL (EZ Em UO PySem.F.type_list_count W4 (pv 0) (AB (AW c1 rfl) AD))),?_⟩
  exact⟨_,rfl,.inl ⟨rfl,_,hS⟩,a,ns,10,rfl,rfl,hS,k H (Same.refl H)⟩
end
end Fb
end
section
set_option maxRecDepth 100000
set_option maxHeartbeats 4000000
namespace Fb
open PySem PySem.Spec PyProof.Rows L2
def kf (r:Int) (l:V) (c s k:Int):List (Str×V):=[("rank",.int r),("label",l),("copies",.int c),("shape",.int s),("look",.int k)]
def KU (H:Hp) (lv:V):ZLab→Prop
 | .sign n=>∃t,lv=.ref t∧H t=some (.tup (n.map V.int))
 | .same k=>lv=.int k
 | .ans=>lv=.int 0
def KindAt (CK:Addr) (H:Hp) (a:Addr) (z:ZK):Prop:=∃(dx:Addr) (lv:V),H a=some (.ins CK dx (kf z.lab.rank lv z.copies z.shape z.look))∧KU H lv z.lab
theorem KindAt.same {CK:Addr}{H H':Hp}{a:Addr}{z:ZK} (s:∀b o,H b=some o→(∀xs,o≠.lst xs)→(∀xs,o≠.dK xs)→(∀xs,o≠.dT xs)→(∀C dx fs,o=.ins C dx fs→C=CK)→H' b=some o) (h:KindAt CK H a z):KindAt CK H' a z:=by
 obtain⟨dx,lv,h1,h2⟩:=h
 refine⟨dx,lv,s _ _ h1 (by intro xs q;cases q) (by intro xs q;cases q) (by intro xs q;cases q) (by intro C dx fs q;cases q;rfl),?_⟩
 revert h2
 cases z.lab with
 | sign n =>
  rintro⟨t,e,ht⟩
  exact⟨t,e,s _ _ ht (by intro xs q;cases q) (by intro xs q;cases q) (by intro xs q;cases q) (by intro C dx fs q;cases q)⟩
 | same k=>exact fun h=>h
 | ans=>exact fun h=>h
theorem KindAt.mono {CK:Addr}{H H':Hp}{a:Addr}{z:ZK} (s:Same H H') (h:KindAt CK H a z):KindAt CK H' a z:=h.same fun b o e _ _ _ _=>s b o e
structure KindC (K:AA) (CK:Addr):Prop where
 cl:Cls K CK
 rank:NoAttr K CK "rank"
 label:NoAttr K CK "label"
 copies:NoAttr K CK "copies"
 shape:NoAttr K CK "shape"
 look:NoAttr K CK "look"
def A0 (l:List Int):List Key:=l.map Ar
theorem K0 (l:List Int):(A0 l).map kV=l.map V.int:=by
 unfold A0
 rw[Jh]
 rfl
def Bn:Nat→List ZK→List (List Key×V)
 | _,[]=>[]
 | i,z::r=>match z.lab with
  | .sign n=>(A0 n,.int (i:Nat))::Bn (i+1) r
  | _=>Bn (i+1) r
def BG:Nat→List ZK→List (Key×V)
 | _,[]=>[]
 | i,z::r=>match z.lab with
  | .same k=>(Ar k,.int (i:Nat))::BG (i+1) r
  | _=>BG (i+1) r
theorem GD (i:Nat) (z:ZK) (r:List ZK):Bn i (z::r)=match z.lab with
 | .sign n=>(A0 n,.int (i:Nat))::Bn (i+1) r
 | _=>Bn (i+1) r:=rfl
theorem GC (i:Nat) (z:ZK) (r:List ZK):BG i (z::r)=match z.lab with
 | .same k=>(Ar k,.int (i:Nat))::BG (i+1) r
 | _=>BG (i+1) r:=rfl
def lf (an ak sg sm af:Addr):List (Str×V):=[("name",.ref an),("kinds",.ref ak),("signs",.ref sg),("sames",.ref sm),("fault",.ref af)]
structure LA where
 an:Addr
 ak:Addr
 sg:Addr
 sm:Addr
 af:Addr
structure LockAt (CL CK:Addr) (H:Hp) (a:Addr) (p:LA) (name:List Int) (kinds:List ZK) (fault:List Int):Prop where
 ob:∃dx,H a=some (.ins CL dx (lf p.an p.ak p.sg p.sm p.af))
 nm:H p.an=some (.lst (name.map V.int))
 ks:∃as:List Addr,H p.ak=some (.lst (as.map V.ref))∧Paired (KindAt CK H) as kinds
 sg:H p.sg=some (.dT (Bn 0 kinds))
 sm:H p.sm=some (.dK (BG 0 kinds))
 af:H p.af=some (.lst (fault.map V.int))
theorem LockAt.mono {CL CK:Addr}{H H':Hp}{a:Addr}{p:LA}{name:List Int}{kinds:List ZK}{fault:List Int} (s:Same H H') (h:LockAt CL CK H a p name kinds fault):LockAt CL CK H' a p name kinds fault:=by
 obtain⟨⟨dx,h1⟩,h2,⟨as,h3,h4⟩,h5,h6,h7⟩:=h
 exact⟨⟨dx,s _ _ h1⟩,s _ _ h2,⟨as,s _ _ h3,Paired.mapP h4 fun a z q=>q.mono s⟩,s _ _ h5,s _ _ h6,s _ _ h7⟩
structure LockC (K:AA) (CL:Addr):Prop where
 cl:Cls K CL
 name:NoAttr K CL "name"
 kinds:NoAttr K CL "kinds"
 signs:NoAttr K CL "signs"
 sames:NoAttr K CL "sames"
 fault:NoAttr K CL "fault"
theorem S6 (k:Int):∀(kinds:List ZK) (i:Nat),(Aq (BG i kinds) (Ar k)=none∧kinds.find? (E2 k)=none)∨∃(j:Nat) (z:ZK),Aq (BG i kinds) (Ar k)=some (.int ((i+j:Nat):Int))∧kinds[j]?=some z∧kinds.find? (E2 k)=some z
 | [],i=>.inl ⟨rfl,rfl⟩
 | z::r,i=>by
  have ih:=S6 k r (i+1)
  have other:E2 k z=false→Aq (BG i (z::r)) (Ar k)=Aq (BG (i+1) r) (Ar k):=fun h=>by
   rw[GC]
   split
   ·rename_i k' hk
    have ne:¬k'=k:=by
     intro q
     rw[E2,hk,q] at h
     simp at h
    exact Cd (p:=(Ar k',V.int ((i:Nat):Int))) fun q=>ne (Hu q)
   ·rfl
  cases hz:E2 k z with
  | true =>
   have hk:z.lab=.same k:=of_decide_eq_true hz
   refine .inr ⟨0,z,?_,rfl,?_⟩
   ·unfold BG
    rw[hk]
    exact Ce rfl
   ·rw[Dr,hz]
  | false =>
   have hf:(z::r).find? (E2 k)=r.find? (E2 k):=by rw[Dr,hz]
   rw[other hz,hf]
   rcases ih with ih | ⟨j,z',h1,h2,h3⟩
   ·exact .inl ih
   ·exact .inr ⟨j+1,z',by rw[h1];congr 2;omega,h2,h3⟩
section
variable {CL CK:Addr}
theorem Wo {p:LA}:(lf p.an p.ak p.sg p.sm p.af).lookup ("name":Str)=some (.ref p.an):=rfl
theorem Fx {p:LA}:(lf p.an p.ak p.sg p.sm p.af).lookup ("kinds":Str)=some (.ref p.ak):=rfl
theorem G7 {p:LA}:(lf p.an p.ak p.sg p.sm p.af).lookup ("signs":Str)=some (.ref p.sg):=rfl
theorem Ik {p:LA}:(lf p.an p.ak p.sg p.sm p.af).lookup ("sames":Str)=some (.ref p.sm):=rfl
theorem Pd {p:LA}:(lf p.an p.ak p.sg p.sm p.af).lookup ("fault":Str)=some (.ref p.af):=rfl
theorem DR {r c s k:Int}{l:V}:(kf r l c s k).lookup ("rank":Str)=some (.int r):=rfl
theorem Ig {r c s k:Int}{l:V}:(kf r l c s k).lookup ("label":Str)=some l:=rfl
theorem We {r c s k:Int}{l:V}:(kf r l c s k).lookup ("copies":Str)=some (.int c):=rfl
theorem PR {r c s k:Int}{l:V}:(kf r l c s k).lookup ("shape":Str)=some (.int s):=rfl
theorem PQ {r c s k:Int}{l:V}:(kf r l c s k).lookup ("look":Str)=some (.int k):=rfl
end
end Fb
end
section
set_option maxRecDepth 100000
set_option maxHeartbeats 4000000
namespace L2
open PySem PySem.Spec PyProof.Rows
open PySem.W (CodeHd tabObj kla_obj kla_fn envX)
abbrev KO (a:Addr) (o:Obj):HO:=.ext fun h=>h.get? a=some o
section
variable {P:Program}{w:World}{H H':Hp}{h h':Heap}{a:Addr}{o:Obj}
theorem G5 (e:h.get? a=some o):ObjOk P w H h a (KO a o):=⟨e,⟨o,e⟩,fun _ _ p k=>k _ p⟩
theorem E6 (hok:HOk P w H h) (e:H a=some (KO a o)):h.get? a=some o:=(hok a _ e).1
end
def CellV (H:Hp) (c:Addr) (v:V):Prop:=∃(o:Obj) (u:Value),H c=some (KO c o)∧o.data=.cell (some u)∧RelV v u
def CodeO (H:Hp) (c:Addr) (qual:Str):Prop:=∃(o:Obj) (vs:Array Value) (t:Tok),H c=some (KO c o)∧o.data=.fields vs∧vs[1]?=some (.str qual t)
theorem CodeO.rec_of {P:Program}{w:World}{H:Hp}{h:Heap}{c:Addr}{qual:Str} (x:CodeO H c qual) (hok:HOk P w H h):h.CodeRec (.ref c) qual:=by
 obtain⟨o,vs,t,e,d,q⟩:=x
 exact⟨c,o,vs,t,rfl,E6 hok e,d,q⟩
def hid (cs:List Addr) (H:Hp):Hp:=fun b=>if b∈cs then none else H b
def Cn (cs:List Addr) (H0 H:Hp):Hp:=fun b=>if b∈cs then H0 b else H b
theorem DC {cs:List Addr}{H:Hp}{b:Addr} (h:b∈cs):hid cs H b=none:=if_pos h
theorem Ax {cs:List Addr}{H:Hp}{b:Addr} (h:b∉cs):hid cs H b=H b:=if_neg h
theorem GL {cs:List Addr}{H0 H:Hp}{b:Addr} (h:b∈cs):Cn cs H0 H b=H0 b:=if_pos h
theorem C2 {cs:List Addr}{H0 H:Hp}{b:Addr} (h:b∉cs):Cn cs H0 H b=H b:=if_neg h
theorem Fp {cs:List Addr}{H:Hp}{b:Addr} (h:H b=none):hid cs H b=none:=by
 unfold hid
 split
 ·rfl
 ·exact h
def Plain (cs:List Addr) (H:Hp):Prop:=∀b∈cs,∀u,H b=some u→∃φ,u=.ext φ
theorem Plain.out {cs:List Addr}{H:Hp} (p:Plain cs H) {b:Addr}{u:HO} (h:H b=some u) (n:∀φ,u≠.ext φ):b∉cs:=fun m=>by
 obtain⟨φ,e⟩:=p b m u h
 exact n φ e
theorem HOk.hid {P:Program}{w:World}{cs:List Addr}{H:Hp}{h:Heap} (p:Plain cs H) (x:HOk P w H h):HOk P w (L2.hid cs H) h:=fun a o e=>by
 by_cases m:a∈cs
 ·rw[DC m] at e;cases e
 ·rw[Ax m] at e
  exact(x a o e).stay (fun _ _ _ q=>q) (fun b q=>by rw[Ax (p.out q fun φ z=>nomatch z)];exact q) fun b xs q=>by rw[Ax (p.out q fun φ z=>nomatch z)];exact q
structure Hw (N ps:List Str) (sc:Scope) (cl:List (Str×Addr)):Prop where
 kind:sc.kind=.function
 co:sc.isCoroutine=false
 gen:sc.isGenerator=false
 nd:N.Nodup
 pre:N.take ps.length=ps
 par:∀x∈ps,sc.names.lookup x=some .local
 nocell:∀y∈sc.names,y.2≠.cell
 fr:N.drop ps.length=cl.map (·.1)
 frk:∀x∈cl.map (·.1),sc.names.lookup x=some .free
 all:∀y,sc.names.lookup y=some .free→y∈cl.map (·.1)
 cnd:(cl.map (·.2)).Nodup
def Ko (P:Program) (w:World) (K:AA) (mg:Str→Option Value) (base:Heap) (N:List Str) (qual:Str) (scope:Scope) (f c':Addr) (cl:List (Str×Addr)) (A:Around) (outer:List Env) (s:Shared) (H:Hp):Cx where
 prog:=P
 w:=w
 K:=K
 mg:=mg
 base:=base
 A:=A.deeper (envX qual scope s.heap.objs.size f (.ref c') cl)
 N:=N
 s_0:=s
 H_0:=hid (cl.map (·.2)) H
 env:=envX qual scope s.heap.objs.size f (.ref c') cl
 outer:=outer
 stack:=envX qual scope s.heap.objs.size f (.ref c') cl::outer
 ex:=[]
 calm:=true
 fn:=fun _=>false
 pn:=[]
 xe:=fun _ _=>False
theorem G9:∀{cl:List (Str×Addr)}{i:Nat}{x:Str}{c:Addr},(cl.map (·.1)).Nodup→cl[i]?=some (x,c)→cl.lookup x=some c
 | [],_,_,_,_,h=>by simp at h
 | (y,d)::cl,0,x,c,_,h=>by
  simp at h
  obtain⟨rfl,rfl⟩:=h
  simp
 | (y,d)::cl,i+1,x,c,nd,h=>by
  obtain⟨h1,h2⟩:=C9.mp (show(y::cl.map (·.1)).Nodup from nd)
  have h':cl[i]?=some (x,c):=by simpa using h
  have hm:x∈cl.map (·.1):=BP.mpr ⟨(x,c),CV h',rfl⟩
  have ne:(x==y)=false:=beq_eq_false_iff_ne.mpr fun q=>h1 (q▸hm)
  rw[DZ,ne]
  exact G9 h2 h'
theorem Zi:∀{ps:List Str}{us:List Value}{i:Nat}{x:Str}{u:Value},ps.Nodup→ps[i]?=some x→us[i]?=some u→(ps.zip us).reverse.lookup x=some u:=by
 have out:∀(l:List (Str×Value)) (x:Str),(∀v,(x,v)∉l)→l.lookup x=none:=fun l x h=>by
  cases q:l.lookup x with
  | none=>rfl
  | some v=>exact(h v (Bg q)).elim
 have app:∀(l m:List (Str×Value)) (x:Str),(l++m).lookup x=(l.lookup x).or (m.lookup x):=fun l m x=>by
  induction l with
  | nil=>simp
  | cons p l ih =>
   obtain⟨y,v⟩:=p
   rw[FP,DZ,DZ,ih]
   cases x==y <;> rfl
 intro ps
 induction ps with
 | nil=>intro us i x u _ h;simp at h
 | cons p ps ih =>
  intro us i x u nd h1 h2
  cases us with
  | nil=>simp at h2
  | cons w us =>
   obtain⟨n1,n2⟩:=C9.mp nd
   rw[List.zip_cons_cons,List.reverse_cons,app]
   cases i with
   | zero =>
    simp at h1 h2
    subst h1 h2
    rw[out _ p fun v hv=>n1 (Hj (List.mem_reverse.mp hv)).1]
    simp
   | succ i =>
    rw[ih n2 (by simpa using h1) (by simpa using h2)]
    rfl
section
variable {P:Program}{w:World}{K:AA}{mg:Str→Option Value}{base:Heap}
def FreeAt (H:Hp) (cl:List (Str×Addr)) (fvs:List V):Prop:=Paired (fun (p:Str×Addr) v=>CellV H p.2 v) cl fvs
theorem FreeAt.at_:∀{H:Hp}{cl:List (Str×Addr)}{fvs:List V}{i:Nat}{p:Str×Addr},FreeAt H cl fvs→cl[i]?=some p→∃v,fvs[i]?=some v∧CellV H p.2 v
 | _,_,_,_,_,.nil,h=>by simp at h
 | _,_,_,0,p,.cons r _,h=>by
  simp at h
  subst h
  exact⟨_,rfl,r⟩
 | _,_,_,i+1,p,.cons _ t,h=>FreeAt.at_ (i:=i) t (by simpa using h)
theorem K4 {k:Nat}{f c':Addr}{qual:Str}{params:Arguments}{body:Expr}{scope:Scope}{cl:List (Str×Addr)}{pm ctv:Value}{N ps:List Str}{sp:Sp} (S:Hw N ps scope cl)
  (len:∀vs H Q E,sp vs H Q E→vs.length=ps.length)
  (hsp:∀vs H Q E,sp vs H Q E→H f=some (KO f (kla_obj "<lambda>" qual params body scope cl pm c' ctv))∧CodeO H c' qual∧∃fvs,FreeAt H cl fvs∧
   ∀(A:Around) (outer:List Env) (s:Shared),Room k (A.deeper (envX qual scope s.heap.objs.size f (.ref c') cl))→
    ∃t,PE (Ko P w K mg base N qual scope f c' cl A outer s H) body t∧t ((vs++fvs).map some) (hid (cl.map (·.2)) H) fun v H'=>(∀c∈cl.map (·.2),H' c=none)→Q v (Cn (cl.map (·.2)) H H')):
  FnOk P w K mg base CX0 (k+1) f (kla_fn "<lambda>" qual params body scope cl pm (.ref c') ctv) ps sp:=by
 refine⟨len,fun A outer s H args us vs Q E hr e0 hb r h=>?_⟩
 have hl:=len _ _ _ _ h
 obtain⟨hf,hc,fvs,hfv,hbody⟩:=hsp _ _ _ _ h
 have lim:s.heap.NoLimit:=e0.mod.nolimit.keeps fun b o e=>(e0.bs b o e).1
 have ndP:ps.Nodup:=by rw[← S.pre];exact S.nd.sublist (Mq _ _)
 have ndC:(cl.map (·.1)).Nodup:=by rw[← S.fr];exact S.nd.sublist (List.drop_sublist _ _)
 have hcs:∀c∈cl.map (·.2),∃v,CellV H c v:=fun c hc=>by
  obtain⟨p,hp,rfl⟩:=BP.mp hc
  obtain⟨i,hi⟩:=FR.mp hp
  obtain⟨v,_,q⟩:=hfv.at_ hi
  exact⟨v,q⟩
 have hpl:Plain (cl.map (·.2)) H:=fun b hb u e=>by
  obtain⟨v,o,_,q,_⟩:=hcs b hb
  rw[q] at e;cases e
  exact⟨_,rfl⟩
 have luc:∀x c,cl.lookup x=some c→(x,c)∈cl:=fun x c e=>Bg e
 refine PySem.W.kla_callFunE hr.depth (E6 e0.hok hf) rfl S.co S.gen rfl (hc.rec_of e0.hok) (hb _ _ _ _ ?_)
 refine wpAny_newFunctionEnv S.nocell (fun y hy=>S.par y.1 (Hj hy).1) (fun h₁ hns hsb=>⟨lim.fresh _ hsb,?_⟩) S.kind
 show codeAny _ _ (.expr body (envX qual scope s.heap.objs.size f (.ref c') cl)) _ _
 have hk:∀b o,s.heap.get? b=some o→h₁.get? b=some o:=fun b o e=>hsb.extBut b o (BM (Ao e)) (BE _ e)
 obtain⟨t,ht,hq⟩:=hbody A outer s (hr.deeper _)
 have noA:∀b:Addr,b∉(Ko P w K mg base N qual scope f c' cl A outer s H).ex:=fun b z=>absurd (show b∈([]:List Addr) from z) (by simp)
 have I:Inv (Ko P w K mg base N qual scope f c' cl A outer s H) [] ((vs++fvs).map some) (hid (cl.map (·.2)) H) { s with heap:=h₁,toks:=s.toks+(ps.zip us).length }:=by
  refine⟨⟨e0.mod,S.kind,rfl,rfl,AV _,fun x y c h1 h2=>?_,fun x hx=>?_,fun x c z _=>absurd (show false=true from z) Ag,fun _=>hr.hd,T5 e0.frames,.inr ⟨rfl,rfl⟩,fun b z=>absurd z (noA b),fun b o e=>⟨(e0.bs b o e).1,Fp (e0.bs b o e).2⟩,e0.bsz,fun b _ _=>noA b,fun b z=>absurd z (noA b),e0.funs,fun b hb=>Fp (e0.frf b hb)⟩,
   rfl,e0.bare,Un.kept hk,⟨_,hns,fun i x v h1 h2 h3=>?_⟩,fun x c e=>?_,Fp (e0.hok.fresh (AV _)),fun x c e=>?_,fun p hp=>absurd (show p∈([]:List (Addr×Obj)) from hp) (by simp),(e0.hok.hid hpl).kept hk,?_⟩
  ·have m1:=luc x c h1
   have m2:=luc y c h2
   obtain⟨i,hi⟩:=FR.mp m1
   obtain⟨j,hj⟩:=FR.mp m2
   have e:=W8 (l:=cl.map (·.2)) S.cnd (i:=i) (j:=j) (x:=c) (by rw[Aj,hi];rfl) (by rw[Aj,hj];rfl)
   subst e
   rw[hi] at hj
   cases hj
   rfl
  ·have hx:scope.names.lookup x=some .cell∨scope.names.lookup x=some .free:=hx
   rcases hx with hx | hx
   ·exact absurd rfl (S.nocell _ (Bg hx))
   ·obtain⟨p,hp,rfl⟩:=BP.mp (S.all x hx)
    obtain⟨i,hi⟩:=FR.mp hp
    exact⟨p.2,G9 ndC hi⟩
  ·have h1:N[i]?=some x:=h1
   have lps:ps.length≤N.length:=by have:=congrArg GW S.pre;rw[EE] at this;omega
   by_cases hi:i < ps.length
   ·have hp:ps[i]?=some x:=by rw[← S.pre,Ti hi];exact h1
    have hv:vs[i]?=some v:=by
     rw[Aj,Jb (by omega)] at h2
     cases e:vs[i]? with
     | none=>rw[e] at h2;cases h2
     | some z=>rw[e] at h2;cases h2;rfl
    obtain⟨u,hu,rv⟩:=r.get hv
    exact⟨u,rv,.inl ⟨S.par x (CV hp),Zi ndP hp hu⟩⟩
   ·have hd:(cl.map (·.1))[i - ps.length]?=some x:=by rw[← S.fr,List.getElem?_drop,show ps.length+(i - ps.length)=i by omega];exact h1
    rw[Aj] at hd
    cases hp:cl[i - ps.length]? with
    | none=>rw[hp] at hd;cases hd
    | some p =>
     rw[hp] at hd
     have hd:p.1=x:=Ae hd
     obtain⟨v',hv',o,u,q1,q2,q3⟩:=hfv.at_ hp
     have hv:v'=v:=by
      rw[Aj,He (by omega),hl,hv'] at h2
      cases h2;rfl
     subst hv hd
     refine⟨u,q3,.inr ⟨.inr (S.frk _ (BP.mpr ⟨p,CV hp,rfl⟩)),p.2,G9 ndC hp,o,hk _ _ (E6 e0.hok q1),q2⟩⟩
  ·obtain⟨v,o,u,q1,q2,q3⟩:=hcs c (BP.mpr ⟨(x,c),luc x c e,rfl⟩)
   exact⟨some u,o,hk _ _ (E6 e0.hok q1),q2⟩
  ·exact DC (BP.mpr ⟨(x,c),luc x c e,rfl⟩)
  ·show((vs++fvs).map some).length=N.length
   have l1:=congrArg GW S.fr
   have l2:=FU hfv
   have l3:=congrArg GW S.pre
   rw[Jd,AG] at l1
   rw[EE] at l3
   rw[AG,BO]
   omega
 refine PySem.W.kla_codeExpr (Cs (ht [] _ _ _ _ I hq) (fun u s' hs=>?_) fun _ _ z=>BL z)
 obtain⟨v,H',J,rv,q⟩:=hs
 have free':∀c∈cl.map (·.2),H' c=none:=fun c hc=>by
  obtain⟨p,hp,rfl⟩:=BP.mp hc
  obtain⟨i,hi⟩:=FR.mp hp
  exact J.freeC p.1 p.2 (G9 ndC hi)
 have nofr:∀c∈cl.map (·.2),c∉frs outer:=fun c hc z=>by
  obtain⟨v,o,_,q1,_⟩:=hcs c hc
  rw[e0.frf c z] at q1;cases q1
 have outH:∀{b:Addr} {u:HO},H b=some u→(∀φ,u≠.ext φ)→b∉cl.map (·.2):=fun e n=>hpl.out e n
 have base:=J.base
 show CE outer P w H s Q u s'
 refine⟨v,Cn (cl.map (·.2)) H H',J.os,J.bare,⟨fun b o e n hb hx=>base.keep b o e (Fp n) hb hx,fun b o e n hb hx=>base.slot b o e (Fp n) hb hx,fun b o e n hx=>?_,fun b o e hx=>base.there b o e hx,fun b xs e=>?_,fun b o u e=>?_,fun b ps e=>?_⟩,fun a o e=>?_,rv,q free'⟩
 ·have hb:b∉cl.map (·.2):=fun z=>by
   obtain⟨v,o,_,q1,_⟩:=hcs b z
   rw[n] at q1;cases q1
  rw[C2 hb]
  exact base.free b o e (Fp n) hx
 ·have hb:=outH e fun φ z=>nomatch z
  rw[C2 hb]
  exact base.tups b xs (by show hid _ H b=_;rw[Ax hb];exact e)
 ·have hb:=outH e fun φ z=>nomatch z
  rw[C2 hb]
  exact base.frzs b o u (by show hid _ H b=_;rw[Ax hb];exact e)
 ·have hb:=outH e fun φ z=>nomatch z
  rw[C2 hb]
  exact base.tbls b ps (by show hid _ H b=_;rw[Ax hb];exact e)
 ·by_cases m:a∈cl.map (·.2)
  ·rw[GL m] at e
   obtain⟨v,ob,_,q1,_⟩:=hcs a m
   rw[q1] at e;cases e
   exact G5 (base.keep a ob (E6 e0.hok q1) (DC m) (nofr a m) (noA a))
  ·rw[C2 m] at e
   refine(J.hok a o e).stay (fun _ _ _ q=>q) (fun b q=>?_) fun b xs q=>?_
   ·rw[C2 fun z=>by rw[free' b z] at q;cases q];exact q
   ·rw[C2 fun z=>by rw[free' b z] at q;cases q];exact q
end
end L2
end
section
set_option maxRecDepth 100000
set_option maxHeartbeats 4000000
namespace L2
open PySem PySem.Spec PyProof.Rows
open PySem.W (CodeHd tabObj kla_obj kla_fn envX)
def BF (H:Hp) (Pt:Addr) (pos:Pos) (qual:Str):Prop:=H Pt=some (.tbl #[])∨∃c',H Pt=some (.tbl #[rawInt pos.line,rawInt pos.col,.ref c'])∧CodeO H c' qual
def EL (mg:Str→Option Value) (h:Heap):Prop:=∃bm ob,mg "__builtins__"=some (.ref bm)∧bm≠builtinsNs∧h.get? bm=some ob∧ob.cls=.type "module"∧ob.dict=some builtinsNs∧ob.data=.plain
def ZI (Pt:Addr) (pos:Pos) (qual:Str) (mk:Value→Addr→Value→Obj):TE:=fun _ H Q=>BF H Pt pos qual∧
 ∀(H':Hp) (f c':Addr) (pm ctv:Value),(∀b o,H b=some o→b≠Pt→H' b=some o)→H f=none→H' f=some (KO f (mk pm c' ctv))→H' Pt=some (.tbl #[rawInt pos.line,rawInt pos.col,.ref c'])→CodeO H' c' qual→Q (.ref f) H'
section
variable {X:Cx}
theorem LY {params:Arguments}{body:Expr}{scope:Scope}{pos:Pos}{c Pt:Addr}{qual:Str}{clos:List (Str×Addr)} (hcode:X.env.code=.ref c) (C:CodeHd X.base c Pt) (hbm:EL X.mg X.base) (hq:X.env.qual++"<lambda>"=qual)
  (hcl:closureFor scope X.env=pure clos) (hdef:defaultsOf params X.env=([],[])):PE X (.Lambda params body scope pos) (ZI Pt pos qual fun pm c' ctv=>kla_obj "<lambda>" qual params body scope clos pm c' ctv):=by
 intro pins s σ H Q I h
 obtain⟨hT,k⟩:=h
 refine PySem.W.kla_eval hdef ?_
 rw[hq]
 have hg:s.heap.Ns mainGlobals X.mg:=I.mod.glob.keeps I.bk
 obtain⟨bm,ob,b1,b2,b3,b4,b5,b6⟩:=hbm
 have hsP:∃ps,H Pt=some (.tbl ps):=by
  rcases hT with e | ⟨c',e,_⟩
  ·exact⟨_,e⟩
  ·exact⟨_,e⟩
 obtain⟨ps0,hH0⟩:=hsP
 have hP0:s.heap.get? Pt=some (tabObj ps0):=I.hok Pt _ hH0
 have hgP:mainGlobals≠Pt:=fun q=>by
  obtain⟨o,es,ep,e,hd,_⟩:=hg
  rw[q,hP0] at e;cases e;cases hd
 have hbP:bm≠Pt:=fun q=>by
  have e:=I.bk _ _ b3
  rw[q,hP0] at e;cases e;cases b4
 have hbG:bm≠mainGlobals:=fun q=>by
  obtain⟨o,es,ep,e,hd,_⟩:=hg
  rw[← q,I.bk _ _ b3] at e;cases e;rw[hd] at b6;cases b6
 have hbm':s.heap.BuiltinsAt X.mg Pt:=⟨bm,ob,b1,b2,hbG,hbP,I.bk _ _ b3,b4,b5,b6⟩
 have hLP:X.env.locals≠Pt:=fun q=>by
  have:=I.free
  rw[q,hH0] at this;cases this
 rcases hT with hH | ⟨c',hH,hc'⟩
 ·have hP:s.heap.get? Pt=some (tabObj #[]):=I.hok Pt _ hH
  refine PySem.W.kla_makeFunction (mg:=X.mg) hcl I.ok.glob hg hcode (C.keeps I.bk) hP trivial rfl hgP hbm' fun c' ctv h' tk hx hge hlt hrec htb=>?_
  obtain⟨c₂,oc,vs,t,e2,hoc,hd,hv⟩:=hrec
  cases e2
  have szP:Pt < s.heap.objs.size:=Ao hP
  have nPc:Pt≠c':=BM (BV szP hge)
  have sz':s.heap.objs.size≤h'.objs.size:=Ba hge (Hl hlt)
  have nPf:Pt≠h'.objs.size:=BM (BV szP sz')
  have ncf:c'≠h'.objs.size:=BM hlt
  generalize ho:kla_obj "<lambda>" qual params body scope clos ((X.mg "__name__").getD .none) c' ctv=fo
  have kp:∀b o,b≠Pt→s.heap.get? b=some o→(h'.push fo).get? b=some o:=fun b o hb e=>BE _ (hx b o hb e)
  have fresh:∀b,s.heap.objs.size≤b→H b=none:=fun b hb=>I.hok.fresh hb
  have tb:(h'.push fo).get? Pt=some (tabObj #[rawInt pos.line,rawInt pos.col,.ref c']):=BE _ (by rw[htb];simp)
  let H':Hp:=upd (upd (upd H Pt (.tbl #[rawInt pos.line,rawInt pos.col,.ref c'])) c' (KO c' oc)) h'.objs.size (KO h'.objs.size fo)
  have H'o:∀b o,H b=some o→b≠Pt→H' b=some o:=fun b o e hb=>by
   show upd _ _ _ b=_
   rw[AE (Am e (fresh _ sz')),AE (Am e (fresh _ hge)),AE hb]
   exact e
  have H'P:H' Pt=some (.tbl #[rawInt pos.line,rawInt pos.col,.ref c']):=by
   show upd _ _ _ Pt=_
   rw[AE nPf,AE nPc,AI]
  have H'c:H' c'=some (KO c' oc):=by
   show upd _ _ _ c'=_
   rw[AE ncf,AI]
  have H'f:H' h'.objs.size=some (KO h'.objs.size fo):=AI
  have I':Inv X pins σ H' { s with heap:=h'.push fo,toks:=tk }:=by
   refine I.step (ch:=[]) (fun _ z=>nomatch z) (fun b o _ _ _ e n=>kp b o (fun z=>by rw[z,hH] at n;cases n) e) (fun b o _ _ _ e n=>⟨o.slots,kp b o (fun z=>by rw[z,hH] at n;cases n) e⟩) (fun b o _ e n=>?_) (fun b o _ e=>?_)
    (fun b xs e=>H'o b _ e fun z=>by rw[z,hH] at e;cases e) (fun b o u e=>H'o b _ e fun z=>by rw[z,hH] at e;cases e) (fun b qs e=>?_) (fun m hm=>?_) (fun a o e=>?_) I.bare
   ·have hb:b < s.heap.objs.size:=Ao e
    show upd _ _ _ b=_
    rw[AE (BM (BV hb sz')),AE (BM (BV hb hge)),AE (fun z=>by rw[z,hH] at n;cases n)]
    exact n
   ·by_cases hb:b=Pt
    ·subst hb;exact⟨_,tb⟩
    ·exact⟨o,kp b o hb e⟩
   ·by_cases hb:b=Pt
    ·subst hb
     rw[hH] at e;cases e
     exact⟨#[rawInt pos.line,rawInt pos.col,.ref c'],by rw[H'P];simp⟩
    ·exact⟨#[],by rw[H'o b _ e hb];simp⟩
   ·exact(hm.extBut hx hLP).push _
   ·by_cases h1:a=h'.objs.size
    ·subst h1
     rw[H'f] at e;cases e
     exact G5 (BQ _ (by rw[← ho];rfl))
    ·by_cases h2:a=c'
     ·subst h2
      rw[H'c] at e;cases e
      exact G5 (BE _ hoc)
     ·by_cases h3:a=Pt
      ·subst h3
       rw[H'P] at e;cases e
       exact tb
      ·have e:upd _ _ _ a=some o:=e
       rw[AE h1,AE h2,AE h3] at e
       refine(I.hok a o e).stay (fun b u hb q=>kp b u ?_ q) (fun b q=>H'o b _ q fun z=>by rw[z,hH] at q;cases q) fun b xs q=>H'o b _ q fun z=>by rw[z,hH] at q;cases q
       rcases hb with z | z
       ·rw[z];exact h3
       ·exact fun y=>by rw[y,hH] at z;cases z
  refine⟨.ref h'.objs.size,H',I',rfl,k H' h'.objs.size c' ((X.mg "__name__").getD .none) ctv H'o (fresh _ sz') (H'f.trans (congrArg (fun z=>some (KO h'.objs.size z)) ho.symm)) H'P ⟨oc,vs,t,H'c,hd,hv⟩⟩
 ·have hP:s.heap.get? Pt=some (tabObj #[rawInt pos.line,rawInt pos.col,.ref c']):=I.hok Pt _ hH
  refine PySem.W.kla_makeFunctionHit (cv:=.ref c') (mg:=X.mg) hcl I.ok.glob hg hcode (C.keeps I.bk) hP trivial (by simp[codeAmong,rawInt]) hbm' fun ctv h' tk hx hsz=>?_
  generalize ho:({ cls:=.type "function",data:=.func (kla_fn "<lambda>" qual params body scope clos ((X.mg "__name__").getD .none) (.ref c') ctv) }:Obj)=fo
  have fresh:H h'.objs.size=none:=I.hok.fresh hsz
  have I':Inv X pins σ (upd H h'.objs.size (KO h'.objs.size fo)) { s with heap:=h'.push fo,toks:=tk } :=
   I.laid (fun b u e=>BE _ (hx b u e)) hsz (G5 (BQ _ (by rw[← ho];rfl)))
  have H'o:∀b o,H b=some o→upd H h'.objs.size (KO h'.objs.size fo) b=some o:=fun b o e=>by rw[AE (Am e fresh)];exact e
  refine⟨.ref h'.objs.size,_,I',rfl,k _ h'.objs.size c' ((X.mg "__name__").getD .none) ctv (fun b o e _=>H'o b o e) fresh (by rw[AI];exact congrArg (fun z=>some (KO h'.objs.size z)) ho.symm) (H'o _ _ hH) ?_⟩
  obtain⟨oc,vs,t,q1,q2,q3⟩:=hc'
  exact⟨oc,vs,t,H'o _ _ q1,q2,q3⟩
def FnO (H:Hp) (f:Addr):Prop:=∃(o:Obj) (fd:FuncData),H f=some (KO f o)∧o.data=.func fd
theorem FnO.at_ {P:Program}{w:World}{H:Hp}{h:Heap}{f:Addr} (x:FnO H f) (hok:HOk P w H h):PySem.W.FnAt f h:=by
 obtain⟨⟨oc,od,dt,sl⟩,fd,e,d⟩:=x
 have d:dt=.func fd:=d
 subst d
 exact⟨oc,od,fd,sl,E6 hok e⟩
def Y8 (X:Cx) (k i:Nat) (t:TA):TE:=fun σ H Q=>∃(f:Addr) (fd:FuncData) (ps:List Str) (sp:Sp),σ[i]?=some (some (.ref f))∧FnO H f∧FnOk X.prog X.w X.K X.mg X.base CX0 k f fd ps sp∧Binds X.K fd ps []∧t σ H fun vs H1=>FnO H1 f∧sp vs H1 Q E0
theorem QF {k i:Nat}{x:Str}{p pos:Pos}{e:Expr}{es:List Expr}{t:TA} (hr:Room k X.A) (ha:PA X (e::es) t) (hN:X.N[i]?=some x:=by rfl) (hv:Vis X.env.scope x:=by first | exact AZ rfl | exact Dt (AZ rfl) | exact Dt (Dt rfl))
  (hdb:(x==("__debug__":Str))=false:=by decide) (hcd:(x==("__classdict__":Str))=false:=by decide) (he:starEach (e::es) X.env=(false,eval e X.env)::starEach es X.env:=by rfl) (hpl:(backTo pos (starEach es X.env)).any (·.1)=false:=by rfl):
  PE X (.Call (.Name x p) (e::es) [] pos) (Y8 X k i t):=by
 intro pins s σ H Q I h
 obtain⟨f,fd,ps,sp,hi,hf,F,hb,h⟩:=h
 refine Fc (thn (QK hN hv hdb hcd pins s σ H (fun v H1=>v=.ref f∧H1=H) I ⟨_,hi,rfl,rfl⟩) fun u s1 ⟨v,H1,I1,r,e1,e2⟩=>?_)
 subst e1 e2
 obtain rfl:u=.ref f:=r
 refine PySem.W.callWith_F (hf.at_ I1.hok) (thn (ha pos pins s1 σ H1 _ I1 h) fun us s2 ⟨vs,H2,I2,r2,hf2,q⟩=>⟨hf2.at_ I2.hok,?_⟩) he hpl
 refine Qe F hr hb .nil F2 I2 r2 ?_
 rw[C6]
 exact q
def BW (X:Cx):List Addr:=X.env.cells.map (·.2)
def Y7 (X:Cx) (sp:Sp) (t:TA):TE:=fun σ H Q=>t σ H fun vs H1=>∀H2:Hp,(∀b,b∉BW X→H2 b=H1 b)→(∀b∈BW X,H1 b=none)→
 (∀(i:Nat) (x:Str) (v:V) (c:Addr),X.N[i]?=some x→σ[i]?=some (some v)→X.env.kindOf x=some .cell→X.env.cells.lookup x=some c→CellV H2 c v)→
 sp vs H2 (fun v H'=>(∀c∈BW X,H' c=H2 c)∧Q v (hid (BW X) H')) E0
theorem LV {k:Nat}{f:Addr}{fd:FuncData}{ps:List Str}{sp:Sp}{x:Str}{p pos:Pos}{e:Expr}{es:List Expr}{t:TA} (F:FnOk X.prog X.w X.K X.mg X.base CX0 k f fd ps sp) (hr:Room k X.A) (hg:Gl X x) (hm:X.mg x=some (.ref f)) (hk:FX X.K (.ref f)=true)
  (hb:Binds X.K fd ps []) (hfn:∀y,X.fn y=true) (hnd:(X.env.cells.map (·.1)).Nodup) (ha:PA X (e::es) t) (hdb:(x==("__debug__":Str))=false:=by decide) (he:starEach (e::es) X.env=(false,eval e X.env)::starEach es X.env:=by rfl) (hpl:(backTo pos (starEach es X.env)).any (·.1)=false:=by rfl):
  PE X (.Call (.Name x p) (e::es) [] pos) (Y7 X sp t):=by
 intro pins s0 σ H0 Q I0 h0
 refine Fc (G6 I0 hg hm ?_ hdb)
 refine NH (h₀:=X.base) I0.ok.mod.kin hk (thn (ha pos pins s0 σ H0 _ I0 h0) fun us s ⟨vs,H,I,r,h⟩=>⟨I.kIn,?_⟩) he hpl
 have look:∀c∈BW X,∃y,X.env.cells.lookup y=some c:=fun c hc=>by
  obtain⟨q,hq,rfl⟩:=BP.mp hc
  obtain⟨i,hi⟩:=FR.mp hq
  exact⟨q.1,G9 hnd hi⟩
 have cin:∀{y:Str} {c:Addr},X.env.cells.lookup y=some c→c∈BW X:=fun {y c} e=>BP.mpr ⟨(y,c),Bg e,rfl⟩
 have hobj:∀c∈BW X,∃o,s.heap.get? c=some o:=fun c hc=>by
  obtain⟨y,e⟩:=look c hc
  obtain⟨v,o,ho,_⟩:=I.cell y c e
  exact⟨o,ho⟩
 have hnone:∀c∈BW X,H c=none:=fun c hc=>by
  obtain⟨y,e⟩:=look c hc
  exact I.freeC y c e
 let H2:Hp:=fun b=>if b∈BW X then (s.heap.get? b).map (KO b) else H b
 have H2i:∀{c:Addr} {o:Obj},c∈BW X→s.heap.get? c=some o→H2 c=some (KO c o):=fun {c o} hc e=>by
  show(if c∈BW X then (s.heap.get? c).map (KO c) else H c)=_
  rw[if_pos hc,e];rfl
 have H2o:∀{b:Addr},b∉BW X→H2 b=H b:=fun hb=>if_neg hb
 have outc:∀{b:Addr} {u:HO},H b=some u→b∉BW X:=fun e z=>by rw[hnone _ z] at e;cases e
 have nofr:∀c∈BW X,c∉frs X.stack:=fun c hc z=>by
  obtain⟨y,e⟩:=look c hc
  rcases AS.mp (I.stkSub c z) with q | q
  ·exact I.cne y c e q
  ·obtain⟨_,o,ho,_⟩:=I.ok.funs.mem q
   exact absurd (BV (Ao ho) (I.ok.cab y c (hfn y) e)) (Cp _)
 have e0:Env0 X.prog X.w X.K X.mg X.base X.A X.stack s H2:=by
  have z:=I.env0
  refine⟨z.frames,z.mod,fun b o e=>⟨(z.bs b o e).1,?_⟩,z.bsz,z.funs,fun b hb=>?_,fun a o e=>?_,z.bare⟩
  ·rw[H2o fun hc=>?_]
   ·exact(z.bs b o e).2
   ·obtain⟨y,q⟩:=look b hc
    exact absurd (BV (Ao e) (Ba I.ok.bsz (I.ok.cab y b (hfn y) q))) (Cp _)
  ·rw[H2o fun hc=>nofr b hc hb]
   exact z.frf b hb
  ·by_cases hc:a∈BW X
   ·obtain⟨ob,ho⟩:=hobj a hc
    rw[H2i hc ho] at e;cases e
    exact G5 ho
   ·rw[H2o hc] at e
    exact(I.hok a o e).stay (fun _ _ _ q=>q) (fun b q=>by rw[H2o (outc q)];exact q) fun b xs q=>by rw[H2o (outc q)];exact q
 have hsp:=h H2 (fun b hb=>H2o hb) hnone fun i y v c h1 h2 h3 h4=>by
  obtain⟨m,hn,hl⟩:=I.loc
  obtain⟨u,rv,lk⟩:=hl i y v h1 h2 (.inr (.inl h3))
  rcases lk with ⟨q,_⟩ | ⟨_,c₂,q1,o,ho,hd⟩
  ·rw[h3] at q;cases q
  ·rw[h4] at q1;cases q1
   exact⟨o,u,H2i (cin h4) ho,hd,rv⟩
 have hl:us.length=ps.length:=by rw[← r.length];exact F.len _ _ _ _ hsp
 refine NT (FZ (F.run X.A X.stack s H2 ⟨us,[]⟩ us vs _ E0 hr e0 (by have:=hb s us I.kIn (by rw[C6];exact hl);rw[C6] at this;exact this) r hsp) fun r' s' hq=>?_)
 cases r' with
 | error e=>exact BL hq
 | ok fl =>
  cases fl with
  | next=>exact BL hq
  | brk=>exact BL hq
  | cont=>exact BL hq
  | ret u =>
   obtain⟨v,H',os,bare,un,hok,rv,hc',q⟩:=hq
   have kept:∀c o,c∈BW X→s.heap.get? c=some o→s'.heap.get? c=some o∧H' c=some (KO c o):=fun c o hc e=>by
    have e2:=(hc' c hc).trans (H2i hc e)
    exact⟨E6 hok e2,e2⟩
   refine I.after ⟨v,hid (BW X) H',os,bare,⟨fun b o e n hb hx=>?_,fun b o e n hb hx=>?_,fun b o e n hx=>?_,fun b o e hx=>un.there b o e hx,fun b xs e=>?_,fun b o u e=>?_,fun b qs e=>?_⟩,hok.hid fun b hb u e=>?_,rv,q⟩
   ·by_cases hc:b∈BW X
    ·exact(kept b o hc e).1
    ·exact un.keep b o e (by rw[H2o hc];exact n) hb hx
   ·have hc:b∉BW X:=fun z=>nofr b z hb
    exact un.slot b o e (by rw[H2o hc];exact n) hb hx
   ·by_cases hc:b∈BW X
    ·exact DC hc
    ·rw[Ax hc]
     exact un.free b o e (by rw[H2o hc];exact n) hx
   ·rw[Ax (outc e)]
    exact un.tups b xs (by rw[H2o (outc e)];exact e)
   ·rw[Ax (outc e)]
    exact un.frzs b o u (by rw[H2o (outc e)];exact e)
   ·rw[Ax (outc e)]
    exact un.tbls b qs (by rw[H2o (outc e)];exact e)
   ·obtain⟨o,ho⟩:=hobj b hb
    rw[(kept b o hb ho).2] at e
    cases e
    exact⟨_,rfl⟩
end
end L2
end
section
set_option maxRecDepth 100000
set_option maxHeartbeats 4000000
namespace Fb
open PySem PySem.Spec PyProof.Rows L2
abbrev Qm:Stmt:=RT
def Uz (H H1 H2:Hp):Prop:=∀b o,H b=none→H1 b=some o→H2 b=some o
theorem VY (xs:List V) (v:V):CO (xs++[v]) none (some (-1))=xs:=by
 unfold CO
 have e1:HT.sIx (xs++[v]).length 0 none=0:=rfl
 have e2:HT.sIx (xs++[v]).length (xs++[v]).length (some (-1))=xs.length:=by
  show(if (-1:Int) < 0 then ((-1:Int)+((xs++[v]).length:Nat)).toNat else min (-1:Int).toNat (xs++[v]).length)=_
  rw[if_pos (by decide),BO]
  simp only[C7]
  omega
 rw[e1,e2]
 simp
structure KY (P:Program) (w:World) (K:AA) (mg:Str→Option Value) (kT:Nat) (H:Hp) (f:Addr) (full:List (List Int)) (J:Nat→Hp→Prop) (R:Nat→Int):Prop where
 st:J 0 H
 mono:∀i H1 H2,J i H1→Same H1 H2→J i H2
 fn:∀i H1,J i H1→FnO H1 f
 ok:∃(fd:FuncData) (sp':Sp),(∀base:Heap,FnOk P w K mg base CX0 kT f fd ["number","line"] sp')∧Binds K fd ["number","line"] []∧
  ∀(i:Nat) (la:Addr) (ln:List Int) (H1:Hp) (Q1:VK),full[i]?=some ln→J i H1→H la=none→H1 la=some (.lst (ln.map V.int))→
   (∀H2,Uz H H1 H2→(R i=0→J (i+1) H2)→(R i≠0→J i H2)→Q1 (.int (R i)) H2)→sp' [.int (i:Nat),.ref la] H1 Q1 E0
def Told (full:List (List Int)) (rest:List Int) (R:Nat→Int) (j:Nat) (res:List Int):Prop :=
 (j < full.length∧(∀i < j,R i=0)∧R j≠0∧res=[R j,(j:Int)])∨(j=full.length∧(∀i < j,R i=0)∧res=if rest=[] then [] else [1,(j:Int)])
def Ls (P:Program) (w:World) (K:AA) (mg:Str→Option Value) (kT:Nat):Sp:=fun vs H Q _=>∃(a f:Addr) (ns:List Int) (full:List (List Int)) (rest:List Int) (J:Nat→Hp→Prop) (R:Nat→Int),
 vs=[.ref a,.ref f]∧SqL K H a (ns.map V.int)∧ns.length < 100000∧Af 10 ns=full++[rest]∧KY P w K mg kT H f full J R∧
 ∀(H':Hp) (p:Addr) (j:Nat) (res:List Int),J j H'→H' p=none→Told full rest R j res→Q (.ref p) (upd H' p (.lst (res.map V.int)))
theorem scFirst:AY ["text","take","lines","number","line","kind"] ["text","take"] (AK Qm):=⟨rfl,rfl,rfl,by decide +kernel,rfl,by decide +kernel,by decide +kernel⟩
section
variable {P:Program}{w:World}{K:AA}{mg:Str→Option Value}{base:Heap}
theorem ok_first {f0:Addr}{fd0:FuncData}{kT:Nat} (F:Fun K "first_fault" "first_fault" Qm f0 fd0) (B:Blt mg) (c1:Cst mg "LINE_END" (.int 10)) (c2:Cst mg "NO_SUCH_LINE" (.int 1)) (g1:Has P w K mg "split_at" 1 ["mark","values"] (EC K)):
  FnOk P w K mg base CX0 (kT+2) f0 fd0 ["text","take"] (Ls P w K mg kT):=by
 refine F.ok (k:=kT+1) scFirst (fun vs H Q E h=>?_) (fun cdv A outer s H vs Q E hr h=>?_)
 ·obtain⟨a,f,ns,full,rest,J,R,rfl,_⟩:=h
  rfl
 ·obtain⟨a,f,ns,full,rest,J,R,rfl,hS,hlen,hcut,T,k⟩:=h
  have hr1:Room 1 _:=hr.mono (by omega)
  have hrT:Room kT _:=hr.mono (by omega)
  obtain⟨fd,sp',hF,hB,hstep⟩:=T.ok
  refine⟨_,AJ (BB (i:=2) scFirst.nd rfl (AZ rfl) (AN g1 hr1 (by rfl) (AB (AW c1 rfl) (AB (pv 0) AD))))
   (AJ (FA FV rfl (QL (by rfl) B.enumerate (AB (F4 GF (pv 2) F7 (F8 (F5 GK AO))) AD)) (LZ rfl (F6 (Bs (i:=3) scFirst.nd rfl (AZ rfl)) (F6 (Bs (i:=4) scFirst.nd rfl (AZ rfl)) La)))
    (AJ (BB (i:=5) scFirst.nd rfl (AZ rfl) (QF (k:=kT) (i:=1) hrT (AB (pv 3) (AB (pv 4) AD))))
     (AH (Al (Ac Iu (pv 5) AO (AR _)) (AH (AL (A8 (AB (pv 5) (AB (pv 3) AD))))) Ap))))
   (AJ (Al (Ac F1 (A1 Bq (by rfl) B.len Bf (AB (Bm Bl (pv 2) (F5 GK AO) (fun _ _=>rfl)) AD)) AO (AR _))
     (AH (AL (A8 (AB (AW c2 rfl) (AB (D6 LR (A1 Bq (by rfl) B.len Bf (AB (pv 2) AD)) AO) AD))))) Ap)
   (AH (AL (A8 AD))))),?_⟩
  refine⟨_,rfl,a,10,ns,rfl,hS,hlen,fun H1 p as s1 np nas hp hpa=>?_⟩
  rw[hcut] at hpa
  have hal:=CT hpa
  rw[BO,C7] at hal
  obtain⟨asF,aR,rfl⟩:∃asF aR,as=asF++[aR]:=by
   have ne:as≠[]:=by intro q;rw[q] at hal;simp at hal
   exact⟨as.dropLast,as.getLast ne,(JY ne).symm⟩
  have hlF:asF.length=full.length:=by rw[BO,C7] at hal;omega
  have hcl:=Fl 10 ns
  rw[hcut,BO,C7] at hcl
  refine⟨_,rfl,_,rfl,_,rfl,p,_,rfl,SqL.of hp,fun q nq=>?_⟩
  have emap:(asF++[aR]).map V.ref=asF.map V.ref++[V.ref aR]:=CU
  have ecut:CO ((asF++[aR]).map V.ref) none (some (-1))=asF.map V.ref:=by rw[emap];exact VY _ _
  rw[ecut]
  have s2:Same H1 (upd H1 q (.lst (asF.map V.ref))):=(Same.refl H1).new nq
  have nq0:H q=none:=s1.free nq
  have hq1:upd H1 q (.lst (asF.map V.ref)) q=some (.lst (asF.map V.ref)):=AI
  have hp1:=s2 _ _ hp
  have hpa1:Paired (fun a ps=>upd H1 q (.lst (asF.map V.ref)) a=some (.lst (ps.map V.int))) (asF++[aR]) (full++[rest]):=Paired.mapP hpa fun a b e=>s2 _ _ e
  have J0:J 0 (upd H1 q (.lst (asF.map V.ref))):=T.mono 0 _ _ T.st (s1.trans s2)
  generalize upd H1 q (.lst (asF.map V.ref))=H2 at hq1 hp1 hpa1 J0 ⊢
  refine⟨q,_,rfl,SqL.of hq1,?_⟩
  refine Gz (n:=full.length) (fun i σ H'=>∃(v3 v4 v5:Option V),σ=[some (.ref a),some (.ref f),some (.ref p),v3,v4,v5]∧J i H'∧(∀i' < i,R i'=0)∧H' q=some (.lst (asF.map V.ref))∧
    H' p=some (.lst ((asF++[aR]).map V.ref))∧Paired (fun a ps=>H' a=some (.lst (ps.map V.int))) (asF++[aR]) (full++[rest]))
   ⟨none,none,none,rfl,J0,fun i' h=>absurd h (Jt _),hq1,hp1,hpa1⟩ ?_ ?_ ?_ ?_
  ·rintro i σ H' hi ⟨_,_,_,_,_,_,h,_⟩
   exact⟨_,_,SqL.of h,BD (by rw[AG,hlF];exact hi)⟩
  ·rintro σ H' ⟨_,_,_,_,_,_,h,_⟩
   exact⟨_,SqL.of h,by rw[AG,hlF];exact AV _⟩
  ·rintro i y σ H' H3 hi ⟨v3,v4,v5,rfl,hJ,hR,hq,hp,hpa⟩ ⟨Tp,x,rfl,nT,rfl,hx⟩
   have hxi:=hx _ (SqL.of hq)
   rw[Aj] at hxi
   cases hla:asF[i]? with
   | none=>rw[hla] at hxi;cases hxi
   | some la =>
   rw[hla] at hxi
   have ex:V.ref la=x:=Ae hxi
   subst ex
   have hlaA:(asF++[aR])[i]?=some la:=by rw[Jb (by omega)];exact hla
   obtain⟨ln,hln⟩:∃ln,full[i]?=some ln:=⟨_,BD hi⟩
   have hlnA:(full++[rest])[i]?=some ln:=by rw[Jb hi];exact hln
   have nla:H la=none:=nas la (CV hlaA)
   have hlaH:H' la=some (.lst (ln.map V.int)):=by
    obtain⟨la',e1,e2⟩:=DE hpa hlnA
    rw[hlaA] at e1
    cases e1
    exact e2
   have s3:Same H' (upd H' Tp (.tup [.int (i:Nat),.ref la])):=(Same.refl H').new nT
   have hT:upd H' Tp (.tup [.int (i:Nat),.ref la]) Tp=some (.tup [.int (i:Nat),.ref la]):=AI
   generalize upd H' Tp (.tup [.int (i:Nat),.ref la])=H3 at s3 hT ⊢
   have hJ3:=T.mono i _ _ hJ s3
   refine⟨Tp,_,rfl,.inl (.inl hT),rfl,_,_,rfl,_,_,rfl,rfl,?_⟩
   refine⟨f,fd,["number","line"],sp',rfl,T.fn i _ hJ3,hF _,hB,_,rfl,_,rfl,T.fn i _ hJ3,?_⟩
   refine hstep i la ln H3 _ hln hJ3 nla (s3 _ _ hlaH) fun H4 nk z nz=>?_
   refine⟨_,rfl,rfl,_,rfl,?_⟩
   by_cases hz:R i=0
   ·refine WT (congrArg V.int hz) ?_
    refine⟨_,_,_,rfl,z hz,fun i' h'=>?_,nk _ _ nq0 (s3 _ _ hq),nk _ _ np (s3 _ _ hp),?_⟩
    ·rcases Jo.mp h' with q | q
     ·exact hR i' q
     ·rw[q];exact hz
    ·exact HF hpa fun b ps hb e=>nk _ _ (nas b hb) (s3 _ _ e)
   ·have hne:¬V.int (R i)=V.int 0:=fun q=>hz (by injection q)
    rw[decide_eq_false hne]
    refine PF ?_
    refine⟨_,rfl,_,rfl,(show 2≤sizeLine from CH (by decide)),fun l nl=>?_⟩
    exact k H4 l i [R i,(i:Int)] (nz hz) nl (.inl ⟨hi,hR,hz,rfl⟩)
  ·rintro σ H' ⟨v3,v4,v5,rfl,hJ,hR,hq,hp,hpa⟩
   have hRest:H' aR=some (.lst (rest.map V.int)):=by
    obtain⟨la',e1,e2⟩:=DE hpa (i:=full.length) (b:=rest) (by simp)
    rw[He (by omega)] at e1
    rw[hlF,Ju] at e1
    cases e1
    exact e2
   refine⟨_,rfl,_,rfl,p,_,_,_,rfl,rfl,SqL.of hp,by rw[emap];exact Kc _ _,aR,_,rfl,.inl (SqL.of hRest),_,_,rfl,rfl,_,rfl,?_⟩
   by_cases hz:rest=[]
   ·have:¬(0:Int) < (((rest.map V.int).length:Nat):Int):=by rw[hz];simp
    rw[decide_eq_false this]
    refine Ie ?_
    refine⟨CH (by decide),fun l nl=>?_⟩
    refine k H' l full.length [] hJ nl (.inr ⟨rfl,hR,?_⟩)
    rw[if_pos hz]
   ·have:(0:Int) < (((rest.map V.int).length:Nat):Int):=by
     rw[AG]
     cases rest with
     | nil=>exact absurd rfl hz
     | cons a b=>simp
    rw[decide_eq_true this]
    refine PF ?_
    refine⟨_,rfl,p,_,rfl,.inl (SqL.of hp),_,_,rfl,rfl,(show 2≤sizeLine from CH (by decide)),fun l nl=>?_⟩
    have e9:(((asF++[aR]).map V.ref).length:Int) - 1=(full.length:Int):=by
     rw[AG,BO,C7,hlF]
     omega
    show Q (.ref l) (upd H' l (.lst [V.int 1,V.int ((((asF++[aR]).map V.ref).length:Int) - 1)]))
    rw[e9]
    refine k H' l full.length [1,(full.length:Int)] hJ nl (.inr ⟨rfl,hR,?_⟩)
    rw[if_neg hz]
end
end Fb
end
section
set_option maxRecDepth 100000
set_option maxHeartbeats 4000000
namespace Fb
open PySem PySem.Spec PyProof.Rows L2
theorem bT {b:Bool}{A C:Prop} (h:b=true) (k:A):if b=true then A else C:=by rw[if_pos h];exact k
theorem bF {b:Bool}{A C:Prop} (h:b=false) (k:C):if b=true then A else C:=by rw[if_neg (by rw[h];exact Ag)];exact k
theorem JR {a b:Int} (h:V.int a=V.int b):a=b:=by injection h
theorem BK {a b:Int} (h:a≠b):¬V.int a=V.int b:=fun q=>h (JR q)
abbrev RA:Stmt:=R4
def L0 (K:AA):Sp:=fun vs H Q _=>∃(a:Addr) (ns:List Int) (m:Int),vs=[.ref a,.int m]∧SqL K H a (ns.map V.int)∧Pur H Q (.int (DI m ns))
theorem scSmall:AY ["word","most","number"] ["word","most"] (AK RA):=⟨rfl,rfl,rfl,by decide +kernel,rfl,by decide +kernel,by decide +kernel⟩
section
variable {P:Program}{w:World}{K:AA}{mg:Str→Option Value}{base:Heap}
theorem ok_small {f:Addr}{fd:FuncData} (F:Fun K "small_number" "small_number" RA f fd) (B:Blt mg):FnOk P w K mg base CX0 1 f fd ["word","most"] (L0 K):=by
 refine F.ok scSmall (fun vs H Q E h=>?_) (fun cdv A outer s H vs Q E hr h=>?_)
 ·obtain⟨a,ns,m,rfl,_⟩:=h
  rfl
 ·obtain⟨a,ns,m,rfl,hS,k⟩:=h
  have kk:=k H (Same.refl H)
  refine⟨_,AJ (Al (Ac Iu (A1 Bq (by rfl) B.len Bf (AB (pv 0) AD)) AO (AR _)) (AH (AL AO)) Ap)
   (AJ (BB (i:=2) scSmall.nd rfl (AZ rfl) (D6 LR (Bm Bl (pv 0) AO (fun _ _=>rfl)) (A1 Fi (by rfl) B.ord GZ (AB DT AD))))
   (AH (AL (LX (Xo CZ CZ AO (pv 2) (pv 1)) (pv 2) AO)))),?_⟩
  refine⟨_,rfl,a,_,rfl,.inl hS,rfl,_,rfl,?_⟩
  match ns,hS,kk with
  | [],hS,kk=>exact bT rfl kk
  | c::d::r,hS,kk =>
   refine bT ?_ kk
   rw[decide_eq_false (BK (by simp;omega))];rfl
  | [c],hS,kk =>
   refine bF (by rw[decide_eq_true (show V.int ((([c]:List Int).map V.int).length:Nat)=V.int 1 from rfl)];rfl) ?_
   refine⟨_,rfl,a,_,_,_,rfl,rfl,hS,Bw (j:=0) rfl,_,rfl,rfl,_,_,rfl,rfl,_,rfl,_,_,rfl,rfl,_,rfl,?_⟩
   have e48:((Dv "0").cps.getD 0 0:Nat)=48:=rfl
   unfold DI at kk
   have kk:Q (.int (if 1≤c - 48∧c - 48≤m then c - 48 else 0)) H:=kk
   by_cases h1:1≤c - 48
   ·refine bT (decide_eq_true h1) ?_
    refine⟨_,rfl,_,_,rfl,rfl,_,rfl,?_⟩
    by_cases h2:c - 48≤m
    ·rw[if_pos ⟨h1,h2⟩] at kk
     exact bT (decide_eq_true h2) ⟨_,rfl,kk⟩
    ·rw[if_neg fun q=>h2 q.2] at kk
     exact bF (decide_eq_false h2) kk
   ·rw[if_neg fun q=>h1 q.1] at kk
    exact bF (decide_eq_false h1) ⟨_,rfl,bF rfl kk⟩
end
abbrev Q8:Stmt:=R1
def Ck (ns:List Int):Int:=if ns=BJ "square" then 0 else if ns=BJ "tails" then 1 else if ns=BJ "long" then 2 else -1
def shps:List Str:=["square","tails","long"]
def KS (K:AA) (mg:Str→Option Value) (x:Str) (xs:List V):Prop:=∃t:Addr,mg x=some (.ref t)∧∀H:Hp,SqT K H t xs
def Sk (K:AA):Sp:=fun vs H Q _=>∃(a:Addr) (ns:List Int),vs=[.ref a]∧SqL K H a (ns.map V.int)∧Pur H Q (.int (Ck ns))
theorem scShape:AY ["word","number","shape"] ["word"] (AK Q8):=⟨rfl,rfl,rfl,by decide +kernel,rfl,by decide +kernel,by decide +kernel⟩
section
variable {P:Program}{w:World}{K:AA}{mg:Str→Option Value}{base:Heap}
theorem ok_shape {f:Addr}{fd:FuncData} (F:Fun K "shape_told" "shape_told" Q8 f fd) (B:Blt mg) (c1:KS K mg "SHAPES" (shps.map V.str)) (g1:Has P w K mg "letters" 1 ["word"] HP):FnOk P w K mg base CX0 2 f fd ["word"] (Sk K):=by
 refine F.ok scShape (fun vs H Q E h=>?_) (fun cdv A outer s H vs Q E hr h=>?_)
 ·obtain⟨a,ns,rfl,_⟩:=h
  rfl
 ·obtain⟨a,ns,rfl,hS,k⟩:=h
  obtain⟨t,hmg,hSh⟩:=c1
  refine⟨_,AJ (FA FV rfl (Xj (by rfl) B.enumerate (AB (AW (v:=.ref t) ⟨_,hmg,rfl⟩ rfl) AD)) (LZ rfl (F6 (Bs (i:=1) scShape.nd rfl (AZ rfl)) (F6 (Bs (i:=2) scShape.nd rfl (AZ rfl)) La)))
    (AH (Al (Ac (EX hr.units) (pv 0) (AN g1 hr (by rfl) (AB (pv 2) AD)) (AR _)) (AH (AL (pv 1))) Ap)))
   (AH (AL (F5 GK AO))),?_⟩
  refine⟨t,_,rfl,hSh _,?_⟩
  refine Gz (n:=3) (fun i σ H'=>∃(v1 v2:Option V),σ=[some (.ref a),v1,v2]∧Same H H'∧∀j x,j < i→shps[j]?=some x→ns≠BJ x) ⟨none,none,rfl,Same.refl H,fun j x h=>absurd h (Jt _)⟩ ?_ ?_ ?_ ?_
  ·rintro i σ H' hi _
   exact⟨_,_,hSh _,BD (by rw[AG];exact hi)⟩
  ·rintro σ H' _
   exact⟨_,hSh _,rfl⟩
  ·rintro i y σ H' H2 hi ⟨v1,v2,rfl,s1,hno⟩ ⟨T,x,rfl,nT,rfl,hx⟩
   have hxi:=hx _ (hSh _)
   rw[Aj] at hxi
   cases hs:shps[i]? with
   | none=>rw[hs] at hxi;cases hxi
   | some z =>
   rw[hs] at hxi
   have ex:V.str z=x:=Ae hxi
   subst ex
   have s2:Same H' (upd H' T (.tup [.int (i:Nat),.str z])):=(Same.refl H').new nT
   have hT:upd H' T (.tup [.int (i:Nat),.str z]) T=some (.tup [.int (i:Nat),.str z]):=AI
   generalize upd H' T (.tup [.int (i:Nat),.str z])=H2 at s2 hT ⊢
   refine⟨T,_,rfl,.inl (.inl hT),rfl,_,_,rfl,_,_,rfl,rfl,?_⟩
   have hzs:z.cps.size < 1000:=by
    have:i=0∨i=1∨i=2:=by omega
    rcases this with rfl | rfl | rfl <;> (cases hs;decide)
   refine⟨_,rfl,_,rfl,z,rfl,hzs,fun H3 q s3 nq hq=>?_⟩
   refine⟨_,_,A6 (s3.seq (s2.seq (s1.seq hS))),A6 (SqL.of hq),A2 _,A2 _,?_⟩
   rw[CP]
   refine⟨_,rfl,?_⟩
   have s4:=(s1.trans s2).trans s3
   by_cases e:ns=BJ z
   ·refine bT (decide_eq_true e) ⟨_,rfl,?_⟩
    have ev:Ck ns=(i:Int):=by
     unfold Ck
     have hi':i=0∨i=1∨i=2:=by omega
     rcases hi' with rfl | rfl | rfl
     ·cases hs;rw[if_pos e];rfl
     ·cases hs;rw[if_neg (hno 0 "square" (by decide) rfl),if_pos e];rfl
     ·cases hs;rw[if_neg (hno 0 "square" (by decide) rfl),if_neg (hno 1 "tails" (by decide) rfl),if_pos e];rfl
    have:=k H3 s4
    rw[ev] at this
    exact this
   ·refine bF (decide_eq_false e) ⟨_,_,rfl,s4,fun j x hj hx=>?_⟩
    rcases Jo.mp hj with q | q
    ·exact hno j x q hx
    ·rw[q,hs] at hx;cases hx;exact e
  ·rintro σ H' ⟨v1,v2,rfl,s1,hno⟩
   have ev:Ck ns=-1:=by
    unfold Ck
    rw[if_neg (hno 0 "square" (by decide) rfl),if_neg (hno 1 "tails" (by decide) rfl),if_neg (hno 2 "long" (by decide) rfl)]
   have:=k H' s1
   rw[ev] at this
   exact⟨_,rfl,this⟩
end
end Fb
end
section
set_option maxRecDepth 100000
set_option maxHeartbeats 4000000
namespace Fb
open PySem PySem.Spec PyProof.Rows L2
def ER (k:Option AM):Bool:=match k.map TQ with
 | some (.same _)=>true
 | _=>false
def HL (k:Option AM):Nat:=match k.map TQ with
 | some (.same k)=>k
 | _=>0
theorem RI:∀(ks:List AM) (i:Nat),BG i (ks.map zk)=((CW ks.length).filter fun f=>ER ks[f]?).map fun f=>(Ar ((HL ks[f]?:Nat):Int),V.int ((i+f:Nat):Int))
 | [],i=>rfl
 | k::ks,i=>by
  rw[Au,GC,B1,Jj,Ei]
  have e:((CW ks.length).map Jv).filter (fun f=>ER (k::ks)[f]?)=((CW ks.length).filter fun f=>ER ks[f]?).map Jv:=by
   rw[Tc]
   rfl
  have e2:(((CW ks.length).filter fun f=>ER ks[f]?).map Jv).map (fun f=>(((Ar ((HL (k::ks)[f]?:Nat):Int):Key),V.int ((i+f:Nat):Int))))=BG (i+1) (ks.map zk):=by
   rw[RI ks (i+1),Jh]
   apply DL
   intro f _
   show(Ar ((HL ks[f]?:Nat):Int),V.int ((i+(f+1):Nat):Int))=(Ar ((HL ks[f]?:Nat):Int),V.int ((i+1+f:Nat):Int))
   rw[show i+(f+1)=i+1+f by omega]
  rw[e]
  cases hr:k.role with
  | same j =>
   have h1:(zk k).lab=.same (j:Int):=by show zl k.role=_;rw[hr];rfl
   have h2:ER (k::ks)[0]?=true:=by show(match some k.role with | some (.same _)=>true | _=>false)=true;rw[hr]
   have h3:HL (k::ks)[0]?=j:=by show(match some k.role with | some (.same k)=>k | _=>0)=j;rw[hr]
   rw[h1,h2,if_pos rfl,Au,e2,h3]
   rfl
  | sign n =>
   have h1:(zk k).lab=.sign (zs n):=by show zl k.role=_;rw[hr];rfl
   have h2:ER (k::ks)[0]?=false:=by show(match some k.role with | some (.same _)=>true | _=>false)=false;rw[hr]
   rw[h1,h2,if_neg Ag,e2]
  | answer =>
   have h1:(zk k).lab=.ans:=by show zl k.role=_;rw[hr];rfl
   have h2:ER (k::ks)[0]?=false:=by show(match some k.role with | some (.same _)=>true | _=>false)=false;rw[hr]
   rw[h1,h2,if_neg Ag,e2]
theorem YF (L:Ai):BG 0 (L.kinds.map zk)=L.sameKinds.map fun f=>(Ar ((L.points f:Nat):Int),V.int ((f:Nat):Int)):=by
 rw[RI]
 show _=(((CW L.kinds.length).filter fun f=>ER L.kinds[f]?)).map _
 apply DL
 intro f _
 rw[EG]
 rfl
theorem QQ {L:Ai} (w:Wf L.kinds):L.sameKinds.Pairwise fun f g=>L.points f < L.points g:=by
 have h0:(CW L.kinds.length).Pairwise (· < ·):=Mp
 have h1:L.sameKinds.Pairwise (· < ·):=MZ _ h0
 refine TV.imp_of_mem ?_ h1
 intro f g hf hg hlt
 obtain⟨k,j,e1,e2⟩:=Fm.same_at hf
 obtain⟨k',j',e3,e4⟩:=Fm.same_at hg
 have p1:L.points f=j:=by unfold MU;rw[e1];show(match some k.role with | some (.same k)=>k | _=>0)=j;rw[e2]
 have p2:L.points g=j':=by unfold MU;rw[e3];show(match some k'.role with | some (.same k)=>k | _=>0)=j';rw[e4]
 rw[p1,p2]
 obtain⟨l1,e1'⟩:=Bd.mp e1
 obtain⟨l2,e3'⟩:=Bd.mp e3
 have:=Ts.mp w.sames f g l1 l2 hlt j j'
 rw[e1',e3'] at this
 exact this e2 e4
theorem QW {F:Nat→Nat}:∀{l:List Nat}{a b:Nat},l.Pairwise (fun f g=>F f < F g)→(∀f∈l,a < F f∧F f≤b)→l.length≤b - a
 | [],_,_,_,_=>A5 _
 | f::l,a,b,h,hb=>by
  obtain⟨h1,h2⟩:=El.mp h
  have hf:=hb f AU
  have:=QW (l:=l) (a:=F f) (b:=b) h2 fun g hg=>⟨h1 g hg,(hb g (As _ hg)).2⟩
  rw[B1]
  omega
theorem Pn {L:Ai} (w:Wf L.kinds) (r:List Nat) (i:Nat) (fs:List Nat) (hs:fs.Sublist L.sameKinds):(fs.filter fun (f:Nat)=>decide (L.points f≤i)&&r.getD (L.points f - 1) 0==r.getD i 0).length≤i:=by
 have:=QW (F:=L.points) (l:=fs.filter fun (f:Nat)=>decide (L.points f≤i)&&r.getD (L.points f - 1) 0==r.getD i 0) (a:=0) (b:=i) (MZ _ ((QQ w).sublist hs)) fun f hf=>by
  obtain⟨h1,h2⟩:=Ci.mp hf
  rw[BI,decide_eq_true_eq] at h2
  exact⟨QP w f (hs.subset h1),h2.1⟩
 omega
theorem S5 {L:Ai}:∀{fs:List Nat},fs.Pairwise (fun f g=>L.points f < L.points g)→∀{f:Nat},f∈fs→Aq (fs.map fun f=>((Ar ((L.points f:Nat):Int):Key),V.int ((f:Nat):Int))) (Ar ((L.points f:Nat):Int))=some (.int (f:Nat))
 | g::fs,h,f,hf=>by
  obtain⟨h1,h2⟩:=El.mp h
  rw[Au]
  rcases AS.mp hf with e | e
  ·subst e
   exact Ce rfl
  ·rw[Cd]
   ·exact S5 h2 e
   ·intro q
    have q:((L.points g:Nat):Int)=((L.points f:Nat):Int):=Hu q
    have:=h1 f e
    omega
theorem V4 {p:Nat→Bool}{l:List Nat}{i x:Nat} (h:l[i]?=some x):(l.take (i+1)).filter p=(l.take i).filter p++if p x=true then [x] else []:=by
 rw[JQ h,TZ,Ei,List.filter_nil]
theorem Ow {r:List Nat}{i:Nat} (h:i < r.length):((zn r).map V.int)[i]?=some (.int ((r.getD i 0:Nat):Int)):=by
 unfold zn
 rw[Jh,Aj,BD h,Ej,BD h]
 rfl
theorem Yg {K:AA}{H:Hp}{a d:Addr}{xs:List V}{kvs:List (Key×V)}{o:HO} (hd:H d=some (.dK kvs)) (h:SqL K H a xs):SqL K (upd H d o) a xs:=by
 rcases h with (h | ⟨u,h⟩) | h
 ·exact .inl (.inl (by rw[AE (Bb h hd (by intro q;cases q))];exact h))
 ·exact .inl (.inr ⟨u,by rw[AE (Bb h hd (by intro q;cases q))];exact h⟩)
 ·exact .inr h
abbrev Li:Stmt:=Rl
def SQ (K:AA) (CL CK:Addr):Sp:=fun vs H Q _=>∃(a b:Addr) (i:Nat) (p:LA) (L:Ai) (fl:List Int) (r:List Nat),vs=[.ref a,.ref b,.int (i:Nat)]∧LockAt CL CK H a p (zs L.name) (L.kinds.map zk) fl∧Wf L.kinds∧SqL K H b ((zn r).map V.int)∧i < r.length∧r.length < 1000∧
 Fg H Q (zn (r.getD i 0::Fm.mayAt L r i))
theorem scKTM:AY ["locker","signs","place","sign","k"] ["locker","signs","place"] (AK Li):=⟨rfl,rfl,rfl,by decide +kernel,rfl,by decide +kernel,by decide +kernel⟩
section
variable {P:Program}{w:World}{K:AA}{mg:Str→Option Value}{base:Heap}{CL CK:Addr}
theorem ok_ktm {f:Addr}{fd:FuncData} (F:Fun K "kinds_that_mean" "kinds_that_mean" Li f fd) (TL:LockC K CL):FnOk P w K mg base CX0 1 f fd ["locker","signs","place"] (SQ K CL CK):=by
 refine F.ok scKTM (fun vs H Q E h=>?_) (fun cdv A outer s H vs Q E hr h=>?_)
 ·obtain⟨a,b,i,p,L,fl,r,rfl,_⟩:=h
  rfl
 ·obtain⟨a,b,i,p,L,fl,r,rfl,hL,hW,hS,hi,hlen,k⟩:=h
  have hu:=E1 hr
  refine⟨_,AJ (BB (i:=3) scKTM.nd rfl (Dt rfl) (Bm Bl (pv 1) (pv 2) (fun _ _=>rfl)))
   (AH (AL (D6 P8 (A8 (AB (pv 3) AD)) (QI (Dk (own:=[("k",4)]) rfl scKTM.nd (QM (Ak (pv 0) rfl)) (Df (N:=["locker","signs","place","sign","k"]) (sc:=AK Li) (by decide +kernel))
    (fun s H C cl fp=>Bs (i:=4) scKTM.nd rfl (AZ rfl)) (fun s H C cl fp=>Xp (PW.pt (Dl (Ac CZ (pv 4) (pv 2) (AR _)) (Ec (Ac BY (Xe K rfl (pv 1) (D6 LR (pv 4) AO) (fun _ _=>rfl)) (pv 3) (AR _))))))
    (fun s H C cl fp=>XZ hu (E8 K rfl (pv 0) rfl) (pv 4) (fun _ _=>rfl))))))),?_⟩
  obtain⟨dx,ho⟩:=hL.ob
  have hsm:=hL.sm
  rw[YF] at hsm
  generalize hfs:L.sameKinds=fs at hsm
  have hri:fs.Pairwise (fun f g=>L.points f < L.points g):=hfs▸QQ hW
  generalize hkv:(fs.map fun f=>((Ar ((L.points f:Nat):Int):Key),V.int ((f:Nat):Int)))=kvs at hsm
  refine⟨_,rfl,_,rfl,b,_,(i:Nat),_,rfl,rfl,hS,Bw (Ow hi),?_⟩
  refine⟨_,rfl,(show 1≤sizeLine from CH (by decide)),fun l1 n1=>?_⟩
  have s1:Same H (upd H l1 (.lst [.int ((r.getD i 0:Nat):Int)])):=(Same.refl H).new n1
  have hl1:upd H l1 (.lst [.int ((r.getD i 0:Nat):Int)]) l1=some (.lst [.int ((r.getD i 0:Nat):Int)]):=AI
  generalize upd H l1 (.lst [.int ((r.getD i 0:Nat):Int)])=H1 at s1 hl1
  have hsm1:=s1 _ _ hsm
  refine⟨p.sm,_,hsm1,trivial,fun od=>?_⟩
  have hfz:upd H1 p.sm (.frz od (.dK kvs)) p.sm=some (.frz od (.dK kvs)):=AI
  have s0:∀x o,H1 x=some o→x≠p.sm→upd H1 p.sm (.frz od (.dK kvs)) x=some o:=fun x o e n=>by rw[AE n];exact e
  have nap:a≠p.sm:=Bb ho hsm (by intro q;cases q)
  have nb:∀xs,∀x,H1 x=some (.lst xs)→x≠p.sm:=fun xs x e=>Bb e hsm1 (by intro q;cases q)
  have hS0:SqL K (upd H1 p.sm (.frz od (.dK kvs))) b ((zn r).map V.int):=Yg hsm1 (s1.seq hS)
  generalize hH0:upd H1 p.sm (.frz od (.dK kvs))=H0 at hfz s0 hS0
  refine⟨_,rfl,a,CL,dx,_,_,rfl,s0 _ _ (s1 _ _ ho) nap,TL.cl,TL.sames,Ik,p.sm,od,rfl,.inl ⟨_,hfz,fun D hD=>?_⟩⟩
  refine K6 (n:=kvs.length) (fun j H'=>Same H0 H'∧H' D=some (.lst ((zn ((fs.take j).filter fun (f:Nat)=>decide (L.points f≤i)&&r.getD (L.points f - 1) 0==r.getD i 0)).map V.int))) ⟨(Same.refl _).new hD,AI⟩
   (fun j H' hj q=>⟨q.1 _ _ hfz,hj⟩) (fun H' q=>⟨q.1 _ _ hfz,AV _⟩) ?_ ?_
  ·rintro j y H2 H3 hj ⟨s2,hD2⟩ ⟨rfl,kk,vv,hkk,rfl⟩
   have hjl:j < fs.length:=by rw[← hkv,AG] at hj;exact hj
   have hfj:fs[j]?=some fs[j]:=BD hjl
   generalize fs[j]=f at hfj
   rw[← hkv,Aj,hfj] at hkk
   have hkk:=Ae hkk
   injection hkk with e1 e2
   subst e1
   have hfm:f∈fs:=CV hfj
   have hge:1≤L.points f:=QP hW f (by rw[hfs];exact hfm)
   have efil:=V4 (p:=fun (f:Nat)=>decide (L.points f≤i)&&r.getD (L.points f - 1) 0==r.getD i 0) hfj
   have hlen2:=Pn hW r i (fs.take j) (by rw[hfs];exact Mq _ _)
   refine⟨rfl,_,rfl,_,rfl,_,_,rfl,rfl,_,rfl,?_⟩
   by_cases h1:L.points f≤i
   ·refine bT (decide_eq_true (Int.ofNat_le.mpr h1)) ?_
    refine⟨_,rfl,_,rfl,_,_,rfl,rfl,b,_,_,_,rfl,rfl,s2.seq hS0,VC (j:=L.points f - 1) (by omega) (Ow (by omega)),_,rfl,rfl,_,rfl,?_⟩
    by_cases h2:r.getD (L.points f - 1) 0=r.getD i 0
    ·refine bT (decide_eq_true (by rw[h2])) ?_
     rw[if_pos (by rw[decide_eq_true h1,h2,beq_self_eq_true];rfl)] at efil
     refine⟨_,rfl,a,CL,dx,_,_,rfl,s2 _ _ (s0 _ _ (s1 _ _ ho) nap),TL.cl,TL.sames,Ik,_,rfl,p.sm,_,rfl,(by
      have:=S5 hri hfm
      rw[hkv] at this
      rw[← this]
      exact .inl ⟨kvs,_,.inr ⟨od,s2 _ _ hfz⟩,rfl,rfl⟩),_,hD2,?_,s2.wr hD,?_⟩
     ·rw[AG,Dm]
      exact Br (by omega)
     ·rw[AI,efil]
      unfold zn
      rw[CU,CU]
      rfl
    ·refine bF (decide_eq_false fun q=>h2 (MY (JR q))) ?_
     rw[if_neg (by rw[BI,beq_iff_eq];exact fun q=>h2 q.2),C6] at efil
     exact⟨s2,by rw[efil];exact hD2⟩
   ·refine bF (decide_eq_false fun q=>h1 (Int.ofNat_le.mp q)) ?_
    refine bF rfl ?_
    rw[if_neg (by rw[BI,decide_eq_true_eq];exact fun q=>h1 q.1),C6] at efil
    exact⟨s2,by rw[efil];exact hD2⟩
  ·rintro H2 ⟨s2,hD2⟩
   have ekl:kvs.length=fs.length:=by rw[← hkv,AG]
   rw[ekl,Jk] at hD2
   have emay:(fs.filter fun (f:Nat)=>decide (L.points f≤i)&&r.getD (L.points f - 1) 0==r.getD i 0)=Fm.mayAt L r i:=by unfold Fm.mayAt;rw[hfs]
   have hml:=Pn hW r i fs (by rw[hfs];exact List.Sublist.refl _)
   rw[emay] at hD2 hml
   have nD:D≠p.sm:=An (Am hfz hD)
   have key:Same H1 (upd H2 p.sm (.dK kvs)):=fun x o e=>by
    by_cases n:x=p.sm
    ·subst n
     rw[AI,← hsm1]
     exact e
    ·rw[AE n]
     exact s2 _ _ (s0 _ _ e n)
   refine⟨s2 _ _ hfz,l1,D,_,_,rfl,rfl,key _ _ hl1,by rw[AE nD];exact hD2,?_,fun l3 n3=>?_⟩
   ·rw[AG,Dm]
    exact CH (by show 1+_ < _;omega)
   ·refine k _ l3 ((s1.trans key).new n3) ((s1.trans key).free n3) ?_
    rw[AI]
    rfl
end
end Fb
end
section
set_option maxRecDepth 100000
set_option maxHeartbeats 4000000
namespace Fb
open PySem PySem.Spec PyProof.Rows L2
abbrev Qn:Stmt:=RU
def XU:Option Nat→V
 | none=>.non
 | some f=>.int (f:Nat)
theorem N7 {L:Ai}{f:Nat}{k:AM} (h:L.kinds[f]?=some k):L.copies f=k.copies:=by
 unfold Ai.copies
 rw[h]
 rfl
def Nb (kw:List (Key×V)) (n:Nat→Nat):Prop:=∀f:Nat,(Aq kw (Ar (f:Int))).getD (.int 0)=.int (n f:Nat)
def SJ (K:AA) (CL CK:Addr):Sp:=fun vs H Q _=>∃(a d b:Addr) (p:LA) (L:Ai) (fl:List Int) (kw:List (Key×V)) (n:Nat→Nat) (fs:List Nat),vs=[.ref a,.ref d,.ref b]∧LockAt CL CK H a p (zs L.name) (L.kinds.map zk) fl∧H d=some (.dK kw)∧Nb kw n∧SqL K H b ((zn fs).map V.int)∧(∀f∈fs,f < L.kinds.length)∧
 Pur H Q (XU (fs.find? fun f=>decide (n f < L.copies f)))
theorem scFirstL:AY ["locker","flown","kinds","number"] ["locker","flown","kinds"] (AK Qn):=⟨rfl,rfl,rfl,by decide +kernel,rfl,by decide +kernel,by decide +kernel⟩
theorem OZ {p:Nat→Bool}:∀{l:List Nat}{i x:Nat},l[i]?=some x→p x=true→(∀j < i,∀y,l[j]?=some y→p y=false)→l.find? p=some x
 | y::l,0,x,h,hp,_=>by
  cases h
  rw[Dr,hp]
 | y::l,i+1,x,h,hp,hn=>by
  rw[Dr,hn 0 (by omega) y rfl]
  exact OZ (l:=l) (i:=i) h hp fun j hj z hz=>hn (j+1) (by omega) z hz
section
variable {P:Program}{w:World}{K:AA}{mg:Str→Option Value}{base:Heap}{CL CK:Addr}
theorem ok_firstL {f:Addr}{fd:FuncData} (F:Fun K "first_left" "first_left" Qn f fd) (TL:LockC K CL) (TK:KindC K CK):FnOk P w K mg base CX0 1 f fd ["locker","flown","kinds"] (SJ K CL CK):=by
 refine F.ok scFirstL (fun vs H Q E h=>?_) (fun cdv A outer s H vs Q E hr h=>?_)
 ·obtain⟨a,d,b,p,L,fl,kw,n,fs,rfl,_⟩:=h
  rfl
 ·obtain⟨a,d,b,p,L,fl,kw,n,fs,rfl,hL,hd,hn,hS,hin,k⟩:=h
  have hu:=E1 hr
  refine⟨_,AJ (FA FV rfl (D7 (pv 2)) (Bs (i:=3) scFirstL.nd rfl (AZ rfl))
    (AH (Al (Ac Ir (QG hu (pv 1) (pv 3) AO ⟨rfl,rfl,rfl,rfl⟩) (Ak (Bm Bl (Ak (pv 0) rfl) (pv 3) (fun _ _=>rfl)) rfl) (AR _)) (AH (AL (pv 3))) Ap)))
   (AH (AL Cj)),?_⟩
  obtain⟨dx,ho⟩:=hL.ob
  obtain⟨as,hak,hpk⟩:=hL.ks
  refine⟨_,rfl,b,rfl,⟨_,hS⟩,Od (K:=K) (a:=b) (xs:=(zn fs).map V.int)
   (fun i σ H'=>∃v:Option V,σ=[some (.ref a),some (.ref d),some (.ref b),v]∧H'=H∧∀j < i,∀y,fs[j]?=some y→decide (n y < L.copies y)=false) ⟨none,rfl,rfl,fun j hj=>absurd hj (Jt _)⟩ (fun i σ H' _ ⟨_,_,e,_⟩=>by rw[e];exact hS) ?_ ?_⟩
  ·rintro i y σ H' hi ⟨v,rfl,rfl,hno⟩
   obtain⟨z,hz,rfl⟩:=EO hi
   unfold zn at hz
   rw[Aj] at hz
   cases hfi:fs[i]? with
   | none=>rw[hfi] at hz;cases hz
   | some g =>
   rw[hfi] at hz
   have ez:((g:Nat):Int)=z:=Ae hz
   subst ez
   have hg:=hin g (CV hfi)
   have hkg:L.kinds[g]?=some L.kinds[g]:=BD hg
   generalize L.kinds[g]=kd at hkg
   obtain⟨ka,hka,dz,lv,hko,_⟩:=DE hpk (i:=g) (b:=zk kd) (by rw[Aj,hkg];rfl)
   refine⟨_,rfl,d,rfl,.inl ⟨kw,.inl hd⟩,_,rfl,_,DGet.k (k:=Ar (g:Int)) hd,?_⟩
   refine⟨_,rfl,a,CL,dx,_,_,rfl,ho,TL.cl,TL.kinds,Fx,_,rfl,p.ak,_,_,_,rfl,rfl,SqL.of hak,Bw (j:=g) (v:=V.ref ka) (by rw[Aj,hka];rfl),ka,CK,dz,_,_,rfl,hko,TK.cl,TK.copies,We,?_⟩
   refine⟨_,_,hn g,rfl,_,rfl,?_⟩
   by_cases hlt:n g < L.copies g
   ·refine bT (decide_eq_true (by show((n g:Nat):Int) < (kd.copies:Nat);rw[← N7 hkg];exact Int.ofNat_lt.mpr hlt)) ?_
    refine⟨_,rfl,?_⟩
    have:=k _ (Same.refl _)
    rw[OZ hfi (decide_eq_true hlt) hno] at this
    exact this
   ·refine bF (decide_eq_false (by show ¬((n g:Nat):Int) < (kd.copies:Nat);rw[← N7 hkg];exact fun q=>hlt (Int.ofNat_lt.mp q))) ?_
    refine⟨_,rfl,rfl,fun j hj y hy=>?_⟩
    rcases Jo.mp hj with q | q
    ·exact hno j q y hy
    ·subst q
     rw[hfi] at hy
     cases hy
     exact decide_eq_false hlt
  ·rintro σ H' ⟨v,rfl,rfl,hno⟩
   have:=k _ (Same.refl _)
   have e:fs.find? (fun f=>decide (n f < L.copies f))=none:=by
    rw[Td]
    intro x hx
    obtain⟨j,hj,e⟩:=List.getElem_of_mem hx
    have:=hno j (by rw[AG,Dm];exact hj) x (by rw[BD hj,e])
    rw[this]
    exact Ag
   rw[e] at this
   exact this
end
abbrev Qo:Stmt:=RV
def G3 (L:Ai) (r:List Nat):List Nat:=(L.display [r]).getD []
def SK (K:AA) (CL CK:Addr):Sp:=fun vs H Q _=>∃(a b:Addr) (p:LA) (L:Ai) (fl:List Int) (r:List Nat),vs=[.ref a,.ref b]∧LockAt CL CK H a p (zs L.name) (L.kinds.map zk) fl∧Wf L.kinds∧SqL K H b ((zn r).map V.int)∧r.length < 1000∧(∀s∈r,L.isSignAt s=true)∧
 Fg H Q (zn (G3 L r))
theorem scHoist:AY ["locker","signs","hoist","flown","place","number"] ["locker","signs"] (AK Qo):=⟨rfl,rfl,rfl,by decide +kernel,rfl,by decide +kernel,by decide +kernel⟩
theorem WD {L:Ai}{r:List Nat}{i:Nat} (hi:i < r.length) (h:List Nat):Fm.greedy (Fm.less L.copies h) ((L.spots [r]).drop i)=match (r.getD i 0::Fm.mayAt L r i).find? (fun f=>decide (h.count f < L.copies f)) with
  | none=>none
  | some f=>(Fm.greedy (Fm.less L.copies (h++[f])) ((L.spots [r]).drop (i+1))).map (f::·):=by
 have hl:i < (L.spots [r]).length:=by rw[Fm.spots_one,AG,Mm];exact hi
 have e:(L.spots [r]).drop i=⟨r.getD i 0,Fm.mayAt L r i⟩::(L.spots [r]).drop (i+1):=by
  rw[Hc hl]
  congr 1
  simp only[Fm.spots_one,List.getElem_map,List.getElem_range]
 rw[e,Fm.greedy]
 have ep:(fun f=>decide (0 < Fm.less L.copies h f))=fun f=>decide (h.count f < L.copies f):=funext fun f=>by
  unfold Fm.less
  rw[C3,decide_eq_true_iff,decide_eq_true_iff]
  omega
 simp only[ep]
 cases (r.getD i 0::Fm.mayAt L r i).find? (fun f=>decide (h.count f < L.copies f)) with
 | none=>rfl
 | some f=>simp only[Fm.less_snoc]
theorem Wh {L:Ai}{r:List Nat} (hr:∀s∈r,L.isSignAt s=true) {i:Nat} (hi:i < r.length):∀f∈r.getD i 0::Fm.mayAt L r i,f < L.kinds.length:=fun f hf=>by
 rcases AS.mp hf with e | e
 ·have hm:r.getD i 0∈r:=by
   rw[Ej,BD hi]
   exact Mj hi
  obtain⟨k,h1,_⟩:=Fm.role_at (e▸hr _ hm)
  exact(Bd.mp h1).1
 ·obtain⟨k,j,h1,_⟩:=Fm.same_at (Ci.mp e).1
  exact(Bd.mp h1).1
section
variable {P:Program}{w:World}{K:AA}{mg:Str→Option Value}{base:Heap}{CL CK:Addr}
theorem ok_hoist {f:Addr}{fd:FuncData} (F:Fun K "hoist_told" "hoist_told" Qo f fd) (B:Blt mg) (g1:Has P w K mg "kinds_that_mean" 1 ["locker","signs","place"] (SQ K CL CK)) (g2:Has P w K mg "first_left" 1 ["locker","flown","kinds"] (SJ K CL CK)):FnOk P w K mg base CX0 2 f fd ["locker","signs"] (SK K CL CK):=by
 refine F.ok scHoist (fun vs H Q E h=>?_) (fun cdv A outer s H vs Q E hr h=>?_)
 ·obtain⟨a,b,p,L,fl,r,rfl,_⟩:=h
  rfl
 ·obtain⟨a,b,p,L,fl,r,rfl,hL,hW,hS,hlen,hin,k⟩:=h
  have hu:=E1 hr
  have hdisp:=Fm.display_greedy hW hin
  refine⟨_,AJ (BB (i:=2) scHoist.nd rfl (AZ rfl) (A8 AD)) (AJ (BB (i:=3) scHoist.nd rfl (AZ rfl) QH)
   (AJ (FA FV rfl (Xk (by rfl) B.range (AB (A1 Bq (by rfl) B.len Bf (AB (pv 1) AD)) AD)) (Bs (i:=4) scHoist.nd rfl (AZ rfl))
    (AJ (BB (i:=5) scHoist.nd rfl (AZ rfl) (AN g2 hr (by rfl) (AB (pv 0) (AB (pv 3) (AB (AN g1 hr (by rfl) (AB (pv 0) (AB (pv 1) (AB (pv 4) AD)))) AD)))))
    (AJ (Al (Ac LQ (pv 5) Cj (AR _)) (AH (AL (A8 AD))) Ap)
    (AJ (Lb hu (pv 3) (pv 5) (D6 LP (QG hu (pv 3) (pv 5) AO ⟨rfl,rfl,rfl,rfl⟩) AO) rfl)
    (AH (E9 (EZ Em Ge Gf Fy (pv 2) (AB (pv 5) AD))))))))
   (AH (AL (pv 2))))),?_⟩
  refine⟨A5 _,fun l nl=>?_⟩
  intro df ndf
  have s1:Same H (upd (upd H l (.lst [])) df (.dK [])):=((Same.refl H).new nl).new ndf
  have ndf0:H df=none:=((Same.refl H).new nl).free ndf
  have dlf:l≠df:=Am AI ndf
  refine⟨_,rfl,b,_,rfl,.inl (s1.seq hS),(((zn r).map V.int).length:Nat),rfl,by omega,by rw[AG,Dm];omega,?_⟩
  refine Gz (n:=r.length) (fun i σ H'=>∃(v4 v5:Option V) (kw:List (Key×V)) (h:List Nat),σ=[some (.ref a),some (.ref b),some (.ref l),some (.ref df),v4,v5]∧Same H H'∧H' l=some (.lst ((zn h).map V.int))∧H' df=some (.dK kw)∧Nb kw (fun f=>h.count f)∧kw.length≤i∧h.length=i∧
    L.display [r]=(Fm.greedy (Fm.less L.copies h) ((L.spots [r]).drop i)).map (h++·))
   ⟨none,none,[],[],rfl,s1,by rw[AE dlf];exact AI,AI,fun f=>rfl,A5 _,rfl,by
    rw[hdisp,Fm.less_nil,List.drop_zero]
    cases Fm.greedy L.copies (L.spots [r]) <;> rfl⟩ ?_ ?_ ?_ ?_
  ·rintro i σ H' hi _
   show i < _
   rw[AG,Dm]
   omega
  ·rintro σ H' _
   show _≤r.length
   rw[AG,Dm]
   omega
  ·rintro i y σ H' H2 hi ⟨v4,v5,kw,h,rfl,s2,hl,hdf,hct,hkw,hhl,hg⟩ ⟨rfl,rfl⟩
   rw[Int.zero_add]
   refine⟨_,rfl,_,rfl,_,rfl,_,rfl,_,rfl,a,b,i,p,L,fl,r,rfl,hL.mono s2,hW,s2.seq hS,hi,hlen,fun H3 kl s3 nkl hkl=>?_⟩
   refine⟨a,df,kl,p,L,fl,kw,_,_,rfl,(hL.mono s2).mono s3,s3 _ _ hdf,hct,SqL.of hkl,Wh hin hi,fun H4 s4=>?_⟩
   have s34:=s3.trans s4
   have s24:=s2.trans s34
   rw[WD hi] at hg
   cases hfd:(r.getD i 0::Fm.mayAt L r i).find? (fun f=>decide (h.count f < L.copies f)) with
   | none =>
    rw[hfd] at hg
    refine⟨_,rfl,rfl,_,rfl,bT rfl ⟨A5 _,fun l2 nl2=>?_⟩⟩
    refine k _ l2 (s24.new nl2) (s24.free nl2) ?_
    unfold G3
    rw[hg]
    exact AI
   | some g =>
    rw[hfd] at hg
    have hdf4:=s34 _ _ hdf
    have hl4:=s34 _ _ hl
    refine⟨_,rfl,rfl,_,rfl,bF (decide_eq_false fun q=>nomatch q) ?_⟩
    refine⟨_,rfl,df,rfl,.inl ⟨kw,.inl hdf4⟩,_,rfl,_,DGet.k (k:=Ar (g:Int)) hdf4,_,_,hct g,rfl,_,rfl,_,rfl,df,_,rfl,DPut.k (k:=Ar (g:Int)) hdf4 (Br (by omega)),?_⟩
    refine⟨_,rfl,.inl ⟨rfl,_,SqL.of (by rw[AE dlf];exact hl4)⟩,_,rfl,l,_,_,rfl,rfl,by rw[AE dlf];exact hl4,by rw[AG,Dm];exact Br (by omega),?_⟩
    refine⟨_,_,_,h++[g],rfl,(s24.wr ndf0).wr nl,?_,by rw[AE (An dlf)];exact AI,fun x=>?_,Ba (K7 _ _ _) (by omega),by rw[BO,hhl];rfl,?_⟩
    ·rw[AI]
     unfold zn
     rw[CU,CU]
     rfl
    ·have ec:(h++[g]).count x=h.count x+[g].count x:=TX
     show _=V.int (((h++[g]).count x:Nat):Int)
     rw[Zf,ec]
     by_cases e:x=g
     ·subst e
      rw[if_pos rfl,List.count_singleton_self]
      rfl
     ·rw[if_neg (show ¬(Ar (x:Int):Key)=Ar (g:Int) from fun q=>e (MY (Hu q))),Ma (fun q=>e q.symm)]
      exact hct x
    ·rw[hg,Option.map_map]
     congr 1
     funext t
     simp
  ·rintro σ H' ⟨v4,v5,kw,h,rfl,s2,hl,hdf,hct,hkw,hhl,hg⟩
   have ed:(L.spots [r]).drop r.length=[]:=Hd (by rw[Fm.spots_one,AG,Mm];exact AV _)
   rw[ed] at hg
   refine⟨_,rfl,k H' l s2 nl ?_⟩
   unfold G3
   rw[hg]
   show H' l=some (.lst ((zn (h++[])).map V.int))
   rw[C6]
   exact hl
end
abbrev Q9:Stmt:=RQ
def Sl (K:AA) (CL CK:Addr):Sp:=fun vs H Q _=>∃(a b:Addr) (p:LA) (L:Ai) (fl:List Int) (r:List Nat),vs=[.ref a,.ref b]∧LockAt CL CK H a p (zs L.name) (L.kinds.map zk) fl∧Wf L.kinds∧SqL K H b ((zn r).map V.int)∧r.length < 1000∧(∀s∈r,L.isSignAt s=true)∧r≠[]∧
 Pur H Q (.bl (L.canShow r))
theorem Yc:AY ["locker","signs"] ["locker","signs"] (AK Q9):=⟨rfl,rfl,rfl,by decide +kernel,rfl,by decide +kernel,by decide +kernel⟩
theorem WI {L:Ai}{r:List Nat} (hW:Wf L.kinds) (hr:∀s∈r,L.isSignAt s=true) (hne:r≠[]):(!decide (zn (G3 L r)=[]))=L.canShow r:=by
 rw[Fm.canShow_display]
 unfold G3
 cases hd:L.display [r] with
 | none=>rfl
 | some h =>
  rw[Fm.display_greedy hW hr] at hd
  have hl:=Fm.greedy_len hd
  rw[Fm.spots_one,AG,Mm] at hl
  have:¬zn h=[]:=fun q=>by
   have:=congrArg GW q
   rw[Dm,hl] at this
   exact hne (Je.mp this)
  show(!decide (zn h=[]))=true
  rw[decide_eq_false this]
  rfl
section
variable {P:Program}{w:World}{K:AA}{mg:Str→Option Value}{base:Heap}{CL CK:Addr}
theorem ok_show {f:Addr}{fd:FuncData} (F:Fun K "can_show" "can_show" Q9 f fd) (g1:Has P w K mg "hoist_told" 2 ["locker","signs"] (SK K CL CK)):FnOk P w K mg base CX0 3 f fd ["locker","signs"] (Sl K CL CK):=by
 refine F.ok Yc (fun vs H Q E h=>?_) (fun cdv A outer s H vs Q E hr h=>?_)
 ·obtain⟨a,b,p,L,fl,r,rfl,_⟩:=h
  rfl
 ·obtain⟨a,b,p,L,fl,r,rfl,hL,hW,hS,hlen,hin,hne,k⟩:=h
  refine⟨_,AH (AL (Cw (HE hr.units) (AN g1 hr (by rfl) (AB (pv 0) (AB (pv 1) AD))) (A8 AD) (AR _))),?_⟩
  refine⟨_,rfl,_,rfl,a,b,p,L,fl,r,rfl,hL,hW,hS,hlen,hin,fun H1 l1 s1 n1 h1=>⟨A5 _,fun l2 n2=>?_⟩⟩
  have s2:Same H1 (upd H1 l2 (.lst [])):=(Same.refl _).new n2
  have h2:upd H1 l2 (.lst []) l2=some (.lst (([]:List Int).map V.int)):=AI
  refine⟨_,_,A6 (SqL.of (s2 _ _ h1)),A6 (SqL.of h2),A2 _,A2 _,?_⟩
  rw[CP,WI hW hin hne]
  exact k _ (s1.trans s2)
end
end Fb
end
section
set_option maxRecDepth 100000
set_option maxHeartbeats 4000000
namespace Fb
open PySem PySem.Spec PyProof.Rows L2
theorem XR {X:Cx} (K:AA) (hK:X.K=K):OpR X (compareOp .In) (rIn K false):=by
 subst hK
 exact P9
theorem Kv:∀ns:List Int,(ns.map V.int).all CQ=true
 | []=>rfl
 | n::r=>by rw[Au,GU,Kv r];rfl
theorem Ks (a b:Int):eqV (.int a) (.int b)=decide (a=b):=by
 first | rfl | (unfold eqV;rw[C3];simp) | (simp[eqV])
theorem O6 (b:Int):∀ns:List Int,inV (.int b) (ns.map V.int)=decide (b∈ns)
 | []=>rfl
 | n::r=>by
  have ih:=O6 b r
  unfold inV at ih ⊢
  rw[Au,DK,ih,Ks]
  rw[C3,MQ,decide_eq_true_iff,decide_eq_true_iff,decide_eq_true_iff,AS]
  exact⟨fun h=>h.elim (fun q=>.inl q.symm) .inr,fun h=>h.elim (fun q=>.inl q.symm) .inr⟩
abbrev Q2:Stmt:=Rr
def G4:List Int→Int
 | []=>0
 | d::r=>G4 r * 16+d
theorem Vo {α:Type}{l:List α}{i:Nat}{x:α} (h:l[i]?=some x):l.drop i=x::l.drop (i+1):=by
 obtain⟨hi,e⟩:=Bd.mp h
 rw[Hc hi,e]
theorem O4:∀ns:List Int,G4 (ns.map fun b=>((digs.idxOf b:Nat):Int))=EV ns
 | []=>rfl
 | b::r=>by
  rw[Au,G4,O4 r,EV]
def Se (K:AA):Sp:=fun vs H Q _=>∃(a:Addr) (ns:List Int),vs=[.ref a]∧SqL K H a (ns.map V.int)∧Pur H Q (.int (G4 ns))
theorem scNumOf:AY ["told","number","digit"] ["told"] (AK Q2):=⟨rfl,rfl,rfl,by decide +kernel,rfl,by decide +kernel,by decide +kernel⟩
section
variable {P:Program}{w:World}{K:AA}{mg:Str→Option Value}{base:Heap}
theorem ok_numOf {f:Addr}{fd:FuncData} (F:Fun K "number_of" "number_of" Q2 f fd) (B:Blt mg):FnOk P w K mg base CX0 1 f fd ["told"] (Se K):=by
 refine F.ok scNumOf (fun vs H Q E h=>?_) (fun cdv A outer s H vs Q E hr h=>?_)
 ·obtain⟨a,ns,rfl,_⟩:=h
  rfl
 ·obtain⟨a,ns,rfl,hS,k⟩:=h
  refine⟨_,AJ (BB (i:=1) scNumOf.nd rfl (AZ rfl) AO)
   (AJ (FA FV rfl (Xl (by rfl) B.reversed (AB (pv 0) AD)) (Bs (i:=2) scNumOf.nd rfl (AZ rfl))
    (AH (BB (i:=1) scNumOf.nd rfl (AZ rfl) (D6 LP (D6 XS (pv 1) AO) (pv 2)))))
   (AH (AL (pv 1)))),?_⟩
  refine⟨_,rfl,a,_,rfl,hS,?_⟩
  refine Gz (n:=(ns.map V.int).length) (fun i σ H'=>∃v3:Option V,σ=[some (.ref a),some (.int (G4 (ns.drop (ns.length - i)))),v3]∧Same H H') ⟨none,by rw[Nat.sub_zero,TY];rfl,Same.refl H⟩ ?_ ?_ ?_ ?_
  ·rintro i σ H' hi ⟨_,_,s3⟩
   refine⟨hi,_,_,s3.seq hS,BD (by omega)⟩
  ·rintro σ H' _
   exact AV _
  ·rintro i y σ H' H3 hi ⟨v3,rfl,s3⟩ ⟨rfl,hy⟩
   rw[AG] at hi
   obtain⟨n,hn,rfl⟩:=EO (hy _ (s3.seq hS))
   rw[AG] at hn
   refine⟨_,rfl,_,_,rfl,rfl,.inr ⟨by decide,by decide⟩,_,rfl,_,_,rfl,rfl,?_⟩
   refine⟨some (.int n),?_,s3⟩
   have e:ns.drop (ns.length - (i+1))=n::ns.drop (ns.length - i):=by
    have:=Vo hn
    rw[show ns.length - 1 - i=ns.length - (i+1) by omega] at this
    rw[this,show ns.length - (i+1)+1=ns.length - i by omega]
   rw[e]
   rfl
  ·rintro σ H' ⟨v3,rfl,s3⟩
   refine⟨_,rfl,?_⟩
   rw[AG,Ju,List.drop_zero]
   exact k H' s3
end
abbrev JC:Stmt:=Rn
def SY (K:AA):Sp:=fun vs H Q _=>∃(a:Addr) (ns:List Int),vs=[.ref a]∧SqL K H a (ns.map V.int)∧ns.length < 100000∧Pur H Q (.int (Cv ns))
theorem scLook:AY ["word","colours","byte"] ["word"] (AK JC):=⟨rfl,rfl,rfl,by decide +kernel,rfl,by decide +kernel,by decide +kernel⟩
theorem Vj:BJ "0123456789abcdef"=digs:=by decide +kernel
theorem Xd {X:Cx}{o e:Expr}{apos cpos:Pos}{to:TE}{t:TA} (K:AA) (hK:X.K=K) (ho:PE X o to) (ha:PA X [e] t) (hbase:attributeBase o "index" X.env (eval o X.env)=eval o X.env:=by rfl)
  (hfew:((backTo cpos (starEach [e] X.env)).all (fun x=>!x.1)&&(backToKw cpos (keywordEach [] X.env)).all (fun x=>x.1.isSome)&&decide ([e].length+([]:List Keyword).length+(if ([]:List Keyword).isEmpty then 0 else 1) < 30))=true:=by rfl)
  (hline:(apos.endLine==cpos.line)=true:=by rfl) (hs:starEach [e] X.env=(false,eval e X.env)::starEach [] X.env:=by rfl) (hplain:(backTo cpos (starEach [] X.env)).any (·.1)=false:=by rfl):PE X (.Call (.Attribute o "index" apos) [e] [] cpos) (tBM K "list" (QS K) to t):=by
 subst hK
 exact EZ Em UP PySem.F.type_list_index W5 ho ha hbase hfew hline hs hplain
section
variable {P:Program}{w:World}{K:AA}{mg:Str→Option Value}{base:Heap}
theorem ok_look {f:Addr}{fd:FuncData} (F:Fun K "look_told" "look_told" JC f fd) (B:Blt mg) (c1:Cst mg "COLOURS" (.str "0123456789abcdef")) (c2:Cst mg "DIGITS" (.int 16)) (g1:Has P w K mg "letters" 1 ["word"] HP) (g2:Has P w K mg "number_of" 1 ["told"] (Se K)):FnOk P w K mg base CX0 2 f fd ["word"] (SY K):=by
 refine F.ok scLook (fun vs H Q E h=>?_) (fun cdv A outer s H vs Q E hr h=>?_)
 ·obtain⟨a,ns,rfl,_⟩:=h
  rfl
 ·obtain⟨a,ns,rfl,hS,hlen,k⟩:=h
  refine⟨_,AJ (BB (i:=1) scLook.nd rfl (Dt rfl) (AN g1 hr (by rfl) (AB (AW c1 rfl) AD)))
   (AJ (Al (PW.pt (F9 (Ac Iu (A1 Bq (by rfl) B.len Bf (AB (pv 0) AD)) (AW c2 rfl) (AR _))
     (HM (D8 (Cy (A1 (IE rfl) (by rfl) B.all Jy (AB (Dk (own:=[("byte",2)]) rfl scLook.nd (D7 (pv 0)) (Df (N:=["word","colours","byte"]) (sc:=AK JC) (by decide +kernel)) (fun s H C cl fp=>Bs (i:=2) scLook.nd rfl (AZ rfl)) (fun s H C cl fp=>D9)
      (fun s H C cl fp=>Cw (XR K rfl) (pv 2) (pv 1) (by rfl))) AD)))))))
    (AH (AL (F5 GK AO))) Ap)
   (AH (AL (AN g2 hr (by rfl) (AB (Dk (own:=[("byte",2)]) rfl scLook.nd (D7 (pv 0)) (Df (N:=["word","colours","byte"]) (sc:=AK JC) (by decide +kernel)) (fun s H C cl fp=>Bs (i:=2) scLook.nd rfl (AZ rfl)) (fun s H C cl fp=>D9)
      (fun s H C cl fp=>Xd K rfl (pv 1) (AB (pv 2) AD))) AD))))),?_⟩
  refine⟨_,rfl,by decide,fun H1 dg s1 nd hd=>?_⟩
  rw[Vj] at hd
  have hS1:=s1.seq hS
  refine⟨_,rfl,a,_,rfl,.inl hS1,rfl,_,rfl,?_⟩
  by_cases hl:ns.length=16
  ·refine bF (by rw[decide_eq_true (show V.int ((ns.map V.int).length:Nat)=V.int 16 by rw[AG,hl];rfl)];rfl) ?_
   refine⟨_,rfl,a,rfl,⟨_,hS1⟩,fun D hD=>?_⟩
   refine EU (n:=(ns.map V.int).length) ((ns.map fun b=>decide (b∈digs)).map V.bl) (by simp) (Br (by rw[AG];omega)) hD (fun i H hi s2=>E3 (s2.seq hS1) hi) (fun H s2=>E4 (s2.seq hS1)) ?_ ?_
   ·rintro i y z H2 H3 hz s2 ⟨rfl,hy⟩ R hR
    obtain⟨n,hn,rfl⟩:=EO (hy _ (s2.seq hS1))
    refine⟨rfl,_,rfl,_,rfl,dg,_,rfl,.inl (SqL.of (s2 _ _ hd)),rfl,Kv _,?_⟩
    have:z=V.bl (decide (n∈digs)):=by
     rw[Aj,Aj,hn] at hz
     exact(Ae hz).symm
    subst this
    rw[if_neg Ag,O6]
    exact hR _ (Same.refl _)
   ·intro H2 s2 hd2
    refine⟨D,ns.map fun b=>decide (b∈digs),rfl,SqL.of hd2,_,rfl,?_⟩
    rw[FN]
    have s12:=s1.trans s2
    by_cases ha:(ns.all fun b=>decide (b∈digs))=true
    ·refine bF (by show(!(ns.all fun b=>decide (b∈digs)))=false;rw[ha];rfl) ?_
     have hk:Cv ns=EV ns:=if_neg (fun q=>q.elim (fun z=>z hl) (fun z=>z ha))
     have hS2:=s2.seq hS1
     refine⟨_,rfl,a,rfl,⟨_,hS2⟩,fun D2 hD2=>?_⟩
     refine EU (n:=(ns.map V.int).length) ((ns.map fun b=>((digs.idxOf b:Nat):Int)).map V.int) (by simp) (Br (by rw[AG];omega)) hD2 (fun i H hi s3=>E3 (s3.seq hS2) hi) (fun H s3=>E4 (s3.seq hS2)) ?_ ?_
     ·rintro i y z H3 H4 hz s3 ⟨rfl,hy⟩ R hR
      obtain⟨n,hn,rfl⟩:=EO (hy _ (s3.seq hS2))
      have hm:n∈digs:=of_decide_eq_true (Cg.mp ha n (CV hn))
      have hix:digs.idxOf n < digs.length:=Tn.mpr hm
      have:z=V.int ((digs.idxOf n:Nat):Int):=by
       rw[Aj,Aj,hn] at hz
       exact(Ae hz).symm
      subst this
      refine⟨rfl,_,rfl,.inl ⟨rfl,_,SqL.of (s3 _ _ (s2 _ _ hd))⟩,_,rfl,dg,_,_,digs.idxOf n,V.int n,rfl,rfl,SqL.of (s3 _ _ (s2 _ _ hd)),rfl,Kv _,?_,?_,?_,hR _ (Same.refl _)⟩
      ·rw[Aj,BD hix,List.getElem_idxOf];rfl
      ·rw[Ks];exact decide_eq_true rfl
      ·intro m z' hm' hz'
       obtain⟨q,hq,rfl⟩:=EO hz'
       rw[Ks]
       apply decide_eq_false
       intro e
       have h5:=List.not_of_lt_findIdx (xs:=digs) (p:=(·==n)) (i:=m) hm'
       rw[BD (Nat.lt_trans hm' hix)] at hq
       have hq:=Ae hq
       rw[hq,e] at h5
       simp at h5
     ·intro H3 s3 hd3
      refine⟨D2,_,rfl,SqL.of hd3,fun H4 s4=>?_⟩
      rw[O4,← hk]
      exact k H4 ((s12.trans s3).trans s4)
    ·refine bT (by show(!(ns.all fun b=>decide (b∈digs)))=true;rw[GO.mpr ha];rfl) ?_
     have hk:Cv ns=-1:=if_pos (.inr ha)
     have:=k H2 s12
     rw[hk] at this
     exact⟨_,rfl,this⟩
  ·refine bT (by rw[decide_eq_false (BK (by rw[AG];omega))];rfl) ?_
   refine bT rfl ?_
   have hk:Cv ns=-1:=if_pos (.inl hl)
   have:=k H1 s1
   rw[hk] at this
   exact⟨_,rfl,this⟩
end
end Fb
end
section
set_option maxRecDepth 100000
set_option maxHeartbeats 4000000
namespace Fb
open PySem PySem.Spec PyProof.Rows L2
def EM (P:Program) (w:World) (K:AA) (mg:Str→Option Value) (x:Str) (C:Addr) (k:Nat) (ps:List Str) (sp:Sp):Prop :=
 mg x=some (.ref C)∧∃(f:Addr) (fd:FuncData),Mk K C f∧Binds K fd ps []∧∀base:Heap,FnOk P w K mg base CX0 k f fd ps sp
theorem F3 {X:Cx}{k:Nat}{ps:List Str}{sp:Sp}{x:Str}{C:Addr}{p pos:Pos}{e:Expr}{es:List Expr}{t:TA} (h:EM X.prog X.w X.K X.mg x C k ps sp) (hr:Room (k+1) X.A) (hg:Gl X x) (ha:PA X (e::es) t)
  (hdb:(x==("__debug__":Str))=false:=by decide) (he:starEach (e::es) X.env=(false,eval e X.env)::starEach es X.env:=by rfl) (hpl:(backTo pos (starEach es X.env)).any (·.1)=false:=by rfl):
  PE X (.Call (.Name x p) (e::es) [] pos) (JP C sp [] E0 t):=by
 obtain⟨h1,f,fd,M,hb,F⟩:=h
 exact Xf M (F X.base) hr hg h1 hb .nil F2 ha hdb he hpl
theorem QJ {X:Cx}{k:Nat}{ps:List Str}{sp:Sp}{x:Str}{C:Addr}{p pos:Pos} (h:EM X.prog X.w X.K X.mg x C k ps sp) (hr:Room (k+1) X.A) (hg:Gl X x) (hdb:(x==("__debug__":Str))=false:=by decide):
  PE X (.Call (.Name x p) [] [] pos) (JP C sp [] E0 FC):=by
 obtain⟨h1,f,fd,M,hb,F⟩:=h
 exact Xg M (F X.base) hr hg h1 hb .nil F2 hdb
def Ng (C:Addr) (fs:List (Str×V)) (H:Hp) (Q:VK):Prop:=∀(H':Hp) (x dx:Addr),Same H H'→H x=none→H' x=some (.ins C dx fs)→Q (.ref x) H'
def EB (C:Addr) (fs:List V→Option (List (Str×V))):Sp:=fun vs H Q _=>∃(p dx:Addr) (us:List V) (l:List (Str×V)),vs=.ref p::us∧fs us=some l∧H p=some (.ins C dx [])∧
 ∀H',H' p=some (.ins C dx l)→(∀b o,H b=some o→b≠p→H' b=some o)→Q .non H'
theorem Ww {C:Addr}{fs:List V→Option (List (Str×V))}{us:List V}{l:List (Str×V)}{H:Hp}{Q:VK} (hf:fs us=some l) (h:Ng C l H Q):∀x dx,H x=none→H dx=none→dx≠x→
  EB C fs (.ref x::(us++[])) (upd (upd H dx (.own x)) x (.ins C dx [])) (fun v H2=>v=.non∧Q (.ref x) H2) E0:=fun x dx nx nd ne=>by
 rw[C6]
 exact⟨x,dx,us,l,rfl,hf,AI,fun H' hx kp=>⟨rfl,h H' x dx (Same.made nx nd kp) nx hx⟩⟩
abbrev Qt:Stmt:=Dh RL 0
def Ih:List V→Option (List (Str×V))
 | [.int r,lv,.int c,.int s,.int k]=>some (kf r lv c s k)
 | _=>none
theorem YM:AY ["self","rank","label","copies","shape","look"] ["self","rank","label","copies","shape","look"] (AK Qt):=⟨rfl,rfl,rfl,by decide +kernel,rfl,by decide +kernel,by decide +kernel⟩
section
variable {P:Program}{w:World}{K:AA}{mg:Str→Option Value}{base:Heap}{CK:Addr}
theorem ok_kindI {f:Addr}{fd:FuncData} (F:Fun K "__init__" "Kind.__init__" Qt f fd) (T:KindC K CK):FnOk P w K mg base CX0 1 f fd ["self","rank","label","copies","shape","look"] (EB CK Ih):=by
 have inv:∀us l,Ih us=some l→∃r lv c s k,us=[.int r,lv,.int c,.int s,.int k]∧l=kf r lv c s k:=by
  intro us l h
  unfold Ih at h
  split at h
  ·cases h;exact⟨_,_,_,_,_,rfl,rfl⟩
  ·cases h
 refine F.ok YM (fun vs H Q E h=>?_) (fun cdv A outer s H vs Q E hr h=>?_)
 ·obtain⟨p,dx,us,l,rfl,hf,_⟩:=h
  obtain⟨_,_,_,_,_,rfl,_⟩:=inv _ _ hf
  rfl
 ·obtain⟨p,dx,us,l,rfl,hf,hp,k⟩:=h
  obtain⟨r,lv,c,s,lk,rfl,rfl⟩:=inv _ _ hf
  refine⟨_,AJ (BU (pv 0) (pv 1) rfl) (AJ (BU (pv 0) (pv 2) rfl) (AJ (BU (pv 0) (pv 3) rfl) (AJ (BU (pv 0) (pv 4) rfl) (AH (BU (pv 0) (pv 5) rfl))))),?_⟩
  refine⟨_,rfl,_,rfl,p,CK,dx,[],rfl,hp,T.cl,T.rank,(by show 0 < 1000;decide),?_⟩
  refine⟨_,rfl,_,rfl,p,CK,dx,_,rfl,AI,T.cl,T.label,(by show 1 < 1000;decide),?_⟩
  refine⟨_,rfl,_,rfl,p,CK,dx,_,rfl,AI,T.cl,T.copies,(by show 2 < 1000;decide),?_⟩
  refine⟨_,rfl,_,rfl,p,CK,dx,_,rfl,AI,T.cl,T.shape,(by show 3 < 1000;decide),?_⟩
  refine⟨_,rfl,_,rfl,p,CK,dx,_,rfl,AI,T.cl,T.look,(by show 4 < 1000;decide),?_⟩
  rw[FF,FF,FF,FF]
  exact k _ AI fun b o e hb=>by rw[AE hb];exact e
end
end Fb
end
section
set_option maxRecDepth 100000
set_option maxHeartbeats 4000000
namespace Fb
open PySem PySem.Spec PyProof.Rows L2
abbrev Qs:Stmt:=Rk
def Ii (c s l:List Int):Prop:=DI 8 c=0∨Ck s < 0∨Cv l < 0
def Lv (K:AA) (CK:Addr):Sp:=fun vs H Q _=>∃(r:Int) (lv:V) (ws ac as al:Addr) (c s l:List Int),vs=[.int r,lv,.ref ws]∧SqL K H ws [.ref ac,.ref as,.ref al]∧SqL K H ac (c.map V.int)∧SqL K H as (s.map V.int)∧SqL K H al (l.map V.int)∧l.length < 100000∧
 (Ii c s l→Pur H Q .non)∧(¬Ii c s l→Ng CK (kf r lv (DI 8 c) (Ck s) (Cv l)) H Q)
theorem scKWith:AY ["rank","label","words","copies","shape","look"] ["rank","label","words"] (AK Qs):=⟨rfl,rfl,rfl,by decide +kernel,rfl,by decide +kernel,by decide +kernel⟩
section
variable {P:Program}{w:World}{K:AA}{mg:Str→Option Value}{base:Heap}{CK:Addr}
theorem ok_kwith {f:Addr}{fd:FuncData} (F:Fun K "kind_with" "kind_with" Qs f fd) (c1:Cst mg "MOST_COPIES" (.int 8)) (g1:Has P w K mg "small_number" 1 ["word","most"] (L0 K)) (g2:Has P w K mg "shape_told" 2 ["word"] (Sk K)) (g3:Has P w K mg "look_told" 2 ["word"] (SY K))
  (g4:EM P w K mg "Kind" CK 1 ["self","rank","label","copies","shape","look"] (EB CK Ih)):FnOk P w K mg base CX0 3 f fd ["rank","label","words"] (Lv K CK):=by
 refine F.ok scKWith (fun vs H Q E h=>?_) (fun cdv A outer s H vs Q E hr h=>?_)
 ·obtain⟨r,lv,ws,ac,as,al,c,s,l,rfl,_⟩:=h
  rfl
 ·obtain⟨r,lv,ws,ac,as,al,c,s,l,rfl,hw,hc,hs,hl,hlen,kb,kg⟩:=h
  have hr1:Room 1 _:=hr.mono (by decide)
  refine⟨_,AJ (BB (i:=3) scKWith.nd rfl (AZ rfl) (AN g1 hr1 (by rfl) (AB (Bm Bl (pv 2) AO (fun _ _=>rfl)) (AB (AW c1 rfl) AD))))
   (AJ (BB (i:=4) scKWith.nd rfl (AZ rfl) (AN g2 hr (by rfl) (AB (Bm Bl (pv 2) AO (fun _ _=>rfl)) AD)))
   (AJ (BB (i:=5) scKWith.nd rfl (AZ rfl) (AN g3 hr (by rfl) (AB (Bm Bl (pv 2) AO (fun _ _=>rfl)) AD)))
   (AJ (Al (PW.pt (F9 (Ac BY (pv 3) AO (AR _)) (F9 (Ac Ir (pv 4) AO (AR _)) (HM (Ac Ir (pv 5) AO (AR _)))))) (AH (AL Cj)) Ap)
   (AH (AL (F3 g4 hr (by rfl) (AB (pv 0) (AB (pv 1) (AB (pv 3) (AB (pv 4) (AB (pv 5) AD))))))))))),?_⟩
  refine⟨_,rfl,ws,_,_,_,rfl,rfl,hw,Bw (j:=0) rfl,ac,c,8,rfl,hc,fun H1 s1=>?_⟩
  refine⟨_,rfl,ws,_,_,_,rfl,rfl,s1.seq hw,Bw (j:=1) rfl,as,s,rfl,s1.seq hs,fun H2 s2=>?_⟩
  refine⟨_,rfl,ws,_,_,_,rfl,rfl,s2.seq (s1.seq hw),Bw (j:=2) rfl,al,l,rfl,s2.seq (s1.seq hl),hlen,fun H3 s3=>?_⟩
  have sA:=(s1.trans s2).trans s3
  refine⟨_,rfl,rfl,_,rfl,?_⟩
  by_cases h1:DI 8 c=0
  ·exact bT (decide_eq_true (congrArg V.int h1)) (bT rfl (kb (.inl h1) H3 sA))
  ·refine bF (decide_eq_false (BK h1)) ⟨_,rfl,_,_,rfl,rfl,_,rfl,?_⟩
   by_cases h2:Ck s < 0
   ·exact bT (decide_eq_true h2) (bT rfl (kb (.inr (.inl h2)) H3 sA))
   ·refine bF (decide_eq_false h2) ⟨_,rfl,_,_,rfl,rfl,_,rfl,?_⟩
    by_cases h3:Cv l < 0
    ·exact bT (decide_eq_true h3) (kb (.inr (.inr h3)) H3 sA)
    ·refine bF (decide_eq_false h3) ?_
     refine⟨_,rfl,_,rfl,_,rfl,_,rfl,_,rfl,?_⟩
     exact Ww (us:=[.int r,lv,.int (DI 8 c),.int (Ck s),.int (Cv l)]) rfl fun H' x dx s4 nx hx=>kg (fun q=>q.elim h1 fun q=>q.elim h2 h3) H' x dx (sA.trans s4) (sA.free nx) hx
end
theorem Yl {w:Ah}{n:Nat} (h:GS w=some n):Ck (zs w)=(n:Int):=by
 have e0:BJ "square"=zs (Ay "square"):=by decide +kernel
 have e1:BJ "tails"=zs (Ay "tails"):=by decide +kernel
 have e2:BJ "long"=zs (Ay "long"):=by decide +kernel
 unfold GS at h
 unfold Ck
 rw[e0,e1,e2]
 simp only[TJ]
 split at h
 ·rename_i q;cases h;rw[if_pos q];rfl
 ·rename_i q
  rw[if_neg q]
  split at h
  ·rename_i q2;cases h;rw[if_pos q2];rfl
  ·rename_i q2
   rw[if_neg q2]
   split at h
   ·rename_i q3;cases h;rw[if_pos q3];rfl
   ·cases h
theorem Yk {w:Ah} (h:GS w=none):Ck (zs w)=-1:=by
 have e0:BJ "square"=zs (Ay "square"):=by decide +kernel
 have e1:BJ "tails"=zs (Ay "tails"):=by decide +kernel
 have e2:BJ "long"=zs (Ay "long"):=by decide +kernel
 unfold GS at h
 unfold Ck
 rw[e0,e1,e2]
 simp only[TJ]
 split at h
 ·cases h
 ·rename_i q
  rw[if_neg q]
  split at h
  ·cases h
  ·rename_i q2
   rw[if_neg q2]
   split at h
   ·cases h
   ·rename_i q3;rw[if_neg q3]
theorem PU {r:FI}{c s l:Ah} (h:C5 r c s l=none):Ii (zs c) (zs s) (zs l):=by
 unfold C5 at h
 cases h1:Ef 8 c with
 | none=>exact .inl (SF h1)
 | some n =>
  cases h2:GS s with
  | none=>exact .inr (.inl (by rw[Yk h2];decide))
  | some m =>
   cases h3:GR l with
   | none=>exact .inr (.inr (by rw[Wu h3];decide))
   | some k=>rw[h1,h2,h3] at h;cases h
theorem E5 {r:FI}{c s l:Ah}{x:AM} (h:C5 r c s l=some x):¬Ii (zs c) (zs s) (zs l)∧zk x=⟨zl r,DI 8 (zs c),Ck (zs s),Cv (zs l)⟩∧x.role=r:=by
 unfold C5 at h
 cases h1:Ef 8 c with
 | none=>rw[h1] at h;cases h
 | some n =>
  cases h2:GS s with
  | none=>rw[h1,h2] at h;cases h
  | some m =>
   cases h3:GR l with
   | none=>rw[h1,h2,h3] at h;cases h
   | some k =>
    rw[h1,h2,h3] at h
    have h:some (⟨r,n,m,k⟩:AM)=some x:=h
    have h:=Ae h
    subst h
    obtain⟨q1,q2⟩:=Lq h1
    have q3:=Yl h2
    have q4:=Wv h3
    have q1':DI 8 (zs c)=(n:Int):=q1
    refine⟨?_,?_,rfl⟩
    ·rintro(q | q | q)
     ·rw[q1'] at q;omega
     ·rw[q3] at q;omega
     ·rw[q4] at q;omega
    ·rw[q1',q3,q4];rfl
end Fb
end
section
set_option maxRecDepth 100000
set_option maxHeartbeats 4000000
namespace Fb
open PySem PySem.Spec PyProof.Rows L2
abbrev Qr:Stmt:=Rj
def SR (K:AA) (CK:Addr):Sp:=fun vs H Q _=>∃(a:Addr) (b:Ah),vs=[.ref a]∧SqL K H a ((zs b).map V.int)∧b.length < 100000∧
 (Cf b=none→Pur H Q .non)∧∀x,Cf b=some x→∀(H':Hp) (p:Addr),Same H H'→H p=none→KindAt CK H' p (zk x)→Q (.ref p) H'
theorem scKTold:AY ["line","words"] ["line"] (AK Qr):=⟨rfl,rfl,rfl,by decide +kernel,rfl,by decide +kernel,by decide +kernel⟩
theorem Va (k:Nat) (xs:List V) (h:k≤xs.length):CO xs (some (k:Int)) none=xs.drop k:=by
 unfold CO
 have e1:HT.sIx xs.length 0 (some (k:Int))=k:=by
  show(if (k:Int) < 0 then ((k:Int)+(xs.length:Int)).toNat else min (k:Int).toNat xs.length)=k
  rw[if_neg (by omega),FL,Mu h]
 have e2:HT.sIx xs.length xs.length none=xs.length:=rfl
 rw[e1,e2]
 exact Tu (by rw[Jd];exact AV _)
theorem Vw:BJ "sign"=zs (Ay "sign"):=by decide +kernel
theorem OL:BJ "same"=zs (Ay "same"):=by decide +kernel
theorem Vs:BJ "answer"=zs (Ay "answer"):=by decide +kernel
section
variable {P:Program}{w:World}{K:AA}{mg:Str→Option Value}{base:Heap}{CK:Addr}
theorem ok_ktold {f:Addr}{fd:FuncData} (F:Fun K "kind_told" "kind_told" Qr f fd) (B:Blt mg) (c1:Cst mg "BLANK" (.int 32)) (c2:Cst mg "SIGN" (.int 1)) (c3:Cst mg "SAME" (.int 2)) (c4:Cst mg "ANSWER" (.int 3)) (c5:Cst mg "HIGHEST_SAME" (.int 4))
  (g1:Has P w K mg "split_at" 1 ["mark","values"] (EC K)) (g2:Has P w K mg "letters" 1 ["word"] HP) (g3:Has P w K mg "is_name" 2 ["word"] (JK K)) (g4:Has P w K mg "small_number" 1 ["word","most"] (L0 K))
  (g5:Has P w K mg "kind_with" 3 ["rank","label","words"] (Lv K CK)):FnOk P w K mg base CX0 4 f fd ["line"] (SR K CK):=by
 refine F.ok scKTold (fun vs H Q E h=>?_) (fun cdv A outer s H vs Q E hr h=>?_)
 ·obtain⟨a,b,rfl,_⟩:=h
  rfl
 ·obtain⟨a,b,rfl,hS,hlen,kn,ks⟩:=h
  have hr1:Room 1 _:=hr.mono (by decide)
  have hr2:Room 2 _:=hr.mono (by decide)
  have hu:=hr.units
  refine⟨_,AJ (BB (i:=1) scKTold.nd rfl (AZ rfl) (AN g1 hr1 (by rfl) (AB (AW c1 rfl) (AB (pv 0) AD))))
   (AJ (Al (PW.pt (Dl (Ac BY (A1 Bq (by rfl) B.len Bf (AB (pv 1) AD)) AO (AR _))
     (Dl (Ac (EX hu) (Bm Bl (pv 1) AO (fun _ _=>rfl)) (AN g2 hr1 (by rfl) (AB DT AD)) (AR _))
     (Ec (Cy (AN g3 hr2 (by rfl) (AB (Bm Bl (pv 1) AO (fun _ _=>rfl)) AD)))))))
    (AH (AL (AN g5 hr (by rfl) (AB (AW c2 rfl) (AB (QE N0 (by rfl) B.tuple (by decide +kernel) (AB (Bm Bl (pv 1) AO (fun _ _=>rfl)) AD)) (AB (F4 GF (pv 1) (F8 AO) F7) AD)))))) Ap)
   (AJ (Al (PW.pt (Dl (Ac BY (A1 Bq (by rfl) B.len Bf (AB (pv 1) AD)) AO (AR _))
     (Dl (Ac (EX hu) (Bm Bl (pv 1) AO (fun _ _=>rfl)) (AN g2 hr1 (by rfl) (AB DT AD)) (AR _))
     (Ec (Ac F1 (AN g4 hr1 (by rfl) (AB (Bm Bl (pv 1) AO (fun _ _=>rfl)) (AB (AW c5 rfl) AD))) AO (AR _))))))
    (AH (AL (AN g5 hr (by rfl) (AB (AW c3 rfl) (AB (AN g4 hr1 (by rfl) (AB (Bm Bl (pv 1) AO (fun _ _=>rfl)) (AB (AW c5 rfl) AD))) (AB (F4 GF (pv 1) (F8 AO) F7) AD)))))) Ap)
   (AJ (Al (PW.pt (Dl (Ac BY (A1 Bq (by rfl) B.len Bf (AB (pv 1) AD)) AO (AR _))
     (Ec (Ac (EX hu) (Bm Bl (pv 1) AO (fun _ _=>rfl)) (AN g2 hr1 (by rfl) (AB DT AD)) (AR _)))))
    (AH (AL (AN g5 hr (by rfl) (AB (AW c4 rfl) (AB AO (AB (F4 GF (pv 1) (F8 AO) F7) AD)))))) Ap)
   (AH (AL Cj))))),?_⟩
  refine⟨_,rfl,a,32,zs b,rfl,hS,by rw[Av];exact hlen,fun H1 p as s1 np nas hp hpa=>?_⟩
  rw[Fj] at hpa
  have hl:=CT hpa
  rw[AG] at hl
  have hlen':((as.map V.ref).length:Int)=((Bo 32 b).length:Int):=by rw[AG,hl]
  have part:∀x∈Bo 32 b,x.length < 100000:=fun x hx=>by
   have:=D5 32 (zs b) (zs x) (by rw[Fj];exact BP.mpr ⟨x,hx,rfl⟩)
   rw[Av,Av] at this
   omega
  have len5:∀{n:Int} {A C:Prop},((Bo 32 b).length:Int)≠n→C→if decide (V.int ((as.map V.ref).length:Nat)=V.int n)=true then A else C:=fun h c=>bF (decide_eq_false (BK (by rw[hlen'];exact h))) c
  have lenT:∀{n:Int} {A C:Prop},((Bo 32 b).length:Int)=n→A→if decide (V.int ((as.map V.ref).length:Nat)=V.int n)=true then A else C:=fun h c=>bT (decide_eq_true (congrArg V.int (by rw[hlen'];exact h))) c
  by_cases h5:(Bo 32 b).length=5
  ·match hc:Bo 32 b,as,hpa,h5 with
   | [w,n,c,s,l],[aw,an,ac,as,al],.cons pw (.cons pn (.cons pc (.cons ps (.cons pl .nil)))),_ =>
    have hp:H1 p=some (.lst [.ref aw,.ref an,.ref ac,.ref as,.ref al]):=hp
    have len5:∀{n:Int} {A C:Prop},(5:Int)≠n→C→if decide (V.int (([V.ref aw,V.ref an,V.ref ac,V.ref as,V.ref al]:List V).length:Nat)=V.int n)=true then A else C:=fun h c=>bF (decide_eq_false (BK h)) c
    have lw:=part w (by rw[hc];simp)
    have ln:=part n (by rw[hc];simp)
    have ll:=part l (by rw[hc];simp)
    have hk:Cf b=if w=Ay "sign"∧DW n=true then C5 (.sign n) c s l else if w=Ay "same" then (Ef 4 n).bind (fun (j:Nat)=>C5 (.same j) c s l) else none:=by
     unfold Cf
     rw[hc]
    have fin:∀(r:FI) (lv:V) (H2:Hp) (q2:Addr),Same H1 H2→KU H2 lv (zl r)→H2 q2=some (.lst [.ref ac,.ref as,.ref al])→Cf b=C5 r c s l→Lv K CK [.int (zl r).rank,lv,.ref q2] H2 Q E0:=fun r lv H2 q2 s2 hlab hq2 e=>by
     refine⟨_,lv,q2,ac,as,al,zs c,zs s,zs l,rfl,SqL.of hq2,SqL.of (s2 _ _ pc),SqL.of (s2 _ _ ps),SqL.of (s2 _ _ pl),by rw[Av];exact ll,fun bad H3 s3=>?_,fun good H3 x dx s3 nx hx=>?_⟩
     ·refine kn ?_ H3 ((s1.trans s2).trans s3)
      rw[e]
      cases q:C5 r c s l with
      | none=>rfl
      | some y=>exact absurd bad (E5 q).1
     ·cases q:C5 r c s l with
      | none=>exact absurd (PU q) good
      | some y =>
       obtain⟨_,ez,_⟩:=E5 q
       refine ks y (by rw[e,q]) H3 x ((s1.trans s2).trans s3) (s1.free (s2.free nx)) ?_
       rw[ez]
       refine⟨dx,lv,hx,?_⟩
       cases r with
       | sign m =>
        obtain⟨tp,e1,e2⟩:=hlab
        exact⟨tp,e1,s3 _ _ e2⟩
       | same m=>exact hlab
       | answer=>exact hlab
    refine⟨_,rfl,p,_,rfl,.inl (SqL.of hp),rfl,_,rfl,bT rfl ?_⟩
    refine⟨_,rfl,p,_,_,_,rfl,rfl,SqL.of hp,Bw (j:=0) rfl,_,rfl,by decide,fun H2 q s2 nq hq=>?_⟩
    refine⟨_,_,A6 (SqL.of (s2 _ _ pw)),A6 (SqL.of hq),A2 _,A2 _,?_⟩
    rw[CP,Vw]
    refine⟨_,rfl,?_⟩
    by_cases hw:w=Ay "sign"
    ·refine bT (decide_eq_true (by rw[hw])) ?_
     refine⟨_,rfl,p,_,_,_,rfl,rfl,SqL.of (s2 _ _ hp),Bw (j:=1) rfl,an,zs n,rfl,SqL.of (s2 _ _ pn),by rw[Av];exact ln,fun H3 s3=>⟨_,rfl,?_⟩⟩
     have s13:=s2.trans s3
     rw[Ic]
     by_cases hn:DW n=true
     ·rw[if_pos ⟨hw,hn⟩] at hk
      refine bT hn ?_
      refine⟨_,rfl,p,_,_,_,rfl,rfl,SqL.of (s13 _ _ hp),Bw (j:=1) rfl,an,_,rfl,.inl ⟨SqL.of (s13 _ _ pn),fun tp ntp=>?_⟩⟩
      have s4:Same H3 (upd H3 tp (.tup ((zs n).map V.int))):=(Same.refl H3).new ntp
      have htp:upd H3 tp (.tup ((zs n).map V.int)) tp=some (.tup ((zs n).map V.int)):=AI
      generalize upd H3 tp (.tup ((zs n).map V.int))=H4 at s4 htp ⊢
      refine⟨_,rfl,_,rfl,p,_,rfl,SqL.of (s4 _ _ (s13 _ _ hp)),fun q2 nq2=>?_⟩
      have s5:=(Same.refl H4).new (o:=.lst (CO [V.ref aw,V.ref an,V.ref ac,V.ref as,V.ref al] (some 2) none)) nq2
      exact fin (.sign n) (.ref tp) _ q2 ((s13.trans s4).trans s5) ⟨tp,rfl,s5 _ _ htp⟩ AI hk
     ·have hw2:¬w=Ay "same":=fun z=>by rw[z] at hw;exact absurd hw (by decide +kernel)
      rw[if_neg fun z=>hn z.2,if_neg hw2] at hk
      refine bF (GO.mpr hn) ?_
      refine⟨_,rfl,p,_,rfl,.inl (SqL.of (s13 _ _ hp)),rfl,_,rfl,bT rfl ?_⟩
      refine⟨_,rfl,p,_,_,_,rfl,rfl,SqL.of (s13 _ _ hp),Bw (j:=0) rfl,_,rfl,by decide,fun H4 q4 s4 nq4 hq4=>?_⟩
      refine⟨_,_,A6 (SqL.of (s4 _ _ (s13 _ _ pw))),A6 (SqL.of hq4),A2 _,A2 _,?_⟩
      rw[CP,OL]
      refine⟨_,rfl,bF (decide_eq_false fun z=>hw2 (DU z)) (bF rfl ?_)⟩
      refine⟨_,rfl,p,_,rfl,.inl (SqL.of (s4 _ _ (s13 _ _ hp))),rfl,_,rfl,len5 (by decide) (bF rfl ?_)⟩
      exact kn hk H4 ((s1.trans s13).trans s4)
    ·rw[if_neg fun z=>hw z.1] at hk
     refine bF (decide_eq_false fun z=>hw (DU z)) (bF rfl ?_)
     refine⟨_,rfl,p,_,rfl,.inl (SqL.of (s2 _ _ hp)),rfl,_,rfl,bT rfl ?_⟩
     refine⟨_,rfl,p,_,_,_,rfl,rfl,SqL.of (s2 _ _ hp),Bw (j:=0) rfl,_,rfl,by decide,fun H3 q3 s3 nq3 hq3=>?_⟩
     refine⟨_,_,A6 (SqL.of (s3 _ _ (s2 _ _ pw))),A6 (SqL.of hq3),A2 _,A2 _,?_⟩
     rw[CP,OL]
     refine⟨_,rfl,?_⟩
     have s13:=s2.trans s3
     by_cases hw2:w=Ay "same"
     ·rw[if_pos hw2] at hk
      refine bT (decide_eq_true (by rw[hw2])) ?_
      refine⟨_,rfl,p,_,_,_,rfl,rfl,SqL.of (s13 _ _ hp),Bw (j:=1) rfl,an,zs n,4,rfl,SqL.of (s13 _ _ pn),fun H4 s4=>⟨_,_,rfl,rfl,_,rfl,?_⟩⟩
      have s14:=s13.trans s4
      cases hd:Ef 4 n with
      | none =>
       rw[hd] at hk
       have e0:DI 4 (zs n)=0:=SF hd
       refine bF (decide_eq_false (by rw[e0];decide)) ?_
       refine⟨_,rfl,p,_,rfl,.inl (SqL.of (s14 _ _ hp)),rfl,_,rfl,len5 (by decide) (bF rfl ?_)⟩
       exact kn hk H4 (s1.trans s14)
      | some j =>
       rw[hd] at hk
       obtain⟨e0,e1⟩:=Lq hd
       have e0:DI 4 (zs n)=(j:Int):=e0
       refine bT (decide_eq_true (by rw[e0];omega)) ?_
       refine⟨_,rfl,p,_,_,_,rfl,rfl,SqL.of (s14 _ _ hp),Bw (j:=1) rfl,an,zs n,4,rfl,SqL.of (s14 _ _ pn),fun H5 s5=>?_⟩
       have s15:=s14.trans s5
       refine⟨_,rfl,_,rfl,p,_,rfl,SqL.of (s15 _ _ hp),fun q2 nq2=>?_⟩
       have s6:=(Same.refl H5).new (o:=.lst (CO [V.ref aw,V.ref an,V.ref ac,V.ref as,V.ref al] (some 2) none)) nq2
       rw[e0]
       exact fin (.same j) (.int j) _ q2 (s15.trans s6) rfl AI hk
     ·rw[if_neg hw2] at hk
      refine bF (decide_eq_false fun z=>hw2 (DU z)) (bF rfl ?_)
      refine⟨_,rfl,p,_,rfl,.inl (SqL.of (s13 _ _ hp)),rfl,_,rfl,len5 (by decide) (bF rfl ?_)⟩
      exact kn hk H3 (s1.trans s13)
  ·by_cases h4:(Bo 32 b).length=4
   ·match hc:Bo 32 b,as,hpa,h4 with
    | [w,c,s,l],[aw,ac,as,al],.cons pw (.cons pc (.cons ps (.cons pl .nil))),_ =>
     have hp:H1 p=some (.lst [.ref aw,.ref ac,.ref as,.ref al]):=hp
     have ll:=part l (by rw[hc];simp)
     have hk:Cf b=if w=Ay "answer" then C5 .answer c s l else none:=by
      unfold Cf
      rw[hc]
     have len4:∀{A C:Prop},C→if decide (V.int (([V.ref aw,V.ref ac,V.ref as,V.ref al]:List V).length:Nat)=V.int 5)=true then A else C:=fun c=>bF (decide_eq_false (BK (show(4:Int)≠5 by decide))) c
     refine⟨_,rfl,p,_,rfl,.inl (SqL.of hp),rfl,_,rfl,len4 (bF rfl ?_)⟩
     refine⟨_,rfl,p,_,rfl,.inl (SqL.of hp),rfl,_,rfl,len4 (bF rfl ?_)⟩
     refine⟨_,rfl,p,_,rfl,.inl (SqL.of hp),rfl,_,rfl,bT rfl ?_⟩
     refine⟨_,rfl,p,_,_,_,rfl,rfl,SqL.of hp,Bw (j:=0) rfl,_,rfl,by decide,fun H2 q s2 nq hq=>?_⟩
     refine⟨_,_,A6 (SqL.of (s2 _ _ pw)),A6 (SqL.of hq),A2 _,A2 _,?_⟩
     rw[CP,Vs]
     refine⟨_,rfl,?_⟩
     by_cases hw:w=Ay "answer"
     ·rw[if_pos hw] at hk
      refine bT (decide_eq_true (by rw[hw])) ?_
      refine⟨_,rfl,_,rfl,p,_,rfl,SqL.of (s2 _ _ hp),fun q2 nq2=>?_⟩
      have s3:=(Same.refl H2).new (o:=.lst (CO [V.ref aw,V.ref ac,V.ref as,V.ref al] (some 1) none)) nq2
      have s13:=s2.trans s3
      refine⟨_,.int 0,q2,ac,as,al,zs c,zs s,zs l,rfl,SqL.of AI,SqL.of (s13 _ _ pc),SqL.of (s13 _ _ ps),SqL.of (s13 _ _ pl),by rw[Av];exact ll,fun bad H3 s4=>?_,fun good H3 x dx s4 nx hx=>?_⟩
      ·refine kn ?_ H3 ((s1.trans s13).trans s4)
       rw[hk]
       cases q:C5 .answer c s l with
       | none=>rfl
       | some y=>exact absurd bad (E5 q).1
      ·cases q:C5 .answer c s l with
       | none=>exact absurd (PU q) good
       | some y =>
        obtain⟨_,ez,_⟩:=E5 q
        refine ks y (by rw[hk,q]) H3 x ((s1.trans s13).trans s4) (s1.free (s13.free nx)) ?_
        rw[ez]
        exact⟨dx,.int 0,hx,rfl⟩
     ·rw[if_neg hw] at hk
      refine bF (decide_eq_false fun z=>hw (DU z)) ?_
      exact kn hk H2 (s1.trans s2)
   ·have hk:Cf b=none:=by
     unfold Cf
     split
     ·rename_i q;rw[q] at h5;exact absurd rfl h5
     ·rename_i q;rw[q] at h4;exact absurd rfl h4
     ·rfl
    refine⟨_,rfl,p,_,rfl,.inl (SqL.of hp),rfl,_,rfl,?_⟩
    refine len5 (by omega) (bF rfl ?_)
    refine⟨_,rfl,p,_,rfl,.inl (SqL.of hp),rfl,_,rfl,?_⟩
    refine len5 (by omega) (bF rfl ?_)
    refine⟨_,rfl,p,_,rfl,.inl (SqL.of hp),rfl,_,rfl,?_⟩
    refine len5 (by omega) (bF rfl ?_)
    exact kn hk H1 s1
end
end Fb
end
section
set_option maxRecDepth 100000
set_option maxHeartbeats 4000000
namespace Fb
open PySem PySem.Spec PyProof.Rows L2
abbrev RC:Stmt:=RR
def Sn (CL CK:Addr):Sp:=fun vs H Q _=>∃(a b:Addr) (p:LA) (name:List Int) (kinds:List ZK) (fault:List Int) (z:ZK),vs=[.ref a,.ref b]∧LockAt CL CK H a p name kinds fault∧KindAt CK H b z∧Pur H Q (.bl (GG kinds z))
theorem scStand:AY ["locker","kind","before"] ["locker","kind"] (AK RC):=⟨rfl,rfl,rfl,by decide +kernel,rfl,by decide +kernel,by decide +kernel⟩
section
variable {P:Program}{w:World}{K:AA}{mg:Str→Option Value}{base:Heap}{CL CK:Addr}
theorem ok_stand {f:Addr}{fd:FuncData} (F:Fun K "can_stand" "can_stand" RC f fd) (B:Blt mg) (TL:LockC K CL) (TK:KindC K CK) (c1:Cst mg "ANSWER" (.int 3)):FnOk P w K mg base CX0 1 f fd ["locker","kind"] (Sn CL CK):=by
 refine F.ok scStand (fun vs H Q E h=>?_) (fun cdv A outer s H vs Q E hr h=>?_)
 ·obtain⟨a,b,p,nm,ks,fl,z,rfl,_⟩:=h
  rfl
 ·obtain⟨a,b,p,nm,ks,fl,z,rfl,L,⟨dz,lz,hz,_⟩,k⟩:=h
  have kk:=k H (Same.refl H)
  obtain⟨dx,ho⟩:=L.ob
  obtain⟨as,hk,hp⟩:=L.ks
  have hl:=CT hp
  refine⟨_,AJ (Al (Ac BY (A1 Bq (by rfl) B.len Bf (AB (Ak (pv 0) rfl) AD)) AO (AR _)) (AH (AL QC)) Ap)
   (AJ (BB (i:=2) scStand.nd rfl (AZ rfl) (Bm Bl (Ak (pv 0) rfl) (F5 GK AO) (fun _ _=>rfl)))
   (AH (AL (EY (Cw Iu (Ak (pv 2) rfl) (AW c1 rfl) (AR _)) (Ea (Cw CZ (Ak (pv 2) rfl) (Ak (pv 1) rfl) (AR _))))))),?_⟩
  refine⟨_,rfl,a,CL,dx,_,_,rfl,ho,TL.cl,TL.kinds,Fx,p.ak,_,rfl,.inl (SqL.of hk),rfl,_,rfl,?_⟩
  cases hlast:ks.getLast? with
  | none =>
   have:ks=[]:=Ml.mp hlast
   subst this
   have:as=[]:=by cases as with | nil=>rfl | cons _ _=>simp at hl
   subst this
   exact bT rfl kk
  | some q =>
   obtain⟨r,e⟩:=K5 hlast
   subst e
   rw[BO,C7] at hl
   obtain⟨asR,aQ,rfl⟩:∃asR aQ,as=asR++[aQ]:=by
    have ne:as≠[]:=by intro q;rw[q] at hl;simp at hl
    exact⟨as.dropLast,as.getLast ne,(JY ne).symm⟩
   have hlR:asR.length=r.length:=by rw[BO,C7] at hl;omega
   obtain⟨aq',e1,dq,lq,hq,_⟩:=DE hp (i:=r.length) (b:=q) (by simp)
   rw[He (by omega),hlR,Ju] at e1
   cases e1
   refine bF (decide_eq_false (BK (by rw[AG,BO,C7];omega))) ?_
   refine⟨_,rfl,a,CL,dx,_,_,rfl,ho,TL.cl,TL.kinds,Fx,_,rfl,p.ak,_,_,_,rfl,rfl,SqL.of hk,by rw[CU];exact Kc _ _,?_⟩
   refine⟨_,rfl,_,CK,dq,_,_,rfl,hq,TK.cl,TK.rank,DR,rfl,_,rfl,?_⟩
   unfold GG at kk
   rw[hlast] at kk
   have kk:Q (.bl (!(decide (q.lab.rank=3))&&decide (q.lab.rank≤z.lab.rank))) H:=kk
   by_cases h3:q.lab.rank=3
   ·rw[decide_eq_true h3] at kk
    exact bF (by rw[decide_eq_true (congrArg V.int h3)];rfl) kk
   ·rw[decide_eq_false h3] at kk
    refine bT (by rw[decide_eq_false (BK h3)];rfl) ?_
    exact⟨_,rfl,_,CK,dq,_,_,rfl,hq,TK.cl,TK.rank,DR,_,rfl,b,CK,dz,_,_,rfl,hz,TK.cl,TK.rank,DR,_,_,rfl,rfl,kk⟩
end
abbrev Lj:Stmt:=RX
def SS (CL CK:Addr):Sp:=fun vs H Q _=>∃(a b:Addr) (p:LA) (name:List Int) (kinds:List ZK) (fault:List Int) (z:ZK),vs=[.ref a,.ref b]∧LockAt CL CK H a p name kinds fault∧KindAt CK H b z∧kinds.length < 100000∧Pur H Q (.bl (DS kinds z))
theorem scLabel:AY ["locker","kind","before"] ["locker","kind"] (AK Lj):=⟨rfl,rfl,rfl,by decide +kernel,rfl,by decide +kernel,by decide +kernel⟩
theorem K1:∀{a b:List Int},A0 a=A0 b→a=b
 | [],[],_=>rfl
 | [],_::_,h=>by simp[A0] at h
 | _::_,[],h=>by simp[A0] at h
 | x::a,y::b,h=>by
  have h:(Ar x:Key)::A0 a=Ar y::A0 b:=h
  obtain⟨h1,h2⟩:=FO h
  rw[Hu h1,K1 h2]
theorem MJ (n:List Int):∀(kinds:List ZK) (i:Nat),(Aq (Bn i kinds) (A0 n)).isSome=kinds.any fun b=>decide (b.lab=.sign n)
 | [],i=>rfl
 | z::r,i=>by
  have ih:=MJ n r (i+1)
  rw[GD,DK]
  cases hz:z.lab with
  | sign m =>
   by_cases e:m=n
   ·subst e
    rw[decide_eq_true rfl,MR]
    show(Aq ((A0 m,V.int (i:Nat))::Bn (i+1) r) (A0 m)).isSome=true
    rw[Ce rfl]
    rfl
   ·rw[decide_eq_false (fun q=>e (by injection q)),GP,← ih]
    show(Aq ((A0 m,V.int (i:Nat))::Bn (i+1) r) (A0 n)).isSome=_
    rw[Cd (p:=(A0 m,V.int ((i:Nat):Int))) fun q=>e (K1 q)]
  | same k=>rw[decide_eq_false (fun q=>nomatch q),GP,← ih]
  | ans=>rw[decide_eq_false (fun q=>nomatch q),GP,← ih]
def DH:List ZK→List Int
 | []=>[]
 | z::r=>match z.lab with
  | .same k=>k::DH r
  | _=>DH r
theorem Lo:∀(kinds:List ZK) (i:Nat),(BG i kinds).map (·.1)=(DH kinds).map Ar
 | [],_=>rfl
 | z::r,i=>by
  have ih:=Lo r (i+1)
  rw[GC]
  unfold DH
  cases z.lab with
  | sign n=>exact ih
  | same k=>show Ar k::_=Ar k::_;rw[ih]
  | ans=>exact ih
theorem RH (kinds:List ZK) (i:Nat):(BG i kinds).length=(DH kinds).length:=by
 have:=congrArg GW (Lo kinds i)
 rwa [AG,AG] at this
theorem Ln:∀kinds:List ZK,(DH kinds).length≤kinds.length
 | []=>AV _
 | z::r=>by
  have ih:=Ln r
  unfold DH
  split
  ·simp;omega
  ·simp;omega
theorem Ka (k:Int):∀kinds:List ZK,((DH kinds).any fun j=>decide (k≤j))=kinds.any fun b=>match b.lab with
  | .same j=>decide (k≤j)
  | _=>false
 | []=>rfl
 | z::r=>by
  have ih:=Ka k r
  unfold DH
  rw[DK]
  cases z.lab with
  | sign n=>rw[← ih];simp
  | same j=>rw[← ih];simp
  | ans=>rw[← ih];simp
section
variable {P:Program}{w:World}{K:AA}{mg:Str→Option Value}{base:Heap}{CL CK:Addr}
theorem ok_label {f:Addr}{fd:FuncData} (F:Fun K "is_label_taken" "is_label_taken" Lj f fd) (B:Blt mg) (TL:LockC K CL) (TK:KindC K CK) (c1:Cst mg "SIGN" (.int 1)) (c2:Cst mg "SAME" (.int 2)):FnOk P w K mg base CX0 1 f fd ["locker","kind"] (SS CL CK):=by
 refine F.ok scLabel (fun vs H Q E h=>?_) (fun cdv A outer s H vs Q E hr h=>?_)
 ·obtain⟨a,b,p,nm,ks,fl,z,rfl,_⟩:=h
  rfl
 ·obtain⟨a,b,p,nm,ks,fl,z,rfl,L,⟨dz,lz,hz,hlab⟩,hlen,k⟩:=h
  have kk:=k H (Same.refl H)
  have hu:=E1 hr
  obtain⟨dx,ho⟩:=L.ob
  refine⟨_,AJ (Al (Ac BY (Ak (pv 1) rfl) (AW c1 rfl) (AR _)) (AH (AL (XY (XX hu (Ak (pv 1) rfl) (Ak (pv 0) rfl))))) Ap)
   (AH (AL (EY (Cw BY (Ak (pv 1) rfl) (AW c2 rfl) (AR _)) (Ea (A1 (N9 rfl) (by rfl) B.any boot_any (AB (QI (Dk (own:=[("before",2)]) rfl scLabel.nd (QM (Ak (pv 0) rfl)) (Df (N:=["locker","kind","before"]) (sc:=AK Lj) (by decide +kernel))
    (fun s H C cl fp=>Bs (i:=2) scLabel.nd rfl (AZ rfl)) (fun s H C cl fp=>D9) (fun s H C cl fp=>Cw CZ (E8 K rfl (pv 1) rfl) (pv 2) (AR _)))) AD)))))),?_⟩
  refine⟨_,rfl,b,CK,dz,_,_,rfl,hz,TK.cl,TK.rank,DR,rfl,_,rfl,?_⟩
  unfold DS at kk
  cases hl:z.lab with
  | sign n =>
   rw[hl] at kk hlab
   obtain⟨tp,e1,htp⟩:=hlab
   subst e1
   refine bT (decide_eq_true rfl) ?_
   have htp':H tp=some (.tup ((A0 n).map kV)):=by rw[K0];exact htp
   refine⟨_,rfl,b,CK,dz,_,_,rfl,hz,TK.cl,TK.label,Ig,_,rfl,a,CL,dx,_,_,rfl,ho,TL.cl,TL.signs,G7,p.sg,_,rfl,DGet.t (k:=A0 n) L.sg htp',?_⟩
   rw[MJ]
   exact kk
  | ans =>
   rw[hl] at kk
   refine bF (decide_eq_false (BK (by decide))) ?_
   refine⟨_,rfl,b,CK,dz,_,_,rfl,hz,TK.cl,TK.rank,DR,rfl,_,rfl,?_⟩
   rw[hl]
   exact bF (decide_eq_false (BK (by decide))) kk
  | same j =>
   rw[hl] at kk hlab
   have hlab:lz=.int j:=hlab
   subst hlab
   refine bF (decide_eq_false (BK (show(2:Int)≠1 by decide))) ?_
   refine⟨_,rfl,b,CK,dz,_,_,rfl,hz,TK.cl,TK.rank,DR,rfl,_,rfl,?_⟩
   rw[hl]
   refine bT (decide_eq_true rfl) ?_
   have kk:Q (.bl (ks.any fun b=>match b.lab with
    | .same i=>decide (j≤i)
    | _=>false)) H:=kk
   rw[← Ka] at kk
   have hkl:=RH ks 0
   have hle:=Ln ks
   refine⟨p.sm,_,L.sm,trivial,fun od=>?_⟩
   have hfz:upd H p.sm (.frz od (.dK (BG 0 ks))) p.sm=some (.frz od (.dK (BG 0 ks))):=AI
   have nap:a≠p.sm:=Bb ho L.sm (by intro q;cases q)
   have nbp:b≠p.sm:=Bb hz L.sm (by intro q;cases q)
   have s0:∀x o,H x=some o→x≠p.sm→upd H p.sm (.frz od (.dK (BG 0 ks))) x=some o:=fun x o e n=>by rw[AE n];exact e
   refine⟨_,rfl,a,CL,dx,_,_,rfl,s0 _ _ ho nap,TL.cl,TL.sames,Ik,p.sm,od,rfl,.inl ⟨_,hfz,fun D hD=>?_⟩⟩
   refine EU (n:=(BG 0 ks).length) (((DH ks).map fun i=>decide (j≤i)).map V.bl) (by simp[hkl]) (Br (by omega)) hD (fun i H hi s1=>⟨s1 _ _ hfz,hi⟩) (fun H s1=>⟨s1 _ _ hfz,AV _⟩) ?_ ?_
   ·rintro i y v H1 H2 hv s1 ⟨rfl,kk',vv,hkk,rfl⟩ R hR
    have hks':((BG 0 ks).map (·.1))[i]?=some kk':=by rw[Aj,hkk];rfl
    rw[Lo,Aj] at hks'
    cases hq:(DH ks)[i]? with
    | none=>rw[hq] at hks';cases hks'
    | some q =>
     rw[hq] at hks'
     have ez:Ar q=kk':=Ae hks'
     subst ez
     have ev:v=V.bl (decide (j≤q)):=by
      rw[Aj,Aj,hq] at hv
      exact(Ae hv).symm
     subst ev
     exact⟨rfl,_,rfl,b,CK,dz,_,_,rfl,s1 _ _ (s0 _ _ hz nbp),TK.cl,TK.label,Ig,_,rfl,_,_,rfl,rfl,hR _ (Same.refl _)⟩
   ·intro H2 s5 hD2
    refine⟨s5 _ _ hfz,D,(DH ks).map fun i=>decide (j≤i),rfl,SqL.of ?_,?_⟩
    ·rw[AE (An (Am hfz hD))]
     exact hD2
    ·rw[GV]
     have key:Same H (upd H2 p.sm (.dK (BG 0 ks))):=fun x o e=>by
      by_cases n:x=p.sm
      ·subst n
       rw[AI,← L.sm]
       exact e
      ·rw[AE n]
       exact s5 _ _ (s0 _ _ e n)
     have:=k _ key
     unfold DS at this
     rw[hl] at this
     have this:Q (.bl (ks.any fun b=>match b.lab with
      | .same i=>decide (j≤i)
      | _=>false)) _:=this
     rw[← Ka] at this
     exact this
end
abbrev Ll:Stmt:=RY
def Lw (CL CK:Addr):Sp:=fun vs H Q _=>∃(a b:Addr) (p:LA) (name:List Int) (kinds:List ZK) (fault:List Int) (z:ZK),vs=[.ref a,.ref b]∧LockAt CL CK H a p name kinds fault∧KindAt CK H b z∧kinds.length < 100000∧Pur H Q (.bl (G8 kinds z))
theorem scLookT:AY ["locker","kind","before"] ["locker","kind"] (AK Ll):=⟨rfl,rfl,rfl,by decide +kernel,rfl,by decide +kernel,by decide +kernel⟩
section
variable {P:Program}{w:World}{K:AA}{mg:Str→Option Value}{base:Heap}{CL CK:Addr}
theorem ok_lookT {f:Addr}{fd:FuncData} (F:Fun K "is_look_taken" "is_look_taken" Ll f fd) (B:Blt mg) (TL:LockC K CL) (TK:KindC K CK):FnOk P w K mg base CX0 1 f fd ["locker","kind"] (Lw CL CK):=by
 refine F.ok scLookT (fun vs H Q E h=>?_) (fun cdv A outer s H vs Q E hr h=>?_)
 ·obtain⟨a,b,p,nm,ks,fl,z,rfl,_⟩:=h
  rfl
 ·obtain⟨a,b,p,nm,ks,fl,z,rfl,L,⟨dz,lz,hz,hlab⟩,hlen,k⟩:=h
  obtain⟨dx,ho⟩:=L.ob
  obtain⟨as,hk,hp⟩:=L.ks
  have hl:=CT hp
  refine⟨_,AH (AL (A1 (N9 rfl) (by rfl) B.any boot_any (AB (Dk (own:=[("before",2)]) rfl scLookT.nd (D7 (Ak (pv 0) rfl)) (Df (N:=["locker","kind","before"]) (sc:=AK Ll) (by decide +kernel))
    (fun s H C cl fp=>Bs (i:=2) scLookT.nd rfl (AZ rfl)) (fun s H C cl fp=>D9) (fun s H C cl fp=>EY (Cw BY (E8 K rfl (pv 2) rfl) (E8 K rfl (pv 1) rfl) (AR _)) (Ea (Cw BY (E8 K rfl (pv 2) rfl) (E8 K rfl (pv 1) rfl) (AR _))))) AD))),?_⟩
  refine⟨_,rfl,a,CL,dx,_,_,rfl,ho,TL.cl,TL.kinds,Fx,p.ak,rfl,⟨_,SqL.of hk⟩,fun D hD=>?_⟩
  refine EU (n:=(as.map V.ref).length) ((ks.map fun q=>decide (q.shape=z.shape)&&decide (q.look=z.look)).map V.bl) (by simp[hl]) (Br (by rw[AG,hl];omega)) hD (fun i H hi s1=>E3 (SqL.of (s1 _ _ hk)) hi) (fun H s1=>E4 (SqL.of (s1 _ _ hk))) ?_ ?_
  ·rintro i y v H1 H2 hv s1 ⟨rfl,hy⟩ R hR
   have hy:=hy _ (SqL.of (s1 _ _ hk))
   rw[Aj,Aj] at hv
   cases hq:ks[i]? with
   | none=>rw[hq] at hv;cases hv
   | some q =>
    rw[hq] at hv
    have ev:V.bl (decide (q.shape=z.shape)&&decide (q.look=z.look))=v:=Ae hv
    subst ev
    obtain⟨c,hc,dq,lq,hqq,_⟩:=DE hp hq
    rw[Aj,hc] at hy
    have ey:V.ref c=y:=Ae hy
    subst ey
    have r0:=hR _ (Same.refl _)
    refine⟨rfl,_,rfl,c,CK,dq,_,_,rfl,s1 _ _ hqq,TK.cl,TK.shape,PR,_,rfl,b,CK,dz,_,_,rfl,s1 _ _ hz,TK.cl,TK.shape,PR,rfl,_,rfl,?_⟩
    by_cases h1:q.shape=z.shape
    ·rw[decide_eq_true h1,DJ] at r0
     refine bT (decide_eq_true (congrArg V.int h1)) ?_
     refine⟨_,rfl,c,CK,dq,_,_,rfl,s1 _ _ hqq,TK.cl,TK.look,PQ,_,rfl,b,CK,dz,_,_,rfl,s1 _ _ hz,TK.cl,TK.look,PQ,rfl,?_⟩
     rw[show decide (V.int q.look=V.int z.look)=decide (q.look=z.look) from CA ⟨JR,fun h=>congrArg V.int h⟩]
     exact r0
    ·rw[decide_eq_false h1,Co] at r0
     exact bF (decide_eq_false (BK h1)) r0
  ·intro H2 s5 hD2
   refine⟨D,ks.map fun q=>decide (q.shape=z.shape)&&decide (q.look=z.look),rfl,SqL.of hD2,?_⟩
   rw[GV]
   exact k H2 s5
end
end Fb
end
section
set_option maxRecDepth 100000
set_option maxHeartbeats 4000000
namespace Fb
open PySem PySem.Spec PyProof.Rows L2
abbrev Qq:Stmt:=Ri
def SO (CL CK:Addr):Sp:=fun vs H Q _=>∃(a:Addr) (kv:V) (p:LA) (name:List Int) (kinds:List ZK) (fault:List Int) (R:Int),vs=[.ref a,kv]∧LockAt CL CK H a p name kinds fault∧kinds.length < 100000∧
 ((kv=.non∧R=1)∨∃b z,kv=.ref b∧KindAt CK H b z∧R=IU kinds z)∧Pur H Q (.int R)
theorem YL:AY ["locker","kind"] ["locker","kind"] (AK Qq):=⟨rfl,rfl,rfl,by decide +kernel,rfl,by decide +kernel,by decide +kernel⟩
theorem JJ:∀(kinds:List ZK) (i:Nat),(Bn i kinds).length=EA kinds
 | [],_=>rfl
 | z::r,i=>by
  have ih:=JJ r (i+1)
  rw[GD]
  unfold EA at ih ⊢
  rw[Ei]
  cases hz:z.lab with
  | sign n=>simp[ZLab.rank,ih]
  | same k=>simp[ZLab.rank,ih]
  | ans=>simp[ZLab.rank,ih]
section
variable {P:Program}{w:World}{K:AA}{mg:Str→Option Value}{base:Heap}{CL CK:Addr}
theorem ok_kfault {f:Addr}{fd:FuncData} (F:Fun K "kind_fault" "kind_fault" Qq f fd) (B:Blt mg) (TL:LockC K CL) (TK:KindC K CK) (c1:Cst mg "NO_SUCH_LINE" (.int 1)) (c2:Cst mg "TOLD_BEFORE" (.int 2)) (c3:Cst mg "TOO_MANY_SIGNS" (.int 3)) (c4:Cst mg "LOOK_TOLD_BEFORE" (.int 4)) (c5:Cst mg "SIGN" (.int 1)) (c6:Cst mg "MOST_SIGNS" (.int 48))
  (g1:Has P w K mg "can_stand" 1 ["locker","kind"] (Sn CL CK)) (g2:Has P w K mg "is_label_taken" 1 ["locker","kind"] (SS CL CK)) (g3:Has P w K mg "is_look_taken" 1 ["locker","kind"] (Lw CL CK)):FnOk P w K mg base CX0 2 f fd ["locker","kind"] (SO CL CK):=by
 refine F.ok YL (fun vs H Q E h=>?_) (fun cdv A outer s H vs Q E hr h=>?_)
 ·obtain⟨a,kv,p,nm,ks,fl,R,rfl,_⟩:=h
  rfl
 ·obtain⟨a,kv,p,nm,ks,fl,R,rfl,L,hlen,hkv,k⟩:=h
  refine⟨_,AJ (Al (PW.pt (F9 (Ac LQ (pv 1) Cj (AR _)) (HM (D8 (Cy (AN g1 hr (by rfl) (AB (pv 0) (AB (pv 1) AD)))))))) (AH (AL (AW c1 rfl))) Ap)
   (AJ (Al (Cy (AN g2 hr (by rfl) (AB (pv 0) (AB (pv 1) AD)))) (AH (AL (AW c2 rfl))) Ap)
   (AJ (Al (PW.pt (Dl (Ac BY (Ak (pv 1) rfl) (AW c5 rfl) (AR _)) (Ec (Ac BY (A1 Nz (by rfl) B.len Bf (AB (Ak (pv 0) rfl) AD)) (AW c6 rfl) (AR _))))) (AH (AL (AW c3 rfl))) Ap)
   (AJ (Al (Cy (AN g3 hr (by rfl) (AB (pv 0) (AB (pv 1) AD)))) (AH (AL (AW c4 rfl))) Ap)
   (AH (AL AO))))),?_⟩
  rcases hkv with ⟨rfl,rfl⟩ | ⟨b,z,rfl,hz,rfl⟩
  ·exact⟨_,rfl,rfl,_,rfl,bT rfl (bT rfl (k H (Same.refl H)))⟩
  ·unfold IU at k
   refine⟨_,rfl,rfl,_,rfl,bF (decide_eq_false fun q=>nomatch q) ?_⟩
   refine⟨_,rfl,_,rfl,a,b,p,nm,ks,fl,z,rfl,L,hz,fun H1 s1=>⟨_,rfl,?_⟩⟩
   cases h1:GG ks z with
   | false =>
    rw[if_pos h1] at k
    exact bT rfl (k H1 s1)
   | true =>
    rw[if_neg (by rw[h1];decide)] at k
    refine bF rfl ?_
    refine⟨_,rfl,_,rfl,a,b,p,nm,ks,fl,z,rfl,L.mono s1,hz.mono s1,hlen,fun H2 s2=>⟨_,rfl,?_⟩⟩
    have s12:=s1.trans s2
    cases h2:DS ks z with
    | true =>
     rw[if_pos h2] at k
     exact bT rfl (k H2 s12)
    | false =>
     rw[if_neg (by rw[h2];decide)] at k
     refine bF rfl ?_
     obtain⟨dz,lz,hz2,hlab2⟩:=hz.mono s12
     have L2:=L.mono s12
     obtain⟨dx,ho⟩:=L2.ob
     refine⟨_,rfl,b,CK,dz,_,_,rfl,hz2,TK.cl,TK.rank,DR,rfl,_,rfl,?_⟩
     have last:(¬(z.lab.rank=1∧EA ks=48))→ME (MC (tB (JO (Lw CL CK) [] E0 (GI (Ee 0) (GI (Ee 1) FC)))) (HR (tC (V.int 4))) MD) (HR (tC (V.int 0))) { nx:=fun x H'=>Q V.non H',rt:=Q } (_root_.L2.start ["locker","kind"] [V.ref a,V.ref b]) H2:=fun hn=>by
      rw[if_neg hn] at k
      refine⟨_,rfl,_,rfl,a,b,p,nm,ks,fl,z,rfl,L2,hz.mono s12,hlen,fun H3 s3=>⟨_,rfl,?_⟩⟩
      have s13:=s12.trans s3
      cases h3:G8 ks z with
      | true =>
       rw[if_pos h3] at k
       exact bT rfl (k H3 s13)
      | false =>
       rw[if_neg (by rw[h3];decide)] at k
       exact bF rfl (k H3 s13)
     by_cases h3:z.lab.rank=1
     ·refine bT (decide_eq_true (congrArg V.int h3)) ?_
      refine⟨_,rfl,a,CL,dx,_,_,rfl,ho,TL.cl,TL.signs,G7,p.sg,_,rfl,L2.sg,rfl,_,rfl,?_⟩
      rw[JJ]
      by_cases h4:EA ks=48
      ·rw[if_pos ⟨h3,h4⟩] at k
       exact bT (decide_eq_true (by rw[h4];rfl)) (k H2 s12)
      ·exact bF (decide_eq_false (BK (by omega))) (last fun q=>h4 q.2)
     ·exact bF (decide_eq_false (BK h3)) (bF rfl (last fun q=>h3 q.1))
end
end Fb
end
section
set_option maxRecDepth 100000
set_option maxHeartbeats 4000000
namespace Fb
open PySem PySem.Spec PyProof.Rows L2
abbrev Qh:Stmt:=RP
def KQ (p:LA):Prop:=p.an≠p.ak∧p.af≠p.ak
def KeepBut (xs:List Addr) (H H':Hp):Prop:=∀x o,H x=some o→x∉xs→H' x=some o
theorem KeepBut.trans {xs:List Addr}{H H1 H2:Hp} (a:KeepBut xs H H1) (b:KeepBut xs H1 H2):KeepBut xs H H2:=fun x o e n=>b x o (a x o e n) n
theorem KeepBut.of {xs:List Addr}{H H':Hp} (s:Same H H'):KeepBut xs H H':=fun x o e _=>s x o e
theorem KeepBut.mono {xs ys:List Addr}{H H':Hp} (a:KeepBut xs H H') (h:∀x∈xs,x∈ys):KeepBut ys H H':=fun x o e n=>a x o e fun z=>n (h x z)
def SG (CL CK:Addr):Sp:=fun vs H Q _=>∃(a b:Addr) (p:LA) (name:List Int) (kinds:List ZK) (fault:List Int) (z:ZK),vs=[.ref a,.ref b]∧LockAt CL CK H a p name kinds fault∧KindAt CK H b z∧KQ p∧kinds.length < 100000∧DS kinds z=false∧
 ∀H',LockAt CL CK H' a p name (kinds++[z]) fault→KeepBut [p.ak,p.sg,p.sm] H H'→Q .non H'
theorem scAddK:AY ["locker","kind","number"] ["locker","kind"] (AK Qh):=⟨rfl,rfl,rfl,by decide +kernel,rfl,by decide +kernel,by decide +kernel⟩
theorem JI (z:ZK):∀(ks:List ZK) (i:Nat),Bn i (ks++[z])=Bn i ks++(match z.lab with
  | .sign n=>[(A0 n,V.int ((i+ks.length:Nat):Int))]
  | _=>[])
 | [],i=>by
  rw[Tr,GD]
  cases z.lab <;> rfl
 | y::ks,i=>by
  rw[FP,GD,GD,JI z ks (i+1),B1,show i+1+ks.length=i+(ks.length+1) by omega]
  cases y.lab <;> rfl
theorem JG (z:ZK):∀(ks:List ZK) (i:Nat),BG i (ks++[z])=BG i ks++(match z.lab with
  | .same n=>[(Ar n,V.int ((i+ks.length:Nat):Int))]
  | _=>[])
 | [],i=>by
  rw[Tr,GC]
  cases z.lab <;> rfl
 | y::ks,i=>by
  rw[FP,GC,GC,JG z ks (i+1),B1,show i+1+ks.length=i+(ks.length+1) by omega]
  cases y.lab <;> rfl
theorem Yo (ks:List ZK) (i:Nat):(Bn i ks).length≤ks.length:=by
 rw[JJ]
 exact Jg _ _
theorem YE (ks:List ZK) (i:Nat):(BG i ks).length≤ks.length:=by
 rw[RH]
 exact Ln ks
theorem Zh {ks:List ZK}{j:Int} (i:Nat) (h:(ks.any fun b=>match b.lab with
  | .same i=>decide (j≤i)
  | _=>false)=false):Aq (BG i ks) (Ar j)=none:=by
 rcases S6 j ks i with ⟨h1,_⟩ | ⟨m,z,_,h2,h3⟩
 ·exact h1
 ·have hz:=Te h3
  have hm:=Tq h3
  have:=(DY.mp h) z hm
  have e:z.lab=.same j:=of_decide_eq_true hz
  rw[e] at this
  exact absurd (decide_eq_true (Int.le_refl j)) this
section
variable {P:Program}{w:World}{K:AA}{mg:Str→Option Value}{base:Heap}{CL CK:Addr}
theorem ok_addK {f:Addr}{fd:FuncData} (F:Fun K "add_kind" "add_kind" Qh f fd) (B:Blt mg) (TL:LockC K CL) (TK:KindC K CK) (c1:Cst mg "SIGN" (.int 1)) (c2:Cst mg "SAME" (.int 2)):FnOk P w K mg base CX0 1 f fd ["locker","kind"] (SG CL CK):=by
 refine F.ok scAddK (fun vs H Q E h=>?_) (fun cdv A outer s H vs Q E hr h=>?_)
 ·obtain⟨a,b,p,nm,ks,fl,z,rfl,_⟩:=h
  rfl
 ·obtain⟨a,b,p,nm,ks,fl,z,rfl,L,hK,⟨ap1,ap2⟩,hlen,hlz,k⟩:=h
  have hu:=E1 hr
  obtain⟨dx,ho⟩:=L.ob
  obtain⟨as,hk,hp⟩:=L.ks
  obtain⟨dz,lz,hz,hlab⟩:=id hK
  have hl:=CT hp
  refine⟨_,AJ (BB (i:=2) scAddK.nd rfl (AZ rfl) (A1 Bq (by rfl) B.len Bf (AB (Ak (pv 0) rfl) AD)))
   (AJ (E9 (EZ Em Ge Gf Fy (Ak (pv 0) rfl) (AB (pv 1) AD)))
   (AJ (Al (Ac BY (Ak (pv 1) rfl) (AW c1 rfl) (AR _)) (AH (Lb hu (Ak (pv 0) rfl) (Ak (pv 1) rfl) (pv 2) rfl)) Ap)
   (AH (Al (Ac BY (Ak (pv 1) rfl) (AW c2 rfl) (AR _)) (AH (Lb hu (Ak (pv 0) rfl) (Ak (pv 1) rfl) (pv 2) rfl)) Ap)))),?_⟩
  refine⟨_,rfl,a,CL,dx,_,_,rfl,ho,TL.cl,TL.kinds,Fx,p.ak,_,rfl,.inl (SqL.of hk),?_⟩
  refine⟨_,rfl,a,CL,dx,_,_,rfl,ho,TL.cl,TL.kinds,Fx,.inl ⟨rfl,_,SqL.of hk⟩,_,rfl,p.ak,_,_,rfl,rfl,hk,Br (by rw[AG,hl];omega),?_⟩
  have nak:∀{x:Addr} {o:HO},H x=some o→(∀xs,o≠.lst xs)→x≠p.ak:=fun e n=>Bb e hk (n _)
  have k1:∀x o,H x=some o→x≠p.ak→upd H p.ak (.lst (as.map V.ref++[V.ref b])) x=some o:=fun x o e n=>by rw[AE n];exact e
  have ho1:=k1 _ _ ho (nak ho fun _ q=>nomatch q)
  have hz1:=k1 _ _ hz (nak hz fun _ q=>nomatch q)
  have hsg1:=k1 _ _ L.sg (nak L.sg fun _ q=>nomatch q)
  have hsm1:=k1 _ _ L.sm (nak L.sm fun _ q=>nomatch q)
  have hnm1:=k1 _ _ L.nm ap1
  have haf1:=k1 _ _ L.af ap2
  have hak1:upd H p.ak (.lst (as.map V.ref++[V.ref b])) p.ak=some (.lst ((as++[b]).map V.ref)):=by rw[AI,CU];rfl
  have hlab1:KU (upd H p.ak (.lst (as.map V.ref++[V.ref b]))) lz z.lab:=by
   cases hh:z.lab with
   | sign n =>
    rw[hh] at hlab
    obtain⟨tp,e1,e2⟩:=hlab
    exact⟨tp,e1,k1 _ _ e2 (nak e2 fun _ q=>nomatch q)⟩
   | same n=>rw[hh] at hlab;exact hlab
   | ans=>rw[hh] at hlab;exact hlab
  have hp1:Paired (KindAt CK (upd H p.ak (.lst (as.map V.ref++[V.ref b])))) (as++[b]) (ks++[z]):=by
   have key:∀x y,KindAt CK H x y→KindAt CK (upd H p.ak (.lst (as.map V.ref++[V.ref b]))) x y:=fun x y q=>q.same fun x o e n1 _ _ _=>k1 x o e (nak e n1)
   exact HG (Paired.mapP hp key) (key _ _ hK)
  have kb1:KeepBut [p.ak,p.sg,p.sm] H (upd H p.ak (.lst (as.map V.ref++[V.ref b]))):=fun x o e n=>k1 x o e fun q=>n (by simp[q])
  generalize upd H p.ak (.lst (as.map V.ref++[V.ref b]))=H1 at ho1 hz1 hsg1 hsm1 hnm1 haf1 hak1 hlab1 hp1 kb1 ⊢
  refine⟨_,rfl,b,CK,dz,_,_,rfl,hz1,TK.cl,TK.rank,DR,rfl,_,rfl,?_⟩
  cases hh:z.lab with
  | ans =>
   refine bF (decide_eq_false (BK (by decide))) ?_
   refine⟨_,rfl,b,CK,dz,_,_,rfl,hz1,TK.cl,TK.rank,DR,rfl,_,rfl,?_⟩
   rw[hh]
   refine bF (decide_eq_false (BK (by decide))) ?_
   refine k H1 ⟨⟨dx,ho1⟩,hnm1,⟨_,hak1,hp1⟩,?_,?_,haf1⟩ kb1
   ·rw[JI,hh,C6];exact hsg1
   ·rw[JG,hh,C6];exact hsm1
  | sign n =>
   rw[hh] at hlab1
   obtain⟨tp,e1,htp⟩:=hlab1
   subst e1
   refine bT (decide_eq_true rfl) ?_
   have htp':H1 tp=some (.tup ((A0 n).map kV)):=by rw[K0];exact htp
   have hv:Aq (Bn 0 ks) (A0 n)=none:=by
    have h1:=MJ n ks 0
    unfold DS at hlz
    rw[hh] at hlz
    have hlz:(ks.any fun b=>decide (b.lab=.sign n))=false:=hlz
    rw[hlz] at h1
    cases q:Aq (Bn 0 ks) (A0 n) with
    | none=>rfl
    | some v=>rw[q] at h1;cases h1
   refine⟨_,rfl,_,rfl,a,CL,dx,_,_,rfl,ho1,TL.cl,TL.signs,G7,_,rfl,b,CK,dz,_,_,rfl,hz1,TK.cl,TK.label,Ig,p.sg,_,rfl,DPut.t (k:=A0 n) hsg1 htp' (Br (by have:=Yo ks 0;omega)),?_⟩
   have nsg:∀{x:Addr} {o:HO},H1 x=some o→(∀xs,o≠.dT xs)→x≠p.sg:=fun e n=>Bb e hsg1 (n _)
   have k2:∀x o,H1 x=some o→x≠p.sg→upd H1 p.sg (.dT (CD (Bn 0 ks) (A0 n) (V.int ((as.map V.ref).length:Nat)))) x=some o:=fun x o e n=>by rw[AE n];exact e
   have hz2:=k2 _ _ hz1 (nsg hz1 fun _ q=>nomatch q)
   refine⟨_,rfl,b,CK,dz,_,_,rfl,hz2,TK.cl,TK.rank,DR,rfl,_,rfl,?_⟩
   rw[hh]
   refine bF (decide_eq_false (BK (show(1:Int)≠2 by decide))) ?_
   refine k _ ⟨⟨dx,k2 _ _ ho1 (nsg ho1 fun _ q=>nomatch q)⟩,k2 _ _ hnm1 (nsg hnm1 fun _ q=>nomatch q),⟨_,k2 _ _ hak1 (nsg hak1 fun _ q=>nomatch q),Paired.mapP hp1 fun x y q=>q.same fun x o e _ _ n3 _=>k2 x o e (nsg e n3)⟩,?_,?_,k2 _ _ haf1 (nsg haf1 fun _ q=>nomatch q)⟩ ?_
   ·rw[AI,JI,hh,QR _ hv,AG,hl,EG]
   ·rw[JG,hh,C6]
    exact k2 _ _ hsm1 (nsg hsm1 fun _ q=>nomatch q)
   ·exact kb1.trans fun x o e n=>k2 x o e fun q=>n (by simp[q])
  | same j =>
   rw[hh] at hlab1
   have hlab1:lz=.int j:=hlab1
   subst hlab1
   refine bF (decide_eq_false (BK (show(2:Int)≠1 by decide))) ?_
   refine⟨_,rfl,b,CK,dz,_,_,rfl,hz1,TK.cl,TK.rank,DR,rfl,_,rfl,?_⟩
   rw[hh]
   refine bT (decide_eq_true rfl) ?_
   have hv:Aq (BG 0 ks) (Ar j)=none:=by
    unfold DS at hlz
    rw[hh] at hlz
    exact Zh 0 hlz
   refine⟨_,rfl,_,rfl,a,CL,dx,_,_,rfl,ho1,TL.cl,TL.sames,Ik,_,rfl,b,CK,dz,_,_,rfl,hz1,TK.cl,TK.label,Ig,p.sm,_,rfl,DPut.k (k:=Ar j) hsm1 (Br (by have:=YE ks 0;omega)),?_⟩
   have nsm:∀{x:Addr} {o:HO},H1 x=some o→(∀xs,o≠.dK xs)→x≠p.sm:=fun e n=>Bb e hsm1 (n _)
   have k2:∀x o,H1 x=some o→x≠p.sm→upd H1 p.sm (.dK (CD (BG 0 ks) (Ar j) (V.int ((as.map V.ref).length:Nat)))) x=some o:=fun x o e n=>by rw[AE n];exact e
   refine k _ ⟨⟨dx,k2 _ _ ho1 (nsm ho1 fun _ q=>nomatch q)⟩,k2 _ _ hnm1 (nsm hnm1 fun _ q=>nomatch q),⟨_,k2 _ _ hak1 (nsm hak1 fun _ q=>nomatch q),Paired.mapP hp1 fun x y q=>q.same fun x o e _ n2 _ _=>k2 x o e (nsm e n2)⟩,?_,?_,k2 _ _ haf1 (nsm haf1 fun _ q=>nomatch q)⟩ ?_
   ·rw[JI,hh,C6]
    exact k2 _ _ hsg1 (nsm hsg1 fun _ q=>nomatch q)
   ·rw[AI,JG,hh,QR _ hv,AG,hl,EG]
   ·exact kb1.trans fun x o e n=>k2 x o e fun q=>n (by simp[q])
end
end Fb
end
section
set_option maxRecDepth 100000
set_option maxHeartbeats 4000000
namespace Fb
open PySem PySem.Spec PyProof.Rows L2
theorem Wg {b:Ah}{x:AM} (h:Cf b=some x):∀j,x.role=.same j→1≤j:=by
 intro j hj
 unfold Cf at h
 split at h
 ·rename_i w n c s l _
  split at h
  ·have:=(E5 h).2.2
   rw[this] at hj;cases hj
  ·split at h
   ·cases hd:Ef 4 n with
    | none=>rw[hd] at h;cases h
    | some m =>
     rw[hd] at h
     have h:C5 (.same m) c s l=some x:=h
     have:=(E5 h).2.2
     rw[this] at hj
     cases hj
     exact(Lq hd).2
   ·cases h
 ·split at h
  ·have:=(E5 h).2.2
   rw[this] at hj;cases hj
  ·cases h
 ·cases h
theorem LG (x:Str) (ns:List Int):Fz x ns=HC (BJ x) ns:=rfl
theorem Vv:BJ "locker"=zs (Ay "locker"):=by decide +kernel
abbrev RF:Stmt:=R8
structure LockS (CL CK:Addr) (H:Hp) (a:Addr) (p:LA) (s:LS) (fl:List Int) (i:Nat):Prop where
 at_:LockAt CL CK H a p (zs s.name) (s.kinds.map zk) fl
 wf:Wf s.kinds
 ap:KQ p
 le:s.kinds.length≤i
theorem LockS.mono {CL CK:Addr}{H H':Hp}{a:Addr}{p:LA}{s:LS}{fl:List Int}{i:Nat} (x:LockS CL CK H a p s fl i) (h:Same H H'):LockS CL CK H' a p s fl i:=⟨x.at_.mono h,x.wf,x.ap,x.le⟩
def Nk (p p':LA):Prop:=p'.ak=p.ak∧p'.sg=p.sg∧p'.sm=p.sm∧p'.af=p.af
def JN (K:AA) (CL CK:Addr):Sp:=fun vs H Q _=>∃(a la:Addr) (p:LA) (s:LS) (fl:List Int) (i:Nat) (b:Ah),vs=[.ref a,.int (i:Nat),.ref la]∧LockS CL CK H a p s fl i∧i < 90000∧SqL K H la ((zs b).map V.int)∧b.length < 100000∧
 (∀k,BN s i b=.error k→∀H',Same H H'→Q (.int k) H')∧
 (∀s',BN s i b=.ok s'→∀H' p',LockS CL CK H' a p' s' fl (i+1)→Nk p p'→KeepBut [a,p.ak,p.sg,p.sm] H H'→Q (.int 0) H')
theorem scTakeL:AY ["locker","number","line","kind","fault"] ["locker","number","line"] (AK RF):=⟨rfl,rfl,rfl,by decide +kernel,rfl,by decide +kernel,by decide +kernel⟩
section
variable {P:Program}{w:World}{K:AA}{mg:Str→Option Value}{base:Heap}{CL CK:Addr}
theorem ok_takeL {f:Addr}{fd:FuncData} (F:Fun K "take_line" "take_line" RF f fd) (hne:CL≠CK) (TL:LockC K CL) (c1:Cst mg "NO_SUCH_LINE" (.int 1)) (g1:Has P w K mg "is_naming_line" 3 ["line","first"] (Lz K)) (g2:Has P w K mg "named" 2 ["line"] (Ly K))
  (g3:Has P w K mg "kind_told" 4 ["line"] (SR K CK)) (g4:Has P w K mg "kind_fault" 2 ["locker","kind"] (SO CL CK)) (g5:Has P w K mg "add_kind" 1 ["locker","kind"] (SG CL CK)):FnOk P w K mg base CX0 5 f fd ["locker","number","line"] (JN K CL CK):=by
 refine F.ok scTakeL (fun vs H Q E h=>?_) (fun cdv A outer s H vs Q E hr h=>?_)
 ·obtain⟨a,la,p,s,fl,i,b,rfl,_⟩:=h
  rfl
 ·obtain⟨a,la,p,st,fl,i,b,rfl,L,hi,hS,hlen,ke,ko⟩:=h
  have hr1:Room 1 _:=hr.mono (by decide)
  have hr2:Room 2 _:=hr.mono (by decide)
  have hr3:Room 3 _:=hr.mono (by decide)
  have zl:(zs b).length < 100000:=by rw[Av];exact hlen
  refine⟨_,AJ (Al (Ac BY (pv 1) AO (AR _))
    (AJ (Al (D8 (Cy (AN g1 hr3 (by rfl) (AB (pv 2) (AB DT AD))))) (AH (AL (AW c1 rfl))) Ap)
    (AJ (BU (pv 0) (AN g2 hr2 (by rfl) (AB (pv 2) AD)) rfl) (AH (AL AO)))) Ap)
   (AJ (BB (i:=3) scTakeL.nd rfl (AZ rfl) (AN g3 hr (by rfl) (AB (pv 2) AD)))
   (AJ (BB (i:=4) scTakeL.nd rfl (AZ rfl) (AN g4 hr2 (by rfl) (AB (pv 0) (AB (pv 3) AD))))
   (AJ (Al (Ac BY (pv 4) AO (AR _)) (AH (E9 (AN g5 hr1 (by rfl) (AB (pv 0) (AB (pv 3) AD))))) Ap)
   (AH (AL (pv 4)))))),?_⟩
  refine⟨_,rfl,rfl,_,rfl,?_⟩
  by_cases h0:i=0
  ·subst h0
   refine bT (decide_eq_true rfl) ?_
   have hstep:BN st 0 b=match Bt (Ay "locker") b with
     | none=>.error 1
     | some n=>.ok ⟨n,st.kinds⟩:=by
    unfold BN
    rw[if_pos rfl]
    rfl
   refine⟨_,rfl,la,zs b,"locker",rfl,hS,zl,by decide,fun H1 s1=>⟨_,rfl,?_⟩⟩
   rw[LG,Vv]
   cases hn:Bt (Ay "locker") b with
   | none =>
    rw[hn] at hstep
    rw[LH hn]
    exact bT rfl (ke 1 hstep H1 s1)
   | some n =>
    rw[hn] at hstep
    obtain⟨q1,q2⟩:=LI hn
    rw[q1]
    refine bF rfl ?_
    refine⟨_,rfl,la,zs b,zs n,rfl,s1.seq hS,zl,q2,fun H2 q s2 nq hq=>?_⟩
    have s12:=s1.trans s2
    have L2:=L.at_.mono s12
    obtain⟨dx,ho⟩:=L2.ob
    refine⟨_,rfl,a,CL,dx,_,rfl,ho,TL.cl,TL.name,(by show 5 < 1000;decide),?_⟩
    have na:∀{x:Addr} {o:HO},H2 x=some o→(∀C dx fs,o≠.ins C dx fs)→x≠a:=fun e n=>Bb e ho (n _ _ _)
    have k1:∀x o,H2 x=some o→x≠a→upd H2 a (.ins CL dx (A9 "name" (V.ref q) (lf p.an p.ak p.sg p.sm p.af))) x=some o:=fun x o e n=>by rw[AE n];exact e
    have nq0:H q=none:=s1.free nq
    refine ko ⟨n,st.kinds⟩ hstep _ ⟨q,p.ak,p.sg,p.sm,p.af⟩ ⟨⟨⟨dx,AI⟩,k1 _ _ hq (na hq fun _ _ _ z=>nomatch z),?_,k1 _ _ L2.sg (na L2.sg fun _ _ _ z=>nomatch z),k1 _ _ L2.sm (na L2.sm fun _ _ _ z=>nomatch z),k1 _ _ L2.af (na L2.af fun _ _ _ z=>nomatch z)⟩,L.wf,⟨?_,L.ap.2⟩,Nat.le_succ_of_le L.le⟩ ⟨rfl,rfl,rfl,rfl⟩ ?_
    ·obtain⟨as,hk,hp⟩:=L2.ks
     refine⟨as,k1 _ _ hk (na hk fun _ _ _ z=>nomatch z),Paired.mapP hp fun x y qq=>qq.same fun x o e _ _ _ n4=>k1 x o e fun z=>?_⟩
     rw[z,ho] at e
     cases e
     exact hne (n4 _ _ _ rfl)
    ·obtain⟨as,hk,_⟩:=L.at_.ks
     exact fun z=>by rw[show q=p.ak from z,hk] at nq0;cases nq0
    ·intro x o e n
     exact k1 x o (s12 x o e) fun z=>n (by simp[z])
  ·refine bF (decide_eq_false (BK (by omega))) ?_
   have hstep:BN st i b=(Cm st.kinds b).map fun k=>⟨st.name,k⟩:=by
    unfold BN
    rw[if_neg h0]
   have hle:=L.le
   refine⟨_,rfl,la,b,rfl,hS,hlen,fun hk H1 s1=>?_,fun x hk H1 kp s1 nkp hKp=>?_⟩
   ·have hst:BN st i b=.error 1:=by rw[hstep];unfold Cm;rw[hk];rfl
    refine⟨_,rfl,_,rfl,a,.non,p,_,_,fl,1,rfl,L.at_.mono s1,by rw[AG];omega,.inl ⟨rfl,rfl⟩,fun H2 s2=>?_⟩
    refine⟨_,rfl,rfl,_,rfl,bF (decide_eq_false (BK (by decide))) ?_⟩
    exact⟨_,rfl,ke 1 hst H2 (s1.trans s2)⟩
   ·refine⟨_,rfl,_,rfl,a,.ref kp,p,_,_,fl,_,rfl,L.at_.mono s1,by rw[AG];omega,.inr ⟨kp,zk x,rfl,hKp,rfl⟩,fun H2 s2=>?_⟩
    have s12:=s1.trans s2
    rw[V3 L.wf x]
    cases hw:Eh st.kinds x with
    | some e =>
     have hst:BN st i b=.error e:=by rw[hstep];unfold Cm;rw[hk];dsimp only;rw[hw];rfl
     have epos:e≠0:=by
      rw[HV] at hw
      intro q
      subst q
      split at hw
      ·cases hw
      ·split at hw
       ·cases hw
       ·split at hw
        ·cases hw
        ·split at hw <;> cases hw
     refine⟨_,rfl,rfl,_,rfl,bF (decide_eq_false (BK (by show(e:Int)≠0;omega))) ?_⟩
     exact⟨_,rfl,ke e hst H2 s12⟩
    | none =>
     have hst:BN st i b=.ok ⟨st.name,st.kinds++[x]⟩:=by rw[hstep];unfold Cm;rw[hk];dsimp only;rw[hw];rfl
     have hlz:DS (st.kinds.map zk) (zk x)=false:=by
      rw[PV]
      rw[HV] at hw
      cases hd:dup st.kinds x with
      | false=>rfl
      | true =>
       rw[hd] at hw
       split at hw
       ·cases hw
       ·rw[if_pos rfl] at hw;cases hw
     refine⟨_,rfl,rfl,_,rfl,bT (decide_eq_true rfl) ?_⟩
     refine⟨_,rfl,_,rfl,a,kp,p,_,_,fl,zk x,rfl,L.at_.mono s12,hKp.mono s2,L.ap,by rw[AG];omega,hlz,fun H3 L3 kb=>?_⟩
     refine⟨_,rfl,?_⟩
     have e1:(st.kinds++[x]).map zk=st.kinds.map zk++[zk x]:=CU
     refine ko _ hst H3 p ⟨by rw[e1];exact L3,L.wf.snoc (Wg hk) hw,L.ap,by rw[BO];simp;omega⟩ ⟨rfl,rfl,rfl,rfl⟩ ?_
     intro y o e n
     exact kb y o (s12 y o e) fun z=>n (by simp at z ⊢;exact .inr z)
end
end Fb
end
section
set_option maxRecDepth 100000
set_option maxHeartbeats 4000000
namespace L2
open PySem PySem.Spec PyProof.Rows
open PySem.W (CodeHd tabObj kla_obj kla_fn envX)
theorem Fun.okC {P:Program}{w:World}{K:AA}{mg:Str→Option Value}{base:Heap}{x qual:Str}{st:Stmt}{f c:Addr}{fd:FuncData}{N ps:List Str}{k:Nat}{sp:Sp} (F:Fun K x qual st f fd) (hc:fd.code=.ref c) (S:AY N ps (AK st)) (len:∀vs H Q E,sp vs H Q E→vs.length=ps.length)
  (hbody:∀(A:Around) (outer:List Env) (s:Shared) (H:Hp) (vs:List V) (Q:VK) (E:XK),Room k (A.deeper (envOfC qual (AK st) s.heap.objs.size f (.ref c)))→sp vs H Q E→
   ∃t,PSs (Dg CX0 P w K mg base N qual (AK st) f (.ref c) A outer s H E).nox (Bj st) t∧t { nx:=fun _ H'=>Q .non H',rt:=Q } (start N vs) H):FnOk P w K mg base CX0 (k+1) f fd ps sp:=by
 obtain⟨oc,od,kV,doc,pm,an,cdv,ct,osl,rfl,lk,hcd⟩:=F.ex
 have e:cdv=.ref c:=hc
 subst e
 refine Oc lk hcd S len fun A outer s H vs Q E hr hsp=>?_
 obtain⟨t,h,q⟩:=hbody A outer s H vs Q E hr hsp
 exact⟨t,h.nox,q⟩
def PY (st:Stmt):Expr:=match (Bj st).getD 1 (.Pass ⟨0,0,0,0⟩) with
 | .Assign _ (.Call _ [_,l] _ _) _=>l
 | _=>.Constant .none 0 ⟨0,0,0,0⟩
def Ft (e:Expr):Arguments:=match e with
 | .Lambda a _ _ _=>a
 | _=>{ posonlyargs:=[],args:=[],vararg:=none,kwonlyargs:=[],kw_defaults:=[],kwarg:=none,defaults:=[] }
def Fu (e:Expr):Expr:=match e with
 | .Lambda _ b _ _=>b
 | _=>e
def DD (e:Expr):Scope:=match e with
 | .Lambda _ _ sc _=>sc
 | _=>{ kind:=.function,names:=[],isGenerator:=false,isCoroutine:=false }
def BX (e:Expr):Pos:=match e with
 | .Lambda _ _ _ p=>p
 | _=>⟨0,0,0,0⟩
theorem S1 {cs:List Addr}{H0 H:Hp} (h:∀c∈cs,H c=none):Same H (Cn cs H0 H):=fun b o e=>by
 rw[C2 fun m=>by rw[h b m] at e;cases e]
 exact e
def SameN (H H':Hp):Prop:=∀b o,H b=some o→(∀φ,o≠.ext φ)→H' b=some o
theorem G1 {cs:List Addr}{H:Hp} (p:Plain cs H):SameN H (hid cs H):=fun b o e n=>by
 rw[Ax (p.out e n)]
 exact e
end L2
namespace Fb
open PySem PySem.Spec PyProof.Rows L2
theorem KindAt.monoN {CK:Addr}{H H':Hp}{a:Addr}{z:ZK} (s:SameN H H') (h:KindAt CK H a z):KindAt CK H' a z:=by
 obtain⟨dx,lv,h1,h2⟩:=h
 refine⟨dx,lv,s _ _ h1 (fun _ q=>nomatch q),?_⟩
 cases hz:z.lab with
 | sign n =>
  rw[hz] at h2
  obtain⟨t,e,ht⟩:=h2
  exact⟨t,e,s _ _ ht (fun _ q=>nomatch q)⟩
 | same k=>rw[hz] at h2;exact h2
 | ans=>rw[hz] at h2;exact h2
theorem LockAt.monoN {CL CK:Addr}{H H':Hp}{a:Addr}{p:LA}{name:List Int}{kinds:List ZK}{fault:List Int} (s:SameN H H') (h:LockAt CL CK H a p name kinds fault):LockAt CL CK H' a p name kinds fault:=by
 obtain⟨⟨dx,h1⟩,h2,⟨as,h3,h4⟩,h5,h6,h7⟩:=h
 exact⟨⟨dx,s _ _ h1 (fun _ q=>nomatch q)⟩,s _ _ h2 (fun _ q=>nomatch q),⟨as,s _ _ h3 (fun _ q=>nomatch q),Paired.mapP h4 fun a z q=>q.monoN s⟩,s _ _ h5 (fun _ q=>nomatch q),s _ _ h6 (fun _ q=>nomatch q),s _ _ h7 (fun _ q=>nomatch q)⟩
abbrev Qu:Stmt:=Dh RM 0
def SX (CL:Addr):Sp:=fun vs H Q _=>∃(a dx:Addr),vs=[.ref a]∧H a=some (.ins CL dx [])∧
 ∀(H':Hp) (p:LA),H' a=some (.ins CL dx (lf p.an p.ak p.sg p.sm p.af))→H' p.an=some (.lst [])→H' p.ak=some (.lst [])→H' p.sg=some (.dT [])→H' p.sm=some (.dK [])→H' p.af=some (.lst [])→KQ p→(∀b o,H b=some o→b≠a→H' b=some o)→(∀x∈[p.an,p.ak,p.sg,p.sm,p.af],H x=none)→Q .non H'
theorem YR:AY ["self"] ["self"] (AK Qu):=⟨rfl,rfl,rfl,by decide +kernel,rfl,by decide +kernel,by decide +kernel⟩
section
variable {P:Program}{w:World}{K:AA}{mg:Str→Option Value}{base:Heap}{CL CK:Addr}
theorem ok_lockI {f:Addr}{fd:FuncData} (F:Fun K "__init__" "Locker.__init__" Qu f fd) (T:LockC K CL):FnOk P w K mg base CX0 1 f fd ["self"] (SX CL):=by
 refine F.ok YR (fun vs H Q E h=>?_) (fun cdv A outer s H vs Q E hr h=>?_)
 ·obtain⟨a,dx,rfl,_⟩:=h
  rfl
 ·obtain⟨a,dx,rfl,ha,k⟩:=h
  refine⟨_,AJ (BU (pv 0) (A8 AD) rfl) (AJ (BU (pv 0) (A8 AD) rfl) (AJ (BU (pv 0) Xb rfl) (AJ (BU (pv 0) QH rfl) (AH (BU (pv 0) (A8 AD) rfl))))),?_⟩
  have step:∀{H1:Hp} {fs:List (Str×V)} {q:Addr} {o:HO} {fs':List (Str×V)},H1 a=some (.ins CL dx fs)→H1 q=none→a≠q∧(upd (upd H1 q o) a (.ins CL dx fs')) a=some (.ins CL dx fs')∧(upd (upd H1 q o) a (.ins CL dx fs')) q=some o∧
    (upd H1 q o) a=some (.ins CL dx fs)∧(∀b u,H1 b=some u→b≠a→(upd (upd H1 q o) a (.ins CL dx fs')) b=some u):=fun {H1 fs q o fs'} h1 h2=>by
   have ne:a≠q:=Am h1 h2
   refine⟨ne,AI,by rw[AE (An ne),AI],by rw[AE ne];exact h1,fun b u e n=>?_⟩
   rw[AE n,AE (Am e h2)]
   exact e
  refine⟨A5 _,fun q1 n1=>?_⟩
  obtain⟨ne1,a1,b1,i1,k1⟩:=step (fs':=[("name",.ref q1)]) (o:=.lst []) ha n1
  refine⟨_,rfl,a,CL,dx,_,rfl,i1,T.cl,T.name,(by show 0 < 1000;decide),?_⟩
  refine⟨A5 _,fun q2 n2=>?_⟩
  obtain⟨ne2,a2,b2,i2,k2⟩:=step (fs':=[("name",.ref q1),("kinds",.ref q2)]) (o:=.lst []) a1 n2
  refine⟨_,rfl,a,CL,dx,_,rfl,i2,T.cl,T.kinds,(by show 1 < 1000;decide),?_⟩
  intro q3 n3
  obtain⟨ne3,a3,b3,i3,k3⟩:=step (fs':=[("name",.ref q1),("kinds",.ref q2),("signs",.ref q3)]) (o:=.dT []) a2 n3
  refine⟨_,rfl,a,CL,dx,_,rfl,i3,T.cl,T.signs,(by show 2 < 1000;decide),?_⟩
  intro q4 n4
  obtain⟨ne4,a4,b4,i4,k4⟩:=step (fs':=[("name",.ref q1),("kinds",.ref q2),("signs",.ref q3),("sames",.ref q4)]) (o:=.dK []) a3 n4
  refine⟨_,rfl,a,CL,dx,_,rfl,i4,T.cl,T.sames,(by show 3 < 1000;decide),?_⟩
  refine⟨A5 _,fun q5 n5=>?_⟩
  obtain⟨ne5,a5,b5,i5,k5⟩:=step (fs':=lf q1 q2 q3 q4 q5) (o:=.lst []) a4 n5
  refine⟨_,rfl,a,CL,dx,_,rfl,i5,T.cl,T.fault,(by show 4 < 1000;decide),?_⟩
  have c2:=k2 _ _ b1 (An ne1)
  have c3:=k3 _ _ c2 (An ne1)
  have c4:=k4 _ _ c3 (An ne1)
  have c5:=k5 _ _ c4 (An ne1)
  have d3:=k3 _ _ b2 (An ne2)
  have d4:=k4 _ _ d3 (An ne2)
  have d5:=k5 _ _ d4 (An ne2)
  have e4:=k4 _ _ b3 (An ne3)
  have e5:=k5 _ _ e4 (An ne3)
  have f5:=k5 _ _ b4 (An ne4)
  have kA:∀b u,H b=some u→b≠a→(upd (upd (upd (upd (upd (upd (upd (upd (upd (upd H q1 (.lst [])) a (.ins CL dx [("name",.ref q1)])) q2 (.lst [])) a (.ins CL dx [("name",.ref q1),("kinds",.ref q2)])) q3 (.dT [])) a (.ins CL dx [("name",.ref q1),("kinds",.ref q2),("signs",.ref q3)])) q4 (.dK [])) a
    (.ins CL dx [("name",.ref q1),("kinds",.ref q2),("signs",.ref q3),("sames",.ref q4)])) q5 (.lst [])) a (.ins CL dx (lf q1 q2 q3 q4 q5))) b=some u:=fun b u e n=>k5 _ _ (k4 _ _ (k3 _ _ (k2 _ _ (k1 _ _ e n) n) n) n) n
  have fr:∀{H1:Hp} {q:Addr},H1 q=none→(∀b u,H b=some u→b≠a→H1 b=some u)→a≠q→H q=none:=fun {H1 q} n k ne=>by
   cases z:H q with
   | none=>rfl
   | some u=>rw[k q u z (An ne)] at n;cases n
  refine k _ ⟨q1,q2,q3,q4,q5⟩ a5 c5 d5 e5 f5 b5 ⟨Am b1 n2,An (Am d4 n5)⟩ kA ?_
  intro x hx
  simp only[AS,Dc,or_false] at hx
  rcases hx with rfl | rfl | rfl | rfl | rfl
  ·exact n1
  ·exact fr n2 (fun b u e n=>k1 _ _ e n) ne2
  ·exact fr n3 (fun b u e n=>k2 _ _ (k1 _ _ e n) n) ne3
  ·exact fr n4 (fun b u e n=>k3 _ _ (k2 _ _ (k1 _ _ e n) n) n) ne4
  ·exact fr n5 (fun b u e n=>k4 _ _ (k3 _ _ (k2 _ _ (k1 _ _ e n) n) n) n) ne5
end
end Fb
end
section
set_option maxRecDepth 100000
set_option maxHeartbeats 4000000
namespace Fb
open PySem PySem.Spec PyProof.Rows L2
open PySem.W (CodeHd tabObj kla_obj kla_fn envX)
abbrev JF:Stmt:=Rx
abbrev Bz:Expr:=PY JF
abbrev Cb:Str:="read_locker.<locals>.<lambda>"
def P0 (cell:Addr) (pm:Value) (c':Addr) (ctv:Value):Obj:=kla_obj "<lambda>" Cb (Ft Bz) (Fu Bz) (DD Bz) [("locker",cell)] pm c' ctv
theorem frL:∀y∈(DD Bz).names,y.2=EI→y.1∈(["locker"]:List Str):=by decide +kernel
theorem YO (cell:Addr):Hw ["number","line","locker"] ["number","line"] (DD Bz) [("locker",cell)] :=
 ⟨rfl,rfl,rfl,by decide +kernel,rfl,by decide +kernel,by decide +kernel,rfl,fun x hx=>by
  have:x="locker":=A3.mp hx
  subst this
  decide +kernel,fun y hy=>frL _ (Bg hy) rfl,C9.mpr ⟨Dc,Ji⟩⟩
def SV (K:AA) (CL CK f c' cell:Addr) (pm ctv:Value):Sp:=fun vs H Q _=>∃(i:Nat) (la a:Addr),vs=[.int (i:Nat),.ref la]∧H f=some (KO f (P0 cell pm c' ctv))∧CodeO H c' Cb∧CellV H cell (.ref a)∧
 JN K CL CK [.ref a,.int (i:Nat),.ref la] (hid [cell] H) (fun v H'=>H' cell=none→Q v (Cn [cell] H H')) E0
section
variable {P:Program}{w:World}{K:AA}{mg:Str→Option Value}{base:Heap}{CL CK:Addr}
theorem XJ {f c' cell:Addr}{pm ctv:Value} (g:Has P w K mg "take_line_lockers" 6 ["locker","number","line"] (JN K CL CK)):
  FnOk P w K mg base CX0 7 f (kla_fn "<lambda>" Cb (Ft Bz) (Fu Bz) (DD Bz) [("locker",cell)] pm (.ref c') ctv) ["number","line"] (SV K CL CK f c' cell pm ctv):=by
 refine K4 (YO cell) (fun vs H Q E h=>?_) (fun vs H Q E h=>?_)
 ·obtain⟨i,la,a,rfl,_⟩:=h
  rfl
 ·obtain⟨i,la,a,rfl,hf,hc,hv,hsp⟩:=h
  refine⟨hf,hc,[.ref a],.cons hv .nil,fun A outer s hr=>?_⟩
  refine⟨_,AN g hr (by rfl) (AB (pv 2) (AB (pv 0) (AB (pv 1) AD))),?_⟩
  refine⟨_,rfl,_,rfl,_,rfl,?_⟩
  obtain⟨a',la',p,st,fl,i',b,e,r1,r2,r3,r4,k1,k2⟩:=hsp
  refine⟨a',la',p,st,fl,i',b,e,r1,r2,r3,r4,fun k hk H' s' hn=>k1 k hk H' s' (hn _ (by simp)),fun s' hs H' p' q1 q2 q3 hn=>k2 s' hs H' p' q1 q2 q3 (hn _ (by simp))⟩
end
end Fb
end
section
set_option maxRecDepth 100000
set_option maxHeartbeats 4000000
namespace Fb
open PySem PySem.Spec PyProof.Rows L2
open PySem.W (CodeHd tabObj kla_obj kla_fn envX)
def SameT (H H':Hp):Prop:=∀b o,H b=some o→(∀ps,o≠.tbl ps)→H' b=some o
theorem Same.t {H H':Hp} (s:Same H H'):SameT H H':=fun b o e _=>s b o e
theorem SameT.trans {H H1 H2:Hp} (a:SameT H H1) (b:SameT H1 H2):SameT H H2:=fun c o e n=>b c o (a c o e n) n
theorem SameT.seq {K:AA}{H H':Hp}{a:Addr}{xs:List V} (e:SameT H H') (h:SqL K H a xs):SqL K H' a xs:=by
 rcases h with (h | ⟨o,h⟩) | h
 ·exact .inl (.inl (e _ _ h fun _ q=>nomatch q))
 ·exact .inl (.inr ⟨o,e _ _ h fun _ q=>nomatch q⟩)
 ·exact .inr h
theorem KR {H H':Hp}{c:Addr}{q:Str} (s:SameT H H') (h:CodeO H c q):CodeO H' c q:=by
 obtain⟨o,vs,t,e,d,r⟩:=h
 exact⟨o,vs,t,s _ _ e (fun _ z=>nomatch z),d,r⟩
theorem BR {H H':Hp}{Pt:Addr}{pos:Pos}{q:Str} (s:Same H H') (h:BF H Pt pos q):BF H' Pt pos q:=by
 rcases h with h | ⟨c',h,hc⟩
 ·exact .inl (s _ _ h)
 ·exact .inr ⟨c',s _ _ h,KR (Same.t s) hc⟩
theorem LockAt.monoT {CL CK:Addr}{H H':Hp}{a:Addr}{p:LA}{name:List Int}{kinds:List ZK}{fault:List Int} (s:SameT H H') (h:LockAt CL CK H a p name kinds fault):LockAt CL CK H' a p name kinds fault:=by
 obtain⟨⟨dx,h1⟩,h2,⟨as,h3,h4⟩,h5,h6,h7⟩:=h
 refine⟨⟨dx,s _ _ h1 (fun _ q=>nomatch q)⟩,s _ _ h2 (fun _ q=>nomatch q),⟨as,s _ _ h3 (fun _ q=>nomatch q),Paired.mapP h4 fun a z q=>?_⟩,s _ _ h5 (fun _ q=>nomatch q),s _ _ h6 (fun _ q=>nomatch q),s _ _ h7 (fun _ q=>nomatch q)⟩
 obtain⟨dz,lv,q1,q2⟩:=q
 refine⟨dz,lv,s _ _ q1 (fun _ q=>nomatch q),?_⟩
 cases hz:z.lab with
 | sign n =>
  rw[hz] at q2
  obtain⟨t,e,ht⟩:=q2
  exact⟨t,e,s _ _ ht (fun _ q=>nomatch q)⟩
 | same k=>rw[hz] at q2;exact q2
 | ans=>rw[hz] at q2;exact q2
theorem Yw {s:LS}{i k:Nat}{b:Ah} (h:BN s i b=.error k):k≠0:=by
 unfold BN at h
 split at h
 ·split at h
  ·cases h;decide
  ·cases h
 ·unfold Cm at h
  cases hk:Cf b with
  | none=>rw[hk] at h;cases h;decide
  | some x =>
   rw[hk] at h
   dsimp only at h
   cases hw:Eh s.kinds x with
   | none=>rw[hw] at h;cases h
   | some e =>
    rw[hw] at h
    have h:(CM e:Except Nat LS)=.error k:=h
    cases h
    rw[HV] at hw
    intro q
    subst q
    split at hw
    ·cases hw
    ·split at hw
     ·cases hw
     ·split at hw
      ·cases hw
      ·split at hw <;> cases hw
theorem LockAt.fault {CL CK:Addr}{H H':Hp}{a q dx:Addr}{p:LA}{name:List Int}{kinds:List ZK}{fault fl:List Int} (hne:CL≠CK) (h:LockAt CL CK H a p name kinds fault) (hd:H a=some (.ins CL dx (lf p.an p.ak p.sg p.sm p.af))) (hq:H q=some (.lst (fl.map V.int)))
  (e:H'=upd H a (.ins CL dx (A9 "fault" (.ref q) (lf p.an p.ak p.sg p.sm p.af)))):LockAt CL CK H' a ⟨p.an,p.ak,p.sg,p.sm,q⟩ name kinds fl:=by
 subst e
 have na:∀{x:Addr} {o:HO},H x=some o→(∀C dx fs,o≠.ins C dx fs)→upd H a (.ins CL dx (A9 "fault" (.ref q) (lf p.an p.ak p.sg p.sm p.af))) x=some o:=fun {x o} e n=>by
  rw[AE (Bb e hd (n _ _ _))]
  exact e
 refine⟨⟨dx,AI⟩,na h.nm (fun _ _ _ z=>nomatch z),?_,na h.sg (fun _ _ _ z=>nomatch z),na h.sm (fun _ _ _ z=>nomatch z),na hq (fun _ _ _ z=>nomatch z)⟩
 obtain⟨as,hk,hp⟩:=h.ks
 refine⟨as,na hk (fun _ _ _ z=>nomatch z),Paired.mapP hp fun x y qq=>qq.same fun x o e _ _ _ n4=>?_⟩
 rw[AE]
 ·exact e
 ·intro z
  rw[z,hd] at e
  cases e
  exact hne (n4 _ _ _ rfl)
def Gp (t:Ah) (nm:List Int) (ks:List ZK) (fl:List Int):Prop:=match DX t with
 | .error _=>fl≠[]
 | .ok L=>fl=[]∧nm=zs L.name∧ks=L.kinds.map zk∧Wf L.kinds
def Sh (K:AA) (CL CK Pt:Addr):Sp:=fun vs H Q _=>∃(a:Addr) (t:Ah),vs=[.ref a]∧SqL K H a ((zs t).map V.int)∧t.length < 80000∧BF H Pt (BX Bz) Cb∧
 ∀(H':Hp) (x:Addr) (p:LA) (nm:List Int) (ks:List ZK) (fl:List Int),KeepBut [Pt] H H'→BF H' Pt (BX Bz) Cb→LockAt CL CK H' x p nm ks fl→Gp t nm ks fl→Q (.ref x) H'
theorem scReadL:AY ["text","locker"] ["text"] (AK JF):=⟨rfl,rfl,rfl,by decide +kernel,rfl,by decide +kernel,by decide +kernel⟩
section
variable {P:Program}{w:World}{K:AA}{mg:Str→Option Value}{base:Heap}{CL CK Pt:Addr}
theorem ok_readL {f c:Addr}{fd:FuncData} (F:Fun K "read_locker" "read_locker" JF f fd) (hc:fd.code=.ref c) (C:CodeHd base c Pt) (hbm:EL mg base) (B:Blt mg) (hne:CL≠CK) (TL:LockC K CL) (c1:Cst mg "NO_SUCH_LINE" (.int 1)) (g0:EM P w K mg "Locker" CL 1 ["self"] (SX CL))
  (g1:Has P w K mg "first_fault" 9 ["text","take"] (Ls P w K mg 7)) (g2:Has P w K mg "take_line_lockers" 6 ["locker","number","line"] (JN K CL CK)) (g3:Has P w K mg "count_lines" 1 ["text"] (Lr K)):
  FnOk P w K mg base CX0 10 f fd ["text"] (Sh K CL CK Pt):=by
 refine F.okC hc scReadL (fun vs H Q E h=>?_) (fun A outer s H vs Q E hr h=>?_)
 ·obtain⟨a,t,rfl,_⟩:=h
  rfl
 ·obtain⟨a,t,rfl,hS,hlen,hT,k⟩:=h
  have hr2:Room 2 _:=hr.mono (by decide)
  have hr1:Room 1 _:=hr.mono (by decide)
  obtain⟨f1,fd1,h1,h2,h3,h4⟩:=g1
  refine⟨_,AJ (BB (i:=1) scReadL.nd rfl (Dt rfl) (QJ g0 hr2 (by rfl)))
   (AJ (BU (pv 1) (LV (h4 base) hr (by rfl) h1 h2 h3 (fun _=>rfl) (by show(["locker"]:List Str).Nodup;decide) (AB (pv 0) (AB (LY (clos:=[("locker",s.heap.objs.size+1)]) (qual:=Cb) rfl C hbm (by rfl) (by rfl) (by rfl)) AD))) rfl)
   (AJ (Al (PW.pt (Dl (Ac (EX hr.units) (Ak (pv 1) rfl) (A8 AD) (AR _)) (Ec (Ac BY (A1 Nz (by rfl) B.len Bf (AB (Ak (pv 1) rfl) AD)) AO (AR _)))))
    (AH (BU (pv 1) (A8 (AB (AW c1 rfl) (AB (AN g3 hr1 (by rfl) (AB (pv 0) AD)) AD))) rfl)) Ap)
   (AH (AL (pv 1))))),?_⟩
  intro x dx nx ndx nex
  refine⟨x,dx,rfl,AI,fun H1 p hx1 han hak hsg hsm haf hap kp hfr=>⟨rfl,?_⟩⟩
  have s1:Same H H1:=Same.made nx ndx kp
  have fr:∀q∈[p.an,p.ak,p.sg,p.sm,p.af],H q=none:=fun q hq=>by
   have:=hfr q hq
   cases z:H q with
   | none=>rfl
   | some u =>
    have e1:q≠x:=Am z nx
    have e2:q≠dx:=Am z ndx
    rw[AE e1,AE e2,z] at this
    cases this
  have hx1':LockAt CL CK H1 x p [] [] []:=⟨⟨dx,hx1⟩,han,⟨[],hak,.nil⟩,hsg,hsm,haf⟩
  refine⟨_,rfl,BR s1 hT,fun H2 fL c' pm ctv kp2 nf hf hPt hco=>?_⟩
  intro H3 ho3 hn3 hcell
  have ho3:∀b,b∉[s.heap.objs.size+1]→H3 b=H2 b:=ho3
  have hn3:∀b∈[s.heap.objs.size+1],H2 b=none:=hn3
  have hcv:CellV H3 (s.heap.objs.size+1) (.ref x):=hcell 1 "locker" (.ref x) (s.heap.objs.size+1) rfl rfl rfl rfl
  clear hcell
  generalize hcl:s.heap.objs.size+1=cell at hf ho3 hn3 hcv
  have nc2:H2 cell=none:=hn3 cell (AU ..)
  have s23:Same H2 H3:=fun b o e=>by
   rw[ho3 b fun m=>by rw[A3.mp m,nc2] at e;cases e]
   exact e
  have hTb:∃ps,H1 Pt=some (.tbl ps):=by
   rcases BR s1 hT with e | ⟨c2,e,_⟩
   ·exact⟨_,e⟩
   ·exact⟨_,e⟩
  obtain⟨ps1,hPt1⟩:=hTb
  have s12:SameT H1 H2:=fun b o e n=>kp2 b o e fun z=>by rw[z,hPt1] at e;cases e;exact n _ rfl
  have s13:SameT H1 H3:=s12.trans (Same.t s23)
  have L3:LockAt CL CK H3 x p [] [] []:=hx1'.monoT s13
  have hS3:SqL K H3 a ((zs t).map V.int):=s13.seq (s1.seq hS)
  have hf3:=s23 _ _ hf
  have hPt3:=s23 _ _ hPt
  have hco3:CodeO H3 c' Cb:=KR (Same.t s23) hco
  obtain⟨dx3,hx3⟩:=L3.ob
  obtain⟨as3,hak3,_⟩:=L3.ks
  have out:∀{b:Addr} {o:HO},H3 b=some o→(∀C d fs,o≠.ins C d fs)→(∀xs,o≠.lst xs)→(∀xs,o≠.dT xs)→(∀xs,o≠.dK xs)→b∉[x,p.ak,p.sg,p.sm]:=fun {b o} e n1 n2 n3 n4 m=>by
   simp only[AS,Dc,or_false] at m
   rcases m with rfl | rfl | rfl | rfl
   ·rw[hx3] at e;cases e;exact n1 _ _ _ rfl
   ·rw[hak3] at e;cases e;exact n2 _ rfl
   ·rw[L3.sg] at e;cases e;exact n3 _ rfl
   ·rw[L3.sm] at e;cases e;exact n4 _ rfl
  have ourN:∀b∈[x,p.ak,p.sg,p.sm],H b=none∧H3 b≠none:=fun b m=>by
   simp only[AS,Dc,or_false] at m
   rcases m with rfl | rfl | rfl | rfl
   ·exact⟨nx,by rw[hx3];simp⟩
   ·exact⟨fr _ (by simp),by rw[hak3];simp⟩
   ·exact⟨fr _ (by simp),by rw[L3.sg];simp⟩
   ·exact⟨fr _ (by simp),by rw[L3.sm];simp⟩
  have hcut:Af 10 (zs t)=(Ad t).map zs++[zs (Bc t)]:=by rw[Kn,Gv,CU];rfl
  have hfl:(Ad t).length≤t.length:=by
   have:=Fl 10 (zs t)
   rw[hcut,BO,AG,Av] at this
   simp at this
   omega
  have part:∀y∈Ad t,y.length < 100000:=fun y hy=>by
   have:=D5 10 (zs t) (zs y) (by rw[hcut];exact Hg _ (BP.mpr ⟨y,hy,rfl⟩))
   rw[Av,Av] at this
   omega
  let J:Nat→Hp→Prop:=fun i H'=>∃(p':LA) (st:LS),Ed BN ⟨[],[]⟩ (Ad t) i st∧LockS CL CK H' x p' st [] i∧Nk p p'∧KeepBut [x,p.ak,p.sg,p.sm] H3 H'
  have Jf:∀{i H'},J i H'→H' fL=some (KO fL (P0 cell pm c' ctv)):=fun ⟨_,_,_,_,_,kb⟩=>kb _ _ hf3 (out hf3 (fun _ _ _ q=>nomatch q) (fun _ q=>nomatch q) (fun _ q=>nomatch q) (fun _ q=>nomatch q))
  have Jc:∀{i H'},J i H'→CodeO H' c' Cb:=fun ⟨_,_,_,_,_,kb⟩=>by
   obtain⟨o,vs,tt,e,d,r⟩:=hco3
   exact⟨o,vs,tt,kb _ _ e (out e (fun _ _ _ q=>nomatch q) (fun _ q=>nomatch q) (fun _ q=>nomatch q) (fun _ q=>nomatch q)),d,r⟩
  have Jl:∀{i H'},J i H'→H' cell=H3 cell:=fun ⟨_,_,_,_,_,kb⟩=>by
   obtain⟨o,u,e,_⟩:=hcv
   rw[kb _ _ e (out e (fun _ _ _ q=>nomatch q) (fun _ q=>nomatch q) (fun _ q=>nomatch q) (fun _ q=>nomatch q)),e]
  have Jp:∀{i H'},J i H'→H' Pt=some (.tbl #[rawInt (BX Bz).line,rawInt (BX Bz).col,.ref c']):=fun ⟨_,_,_,_,_,kb⟩=>kb _ _ hPt3 (out hPt3 (fun _ _ _ q=>nomatch q) (fun _ q=>nomatch q) (fun _ q=>nomatch q) (fun _ q=>nomatch q))
  have Jm:∀i H1 H2,J i H1→Same H1 H2→J i H2:=fun i H1 H2 ⟨p',st,h1,h2,h3,h4⟩ ss=>⟨p',st,h1,h2.mono ss,h3,h4.trans (KeepBut.of ss)⟩
  have TC:KY P w K mg 7 H3 fL ((Ad t).map zs) J (rAt BN ⟨[],[]⟩ (Ad t)):=by
   refine⟨⟨p,⟨[],[]⟩,Ss,⟨L3,Wf.nil,hap,AV _⟩,⟨rfl,rfl,rfl,rfl⟩,fun b o e _=>e⟩,Jm,fun i H' j=>⟨_,_,Jf j,rfl⟩,_,SV K CL CK fL c' cell pm ctv,fun base=>XJ g2,.all (fun us hl=>match us,hl with | [_,_],_=>rfl),?_⟩
   intro i la ln H4 Q1 hln hJ nla hla hq
   have hf4:=Jf hJ
   have hc4:=Jc hJ
   have hl4:=Jl hJ
   obtain⟨p',st,hst,LS4,hsl,kb⟩:=id hJ
   rw[Aj] at hln
   cases hb:(Ad t)[i]? with
   | none=>rw[hb] at hln;cases hln
   | some b =>
   rw[hb] at hln
   have eb:zs b=ln:=Ae hln
   subst eb
   have hi:i < (Ad t).length:=(Bd.mp hb).1
   have hR:=Iv (step:=BN) hst hb
   have hcv4:CellV H4 cell (.ref x):=by
    obtain⟨o,u,e,r,r2⟩:=hcv
    exact⟨o,u,by rw[hl4];exact e,r,r2⟩
   have plain:Plain [cell] H4:=fun y hy u e=>by
    obtain⟨o,_,q,_⟩:=hcv4
    rw[A3.mp hy,q] at e
    cases e
    exact⟨_,rfl⟩
   have sN:=G1 plain
   refine⟨i,la,x,rfl,hf4,hc4,hcv4,x,la,p',st,[],i,b,rfl,⟨LS4.at_.monoN sN,LS4.wf,LS4.ap,LS4.le⟩,by omega,SqL.of (sN _ _ hla fun _ q=>nomatch q),part b (CV hb),fun kk hk H' s' hn=>?_,fun st' hs H' p'' q1 q2 q3 hn=>?_⟩
   ·rw[hk] at hR
    have hR:rAt BN ⟨[],[]⟩ (Ad t) i=(kk:Int):=hR
    have su:Same H4 (Cn [cell] H4 H'):=fun y o e=>by
     by_cases m:y∈[cell]
     ·rw[GL m];exact e
     ·rw[C2 m];exact s' y o (by rw[Ax m];exact e)
    have kpos:=Yw hk
    rw[← hR]
    refine hq _ (fun y o _ e=>su y o e) (fun z=>?_) fun _=>Jm i _ _ hJ su
    rw[hR] at z
    exact absurd (show kk=0 by omega) kpos
   ·rw[hs] at hR
    have hR:rAt BN ⟨[],[]⟩ (Ad t) i=0:=hR
    have su:Same H' (Cn [cell] H4 H'):=S1 fun y hy=>by rw[A3.mp hy];exact hn
    have ku:KeepBut [x,p.ak,p.sg,p.sm] H4 (Cn [cell] H4 H'):=fun y o e n=>by
     by_cases m:y∈[cell]
     ·rw[GL m];exact e
     ·rw[C2 m]
      refine q3 y o (by rw[Ax m];exact e) ?_
      rw[hsl.1,hsl.2.1,hsl.2.2.1]
      exact n
    rw[← hR]
    refine hq _ (fun y o n e=>ku y o e fun m=>(ourN y m).2 n) (fun _=>⟨p'',st',Sr hst hb hs,q1.mono su,?_,kb.trans ku⟩) fun z=>absurd hR z
    obtain⟨w1,w2,w3,w4⟩:=q2
    obtain⟨v1,v2,v3,v4⟩:=hsl
    exact⟨w1.trans v1,w2.trans v2,w3.trans v3,w4.trans v4⟩
  refine⟨a,fL,zs t,(Ad t).map zs,zs (Bc t),J,rAt BN ⟨[],[]⟩ (Ad t),rfl,hS3,by rw[Av];omega,hcut,TC,fun H0 pR j res hJ0 np0 hTold=>?_⟩
  have hJ:=Jm j _ _ hJ0 ((Same.refl H0).new (o:=.lst (res.map V.int)) np0)
  have hpR:upd H0 pR (.lst (res.map V.int)) pR=some (.lst (res.map V.int)):=AI
  generalize upd H0 pR (.lst (res.map V.int))=H' at hJ hpR ⊢
  have hl':=Jl hJ
  have hP':=Jp hJ
  have hc':=Jc hJ
  obtain⟨p',st,hst,LS',hsl,kb⟩:=id hJ
  refine⟨fun c2 hc2=>by
   have:c2=s.heap.objs.size+1:=A3.mp hc2
   rw[this,hcl];exact hl',?_⟩
  show Ee 1 _ _ _
  have ecs:BW ((Dg CX0 P w K mg base ["text","locker"] "read_locker" (AK JF) f (Az c) A outer s H E).nox)=[cell]:=by rw[← hcl];rfl
  rw[ecs]
  have plain:Plain [cell] H':=fun y hy u e=>by
   obtain⟨o,_,q,_⟩:=hcv
   rw[A3.mp hy,hl',q] at e
   cases e
   exact⟨_,rfl⟩
  have sN:=G1 plain
  have Lh:=LS'.at_.monoN sN
  obtain⟨dx4,hx4⟩:=Lh.ob
  have hpR4:=sN _ _ hpR fun _ q=>nomatch q
  have kpH:KeepBut [Pt] H (hid [cell] H'):=fun b o e n=>by
   have n:b≠Pt:=fun z=>n (by simp[z])
   have e2:=kp2 b o (s1 b o e) n
   have nb:b∉[cell]:=fun m=>by rw[A3.mp m,nc2] at e2;cases e2
   rw[Ax nb]
   exact kb b o (s23 b o e2) fun m=>by rw[(ourN b m).1] at e;cases e
  have tabH:BF (hid [cell] H') Pt (BX Bz) Cb:=by
   refine .inr ⟨c',sN _ _ hP' (fun _ q=>nomatch q),?_⟩
   obtain⟨o,vs,tt,e,d,r⟩:=hc'
   have:c'∉[cell]:=fun m=>by
    obtain⟨o2,_,_,e2,_⟩:=hco
    rw[A3.mp m,nc2] at e2
    cases e2
   exact⟨o,vs,tt,by rw[Ax this];exact e,d,r⟩
  have hSh:SqL K (hid [cell] H') a ((zs t).map V.int):=by
   rcases hS with (h | ⟨o,h⟩) | h
   ·exact .inl (.inl (kpH _ _ h fun m=>by
     have hT':=hT
     rw[A3.mp m] at h
     rcases hT' with q | ⟨_,q,_⟩ <;> (rw[h] at q;cases q)))
   ·exact .inl (.inr ⟨o,kpH _ _ h fun m=>by
     have hT':=hT
     rw[A3.mp m] at h
     rcases hT' with q | ⟨_,q,_⟩ <;> (rw[h] at q;cases q)⟩)
   ·exact .inr h
  generalize hid [cell] H'=Hh at Lh hx4 hpR4 kpH tabH hSh ⊢
  refine⟨_,rfl,x,CL,dx4,_,rfl,hx4,TL.cl,TL.fault,(by show 5 < 1000;decide),?_⟩
  have L5:=Lh.fault (fl:=res) hne hx4 hpR4 rfl
  have nxP:x≠Pt:=fun z=>by
   rcases tabH with q | ⟨_,q,_⟩ <;> (rw[← z,hx4] at q;cases q)
  have kp5:KeepBut [Pt] H (upd Hh x (.ins CL dx4 (A9 "fault" (V.ref pR) (lf p'.an p'.ak p'.sg p'.sm p'.af)))):=fun b o e n=>by
   rw[AE (Am e nx)]
   exact kpH b o e n
  have tab_upd:∀{G:Hp} {o:HO},BF G Pt (BX Bz) Cb→(∃d fs,G x=some (.ins CL d fs))→BF (upd G x o) Pt (BX Bz) Cb:=fun {G o} h hx=>by
   obtain⟨d,fs,hx⟩:=hx
   rcases h with q | ⟨c2,q,o2,vs,tt,e,r⟩
   ·exact .inl (by rw[AE (An nxP)];exact q)
   ·exact .inr ⟨c2,by rw[AE (An nxP)];exact q,o2,vs,tt,by rw[AE (Bb e hx (by intro z;cases z))];exact e,r⟩
  have tab5:=tab_upd (o:=.ins CL dx4 (A9 "fault" (V.ref pR) (lf p'.an p'.ak p'.sg p'.sm p'.af))) tabH ⟨_,_,hx4⟩
  have hS5:SqL K (upd Hh x (.ins CL dx4 (A9 "fault" (V.ref pR) (lf p'.an p'.ak p'.sg p'.sm p'.af)))) a ((zs t).map V.int):=by
   rcases hSh with (h | ⟨o,h⟩) | h
   ·exact .inl (.inl (by rw[AE (Bb h hx4 (by intro z;cases z))];exact h))
   ·exact .inl (.inr ⟨o,by rw[AE (Bb h hx4 (by intro z;cases z))];exact h⟩)
   ·exact .inr h
  generalize upd Hh x (.ins CL dx4 (A9 "fault" (V.ref pR) (lf p'.an p'.ak p'.sg p'.sm p'.af)))=H5 at L5 kp5 tab5 hS5 ⊢
  obtain⟨dx5,hx5⟩:=L5.ob
  refine⟨_,rfl,x,CL,dx5,_,_,rfl,hx5,TL.cl,TL.fault,Pd (p:=⟨p'.an,p'.ak,p'.sg,p'.sm,pR⟩),A5 _,fun l nl=>?_⟩
  have s56:Same H5 (upd H5 l (.lst [])):=(Same.refl H5).new nl
  have L6:=L5.mono s56
  have kp6:KeepBut [Pt] H (upd H5 l (.lst [])):=kp5.trans (KeepBut.of s56)
  have tab6:=BR s56 tab5
  have hS6:=s56.seq hS5
  refine⟨_,_,A6 (SqL.of L6.af),A6 (ns:=[]) (SqL.of AI),A2 _,A2 _,?_⟩
  rw[CP]
  generalize upd H5 l (.lst [])=H6 at L6 kp6 tab6 hS6 ⊢
  obtain⟨dx6,hx6⟩:=L6.ob
  refine⟨_,rfl,?_⟩
  have jud:=WW t
  by_cases hres:res=[]
  ·refine bT (decide_eq_true hres) ?_
   subst hres
   have hj:j=((Ad t).map zs).length∧zs (Bc t)=[]:=by
    rcases hTold with ⟨_,_,_,q⟩ | ⟨q1,_,q2⟩
    ·cases q
    ·refine⟨q1,?_⟩
     by_cases z:zs (Bc t)=[]
     ·exact z
     ·rw[if_neg z] at q2;cases q2
   have hr0:Bc t=[]:=zs_nil.mp hj.2
   have hjn:j=(Ad t).length:=by rw[hj.1,AG]
   subst hjn
   rw[JB hst] at jud
   refine⟨_,rfl,x,CL,dx6,_,_,rfl,hx6,TL.cl,TL.signs,G7 (p:=⟨p'.an,p'.ak,p'.sg,p'.sm,pR⟩),p'.sg,_,rfl,L6.sg,rfl,_,rfl,?_⟩
   rw[JJ]
   have hz:EA (st.kinds.map zk)=0↔st.kinds.all (fun k=>!k.isSign)=true:=by
    rw[SA,Je,Ta,Cg]
    exact⟨fun h y hy=>by have:=h y hy;cases q:y.isSign with | false=>rfl | true=>exact absurd q this,fun h y hy q=>by have:=h y hy;rw[q] at this;cases this⟩
   by_cases h0:EA (st.kinds.map zk)=0
   ·refine bT (decide_eq_true (by rw[h0];rfl)) ?_
    refine⟨_,rfl,a,zs t,rfl,hS6,fun H7 s7=>⟨(show 2≤sizeLine from CH (by decide)),fun l2 nl2=>?_⟩⟩
    have s78:Same H7 (upd H7 l2 (.lst [.int 1,.int ((zs t).count 10:Nat)])):=(Same.refl H7).new nl2
    have s68:=s7.trans s78
    have L8:=L6.mono s68
    have hl8:upd H7 l2 (.lst [.int 1,.int ((zs t).count 10:Nat)]) l2=some (.lst (([1,(((zs t).count 10:Nat):Int)]:List Int).map V.int)):=AI
    have hx8:=s68 _ _ hx6
    have kp8:=kp6.trans (KeepBut.of (xs:=[Pt]) s68)
    have tab8:=BR s68 tab6
    generalize upd H7 l2 (.lst [.int 1,.int ((zs t).count 10:Nat)])=H8 at L8 hl8 hx8 kp8 tab8 ⊢
    refine⟨_,rfl,x,CL,dx6,_,rfl,hx8,TL.cl,TL.fault,(by show 5 < 1000;decide),?_⟩
    have L9:=L8.fault (p:=⟨p'.an,p'.ak,p'.sg,p'.sm,pR⟩) hne hx8 hl8 rfl
    refine⟨_,rfl,k _ x _ _ _ _ (fun b o e n=>?_) (tab_upd tab8 ⟨_,_,hx8⟩) L9 ?_⟩
    ·rw[AE (Am e nx)]
     exact kp8 b o e n
    ·unfold Gp
     rw[jud]
     show match D1 (Bc t) (Ad t).length st with
      | .error _=>_
      | .ok L=>_
     unfold D1
     rw[if_pos (.inr (hz.mp h0))]
     simp
   ·refine bF (decide_eq_false (BK (by omega))) ?_
    refine⟨_,rfl,k _ x _ _ _ _ kp6 tab6 L6 ?_⟩
    unfold Gp
    rw[jud]
    show match D1 (Bc t) (Ad t).length st with
     | .error _=>_
     | .ok L=>_
    unfold D1
    rw[if_neg (by rintro(q | q);exact q hr0;exact h0 (hz.mpr q))]
    exact⟨rfl,rfl,rfl,LS'.wf⟩
  ·refine bF (decide_eq_false hres) ?_
   refine bF rfl ?_
   refine⟨_,rfl,k _ x _ _ _ _ kp6 tab6 L6 ?_⟩
   unfold Gp
   rw[jud]
   rcases hTold with ⟨q1,_,q3,_⟩ | ⟨q1,_,q2⟩
   ·rw[AG] at q1
    obtain⟨b,hb⟩:∃b,(Ad t)[j]?=some b:=⟨_,BD q1⟩
    have hR:=Iv (step:=BN) hst hb
    cases hs:BN st j b with
    | ok s2=>rw[hs] at hR;exact absurd hR q3
    | error kk =>
     rw[Qc hst hb hs]
     exact hres
   ·rw[AG] at q1
    subst q1
    rw[JB hst]
    show match D1 (Bc t) (Ad t).length st with
     | .error _=>_
     | .ok L=>_
    unfold D1
    rw[if_pos (.inl fun z=>hres (by rw[q2,if_pos (zs_nil.mpr z)]))]
    exact hres
end
end Fb
end
section
set_option maxRecDepth 100000
set_option maxHeartbeats 4000000
namespace Fb
open PySem PySem.Spec PyProof.Rows L2
open PySem.AutoSeq1 (wpAny_loadPart')
def eqL (H:Hp) (lx:List Int) (u:Value):Bool:=match u with
 | .ref a=>(match H a with
  | some (.lst xs)=>decide (xs=lx.map V.int)
  | _=>false)
 | _=>false
theorem S8:∀{a b:List Int},a.map V.int=b.map V.int→a=b
 | [],[],_=>rfl
 | [],_::_,h=>by simp at h
 | _::_,[],h=>by simp at h
 | x::a,y::b,h=>by
  rw[Au,Au] at h
  obtain⟨h1,h2⟩:=FO h
  rw[JR h1,S8 h2]
theorem ON {H:Hp}{lx ps:List Int}{a:Addr} (h:H a=some (.lst (ps.map V.int))):eqL H lx (.ref a)=decide (ps=lx):=by
 unfold eqL
 dsimp only
 rw[h]
 exact CA ⟨S8,fun e=>by rw[e]⟩
theorem Nn {H:Hp}{lx:List Int}:∀{as:List Addr}{pss:List (List Int)}{us:List Value},Paired (fun a ps=>H a=some (.lst (ps.map V.int))) as pss→Vals (as.map V.ref) us→us.any (eqL H lx)=pss.any fun ps=>decide (ps=lx)
 | _,_,us,.nil,r=>by
  rw[FQ] at r
  cases r
  rfl
 | _,_,us,.cons h t,r=>by
  rw[Au] at r
  cases r with
  | cons r1 r2 =>
   cases r1
   rw[DK,DK,ON h,Nn t r2]
theorem Pq:∀{as:List Addr}{us:List Value},Vals (as.map V.ref) us→∀u∈us,∃a∈as,u=.ref a
 | [],_,r=>fun u hu=>by
  rw[FQ] at r
  cases r
  cases hu
 | a::as,_,r=>fun u hu=>by
  rw[Au] at r
  cases r with
  | cons r1 r2 =>
   cases r1
   rcases AS.mp hu with e | hu
   ·exact⟨a,AU,e⟩
   ·obtain⟨b,hb,e⟩:=Pq r2 u hu
    exact⟨b,As _ hb,e⟩
def Xz:R2:=fun x y H Q=>∃(b p:Addr) (as:List Addr) (pss:List (List Int)) (lx:List Int),x=.ref b∧H b=some (.lst (lx.map V.int))∧y=.ref p∧H p=some (.lst (as.map V.ref))∧Paired (fun a ps=>H a=some (.lst (ps.map V.int))) as pss∧Q (.bl (!(pss.any fun ps=>decide (ps=lx)))) H
theorem XT {X:Cx} (hu:X.A.units+70 < cLine):OpR X (compareOp .NotIn) Xz:=by
 intro pins s σ H x y v u Q I rx ry h
 obtain⟨b,p,as,pss,lx,rfl,hb,rfl,hp,hpa,q⟩:=h
 cases rx
 cases ry
 obtain⟨its,r,pl,hz⟩:=I.list (SqL.of hp)
 obtain⟨bs,rb⟩:=Dp.reads I _ (.ref b) (.ref b) (A6 (SqL.of hb)) rfl
 refine SeqAt.notIn_listAt (eqL H lx) pl.isList (fun w hw=>?_) ⟨.bl _,H,I,rfl,?_⟩
 ·obtain⟨a,ha,rfl⟩:=Pq r w (by simpa using hw)
  obtain⟨ps,_,hps⟩:=LU hpa ha
  obtain⟨cs,ra⟩:=Dp.reads I _ (.ref a) (.ref a) (A6 (SqL.of hps)) rfl
  rw[ON hps,← CP]
  exact Ua _ _ _ _ _ _ _ _ ra rb (J7 (A2 _)) (J7 (A2 _)) (Ub (A2 _) (by show X.A.units+1+64 < cLine;omega))
 ·rw[show its.toArray.any (eqL H lx)=its.any (eqL H lx) by simp,Nn hpa r]
  exact q
def Nc (A:Around) (s:Shared) (x y:Value) (r:Bool):Prop:=∀(prog:Program) (w:World) (E:Value→Shared→Prop) (Q:Value→Shared→Prop),Q (.bool r) s→wpAny (model prog w) A (richCompare .Gt x y) Q E s
theorem ZV (l b:Addr) (u0 u1 w0 w1:Value) (n n2:Nat) (d1 d2:Option Addr) (c1 c2:Array (Option Value)) (e0 e1 r0 r1:Bool):Meets (Builtin.«tuple.__gt__» ⟨[.ref l,.ref b],[]⟩)
  (fun A R s=>s.heap.get? l=some { cls:=.type "tuple",dict:=d1,data:=.seq #[u0,u1] n,slots:=c1 }∧s.heap.get? b=some { cls:=.type "tuple",dict:=d2,data:=.seq #[w0,w1] n2,slots:=c2 }∧
   Bu A.in1 s u0 w0 e0∧Bu A.in1 s u1 w1 e1∧(e0=false→Nc A.in1 s u0 w0 r0)∧(e1=false→Nc A.in1 s u1 w1 r1)∧R (.ok (.ret (.bool (if e0=true then (if e1=true then false else r1) else r0)))) s) :=
 .of_wp fun prog w A R s h=>by
  obtain⟨hp,g,d,tk,os⟩:=s
  obtain⟨hl,hb,q0,q1,k0,k1,h⟩:=h
  have f2:=AutoSeq1.sub_tuple_tuple
  wp_walk using Bv hl,Bv hb,wpAny_forIn_list _ (fun rest b s'=>b.1=none∧s'=⟨hp,g,d,tk,os⟩∧(rest=[(u0,w0),(u1,w1)]∨(e0=true∧rest=[(u1,w1)])∨(e0=true∧e1=true∧rest=[]))) _
  case turn =>
   rintro⟨y,x⟩ rest b s' ⟨hb',rfl,hz⟩
   rcases hz with hz | ⟨z,hz⟩ | ⟨_,_,hz⟩
   ·injection hz with hy hrest
    injection hy with hy hx
    subst hy hx hrest
    refine AF (q0 prog w _ _ ?_)
    cases e0 with
    | true =>
     wp_walk
     exact⟨rfl,rfl,.inr (.inl ⟨rfl,rfl⟩)⟩
    | false =>
     have k0:=k0 rfl prog w
     wp_walk using k0
     exact⟨_,rfl,h⟩
   ·injection hz with hy hrest
    injection hy with hy hx
    subst hy hx hrest
    refine AF (q1 prog w _ _ ?_)
    cases e1 with
    | true =>
     wp_walk
     exact⟨rfl,rfl,.inr (.inr ⟨z,rfl,rfl⟩)⟩
    | false =>
     have k1:=k1 rfl prog w
     rw[z] at h
     wp_walk using k1
     exact⟨_,rfl,h⟩
   ·cases hz
  case fin =>
   rintro⟨b1,b2⟩ s' ⟨hb',rfl,hz⟩
   simp only at hb'
   subst hb'
   rcases hz with hz | ⟨z,hz⟩ | ⟨z,z2,hz⟩
   ·cases hz
   ·cases hz
   ·rw[z,z2] at h
    wp_walk
    exact⟨_,rfl,h⟩
  case h =>
   exact⟨rfl,rfl,.inl rfl⟩
def Xx (K:AA):R2:=fun x y H Q=>∃(a b:Addr) (n m:Int) (c d:Addr) (ns ms:List Int),x=.ref a∧y=.ref b∧H a=some (.tup [.int n,.ref c])∧H b=some (.tup [.int m,.ref d])∧SqL K H c (ns.map V.int)∧SqL K H d (ms.map V.int)∧Q (.bl (if n≠m then decide (m < n) else HT.lexLt ms ns)) H
theorem Pc:∀(l:List Int),HT.lexLt l l=false
 | []=>rfl
 | a::l=>by rw[HT.lexLt_cons,if_pos rfl];exact Pc l
theorem Oy (n m:Int) (ns ms:List Int):(if decide (n=m)=true then (if decide (ns=ms)=true then false else HT.lexLt ms ns) else decide (m < n))=(if n≠m then decide (m < n) else HT.lexLt ms ns):=by
 by_cases h1:n=m
 ·rw[if_pos (decide_eq_true h1),if_neg (show ¬n≠m from fun z=>z h1)]
  by_cases h2:ns=ms
  ·rw[if_pos (decide_eq_true h2),h2,Pc]
  ·rw[if_neg (show ¬decide (ns=ms)=true by rw[decide_eq_false h2];decide)]
 ·rw[if_neg (show ¬decide (n=m)=true by rw[decide_eq_false h1];decide),if_pos h1]
theorem XQ {X:Cx} (hu:X.A.units+70 < cLine):OpR X (compareOp .Gt) (Xx X.K):=by
 intro pins s σ H x y v u Q I rx ry h
 obtain⟨a,b,n,m,c,d,ns,ms,rfl,rfl,ha,hb,hc,hd,q⟩:=h
 cases rx
 cases ry
 obtain⟨its,r1,⟨⟨k1,f1,t1,l1⟩,o1,g1,n1,z1⟩,_⟩:=I.tuple (SqT.of ha)
 obtain⟨its2,r2,⟨⟨k2,f2,t2,l2⟩,o2,g2,n2,z2⟩,_⟩:=I.tuple (SqT.of hb)
 simp only at g1 g2 z1 z2
 subst g1 g2 z1 z2
 cases r1 with
 | cons p1 r1 =>
 cases r1 with
 | cons p2 r1 =>
 cases r1
 cases r2 with
 | cons p3 r2 =>
 cases r2 with
 | cons p4 r2 =>
 cases r2
 obtain⟨tn,rfl⟩:=p1
 obtain⟨tm,rfl⟩:=p3
 cases p2
 cases p4
 obtain⟨cs,rc⟩:=Dp.reads I _ (.ref c) (.ref c) (A6 hc) rfl
 obtain⟨ds,rd⟩:=Dp.reads I _ (.ref d) (.ref d) (A6 hd) rfl
 obtain⟨itc,rcv,⟨⟨k3,f3,t3,l3⟩,n3,o3,g3,_,z3⟩,_⟩:=I.list hc
 obtain⟨itd,rdv,⟨⟨k4,f4,t4,l4⟩,n4,o4,g4,_,z4⟩,_⟩:=I.list hd
 simp only at g3 g4 z3 z4
 subst g3 g4 z3 z4
 have q0:Bu X.A.in1 s (.int n tn) (.int m tm) (decide (n=m)):=by
  obtain⟨e,he,hiff⟩:=HT.eqAt_int X.A.in1 s n tn m tm
  have:e=decide (n=m):=by
   cases e with
   | true=>exact(decide_eq_true (hiff.mp rfl)).symm
   | false=>exact(decide_eq_false fun z=>absurd (hiff.mpr z) Ag).symm
  rw[← this]
  exact he
 have q1:Bu X.A.in1 s (.ref c) (.ref d) (decide (ns=ms)):=by
  rw[← CP]
  exact Ua _ _ _ _ _ _ _ _ rc rd (J7 (A2 _)) (J7 (A2 _)) (Ub (A2 _) (by show X.A.units+1+64 < cLine;omega))
 refine Uk (op:=.Gt) ⟨_,o1,rfl⟩ ⟨_,o2,rfl⟩ PySem.F.slot_tuple_gt PySem.F.entry_tuple_gt (PySem.F.args_tuple_gt_2 _ _) (ZV a b (.int n tn) (.ref c) (.int m tm) (.ref d) n1 n2 f1 f2 l1 l2 (decide (n=m)) (decide (ns=ms)) (decide (m < n)) (HT.lexLt ms ns))
  ⟨o1,o2,q0,q1,fun _ prog w E Q z=>(T4 z:wpAny (model prog w) X.A.in1 (compareOp .Gt (.int n tn) (.int m tm)) Q E _),fun _ prog w E Q z=>?_,⟨(fun x=>nomatch x),⟨.bl (if n≠m then decide (m < n) else HT.lexLt ms ns),H,I,?_,q⟩⟩⟩ (by omega)
 ·exact Uk (op:=.Gt) ⟨_,o3,rfl⟩ ⟨_,o4,rfl⟩ PySem.F.slot_list_gt PySem.F.entry_list_gt (PySem.F.args_list_gt_2 _ _) (Wq c d itc.toArray itd.toArray n3 n4 f3 f4 l3 l4 ns ms (O8 rcv) (O8 rdv))
   ⟨o3,o4,show DM (HT.lexLt ms ns)≠Value.notImplemented∧_ from⟨(fun x=>nomatch x),z⟩⟩ (by show X.A.units+1 < cLine;omega)
 ·first | exact congrArg DM (Oy n m ns ms) | exact congrArg DM (Oy n m ns ms).symm
theorem O5 {A:Around}{k:Nat} (hr:Room k A):A.units+70 < cLine:=by have:=hr.un;omega
end Fb
end
section
set_option maxRecDepth 100000
set_option maxHeartbeats 4000000
namespace Fb
open PySem PySem.Spec PyProof.Rows L2
abbrev Le:Stmt:=RZ
def Lu (K:AA):Sp:=fun vs H Q _=>∃(a:Addr) (ns:List Int),vs=[.ref a]∧SqL K H a (ns.map V.int)∧ns.length < 100000∧Pur H Q (.bl (Ib ns))
theorem scIsMean:AY ["told","byte"] ["told"] (AK Le):=⟨rfl,rfl,rfl,by decide +kernel,rfl,by decide +kernel,by decide +kernel⟩
theorem U5 (pss:List (List Int)):(pss.any fun ps=>decide (ps=[]))=decide ([]∈pss):=by
 rw[C3,Hb,decide_eq_true_iff]
 exact⟨fun ⟨x,hx,e⟩=>by rw[← of_decide_eq_true e];exact hx,fun h=>⟨[],h,decide_eq_true rfl⟩⟩
theorem VZ (k:Nat) (xs:List V):CO xs (some (k:Int)) none=xs.drop k:=by
 by_cases h:k≤xs.length
 ·exact Va k xs h
 ·unfold CO
  have e1:HT.sIx xs.length 0 (some (k:Int))=xs.length:=by
   show(if (k:Int) < 0 then ((k:Int)+(xs.length:Int)).toNat else min (k:Int).toNat xs.length)=_
   rw[if_neg (by omega),FL,Nat.min_eq_right (by omega)]
  rw[e1,TY,Hd (by omega)]
  simp
section
variable {P:Program}{w:World}{K:AA}{mg:Str→Option Value}{base:Heap}
theorem ok_isMean {f:Addr}{fd:FuncData} (F:Fun K "is_meaning" "is_meaning" Le f fd) (B:Blt mg) (c1:Cst mg "BLANK" (.int 32)) (c2:Cst mg "LAST_PRINTED" (.int 126)) (c3:Cst mg "LONGEST_MEANING" (.int 64)) (g1:Has P w K mg "split_at" 1 ["mark","values"] (EC K)):FnOk P w K mg base CX0 2 f fd ["told"] (Lu K):=by
 refine F.ok scIsMean (fun vs H Q E h=>?_) (fun cdv A outer s H vs Q E hr h=>?_)
 ·obtain⟨a,ns,rfl,_⟩:=h
  rfl
 ·obtain⟨a,ns,rfl,hS,hlen,k⟩:=h
  unfold Ib at k
  refine⟨_,AJ (Al (PW.pt (F9 (Ac F1 (A1 Bq (by rfl) B.len Bf (AB (pv 0) AD)) (AW c3 rfl) (AR _))
     (HM (D8 (Cy (A1 (IE rfl) (by rfl) B.all Jy (AB (Dk (own:=[("byte",1)]) rfl scIsMean.nd (D7 (pv 0)) (Df (N:=["told","byte"]) (sc:=AK Le) (by decide +kernel)) (fun s H C cl fp=>Bs (i:=1) scIsMean.nd rfl (AZ rfl)) (fun s H C cl fp=>D9)
      (fun s H C cl fp=>HH CZ CZ (AW c1 rfl) (pv 1) (AW c2 rfl))) AD)))))))
    (AH (AL QC)) Ap)
   (AH (AL (Cw (XT (O5 hr)) (A8 AD) (AN g1 hr (by rfl) (AB (AW c1 rfl) (AB (pv 0) AD))) (by rfl)))),?_⟩
  refine⟨_,rfl,a,_,rfl,.inl hS,_,_,rfl,rfl,_,rfl,?_⟩
  by_cases hl:ns.length≤64
  ·refine bF (decide_eq_false (by rw[AG];omega)) ?_
   rw[decide_eq_true hl,DJ] at k
   refine⟨_,rfl,a,rfl,⟨_,hS⟩,fun D hD=>?_⟩
   refine EU (n:=(ns.map V.int).length) ((ns.map fun b=>decide (32≤b)&&decide (b≤126)).map V.bl) (by simp) (Br (by rw[AG];omega)) hD (fun i H hi s2=>E3 (s2.seq hS) hi) (fun H s2=>E4 (s2.seq hS)) ?_ ?_
   ·rintro i y z H2 H3 hz s2 ⟨rfl,hy⟩ R hR
    obtain⟨n,hn,rfl⟩:=EO (hy _ (s2.seq hS))
    have:z=V.bl (decide (32≤n)&&decide (n≤126)):=by
     rw[Aj,Aj,hn] at hz
     exact(Ae hz).symm
    subst this
    have r0:=hR _ (Same.refl _)
    refine⟨rfl,_,rfl,_,_,rfl,rfl,_,rfl,?_⟩
    by_cases h1:(32:Int)≤n
    ·rw[decide_eq_true h1,DJ] at r0
     exact bT (decide_eq_true h1) ⟨_,_,rfl,rfl,r0⟩
    ·rw[decide_eq_false h1,Co] at r0
     exact bF (decide_eq_false h1) r0
   ·intro H2 s2 hd2
    refine⟨D,ns.map fun b=>decide (32≤b)&&decide (b≤126),rfl,SqL.of hd2,_,rfl,?_⟩
    rw[FN]
    cases ha:ns.all fun b=>decide (32≤b)&&decide (b≤126) with
    | false =>
     rw[ha,Co] at k
     exact bT (by show(!(ns.all fun b=>decide (32≤b)&&decide (b≤126)))=true;rw[ha];rfl) (k H2 s2)
    | true =>
     rw[ha,DJ] at k
     refine bF (by show(!(ns.all fun b=>decide (32≤b)&&decide (b≤126)))=false;rw[ha];rfl) ?_
     refine⟨A5 _,fun l nl=>?_⟩
     have s3:Same H2 (upd H2 l (.lst [])):=(Same.refl H2).new nl
     refine⟨_,rfl,a,32,ns,rfl,s3.seq (s2.seq hS),hlen,fun H4 p as s4 np nas hp hpa=>?_⟩
     refine⟨l,p,as,_,[],rfl,s4 _ _ AI,rfl,hp,hpa,?_⟩
     rw[U5]
     exact k H4 ((s2.trans s3).trans s4)
  ·rw[decide_eq_false hl,Co,Co] at k
   exact bT (decide_eq_true (by rw[AG];omega)) (bT rfl (k H (Same.refl H)))
end
abbrev Q7:Stmt:=R0
abbrev Qv:Stmt:=Ro
def DP (ns:List Int):List Int:=(Af 32 ns).headD []
def JL (K:AA):Sp:=fun vs H Q _=>∃(a:Addr) (ns:List Int),vs=[.ref a]∧SqL K H a (ns.map V.int)∧ns.length < 100000∧Fg H Q (DP ns)
def Lx (K:AA):Sp:=fun vs H Q _=>∃(a:Addr) (ns:List Int),vs=[.ref a]∧SqL K H a (ns.map V.int)∧ns.length < 100000∧Fg H Q (ns.drop ((DP ns).length+1))
theorem Yb:AY ["line"] ["line"] (AK Q7):=⟨rfl,rfl,rfl,by decide +kernel,rfl,by decide +kernel,by decide +kernel⟩
theorem YS:AY ["line"] ["line"] (AK Qv):=⟨rfl,rfl,rfl,by decide +kernel,rfl,by decide +kernel,by decide +kernel⟩
theorem Og (ns:List Int):(Af 32 ns)[0]?=some (DP ns):=by
 unfold DP
 cases h:Af 32 ns with
 | nil=>exact absurd h (IH 32 ns)
 | cons w l=>rfl
theorem V6 (ns:List Int):(DP ns).length≤ns.length:=D5 32 ns _ (CV (Og ns))
theorem IY (b:Ah):DP (zs b)=zs (Bx b):=by
 unfold DP Bx
 rw[Fj]
 cases h:Bo 32 b with
 | nil=>exact absurd h (Dz 32 b)
 | cons w l=>rfl
section
variable {P:Program}{w:World}{K:AA}{mg:Str→Option Value}{base:Heap}
theorem ok_rowW {f:Addr}{fd:FuncData} (F:Fun K "row_word" "row_word" Q7 f fd) (c1:Cst mg "BLANK" (.int 32)) (g1:Has P w K mg "split_at" 1 ["mark","values"] (EC K)):FnOk P w K mg base CX0 2 f fd ["line"] (JL K):=by
 refine F.ok Yb (fun vs H Q E h=>?_) (fun cdv A outer s H vs Q E hr h=>?_)
 ·obtain⟨a,ns,rfl,_⟩:=h
  rfl
 ·obtain⟨a,ns,rfl,hS,hlen,k⟩:=h
  refine⟨_,AH (AL (Bm Bl (AN g1 hr (by rfl) (AB (AW c1 rfl) (AB (pv 0) AD))) AO (fun _ _=>rfl))),?_⟩
  refine⟨_,rfl,a,32,ns,rfl,hS,hlen,fun H1 p as s1 np nas hp hpa=>?_⟩
  obtain⟨b,hb,hbn⟩:=DE hpa (Og ns)
  exact⟨p,_,_,_,rfl,rfl,SqL.of hp,Bw (j:=0) (v:=V.ref b) (by rw[Aj,hb];rfl),k H1 b s1 (nas b (CV hb)) hbn⟩
theorem ok_meanT {f:Addr}{fd:FuncData} (F:Fun K "meaning_told" "meaning_told" Qv f fd) (B:Blt mg) (g1:Has P w K mg "row_word" 2 ["line"] (JL K)):FnOk P w K mg base CX0 3 f fd ["line"] (Lx K):=by
 refine F.ok YS (fun vs H Q E h=>?_) (fun cdv A outer s H vs Q E hr h=>?_)
 ·obtain⟨a,ns,rfl,_⟩:=h
  rfl
 ·obtain⟨a,ns,rfl,hS,hlen,k⟩:=h
  refine⟨_,AH (AL (F4 GF (pv 0) (F8 (D6 LP (A1 Bq (by rfl) B.len Bf (AB (AN g1 hr (by rfl) (AB (pv 0) AD)) AD)) AO)) F7)),?_⟩
  refine⟨_,rfl,_,rfl,a,ns,rfl,hS,hlen,fun H1 b s1 nb hbn=>?_⟩
  refine⟨b,_,rfl,.inl (SqL.of hbn),_,_,rfl,rfl,_,rfl,a,_,rfl,s1.seq hS,fun q nq=>?_⟩
  have e:CO (ns.map V.int) (some ((((DP ns).map V.int).length:Int)+1)) none=(ns.drop ((DP ns).length+1)).map V.int:=by
   have:=VZ ((DP ns).length+1) (ns.map V.int)
   rw[← List.map_drop] at this
   rw[AG]
   exact this
  refine k _ q (s1.trans ((Same.refl H1).new nq)) (s1.free nq) ?_
  rw[AI]
  exact congrArg (fun z=>some (HO.lst z)) e
end
end Fb
end
section
set_option maxRecDepth 100000
set_option maxHeartbeats 4000000
namespace Fb
open PySem PySem.Spec PyProof.Rows L2
abbrev Q6:Stmt:=Rg
def Sj:Sp:=fun vs H Q _=>∃n:Int,vs=[.int n]∧Pur H Q (.bl (decide (1≤n)&&decide (n≤8)))
theorem YZ:AY ["length"] ["length"] (AK Q6):=⟨rfl,rfl,rfl,by decide +kernel,rfl,by decide +kernel,by decide +kernel⟩
section
variable {P:Program}{w:World}{K:AA}{mg:Str→Option Value}{base:Heap}
theorem ok_rowLen {f:Addr}{fd:FuncData} (F:Fun K "is_row_length" "is_row_length" Q6 f fd) (c1:Cst mg "LONGEST_ROW" (.int 8)):FnOk P w K mg base CX0 1 f fd ["length"] Sj:=by
 refine F.ok YZ (fun vs H Q E h=>?_) (fun cdv A outer s H vs Q E hr h=>?_)
 ·obtain⟨x,rfl,_⟩:=h
  rfl
 ·obtain⟨n,rfl,k⟩:=h
  have kk:=k H (Same.refl H)
  refine⟨_,AH (AL (HH CZ CZ AO (pv 0) (AW c1 rfl))),?_⟩
  refine⟨_,rfl,_,_,rfl,rfl,_,rfl,?_⟩
  by_cases h1:(1:Int)≤n
  ·rw[decide_eq_true h1,DJ] at kk
   exact bT (decide_eq_true h1) ⟨_,_,rfl,rfl,kk⟩
  ·rw[decide_eq_false h1,Co] at kk
   exact bF (decide_eq_false h1) kk
end
abbrev Lg:Stmt:=Rh
abbrev Qp:Stmt:=RW
def Iy (b:Ah):Bool:=decide ((Bo 46 b).length≤8)&&(Bo 46 b).all DW
def SN (K:AA):Sp:=fun vs H Q _=>∃(a:Addr) (b:Ah),vs=[.ref a]∧SqL K H a ((zs b).map V.int)∧b.length < 100000∧Pur H Q (.bl (Iy b))
def SM (K:AA):Sp:=fun vs H Q _=>∃(a:Addr) (b:Ah),vs=[.ref a]∧SqL K H a ((zs b).map V.int)∧b.length < 100000∧Pur H Q (.bl (EN b))
theorem scIsRowW:AY ["word","names","name"] ["word"] (AK Lg):=⟨rfl,rfl,rfl,by decide +kernel,rfl,by decide +kernel,by decide +kernel⟩
theorem YK:AY ["line"] ["line"] (AK Qp):=⟨rfl,rfl,rfl,by decide +kernel,rfl,by decide +kernel,by decide +kernel⟩
theorem Of (b:Ah):(Bx b).length≤b.length:=by
 have:=V6 (zs b)
 rw[IY,Av,Av] at this
 exact this
theorem Pp (b:Ah):(zs b).drop ((DP (zs b)).length+1)=zs (C1 b):=by
 rw[IY,Av]
 unfold C1 zs
 rw[List.map_drop]
theorem Yr (b:Ah):(C1 b).length≤b.length:=by
 unfold C1
 rw[Jd]
 omega
theorem Pr (b:Ah):(Bo 46 b).length≤b.length+1∧1≤(Bo 46 b).length:=by
 have h1:=Fl 46 (zs b)
 have h2:=IG 46 (zs b)
 rw[IF,AG] at h1 h2
 rw[Av] at h1
 omega
section
variable {P:Program}{w:World}{K:AA}{mg:Str→Option Value}{base:Heap}
theorem ok_isRowW {f:Addr}{fd:FuncData} (F:Fun K "is_row_word" "is_row_word" Lg f fd) (B:Blt mg) (c1:Cst mg "FULL_STOP" (.int 46)) (g0:Has P w K mg "is_row_length" 1 ["length"] Sj) (g1:Has P w K mg "split_at" 1 ["mark","values"] (EC K)) (g2:Has P w K mg "is_name" 2 ["word"] (JK K)):
  FnOk P w K mg base CX0 3 f fd ["word"] (SN K):=by
 refine F.ok scIsRowW (fun vs H Q E h=>?_) (fun cdv A outer s H vs Q E hr h=>?_)
 ·obtain⟨a,b,rfl,_⟩:=h
  rfl
 ·obtain⟨a,b,rfl,hS,hlen,k⟩:=h
  have zl:(zs b).length < 100000:=by rw[Av];exact hlen
  unfold Iy at k
  have hr1:Room 1 _:=hr.mono (by decide)
  refine⟨_,AJ (BB (i:=1) scIsRowW.nd rfl (AZ rfl) (AN g1 hr1 (by rfl) (AB (AW c1 rfl) (AB (pv 0) AD))))
   (AH (AL (EY (AN g0 hr1 (by rfl) (AB (A1 Bq (by rfl) B.len Bf (AB (pv 1) AD)) AD))
    (Ea (A1 (IE rfl) (by rfl) B.all Jy (AB (Dk (own:=[("name",2)]) rfl scIsRowW.nd (D7 (pv 1)) (Df (N:=["word","names","name"]) (sc:=AK Lg) (by decide +kernel)) (fun s H C cl fp=>Bs (i:=2) scIsRowW.nd rfl (AZ rfl)) (fun s H C cl fp=>D9)
      (fun s H C cl fp=>AN g2 hr (by rfl) (AB (pv 2) AD))) AD)))))),?_⟩
  refine⟨_,rfl,a,46,zs b,rfl,hS,zl,fun H1 p as s1 np nas hp hpa=>?_⟩
  rw[IF] at hpa
  have hl:=CT hpa
  rw[AG] at hl
  obtain⟨hb46,hpos⟩:=Pr b
  refine⟨_,rfl,p,_,rfl,.inl (SqL.of hp),_,rfl,fun H1' s1'=>?_⟩
  have s1:=s1.trans s1'
  have hp:=s1' _ _ hp
  have hpa:=Paired.mapP hpa fun _ _ e=>s1' _ _ e
  clear s1'
  generalize H1'=H1 at s1 hp hpa ⊢
  rw[show decide ((1:Int)≤(((as.map V.ref).length:Nat):Int))=true from decide_eq_true (by rw[AG,hl];omega),DJ]
  by_cases h1:(Bo 46 b).length≤8
  ·rw[decide_eq_true h1,DJ] at k
   refine⟨_,rfl,bT (decide_eq_true (by rw[AG,hl];omega)) ?_⟩
   refine⟨_,rfl,p,rfl,⟨_,SqL.of hp⟩,fun D hD=>?_⟩
   refine EU (n:=(as.map V.ref).length) (((Bo 46 b).map DW).map V.bl) (by rw[AG,AG,AG,hl]) (Br (by rw[AG,hl];omega)) hD (fun i H hi s2=>E3 (SqL.of (s2 _ _ hp)) hi) (fun H s2=>E4 (SqL.of (s2 _ _ hp))) ?_ ?_
   ·rintro i y z H2 H3 hz s2 ⟨rfl,hy⟩ R hR
    have hy:=hy _ (SqL.of (s2 _ _ hp))
    rw[Aj,Aj] at hz
    cases hn:(Bo 46 b)[i]? with
    | none=>rw[hn] at hz;cases hz
    | some nm =>
     rw[hn] at hz
     have ez:V.bl (DW nm)=z:=Ae hz
     subst ez
     obtain⟨c,hc,hcc⟩:=DE hpa (i:=i) (b:=zs nm) (by rw[Aj,hn];rfl)
     rw[Aj,hc] at hy
     have ey:V.ref c=y:=Ae hy
     subst ey
     have h2:=D5 46 (zs b) (zs nm) (by rw[IF];exact BP.mpr ⟨nm,CV hn,rfl⟩)
     rw[Av,Av] at h2
     refine⟨rfl,_,rfl,c,zs nm,rfl,SqL.of (s2 _ _ hcc),by rw[Av];omega,?_⟩
     rw[Ic]
     exact hR
   ·intro H2 s2 hd2
    refine⟨D,(Bo 46 b).map DW,rfl,SqL.of hd2,?_⟩
    rw[FN]
    exact k H2 (s1.trans s2)
  ·rw[decide_eq_false h1,Co] at k
   exact⟨_,rfl,bF (decide_eq_false (by rw[AG,hl];omega)) (k H1 s1)⟩
theorem ok_isEnt {f:Addr}{fd:FuncData} (F:Fun K "is_entry_line" "is_entry_line" Qp f fd) (g1:Has P w K mg "row_word" 2 ["line"] (JL K)) (g2:Has P w K mg "is_row_word" 3 ["word"] (SN K)) (g3:Has P w K mg "is_meaning" 2 ["told"] (Lu K)) (g4:Has P w K mg "meaning_told" 3 ["line"] (Lx K)):
  FnOk P w K mg base CX0 4 f fd ["line"] (SM K):=by
 refine F.ok YK (fun vs H Q E h=>?_) (fun cdv A outer s H vs Q E hr h=>?_)
 ·obtain⟨a,b,rfl,_⟩:=h
  rfl
 ·obtain⟨a,b,rfl,hS,hlen,k⟩:=h
  have zl:(zs b).length < 100000:=by rw[Av];exact hlen
  have hr2:Room 2 _:=hr.mono (by decide)
  have e:EN b=(Iy (Bx b)&&DV (C1 b)):=rfl
  rw[e] at k
  refine⟨_,AH (AL (EY (AN g2 hr (by rfl) (AB (AN g1 hr2 (by rfl) (AB (pv 0) AD)) AD))
    (Ea (AN g3 hr2 (by rfl) (AB (AN g4 hr (by rfl) (AB (pv 0) AD)) AD))))),?_⟩
  refine⟨_,rfl,a,zs b,rfl,hS,zl,fun H1 p s1 np hp=>?_⟩
  rw[IY] at hp
  have:=Of b
  refine⟨p,Bx b,rfl,SqL.of hp,by omega,fun H2 s2=>⟨_,rfl,?_⟩⟩
  have s12:=s1.trans s2
  cases hw:Iy (Bx b) with
  | false =>
   rw[hw,Co] at k
   exact bF rfl (k H2 s12)
  | true =>
   rw[hw,DJ] at k
   refine bT rfl ?_
   refine⟨_,rfl,a,zs b,rfl,s12.seq hS,zl,fun H3 q s3 nq hq=>?_⟩
   rw[Pp] at hq
   have:=Yr b
   refine⟨q,zs (C1 b),rfl,SqL.of hq,by rw[Av];omega,fun H4 s4=>?_⟩
   rw[PD]
   exact k H4 ((s12.trans s3).trans s4)
end
abbrev Qi:Stmt:=Rf
def Hz (ns ms:List Int):Bool:=if ns.length≠ms.length then decide (ms.length < ns.length) else HT.lexLt ms ns
def SH (K:AA):Sp:=fun vs H Q _=>∃(a b:Addr) (ns ms:List Int),vs=[.ref a,.ref b]∧SqL K H a (ns.map V.int)∧SqL K H b (ms.map V.int)∧Pur H Q (.bl (Hz ns ms))
theorem YG:AY ["row","before"] ["row","before"] (AK Qi):=⟨rfl,rfl,rfl,by decide +kernel,rfl,by decide +kernel,by decide +kernel⟩
theorem Pb:∀(a b:List Nat),a.length=b.length→HT.lexLt (zn a) (zn b)=Flags.before a b
 | [],[],_=>rfl
 | [],_::_,h=>by simp at h
 | _::_,[],h=>by simp at h
 | x::a,y::b,h=>by
  have ih:=Pb a b (by simpa using h)
  show HT.lexLt ((x:Int)::zn a) ((y:Int)::zn b)=(decide (x < y) || (x==y&&Flags.before a b))
  rw[HT.lexLt_cons]
  by_cases e:x=y
  ·subst e
   rw[if_pos rfl,ih]
   simp
  ·rw[if_neg (by omega),CA (show(x:Int) < y↔x < y by omega)]
   simp[e]
theorem VE (r e:List Nat):Hz (zn r) (zn e)=FK e r:=by
 unfold Hz FK
 rw[Dm,Dm]
 by_cases h:r.length=e.length
 ·rw[if_neg (fun q=>q h),Pb e r h.symm,decide_eq_false (by omega),GP]
  simp[h]
 ·rw[if_pos h]
  have:(e.length==r.length)=false:=beq_eq_false_iff_ne.mpr fun q=>h q.symm
  rw[this,Co,Bool.or_false]
abbrev Q3:Stmt:=Rv
def Sf (K:AA):Sp:=fun vs H Q _=>∃(a:Addr) (xs:List V),vs=[.ref a]∧(SqL K H a xs∨SqT K H a xs)∧∀t,H t=none→Q (.ref t) (upd H t (.tup [.int (xs.length:Nat),.ref a]))
theorem YW:AY ["row"] ["row"] (AK Q3):=⟨rfl,rfl,rfl,by decide +kernel,rfl,by decide +kernel,by decide +kernel⟩
section
variable {P:Program}{w:World}{K:AA}{mg:Str→Option Value}{base:Heap}
theorem ok_place {f:Addr}{fd:FuncData} (F:Fun K "place_in_order" "place_in_order" Q3 f fd) (B:Blt mg):FnOk P w K mg base CX0 1 f fd ["row"] (Sf K):=by
 refine F.ok YW (fun vs H Q E h=>?_) (fun cdv A outer s H vs Q E hr h=>?_)
 ·obtain⟨a,xs,rfl,_⟩:=h
  rfl
 ·obtain⟨a,xs,rfl,hA,k⟩:=h
  refine⟨_,AH (AL (Xi (AB (A1 Bq (by rfl) B.len Bf (AB (pv 0) AD)) (AB (pv 0) AD)))),?_⟩
  exact⟨_,rfl,a,xs,rfl,hA,_,rfl,(show 2≤sizeLine from CH (by decide)),fun t nt=>k t nt⟩
theorem ok_behind {f:Addr}{fd:FuncData} (F:Fun K "is_row_behind" "is_row_behind" Qi f fd) (g1:Has P w K mg "place_in_order" 1 ["row"] (Sf K)):FnOk P w K mg base CX0 2 f fd ["row","before"] (SH K):=by
 refine F.ok YG (fun vs H Q E h=>?_) (fun cdv A outer s H vs Q E hr h=>?_)
 ·obtain⟨a,b,ns,ms,rfl,_⟩:=h
  rfl
 ·obtain⟨a,b,ns,ms,rfl,hA,hB,k⟩:=h
  refine⟨_,AH (AL (Cw (XQ (O5 hr)) (AN g1 hr (by rfl) (AB (pv 0) AD)) (AN g1 hr (by rfl) (AB (pv 1) AD)) (AR _))),?_⟩
  refine⟨_,rfl,a,_,rfl,.inl hA,fun t nt=>?_⟩
  have s1:Same H (upd H t (.tup [.int ((ns.map V.int).length:Nat),.ref a])):=(Same.refl H).new nt
  have h1:upd H t (.tup [.int ((ns.map V.int).length:Nat),.ref a]) t=some (.tup [.int ((ns.map V.int).length:Nat),.ref a]):=AI
  generalize upd H t (.tup [.int ((ns.map V.int).length:Nat),.ref a])=H1 at s1 h1 ⊢
  refine⟨_,rfl,b,_,rfl,.inl (s1.seq hB),fun t2 nt2=>?_⟩
  have s2:Same H1 (upd H1 t2 (.tup [.int ((ms.map V.int).length:Nat),.ref b])):=(Same.refl H1).new nt2
  have h2:upd H1 t2 (.tup [.int ((ms.map V.int).length:Nat),.ref b]) t2=some (.tup [.int ((ms.map V.int).length:Nat),.ref b]):=AI
  generalize upd H1 t2 (.tup [.int ((ms.map V.int).length:Nat),.ref b])=H2 at s2 h2 ⊢
  refine⟨t,t2,_,_,a,b,ns,ms,rfl,rfl,s2 _ _ h1,h2,(s1.trans s2).seq hA,(s1.trans s2).seq hB,?_⟩
  have kk:=k H2 (s1.trans s2)
  unfold Hz at kk
  have e:(if ((((ns.map V.int).length:Nat):Int)≠(((ms.map V.int).length:Nat):Int)) then decide ((((ms.map V.int).length:Nat):Int) < (((ns.map V.int).length:Nat):Int)) else HT.lexLt ms ns)=(if ns.length≠ms.length then decide (ms.length < ns.length) else HT.lexLt ms ns):=by
   rw[AG,AG]
   by_cases q:ns.length=ms.length
   ·rw[if_neg (fun z=>z (by omega)),if_neg (fun z=>z q)]
   ·rw[if_pos (by omega),if_pos q]
    exact CA (by omega)
  rw[e]
  exact kk
end
end Fb
end
section
set_option maxRecDepth 100000
set_option maxHeartbeats 4000000
namespace Fb
open PySem PySem.Spec PyProof.Rows L2
def ef (ar am:Addr):List (Str×V):=[("row",.ref ar),("meaning",.ref am)]
def bfB (bn be bf:Addr):List (Str×V):=[("name",.ref bn),("entries",.ref be),("fault",.ref bf)]
theorem Vy {ar am:Addr}:(ef ar am).lookup ("row":Str)=some (.ref ar):=rfl
theorem Vx {ar am:Addr}:(ef ar am).lookup ("meaning":Str)=some (.ref am):=rfl
structure BA where
 bn:Addr
 be:Addr
 bf:Addr
theorem Gq {q:BA}:(bfB q.bn q.be q.bf).lookup ("entries":Str)=some (.ref q.be):=rfl
theorem Kd {q:BA}:(bfB q.bn q.be q.bf).lookup ("fault":Str)=some (.ref q.bf):=rfl
def EntAt (CE:Addr) (H:Hp) (a:Addr) (e:Aw):Prop:=∃(dx ar am:Addr),H a=some (.ins CE dx (ef ar am))∧H ar=some (.lst ((zn e.row).map V.int))∧H am=some (.lst ((zs e.says).map V.int))
structure BookAt (CB CE:Addr) (H:Hp) (b:Addr) (q:BA) (name:List Int) (entries:List Aw) (fault:List Int):Prop where
 ob:∃dx,H b=some (.ins CB dx (bfB q.bn q.be q.bf))
 nm:hid [q.be] H q.bn=some (.lst (name.map V.int))
 es:∃as:List Addr,H q.be=some (.lst (as.map V.ref))∧Paired (EntAt CE (hid [q.be] H)) as entries
 bf:hid [q.be] H q.bf=some (.lst (fault.map V.int))
theorem O1 {cs:List Addr}{H:Hp}:Same (hid cs H) H:=fun b o e=>by
 by_cases m:b∈cs
 ·rw[DC m] at e;cases e
 ·rw[Ax m] at e;exact e
theorem IZ {cs:List Addr}{H H':Hp} (s:Same H H'):Same (hid cs H) (hid cs H'):=fun b o e=>by
 by_cases m:b∈cs
 ·rw[DC m] at e;cases e
 ·rw[Ax m] at e ⊢;exact s b o e
theorem Ky {cs:List Addr}{H H':Hp} (s:SameN H H'):SameN (hid cs H) (hid cs H'):=fun b o e n=>by
 by_cases m:b∈cs
 ·rw[DC m] at e;cases e
 ·rw[Ax m] at e ⊢;exact s b o e n
theorem G2 {cs:List Addr}{H H':Hp} (s:SameT H H'):SameT (hid cs H) (hid cs H'):=fun b o e n=>by
 by_cases m:b∈cs
 ·rw[DC m] at e;cases e
 ·rw[Ax m] at e ⊢;exact s b o e n
theorem EntAt.mono {CE:Addr}{H H':Hp}{a:Addr}{e:Aw} (s:Same H H') (h:EntAt CE H a e):EntAt CE H' a e:=by
 obtain⟨dx,ar,am,h1,h2,h3⟩:=h
 exact⟨dx,ar,am,s _ _ h1,s _ _ h2,s _ _ h3⟩
theorem BookAt.mono {CB CE:Addr}{H H':Hp}{b:Addr}{q:BA}{name:List Int}{entries:List Aw}{fault:List Int} (s:Same H H') (h:BookAt CB CE H b q name entries fault):BookAt CB CE H' b q name entries fault:=by
 obtain⟨⟨dx,h1⟩,h2,⟨as,h3,h4⟩,h5⟩:=h
 exact⟨⟨dx,s _ _ h1⟩,IZ s _ _ h2,⟨as,s _ _ h3,Paired.mapP h4 fun a z q=>q.mono (IZ s)⟩,IZ s _ _ h5⟩
theorem BookAt.ents {CB CE:Addr}{H:Hp}{b:Addr}{q:BA}{name:List Int}{entries:List Aw}{fault:List Int} (h:BookAt CB CE H b q name entries fault):∃as:List Addr,H q.be=some (.lst (as.map V.ref))∧Paired (EntAt CE H) as entries:=by
 obtain⟨as,h3,h4⟩:=h.es
 exact⟨as,h3,Paired.mapP h4 fun a z q=>q.mono O1⟩
theorem BookAt.bf' {CB CE:Addr}{H:Hp}{b:Addr}{q:BA}{name:List Int}{entries:List Aw}{fault:List Int} (h:BookAt CB CE H b q name entries fault):H q.bf=some (.lst (fault.map V.int)):=O1 _ _ h.bf
theorem EntAt.monoN {CE:Addr}{H H':Hp}{a:Addr}{e:Aw} (s:SameN H H') (h:EntAt CE H a e):EntAt CE H' a e:=by
 obtain⟨dx,ar,am,h1,h2,h3⟩:=h
 exact⟨dx,ar,am,s _ _ h1 (fun _ q=>nomatch q),s _ _ h2 (fun _ q=>nomatch q),s _ _ h3 (fun _ q=>nomatch q)⟩
theorem BookAt.monoN {CB CE:Addr}{H H':Hp}{b:Addr}{q:BA}{name:List Int}{entries:List Aw}{fault:List Int} (s:SameN H H') (h:BookAt CB CE H b q name entries fault):BookAt CB CE H' b q name entries fault:=by
 obtain⟨⟨dx,h1⟩,h2,⟨as,h3,h4⟩,h5⟩:=h
 exact⟨⟨dx,s _ _ h1 (fun _ q=>nomatch q)⟩,Ky s _ _ h2 (fun _ q=>nomatch q),⟨as,s _ _ h3 (fun _ q=>nomatch q),Paired.mapP h4 fun a z q=>q.monoN (Ky s)⟩,Ky s _ _ h5 (fun _ q=>nomatch q)⟩
theorem BookAt.monoT {CB CE:Addr}{H H':Hp}{b:Addr}{q:BA}{name:List Int}{entries:List Aw}{fault:List Int} (s:SameT H H') (h:BookAt CB CE H b q name entries fault):BookAt CB CE H' b q name entries fault:=by
 obtain⟨⟨dx,h1⟩,h2,⟨as,h3,h4⟩,h5⟩:=h
 refine⟨⟨dx,s _ _ h1 (fun _ q=>nomatch q)⟩,G2 s _ _ h2 (fun _ q=>nomatch q),⟨as,s _ _ h3 (fun _ q=>nomatch q),Paired.mapP h4 fun a z q=>?_⟩,G2 s _ _ h5 (fun _ q=>nomatch q)⟩
 obtain⟨dx,ar,am,h1,h2,h3⟩:=q
 exact⟨dx,ar,am,G2 s _ _ h1 (fun _ q=>nomatch q),G2 s _ _ h2 (fun _ q=>nomatch q),G2 s _ _ h3 (fun _ q=>nomatch q)⟩
structure EntC (K:AA) (CE:Addr):Prop where
 cl:Cls K CE
 row:NoAttr K CE "row"
 meaning:NoAttr K CE "meaning"
structure BookC (K:AA) (CB:Addr):Prop where
 cl:Cls K CB
 name:NoAttr K CB "name"
 entries:NoAttr K CB "entries"
 fault:NoAttr K CB "fault"
abbrev Ql:Stmt:=Dh RK 0
def IT:List V→Option (List (Str×V))
 | [.ref r,.ref m]=>some (ef r m)
 | _=>none
theorem YJ:AY ["self","row","meaning"] ["self","row","meaning"] (AK Ql):=⟨rfl,rfl,rfl,by decide +kernel,rfl,by decide +kernel,by decide +kernel⟩
section
variable {P:Program}{w:World}{K:AA}{mg:Str→Option Value}{base:Heap}{CB CE CL CK:Addr}
theorem ok_entI {f:Addr}{fd:FuncData} (F:Fun K "__init__" "Entry.__init__" Ql f fd) (T:EntC K CE):FnOk P w K mg base CX0 1 f fd ["self","row","meaning"] (EB CE IT):=by
 have inv:∀us l,IT us=some l→∃r m,us=[.ref r,.ref m]∧l=ef r m:=by
  intro us l h
  unfold IT at h
  split at h
  ·cases h;exact⟨_,_,rfl,rfl⟩
  ·cases h
 refine F.ok YJ (fun vs H Q E h=>?_) (fun cdv A outer s H vs Q E hr h=>?_)
 ·obtain⟨p,dx,us,l,rfl,hf,_⟩:=h
  obtain⟨_,_,rfl,_⟩:=inv _ _ hf
  rfl
 ·obtain⟨p,dx,us,l,rfl,hf,hp,k⟩:=h
  obtain⟨r,m,rfl,rfl⟩:=inv _ _ hf
  refine⟨_,AJ (BU (pv 0) (pv 1) rfl) (AH (BU (pv 0) (pv 2) rfl)),?_⟩
  refine⟨_,rfl,_,rfl,p,CE,dx,[],rfl,hp,T.cl,T.row,(by show 0 < 1000;decide),?_⟩
  refine⟨_,rfl,_,rfl,p,CE,dx,_,rfl,AI,T.cl,T.meaning,(by show 1 < 1000;decide),?_⟩
  rw[FF]
  exact k _ AI fun b o e hb=>by rw[AE hb];exact e
end
abbrev Qj:Stmt:=Dh RJ 0
def SI (CB:Addr):Sp:=fun vs H Q _=>∃(a dx:Addr),vs=[.ref a]∧H a=some (.ins CB dx [])∧
 ∀(H':Hp) (q:BA),H' a=some (.ins CB dx (bfB q.bn q.be q.bf))→H' q.bn=some (.lst [])→H' q.be=some (.lst [])→H' q.bf=some (.lst [])→q.bn≠q.be→q.bf≠q.be→(∀b o,H b=some o→b≠a→H' b=some o)→(∀x∈[q.bn,q.be,q.bf],H x=none)→Q .non H'
theorem YH:AY ["self"] ["self"] (AK Qj):=⟨rfl,rfl,rfl,by decide +kernel,rfl,by decide +kernel,by decide +kernel⟩
section
variable {P:Program}{w:World}{K:AA}{mg:Str→Option Value}{base:Heap}{CB CE CL CK:Addr}
theorem ok_bookI {f:Addr}{fd:FuncData} (F:Fun K "__init__" "Book.__init__" Qj f fd) (T:BookC K CB):FnOk P w K mg base CX0 1 f fd ["self"] (SI CB):=by
 refine F.ok YH (fun vs H Q E h=>?_) (fun cdv A outer s H vs Q E hr h=>?_)
 ·obtain⟨a,dx,rfl,_⟩:=h
  rfl
 ·obtain⟨a,dx,rfl,ha,k⟩:=h
  refine⟨_,AJ (BU (pv 0) (A8 AD) rfl) (AJ (BU (pv 0) (A8 AD) rfl) (AH (BU (pv 0) (A8 AD) rfl))),?_⟩
  have step:∀{H1:Hp} {fs:List (Str×V)} {q:Addr} {o:HO} {fs':List (Str×V)},H1 a=some (.ins CB dx fs)→H1 q=none→a≠q∧(upd (upd H1 q o) a (.ins CB dx fs')) a=some (.ins CB dx fs')∧(upd (upd H1 q o) a (.ins CB dx fs')) q=some o∧
    (upd H1 q o) a=some (.ins CB dx fs)∧(∀b u,H1 b=some u→b≠a→(upd (upd H1 q o) a (.ins CB dx fs')) b=some u):=fun {H1 fs q o fs'} h1 h2=>by
   have ne:a≠q:=Am h1 h2
   refine⟨ne,AI,by rw[AE (An ne),AI],by rw[AE ne];exact h1,fun b u e n=>?_⟩
   rw[AE n,AE (Am e h2)]
   exact e
  refine⟨A5 _,fun q1 n1=>?_⟩
  obtain⟨ne1,a1,b1,i1,k1⟩:=step (fs':=[("name",.ref q1)]) (o:=.lst []) ha n1
  refine⟨_,rfl,a,CB,dx,_,rfl,i1,T.cl,T.name,(by show 0 < 1000;decide),?_⟩
  refine⟨A5 _,fun q2 n2=>?_⟩
  obtain⟨ne2,a2,b2,i2,k2⟩:=step (fs':=[("name",.ref q1),("entries",.ref q2)]) (o:=.lst []) a1 n2
  refine⟨_,rfl,a,CB,dx,_,rfl,i2,T.cl,T.entries,(by show 1 < 1000;decide),?_⟩
  refine⟨A5 _,fun q3 n3=>?_⟩
  obtain⟨ne3,a3,b3,i3,k3⟩:=step (fs':=bfB q1 q2 q3) (o:=.lst []) a2 n3
  refine⟨_,rfl,a,CB,dx,_,rfl,i3,T.cl,T.fault,(by show 2 < 1000;decide),?_⟩
  have c2:=k2 _ _ b1 (An ne1)
  have c3:=k3 _ _ c2 (An ne1)
  have d3:=k3 _ _ b2 (An ne2)
  have fr:∀{H1:Hp} {q:Addr},H1 q=none→(∀b u,H b=some u→b≠a→H1 b=some u)→a≠q→H q=none:=fun {H1 q} n k ne=>by
   cases z:H q with
   | none=>rfl
   | some u=>rw[k q u z (An ne)] at n;cases n
  refine k _ ⟨q1,q2,q3⟩ a3 c3 d3 b3 (Am b1 n2) (An (Am b2 n3)) (fun b u e n=>k3 _ _ (k2 _ _ (k1 _ _ e n) n) n) ?_
  intro x hx
  simp only[AS,Dc,or_false] at hx
  rcases hx with rfl | rfl | rfl
  ·exact n1
  ·exact fr n2 (fun b u e n=>k1 _ _ e n) ne2
  ·exact fr n3 (fun b u e n=>k2 _ _ (k1 _ _ e n) n) ne3
end
abbrev Q5:Stmt:=Rz
def DG (L:Ai) (past:List Aw) (r:List Nat):Nat:=if L.canShow r=false then 4 else if (past.getLast?.any fun (e:Aw)=>!FK e.row r)=true then 5 else if Flags.ENTRIES≤past.length then 6 else 0
def Si (K:AA) (CL CK CB CE:Addr):Sp:=fun vs H Q _=>∃(a b c:Addr) (p:LA) (q:BA) (L:Ai) (fl nm bfl:List Int) (past:List Aw) (r:List Nat),vs=[.ref a,.ref b,.ref c]∧LockAt CL CK H a p (zs L.name) (L.kinds.map zk) fl∧Wf L.kinds∧BookAt CB CE H b q nm past bfl∧
 SqL K H c ((zn r).map V.int)∧r.length < 1000∧(∀s∈r,L.isSignAt s=true)∧r≠[]∧past.length≤2048∧Pur H Q (.int (DG L past r:Nat))
theorem YY:AY ["locker","book","row"] ["locker","book","row"] (AK Q5):=⟨rfl,rfl,rfl,by decide +kernel,rfl,by decide +kernel,by decide +kernel⟩
section
variable {P:Program}{w:World}{K:AA}{mg:Str→Option Value}{base:Heap}{CB CE CL CK:Addr}
theorem ok_rowF {f:Addr}{fd:FuncData} (F:Fun K "row_fault" "row_fault" Q5 f fd) (B:Blt mg) (TB:BookC K CB) (TE:EntC K CE) (c1:Cst mg "NOT_SHOWN" (.int 4)) (c2:Cst mg "NOT_BEHIND" (.int 5)) (c3:Cst mg "TOO_MANY_ENTRIES" (.int 6)) (c4:Cst mg "MOST_ENTRIES" (.int 2048))
  (g1:Has P w K mg "can_show" 3 ["locker","signs"] (Sl K CL CK)) (g2:Has P w K mg "is_row_behind" 2 ["row","before"] (SH K)):FnOk P w K mg base CX0 4 f fd ["locker","book","row"] (Si K CL CK CB CE):=by
 refine F.ok YY (fun vs H Q E h=>?_) (fun cdv A outer s H vs Q E hr h=>?_)
 ·obtain⟨a,b,c,p,q,L,fl,nm,bfl,past,r,rfl,_⟩:=h
  rfl
 ·obtain⟨a,b,c,p,q,L,fl,nm,bfl,past,r,rfl,hL,hW,hB,hc,hlr,hin,hne,hpl,k⟩:=h
  have hr1:Room 1 _:=hr.mono (by decide)
  have hr2:Room 2 _:=hr.mono (by decide)
  unfold DG at k
  refine⟨_,AJ (Al (D8 (Cy (AN g1 hr (by rfl) (AB (pv 0) (AB (pv 2) AD))))) (AH (AL (AW c1 rfl))) Ap)
   (AJ (Al (PW.pt (Dl (Ac F1 (A1 Bq (by rfl) B.len Bf (AB (Ak (pv 1) rfl) AD)) AO (AR _))
     (Ec (D8 (Cy (AN g2 hr2 (by rfl) (AB (pv 2) (AB (Ak (Bm Bl (Ak (pv 1) rfl) (F5 GK AO) (fun _ _=>rfl)) rfl) AD)))))))) (AH (AL (AW c2 rfl))) Ap)
   (AJ (Al (Ac BY (A1 Bq (by rfl) B.len Bf (AB (Ak (pv 1) rfl) AD)) (AW c4 rfl) (AR _)) (AH (AL (AW c3 rfl))) Ap)
   (AH (AL AO)))),?_⟩
  refine⟨_,rfl,_,rfl,a,c,p,L,fl,r,rfl,hL,hW,hc,hlr,hin,hne,fun H1 s1=>⟨_,rfl,?_⟩⟩
  cases h1:L.canShow r with
  | false =>
   rw[if_pos h1] at k
   exact bT rfl (k H1 s1)
  | true =>
   rw[if_neg (by rw[h1];decide)] at k
   refine bF rfl ?_
   have hB1:=hB.mono s1
   obtain⟨dx,ho⟩:=hB1.ob
   obtain⟨as,he,hp⟩:=hB1.ents
   have hl:=CT hp
   refine⟨_,rfl,b,CB,dx,_,_,rfl,ho,TB.cl,TB.entries,Gq,q.be,_,rfl,.inl (SqL.of he),_,_,rfl,rfl,_,rfl,?_⟩
   have last:∀(H2:Hp),Same H1 H2→(past.getLast?.any fun (e:Aw)=>!FK e.row r)=false→ME (MC (MF (tOp rEq (tCB (fun xs H_1 Q=>∃p ys,xs=[V.ref p]∧(SqL K H_1 p ys∨SqT K H_1 p ys)∧Q (V.int ys.length) H_1) (GI (MB K (Ee 1) "entries") FC)) (tC (V.int 2048)))) (HR (tC (V.int 6))) MD) (HR (tC (V.int 0)))
     { nx:=fun x H'=>Q V.non H',rt:=Q } (L2.start ["locker","book","row"] [V.ref a,V.ref b,V.ref c]) H2:=fun H2 s2 hn=>by
    rw[hn,if_neg Ag] at k
    refine⟨_,rfl,b,CB,dx,_,_,rfl,s2 _ _ ho,TB.cl,TB.entries,Gq,q.be,_,rfl,.inl (SqL.of (s2 _ _ he)),rfl,_,rfl,?_⟩
    by_cases h6:Flags.ENTRIES≤past.length
    ·rw[if_pos h6] at k
     have h6:2048≤past.length:=h6
     exact bT (decide_eq_true (congrArg V.int (by rw[AG,hl];omega))) (k H2 (s1.trans s2))
    ·rw[if_neg h6] at k
     have h6:¬2048≤past.length:=h6
     exact bF (decide_eq_false (BK (by rw[AG,hl];omega))) (k H2 (s1.trans s2))
   cases hlast:past.getLast? with
   | none =>
    have:past=[]:=Ml.mp hlast
    subst this
    have:as=[]:=by cases as with | nil=>rfl | cons _ _=>simp at hl
    subst this
    exact bF rfl (bF rfl (last H1 (Same.refl H1) rfl))
   | some e =>
    obtain⟨r',e'⟩:=K5 hlast
    subst e'
    rw[BO,C7] at hl
    obtain⟨asR,aQ,rfl⟩:∃asR aQ,as=asR++[aQ]:=by
     have ne:as≠[]:=by intro q;rw[q] at hl;simp at hl
     exact⟨as.dropLast,as.getLast ne,(JY ne).symm⟩
    have hlR:asR.length=r'.length:=by rw[BO,C7] at hl;omega
    obtain⟨aq',e1,dq,ar,am,hq,har,ham⟩:=DE hp (i:=r'.length) (b:=e) (by simp)
    rw[He (by omega),hlR,Ju] at e1
    cases e1
    refine bT (decide_eq_true (by rw[AG,BO,C7];omega)) ?_
    refine⟨_,rfl,_,rfl,b,CB,dx,_,_,rfl,ho,TB.cl,TB.entries,Gq,_,rfl,q.be,_,_,_,rfl,rfl,SqL.of he,by rw[CU];exact Kc _ _,_,CE,dq,_,_,rfl,hq,TE.cl,TE.row,Vy,c,ar,zn r,zn e.row,rfl,s1.seq hc,SqL.of har,fun H2 s2=>⟨_,rfl,?_⟩⟩
    rw[VE]
    have elast:((r'++[e]).getLast?.any fun (e:Aw)=>!FK e.row r)=!FK e.row r:=by rw[hlast];rfl
    cases hbf:FK e.row r with
    | false =>
     rw[elast,hbf,if_pos (show(!false)=true from rfl)] at k
     exact bT rfl (k H2 (s1.trans s2))
    | true=>exact bF rfl (last H2 s2 (by rw[elast,hbf];rfl))
end
end Fb
end
section
set_option maxRecDepth 100000
set_option maxHeartbeats 4000000
namespace Fb
open PySem PySem.Spec PyProof.Rows L2
theorem S4 (n:Ah):∀(ks:List AM) (i:Nat),Aq (Bn i (ks.map zk)) (A0 (zs n))=(ks.findIdx? fun k=>k.role==.sign n).map fun j=>V.int ((i+j:Nat):Int)
 | [],i=>rfl
 | k::ks,i=>by
  have ih:=S4 n ks (i+1)
  rw[Au,GD,List.findIdx?_cons]
  have el:(zk k).lab=zl k.role:=rfl
  rw[el]
  have step:∀r:Option Nat,((r.map fun j=>j+1).map fun j=>V.int ((i+j:Nat):Int))=r.map fun j=>V.int ((i+1+j:Nat):Int):=fun r=>by
   cases r with
   | none=>rfl
   | some j=>show some (V.int ((i+(j+1):Nat):Int))=some (V.int ((i+1+j:Nat):Int));rw[show i+(j+1)=i+1+j by omega]
  cases hr:k.role with
  | sign m =>
   by_cases e:m=n
   ·subst e
    rw[show((FJ m==FJ m)=true) from beq_self_eq_true _,if_pos rfl]
    show Aq ((A0 (zs m),V.int ((i:Nat):Int))::Bn (i+1) (ks.map zk)) (A0 (zs m))=_
    rw[Ce rfl]
    rfl
   ·have ne:(FJ m==FJ n)=false:=beq_eq_false_iff_ne.mpr fun q=>e (by injection q)
    rw[ne,if_neg Ag,step,← ih]
    show Aq ((A0 (zs m),V.int ((i:Nat):Int))::Bn (i+1) (ks.map zk)) (A0 (zs n))=_
    exact Cd (p:=(A0 (zs m),V.int ((i:Nat):Int))) fun q=>e (DU (K1 q))
  | same m =>
   have ne:(FI.same m==FJ n)=false:=beq_eq_false_iff_ne.mpr fun q=>nomatch q
   rw[ne,if_neg Ag,step,← ih]
   rfl
  | answer =>
   have ne:(FI.answer==FJ n)=false:=beq_eq_false_iff_ne.mpr fun q=>nomatch q
   rw[ne,if_neg Ag,step,← ih]
   rfl
theorem Zg (L:Ai) (n:Ah):Aq (Bn 0 (L.kinds.map zk)) (A0 (zs n))=(L.find n).map fun (j:Nat)=>V.int (j:Int):=by
 rw[S4]
 unfold MT
 cases L.kinds.findIdx? fun k=>k.role==.sign n with
 | none=>rfl
 | some j=>show some (V.int ((0+j:Nat):Int))=some (V.int (j:Int));rw[EG]
theorem VJ:bootBuiltins "tuple"=some (.type "tuple"):=by decide +kernel
theorem VO {X:Cx} (K:AA) (hK:X.K=K):Dy X (.type "tuple") (fun xs H Q=>∃p ys,xs=[V.ref p]∧SqL K H p ys∧∀l,H l=none→Q (.ref l) (upd H l (.tup ys))):=by
 subst hK
 intro pins s σ H xs us Q I r h
 obtain⟨p,ys,e,h1,h2⟩:=h
 exact N0 pins s σ H xs us Q I r ⟨p,ys,e,.inl ⟨h1,h2⟩⟩
theorem QY {L:Ai}:∀{ns:List Ah}{r:List Nat},L.rowIn ns=some r→(ns.all fun n=>(L.find n).isSome)=true∧r=ns.map (fun n=>(L.find n).getD 0)∧∀s∈r,s < L.kinds.length
 | [],r,h=>by
  simp[FH] at h
  subst h
  exact⟨rfl,rfl,fun s hs=>by cases hs⟩
 | n::ns,r,h=>by
  unfold FH at h
  rw[GX] at h
  rw[GU,Au]
  cases hf:L.find n with
  | none=>rw[hf] at h;cases h
  | some i =>
   rw[hf] at h
   cases hr:Hf L.find ns with
   | none=>rw[hr] at h;cases h
   | some r' =>
    rw[hr] at h
    have h:some (i::r')=some r:=h
    cases h
    obtain⟨h1,h2,h3⟩:=QY (L:=L) (ns:=ns) (r:=r') hr
    refine⟨by rw[h1];rfl,by rw[← h2];rfl,fun s hs=>?_⟩
    rcases AS.mp hs with e | hs
    ·subst e
     unfold MT at hf
     exact(Me.mp hf).1
    ·exact h3 s hs
theorem QX {L:Ai}:∀{ns:List Ah}{r:List Nat},L.rowIn ns=some r→∀s∈r,L.isSignAt s=true
 | [],r,h,s,hs=>by
  simp[FH] at h
  subst h
  cases hs
 | n::ns,r,h,s,hs=>by
  unfold FH at h
  rw[GX] at h
  cases hf:L.find n with
  | none=>rw[hf] at h;cases h
  | some i =>
   rw[hf] at h
   cases hr:Hf L.find ns with
   | none=>rw[hr] at h;cases h
   | some r' =>
    rw[hr] at h
    have h:some (i::r')=some r:=h
    cases h
    rcases AS.mp hs with e | hs
    ·subst e
     unfold MT at hf
     obtain⟨h1,h2,_⟩:=Me.mp hf
     unfold Ai.isSignAt
     rw[BD h1]
     show Dq _=true
     unfold Dq
     rw[eq_of_beq h2]
    ·exact QX (L:=L) (ns:=ns) (r:=r') hr s hs
theorem Vz (L:Ai) (past:List Aw) (names:List Ah) {r:List Nat} (h:L.rowIn names=some r):L.entryRow past names=if DG L past r=0 then .ok r else .error (DG L past r):=by
 unfold MS DG
 rw[h]
 dsimp only
 split
 ·rfl
 ·split
  ·rfl
  ·split
   ·rfl
   ·rfl
theorem Kz {z:Addr}{H:Hp}{o:HO}:hid [z] (upd H z o)=hid [z] H:=by
 funext b
 by_cases m:b∈[z]
 ·rw[DC m,DC m]
 ·rw[Ax m,Ax m,AE fun q=>m (by simp[q])]
theorem YB {L:Ai}{past:List Aw}{r:List Nat} (h:DG L past r=0):past.length < 2048:=by
 unfold DG at h
 split at h
 ·cases h
 ·split at h
  ·cases h
  ·split at h
   ·cases h
   ·rename_i q
    have q:¬2048≤past.length:=q
    omega
abbrev Lm:Stmt:=R3
def C0 (L:Ai) (n:Ah):V:=match L.find n with
 | some j=>.int (j:Nat)
 | none=>.non
def HN (L:Ai) (b:Ah):List V:=(Bo 46 b).map (C0 L)
theorem Ym (L:Ai) (n:Ah):(Aq (Bn 0 (L.kinds.map zk)) (A0 (zs n))).getD .non=C0 L n:=by
 rw[Zg]
 unfold C0
 cases L.find n <;> rfl
theorem Yn (L:Ai) (b:Ah):(HN L b).all CQ=true:=by
 unfold HN
 rw[FN,Cg]
 intro n _
 show CQ (C0 L n)=true
 unfold C0
 cases L.find n <;> rfl
theorem SD {L:Ai}:∀{ns:List Ah},inV .non (ns.map (C0 L))=(L.rowIn ns).isNone
 | []=>rfl
 | n::ns=>by
  have ih:=SD (L:=L) (ns:=ns)
  show(eqV (C0 L n) .non || inV .non (ns.map (C0 L)))=_
  rw[ih]
  unfold FH C0
  rw[GX]
  cases hf:L.find n with
  | none=>rfl
  | some i =>
   show(false || (Hf L.find ns).isNone)=_
   rw[GP]
   cases hr:Hf L.find ns with
   | none=>rfl
   | some r=>rfl
theorem SE {L:Ai}:∀{ns:List Ah}{r:List Nat},L.rowIn ns=some r→ns.map (C0 L)=(zn r).map V.int
 | [],r,h=>by
  simp[FH] at h
  subst h
  rfl
 | n::ns,r,h=>by
  unfold FH at h
  rw[GX] at h
  cases hf:L.find n with
  | none=>rw[hf] at h;cases h
  | some i =>
   rw[hf] at h
   cases hr:Hf L.find ns with
   | none=>rw[hr] at h;cases h
   | some r' =>
    rw[hr] at h
    have h:some (i::r')=some r:=h
    cases h
    have e:C0 L n=V.int (i:Nat):=by unfold C0;rw[hf]
    rw[Au,SE (L:=L) (ns:=ns) (r:=r') hr,e]
    rfl
def Sm (K:AA) (CL CK:Addr):Sp:=fun vs H Q _=>∃(a c:Addr) (p:LA) (L:Ai) (fl:List Int) (b:Ah),vs=[.ref a,.ref c]∧LockAt CL CK H a p (zs L.name) (L.kinds.map zk) fl∧SqL K H c ((zs b).map V.int)∧b.length < 100000∧
 ∀(H':Hp) (x:Addr),Same H H'→H x=none→H' x=some (.lst (HN L b))→Q (.ref x) H'
theorem scSigns:AY ["locker","word","name"] ["locker","word"] (AK Lm):=⟨rfl,rfl,rfl,by decide +kernel,rfl,by decide +kernel,by decide +kernel⟩
section
variable {P:Program}{w:World}{K:AA}{mg:Str→Option Value}{base:Heap}{CB CE CL CK:Addr}
theorem ok_signs {f:Addr}{fd:FuncData} (F:Fun K "signs_told" "signs_told" Lm f fd) (B:Blt mg) (TL:LockC K CL) (c1:Cst mg "FULL_STOP" (.int 46)) (g1:Has P w K mg "split_at" 1 ["mark","values"] (EC K)):FnOk P w K mg base CX0 2 f fd ["locker","word"] (Sm K CL CK):=by
 refine F.ok scSigns (fun vs H Q E h=>?_) (fun cdv A outer s H vs Q E hr h=>?_)
 ·obtain⟨a,c,p,L,fl,b,rfl,_⟩:=h
  rfl
 ·obtain⟨a,c,p,L,fl,b,rfl,hL,hS,hlen,k⟩:=h
  have hu:=E1 hr
  have zl:(zs b).length < 100000:=by rw[Av];exact hlen
  refine⟨_,AH (AL (Dk (own:=[("name",2)]) rfl scSigns.nd (D7 (AN g1 hr (by rfl) (AB (AW c1 rfl) (AB (pv 1) AD)))) (Df (N:=["locker","word","name"]) (sc:=AK Lm) (by decide +kernel))
    (fun s H C cl fp=>Bs (i:=2) scSigns.nd rfl (AZ rfl)) (fun s H C cl fp=>D9) (fun s H C cl fp=>Xa hu (E8 K rfl (pv 0) rfl) (QE (VO K rfl) (by rfl) B.tuple VJ (AB (pv 2) AD)) ⟨rfl,rfl,rfl,rfl⟩))),?_⟩
  refine⟨_,rfl,c,46,zs b,rfl,hS,zl,fun H2 pn an s2 npn nan hpn hpan=>?_⟩
  rw[IF] at hpan
  have hal:=CT hpan
  rw[AG] at hal
  obtain⟨hb46,_⟩:=Pr b
  refine⟨pn,rfl,⟨_,SqL.of hpn⟩,fun D hD=>?_⟩
  have L2:=hL.mono s2
  obtain⟨dxL,hoL⟩:=L2.ob
  unfold HN at k
  generalize Bo 46 b=names at hpan hal hb46 k
  refine K6 (n:=(an.map V.ref).length) (tt:=FD) (fun i H'=>Same H2 H'∧H' D=some (.lst ((names.take i).map (C0 L)))) ⟨(Same.refl H2).new hD,AI⟩
   (fun i H' hi p=>E3 (SqL.of (p.1 _ _ hpn)) hi) (fun H' p=>E4 (SqL.of (p.1 _ _ hpn))) ?_ ?_
  ·rintro i y H3 H3' hi ⟨sH,hDH⟩ ⟨rfl,hy⟩
   have hy:=hy _ (SqL.of (sH _ _ hpn))
   rw[AG] at hi
   obtain⟨nm',hnm⟩:∃nm',names[i]?=some nm':=⟨_,BD (by omega)⟩
   obtain⟨cc,hc,hcc⟩:=DE hpan (i:=i) (b:=zs nm') (by rw[Aj,hnm];rfl)
   rw[Aj,hc] at hy
   have ey:V.ref cc=y:=Ae hy
   subst ey
   refine⟨rfl,?_⟩
   simp only[FD,if_true]
   refine⟨_,rfl,a,CL,dxL,_,_,rfl,sH _ _ hoL,TL.cl,TL.signs,G7,p.sg,rfl,.inr ⟨_,Rd.of (sH _ _ L2.sg)⟩,_,rfl,cc,_,rfl,SqL.of (sH _ _ hcc),fun tp ntp=>?_⟩
   have nDtp:D≠tp:=Am hDH ntp
   have s3:Same H3' (upd H3' tp (.tup ((zs nm').map V.int))):=(Same.refl _).new ntp
   have ht:upd H3' tp (.tup ((zs nm').map V.int)) tp=some (.tup ((A0 (zs nm')).map kV)):=by rw[K0];exact AI
   refine⟨_,DGet.t (k:=A0 (zs nm')) (s3 _ _ (sH _ _ L2.sg)) ht,?_⟩
   rw[Ym]
   refine⟨_,s3 _ _ hDH,Br (by rw[AG,EE];omega),(sH.trans s3).wr hD,?_⟩
   rw[AI,MG hnm,CU]
   rfl
  ·rintro H3 ⟨s3,hD3⟩
   rw[AG,Tu (show names.length≤an.length by omega)] at hD3
   exact k H3 D (s2.trans s3) (s2.free hD) hD3
end
abbrev RE:Stmt:=R6
def So (K:AA) (CL CK CB CE:Addr):Sp:=fun vs H Q _=>∃(a b la:Addr) (p:LA) (q:BA) (L:Ai) (fl nm bfl:List Int) (past:List Aw) (ln:Ah),vs=[.ref a,.ref b,.ref la]∧LockAt CL CK H a p (zs L.name) (L.kinds.map zk) fl∧Wf L.kinds∧BookAt CB CE H b q nm past bfl∧
 past.length≤2048∧SqL K H la ((zs ln).map V.int)∧ln.length < 100000∧
 (∀k,CI L past ln=.error k→∀H',Same H H'→Q (.int k) H')∧
 (∀past',CI L past ln=.ok past'→∀H',BookAt CB CE H' b q nm past' bfl→past'.length≤2048→KeepBut [q.be] H H'→Q (.int 0) H')
theorem scTakeE:AY ["locker","book","line","row","fault"] ["locker","book","line"] (AK RE):=⟨rfl,rfl,rfl,by decide +kernel,rfl,by decide +kernel,by decide +kernel⟩
section
variable {P:Program}{w:World}{K:AA}{mg:Str→Option Value}{base:Heap}{CB CE CL CK:Addr}
theorem ok_takeE {f:Addr}{fd:FuncData} (F:Fun K "take_entry" "take_entry" RE f fd) (TB:BookC K CB) (c1:Cst mg "NO_SUCH_LINE" (.int 1)) (c2:Cst mg "NO_SIGN" (.int 3)) (g1:Has P w K mg "is_entry_line" 4 ["line"] (SM K)) (g2:Has P w K mg "row_word" 2 ["line"] (JL K)) (g6:Has P w K mg "signs_told" 2 ["locker","word"] (Sm K CL CK))
  (g3:Has P w K mg "row_fault" 4 ["locker","book","row"] (Si K CL CK CB CE)) (g4:EM P w K mg "Entry" CE 1 ["self","row","meaning"] (EB CE IT)) (g5:Has P w K mg "meaning_told" 3 ["line"] (Lx K)):FnOk P w K mg base CX0 5 f fd ["locker","book","line"] (So K CL CK CB CE):=by
 refine F.ok scTakeE (fun vs H Q E h=>?_) (fun cdv A outer s H vs Q E hr h=>?_)
 ·obtain⟨a,b,la,p,q,L,fl,nm,bfl,past,ln,rfl,_⟩:=h
  rfl
 ·obtain⟨a,b,la,p,q,L,fl,nm,bfl,past,ln,rfl,hL,hW,hB,hpl,hS,hlen,ke,ko⟩:=h
  have hr2:Room 2 _:=hr.mono (by decide)
  have hr3:Room 3 _:=hr.mono (by decide)
  have hu:=E1 hr
  have zl:(zs ln).length < 100000:=by rw[Av];exact hlen
  refine⟨_,AJ (Al (D8 (Cy (AN g1 hr (by rfl) (AB (pv 2) AD)))) (AH (AL (AW c1 rfl))) Ap)
   (AJ (BB (i:=3) scTakeE.nd rfl (AZ rfl) (AN g6 hr2 (by rfl) (AB (pv 0) (AB (AN g2 hr2 (by rfl) (AB (pv 2) AD)) AD))))
   (AJ (Al (Ac P9 Cj (pv 3) (by rfl)) (AH (AL (AW c2 rfl))) Ap)
   (AJ (BB (i:=4) scTakeE.nd rfl (AZ rfl) (AN g3 hr (by rfl) (AB (pv 0) (AB (pv 1) (AB (pv 3) AD)))))
   (AJ (Al (Ac BY (pv 4) AO (AR _)) (AH (E9 (EZ Em Ge Gf Fy (Ak (pv 1) rfl) (AB (F3 g4 hr2 (by rfl) (AB (pv 3) (AB (AN g5 hr3 (by rfl) (AB (pv 2) AD)) AD))) AD)))) Ap)
   (AH (AL (pv 4))))))),?_⟩
  refine⟨_,rfl,la,ln,rfl,hS,hlen,fun H1 s1=>⟨_,rfl,?_⟩⟩
  have hent:=V0 ln
  cases hok:EN ln with
  | false =>
   rw[hok,if_neg Ag] at hent
   exact bT rfl (ke 1 (by unfold CI;rw[hent]) H1 s1)
  | true =>
  rw[hok,if_pos rfl] at hent
  refine bF rfl ?_
  have hn8:(Bo 46 (Bx ln)).length≤8:=by
   unfold EN at hok
   rw[BI,BI] at hok
   exact of_decide_eq_true hok.1.1
  refine⟨_,rfl,_,rfl,la,zs ln,rfl,s1.seq hS,zl,fun H2 pw s2 npw hpw=>?_⟩
  rw[IY] at hpw
  have:=Of ln
  have s12:=s1.trans s2
  refine⟨a,pw,p,L,fl,Bx ln,rfl,hL.mono s12,SqL.of hpw,by omega,fun H4 D3 s4 hD3 hd4=>?_⟩
  have s14:=s12.trans s4
  have hsf:=Yn L (Bx ln)
  unfold HN at hd4 hsf
  generalize hnames:Bo 46 (Bx ln)=names at hent hn8 hd4 hsf
  refine⟨_,rfl,D3,_,rfl,.inl (SqL.of hd4),rfl,hsf,_,rfl,?_⟩
  rw[if_neg Ag,SD]
  cases hrow:L.rowIn names with
  | none =>
   refine bT rfl ?_
   refine ke 3 ?_ H4 s14
   unfold CI
   rw[hent]
   dsimp only
   unfold MS
   rw[hrow]
  | some r =>
   obtain⟨ra,rm,rlt⟩:=QY hrow
   have hrl:r.length=names.length:=by rw[rm,AG]
   refine bF rfl ?_
   rw[SE hrow] at hd4
   refine⟨_,rfl,_,rfl,_,rfl,a,b,D3,p,q,L,fl,nm,bfl,past,r,rfl,hL.mono s14,hW,hB.mono s14,SqL.of hd4,by omega,QX hrow,(fun z=>Dz 46 (Bx ln) (by rw[hnames];rw[z] at hrl;exact Je.mp hrl.symm)),hpl,fun H6 s6=>?_⟩
   have s16:=s14.trans s6
   have hrow2:=Vz L past names hrow
   have hstep:CI L past ln=if DG L past r=0 then .ok (past++[⟨r,C1 ln⟩]) else .error (DG L past r):=by
    unfold CI
    rw[hent]
    dsimp only
    rw[hrow2]
    by_cases z:DG L past r=0
    ·rw[if_pos z,if_pos z]
    ·rw[if_neg z,if_neg z]
   refine⟨_,rfl,rfl,_,rfl,?_⟩
   by_cases h0:DG L past r=0
   ·rw[if_pos h0] at hstep
    refine bT (decide_eq_true (by rw[h0];rfl)) ?_
    have B6:=hB.mono s16
    obtain⟨dxB,hoB⟩:=B6.ob
    obtain⟨as,hbe,hpe⟩:=B6.es
    have hael:=CT hpe
    have nD3:D3≠q.be:=fun z=>by
     obtain⟨as4,h4,_⟩:=(hB.mono s12).es
     rw[z,h4] at hD3;cases hD3
    refine⟨_,rfl,b,CB,dxB,_,_,rfl,hoB,TB.cl,TB.entries,Gq,.inl ⟨rfl,_,SqL.of hbe⟩,?_⟩
    refine⟨_,rfl,_,rfl,la,zs ln,rfl,s16.seq hS,zl,fun H7 pm s7 npm hpm=>?_⟩
    rw[Pp] at hpm
    have npmq:pm≠q.be:=fun z=>by rw[z,hbe] at npm;cases npm
    intro x dx nx nd0 ne0
    refine⟨x,dx,[.ref D3,.ref pm],ef D3 pm,rfl,rfl,AI,fun H8 hx kp8=>⟨rfl,?_⟩⟩
    have s8:Same H7 H8:=Same.made nx nd0 kp8
    have s68:=s7.trans s8
    have nxq:x≠q.be:=fun z=>by rw[z,s7 _ _ hbe] at nx;cases nx
    have hbe8:=s68 _ _ hbe
    refine⟨q.be,_,_,rfl,rfl,hbe8,Br (by rw[AG];omega),?_⟩
    have h0':(0:Int)=((DG L past r:Nat):Int):=by rw[h0];rfl
    refine⟨_,rfl,?_⟩
    rw[← h0']
    have nbq:b≠q.be:=Bb hoB hbe (by intro z;cases z)
    have B8:=B6.mono s68
    refine ko _ hstep _ ⟨⟨dxB,by rw[AE nbq];exact s68 _ _ hoB⟩,by rw[Kz];exact B8.nm,⟨as++[x],by rw[AI,CU];rfl,?_⟩,by rw[Kz];exact B8.bf⟩ (by rw[BO];have:=YB h0;simp;omega) ?_
    ·rw[Kz]
     refine HG (Paired.mapP hpe fun y e qq=>qq.mono (IZ s68)) ⟨dx,D3,pm,?_,?_,?_⟩
     ·rw[Ax (by simpa using nxq)];exact hx
     ·rw[Ax (by simpa using nD3)];exact s68 _ _ (s6 _ _ hd4)
     ·rw[Ax (by simpa using npmq)];exact s8 _ _ hpm
    ·intro y o e n
     rw[AE fun z=>n (by simp[z])]
     exact s68 _ _ (s16 _ _ e)
   ·rw[if_neg h0] at hstep
    refine bF (decide_eq_false (BK (by omega))) ?_
    exact⟨_,rfl,ke _ hstep H6 s16⟩
end
end Fb
end
section
set_option maxRecDepth 100000
set_option maxHeartbeats 4000000
namespace Fb
open PySem PySem.Spec PyProof.Rows L2
theorem Vt:BJ "book"=zs (Ay "book"):=by decide +kernel
theorem Vu:BJ "for"=zs (Ay "for"):=by decide +kernel
abbrev RD:Stmt:=R7
def Nj (q q':BA):Prop:=q'.be=q.be∧q'.bf=q.bf
def JM (K:AA) (CL CK CB CE:Addr):Sp:=fun vs H Q _=>∃(a b la:Addr) (p:LA) (q:BA) (L:Ai) (fl bfl:List Int) (st:BS) (i:Nat) (ln:Ah),vs=[.ref a,.ref b,.int (i:Nat),.ref la]∧LockAt CL CK H a p (zs L.name) (L.kinds.map zk) fl∧Wf L.kinds∧
 BookAt CB CE H b q (zs st.name) st.entries bfl∧st.entries.length≤2048∧SqL K H la ((zs ln).map V.int)∧ln.length < 100000∧
 (∀k,BH L st i ln=.error k→∀H',Same H H'→Q (.int k) H')∧
 (∀st',BH L st i ln=.ok st'→∀H' q',BookAt CB CE H' b q' (zs st'.name) st'.entries bfl→Nj q q'→st'.entries.length≤2048→KeepBut [b,q.be] H H'→Q (.int 0) H')
theorem Yd:AY ["locker","book","number","line"] ["locker","book","number","line"] (AK RD):=⟨rfl,rfl,rfl,by decide +kernel,rfl,by decide +kernel,by decide +kernel⟩
section
variable {P:Program}{w:World}{K:AA}{mg:Str→Option Value}{base:Heap}{CB CE CL CK:Addr}
theorem ok_takeB {f:Addr}{fd:FuncData} (F:Fun K "take_line" "take_line" RD f fd) (hne:CB≠CE) (TL:LockC K CL) (TB:BookC K CB) (c1:Cst mg "NO_SUCH_LINE" (.int 1)) (c2:Cst mg "OTHER_LOCKER" (.int 2)) (c3:Cst mg "HEAD_LINES" (.int 2)) (g1:Has P w K mg "is_naming_line" 3 ["line","first"] (Lz K)) (g2:Has P w K mg "named" 2 ["line"] (Ly K))
  (g3:Has P w K mg "take_entry" 5 ["locker","book","line"] (So K CL CK CB CE)):FnOk P w K mg base CX0 6 f fd ["locker","book","number","line"] (JM K CL CK CB CE):=by
 refine F.ok Yd (fun vs H Q E h=>?_) (fun cdv A outer s H vs Q E hr h=>?_)
 ·obtain⟨a,b,la,p,q,L,fl,bfl,st,i,ln,rfl,_⟩:=h
  rfl
 ·obtain⟨a,b,la,p,q,L,fl,bfl,st,i,ln,rfl,hL,hW,hB,hpl,hS,hlen,ke,ko⟩:=h
  have hr2:Room 2 _:=hr.mono (by decide)
  have hr3:Room 3 _:=hr.mono (by decide)
  have zl:(zs ln).length < 100000:=by rw[Av];exact hlen
  refine⟨_,AJ (Al (Ac XO (pv 2) (AW c3 rfl) (AR _)) (AH (AL (AN g3 hr (by rfl) (AB (pv 0) (AB (pv 1) (AB (pv 3) AD)))))) Ap)
   (AJ (Al (D8 (Cy (AN g1 hr3 (by rfl) (AB (pv 3) (AB (LX (Ac BY (pv 2) AO (AR _)) DT DT) AD))))) (AH (AL (AW c1 rfl))) Ap)
   (AJ (Al (Ac BY (pv 2) AO (AR _)) (AH (BU (pv 1) (AN g2 hr2 (by rfl) (AB (pv 3) AD)) rfl))
    (AH (Al (Ac (HE hr.units) (AN g2 hr2 (by rfl) (AB (pv 3) AD)) (Ak (pv 0) rfl) (AR _)) (AH (AL (AW c2 rfl))) Ap)))
   (AH (AL AO)))),?_⟩
  refine⟨_,rfl,_,_,rfl,rfl,_,rfl,?_⟩
  by_cases h2:2≤i
  ·have hstep:BH L st i ln=(CI L st.entries ln).map fun l=>⟨st.name,l⟩:=by
    unfold BH
    rw[if_pos h2]
   refine bT (decide_eq_true (by omega)) ?_
   refine⟨_,rfl,_,rfl,_,rfl,a,b,la,p,q,L,fl,_,bfl,st.entries,ln,rfl,hL,hW,hB,hpl,hS,hlen,fun k hk H' s'=>?_,fun past' hp H' hB' hl' kb=>?_⟩
   ·exact ke k (by rw[hstep,hk];rfl) H' s'
   ·exact ko ⟨st.name,past'⟩ (by rw[hstep,hp];rfl) H' q hB' ⟨rfl,rfl⟩ hl' (kb.mono fun y hy=>As _ hy)
  ·refine bF (decide_eq_false (by omega)) ?_
   by_cases h0:i=0
   ·subst h0
    have hstep:BH L st 0 ln=match Bt (Ay "book") ln with
      | none=>.error 1
      | some n=>.ok ⟨n,st.entries⟩:=by
     unfold BH
     rw[if_neg (by omega),if_pos rfl]
     try rfl
    refine⟨_,rfl,_,rfl,rfl,_,rfl,bT (decide_eq_true rfl) ?_⟩
    refine⟨la,zs ln,"book",rfl,hS,zl,by decide,fun H1 s1=>⟨_,rfl,?_⟩⟩
    rw[LG,Vt]
    cases hn:Bt (Ay "book") ln with
    | none =>
     rw[hn] at hstep
     rw[LH hn]
     exact bT rfl (ke 1 hstep H1 s1)
    | some n =>
     rw[hn] at hstep
     obtain⟨q1,q2⟩:=LI hn
     rw[q1]
     refine bF rfl ?_
     refine⟨_,rfl,rfl,_,rfl,bT (decide_eq_true rfl) ?_⟩
     refine⟨_,rfl,la,zs ln,zs n,rfl,s1.seq hS,zl,q2,fun H2 z s2 nz hz=>?_⟩
     have s12:=s1.trans s2
     have B2:=hB.mono s12
     obtain⟨dx,ho⟩:=B2.ob
     obtain⟨as,hbe,hpe⟩:=B2.es
     refine⟨_,rfl,b,CB,dx,_,rfl,ho,TB.cl,TB.name,(by show 3 < 1000;decide),?_⟩
     have nzq:z≠q.be:=fun e=>by
      obtain⟨as1,h1,_⟩:=(hB.mono s1).es
      rw[e,h1] at nz;cases nz
     have nb:∀{x:Addr} {o:HO},H2 x=some o→(∀dx fs,o≠.ins CB dx fs)→x≠b:=fun e n=>Bb e ho (n _ _)
     have k1:∀x o,H2 x=some o→x≠b→upd H2 b (.ins CB dx (A9 "name" (V.ref z) (bfB q.bn q.be q.bf))) x=some o:=fun x o e n=>by rw[AE n];exact e
     have kh:∀x o,hid [q.be] H2 x=some o→(∀dx fs,o≠.ins CB dx fs)→hid [q.be] (upd H2 b (.ins CB dx (A9 "name" (V.ref z) (bfB q.bn q.be q.bf)))) x=some o:=fun x o e n=>by
      have nx:x∉[q.be]:=fun m=>by rw[DC m] at e;cases e
      rw[Ax nx] at e ⊢
      exact k1 x o e (nb e n)
     refine ko ⟨n,st.entries⟩ hstep _ ⟨z,q.be,q.bf⟩ ⟨⟨dx,AI⟩,kh _ _ (by rw[Ax (by simpa using nzq)];exact hz) (fun _ _ e=>nomatch e),⟨as,k1 _ _ hbe (nb hbe fun _ _ e=>nomatch e),Paired.mapP hpe fun y e qq=>?_⟩,kh _ _ B2.bf (fun _ _ e=>nomatch e)⟩ ⟨rfl,rfl⟩ hpl ?_
     ·obtain⟨d2,ar,am,w1,w2,w3⟩:=qq
      exact⟨d2,ar,am,kh _ _ w1 (fun _ _ e=>by cases e;exact hne rfl),kh _ _ w2 (fun _ _ e=>nomatch e),kh _ _ w3 (fun _ _ e=>nomatch e)⟩
     ·intro y o e n
      exact k1 y o (s12 y o e) fun w=>n (by simp[w])
   ·have h1:i=1:=by omega
    subst h1
    have hstep:BH L st 1 ln=match Bt (Ay "for") ln with
      | none=>.error 1
      | some o=>if o≠L.name then .error 2 else .ok st:=by
     unfold BH
     rw[if_neg (by omega),if_neg (by omega)]
     try rfl
    refine⟨_,rfl,_,rfl,rfl,_,rfl,bF (decide_eq_false (BK (by decide))) ?_⟩
    refine⟨la,zs ln,"for",rfl,hS,zl,by decide,fun H1 s1=>⟨_,rfl,?_⟩⟩
    rw[LG,Vu]
    cases hn:Bt (Ay "for") ln with
    | none =>
     rw[hn] at hstep
     rw[LH hn]
     exact bT rfl (ke 1 hstep H1 s1)
    | some n =>
     rw[hn] at hstep
     obtain⟨q1,q2⟩:=LI hn
     rw[q1]
     refine bF rfl ?_
     refine⟨_,rfl,rfl,_,rfl,bF (decide_eq_false (BK (by decide))) ?_⟩
     refine⟨_,rfl,la,zs ln,zs n,rfl,s1.seq hS,zl,q2,fun H2 z s2 nz hz=>?_⟩
     have s12:=s1.trans s2
     have L2:=hL.mono s12
     obtain⟨dx,ho⟩:=L2.ob
     refine⟨_,rfl,a,CL,dx,_,_,rfl,ho,TL.cl,TL.name,Wo,?_⟩
     refine⟨_,_,A6 (SqL.of hz),A6 (SqL.of L2.nm),A2 _,A2 _,?_⟩
     rw[CP]
     refine⟨_,rfl,?_⟩
     have hstep:BH L st 1 ln=if n≠L.name then .error 2 else .ok st:=hstep
     by_cases hq:n=L.name
     ·rw[if_neg fun w=>w hq] at hstep
      refine bF (by rw[decide_eq_true (by rw[hq])];rfl) ?_
      exact ko st hstep H2 q (hB.mono s12) ⟨rfl,rfl⟩ hpl (KeepBut.of s12)
     ·rw[if_pos hq] at hstep
      refine bT (by rw[decide_eq_false fun w=>hq (DU w)];rfl) ?_
      exact ke 2 hstep H2 s12
end
end Fb
end
section
set_option maxRecDepth 100000
set_option maxHeartbeats 4000000
namespace Fb
open PySem PySem.Spec PyProof.Rows L2
open PySem.W (CodeHd tabObj kla_obj kla_fn envX)
abbrev JE:Stmt:=Rw
abbrev By:Expr:=PY JE
abbrev Ca:Str:="read_book.<locals>.<lambda>"
def Pz (cL cB:Addr) (pm:Value) (c':Addr) (ctv:Value):Obj:=kla_obj "<lambda>" Ca (Ft By) (Fu By) (DD By) [("locker",cL),("book",cB)] pm c' ctv
theorem frB:∀y∈(DD By).names,y.2=EI→y.1∈(["locker","book"]:List Str):=by decide +kernel
theorem YN {cL cB:Addr} (h:cL≠cB):Hw ["number","line","locker","book"] ["number","line"] (DD By) [("locker",cL),("book",cB)] :=
 ⟨rfl,rfl,rfl,by decide +kernel,rfl,by decide +kernel,by decide +kernel,rfl,fun x hx=>by
  have:x="locker"∨x="book":=by
   rcases AS.mp hx with q | q
   ·exact .inl q
   ·exact .inr (A3.mp q)
  rcases this with rfl | rfl
  ·decide +kernel
  ·decide +kernel,fun y hy=>frB _ (Bg hy) rfl,C9.mpr ⟨fun m=>h (A3.mp m),C9.mpr ⟨Dc,Ji⟩⟩⟩
def SU (K:AA) (CL CK CB CE f c' cL cB:Addr) (pm ctv:Value):Sp:=fun vs H Q _=>∃(i:Nat) (la a b:Addr),vs=[.int (i:Nat),.ref la]∧H f=some (KO f (Pz cL cB pm c' ctv))∧CodeO H c' Ca∧CellV H cL (.ref a)∧CellV H cB (.ref b)∧
 JM K CL CK CB CE [.ref a,.ref b,.int (i:Nat),.ref la] (hid [cL,cB] H) (fun v H'=>(H' cL=none∧H' cB=none)→Q v (Cn [cL,cB] H H')) E0
section
variable {P:Program}{w:World}{K:AA}{mg:Str→Option Value}{base:Heap}{CL CK CB CE:Addr}
theorem XI {f c' cL cB:Addr}{pm ctv:Value} (hcc:cL≠cB) (g:Has P w K mg "take_line_books" 6 ["locker","book","number","line"] (JM K CL CK CB CE)):
  FnOk P w K mg base CX0 7 f (kla_fn "<lambda>" Ca (Ft By) (Fu By) (DD By) [("locker",cL),("book",cB)] pm (.ref c') ctv) ["number","line"] (SU K CL CK CB CE f c' cL cB pm ctv):=by
 refine K4 (YN hcc) (fun vs H Q E h=>?_) (fun vs H Q E h=>?_)
 ·obtain⟨i,la,a,b,rfl,_⟩:=h
  rfl
 ·obtain⟨i,la,a,b,rfl,hf,hc,hv,hv2,hsp⟩:=h
  refine⟨hf,hc,[.ref a,.ref b],.cons hv (.cons hv2 .nil),fun A outer s hr=>?_⟩
  refine⟨_,AN g hr (by rfl) (AB (pv 2) (AB (pv 3) (AB (pv 0) (AB (pv 1) AD)))),?_⟩
  refine⟨_,rfl,_,rfl,_,rfl,_,rfl,?_⟩
  obtain⟨a',b',la',p,q,L,fl,bfl,st,i',ln,e,r1,r2,r3,r4,r5,r6,k1,k2⟩:=hsp
  have two:∀{H':Hp},(∀c∈([("locker",cL),("book",cB)]:List (Str×Addr)).map (·.2),H' c=none)→H' cL=none∧H' cB=none:=fun hn=>⟨hn _ (by simp),hn _ (by simp)⟩
  exact⟨a',b',la',p,q,L,fl,bfl,st,i',ln,e,r1,r2,r3,r4,r5,r6,fun k hk H' s' hn=>k1 k hk H' s' (two hn),fun s' hs H' p' q1 q2 q3 q4 hn=>k2 s' hs H' p' q1 q2 q3 q4 (two hn)⟩
end
theorem Yv {L:Ai}{s:BS}{i k:Nat}{b:Ah} (h:BH L s i b=.error k):k≠0:=by
 unfold BH at h
 split at h
 ·unfold CI at h
  cases hk:GQ b with
  | none =>
   rw[hk] at h
   have h:(CM 1:Except Nat BS)=.error k:=h
   cases h;decide
  | some x =>
   obtain⟨n,m⟩:=x
   rw[hk] at h
   dsimp only at h
   cases hr:L.entryRow s.entries n with
   | ok r=>rw[hr] at h;cases h
   | error e =>
    rw[hr] at h
    have h:(CM e:Except Nat BS)=.error k:=h
    cases h
    unfold MS at hr
    intro q
    subst q
    split at hr
    ·cases hr
    ·split at hr
     ·cases hr
     ·split at hr
      ·cases hr
      ·split at hr <;> cases hr
 ·split at h
  ·split at h
   ·cases h;decide
   ·cases h
  ·split at h
   ·cases h;decide
   ·split at h
    ·cases h;decide
    ·cases h
theorem BookAt.faultB {CB CE:Addr}{H H':Hp}{b z dx:Addr}{q:BA}{name:List Int}{es:List Aw}{fault fl:List Int} (hne:CB≠CE) (h:BookAt CB CE H b q name es fault) (hd:H b=some (.ins CB dx (bfB q.bn q.be q.bf))) (hz:H z=some (.lst (fl.map V.int))) (nz:z≠q.be)
  (e:H'=upd H b (.ins CB dx (A9 "fault" (.ref z) (bfB q.bn q.be q.bf)))):BookAt CB CE H' b ⟨q.bn,q.be,z⟩ name es fl:=by
 subst e
 have kh:∀x o,hid [q.be] H x=some o→(∀dx fs,o≠.ins CB dx fs)→hid [q.be] (upd H b (.ins CB dx (A9 "fault" (V.ref z) (bfB q.bn q.be q.bf)))) x=some o:=fun x o e n=>by
  have nx:x∉[q.be]:=fun m=>by rw[DC m] at e;cases e
  rw[Ax nx] at e ⊢
  rw[AE (Bb e hd (n _ _))]
  exact e
 obtain⟨as,hbe,hpe⟩:=h.es
 refine⟨⟨dx,AI⟩,kh _ _ h.nm (fun _ _ e=>nomatch e),⟨as,?_,Paired.mapP hpe fun y e qq=>?_⟩,kh _ _ (by rw[Ax (by simpa using nz)];exact hz) (fun _ _ e=>nomatch e)⟩
 ·rw[AE (Bb hbe hd (by intro z;cases z))];exact hbe
 ·obtain⟨d2,ar,am,w1,w2,w3⟩:=qq
  exact⟨d2,ar,am,kh _ _ w1 (fun _ _ e=>by cases e;exact hne rfl),kh _ _ w2 (fun _ _ e=>nomatch e),kh _ _ w3 (fun _ _ e=>nomatch e)⟩
theorem VT (t:Ah):(zs t).count 10=(Ad t).length:=by
 have h1:=IG 10 (zs t)
 rw[Kn,Gv,AG,BO,C7] at h1
 omega
def Gn (L:Ai) (t:Ah) (nm:List Int) (es:List Aw) (fl:List Int):Prop:=match L.judgeBook t with
 | .error e=>fl=[(e.1:Int),(e.2:Int)]
 | .ok B=>fl=[]∧nm=zs B.name∧es=B.entries∧es.length≤2048
def Sg (K:AA) (CL CK CB CE Pt:Addr):Sp:=fun vs H Q _=>∃(l a:Addr) (p:LA) (L:Ai) (lfl:List Int) (t:Ah),vs=[.ref l,.ref a]∧LockAt CL CK H l p (zs L.name) (L.kinds.map zk) lfl∧Wf L.kinds∧SqL K H a ((zs t).map V.int)∧t.length < 80000∧BF H Pt (BX By) Ca∧
 ∀(H':Hp) (x:Addr) (q:BA) (nm:List Int) (es:List Aw) (fl:List Int),KeepBut [Pt] H H'→BF H' Pt (BX By) Ca→BookAt CB CE H' x q nm es fl→Gn L t nm es fl→Q (.ref x) H'
theorem scReadB:AY ["locker","text","book"] ["locker","text"] (AK JE):=⟨rfl,rfl,rfl,by decide +kernel,rfl,by decide +kernel,by decide +kernel⟩
section
variable {P:Program}{w:World}{K:AA}{mg:Str→Option Value}{base:Heap}{CL CK CB CE Pt:Addr}
theorem ok_readB {f c:Addr}{fd:FuncData} (F:Fun K "read_book" "read_book" JE f fd) (hc:fd.code=.ref c) (C:CodeHd base c Pt) (hbm:EL mg base) (hne:CB≠CE) (TB:BookC K CB) (c1:Cst mg "NO_SUCH_LINE" (.int 1)) (c2:Cst mg "HEAD_LINES" (.int 2)) (g0:EM P w K mg "Book" CB 1 ["self"] (SI CB))
  (g1:Has P w K mg "first_fault" 9 ["text","take"] (Ls P w K mg 7)) (g2:Has P w K mg "take_line_books" 6 ["locker","book","number","line"] (JM K CL CK CB CE)) (g3:Has P w K mg "count_lines" 1 ["text"] (Lr K)):
  FnOk P w K mg base CX0 10 f fd ["locker","text"] (Sg K CL CK CB CE Pt):=by
 refine F.okC hc scReadB (fun vs H Q E h=>?_) (fun A outer s H vs Q E hr h=>?_)
 ·obtain⟨l,a,p,L,lfl,t,rfl,_⟩:=h
  rfl
 ·obtain⟨l,a,p,L,lfl,t,rfl,hL,hW,hS,hlen,hT,k⟩:=h
  have hr2:Room 2 _:=hr.mono (by decide)
  have hr1:Room 1 _:=hr.mono (by decide)
  obtain⟨f1,fd1,h1,h2,h3,h4⟩:=g1
  refine⟨_,AJ (BB (i:=2) scReadB.nd rfl (Dt rfl) (QJ g0 hr2 (by rfl)))
   (AJ (BU (pv 2) (LV (h4 base) hr (by rfl) h1 h2 h3 (fun _=>rfl) (by show(["book","locker"]:List Str).Nodup;decide) (AB (pv 1) (AB (LY (clos:=[("locker",s.heap.objs.size+1),("book",s.heap.objs.size+1+1)]) (qual:=Ca) rfl C hbm (by rfl) (by rfl) (by rfl)) AD))) rfl)
   (AJ (Al (PW.pt (Dl (Ac (EX hr.units) (Ak (pv 2) rfl) (A8 AD) (AR _)) (Ec (Ac Ir (AN g3 hr1 (by rfl) (AB (pv 1) AD)) (AW c2 rfl) (AR _)))))
    (AH (BU (pv 2) (A8 (AB (AW c1 rfl) (AB (AN g3 hr1 (by rfl) (AB (pv 1) AD)) AD))) rfl)) Ap)
   (AH (AL (pv 2))))),?_⟩
  intro x dx nx ndx nex
  refine⟨x,dx,rfl,AI,fun H1 q hx1 hbn hbe hbf nq1 nq2 kp hfr=>⟨rfl,?_⟩⟩
  have s1:Same H H1:=Same.made nx ndx kp
  have fr:∀y∈[q.bn,q.be,q.bf],H y=none:=fun y hy=>by
   have:=hfr y hy
   cases z:H y with
   | none=>rfl
   | some u =>
    have e1:y≠x:=Am z nx
    have e2:y≠dx:=Am z ndx
    rw[AE e1,AE e2,z] at this
    cases this
  have hB1:BookAt CB CE H1 x q [] [] []:=⟨⟨dx,hx1⟩,by rw[Ax (by simpa using nq1)];exact hbn,⟨[],hbe,.nil⟩,by rw[Ax (by simpa using nq2)];exact hbf⟩
  refine⟨_,rfl,BR s1 hT,fun H2 fL c' pm ctv kp2 nf hf hPt hco=>?_⟩
  intro H3 ho3 hn3 hcell
  have ho3:∀b,b∉[s.heap.objs.size+1+1,s.heap.objs.size+1]→H3 b=H2 b:=ho3
  have hn3:∀b∈[s.heap.objs.size+1+1,s.heap.objs.size+1],H2 b=none:=hn3
  have hcvL:CellV H3 (s.heap.objs.size+1) (.ref l):=hcell 0 "locker" (.ref l) (s.heap.objs.size+1) rfl rfl rfl rfl
  have hcvB:CellV H3 (s.heap.objs.size+1+1) (.ref x):=hcell 2 "book" (.ref x) (s.heap.objs.size+1+1) rfl rfl rfl rfl
  clear hcell
  have hcc:s.heap.objs.size+1≠s.heap.objs.size+1+1:=by omega
  generalize hclB:s.heap.objs.size+1+1=cB at hf ho3 hn3 hcvB hcc
  generalize hclL:s.heap.objs.size+1=cL at hf ho3 hn3 hcvL hcc
  have ncB:H2 cB=none:=hn3 cB (AU ..)
  have ncL:H2 cL=none:=hn3 cL (As _ (AU ..))
  have s23:Same H2 H3:=fun b o e=>by
   rw[ho3 b fun m=>by
    rcases AS.mp m with m | m
    ·rw[m,ncB] at e;cases e
    ·rw[A3.mp m,ncL] at e;cases e]
   exact e
  have hTb:∃ps,H1 Pt=some (.tbl ps):=by
   rcases BR s1 hT with e | ⟨c2,e,_⟩
   ·exact⟨_,e⟩
   ·exact⟨_,e⟩
  obtain⟨ps1,hPt1⟩:=hTb
  have s12:SameT H1 H2:=fun b o e n=>kp2 b o e fun z=>by rw[z,hPt1] at e;cases e;exact n _ rfl
  have s13:SameT H1 H3:=s12.trans (Same.t s23)
  have s03:SameT H H3:=(Same.t s1).trans s13
  have B3:BookAt CB CE H3 x q [] [] []:=hB1.monoT s13
  have hS3:SqL K H3 a ((zs t).map V.int):=s03.seq hS
  have hf3:=s23 _ _ hf
  have hPt3:=s23 _ _ hPt
  have hco3:CodeO H3 c' Ca:=KR (Same.t s23) hco
  obtain⟨dx3,hx3⟩:=B3.ob
  obtain⟨as3,hbe3,_⟩:=B3.es
  have out:∀{b:Addr} {o:HO},H3 b=some o→(∀C d fs,o≠.ins C d fs)→(∀xs,o≠.lst xs)→b∉[x,q.be]:=fun {b o} e n1 n2 m=>by
   simp only[AS,Dc,or_false] at m
   rcases m with rfl | rfl
   ·rw[hx3] at e;cases e;exact n1 _ _ _ rfl
   ·rw[hbe3] at e;cases e;exact n2 _ rfl
  have ourN:∀b∈[x,q.be],H b=none∧H3 b≠none:=fun b m=>by
   simp only[AS,Dc,or_false] at m
   rcases m with rfl | rfl
   ·exact⟨nx,by rw[hx3];simp⟩
   ·exact⟨fr _ (by simp),by rw[hbe3];simp⟩
  have hcut:Af 10 (zs t)=(Ad t).map zs++[zs (Bc t)]:=by rw[Kn,Gv,CU];rfl
  have hfl:(Ad t).length≤t.length:=by
   have:=Fl 10 (zs t)
   rw[hcut,BO,AG,Av] at this
   simp at this
   omega
  have part:∀y∈Ad t,y.length < 100000:=fun y hy=>by
   have:=D5 10 (zs t) (zs y) (by rw[hcut];exact Hg _ (BP.mpr ⟨y,hy,rfl⟩))
   rw[Av,Av] at this
   omega
  let J:Nat→Hp→Prop:=fun i H'=>∃(q':BA) (st:BS),Ed (BH L) ⟨[],[]⟩ (Ad t) i st∧BookAt CB CE H' x q' (zs st.name) st.entries []∧st.entries.length≤2048∧Nj q q'∧KeepBut [x,q.be] H3 H'
  have Jf:∀{i H'},J i H'→H' fL=some (KO fL (Pz cL cB pm c' ctv)):=fun ⟨_,_,_,_,_,_,kb⟩=>kb _ _ hf3 (out hf3 (fun _ _ _ q=>nomatch q) (fun _ q=>nomatch q))
  have Jc:∀{i H'},J i H'→CodeO H' c' Ca:=fun ⟨_,_,_,_,_,_,kb⟩=>by
   obtain⟨o,vs,tt,e,d,r⟩:=hco3
   exact⟨o,vs,tt,kb _ _ e (out e (fun _ _ _ q=>nomatch q) (fun _ q=>nomatch q)),d,r⟩
  have JlL:∀{i H'},J i H'→H' cL=H3 cL:=fun ⟨_,_,_,_,_,_,kb⟩=>by
   obtain⟨o,u,e,_⟩:=hcvL
   rw[kb _ _ e (out e (fun _ _ _ q=>nomatch q) (fun _ q=>nomatch q)),e]
  have JlB:∀{i H'},J i H'→H' cB=H3 cB:=fun ⟨_,_,_,_,_,_,kb⟩=>by
   obtain⟨o,u,e,_⟩:=hcvB
   rw[kb _ _ e (out e (fun _ _ _ q=>nomatch q) (fun _ q=>nomatch q)),e]
  have Jp:∀{i H'},J i H'→H' Pt=some (.tbl #[rawInt (BX By).line,rawInt (BX By).col,.ref c']):=fun ⟨_,_,_,_,_,_,kb⟩=>kb _ _ hPt3 (out hPt3 (fun _ _ _ q=>nomatch q) (fun _ q=>nomatch q))
  have Jm:∀i H1 H2,J i H1→Same H1 H2→J i H2:=fun i H1 H2 ⟨q',st,h1,h2,h3,h4,h5⟩ ss=>⟨q',st,h1,h2.mono ss,h3,h4,h5.trans (KeepBut.of ss)⟩
  have Js:∀{i H'},J i H'→SameT H H':=fun ⟨_,_,_,_,_,_,kb⟩ b o e n=>kb b o (s03 b o e n) fun m=>by rw[(ourN b m).1] at e;cases e
  have TC:KY P w K mg 7 H3 fL ((Ad t).map zs) J (rAt (BH L) ⟨[],[]⟩ (Ad t)):=by
   refine⟨⟨q,⟨[],[]⟩,Ss,B3,A5 _,⟨rfl,rfl⟩,fun b o e _=>e⟩,Jm,fun i H' j=>⟨_,_,Jf j,rfl⟩,_,SU K CL CK CB CE fL c' cL cB pm ctv,fun base=>XI hcc g2,.all (fun us hl=>match us,hl with | [_,_],_=>rfl),?_⟩
   intro i la ln H4 Q1 hln hJ nla hla hq
   have hf4:=Jf hJ
   have hc4:=Jc hJ
   have hlL4:=JlL hJ
   have hlB4:=JlB hJ
   have hs4:=Js hJ
   obtain⟨q',st,hst,B4,hel,hsb,kb⟩:=id hJ
   rw[Aj] at hln
   cases hb:(Ad t)[i]? with
   | none=>rw[hb] at hln;cases hln
   | some b =>
   rw[hb] at hln
   have eb:zs b=ln:=Ae hln
   subst eb
   have hi:i < (Ad t).length:=(Bd.mp hb).1
   have hR:=Iv (step:=BH L) hst hb
   have hcvL4:CellV H4 cL (.ref l):=by
    obtain⟨o,u,e,r⟩:=hcvL
    exact⟨o,u,by rw[hlL4];exact e,r⟩
   have hcvB4:CellV H4 cB (.ref x):=by
    obtain⟨o,u,e,r⟩:=hcvB
    exact⟨o,u,by rw[hlB4];exact e,r⟩
   have plain:Plain [cL,cB] H4:=fun y hy u e=>by
    rcases AS.mp hy with m | m
    ·obtain⟨o,_,z,_⟩:=hcvL4
     rw[m,z] at e
     cases e
     exact⟨_,rfl⟩
    ·obtain⟨o,_,z,_⟩:=hcvB4
     rw[A3.mp m,z] at e
     cases e
     exact⟨_,rfl⟩
   have sN:=G1 plain
   refine⟨i,la,l,x,rfl,hf4,hc4,hcvL4,hcvB4,l,x,la,p,q',L,lfl,[],st,i,b,rfl,(hL.monoT hs4).monoN sN,hW,B4.monoN sN,hel,SqL.of (sN _ _ hla fun _ z=>nomatch z),part b (CV hb),fun kk hk H' s' hn=>?_,fun st' hs H' q'' q1 q2 q3 q4 hn=>?_⟩
   ·rw[hk] at hR
    have hR:rAt (BH L) ⟨[],[]⟩ (Ad t) i=(kk:Int):=hR
    have su:Same H4 (Cn [cL,cB] H4 H'):=fun y o e=>by
     by_cases m:y∈[cL,cB]
     ·rw[GL m];exact e
     ·rw[C2 m];exact s' y o (by rw[Ax m];exact e)
    have kpos:=Yv hk
    rw[← hR]
    refine hq _ (fun y o _ e=>su y o e) (fun z=>?_) fun _=>Jm i _ _ hJ su
    rw[hR] at z
    exact absurd (show kk=0 by omega) kpos
   ·rw[hs] at hR
    have hR:rAt (BH L) ⟨[],[]⟩ (Ad t) i=0:=hR
    have su:Same H' (Cn [cL,cB] H4 H'):=S1 fun y hy=>by
     rcases AS.mp hy with m | m
     ·rw[m];exact hn.1
     ·rw[A3.mp m];exact hn.2
    have ku:KeepBut [x,q.be] H4 (Cn [cL,cB] H4 H'):=fun y o e n=>by
     by_cases m:y∈[cL,cB]
     ·rw[GL m];exact e
     ·rw[C2 m]
      refine q4 y o (by rw[Ax m];exact e) ?_
      rw[hsb.1]
      exact n
    rw[← hR]
    refine hq _ (fun y o n e=>ku y o e fun m=>(ourN y m).2 n) (fun _=>⟨q'',st',Sr hst hb hs,q1.mono su,q3,⟨q2.1.trans hsb.1,q2.2.trans hsb.2⟩,kb.trans ku⟩) fun z=>absurd hR z
  refine⟨a,fL,zs t,(Ad t).map zs,zs (Bc t),J,rAt (BH L) ⟨[],[]⟩ (Ad t),rfl,hS3,by rw[Av];omega,hcut,TC,fun H0 pR j res hJ0 np0 hTold=>?_⟩
  have hJ:=Jm j _ _ hJ0 ((Same.refl H0).new (o:=.lst (res.map V.int)) np0)
  have hpR:upd H0 pR (.lst (res.map V.int)) pR=some (.lst (res.map V.int)):=AI
  have npq:pR≠q.be:=fun z=>by
   obtain⟨q0,_,_,B0,_,hsb0,_⟩:=hJ0
   obtain⟨as0,h0,_⟩:=B0.es
   rw[hsb0.1,← z,np0] at h0
   cases h0
  generalize upd H0 pR (.lst (res.map V.int))=H' at hJ hpR ⊢
  have hlL':=JlL hJ
  have hlB':=JlB hJ
  have hP':=Jp hJ
  have hc':=Jc hJ
  obtain⟨q',st,hst,B',hel,hsb,kb⟩:=id hJ
  have ecs:BW ((Dg CX0 P w K mg base ["locker","text","book"] "read_book" (AK JE) f (Az c) A outer s H E).nox)=[cB,cL]:=by rw[← hclB,← hclL];rfl
  refine⟨fun c2 hc2=>by
   rw[ecs] at hc2
   rcases AS.mp hc2 with m | m
   ·rw[m];exact hlB'
   ·rw[A3.mp m];exact hlL',?_⟩
  show Ee 2 _ _ _
  rw[ecs]
  have plain:Plain [cB,cL] H':=fun y hy u e=>by
   rcases AS.mp hy with m | m
   ·obtain⟨o,_,z,_⟩:=hcvB
    rw[m,hlB',z] at e
    cases e
    exact⟨_,rfl⟩
   ·obtain⟨o,_,z,_⟩:=hcvL
    rw[A3.mp m,hlL',z] at e
    cases e
    exact⟨_,rfl⟩
  have sN:=G1 plain
  have Bh:=B'.monoN sN
  obtain⟨dx4,hx4⟩:=Bh.ob
  have hpR4:=sN _ _ hpR fun _ z=>nomatch z
  have notc:∀{b:Addr} {o:HO},H2 b=some o→b∉[cB,cL]:=fun e m=>by
   rcases AS.mp m with m | m
   ·rw[m,ncB] at e;cases e
   ·rw[A3.mp m,ncL] at e;cases e
  have kpH:KeepBut [Pt] H (hid [cB,cL] H'):=fun b o e n=>by
   have n:b≠Pt:=fun z=>n (by simp[z])
   have e2:=kp2 b o (s1 b o e) n
   rw[Ax (notc e2)]
   exact kb b o (s23 b o e2) fun m=>by rw[(ourN b m).1] at e;cases e
  have tabH:BF (hid [cB,cL] H') Pt (BX By) Ca:=by
   refine .inr ⟨c',sN _ _ hP' (fun _ z=>nomatch z),?_⟩
   obtain⟨o,vs,tt,e,d,r⟩:=hc'
   obtain⟨o2,_,_,e2,_⟩:=hco
   exact⟨o,vs,tt,by rw[Ax (notc e2)];exact e,d,r⟩
  have hSh:SqL K (hid [cB,cL] H') a ((zs t).map V.int):=by
   rcases hS with (h | ⟨o,h⟩) | h
   ·exact .inl (.inl (kpH _ _ h fun m=>by
     have hT':=hT
     rw[A3.mp m] at h
     rcases hT' with z | ⟨_,z,_⟩ <;> (rw[h] at z;cases z)))
   ·exact .inl (.inr ⟨o,kpH _ _ h fun m=>by
     have hT':=hT
     rw[A3.mp m] at h
     rcases hT' with z | ⟨_,z,_⟩ <;> (rw[h] at z;cases z)⟩)
   ·exact .inr h
  have npR:pR≠q'.be:=by rw[hsb.1];exact npq
  generalize hid [cB,cL] H'=Hh at Bh hx4 hpR4 kpH tabH hSh ⊢
  refine⟨_,rfl,x,CB,dx4,_,rfl,hx4,TB.cl,TB.fault,(by show 3 < 1000;decide),?_⟩
  have B5:=Bh.faultB (fl:=res) hne hx4 hpR4 npR rfl
  have nxP:x≠Pt:=fun z=>by
   rcases tabH with w | ⟨_,w,_⟩ <;> (rw[← z,hx4] at w;cases w)
  have kp5:KeepBut [Pt] H (upd Hh x (.ins CB dx4 (A9 "fault" (V.ref pR) (bfB q'.bn q'.be q'.bf)))):=fun b o e n=>by
   rw[AE (Am e nx)]
   exact kpH b o e n
  have tab_upd:∀{G:Hp} {o:HO},BF G Pt (BX By) Ca→(∃d fs,G x=some (.ins CB d fs))→BF (upd G x o) Pt (BX By) Ca:=fun {G o} h hx=>by
   obtain⟨d,fs,hx⟩:=hx
   rcases h with z | ⟨c2,z,o2,vs,tt,e,r⟩
   ·exact .inl (by rw[AE (An nxP)];exact z)
   ·exact .inr ⟨c2,by rw[AE (An nxP)];exact z,o2,vs,tt,by rw[AE (Bb e hx (by intro z;cases z))];exact e,r⟩
  have tab5:=tab_upd (o:=.ins CB dx4 (A9 "fault" (V.ref pR) (bfB q'.bn q'.be q'.bf))) tabH ⟨_,_,hx4⟩
  have hS5:SqL K (upd Hh x (.ins CB dx4 (A9 "fault" (V.ref pR) (bfB q'.bn q'.be q'.bf)))) a ((zs t).map V.int):=by
   rcases hSh with (h | ⟨o,h⟩) | h
   ·exact .inl (.inl (by rw[AE (Bb h hx4 (by intro z;cases z))];exact h))
   ·exact .inl (.inr ⟨o,by rw[AE (Bb h hx4 (by intro z;cases z))];exact h⟩)
   ·exact .inr h
  generalize upd Hh x (.ins CB dx4 (A9 "fault" (V.ref pR) (bfB q'.bn q'.be q'.bf)))=H5 at B5 kp5 tab5 hS5 ⊢
  obtain⟨dx5,hx5⟩:=B5.ob
  refine⟨_,rfl,x,CB,dx5,_,_,rfl,hx5,TB.cl,TB.fault,Kd (q:=⟨q'.bn,q'.be,pR⟩),A5 _,fun l5 nl=>?_⟩
  have s56:Same H5 (upd H5 l5 (.lst [])):=(Same.refl H5).new nl
  have B6:=B5.mono s56
  have kp6:KeepBut [Pt] H (upd H5 l5 (.lst [])):=kp5.trans (KeepBut.of s56)
  have tab6:=BR s56 tab5
  have hS6:=s56.seq hS5
  refine⟨_,_,A6 (SqL.of B6.bf'),A6 (ns:=[]) (SqL.of AI),A2 _,A2 _,?_⟩
  rw[CP]
  generalize upd H5 l5 (.lst [])=H6 at B6 kp6 tab6 hS6 ⊢
  obtain⟨dx6,hx6⟩:=B6.ob
  refine⟨_,rfl,?_⟩
  have jud:=WV L t
  have hcnt:=VT t
  by_cases hres:res=[]
  ·refine bT (decide_eq_true hres) ?_
   subst hres
   have hj:j=((Ad t).map zs).length∧zs (Bc t)=[]:=by
    rcases hTold with ⟨_,_,_,z⟩ | ⟨q1,_,q2⟩
    ·cases z
    ·refine⟨q1,?_⟩
     by_cases z:zs (Bc t)=[]
     ·exact z
     ·rw[if_neg z] at q2;cases q2
   have hr0:Bc t=[]:=zs_nil.mp hj.2
   have hjn:j=(Ad t).length:=by rw[hj.1,AG]
   subst hjn
   rw[JB hst] at jud
   refine⟨_,rfl,a,zs t,rfl,hS6,fun H7 s7=>⟨_,_,rfl,rfl,_,rfl,?_⟩⟩
   rw[hcnt]
   have B7:=B6.mono s7
   have kp7:=kp6.trans (KeepBut.of (xs:=[Pt]) s7)
   have tab7:=BR s7 tab6
   by_cases h0:(Ad t).length < 2
   ·refine bT (decide_eq_true (by omega)) ?_
    refine⟨_,rfl,a,zs t,rfl,s7.seq hS6,fun H8 s8=>⟨(show 2≤sizeLine from CH (by decide)),fun l2 nl2=>?_⟩⟩
    have s89:Same H8 (upd H8 l2 (.lst [.int 1,.int ((zs t).count 10:Nat)])):=(Same.refl H8).new nl2
    have s79:=s8.trans s89
    have B9:=B7.mono s79
    have hl9:upd H8 l2 (.lst [.int 1,.int ((zs t).count 10:Nat)]) l2=some (.lst (([1,(((zs t).count 10:Nat):Int)]:List Int).map V.int)):=AI
    have hx9:=s79 _ _ (s7 _ _ hx6)
    have kp9:=kp7.trans (KeepBut.of (xs:=[Pt]) s79)
    have tab9:=BR s79 tab7
    have nl2q:l2≠q'.be:=fun z=>by
     obtain⟨as8,h8,_⟩:=(B7.mono s8).es
     rw[z,h8] at nl2;cases nl2
    generalize upd H8 l2 (.lst [.int 1,.int ((zs t).count 10:Nat)])=H9 at B9 hl9 hx9 kp9 tab9 ⊢
    refine⟨_,rfl,x,CB,dx6,_,rfl,hx9,TB.cl,TB.fault,(by show 3 < 1000;decide),?_⟩
    have B10:=B9.faultB (q:=⟨q'.bn,q'.be,pR⟩) hne hx9 hl9 nl2q rfl
    refine⟨_,rfl,k _ x _ _ _ _ (fun b o e n=>?_) (tab_upd tab9 ⟨_,_,hx9⟩) B10 ?_⟩
    ·rw[AE (Am e nx)]
     exact kp9 b o e n
    ·unfold Gn
     rw[jud]
     show match D0 (Bc t) (Ad t).length st with
      | .error e=>_
      | .ok B=>_
     unfold D0
     rw[if_neg fun z=>z hr0,if_pos h0,hcnt]
     rfl
   ·refine bF (decide_eq_false (by omega)) ?_
    refine⟨_,rfl,k _ x _ _ _ _ kp7 tab7 B7 ?_⟩
    unfold Gn
    rw[jud]
    show match D0 (Bc t) (Ad t).length st with
     | .error e=>_
     | .ok B=>_
    unfold D0
    rw[if_neg fun z=>z hr0,if_neg h0]
    exact⟨rfl,rfl,rfl,hel⟩
  ·refine bF (decide_eq_false hres) ?_
   refine bF rfl ?_
   refine⟨_,rfl,k _ x _ _ _ _ kp6 tab6 B6 ?_⟩
   unfold Gn
   rw[jud]
   rcases hTold with ⟨q1,_,q3,q4⟩ | ⟨q1,_,q2⟩
   ·rw[AG] at q1
    obtain⟨b,hb⟩:∃b,(Ad t)[j]?=some b:=⟨_,BD q1⟩
    have hR:=Iv (step:=BH L) hst hb
    cases hs:BH L st j b with
    | ok s2=>rw[hs] at hR;exact absurd hR q3
    | error kk =>
     rw[hs] at hR
     have hR:rAt (BH L) ⟨[],[]⟩ (Ad t) j=(kk:Int):=hR
     rw[Qc hst hb hs]
     show res=[(kk:Int),(j:Int)]
     rw[q4,hR]
   ·rw[AG] at q1
    subst q1
    rw[JB hst]
    have hr0:¬Bc t=[]:=fun z=>hres (by rw[q2,if_pos (zs_nil.mpr z)])
    show match D0 (Bc t) (Ad t).length st with
     | .error e=>_
     | .ok B=>_
    unfold D0
    rw[if_pos hr0]
    show res=[((1:Nat):Int),(((Ad t).length:Nat):Int)]
    rw[q2,if_neg fun z=>hr0 (zs_nil.mp z)]
    rfl
end
end Fb
end
section
set_option maxRecDepth 100000
set_option maxHeartbeats 4000000
namespace Fb
open PySem PySem.Spec PyProof.Rows L2
open PySem.W (CodeHd tabObj kla_obj kla_fn envX)
abbrev Q4:Stmt:=Dh RN 0
def rdf (r:Addr) (l b:V):List (Str×V):=[("refusal",.ref r),("locker",l),("book",b)]
def GB:List V→Option (List (Str×V))
 | [.ref r,l,b]=>some (rdf r l b)
 | _=>none
theorem QV {r:Addr}{l b:V}:(rdf r l b).lookup ("refusal":Str)=some (.ref r):=rfl
theorem X7 {r:Addr}{l b:V}:(rdf r l b).lookup ("book":Str)=some b:=rfl
structure ReadC (K:AA) (CR:Addr):Prop where
 cl:Cls K CR
 refusal:NoAttr K CR "refusal"
 locker:NoAttr K CR "locker"
 book:NoAttr K CR "book"
theorem YX:AY ["self","refusal","locker","book"] ["self","refusal","locker","book"] (AK Q4):=⟨rfl,rfl,rfl,by decide +kernel,rfl,by decide +kernel,by decide +kernel⟩
section
variable {P:Program}{w:World}{K:AA}{mg:Str→Option Value}{base:Heap}{CR:Addr}
theorem ok_readI {f:Addr}{fd:FuncData} (F:Fun K "__init__" "Reading.__init__" Q4 f fd) (T:ReadC K CR):FnOk P w K mg base CX0 1 f fd ["self","refusal","locker","book"] (EB CR GB):=by
 have inv:∀us l,GB us=some l→∃r k b,us=[.ref r,k,b]∧l=rdf r k b:=by
  intro us l h
  unfold GB at h
  split at h
  ·cases h;exact⟨_,_,_,rfl,rfl⟩
  ·cases h
 refine F.ok YX (fun vs H Q E h=>?_) (fun cdv A outer s H vs Q E hr h=>?_)
 ·obtain⟨p,dx,us,l,rfl,hf,_⟩:=h
  obtain⟨_,_,_,rfl,_⟩:=inv _ _ hf
  rfl
 ·obtain⟨p,dx,us,l,rfl,hf,hp,k⟩:=h
  obtain⟨r,c,m,rfl,rfl⟩:=inv _ _ hf
  refine⟨_,AJ (BU (pv 0) (pv 1) rfl) (AJ (BU (pv 0) (pv 2) rfl) (AH (BU (pv 0) (pv 3) rfl))),?_⟩
  refine⟨_,rfl,_,rfl,p,CR,dx,[],rfl,hp,T.cl,T.refusal,(by show 0 < 1000;decide),?_⟩
  refine⟨_,rfl,_,rfl,p,CR,dx,_,rfl,AI,T.cl,T.locker,(by show 1 < 1000;decide),?_⟩
  refine⟨_,rfl,_,rfl,p,CR,dx,_,rfl,AI,T.cl,T.book,(by show 2 < 1000;decide),?_⟩
  rw[FF,FF]
  exact k _ AI fun b o e hb=>by rw[AE hb];exact e
end
abbrev RG:Stmt:=Ry
def Dd (CL CK CB CE:Addr) (H:Hp) (t u:Ah) (rf:List Int) (lv bv:V):Prop :=
 if 65536 < t.length∨65536 < u.length then rf=[-2] else match DX t with
  | .error _=>rf=[-6]
  | .ok L=>match L.judgeBook u with
   | .error e=>rf=[-9,(e.1:Int),(e.2:Int)]
   | .ok B=>rf=[]∧∃(x:Addr) (q:BA),bv=.ref x∧BookAt CB CE H x q (zs B.name) B.entries []∧B.entries.length≤2048∧∃(y:Addr) (p:LA),lv=.ref y∧LockAt CL CK H y p (zs L.name) (L.kinds.map zk) []∧Wf L.kinds
def Sq (K:AA) (CL CK CB CE CR PL PB:Addr):Sp:=fun vs H Q _=>∃(a b:Addr) (t u:Ah),vs=[.ref a,.ref b]∧SqL K H a ((zs t).map V.int)∧SqL K H b ((zs u).map V.int)∧t.length < 80000∧u.length < 80000∧BF H PL (BX Bz) Cb∧BF H PB (BX By) Ca∧
 ∀(H':Hp) (x dx r:Addr) (rf:List Int) (lv bv:V),KeepBut [PL,PB] H H'→BF H' PL (BX Bz) Cb→BF H' PB (BX By) Ca→H' x=some (.ins CR dx (rdf r lv bv))→H' r=some (.lst (rf.map V.int))→Dd CL CK CB CE H' t u rf lv bv→Q (.ref x) H'
theorem scTexts:AY ["t","b","locker","book"] ["t","b"] (AK RG):=⟨rfl,rfl,rfl,by decide +kernel,rfl,by decide +kernel,by decide +kernel⟩
theorem Sx {H H':Hp}{Pt Po:Addr}{pos:Pos}{q:Str} (hne:Pt≠Po) (hPo:∃ps,H Po=some (.tbl ps)) (kb:KeepBut [Po] H H') (h:BF H Pt pos q):BF H' Pt pos q:=by
 obtain⟨ps,hPo⟩:=hPo
 rcases h with h | ⟨c',h,o,vs,t,e,r⟩
 ·exact .inl (kb _ _ h (by simpa using hne))
 ·refine .inr ⟨c',kb _ _ h (by simpa using hne),o,vs,t,kb _ _ e fun m=>?_,r⟩
  rw[A3.mp m,hPo] at e
  cases e
theorem FE {H:Hp}{Pt:Addr}{pos:Pos}{q:Str} (h:BF H Pt pos q):∃ps,H Pt=some (.tbl ps):=by
 rcases h with h | ⟨c',h,_⟩
 ·exact⟨_,h⟩
 ·exact⟨_,h⟩
theorem K2 {H H':Hp}{Pt:Addr}{pos:Pos}{q:Str} (h:BF H Pt pos q) (kb:KeepBut [Pt] H H'):SameT H H':=fun b o e n=>kb b o e fun m=>by
 obtain⟨ps,hp⟩:=FE h
 rw[A3.mp m,hp] at e
 cases e
 exact n _ rfl
section
variable {P:Program}{w:World}{K:AA}{mg:Str→Option Value}{base:Heap}{CL CK CB CE CR PL PB:Addr}
def Gm (P:Program) (w:World) (K:AA) (mg:Str→Option Value) (base:Heap) (x:Str) (k:Nat) (ps:List Str) (sp:Sp):Prop :=
 ∃(f:Addr) (fd:FuncData),mg x=some (.ref f)∧FX K (.ref f)=true∧Binds K fd ps []∧FnOk P w K mg base CX0 k f fd ps sp
theorem LW {X:Cx}{k:Nat}{ps:List Str}{sp:Sp}{x:Str}{p pos:Pos}{e:Expr}{es:List Expr}{t:TA} (h:Gm X.prog X.w X.K X.mg X.base x k ps sp) (hr:Room k X.A) (hg:Gl X x) (ha:PA X (e::es) t)
  (hdb:(x==("__debug__":Str))=false:=by decide) (he:starEach (e::es) X.env=(false,eval e X.env)::starEach es X.env:=by rfl) (hpl:(backTo pos (starEach es X.env)).any (·.1)=false:=by rfl):
  PE X (.Call (.Name x p) (e::es) [] pos) (JO sp [] E0 t):=by
 obtain⟨f,fd,h1,h2,h3,h4⟩:=h
 exact QD h4 hr hg h1 h2 h3 .nil F2 ha hdb he hpl
theorem ok_texts {f:Addr}{fd:FuncData} (F:Fun K "read_texts" "read_texts" RG f fd) (B:Blt mg) (hPP:PL≠PB) (TL:LockC K CL) (TB:BookC K CB) (c1:Cst mg "LONGEST_TEXT" (.int 65536)) (c2:Cst mg "TOO_LONG" (.int (-2))) (c3:Cst mg "NO_LOCKER" (.int (-6))) (c4:Cst mg "NO_BOOK" (.int (-9)))
  (g1:Gm P w K mg base "read_locker" 10 ["text"] (Sh K CL CK PL)) (g2:Gm P w K mg base "read_book" 10 ["locker","text"] (Sg K CL CK CB CE PB)) (g3:EM P w K mg "Reading" CR 1 ["self","refusal","locker","book"] (EB CR GB)):FnOk P w K mg base CX0 11 f fd ["t","b"] (Sq K CL CK CB CE CR PL PB):=by
 refine F.ok scTexts (fun vs H Q E h=>?_) (fun cdv A outer s H vs Q E hr h=>?_)
 ·obtain⟨a,b,t,u,rfl,_⟩:=h
  rfl
 ·obtain⟨a,b,t,u,rfl,hA,hB,hlt,hlu,hTL,hTB,k⟩:=h
  have hr2:Room 2 _:=hr.mono (by decide)
  refine⟨_,AJ (Al (PW.pt (F9 (Ac F1 (A1 Bq (by rfl) B.len Bf (AB (pv 0) AD)) (AW c1 rfl) (AR _)) (HM (Ac F1 (A1 Bq (by rfl) B.len Bf (AB (pv 1) AD)) (AW c1 rfl) (AR _)))))
    (AH (AL (F3 g3 hr2 (by rfl) (AB (A8 (AB (AW c2 rfl) AD)) (AB Cj (AB Cj AD)))))) Ap)
   (AJ (BB (i:=2) scTexts.nd rfl (AZ rfl) (LW g1 hr (by rfl) (AB (pv 0) AD)))
   (AJ (Al (Ac (HE hr.units) (Ak (pv 2) rfl) (A8 AD) (AR _)) (AH (AL (F3 g3 hr2 (by rfl) (AB (A8 (AB (AW c3 rfl) AD)) (AB Cj (AB Cj AD)))))) Ap)
   (AJ (BB (i:=3) scTexts.nd rfl (AZ rfl) (LW g2 hr (by rfl) (AB (pv 2) (AB (pv 1) AD))))
   (AJ (Al (Ac (HE hr.units) (Ak (pv 3) rfl) (A8 AD) (AR _)) (AH (AL (F3 g3 hr2 (by rfl) (AB (D6 P8 (A8 (AB (AW c4 rfl) AD)) (Ak (pv 3) rfl)) (AB Cj (AB Cj AD)))))) Ap)
   (AH (AL (F3 g3 hr2 (by rfl) (AB (A8 AD) (AB (pv 2) (AB (pv 3) AD)))))))))),?_⟩
  have fin:∀(G:Hp) (r:Addr) (rf:List Int) (lv bv:V),KeepBut [PL,PB] H G→BF G PL (BX Bz) Cb→BF G PB (BX By) Ca→G r=some (.lst (rf.map V.int))→(∀G',Same G G'→Dd CL CK CB CE G' t u rf lv bv)→
    ∀x dx,G x=none→G dx=none→dx≠x→EB CR GB [.ref x,.ref r,lv,bv] (upd (upd G dx (.own x)) x (.ins CR dx [])) (fun v H2=>v=.non∧Q (.ref x) H2) E0:=fun G r rf lv bv kb t1 t2 hr hx x dx nx nd ne=>by
   refine⟨x,dx,[.ref r,lv,bv],rdf r lv bv,rfl,rfl,AI,fun H' hx' kp=>⟨rfl,?_⟩⟩
   have ss:Same G H':=Same.made nx nd kp
   exact k H' x dx r rf lv bv (kb.trans (KeepBut.of ss)) (BR ss t1) (BR ss t2) hx' (ss _ _ hr) (hx H' ss)
  have much:(65536 < t.length∨65536 < u.length)→∀l,H l=none→∀x dx,upd H l (.lst [.int (-2)]) x=none→upd H l (.lst [.int (-2)]) dx=none→dx≠x→EB CR GB [.ref x,.ref l,.non,.non] (upd (upd (upd H l (.lst [.int (-2)])) dx (.own x)) x (.ins CR dx [])) (fun v H2=>v=.non∧Q (.ref x) H2) E0:=fun hm l nl=>by
   have ss:=(Same.refl H).new (o:=.lst [.int (-2)]) nl
   refine fin _ l [-2] .non .non (KeepBut.of ss) (BR ss hTL) (BR ss hTB) AI fun G' _=>?_
   unfold Dd
   rw[if_pos hm]
  refine⟨_,rfl,a,_,rfl,.inl hA,_,_,rfl,rfl,_,rfl,?_⟩
  by_cases ht:65536 < t.length
  ·refine bT (decide_eq_true (by rw[AG,Av];omega)) (bT rfl ?_)
   exact⟨(show 1≤sizeLine from CH (by decide)),fun l nl=>much (.inl ht) l nl⟩
  ·refine bF (decide_eq_false (by rw[AG,Av];omega)) ?_
   refine⟨_,rfl,b,_,rfl,.inl hB,_,_,rfl,rfl,_,rfl,?_⟩
   by_cases hu:65536 < u.length
   ·refine bT (decide_eq_true (by rw[AG,Av];omega)) ?_
    exact⟨(show 1≤sizeLine from CH (by decide)),fun l nl=>much (.inr hu) l nl⟩
   ·refine bF (decide_eq_false (by rw[AG,Av];omega)) ?_
    have hmuch:¬(65536 < t.length∨65536 < u.length):=fun z=>z.elim ht hu
    refine⟨_,rfl,a,t,rfl,hA,by omega,hTL,fun H1 xl p nm ks fl kb1 tab1 L1 rl=>?_⟩
    have sT1:=K2 hTL kb1
    have tabB1:=Sx (An hPP) (FE hTL) kb1 hTB
    have kbL1:KeepBut [PL,PB] H H1:=kb1.mono fun y hy=>by simp at hy;simp[hy]
    obtain⟨dx1,ho1⟩:=L1.ob
    refine⟨_,rfl,xl,CL,dx1,_,_,rfl,ho1,TL.cl,TL.fault,Pd,A5 _,fun l1 nl1=>?_⟩
    have s12:Same H1 (upd H1 l1 (.lst [])):=(Same.refl H1).new nl1
    have hl1:upd H1 l1 (.lst []) l1=some (.lst (([]:List Int).map V.int)):=AI
    generalize upd H1 l1 (.lst [])=H2 at s12 hl1 ⊢
    have L2:=L1.mono s12
    refine⟨_,_,A6 (SqL.of L2.af),A6 (SqL.of hl1),A2 _,A2 _,?_⟩
    rw[CP]
    refine⟨_,rfl,?_⟩
    unfold Gp at rl
    have kb2:=kbL1.trans (KeepBut.of (xs:=[PL,PB]) s12)
    have tab2:=BR s12 tab1
    have tabB2:=BR s12 tabB1
    cases hj:DX t with
    | error e =>
     rw[hj] at rl
     have rl:fl≠[]:=rl
     refine bT (by rw[decide_eq_false rl];rfl) ?_
     refine⟨(show 1≤sizeLine from CH (by decide)),fun l nl=>?_⟩
     have ss:=(Same.refl H2).new (o:=.lst [.int (-6)]) nl
     refine fin _ l [-6] .non .non (kb2.trans (KeepBut.of ss)) (BR ss tab2) (BR ss tabB2) AI fun G' _=>?_
     unfold Dd
     rw[if_neg hmuch,hj]
    | ok L =>
     rw[hj] at rl
     obtain⟨rfl,rfl,rfl,hW⟩:=rl
     refine bF (by rw[decide_eq_true rfl];rfl) ?_
     refine⟨_,rfl,_,rfl,xl,b,p,L,[],u,rfl,L2,hW,(sT1.trans (Same.t s12)).seq hB,by omega,tabB2,fun H3 xb q nm es bfl kb3 tab3 B3 rb=>?_⟩
     have tabL3:=Sx hPP (FE tabB2) kb3 tab2
     have kb13:KeepBut [PL,PB] H H3:=kb2.trans (kb3.mono fun y hy=>by simp at hy;simp[hy])
     obtain⟨dx3,ho3⟩:=B3.ob
     refine⟨_,rfl,xb,CB,dx3,_,_,rfl,ho3,TB.cl,TB.fault,Kd,A5 _,fun l3 nl3=>?_⟩
     have s34:Same H3 (upd H3 l3 (.lst [])):=(Same.refl H3).new nl3
     have hl3:upd H3 l3 (.lst []) l3=some (.lst (([]:List Int).map V.int)):=AI
     generalize upd H3 l3 (.lst [])=H4 at s34 hl3 ⊢
     have B4:=B3.mono s34
     have kb4:=kb13.trans (KeepBut.of (xs:=[PL,PB]) s34)
     have tabL4:=BR s34 tabL3
     have tabB4:=BR s34 tab3
     refine⟨_,_,A6 (SqL.of B4.bf'),A6 (SqL.of hl3),A2 _,A2 _,?_⟩
     rw[CP]
     refine⟨_,rfl,?_⟩
     unfold Gn at rb
     cases hjb:L.judgeBook u with
     | error e =>
      rw[hjb] at rb
      have rb:bfl=[(e.1:Int),(e.2:Int)]:=rb
      refine bT (by rw[decide_eq_false (by rw[rb];simp)];rfl) ?_
      refine⟨(show 1≤sizeLine from CH (by decide)),fun l nl=>?_⟩
      have ss:=(Same.refl H4).new (o:=.lst [.int (-9)]) nl
      have hl:upd H4 l (.lst [.int (-9)]) l=some (.lst [.int (-9)]):=AI
      generalize upd H4 l (.lst [.int (-9)])=H5 at ss hl ⊢
      have ho5:=ss _ _ (s34 _ _ ho3)
      have hbf5:=ss _ _ B4.bf'
      refine⟨_,rfl,xb,CB,dx3,_,_,rfl,ho5,TB.cl,TB.fault,Kd,l,q.bf,_,_,rfl,rfl,hl,hbf5,?_,fun l6 nl6=>?_⟩
      ·rw[rb]
       exact(show 3≤sizeLine from CH (by decide))
      have s6:=(Same.refl H5).new (o:=.lst ([V.int (-9)]++bfl.map V.int)) nl6
      refine fin _ l6 [-9,(e.1:Int),(e.2:Int)] .non .non (kb4.trans (KeepBut.of (ss.trans s6))) (BR (ss.trans s6) tabL4) (BR (ss.trans s6) tabB4) ?_ fun G' _=>?_
      ·rw[AI,rb];rfl
      ·unfold Dd
       rw[if_neg hmuch,hj]
       dsimp only
       rw[hjb]
     | ok Bk =>
      rw[hjb] at rb
      obtain⟨rfl,rfl,rfl,hle⟩:=rb
      refine bF (by rw[decide_eq_true rfl];rfl) ?_
      refine⟨A5 _,fun l nl=>⟨_,rfl,_,rfl,?_⟩⟩
      have ss:=(Same.refl H4).new (o:=.lst []) nl
      refine fin _ l [] (.ref xl) (.ref xb) (kb4.trans (KeepBut.of ss)) (BR ss tabL4) (BR ss tabB4) AI fun G' s'=>?_
      unfold Dd
      rw[if_neg hmuch,hj]
      dsimp only
      rw[hjb]
      exact⟨rfl,xb,q,rfl,B4.mono (ss.trans s'),hle,xl,p,rfl,(L2.monoT (K2 tabB2 kb3)).mono (s34.trans (ss.trans s')),hW⟩
end
end Fb
end
section
set_option maxRecDepth 100000
set_option maxHeartbeats 4000000
namespace Fb
open PySem PySem.Spec PyProof.Rows L2
open PySem.W (CodeHd tabObj kla_obj kla_fn envX)
structure U0 (K:AA) (PL PB:Addr) (H:Hp) (a b:Addr) (t u:Ah):Prop where
 ta:SqL K H a ((zs t).map V.int)
 ub:SqL K H b ((zs u).map V.int)
 lt:t.length < 80000
 lu:u.length < 80000
 pl:BF H PL (BX Bz) Cb
 pb:BF H PB (BX By) Ca
theorem ZS {CL CK CB CE:Addr}{H:Hp}{t u:Ah}{lv bv:V} (h:Dd CL CK CB CE H t u [] lv bv):¬(65536 < t.length∨65536 < u.length)∧∃L B,DX t=.ok L∧L.judgeBook u=.ok B∧∃(x:Addr) (q:BA),bv=.ref x∧BookAt CB CE H x q (zs B.name) B.entries []∧B.entries.length≤2048∧∃(y:Addr) (p:LA),lv=.ref y∧LockAt CL CK H y p (zs L.name) (L.kinds.map zk) []∧Wf L.kinds:=by
 unfold Dd at h
 by_cases hm:65536 < t.length∨65536 < u.length
 ·rw[if_pos hm] at h;cases h
 ·rw[if_neg hm] at h
  refine⟨hm,?_⟩
  cases hj:DX t with
  | error e=>rw[hj] at h;cases h
  | ok L =>
   rw[hj] at h
   dsimp only at h
   cases hb:L.judgeBook u with
   | error e=>rw[hb] at h;cases h
   | ok B=>rw[hb] at h;exact⟨L,B,rfl,hb,h.2⟩
theorem ZR {H H':Hp}{PL PB Pt:Addr}{pos:Pos}{q:Str} (h1:PL≠Pt) (h2:PB≠Pt) (t1:∃ps,H PL=some (.tbl ps)) (t2:∃ps,H PB=some (.tbl ps)) (kb:KeepBut [PL,PB] H H') (h:BF H Pt pos q):BF H' Pt pos q:=by
 have out:Pt∉[PL,PB]:=fun m=>by
  rcases AS.mp m with z | z
  ·exact h1 z.symm
  ·exact h2 (A3.mp z).symm
 rcases h with h | ⟨c',h,o,vs,t,e,d,r⟩
 ·exact .inl (kb _ _ h out)
 ·refine .inr ⟨c',kb _ _ h out,o,vs,t,kb _ _ e fun m=>?_,d,r⟩
  obtain⟨p1,e1⟩:=t1
  obtain⟨p2,e2⟩:=t2
  rcases AS.mp m with z | z
  ·rw[z,e1] at e;cases e
  ·rw[A3.mp z,e2] at e;cases e
end Fb
end
section
set_option maxRecDepth 100000
set_option maxHeartbeats 4000000
namespace Fb
open PySem PySem.Spec PyProof.Rows L2
open PySem.W (CodeHd tabObj kla_obj kla_fn envX)
theorem _root_.L2.SameN.seq {K:AA}{H H':Hp}{a:Addr}{xs:List V} (s:SameN H H') (h:SqL K H a xs):SqL K H' a xs:=by
 rcases h with (h | ⟨o,h⟩) | h
 ·exact .inl (.inl (s _ _ h (fun _ q=>nomatch q)))
 ·exact .inl (.inr ⟨o,s _ _ h (fun _ q=>nomatch q)⟩)
 ·exact .inr h
theorem Ze {cs:List Addr}{H:Hp}:Cn cs H (hid cs H)=H:=funext fun b=>by
 by_cases m:b∈cs
 ·rw[GL m]
 ·rw[C2 m,Ax m]
abbrev Qz:Stmt:=Rt
def Oe (o:Option Nat):V:=match o with
 | some i=>.int (i:Int)
 | none=>.non
structure U1 (P:Program) (w:World) (K:AA) (mg:Str→Option Value) (CE:Addr) (H:Hp) (f:Addr) (want:Aw→Bool):Prop where
 fn:∀H1,Same H H1→FnO H1 f
 ok:∃(fd:FuncData) (sp':Sp),(∀base:Heap,FnOk P w K mg base CX0 1 f fd ["entry"] sp')∧Binds K fd ["entry"] []∧
  ∀(H1:Hp) (ea:Addr) (e:Aw) (Q1:VK),Same H H1→EntAt CE H1 ea e→Q1 (.bl (want e)) H1→sp' [.ref ea] H1 Q1 E0
def Sb (P:Program) (w:World) (K:AA) (mg:Str→Option Value) (CB CE:Addr):Sp:=fun vs H Q _=>∃(b f:Addr) (q:BA) (nm bfl:List Int) (es:List Aw) (want:Aw→Bool),vs=[.ref b,.ref f]∧BookAt CB CE H b q nm es bfl∧U1 P w K mg CE H f want∧Pur H Q (Oe (es.findIdx? want))
theorem scNumF:AY ["book","is_wanted","number","entry"] ["book","is_wanted"] (AK Qz):=⟨rfl,rfl,rfl,by decide +kernel,rfl,by decide +kernel,by decide +kernel⟩
section
variable {P:Program}{w:World}{K:AA}{mg:Str→Option Value}{base:Heap}{CL CK CB CE CR PL PB:Addr}
theorem ok_numF {f:Addr}{fd:FuncData} (F:Fun K "number_of_first" "number_of_first" Qz f fd) (B:Blt mg) (TB:BookC K CB):FnOk P w K mg base CX0 2 f fd ["book","is_wanted"] (Sb P w K mg CB CE):=by
 refine F.ok scNumF (fun vs H Q E h=>?_) (fun cdv A outer s H vs Q E hr h=>?_)
 ·obtain⟨b,c,q,nm,bfl,es,r,rfl,_⟩:=h
  rfl
 ·obtain⟨b,c,q,nm,bfl,es,want,rfl,hB,T,k⟩:=h
  refine⟨_,AJ (FA FV rfl (QL (by rfl) B.enumerate (AB (Ak (pv 0) rfl) AD)) (LZ rfl (F6 (Bs (i:=2) scNumF.nd rfl (AZ rfl)) (F6 (Bs (i:=3) scNumF.nd rfl (AZ rfl)) La)))
    (AH (Al (Cy (QF (k:=1) (i:=1) hr (AB (pv 3) AD))) (AH (AL (pv 2))) Ap)))
   (AH (AL Cj)),?_⟩
  obtain⟨fd',sp',hF,hBd,hstep⟩:=T.ok
  obtain⟨dx,hob⟩:=hB.ob
  obtain⟨as,hbe,hpe⟩:=hB.ents
  have hlen:=CT hpe
  refine⟨_,rfl,b,CB,dx,_,_,rfl,hob,TB.cl,TB.entries,Gq,q.be,_,rfl,SqL.of hbe,?_⟩
  refine Gz (n:=es.length) (fun i σ H'=>∃(v2 v3:Option V),σ=[some (.ref b),some (.ref c),v2,v3]∧Same H H'∧∀i' < i,∀e,es[i']?=some e→want e=false) ⟨none,none,rfl,Same.refl H,fun i' h=>absurd h (Jt _)⟩ ?_ ?_ ?_ ?_
  ·rintro i σ H' hi ⟨_,_,_,s,_⟩
   exact⟨_,_,SqL.of (s _ _ hbe),BD (by rw[AG,hlen];exact hi)⟩
  ·rintro σ H' ⟨_,_,_,s,_⟩
   exact⟨_,SqL.of (s _ _ hbe),by rw[AG,hlen];exact AV _⟩
  ·rintro i y σ H' H3 hi ⟨v2,v3,rfl,s,hR⟩ ⟨Tp,x,rfl,nT,rfl,hx⟩
   have hxi:=hx _ (SqL.of (s _ _ hbe))
   rw[Aj] at hxi
   have hge:es[i]?=some es[i]:=BD hi
   obtain⟨ea,hea,hent⟩:=DE hpe hge
   rw[hea] at hxi
   have ex:V.ref ea=x:=Ae hxi
   subst ex
   have s3:Same H' (upd H' Tp (.tup [.int (i:Nat),.ref ea])):=(Same.refl H').new nT
   have hT:upd H' Tp (.tup [.int (i:Nat),.ref ea]) Tp=some (.tup [.int (i:Nat),.ref ea]):=AI
   generalize upd H' Tp (.tup [.int (i:Nat),.ref ea])=H3 at s3 hT ⊢
   have s03:=s.trans s3
   refine⟨Tp,_,rfl,.inl (.inl hT),rfl,_,_,rfl,_,_,rfl,rfl,?_⟩
   refine⟨c,fd',["entry"],sp',rfl,T.fn _ s03,hF _,hBd,_,rfl,T.fn _ s03,?_⟩
   refine hstep H3 ea es[i] _ s03 (hent.mono s03) ?_
   refine⟨_,rfl,?_⟩
   cases hz:want es[i] with
   | true =>
    refine bT rfl ?_
    refine⟨_,rfl,?_⟩
    have e1:es.findIdx? want=some i:=Me.mpr ⟨hi,hz,fun j hj=>by simpa using hR j hj _ (BD (by omega))⟩
    have kk:=k H3 s03
    rw[e1] at kk
    exact kk
   | false =>
    refine bF rfl ?_
    refine⟨_,_,rfl,s03,fun i' h' e he=>?_⟩
    rcases Jo.mp h' with q | q
    ·exact hR i' q e he
    ·subst q
     rw[hge] at he
     cases he
     exact hz
  ·rintro σ H' ⟨v2,v3,rfl,s,hR⟩
   have e1:es.findIdx? want=none:=List.findIdx?_eq_none_iff.mpr fun e he=>by
    obtain⟨j,hj⟩:=FR.mp he
    have hl:j < es.length:=(Bd.mp hj).1
    simpa using hR j hl e hj
   have kk:=k H' s
   rw[e1] at kk
   exact kk
end
abbrev Q0:Stmt:=Ru
def IX (o:Option Nat):List Int:=match o with
 | some i=>[(i:Int)]
 | none=>[-5]
def Sd:Sp:=fun vs H Q _=>∃o,vs=[Oe o]∧∀l,H l=none→Q (.ref l) (upd H l (.lst ((IX o).map V.int)))
theorem YV:AY ["found"] ["found"] (AK Q0):=⟨rfl,rfl,rfl,by decide +kernel,rfl,by decide +kernel,by decide +kernel⟩
section
variable {P:Program}{w:World}{K:AA}{mg:Str→Option Value}{base:Heap}
theorem ok_numO {f:Addr}{fd:FuncData} (F:Fun K "number_or_refusal" "number_or_refusal" Q0 f fd) (c3:Cst mg "NONE_FOUND" (.int (-5))):FnOk P w K mg base CX0 1 f fd ["found"] Sd:=by
 refine F.ok YV (fun vs H Q E h=>?_) (fun cdv A outer s H vs Q E hr h=>?_)
 ·obtain⟨o,rfl,_⟩:=h
  rfl
 ·obtain⟨o,rfl,k⟩:=h
  refine⟨_,AH (AL (LX (Ac LQ (pv 0) Cj (AR _)) (A8 (AB (AW c3 rfl) AD)) (A8 (AB (pv 0) AD)))),?_⟩
  cases o with
  | none=>exact⟨_,rfl,rfl,_,rfl,bT rfl ⟨(show 1≤sizeLine from CH (by decide)),fun l2 nl2=>k l2 nl2⟩⟩
  | some i=>exact⟨_,rfl,rfl,_,rfl,bF (decide_eq_false fun q=>nomatch q) ⟨_,rfl,(show 1≤sizeLine from CH (by decide)),fun l2 nl2=>k l2 nl2⟩⟩
end
def Wj (st:Stmt):Expr:=match (Bj st).getLast? with
 | some (.Return (some (.Call _ [.Call _ [_,l] _ _] _ _)) _)=>l
 | _=>.Constant .none 0 ⟨0,0,0,0⟩
def SW (K:AA) (CE f c' cS:Addr) (o:Obj) (qual:Str) (pick:Aw→List Int):Sp:=fun vs H Q _=>∃(ea c:Addr) (e:Aw) (r:List Int),vs=[.ref ea]∧H f=some (KO f o)∧CodeO H c' qual∧CellV H cS (.ref c)∧SqL K H c (r.map V.int)∧EntAt CE H ea e∧Q (.bl (decide (pick e=r))) H
theorem VP {H:Hp}{c:Addr}{v:V} (h:CellV H c v):Plain [c] H:=fun y hy u e=>by
 obtain⟨o,_,z,_⟩:=h
 rw[A3.mp hy,z] at e
 cases e
 exact⟨_,rfl⟩
theorem CellV.mono {H H':Hp}{c:Addr}{v:V} (s:Same H H') (h:CellV H c v):CellV H' c v:=by
 obtain⟨o,u,e,d,r⟩:=h
 exact⟨o,u,s _ _ e,d,r⟩
theorem CodeO.mono {H H':Hp}{c:Addr}{q:Str} (s:Same H H') (h:CodeO H c q):CodeO H' c q:=by
 obtain⟨o,vs,t,e,d,r⟩:=h
 exact⟨o,vs,t,s _ _ e,d,r⟩
theorem ZT {CL CK CB CE:Addr}{H:Hp}{t u:Ah}{rf:List Int}{lv bv:V} (ok:Ai→HZ→List Int) (h:Dd CL CK CB CE H t u rf lv bv) (hr:rf≠[]):
  CO (rf.map V.int) none (some 1)=(if 65536 < t.length∨65536 < u.length then [-2] else match DX t with
  | .error _=>[-6]
  | .ok L=>match L.judgeBook u with
   | .error _=>[-9]
   | .ok B=>ok L B).map V.int:=by
 unfold Dd at h
 by_cases hm:65536 < t.length∨65536 < u.length
 ·rw[if_pos hm] at h ⊢;rw[h];rfl
 ·rw[if_neg hm] at h ⊢
  cases hj:DX t with
  | error e=>rw[hj] at h;have h:rf=[-6]:=h;rw[h];rfl
  | ok L =>
   rw[hj] at h
   dsimp only at h ⊢
   cases hb:L.judgeBook u with
   | error e=>rw[hb] at h;have h:rf=[-9,(e.1:Int),(e.2:Int)]:=h;rw[h];rfl
   | ok B=>rw[hb] at h;exact absurd h.1 hr
end Fb
end
section
set_option maxRecDepth 100000
set_option maxHeartbeats 4000000
namespace Fb
open PySem PySem.Spec PyProof.Rows L2
open PySem.W (CodeHd tabObj kla_obj kla_fn envX)
abbrev JD:Stmt:=Rp
abbrev D4:Expr:=Wj JD
abbrev GA:Str:="means.<locals>.<lambda>"
abbrev P1 (cS:Addr) (pm:Value) (c':Addr) (ctv:Value):Obj:=kla_obj "<lambda>" GA (Ft D4) (Fu D4) (DD D4) [("m",cS)] pm c' ctv
theorem frM:∀y∈(DD D4).names,y.2=EI→y.1∈(["m"]:List Str):=by decide +kernel
theorem YQ {cS:Addr}:Hw ["entry","m"] ["entry"] (DD D4) [("m",cS)] :=
 ⟨rfl,rfl,rfl,by decide +kernel,rfl,by decide +kernel,by decide +kernel,rfl,fun x hx=>by
  obtain rfl:x="m":=A3.mp hx
  decide +kernel,fun y hy=>frM _ (Bg hy) rfl,C9.mpr ⟨Dc,Ji⟩⟩
def HJ (e:Aw):List Int:=zs e.says
section
variable {P:Program}{w:World}{K:AA}{mg:Str→Option Value}{base:Heap}{CE:Addr}
theorem XM {f c' cS:Addr}{pm ctv:Value} (TE:EntC K CE):FnOk P w K mg base CX0 1 f (kla_fn "<lambda>" GA (Ft D4) (Fu D4) (DD D4) [("m",cS)] pm (.ref c') ctv) ["entry"] (SW K CE f c' cS (P1 cS pm c' ctv) GA HJ):=by
 refine K4 (k:=0) YQ (fun vs H Q E h=>?_) (fun vs H Q E h=>?_)
 ·obtain⟨ea,c,e,r,rfl,_⟩:=h
  rfl
 ·obtain⟨ea,c,e,r,rfl,hf,hc,hv,hS,⟨dx,ar,am,h1,h2,h3⟩,k⟩:=h
  refine⟨hf,hc,[.ref c],.cons hv .nil,fun A outer s hr=>⟨_,Cw (EX hr.units) (Ak (pv 0) rfl) (pv 1) (AR _),?_⟩⟩
  have sN:SameN H (hid (([("m",cS)]:List (Str×Addr)).map (·.2)) H):=G1 (VP hv)
  refine⟨_,rfl,ea,CE,dx,_,_,rfl,sN _ _ h1 (fun _ z=>nomatch z),TE.cl,TE.meaning,Vx,_,rfl,_,_,A6 (SqL.of (sN _ _ h3 (fun _ z=>nomatch z))),A6 (sN.seq hS),A2 _,A2 _,?_⟩
  rw[CP]
  intro _
  rw[Ze]
  exact k
end
def HA (t u m:Ah):List Int:=if 65536 < t.length∨65536 < u.length then [-2] else match DX t with
 | .error _=>[-6]
 | .ok L=>match L.judgeBook u with
  | .error _=>[-9]
  | .ok B=>if DV m=false then [-1] else IX (B.means m)
def spMeans (K:AA) (PL PB PX:Addr):Sp:=fun vs H Q _=>∃(a b c:Addr) (t u m:Ah),vs=[.ref a,.ref b,.ref c]∧U0 K PL PB H a b t u∧SqL K H c ((zs m).map V.int)∧m.length < 80000∧BF H PX (BX D4) GA∧∀(H':Hp) (x:Addr),H' x=some (.lst ((HA t u m).map V.int))→Q (.ref x) H'
theorem scMeans:AY ["t","b","m","reading"] ["t","b","m"] (AK JD):=⟨rfl,rfl,rfl,by decide +kernel,rfl,by decide +kernel,by decide +kernel⟩
section
variable {P:Program}{w:World}{K:AA}{mg:Str→Option Value}{base:Heap}{CL CK CB CE CR PL PB PX:Addr}
theorem ok_means {f cd:Addr}{fd:FuncData} (F:Fun K "means" "means" JD f fd) (hcd:fd.code=.ref cd) (C:CodeHd base cd PX) (hbm:EL mg base) (hPL:PL≠PX) (hPB:PB≠PX) (TR:ReadC K CR) (TE:EntC K CE) (c1:Cst mg "OUT_OF_FORM" (.int (-1)))
  (g1:Gm P w K mg base "read_texts" 11 ["t","b"] (Sq K CL CK CB CE CR PL PB)) (g2:Has P w K mg "is_meaning" 2 ["told"] (Lu K)) (g3:Has P w K mg "number_or_refusal" 1 ["found"] Sd) (g4:Has P w K mg "number_of_first" 2 ["book","is_wanted"] (Sb P w K mg CB CE)):
  FnOk P w K mg base CX0 12 f fd ["t","b","m"] (spMeans K PL PB PX):=by
 refine F.okC hcd scMeans (fun vs H Q E h=>?_) (fun A outer s H vs Q E hr h=>?_)
 ·obtain⟨a,b,c,t,u,r,rfl,_⟩:=h
  rfl
 ·obtain⟨a,b,c,t,u,m,rfl,X,hC,hrl,hT,k⟩:=h
  have hr1:Room 1 _:=hr.mono (by decide)
  have hr2:Room 2 _:=hr.mono (by decide)
  obtain⟨f1,fd1,i1,i2,i3,i4⟩:=g4
  refine⟨_,AJ (BB (i:=3) scMeans.nd rfl (AZ rfl) (LW g1 hr (by rfl) (AB (pv 0) (AB (pv 1) AD))))
   (AJ (Al (Ac (HE hr.units) (Ak (pv 3) rfl) (A8 AD) (AR _)) (AH (AL (F4 GF (Ak (pv 3) rfl) F7 (F8 AO)))) Ap)
   (AJ (Al (D8 (Cy (AN g2 hr2 (by rfl) (AB (pv 2) AD)))) (AH (AL (A8 (AB (AW c1 rfl) AD)))) Ap)
   (AH (AL (AN g3 hr1 (by rfl) (AB (LV (i4 base) hr2 (by rfl) i1 i2 i3 (fun _=>rfl) (by show(["m"]:List Str).Nodup;decide) (AB (Ak (pv 3) rfl) (AB (LY (clos:=[("m",s.heap.objs.size+1)]) (qual:=GA) rfl C hbm (by rfl) (by rfl) (by rfl)) AD))) AD)))))),?_⟩
  refine⟨_,rfl,_,rfl,a,b,t,u,rfl,X.ta,X.ub,X.lt,X.lu,X.pl,X.pb,fun H1 x dx r0 rf lv bv kb t1 t2 hx hrf hR=>?_⟩
  refine⟨_,rfl,x,CR,dx,_,_,rfl,hx,TR.cl,TR.refusal,QV,A5 _,fun l nl=>?_⟩
  have s1:Same H1 (upd H1 l (.lst [])):=(Same.refl H1).new nl
  have hl:upd H1 l (.lst []) l=some (.lst (([]:List Int).map V.int)):=AI
  generalize upd H1 l (.lst [])=H2 at s1 hl ⊢
  refine⟨_,_,A6 (SqL.of (s1 _ _ hrf)),A6 (SqL.of hl),A2 _,A2 _,?_⟩
  rw[CP]
  refine⟨_,rfl,?_⟩
  by_cases hz:rf=[]
  ·subst hz
   refine bF (by rw[decide_eq_true rfl];rfl) ?_
   obtain⟨hm,L,Bk,hj,hb,xb,q,rfl,hB,hle,y,p,rfl,hLk,hW⟩:=ZS hR
   have eA:HA t u m=if DV m=false then [-1] else IX (Bk.means m):=by
    unfold HA
    rw[if_neg hm,hj]
    dsimp only
    rw[hb]
   rw[eA] at k
   have kbP:KeepBut [PL,PB] H H2:=kb.trans (KeepBut.of s1)
   have hT2:=ZR hPL hPB (FE X.pl) (FE X.pb) kbP hT
   have sT:SameT H H2:=fun b o e n=>kbP b o e fun m=>by
    obtain⟨q1,e1⟩:=FE X.pl
    obtain⟨q2,e2⟩:=FE X.pb
    rcases AS.mp m with z | z
    ·rw[z,e1] at e;cases e;exact n _ rfl
    ·rw[A3.mp z,e2] at e;cases e;exact n _ rfl
   have hC2:=sT.seq hC
   have hB2:=hB.mono s1
   have hx2:=s1 _ _ hx
   clear hC hB hLk hx hR hrf s1 kb kbP sT hl
   refine⟨_,rfl,c,zs m,rfl,hC2,by rw[Av];omega,fun H3 s3=>⟨_,rfl,?_⟩⟩
   rw[PD]
   cases hmn:DV m with
   | false =>
    rw[hmn,if_pos rfl] at k
    exact bT rfl ⟨(show 1≤sizeLine from CH (by decide)),fun l2 nl2=>k _ l2 AI⟩
   | true =>
   rw[hmn,if_neg (by decide)] at k
   refine bF rfl ?_
   have hC3:=s3.seq hC2
   have hB3:=hB2.mono s3
   have hT3:=BR s3 hT2
   refine⟨_,rfl,x,CR,dx,_,_,rfl,s3 _ _ hx2,TR.cl,TR.book,X7,hT3,fun H4 fL c' pm ctv kp2 nf hf hPt hco=>?_⟩
   intro H5 ho5 hn5 hcell
   have ho5:∀b,b∉[s.heap.objs.size+1]→H5 b=H4 b:=ho5
   have hn5:∀b∈[s.heap.objs.size+1],H4 b=none:=hn5
   have hcv:CellV H5 (s.heap.objs.size+1) (.ref c):=hcell 2 "m" (.ref c) (s.heap.objs.size+1) rfl rfl rfl rfl
   clear hcell
   generalize hcl:s.heap.objs.size+1=cS at hf ho5 hn5 hcv
   have s45:Same H4 H5:=fun b o e=>by
    rw[ho5 b fun m=>by rw[A3.mp m,hn5 cS (AU ..)] at e;cases e]
    exact e
   have kb34:KeepBut [PX] H3 H4:=fun b o e n=>kp2 b o e (by simpa using n)
   have s34:SameT H3 H4:=K2 hT3 kb34
   have s35:=s34.trans (Same.t s45)
   have hC5:=s35.seq hC3
   have hB5:=hB3.monoT s35
   have hf5:=s45 _ _ hf
   have hco5:=CodeO.mono s45 hco
   have hw:(fun (e:Aw)=>decide (HJ e=zs m))=fun (e:Aw)=>e.says==m:=by
    funext e
    unfold HJ
    rw[C3,decide_eq_true_iff,beq_iff_eq]
    exact⟨fun z=>DU z,fun z=>by rw[z]⟩
   refine⟨xb,fL,q,_,_,Bk.entries,fun e=>decide (HJ e=zs m),rfl,hB5,⟨fun H6 s6=>⟨_,_,s6 _ _ hf5,rfl⟩,_,SW K CE fL c' cS (P1 cS pm c' ctv) GA HJ,fun base=>XM TE,.all (fun us hl=>match us,hl with | [_],_=>rfl),fun H6 ea e Q1 s6 he hq=>⟨ea,c,e,zs m,rfl,s6 _ _ hf5,CodeO.mono s6 hco5,CellV.mono s6 hcv,s6.seq hC5,he,hq⟩⟩,fun H6 s6=>?_⟩
   have ecs:BW ((Dg CX0 P w K mg base ["t","b","m","reading"] "means" (AK JD) f (Az cd) A outer s H E).nox)=[cS]:=by rw[← hcl];rfl
   refine⟨fun c2 hc2=>by
    rw[ecs] at hc2
    rw[A3.mp hc2]
    obtain⟨o,_,z,_⟩:=hcv
    rw[z,s6 _ _ z],?_⟩
   refine⟨_,rfl,fun l2 nl2=>k _ l2 ?_⟩
   rw[AI,hw]
   rfl
  ·refine bT (by rw[decide_eq_false hz];rfl) ?_
   refine⟨_,rfl,x,CR,dx,_,_,rfl,s1 _ _ hx,TR.cl,TR.refusal,QV,_,rfl,r0,_,rfl,SqL.of (s1 _ _ hrf),fun p np=>?_⟩
   refine k _ p ?_
   rw[AI,ZT (fun L B=>if DV m=false then [-1] else IX (B.means m)) hR hz]
   rfl
end
end Fb
end
section
set_option maxRecDepth 100000
set_option maxHeartbeats 4000000
namespace L2
open PySem PySem.Spec PyProof.Rows
open PySem.W (WData Codec OpenSpec Well WellAll ReadsW CodeHd tabObj TabsAt noTabs)
mutual
theorem Vq {K:AA}{H H':Hp} (s:Same H H'):∀(d:WData) (v:V),Dw K H v d→Dw K H' v d
 | .none,_,h=>by cases h;exact .non
 | .bool _,_,h=>by cases h;exact .bl _
 | .int _,_,h=>by cases h;exact .int _
 | .str _,_,h=>by cases h;exact .str _
 | .bytes _,_,h=>by cases h;exact .byt _
 | .list ds,_,h=>by
  cases h with
  | lst h1 h2=>exact .lst (s.seq h1) (IP s ds _ h2)
 | .tuple ds,_,h=>by
  cases h with
  | tup h1 h2 =>
   refine .tup ?_ (IP s ds _ h2)
   rcases h1 with (q | ⟨o,q⟩) | q
   ·exact .inl (.inl (s _ _ q))
   ·exact .inl (.inr ⟨o,s _ _ q⟩)
   ·exact .inr q
 | .dict _,_,h=>by cases h
 | .set _,_,h=>by cases h
 | .frozenset _,_,h=>by cases h
 | .bytearray _,_,h=>by cases h
 | .float _,_,h=>by cases h
 | .obj _ _,_,h=>by cases h
theorem IP {K:AA}{H H':Hp} (s:Same H H'):∀(ds:List WData) (vs:List V),Ct K H vs ds→Ct K H' vs ds
 | [],_,h=>by cases h;exact .nil
 | d::ds,_,h=>by
  cases h with
  | cons h1 h2=>exact .cons (Vq s d _ h1) (IP s ds _ h2)
end
def FG (ps:List Addr) (H:Hp):Hp:=fun b=>if b∈ps then some (.tbl #[]) else H b
theorem MN {ps:List Addr}{H:Hp}{b:Addr} (h:b∈ps):FG ps H b=some (.tbl #[]):=if_pos h
theorem MO {ps:List Addr}{H:Hp}{b:Addr} (h:b∉ps):FG ps H b=H b:=if_neg h
theorem VN {P:Program}{w:World}{K:AA}{mg mb:Str→Option Value}{k:Nat}{fa:Addr}{fd:FuncData}{ps:List Str}{sp:Sp}{s1:Shared}{vals:List Value}{ds:List WData}{R:Uc}{cl:Str→Option Addr}{d0:WData}{tabs:List (Addr×Addr)}
  (KX:K.In s1.heap) (hns:s1.heap.Ns mainGlobals mg) (hb:s1.heap.Ns builtinsNs mb) (hbb:∀x:Str,x≠"__name__"→mb x=bootBuiltins x) (hlim:s1.heap.NoLimit) (hg:s1.gens=#[]) (hbm:EL mg s1.heap) (hT:TabsAt tabs s1.heap) (hKT:noTabs K=true)
  (hwl:WellAll w.params s1.heap vals ds) (hpl:DF ds=true) (hwt:∀d∈ds,d.weight≤1048576) (hr:Room k callerA)
  (F:∀base:Heap,K.In base→base.Ns mainGlobals mg→(∀q∈tabs,CodeHd base q.1 q.2)→EL mg base→FnOk P w K mg base CX0 k fa fd ps sp)
  (hbind:∀(s:Shared) (us:List Value),us.length=ps.length→BindsTo s fd ⟨us,[]⟩ (ps.zip us)) (hlen:ds.length=ps.length)
  (hsp:∀(H:Hp) (xs:List V),(∀q∈tabs,H q.2=some (.tbl #[]))→Ct K H xs ds→sp xs H (fun v H'=>Dw K H' v d0) E0):
  codeAny (model P w) callerA (.call (.ref fa) ⟨vals,[]⟩) (fun r s'=>∃u as,r=.ok (.ret u)∧ReadsW R cl s'.heap u d0 as∧OldK s1.heap s'.heap∧s'.os=s1.os∧AllBare s'.gens) s1:=by
 obtain⟨A,hoU,ar⟩:=Hx ds vals hwl hpl hwt
 have tabO:∀b∈tabs.map (·.2),s1.heap.get? b=some (tabObj #[]):=fun b m=>by
  obtain⟨q,hq,rfl⟩:=BP.mp m
  exact(hT q hq).2
 have argN:∀b∈tabs.map (·.2),Bp K s1.heap A b=none:=fun b m=>by
  cases e:Bp K s1.heap A b with
  | none=>rfl
  | some u =>
   obtain⟨_,vs,_,_,⟨z,_⟩ | ⟨z,_⟩⟩:=Kb ar e <;> (rw[tabO b m] at z;cases z)
 have kN:∀b∈tabs.map (·.2),K.lookup b=none:=fun b m=>by
  cases e:K.lookup b with
  | none=>rfl
  | some o =>
   have z:=KX b o e
   rw[tabO b m] at z
   cases z
   have h2:=Cg.mp hKT (b,_) (PySem.W.mem_of_lookupK e)
   exact absurd (show false=true from h2) Ag
 have sA:Same (Bp K s1.heap A) (FG (tabs.map (·.2)) (Bp K s1.heap A)):=fun b o e=>by
  rw[MO fun m=>by rw[argN b m] at e;cases e]
  exact e
 have okA:HOk P w (Bp K s1.heap A) s1.heap:=U8 ar
 have okT:HOk P w (FG (tabs.map (·.2)) (Bp K s1.heap A)) s1.heap:=fun b o e=>by
  by_cases m:b∈tabs.map (·.2)
  ·rw[MN m] at e
   cases e
   exact tabO b m
  ·rw[MO m] at e
   exact(okA b o e).stay (fun _ _ _ q=>q) (fun c q=>sA c _ q) fun c xs q=>sA c _ q
 have kinds:∀b u,FG (tabs.map (·.2)) (Bp K s1.heap A) b=some u→K.lookup b=none∧((u=.tbl #[]∧b∈tabs.map (·.2))∨∃o v,u=.frz o v∧∃c vs,o={ cls:=.type c,data:=.seq vs }∧s1.heap.get? b=some o):=fun b u e=>by
  by_cases m:b∈tabs.map (·.2)
  ·rw[MN m] at e
   cases e
   exact⟨kN b m,.inl ⟨rfl,m⟩⟩
  ·rw[MO m] at e
   obtain⟨h1,vs,_,_,⟨z,rfl⟩ | ⟨z,rfl⟩⟩:=Kb ar e
   ·exact⟨h1,.inr ⟨_,_,rfl,_,_,rfl,z⟩⟩
   ·exact⟨h1,.inr ⟨_,_,rfl,_,_,rfl,z⟩⟩
 have hS:=IP sA _ _ (IQ KX ar ds vals hwl hpl hoU)
 have hV:=GN hoU
 have htb:∀q∈tabs,FG (tabs.map (·.2)) (Bp K s1.heap A) q.2=some (.tbl #[]):=fun q hq=>MN (BP.mpr ⟨q,hq,rfl⟩)
 generalize FG (tabs.map (·.2)) (Bp K s1.heap A)=H at okT kinds hS htb
 have free:∀{b:Addr} {o:Obj},s1.heap.get? b=some o→o≠tabObj #[]→(∀vs n,o.data≠.seq vs n)→H b=none:=fun {b o} e n1 n2=>by
  cases q:H b with
  | none=>rfl
  | some u =>
   rcases(kinds b u q).2 with ⟨_,m⟩ | ⟨o',v,_,c,vs,rfl,z⟩
   ·rw[tabO b m] at e;cases e;exact(n1 rfl).elim
   ·rw[z] at e;cases e;exact(n2 _ _ rfl).elim
 have at_:∀{b:Addr} {o:Obj},s1.heap.get? b=some o→H b=none→(CG s1.heap H).get? b=some o:=fun e n=>Oz e n
 have dictK:∀{b:Addr} {o:Obj} {es:Array DictEntry} {ep:Nat},s1.heap.get? b=some o→o.data=.dict es ep→(CG s1.heap H).get? b=some o:=fun e d=>at_ e (free e (fun z=>by rw[z] at d;cases d) fun vs n z=>by rw[z] at d;cases d)
 have nsK:∀{b:Addr} {m:Str→Option Value},s1.heap.Ns b m→(CG s1.heap H).Ns b m:=fun ⟨o,es,ep,e,d,r⟩=>⟨o,es,ep,dictK e d,d,r⟩
 have hKb:K.In (CG s1.heap H):=fun b o e=>at_ (KX b o e) (by
  cases q:H b with
  | none=>rfl
  | some u=>rw[(kinds b u q).1] at e;cases e)
 have hM:Mod K mg (CG s1.heap H):=⟨hKb,nsK hns,⟨mb,nsK hb,hbb⟩,let ⟨mc,h1,h2⟩:=hlim;⟨mc,nsK h1,h2⟩⟩
 have e0:Env0 P w K mg (CG s1.heap H) callerA [] s1 H:=⟨rfl,hM,fun b o e=>P2 e,Hk (O0 _ _),trivial,fun b hb=>absurd (show b∈([]:List Addr) from hb) (by simp),okT,.of_eq hg⟩
 have hCd:∀q∈tabs,CodeHd (CG s1.heap H) q.1 q.2:=fun q hq=>by
  obtain⟨o,vs,f1,t1,f2,t2,f3,f4,t4,e1,e2,e3,r⟩:=(hT q hq).1
  exact⟨o,vs,f1,t1,f2,t2,f3,f4,t4,at_ e1 (free e1 (fun z=>by rw[z] at e2;cases e2) fun vs n z=>by rw[z] at e3;cases e3),e2,e3,r⟩
 have hBm:EL mg (CG s1.heap H):=by
  obtain⟨bm,ob,b1,b2,b3,b4,b5,b6⟩:=hbm
  exact⟨bm,ob,b1,b2,at_ b3 (free b3 (fun z=>by rw[z] at b4;cases b4) fun vs n z=>by rw[z] at b6;cases b6),b4,b5,b6⟩
 have hl:vals.length=ps.length:=by rw[JS hwl];exact hlen
 refine FZ ((F _ hKb (nsK hns) hCd hBm).run callerA [] s1 H ⟨vals,[]⟩ vals (vals.map toV) _ _ hr e0 (hbind s1 vals hl) hV (hsp H _ htb hS)) fun r s' x=>?_
 cases r with
 | error e=>exact BL x
 | ok fl =>
  cases fl with
  | next=>exact BL x
  | brk=>exact BL x
  | cont=>exact BL x
  | ret u =>
   obtain⟨v,H',os,bare,un,hok',r',q⟩:=x
   have kept:∀b o,s1.heap.get? b=some o→b∉tabs.map (·.2)→s'.heap.get? b=some o:=fun b o e n=>by
    cases q2:H b with
    | none=>exact un.keep b o e q2 (by intro z;exact absurd (show b∈([]:List Addr) from z) (by simp)) (by simp)
    | some u2 =>
     rcases(kinds b u2 q2).2 with ⟨_,m⟩ | ⟨o',v',rfl,_,_,_,z⟩
     ·exact(n m).elim
     ·have z2:=un.frzs b o' _ q2
      obtain⟨e2,_⟩:=hok' b _ z2
      rw[z] at e
      cases e
      exact e2
   have grown:∀b o,s1.heap.get? b=some o→b∈tabs.map (·.2)→isCodeTable s1.heap b∧o=tabObj #[]∧∃qs,s'.heap.get? b=some (tabObj qs):=fun b o e m=>by
    obtain⟨q,hq,rfl⟩:=BP.mp m
    have e2:=(hT q hq).2
    rw[e] at e2
    obtain⟨more,z⟩:=un.tbls _ _ (htb q hq)
    exact⟨((hT q hq).1.tab (hT q hq).2).isCodeTable,Ae e2,_,hok' _ _ z⟩
   have KX':K.In s'.heap:=fun b o e=>kept b o (KX b o e) fun m=>by rw[kN b m] at e;cases e
   obtain⟨as,hrd⟩:=Dw.reads (R:=R) (cl:=cl) hok' KX' d0 v u q r'
   refine⟨u,as,rfl,hrd,⟨fun b o e=>?_,fun b o e=>?_⟩,os,bare⟩
   ·by_cases m:b∈tabs.map (·.2)
    ·obtain⟨h1,rfl,qs,h2⟩:=grown b o e m
     exact .inr (.inl ⟨h1,rfl,#[],qs,rfl,by rw[Array.empty_append];exact h2⟩)
    ·exact .inl (kept b o e m)
   ·by_cases m:b∈tabs.map (·.2)
    ·obtain⟨_,_,qs,h2⟩:=grown b o e m
     exact⟨_,h2⟩
    ·exact⟨o,kept b o e m⟩
end L2
end
section
set_option maxRecDepth 100000
set_option maxHeartbeats 4000000
namespace Fb
open PySem PySem.Spec PyProof.Rows L2
open PySem.W (nsIn codeIn keepIn findIn isFn fnOf plainGet hasDictIn plainOver makesIn)
section
variable {K:AA}{h:Heap}{mg:Str→Option Value}
theorem Vh {x nm qual:Str}{st:Stmt}{ps:List Str}{f:Addr}{oc kV doc pm cdv ct:Value}{od an:Option Addr}{osl:Array (Option Value)} (X:K.In h) (G:h.Ns mainGlobals mg) (a:nsIn K mainGlobals x=some (some (.ref f)))
  (l:K.lookup f=some ⟨oc,od,.func (fnOf nm qual (CF st) (Bj st) (AK st) .none kV doc pm an cdv ct),osl⟩) (c:codeIn K cdv qual=true) (k:keepIn K (.ref f)=true)
  (b:∀(kV doc pm:Value) (an:Option Addr) (cdv ct:Value) (us:List Value),us.length=ps.length→bindArgs (fnOf nm qual (CF st) (Bj st) (AK st) .none kV doc pm an cdv ct) ⟨us,[]⟩=pure (ps.zip us)):
  ∃f fd,Def K mg x nm qual st ps f fd∧fd.code=cdv∧∀(s:Shared) (us:List Value),us.length=ps.length→BindsTo s fd ⟨us,[]⟩ (ps.zip us) :=
 ⟨f,_,⟨Fn l c k,FY X G a,(Fn l c k).binds b⟩,rfl,fun s us hl=>.of_eq (b _ _ _ _ _ _ us hl)⟩
theorem OH {x nm qual:Str}{st:Stmt}{ps:List Str} (cd:Addr) {f:Addr}{oc kV doc pm ct:Value}{od an:Option Addr}{osl:Array (Option Value)} (X:K.In h) (G:h.Ns mainGlobals mg) (a:nsIn K mainGlobals x=some (some (.ref f)))
  (l:K.lookup f=some ⟨oc,od,.func (fnOf nm qual (CF st) (Bj st) (AK st) .none kV doc pm an (.ref cd) ct),osl⟩) (c:codeIn K (.ref cd) qual=true) (k:keepIn K (.ref f)=true)
  (b:∀(kV doc pm:Value) (an:Option Addr) (cdv ct:Value) (us:List Value),us.length=ps.length→bindArgs (fnOf nm qual (CF st) (Bj st) (AK st) .none kV doc pm an cdv ct) ⟨us,[]⟩=pure (ps.zip us)):
  ∃f fd,Def K mg x nm qual st ps f fd∧fd.code=.ref cd∧∀(s:Shared) (us:List Value),us.length=ps.length→BindsTo s fd ⟨us,[]⟩ (ps.zip us) :=
 ⟨f,_,⟨Fn l c k,FY X G a,(Fn l c k).binds b⟩,rfl,fun s us hl=>.of_eq (b _ _ _ _ _ _ us hl)⟩
structure ClsD (K:AA) (mg:Str→Option Value) (x qual:Str) (st:Stmt) (ps:List Str) (C f:Addr) (fd:FuncData):Prop where
 at_:mg x=some (.ref C)
 cl:Cls K C
 mks:Mk K C f
 fn:Fun K "__init__" qual st f fd
 bd:Binds K fd ps []
theorem VR {x qual:Str}{st:Stmt}{ps:List Str} (C:Addr) {f:Addr}{oc kV doc pm cdv ct:Value}{od an:Option Addr}{osl:Array (Option Value)} (X:K.In h) (G:h.Ns mainGlobals mg) (a:nsIn K mainGlobals x=some (some (.ref C)))
  (a1:findIn K (.ref C) "__init__"=some (some (.ref f))) (i1:isFn K (.ref f)=true)
  (l:K.lookup f=some ⟨oc,od,.func (fnOf "__init__" qual (CF st) (Bj st) (AK st) .none kV doc pm an cdv ct),osl⟩) (c:codeIn K cdv qual=true) (k:keepIn K (.ref f)=true)
  (pg:plainGet K C NF=true) (hd:hasDictIn K C=true) (po:plainOver K C=true) (sa:findIn K (.ref C) "__setattr__"=some (some (.builtin "object.__setattr__"))) (mk:makesIn K C=true) (kc:keepIn K (.ref C)=true)
  (b:∀(kV doc pm:Value) (an:Option Addr) (cdv ct:Value) (us:List Value),us.length=ps.length→bindArgs (fnOf "__init__" qual (CF st) (Bj st) (AK st) .none kV doc pm an cdv ct) ⟨us,[]⟩=pure (ps.zip us)):
  ∃f fd,ClsD K mg x qual st ps C f fd :=
 ⟨f,_,FY X G a,⟨pg,hd,po,sa⟩,⟨mk,a1,i1,kc⟩,Fn l c k,(Fn l c k).binds b⟩
theorem VV {x:Str}{n:Int}{t:Tok} (X:K.In h) (G:h.Ns mainGlobals mg) (a:nsIn K mainGlobals x=some (some (.int n t))):Cst mg x (.int n):=⟨_,FY X G a,⟨t,rfl⟩⟩
theorem VW {x z:Str}{t:Tok} (X:K.In h) (G:h.Ns mainGlobals mg) (a:nsIn K mainGlobals x=some (some (.str z t))):Cst mg x (.str z):=⟨_,FY X G a,⟨t,rfl⟩⟩
theorem VX {x y1 y2 y3:Str}{t1 t2 t3:Tok}{a:Addr}{od:Option Addr}{n:Nat}{sl:Array (Option Value)} (X:K.In h) (G:h.Ns mainGlobals mg) (e:nsIn K mainGlobals x=some (some (.ref a))) (l:K.lookup a=some ⟨.type "tuple",od,.seq #[.str y1 t1,.str y2 t2,.str y3 t3] n,sl⟩):
 KS K mg x ([y1,y2,y3].map V.str):=⟨a,FY X G e,fun H=>.inr ⟨_,_,_,l,rfl,rfl,(show 3≤sizeLine from CH (by decide)),.cons ⟨t1,rfl⟩ (.cons ⟨t2,rfl⟩ (.cons ⟨t3,rfl⟩ .nil))⟩⟩
theorem XF {x:Str} (X:K.In h) (G:h.Ns mainGlobals mg) (e:nsIn K mainGlobals x=some none):mg x=none:=PySem.W.mg_none_of X G e
end
theorem Def.hasB {P:Program}{w:World}{K:AA}{mg:Str→Option Value}{base:Heap}{x nm qual:Str}{st:Stmt}{ps:List Str}{f:Addr}{fd:FuncData}{k:Nat}{sp:Sp} (D:Def K mg x nm qual st ps f fd) (h:FnOk P w K mg base CX0 k f fd ps sp):Gm P w K mg base x k ps sp :=
 ⟨f,fd,D.at_,D.fn.kp,D.bd,h⟩
theorem ClsD.has {P:Program}{w:World}{K:AA}{mg:Str→Option Value}{x qual:Str}{st:Stmt}{ps:List Str}{C f:Addr}{fd:FuncData}{k:Nat}{sp:Sp} (D:ClsD K mg x qual st ps C f fd) (h:∀base:Heap,FnOk P w K mg base CX0 k f fd ps sp):EM P w K mg x C k ps sp :=
 ⟨D.at_,f,fd,D.mks,D.bd,h⟩
theorem zs_of:∀{l:List Int},(∀n∈l,0≤n∧n≤255)→zs (l.map fun (n:Int)=>CY n.toNat)=l
 | [],_=>rfl
 | n::l,h=>by
  have ih:=zs_of (l:=l) fun m hm=>h m (As _ hm)
  obtain⟨h1,h2⟩:=h n AU
  show((CY n.toNat).toNat:Int)::zs (l.map fun (n:Int)=>CY n.toNat)=n::l
  rw[ih,UInt8.toNat_ofNat']
  have:n.toNat % 2 ^ 8=n.toNat:=Nat.mod_eq_of_lt (by omega)
  rw[this,Int.toNat_of_nonneg h1]
theorem MH {l:List Int} (h:∀n∈l,0≤n∧n≤255):HY l=some (l.map fun (n:Int)=>CY n.toNat):=by
 unfold HY
 rw[if_pos]
 unfold NeutralIO.bytes
 rw[Cg]
 intro n hn
 rw[BI,decide_eq_true_iff,decide_eq_true_iff]
 exact h n hn
end Fb
end
section
set_option maxRecDepth 100000
set_option maxHeartbeats 4000000
namespace Fb
open PySem PySem.Spec PyProof.Rows L2
theorem means_due {t u s:List Int} (ht:∀n∈t,0≤n∧n≤255) (hu:∀n∈u,0≤n∧n≤255) (hs:∀n∈s,0≤n∧n≤255):PyWqbacu.means t u s=HA (t.map fun (n:Int)=>CY n.toNat) (u.map fun (n:Int)=>CY n.toNat) (s.map fun (n:Int)=>CY n.toNat):=by
 show(match TN [[5],t,u,s] with
  | some x=>(JW x).ret::(((JW x).nums.map fun (n:Nat)=>(n:Int))++(JW x).bytes.map fun (b:UInt8)=>(b.toNat:Int))
  | none=>[])=_
 have e:TN [[5],t,u,s]=some (.means (t.map fun (n:Int)=>CY n.toNat) (u.map fun (n:Int)=>CY n.toNat) (s.map fun (n:Int)=>CY n.toNat)):=by
  show(do return FlagsC3.Call.means (← HY t) (← HY u) (← HY s))=_
  rw[MH ht,MH hu,MH hs]
  rfl
 rw[e]
 generalize (t.map fun (n:Int)=>CY n.toNat)=tb
 generalize (u.map fun (n:Int)=>CY n.toNat)=ub
 generalize (s.map fun (n:Int)=>CY n.toNat)=m
 show(FlagsC3.ofBook tb ub FlagsC3.amiss fun _ B=>if DV m=false then Flags.BAD else match B.means m with
   | some i=>Flags.says (i:Nat)
   | none=>Flags.NONE).ret::_=_
 unfold JW FlagsC3.ofBook HA
 by_cases hm:65536 < tb.length∨65536 < ub.length
 ·have hm':JV < tb.length∨JV < ub.length:=hm
  simp only[if_pos hm']
  rw[if_pos hm]
  rfl
 ·have hm':¬(JV < tb.length∨JV < ub.length):=hm
  simp only[if_neg hm']
  rw[if_neg hm]
  cases DX tb with
  | error e=>rfl
  | ok L =>
   dsimp only
   cases L.judgeBook ub with
   | error e=>rfl
   | ok B =>
    dsimp only
    by_cases h2:DV m=false
    ·simp only[if_pos h2]
     rfl
    ·simp only[if_neg h2]
     cases B.means m with
     | none=>rfl
     | some i=>rfl
end Fb
end
section
set_option maxRecDepth 100000
set_option maxHeartbeats 4000000
namespace Fb
open PySem PySem.Spec PyProof.Rows L2
open PySem.W (nsIn codeIn keepIn findIn isFn fnOf plainGet hasDictIn plainOver makesIn)
def G0 (h:Heap):List Addr→AA
 | []=>[]
 | a::as=>match h.get? a with
  | some o=>(a,o)::G0 h as
  | none=>G0 h as
theorem Kw (h:Heap):∀as:List Addr,AA.In (G0 h as) h
 | [],a,o,e=>nomatch e
 | b::as,a,o,e=>by
  unfold G0 at e
  cases hb:h.get? b with
  | none=>rw[hb] at e;exact Kw h as a o e
  | some u =>
   rw[hb] at e
   dsimp only at e
   rw[DZ] at e
   by_cases q:a=b
   ·subst q
    rw[beq_self_eq_true] at e
    cases e
    exact hb
   ·rw[beq_false_of_ne q] at e
    exact Kw h as a o e
def Kf (fd:FuncData):FuncData:={ fd with kwdefaults:=.none,doc:=.none,pyModule:=.none,annotations:=none,code:=.none,closureTuple:=.none }
def AX (nm qual:Str) (st:Stmt):FuncData:=fnOf nm qual (CF st) (Bj st) (AK st) .none .none .none .none none .none .none
theorem VF {fd:FuncData}{nm qual:Str}{st:Stmt} (e:Kf fd=AX nm qual st):fd=fnOf nm qual (CF st) (Bj st) (AK st) .none fd.kwdefaults fd.doc fd.pyModule fd.annotations fd.code fd.closureTuple:=by
 cases fd
 unfold Kf AX fnOf at e
 injection e with e1 e2 e3 e4 e5 e6 e7 e8 _ _ _ _ _ _ e9
 subst e1 e2 e3 e4 e5 e6 e7 e8 e9
 rfl
def Gy (K:AA) (qual:Str) (f:Addr):Option (FuncData×Bool):=match K.lookup f with
 | some ⟨_,_,.func fd,_⟩=>some (Kf fd,codeIn K fd.code qual&&keepIn K (.ref f))
 | _=>none
theorem IW {K:AA}{nm qual:Str}{st:Stmt}{f:Addr} (e:Gy K qual f=some (AX nm qual st,true)):
  ∃(oc:Value) (od:Option Addr) (kV doc pm:Value) (an:Option Addr) (cdv ct:Value) (osl:Array (Option Value)),K.lookup f=some ⟨oc,od,.func (fnOf nm qual (CF st) (Bj st) (AK st) .none kV doc pm an cdv ct),osl⟩∧codeIn K cdv qual=true∧keepIn K (.ref f)=true:=by
 unfold Gy at e
 split at e
 ·rename_i oc od fd osl hl
  injection e with e
  injection e with e1 e2
  rw[BI] at e2
  exact⟨oc,od,fd.kwdefaults,fd.doc,fd.pyModule,fd.annotations,fd.code,fd.closureTuple,osl,by rw[hl,← VF e1],e2.1,e2.2⟩
 ·cases e
def Ab (K:AA) (x qual:Str):Option (FuncData×Bool):=match nsIn K mainGlobals x with
 | some (some (.ref f))=>Gy K qual f
 | _=>none
section
variable {K:AA}{h:Heap}{mg:Str→Option Value}
theorem def_seen {x nm qual:Str}{st:Stmt}{ps:List Str} (X:K.In h) (G:h.Ns mainGlobals mg) (e:Ab K x qual=some (AX nm qual st,true))
  (b:∀(kV doc pm:Value) (an:Option Addr) (cdv ct:Value) (us:List Value),us.length=ps.length→bindArgs (fnOf nm qual (CF st) (Bj st) (AK st) .none kV doc pm an cdv ct) ⟨us,[]⟩=pure (ps.zip us)):
  ∃f fd,Def K mg x nm qual st ps f fd∧∀(s:Shared) (us:List Value),us.length=ps.length→BindsTo s fd ⟨us,[]⟩ (ps.zip us):=by
 unfold Ab at e
 split at e
 ·rename_i f a
  obtain⟨oc,od,kV,doc,pm,an,cdv,ct,osl,l,c,k⟩:=IW e
  obtain⟨f,fd,d,_,hb⟩:=Vh X G a l c k b
  exact⟨f,fd,d,hb⟩
 ·cases e
def Ex (K:AA) (x:Str):Option Addr:=match nsIn K mainGlobals x with
 | some (some (.ref f))=>(match K.lookup f with
  | some ⟨_,_,.func fd,_⟩=>(match fd.code with
   | .ref c=>some c
   | _=>none)
  | _=>none)
 | _=>none
theorem def_seenC {x nm qual:Str}{st:Stmt}{ps:List Str}{c0:Addr} (X:K.In h) (G:h.Ns mainGlobals mg) (e:Ab K x qual=some (AX nm qual st,true)) (ec:Ex K x=some c0)
  (b:∀(kV doc pm:Value) (an:Option Addr) (cdv ct:Value) (us:List Value),us.length=ps.length→bindArgs (fnOf nm qual (CF st) (Bj st) (AK st) .none kV doc pm an cdv ct) ⟨us,[]⟩=pure (ps.zip us)):
  ∃f fd,Def K mg x nm qual st ps f fd∧fd.code=.ref c0:=by
 unfold Ab at e
 unfold Ex at ec
 split at e
 ·rename_i f a
  rw[a] at ec
  dsimp only at ec
  obtain⟨oc,od,kV,doc,pm,an,cdv,ct,osl,l,c,k⟩:=IW e
  rw[l] at ec
  dsimp only at ec
  cases cdv with
  | ref c1 =>
   dsimp only at ec
   cases ec
   obtain⟨f,fd,d,hc,hb⟩:=OH c0 X G a l c k b
   exact⟨f,fd,d,hc⟩
  | _=>cases ec
 ·cases e
theorem def_seenD {x nm qual:Str}{st:Stmt}{ps:List Str}{c0:Addr} (X:K.In h) (G:h.Ns mainGlobals mg) (e:Ab K x qual=some (AX nm qual st,true)) (ec:Ex K x=some c0)
  (b:∀(kV doc pm:Value) (an:Option Addr) (cdv ct:Value) (us:List Value),us.length=ps.length→bindArgs (fnOf nm qual (CF st) (Bj st) (AK st) .none kV doc pm an cdv ct) ⟨us,[]⟩=pure (ps.zip us)):
  ∃f fd,Def K mg x nm qual st ps f fd∧fd.code=.ref c0∧∀(s:Shared) (us:List Value),us.length=ps.length→BindsTo s fd ⟨us,[]⟩ (ps.zip us):=by
 unfold Ab at e
 unfold Ex at ec
 split at e
 ·rename_i f a
  rw[a] at ec
  dsimp only at ec
  obtain⟨oc,od,kV,doc,pm,an,cdv,ct,osl,l,c,k⟩:=IW e
  rw[l] at ec
  dsimp only at ec
  cases cdv with
  | ref c1 =>
   dsimp only at ec
   cases ec
   obtain⟨f,fd,d,hc,hb⟩:=OH c0 X G a l c k b
   exact⟨f,fd,d,hc,hb⟩
  | _=>cases ec
 ·cases e
def LL (K:AA) (C:Addr) (f:Str):Bool:=match findIn K (.ref C) f with
 | some none=>true
 | _=>false
theorem XE {C:Addr}{f:Str} (e:LL K C f=true):findIn K (.ref C) f=some none:=by
 unfold LL at e
 split at e
 ·assumption
 ·cases e
def Lp (K:AA) (C:Addr):Bool:=match findIn K (.ref C) "__setattr__" with
 | some (some (.builtin z))=>decide (z="object.__setattr__")
 | _=>false
theorem Yi {C:Addr} (e:Lp K C=true):findIn K (.ref C) "__setattr__"=some (some (.builtin "object.__setattr__")):=by
 unfold Lp at e
 split at e
 ·rename_i z hz
  rw[hz,of_decide_eq_true e]
 ·cases e
def LF (K:AA) (x:Str) (C:Addr):Bool:=match nsIn K mainGlobals x with
 | some (some (.ref c))=>decide (c=C)
 | _=>false
theorem W6 {C:Addr}{x:Str} (e:LF K x C=true):nsIn K mainGlobals x=some (some (.ref C)):=by
 unfold LF at e
 split at e
 ·rename_i c hc
  rw[hc,of_decide_eq_true e]
 ·cases e
def Eu (K:AA) (x:Str) (C:Addr) (fields:List Str):Bool :=
 LF K x C&&(plainGet K C NF&&(hasDictIn K C&&(plainOver K C&&(Lp K C&&(makesIn K C&&(keepIn K (.ref C)&&fields.all (LL K C)))))))
def Ew (K:AA) (qual:Str) (C:Addr):Option ((FuncData×Bool)×Bool):=match findIn K (.ref C) "__init__" with
 | some (some (.ref f))=>(Gy K qual f).map fun p=>(p,isFn K (.ref f))
 | _=>none
theorem cls_seen {x qual:Str}{st:Stmt}{ps:List Str}{C:Addr}{fields:List Str} (X:K.In h) (G:h.Ns mainGlobals mg) (e:Ew K qual C=some ((AX "__init__" qual st,true),true)) (eb:Eu K x C fields=true)
  (b:∀(kV doc pm:Value) (an:Option Addr) (cdv ct:Value) (us:List Value),us.length=ps.length→bindArgs (fnOf "__init__" qual (CF st) (Bj st) (AK st) .none kV doc pm an cdv ct) ⟨us,[]⟩=pure (ps.zip us)):
  (∃f fd,ClsD K mg x qual st ps C f fd)∧∀f∈fields,findIn K (.ref C) f=some none:=by
 unfold Eu at eb
 simp only[BI] at eb
 obtain⟨b1,b2,b3,b4,b5,b6,b7,b8⟩:=eb
 refine⟨?_,fun f hf=>XE (Cg.mp b8 f hf)⟩
 unfold Ew at e
 split at e
 ·rename_i f a
  cases hq:Gy K qual f with
  | none=>rw[hq] at e;cases e
  | some p =>
   rw[hq] at e
   injection e with e
   injection e with e1 e2
   rw[e1] at hq
   obtain⟨oc,od,kV,doc,pm,an,cdv,ct,osl,l,c,k⟩:=IW hq
   exact VR C X G (W6 b1) a e2 l c k b2 b3 b4 (Yi b5) b6 b7 b
 ·cases e
def A4 (K:AA) (x:Str):Option Int:=match nsIn K mainGlobals x with
 | some (some (.int n _))=>some n
 | _=>none
theorem int_seen {x:Str}{n:Int} (X:K.In h) (G:h.Ns mainGlobals mg) (e:A4 K x=some n):Cst mg x (.int n):=by
 unfold A4 at e
 split at e
 ·rename_i m t a
  cases e
  exact VV X G a
 ·cases e
def L4 (K:AA) (x:Str):Option Str:=match nsIn K mainGlobals x with
 | some (some (.str n _))=>some n
 | _=>none
theorem str_seen {x z:Str} (X:K.In h) (G:h.Ns mainGlobals mg) (e:L4 K x=some z):Cst mg x (.str z):=by
 unfold L4 at e
 split at e
 ·rename_i m t a
  cases e
  exact VW X G a
 ·cases e
def MI (K:AA) (x:Str):Option (Bool×Str×Str×Str):=match nsIn K mainGlobals x with
 | some (some (.ref a))=>(match K.lookup a with
  | some ⟨.type t,_,.seq vs _,_⟩=>(match vs with
   | ⟨[.str y1 _,.str y2 _,.str y3 _]⟩=>some (decide (t="tuple"),y1,y2,y3)
   | _=>none)
  | _=>none)
 | _=>none
theorem tup_seen {x y1 y2 y3:Str} (X:K.In h) (G:h.Ns mainGlobals mg) (e:MI K x=some (true,y1,y2,y3)):KS K mg x ([y1,y2,y3].map V.str):=by
 unfold MI at e
 split at e
 ·rename_i a ha
  split at e
  ·rename_i t od vs n sl hl
   split at e
   ·rename_i z1 t1 z2 t2 z3 t3
    injection e with e
    injection e with e0 e
    injection e with e1 e
    injection e with e2 e3
    subst e1 e2 e3
    rw[of_decide_eq_true e0] at hl
    exact VX X G ha hl
   ·cases e
  ·cases e
 ·cases e
def Dj (K:AA) (x:Str):Bool:=match nsIn K mainGlobals x with
 | some none=>true
 | _=>false
theorem no_seen {x:Str} (X:K.In h) (G:h.Ns mainGlobals mg) (e:Dj K x=true):mg x=none:=by
 unfold Dj at e
 split at e
 ·rename_i a
  exact XF X G a
 ·cases e
end
end Fb
end
section
set_option maxRecDepth 100000
set_option maxHeartbeats 4000000
namespace L2
open PySem PySem.Spec PyProof.Rows
open PySem.W (WData Codec OpenSpec Well WellAll ReadsW CodeHd tabObj TabsAt noTabs)
theorem walk_hook {r:OpenSpec}{k:Nat}{q:Program}{loose:List Str}{XP:(Str→Option Value)→Heap→Prop}{YP:World→Heap→Prop}{d:DefRec}{Gd:AA→Prop}{ps:List Str}{sp:AA→Sp}{tabs:List (Addr×Addr)}
  (hwell:r.wellSaid=true) (hdf:d.params.defaults=[]) (hlen:r.args.length=ps.length) (hr:Room k callerA)
  (hY:∀(w:World) (h:Heap),YP w h→∃K:AA,K.In h∧Gd K) (hKT:∀K:AA,Gd K→noTabs K=true)
  (hT:∀(K:AA) (lo:List Str) (mean:ExcName→Option Value) (mg mb:Str→Option Value) (h:Heap),Gd K→K.In h→Top q lo mean mg mb h→TabsAt tabs h)
  (F:∀(w:World) (K:AA) (mg:Str→Option Value) (fa:Addr) (h:Heap),Gd K→K.In h→h.Ns mainGlobals mg→mg d.name=some (.ref fa)→
   ∃fd:FuncData,(∀(s:Shared) (us:List Value),us.length=ps.length→BindsTo s fd ⟨us,[]⟩ (ps.zip us))∧
    ∀base:Heap,K.In base→base.Ns mainGlobals mg→(∀q∈tabs,CodeHd base q.1 q.2)→EL mg base→FnOk r.prog w K mg base CX0 k fa fd ps (sp K))
  (hsp:∀(K:AA) (H:Hp) (xs:List V) (a:Codec.denoteAll r.args),(∀q∈tabs,H q.2=some (.tbl #[]))→Codec.withinAll r.args a=true→Codec.app r.args r.asked a=true→Ct K H xs (Codec.encAll r.args a)→
   sp K xs H (fun v H'=>Dw K H' v (r.ret.enc (Codec.app r.args r.f a))) E0):
  PySem.W.WalkOS q loose XP YP r d [] (fun f vs=>NR f vs):=by
 intro w s_0 s1 mg mb G Y fa o pm cd doc dV kV ho hd hcd hD hmg hg args vals as hpre hlay hrd hwl hlo
 obtain⟨a,e1,e2⟩:=PySem.W.os_pre_some hpre
 obtain⟨e3,hwi⟩:=Codec.encAll_of_decAll r.args args a e1
 subst e3
 obtain⟨K,KX,gK⟩:=hY w _ Y
 obtain⟨fd,hb,hF⟩:=F w K mg fa _ gK KX G.T.g hmg
 refine PySem.W.enter_call (FZ (VN (R:=[]) (cl:=classAt s_0.heap) (d0:=r.ret.enc (Codec.app r.args r.f a)) KX G.T.g G.T.b G.T.builtins G.T.nolimit hg G.T.bmain (hT K _ _ mg mb _ gK KX G.T) (hKT K gK) hwl (QO _ _) (Wl hlay) hr hF hb (by rw[OM];exact hlen)
  (fun H xs hO hS=>hsp K H xs a hO hwi e2 hS)) fun r' s' hq=>?_)
 obtain⟨u,as',rfl,h1,h2,h3,h4⟩:=hq
 exact⟨.inl ⟨u,_,as',rfl,fun _=>rfl,h1,(OpenSpec.post_iff hwell hwi _ _).mpr rfl,fun z=>C4 (show false=true from z)⟩,h2,h3,h4⟩
end L2
end
set_option maxRecDepth 100000
set_option maxHeartbeats 4000000
namespace Fb
open PySem PySem.Spec PyProof.Rows L2
def asN:List Addr:=[2,3,15,18,19,20,22,23,25,26,27,29,30,32,33,34,36,37,39,40,41,44,45,46,48,49,51,52,53,55,56,58,59,60,63,64,65,67,68,70,71,72,74,75,77,78,79,81,82,84,85,86,88,89,91,92,100,102,103,105,106,107,108,109,110,111,121,123,124,126,127,128,129,130,131,132,135,138,139,140,142,143,145,146,147,149,150,152,153,154,156,157,159,160,161,164,165,166,168,169,171,172,173,176,177,178,180,181,183,184,185,187,188,190,191,192,194,195,197,198,199,201,202,204,205,206,208,209,211,212,213,215,216,218,219,220,222,223,225,226,227,229,230,232,233,234,242,244,245,247,248,249,250,251,252,253,263,265,266,268,269,270,271,272,273,274,277,279,280,282,283,284,286,287,289,290,291,294,295,296,298,299,301,302,303,305,306,308,309,310,312,313,315,316,317,320,321,322,325,326,327,329,330,332,333,334,336,337,339,340,341,343,344,346,347,348,350,351,353,354,362,364,365,367,368,369,370,371,372,373,376,378,379,381,382,383,385,386,388,389,390,392,393,395,396]
def OR (K:AA):List (Option (FuncData×Bool)):=[Ab K "kinds_that_mean" "kinds_that_mean",Ab K "first_left" "first_left",Ab K "hoist_told" "hoist_told",Ab K "can_show" "can_show",Ab K "letters" "letters",Ab K "split_at" "split_at",Ab K "is_name_byte" "is_name_byte",Ab K "is_name" "is_name",Ab K "is_naming_line" "is_naming_line",Ab K "named" "named",Ab K "first_fault" "first_fault",Ab K "count_lines" "count_lines",Ab K "is_meaning" "is_meaning",Ab K "row_word" "row_word",Ab K "meaning_told" "meaning_told",Ab K "is_row_length" "is_row_length",Ab K "is_row_word" "is_row_word",Ab K "is_entry_line" "is_entry_line",Ab K "signs_told" "signs_told",Ab K "place_in_order" "place_in_order",Ab K "is_row_behind" "is_row_behind",Ab K "row_fault" "row_fault",Ab K "take_entry" "take_entry",Ab K "take_line_books" "take_line",Ab K "read_book" "read_book",Ab K "number_of_first" "number_of_first",Ab K "number_of" "number_of",Ab K "small_number" "small_number",Ab K "shape_told" "shape_told",Ab K "look_told" "look_told",Ab K "kind_with" "kind_with",Ab K "kind_told" "kind_told",Ab K "can_stand" "can_stand",Ab K "is_label_taken" "is_label_taken",Ab K "is_look_taken" "is_look_taken",Ab K "kind_fault" "kind_fault",Ab K "add_kind" "add_kind",Ab K "take_line_lockers" "take_line",Ab K "read_locker" "read_locker",Ab K "read_texts" "read_texts",Ab K "number_or_refusal" "number_or_refusal",Ab K "means" "means"]
def Ol:List (Option (FuncData×Bool)):=[some (AX "kinds_that_mean" "kinds_that_mean" Rl,true),some (AX "first_left" "first_left" RU,true),some (AX "hoist_told" "hoist_told" RV,true),some (AX "can_show" "can_show" RQ,true),some (AX "letters" "letters" Rm,true),some (AX "split_at" "split_at" R5,true),some (AX "is_name_byte" "is_name_byte" Rb,true),some (AX "is_name" "is_name" Ra,true),some (AX "is_naming_line" "is_naming_line" Rc,true),some (AX "named" "named" Rq,true),some (AX "first_fault" "first_fault" RT,true),some (AX "count_lines" "count_lines" RS,true),some (AX "is_meaning" "is_meaning" RZ,true),some (AX "row_word" "row_word" R0,true),some (AX "meaning_told" "meaning_told" Ro,true),some (AX "is_row_length" "is_row_length" Rg,true),some (AX "is_row_word" "is_row_word" Rh,true),some (AX "is_entry_line" "is_entry_line" RW,true),some (AX "signs_told" "signs_told" R3,true),some (AX "place_in_order" "place_in_order" Rv,true),some (AX "is_row_behind" "is_row_behind" Rf,true),some (AX "row_fault" "row_fault" Rz,true),some (AX "take_entry" "take_entry" R6,true),some (AX "take_line" "take_line" R7,true),some (AX "read_book" "read_book" Rw,true),some (AX "number_of_first" "number_of_first" Rt,true),some (AX "number_of" "number_of" Rr,true),some (AX "small_number" "small_number" R4,true),some (AX "shape_told" "shape_told" R1,true),some (AX "look_told" "look_told" Rn,true),some (AX "kind_with" "kind_with" Rk,true),some (AX "kind_told" "kind_told" Rj,true),some (AX "can_stand" "can_stand" RR,true),some (AX "is_label_taken" "is_label_taken" RX,true),some (AX "is_look_taken" "is_look_taken" RY,true),some (AX "kind_fault" "kind_fault" Ri,true),some (AX "add_kind" "add_kind" RP,true),some (AX "take_line" "take_line" R8,true),some (AX "read_locker" "read_locker" Rx,true),some (AX "read_texts" "read_texts" Ry,true),some (AX "number_or_refusal" "number_or_refusal" Ru,true),some (AX "means" "means" Rp,true)]
def OP (K:AA):List (Option ((FuncData×Bool)×Bool)):=[Ew K "Entry.__init__" 109,Ew K "Book.__init__" 130,Ew K "Kind.__init__" 251,Ew K "Locker.__init__" 272,Ew K "Reading.__init__" 371]
def Oi:List (Option ((FuncData×Bool)×Bool)):=[some ((AX "__init__" "Entry.__init__" (Dh RK 0),true),true),some ((AX "__init__" "Book.__init__" (Dh RJ 0),true),true),some ((AX "__init__" "Kind.__init__" (Dh RL 0),true),true),some ((AX "__init__" "Locker.__init__" (Dh RM 0),true),true),some ((AX "__init__" "Reading.__init__" (Dh RN 0),true),true)]
def OO (K:AA):List (Bool):=[Eu K "Entry" 109 ["row","meaning"],Eu K "Book" 130 ["name","entries","fault"],Eu K "Kind" 251 ["rank","label","copies","shape","look"],Eu K "Locker" 272 ["name","kinds","signs","sames","fault"],Eu K "Reading" 371 ["refusal","locker","book"],Dj K "ord",Dj K "len",Dj K "all",Dj K "any",Dj K "enumerate",Dj K "reversed",Dj K "tuple",Dj K "range",PySem.W.noTabs K]
def Oh:List (Bool):=[true,true,true,true,true,true,true,true,true,true,true,true,true,true]
def OS (K:AA):List (Option Int):=[A4 K "LINE_END",A4 K "BLANK",A4 K "LONGEST_NAME",A4 K "NO_SUCH_LINE",A4 K "FULL_STOP",A4 K "LAST_PRINTED",A4 K "LONGEST_ROW",A4 K "LONGEST_MEANING",A4 K "MOST_ENTRIES",A4 K "HEAD_LINES",A4 K "OTHER_LOCKER",A4 K "NO_SIGN",A4 K "NOT_SHOWN",A4 K "NOT_BEHIND",A4 K "TOO_MANY_ENTRIES",A4 K "DIGITS",A4 K "SIGN",A4 K "SAME",A4 K "ANSWER",A4 K "MOST_SIGNS",A4 K "MOST_COPIES",A4 K "HIGHEST_SAME",A4 K "TOLD_BEFORE",A4 K "TOO_MANY_SIGNS",A4 K "LOOK_TOLD_BEFORE",A4 K "LONGEST_TEXT",A4 K "OUT_OF_FORM",A4 K "TOO_LONG",A4 K "NONE_FOUND",A4 K "NO_LOCKER",A4 K "NO_BOOK"]
def Om:List (Option Int):=[some 10,some 32,some 8,some 1,some 46,some 126,some 8,some 64,some 2048,some 2,some 2,some 3,some 4,some 5,some 6,some 16,some 1,some 2,some 3,some 48,some 8,some 4,some 2,some 3,some 4,some 65536,some (-1),some (-2),some (-5),some (-6),some (-9)]
def OT (K:AA):List (Option Str):=[L4 K "COLOURS"]
def Ot:List (Option Str):=[some ("0123456789abcdef":Str)]
def OV (K:AA):List (Option (Bool×Str×Str×Str)):=[MI K "SHAPES"]
def Ov:List (Option (Bool×Str×Str×Str)):=[some (true,("square":Str),("tails":Str),("long":Str))]
def OQ (K:AA):List (Option Addr):=[Ex K "read_book",Ex K "read_locker",Ex K "means"]
def Oj:List (Option Addr):=[some 218,some 353,some 395]
def OU (K:AA):List (Option (Addr×Addr)):=[NN K "read_book",NN K "read_locker",NN K "means"]
def Ou:List (Option (Addr×Addr)):=[some (218,214),some (353,349),some (395,391)]
def fAll (K:AA):=(OR K,OP K,OO K,OS K,OT K,OV K,OQ K,OU K)
def gAll:=(Ol,Oi,Oh,Om,Ot,Ov,Oj,Ou)
def hookN:PySem.W.Hook:=⟨_,fun s=>fAll (G0 s.heap asN),fun _=>gAll,fun _ h=>∃K:AA,K.In h∧fAll K=gAll,fun _ s e=>⟨_,Kw s.heap asN,e⟩,fun _ _ _ ⟨K,X,e⟩ k=>⟨K,X.keeps k,e⟩⟩
theorem ith {α:Type}{l m:List α}{a b:α} (i:Nat) (e:l=m) (h1:l[i]?=some a) (h2:m[i]?=some b):a=b:=by
 rw[e,h2] at h1
 exact(Ae h1).symm
theorem all_of {K:AA} (e:fAll K=gAll):OR K=Ol∧OP K=Oi∧OO K=Oh∧OS K=Om∧OT K=Ot∧OV K=Ov∧OQ K=Oj∧OU K=Ou:=by
 unfold fAll gAll at e
 injection e with e0 e
 injection e with e1 e
 injection e with e2 e
 injection e with e3 e
 injection e with e4 e
 injection e with e5 e
 injection e with e6 e
 exact⟨e0,e1,e2,e3,e4,e5,e6,e⟩
end Fb
namespace Fb
open PySem PySem.W PySem.Calls PyProof.Rows
theorem X5 (w:World) (os:OsState):PySem.W.Fast.runAQ Du 5694 11 (some (.ref 6)) w os hookN.obs=some (hookN.val w):=by kernel_rfl
theorem leftN:LeftO Du viewN looseN xtN hookN.obs hookN.val stepsN :=
 Wn (n₀:=11) (ann:=some (.ref 6)) (by kernel_rfl) (by decide) (fun s=>by kernel_rfl) (fun P=>by kernel_rfl) (fun w os=>by rw[PySem.W.Fast.runAQ_eq,PySem.W.Fast.look1Q_eq];exact X1 w os) (fun w os=>by rw[PySem.W.Fast.runAQ_eq,PySem.W.Fast.look2Q_eq];exact X2 w os) (fun w os=>by rw[PySem.W.Fast.runAQ_eq,PySem.W.Fast.look3Q_eq];exact X3 w os) (fun w os=>by rw[PySem.W.Fast.runAQ_eq,PySem.W.Fast.look4Q_eq];exact X4 w os) fun w os=>by rw[PySem.W.Fast.runAQ_eq];exact X5 w os
end Fb
open PySem PySem.W PyProof.Rows
theorem PySem.Challenge.cw_flagbooks_s05_means_holds : PySem.Challenge.rw_flagbooks_s05_means.Holds := by
 w_on
 refine holds_os (r:=Aa) (q:=Fb.viewN) (loose:=Fb.looseN) (Xt:=Fb.xtN) (XP:=XL Fb.viewN Fb.lvN) (Yf:=Hook.obs Fb.hookN) (Ya:=Hook.val Fb.hookN) (YP:=Hook.says Fb.hookN) (N:=Fb.stepsN) Fb.leftN (Hook.of Fb.hookN) (Hook.keeps Fb.hookN) (fun s e=>xl_of s (JU.mp e).1) XL.keeps (by rfl) (by rfl) (by rfl) (fun s e=>recFacts_of (JU.mp e).2) os_shapes (by decide +kernel) (by decide +kernel) ⟨rfl,rfl,rfl,rfl,rfl,by decide +kernel⟩ ⟨[.list [],.list [],.list []],by decide +kernel,by decide +kernel⟩ ?_
 refine L2.walk_hook (r:=Aa) (k:=12) (ps:=["t","b","m"]) (sp:=fun K=>Fb.spMeans K 349 214 391) (tabs:=[(353,349),(218,214),(395,391)]) (Gd:=fun K=>Fb.fAll K=Fb.gAll) (by decide +kernel) rfl rfl ⟨rfl,by decide,by decide⟩ (fun w h Y=>Y) ?cN ?cT ?cF ?cS
 case cN =>
  intro K gK
  obtain⟨_,_,h,_⟩:=Fb.all_of gK
  exact Fb.ith 13 h rfl rfl
 case cT =>
  intro K lo mean mg mb h gK KX T
  obtain⟨_,_,_,_,_,_,_,ht⟩:=Fb.all_of gK
  exact Mf.mpr ⟨NP (x:="read_locker") (c:=353) (P:=349) T KX rfl (Fb.ith 1 ht rfl rfl),Mf.mpr ⟨NP (x:="read_book") (c:=218) (P:=214) T KX rfl (Fb.ith 0 ht rfl rfl),Mf.mpr ⟨NP (x:="means") (c:=395) (P:=391) T KX rfl (Fb.ith 2 ht rfl rfl),fun _ h=>nomatch h⟩⟩⟩
 case cF =>
  intro w K mg fa h gK KX G hmg
  obtain⟨hD,hC,hB,hI,hS,hU,hO,hT⟩:=Fb.all_of gK
  obtain⟨f_kinds_that_mean,fd_kinds_that_mean,d_kinds_that_mean,b_kinds_that_mean⟩:=Fb.def_seen (ps:=["locker","signs","place"]) KX G (Fb.ith 0 hD rfl rfl) (fun _ _ _ _ _ _ us hl=>match us,hl with | [_,_,_],_=>rfl)
  obtain⟨f_first_left,fd_first_left,d_first_left,b_first_left⟩:=Fb.def_seen (ps:=["locker","flown","kinds"]) KX G (Fb.ith 1 hD rfl rfl) (fun _ _ _ _ _ _ us hl=>match us,hl with | [_,_,_],_=>rfl)
  obtain⟨f_hoist_told,fd_hoist_told,d_hoist_told,b_hoist_told⟩:=Fb.def_seen (ps:=["locker","signs"]) KX G (Fb.ith 2 hD rfl rfl) (fun _ _ _ _ _ _ us hl=>match us,hl with | [_,_],_=>rfl)
  obtain⟨f_can_show,fd_can_show,d_can_show,b_can_show⟩:=Fb.def_seen (ps:=["locker","signs"]) KX G (Fb.ith 3 hD rfl rfl) (fun _ _ _ _ _ _ us hl=>match us,hl with | [_,_],_=>rfl)
  obtain⟨f_letters,fd_letters,d_letters,b_letters⟩:=Fb.def_seen (ps:=["word"]) KX G (Fb.ith 4 hD rfl rfl) (fun _ _ _ _ _ _ us hl=>match us,hl with | [_],_=>rfl)
  obtain⟨f_split_at,fd_split_at,d_split_at,b_split_at⟩:=Fb.def_seen (ps:=["mark","values"]) KX G (Fb.ith 5 hD rfl rfl) (fun _ _ _ _ _ _ us hl=>match us,hl with | [_,_],_=>rfl)
  obtain⟨f_is_name_byte,fd_is_name_byte,d_is_name_byte,b_is_name_byte⟩:=Fb.def_seen (ps:=["byte"]) KX G (Fb.ith 6 hD rfl rfl) (fun _ _ _ _ _ _ us hl=>match us,hl with | [_],_=>rfl)
  obtain⟨f_is_name,fd_is_name,d_is_name,b_is_name⟩:=Fb.def_seen (ps:=["word"]) KX G (Fb.ith 7 hD rfl rfl) (fun _ _ _ _ _ _ us hl=>match us,hl with | [_],_=>rfl)
  obtain⟨f_is_naming_line,fd_is_naming_line,d_is_naming_line,b_is_naming_line⟩:=Fb.def_seen (ps:=["line","first"]) KX G (Fb.ith 8 hD rfl rfl) (fun _ _ _ _ _ _ us hl=>match us,hl with | [_,_],_=>rfl)
  obtain⟨f_named,fd_named,d_named,b_named⟩:=Fb.def_seen (ps:=["line"]) KX G (Fb.ith 9 hD rfl rfl) (fun _ _ _ _ _ _ us hl=>match us,hl with | [_],_=>rfl)
  obtain⟨f_first_fault,fd_first_fault,d_first_fault,b_first_fault⟩:=Fb.def_seen (ps:=["text","take"]) KX G (Fb.ith 10 hD rfl rfl) (fun _ _ _ _ _ _ us hl=>match us,hl with | [_,_],_=>rfl)
  obtain⟨f_count_lines,fd_count_lines,d_count_lines,b_count_lines⟩:=Fb.def_seen (ps:=["text"]) KX G (Fb.ith 11 hD rfl rfl) (fun _ _ _ _ _ _ us hl=>match us,hl with | [_],_=>rfl)
  obtain⟨f_is_meaning,fd_is_meaning,d_is_meaning,b_is_meaning⟩:=Fb.def_seen (ps:=["told"]) KX G (Fb.ith 12 hD rfl rfl) (fun _ _ _ _ _ _ us hl=>match us,hl with | [_],_=>rfl)
  obtain⟨f_row_word,fd_row_word,d_row_word,b_row_word⟩:=Fb.def_seen (ps:=["line"]) KX G (Fb.ith 13 hD rfl rfl) (fun _ _ _ _ _ _ us hl=>match us,hl with | [_],_=>rfl)
  obtain⟨f_meaning_told,fd_meaning_told,d_meaning_told,b_meaning_told⟩:=Fb.def_seen (ps:=["line"]) KX G (Fb.ith 14 hD rfl rfl) (fun _ _ _ _ _ _ us hl=>match us,hl with | [_],_=>rfl)
  obtain⟨f_is_row_length,fd_is_row_length,d_is_row_length,b_is_row_length⟩:=Fb.def_seen (ps:=["length"]) KX G (Fb.ith 15 hD rfl rfl) (fun _ _ _ _ _ _ us hl=>match us,hl with | [_],_=>rfl)
  obtain⟨f_is_row_word,fd_is_row_word,d_is_row_word,b_is_row_word⟩:=Fb.def_seen (ps:=["word"]) KX G (Fb.ith 16 hD rfl rfl) (fun _ _ _ _ _ _ us hl=>match us,hl with | [_],_=>rfl)
  obtain⟨f_is_entry_line,fd_is_entry_line,d_is_entry_line,b_is_entry_line⟩:=Fb.def_seen (ps:=["line"]) KX G (Fb.ith 17 hD rfl rfl) (fun _ _ _ _ _ _ us hl=>match us,hl with | [_],_=>rfl)
  obtain⟨f_signs_told,fd_signs_told,d_signs_told,b_signs_told⟩:=Fb.def_seen (ps:=["locker","word"]) KX G (Fb.ith 18 hD rfl rfl) (fun _ _ _ _ _ _ us hl=>match us,hl with | [_,_],_=>rfl)
  obtain⟨f_place_in_order,fd_place_in_order,d_place_in_order,b_place_in_order⟩:=Fb.def_seen (ps:=["row"]) KX G (Fb.ith 19 hD rfl rfl) (fun _ _ _ _ _ _ us hl=>match us,hl with | [_],_=>rfl)
  obtain⟨f_is_row_behind,fd_is_row_behind,d_is_row_behind,b_is_row_behind⟩:=Fb.def_seen (ps:=["row","before"]) KX G (Fb.ith 20 hD rfl rfl) (fun _ _ _ _ _ _ us hl=>match us,hl with | [_,_],_=>rfl)
  obtain⟨f_row_fault,fd_row_fault,d_row_fault,b_row_fault⟩:=Fb.def_seen (ps:=["locker","book","row"]) KX G (Fb.ith 21 hD rfl rfl) (fun _ _ _ _ _ _ us hl=>match us,hl with | [_,_,_],_=>rfl)
  obtain⟨f_take_entry,fd_take_entry,d_take_entry,b_take_entry⟩:=Fb.def_seen (ps:=["locker","book","line"]) KX G (Fb.ith 22 hD rfl rfl) (fun _ _ _ _ _ _ us hl=>match us,hl with | [_,_,_],_=>rfl)
  obtain⟨f_take_line_books,fd_take_line_books,d_take_line_books,b_take_line_books⟩:=Fb.def_seen (ps:=["locker","book","number","line"]) KX G (Fb.ith 23 hD rfl rfl) (fun _ _ _ _ _ _ us hl=>match us,hl with | [_,_,_,_],_=>rfl)
  obtain⟨f_read_book,fd_read_book,d_read_book,e_read_book⟩:=Fb.def_seenC (ps:=["locker","text"]) KX G (Fb.ith 24 hD rfl rfl) (Fb.ith 0 hO rfl rfl) (fun _ _ _ _ _ _ us hl=>match us,hl with | [_,_],_=>rfl)
  obtain⟨f_number_of_first,fd_number_of_first,d_number_of_first,b_number_of_first⟩:=Fb.def_seen (ps:=["book","is_wanted"]) KX G (Fb.ith 25 hD rfl rfl) (fun _ _ _ _ _ _ us hl=>match us,hl with | [_,_],_=>rfl)
  obtain⟨f_number_of,fd_number_of,d_number_of,b_number_of⟩:=Fb.def_seen (ps:=["told"]) KX G (Fb.ith 26 hD rfl rfl) (fun _ _ _ _ _ _ us hl=>match us,hl with | [_],_=>rfl)
  obtain⟨f_small_number,fd_small_number,d_small_number,b_small_number⟩:=Fb.def_seen (ps:=["word","most"]) KX G (Fb.ith 27 hD rfl rfl) (fun _ _ _ _ _ _ us hl=>match us,hl with | [_,_],_=>rfl)
  obtain⟨f_shape_told,fd_shape_told,d_shape_told,b_shape_told⟩:=Fb.def_seen (ps:=["word"]) KX G (Fb.ith 28 hD rfl rfl) (fun _ _ _ _ _ _ us hl=>match us,hl with | [_],_=>rfl)
  obtain⟨f_look_told,fd_look_told,d_look_told,b_look_told⟩:=Fb.def_seen (ps:=["word"]) KX G (Fb.ith 29 hD rfl rfl) (fun _ _ _ _ _ _ us hl=>match us,hl with | [_],_=>rfl)
  obtain⟨f_kind_with,fd_kind_with,d_kind_with,b_kind_with⟩:=Fb.def_seen (ps:=["rank","label","words"]) KX G (Fb.ith 30 hD rfl rfl) (fun _ _ _ _ _ _ us hl=>match us,hl with | [_,_,_],_=>rfl)
  obtain⟨f_kind_told,fd_kind_told,d_kind_told,b_kind_told⟩:=Fb.def_seen (ps:=["line"]) KX G (Fb.ith 31 hD rfl rfl) (fun _ _ _ _ _ _ us hl=>match us,hl with | [_],_=>rfl)
  obtain⟨f_can_stand,fd_can_stand,d_can_stand,b_can_stand⟩:=Fb.def_seen (ps:=["locker","kind"]) KX G (Fb.ith 32 hD rfl rfl) (fun _ _ _ _ _ _ us hl=>match us,hl with | [_,_],_=>rfl)
  obtain⟨f_is_label_taken,fd_is_label_taken,d_is_label_taken,b_is_label_taken⟩:=Fb.def_seen (ps:=["locker","kind"]) KX G (Fb.ith 33 hD rfl rfl) (fun _ _ _ _ _ _ us hl=>match us,hl with | [_,_],_=>rfl)
  obtain⟨f_is_look_taken,fd_is_look_taken,d_is_look_taken,b_is_look_taken⟩:=Fb.def_seen (ps:=["locker","kind"]) KX G (Fb.ith 34 hD rfl rfl) (fun _ _ _ _ _ _ us hl=>match us,hl with | [_,_],_=>rfl)
  obtain⟨f_kind_fault,fd_kind_fault,d_kind_fault,b_kind_fault⟩:=Fb.def_seen (ps:=["locker","kind"]) KX G (Fb.ith 35 hD rfl rfl) (fun _ _ _ _ _ _ us hl=>match us,hl with | [_,_],_=>rfl)
  obtain⟨f_add_kind,fd_add_kind,d_add_kind,b_add_kind⟩:=Fb.def_seen (ps:=["locker","kind"]) KX G (Fb.ith 36 hD rfl rfl) (fun _ _ _ _ _ _ us hl=>match us,hl with | [_,_],_=>rfl)
  obtain⟨f_take_line_lockers,fd_take_line_lockers,d_take_line_lockers,b_take_line_lockers⟩:=Fb.def_seen (ps:=["locker","number","line"]) KX G (Fb.ith 37 hD rfl rfl) (fun _ _ _ _ _ _ us hl=>match us,hl with | [_,_,_],_=>rfl)
  obtain⟨f_read_locker,fd_read_locker,d_read_locker,e_read_locker⟩:=Fb.def_seenC (ps:=["text"]) KX G (Fb.ith 38 hD rfl rfl) (Fb.ith 1 hO rfl rfl) (fun _ _ _ _ _ _ us hl=>match us,hl with | [_],_=>rfl)
  obtain⟨f_read_texts,fd_read_texts,d_read_texts,b_read_texts⟩:=Fb.def_seen (ps:=["t","b"]) KX G (Fb.ith 39 hD rfl rfl) (fun _ _ _ _ _ _ us hl=>match us,hl with | [_,_],_=>rfl)
  obtain⟨f_number_or_refusal,fd_number_or_refusal,d_number_or_refusal,b_number_or_refusal⟩:=Fb.def_seen (ps:=["found"]) KX G (Fb.ith 40 hD rfl rfl) (fun _ _ _ _ _ _ us hl=>match us,hl with | [_],_=>rfl)
  obtain⟨f_means,fd_means,d_means,e_means,b_means⟩:=Fb.def_seenD (ps:=["t","b","m"]) KX G (Fb.ith 41 hD rfl rfl) (Fb.ith 2 hO rfl rfl) (fun _ _ _ _ _ _ us hl=>match us,hl with | [_,_,_],_=>rfl)
  obtain⟨⟨fc_Entry,fdc_Entry,k_Entry⟩,n_Entry⟩:=Fb.cls_seen (ps:=["self","row","meaning"]) KX G (Fb.ith 0 hC rfl rfl) (Fb.ith 0 hB rfl rfl) (fun _ _ _ _ _ _ us hl=>match us,hl with | [_,_,_],_=>rfl)
  have t_Entry:Fb.EntC _ 109:=⟨k_Entry.cl,n_Entry _ (.head _),n_Entry _ (.tail _ (.head _))⟩
  obtain⟨⟨fc_Book,fdc_Book,k_Book⟩,n_Book⟩:=Fb.cls_seen (ps:=["self"]) KX G (Fb.ith 1 hC rfl rfl) (Fb.ith 1 hB rfl rfl) (fun _ _ _ _ _ _ us hl=>match us,hl with | [_],_=>rfl)
  have t_Book:Fb.BookC _ 130:=⟨k_Book.cl,n_Book _ (.head _),n_Book _ (.tail _ (.head _)),n_Book _ (.tail _ (.tail _ (.head _)))⟩
  obtain⟨⟨fc_Kind,fdc_Kind,k_Kind⟩,n_Kind⟩:=Fb.cls_seen (ps:=["self","rank","label","copies","shape","look"]) KX G (Fb.ith 2 hC rfl rfl) (Fb.ith 2 hB rfl rfl) (fun _ _ _ _ _ _ us hl=>match us,hl with | [_,_,_,_,_,_],_=>rfl)
  have t_Kind:Fb.KindC _ 251:=⟨k_Kind.cl,n_Kind _ (.head _),n_Kind _ (.tail _ (.head _)),n_Kind _ (.tail _ (.tail _ (.head _))),n_Kind _ (.tail _ (.tail _ (.tail _ (.head _)))),n_Kind _ (.tail _ (.tail _ (.tail _ (.tail _ (.head _)))))⟩
  obtain⟨⟨fc_Locker,fdc_Locker,k_Locker⟩,n_Locker⟩:=Fb.cls_seen (ps:=["self"]) KX G (Fb.ith 3 hC rfl rfl) (Fb.ith 3 hB rfl rfl) (fun _ _ _ _ _ _ us hl=>match us,hl with | [_],_=>rfl)
  have t_Locker:Fb.LockC _ 272:=⟨k_Locker.cl,n_Locker _ (.head _),n_Locker _ (.tail _ (.head _)),n_Locker _ (.tail _ (.tail _ (.head _))),n_Locker _ (.tail _ (.tail _ (.tail _ (.head _)))),n_Locker _ (.tail _ (.tail _ (.tail _ (.tail _ (.head _)))))⟩
  obtain⟨⟨fc_Reading,fdc_Reading,k_Reading⟩,n_Reading⟩:=Fb.cls_seen (ps:=["self","refusal","locker","book"]) KX G (Fb.ith 4 hC rfl rfl) (Fb.ith 4 hB rfl rfl) (fun _ _ _ _ _ _ us hl=>match us,hl with | [_,_,_,_],_=>rfl)
  have t_Reading:Fb.ReadC _ 371:=⟨k_Reading.cl,n_Reading _ (.head _),n_Reading _ (.tail _ (.head _)),n_Reading _ (.tail _ (.tail _ (.head _)))⟩
  have c_LINE_END:=Fb.int_seen KX G (Fb.ith 0 hI rfl rfl)
  have c_BLANK:=Fb.int_seen KX G (Fb.ith 1 hI rfl rfl)
  have c_LONGEST_NAME:=Fb.int_seen KX G (Fb.ith 2 hI rfl rfl)
  have c_NO_SUCH_LINE:=Fb.int_seen KX G (Fb.ith 3 hI rfl rfl)
  have c_FULL_STOP:=Fb.int_seen KX G (Fb.ith 4 hI rfl rfl)
  have c_LAST_PRINTED:=Fb.int_seen KX G (Fb.ith 5 hI rfl rfl)
  have c_LONGEST_ROW:=Fb.int_seen KX G (Fb.ith 6 hI rfl rfl)
  have c_LONGEST_MEANING:=Fb.int_seen KX G (Fb.ith 7 hI rfl rfl)
  have c_MOST_ENTRIES:=Fb.int_seen KX G (Fb.ith 8 hI rfl rfl)
  have c_HEAD_LINES:=Fb.int_seen KX G (Fb.ith 9 hI rfl rfl)
  have c_OTHER_LOCKER:=Fb.int_seen KX G (Fb.ith 10 hI rfl rfl)
  have c_NO_SIGN:=Fb.int_seen KX G (Fb.ith 11 hI rfl rfl)
  have c_NOT_SHOWN:=Fb.int_seen KX G (Fb.ith 12 hI rfl rfl)
  have c_NOT_BEHIND:=Fb.int_seen KX G (Fb.ith 13 hI rfl rfl)
  have c_TOO_MANY_ENTRIES:=Fb.int_seen KX G (Fb.ith 14 hI rfl rfl)
  have c_DIGITS:=Fb.int_seen KX G (Fb.ith 15 hI rfl rfl)
  have c_SIGN:=Fb.int_seen KX G (Fb.ith 16 hI rfl rfl)
  have c_SAME:=Fb.int_seen KX G (Fb.ith 17 hI rfl rfl)
  have c_ANSWER:=Fb.int_seen KX G (Fb.ith 18 hI rfl rfl)
  have c_MOST_SIGNS:=Fb.int_seen KX G (Fb.ith 19 hI rfl rfl)
  have c_MOST_COPIES:=Fb.int_seen KX G (Fb.ith 20 hI rfl rfl)
  have c_HIGHEST_SAME:=Fb.int_seen KX G (Fb.ith 21 hI rfl rfl)
  have c_TOLD_BEFORE:=Fb.int_seen KX G (Fb.ith 22 hI rfl rfl)
  have c_TOO_MANY_SIGNS:=Fb.int_seen KX G (Fb.ith 23 hI rfl rfl)
  have c_LOOK_TOLD_BEFORE:=Fb.int_seen KX G (Fb.ith 24 hI rfl rfl)
  have c_LONGEST_TEXT:=Fb.int_seen KX G (Fb.ith 25 hI rfl rfl)
  have c_OUT_OF_FORM:=Fb.int_seen KX G (Fb.ith 26 hI rfl rfl)
  have c_TOO_LONG:=Fb.int_seen KX G (Fb.ith 27 hI rfl rfl)
  have c_NONE_FOUND:=Fb.int_seen KX G (Fb.ith 28 hI rfl rfl)
  have c_NO_LOCKER:=Fb.int_seen KX G (Fb.ith 29 hI rfl rfl)
  have c_NO_BOOK:=Fb.int_seen KX G (Fb.ith 30 hI rfl rfl)
  have c_COLOURS:=Fb.str_seen KX G (Fb.ith 0 hS rfl rfl)
  have c_SHAPES:=Fb.tup_seen KX G (Fb.ith 0 hU rfl rfl)
  have B:Fb.Blt mg:=⟨Fb.no_seen (x:="ord") KX G (Fb.ith 5 hB rfl rfl),Fb.no_seen (x:="len") KX G (Fb.ith 6 hB rfl rfl),Fb.no_seen (x:="all") KX G (Fb.ith 7 hB rfl rfl),Fb.no_seen (x:="any") KX G (Fb.ith 8 hB rfl rfl),Fb.no_seen (x:="enumerate") KX G (Fb.ith 9 hB rfl rfl),Fb.no_seen (x:="reversed") KX G (Fb.ith 10 hB rfl rfl),Fb.no_seen (x:="tuple") KX G (Fb.ith 11 hB rfl rfl),Fb.no_seen (x:="range") KX G (Fb.ith 12 hB rfl rfl)⟩
  have g_split:=d_split_at.has (P:=Aa.prog) (w:=w) fun base=>Fb.ok_split d_split_at.fn
  have g_letters:=d_letters.has (P:=Aa.prog) (w:=w) fun base=>Fb.ok_letters d_letters.fn B
  have g_nbyte:=d_is_name_byte.has (P:=Aa.prog) (w:=w) fun base=>Fb.ok_nameByte d_is_name_byte.fn B
  have g_isname:=d_is_name.has (P:=Aa.prog) (w:=w) fun base=>Fb.ok_isName d_is_name.fn B c_LONGEST_NAME g_nbyte
  have g_naming:=d_is_naming_line.has (P:=Aa.prog) (w:=w) fun base=>Fb.ok_naming d_is_naming_line.fn B c_BLANK g_split g_letters g_isname
  have g_named:=d_named.has (P:=Aa.prog) (w:=w) fun base=>Fb.ok_named d_named.fn c_BLANK g_split
  have g_count:=d_count_lines.has (P:=Aa.prog) (w:=w) fun base=>Fb.ok_count d_count_lines.fn c_LINE_END
  have g_first:=d_first_fault.has (P:=Aa.prog) (w:=w) fun base=>Fb.ok_first (kT:=7) d_first_fault.fn B c_LINE_END c_NO_SUCH_LINE g_split
  have g_small:=d_small_number.has (P:=Aa.prog) (w:=w) fun base=>Fb.ok_small d_small_number.fn B
  have g_shape:=d_shape_told.has (P:=Aa.prog) (w:=w) fun base=>Fb.ok_shape d_shape_told.fn B c_SHAPES g_letters
  have g_numof:=d_number_of.has (P:=Aa.prog) (w:=w) fun base=>Fb.ok_numOf d_number_of.fn B
  have g_look:=d_look_told.has (P:=Aa.prog) (w:=w) fun base=>Fb.ok_look d_look_told.fn B c_COLOURS c_DIGITS g_letters g_numof
  have g_Kind:=k_Kind.has (P:=Aa.prog) (w:=w) fun base=>Fb.ok_kindI k_Kind.fn t_Kind
  have g_kwith:=d_kind_with.has (P:=Aa.prog) (w:=w) fun base=>Fb.ok_kwith d_kind_with.fn c_MOST_COPIES g_small g_shape g_look g_Kind
  have g_ktold:=d_kind_told.has (P:=Aa.prog) (w:=w) fun base=>Fb.ok_ktold d_kind_told.fn B c_BLANK c_SIGN c_SAME c_ANSWER c_HIGHEST_SAME g_split g_letters g_isname g_small g_kwith
  have g_stand:=d_can_stand.has (P:=Aa.prog) (w:=w) fun base=>Fb.ok_stand d_can_stand.fn B t_Locker t_Kind c_ANSWER
  have g_label:=d_is_label_taken.has (P:=Aa.prog) (w:=w) fun base=>Fb.ok_label d_is_label_taken.fn B t_Locker t_Kind c_SIGN c_SAME
  have g_lookt:=d_is_look_taken.has (P:=Aa.prog) (w:=w) fun base=>Fb.ok_lookT d_is_look_taken.fn B t_Locker t_Kind
  have g_kfault:=d_kind_fault.has (P:=Aa.prog) (w:=w) fun base=>Fb.ok_kfault d_kind_fault.fn B t_Locker t_Kind c_NO_SUCH_LINE c_TOLD_BEFORE c_TOO_MANY_SIGNS c_LOOK_TOLD_BEFORE c_SIGN c_MOST_SIGNS g_stand g_label g_lookt
  have g_addk:=d_add_kind.has (P:=Aa.prog) (w:=w) fun base=>Fb.ok_addK d_add_kind.fn B t_Locker t_Kind c_SIGN c_SAME
  have g_takel:=d_take_line_lockers.has (P:=Aa.prog) (w:=w) fun base=>L2.FnOk.mono (k:=6) (Fb.ok_takeL d_take_line_lockers.fn (by decide) t_Locker c_NO_SUCH_LINE g_naming g_named g_ktold g_kfault g_addk) (by decide)
  have g_Locker:=k_Locker.has (P:=Aa.prog) (w:=w) fun base=>Fb.ok_lockI k_Locker.fn t_Locker
  have g_ktm:=d_kinds_that_mean.has (P:=Aa.prog) (w:=w) fun base=>Fb.ok_ktm (CK:=251) d_kinds_that_mean.fn t_Locker
  have g_firstl:=d_first_left.has (P:=Aa.prog) (w:=w) fun base=>Fb.ok_firstL d_first_left.fn t_Locker t_Kind
  have g_hoist:=d_hoist_told.has (P:=Aa.prog) (w:=w) fun base=>Fb.ok_hoist d_hoist_told.fn B g_ktm g_firstl
  have g_show:=d_can_show.has (P:=Aa.prog) (w:=w) fun base=>Fb.ok_show d_can_show.fn g_hoist
  have g_ismean:=d_is_meaning.has (P:=Aa.prog) (w:=w) fun base=>Fb.ok_isMean d_is_meaning.fn B c_BLANK c_LAST_PRINTED c_LONGEST_MEANING g_split
  have g_roww:=d_row_word.has (P:=Aa.prog) (w:=w) fun base=>Fb.ok_rowW d_row_word.fn c_BLANK g_split
  have g_meant:=d_meaning_told.has (P:=Aa.prog) (w:=w) fun base=>Fb.ok_meanT d_meaning_told.fn B g_roww
  have g_rowlen:=d_is_row_length.has (P:=Aa.prog) (w:=w) fun base=>Fb.ok_rowLen d_is_row_length.fn c_LONGEST_ROW
  have g_isroww:=d_is_row_word.has (P:=Aa.prog) (w:=w) fun base=>Fb.ok_isRowW d_is_row_word.fn B c_FULL_STOP g_rowlen g_split g_isname
  have g_isent:=d_is_entry_line.has (P:=Aa.prog) (w:=w) fun base=>Fb.ok_isEnt d_is_entry_line.fn g_roww g_isroww g_ismean g_meant
  have g_signs:=d_signs_told.has (P:=Aa.prog) (w:=w) fun base=>Fb.ok_signs (CK:=251) d_signs_told.fn B t_Locker c_FULL_STOP g_split
  have g_place:=d_place_in_order.has (P:=Aa.prog) (w:=w) fun base=>Fb.ok_place d_place_in_order.fn B
  have g_behind:=d_is_row_behind.has (P:=Aa.prog) (w:=w) fun base=>Fb.ok_behind d_is_row_behind.fn g_place
  have g_rowf:=d_row_fault.has (P:=Aa.prog) (w:=w) fun base=>Fb.ok_rowF d_row_fault.fn B t_Book t_Entry c_NOT_SHOWN c_NOT_BEHIND c_TOO_MANY_ENTRIES c_MOST_ENTRIES g_show g_behind
  have g_Entry:=k_Entry.has (P:=Aa.prog) (w:=w) fun base=>Fb.ok_entI k_Entry.fn t_Entry
  have g_takee:=d_take_entry.has (P:=Aa.prog) (w:=w) fun base=>Fb.ok_takeE d_take_entry.fn t_Book c_NO_SUCH_LINE c_NO_SIGN g_isent g_roww g_signs g_rowf g_Entry g_meant
  have g_takeb:=d_take_line_books.has (P:=Aa.prog) (w:=w) fun base=>Fb.ok_takeB d_take_line_books.fn (by decide) t_Locker t_Book c_NO_SUCH_LINE c_OTHER_LOCKER c_HEAD_LINES g_naming g_named g_takee
  have g_Book:=k_Book.has (P:=Aa.prog) (w:=w) fun base=>Fb.ok_bookI k_Book.fn t_Book
  have g_Reading:=k_Reading.has (P:=Aa.prog) (w:=w) fun base=>Fb.ok_readI k_Reading.fn t_Reading
  have g_numf:=d_number_of_first.has (P:=Aa.prog) (w:=w) fun base=>Fb.ok_numF (CE:=109) d_number_of_first.fn B t_Book
  have g_numo:=d_number_or_refusal.has (P:=Aa.prog) (w:=w) fun base=>Fb.ok_numO d_number_or_refusal.fn c_NONE_FOUND
  have e:=hmg.symm.trans d_means.at_
  cases e
  refine⟨fd_means,b_means,fun base _ _ hCd hBm=>?_⟩
  have g_readl:=d_read_locker.hasB (Fb.ok_readL (P:=Aa.prog) (w:=w) (base:=base) d_read_locker.fn e_read_locker (hCd (353,349) (by simp)) hBm B (by decide) t_Locker c_NO_SUCH_LINE g_Locker g_first g_takel g_count)
  have g_readb:=d_read_book.hasB (Fb.ok_readB (P:=Aa.prog) (w:=w) (base:=base) d_read_book.fn e_read_book (hCd (218,214) (by simp)) hBm (by decide) t_Book c_NO_SUCH_LINE c_HEAD_LINES g_Book g_first g_takeb g_count)
  have g_texts:=d_read_texts.hasB (Fb.ok_texts (P:=Aa.prog) (w:=w) (base:=base) d_read_texts.fn B (by decide) t_Locker t_Book c_LONGEST_TEXT c_TOO_LONG c_NO_LOCKER c_NO_BOOK g_readl g_readb g_Reading)
  exact Fb.ok_means d_means.fn e_means (hCd (395,391) (by simp)) hBm (by decide) (by decide) t_Reading t_Entry c_OUT_OF_FORM g_texts g_ismean g_numo g_numf
 case cS =>
  intro K H xs a hO hwi hask hx
  cases hx with
  | cons h1 h2 =>
   cases h2 with
   | cons h2 h3 =>
    cases h3 with
    | cons h3 h4 =>
     cases h4
     cases h1 with
     | lst hs ha =>
      cases h2 with
      | lst hs2 ha2 =>
       cases h3 with
       | lst hs3 ha3 =>
        have e:=L2.ints_dw a.1 _ ha
        subst e
        have e2:=L2.ints_dw a.2.1 _ ha2
        subst e2
        have e3:=L2.ints_dw a.2.2.1 _ ha3
        subst e3
        have q:((Codec.inLen 0 66000 a.1&&a.1.all (Codec.inInt 0 255))&&((Codec.inLen 0 66000 a.2.1&&a.2.1.all (Codec.inInt 0 255))&&((Codec.inLen 0 1000 a.2.2.1&&a.2.2.1.all (Codec.inInt 0 255))&&true)))=true:=hwi
        rw[BI,BI,BI,BI,BI,BI] at q
        obtain⟨⟨l1,m1⟩,⟨l2,m2⟩,⟨l3,m3⟩,_⟩:=q
        have l3:=(Codec.inNat_iff.mp l3).2
        have b3:∀n∈a.2.2.1,0≤n∧n≤255:=fun n hn=>Codec.inInt_iff.mp (Cg.mp m3 n hn)
        have l1:=(Codec.inNat_iff.mp l1).2
        have l2:=(Codec.inNat_iff.mp l2).2
        have b1:∀n∈a.1,0≤n∧n≤255:=fun n hn=>Codec.inInt_iff.mp (Cg.mp m1 n hn)
        have b2:∀n∈a.2.1,0≤n∧n≤255:=fun n hn=>Codec.inInt_iff.mp (Cg.mp m2 n hn)
        refine⟨_,_,_,a.1.map fun (n:Int)=>CY n.toNat,a.2.1.map fun (n:Int)=>CY n.toNat,a.2.2.1.map fun (n:Int)=>CY n.toNat,rfl,⟨by rw[Fb.zs_of b1];exact hs,by rw[Fb.zs_of b2];exact hs2,by rw[AG];omega,by rw[AG];omega,.inl (hO (353,349) (by simp)),.inl (hO (218,214) (by simp))⟩,by rw[Fb.zs_of b3];exact hs3,by rw[AG];omega,.inl (hO (395,391) (by simp)),fun H' r hr=>?_⟩
        show L2.Dw K H' (.ref r) (.list ((PyWqbacu.means a.1 a.2.1 a.2.2.1).map WData.int))
        rw[Fb.means_due b1 b2 b3]
        exact .lst (L2.SqL.of hr) (L2.dw_ints _)
